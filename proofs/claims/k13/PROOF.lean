import PyProof.Rows.All
import Wide.All
import OpenK.AllK
import Wide.FinOn
import HandS.ForMost
import HandS.TryOnly
import HandS.IsInst
import HandS.Evl
import HandS.Wide
import HandS.TupAny
import HandS.SortInts
import HandS.Style
import HandS.Strs
import HandS.SetFor
import HandS.Conv
import HandS.More
import HandS.Walk
import HandS.WideBits
import HandS.Property
import HandS.TupLe
import HandS.Defaults
import HandS.Deep
import HandS.RevRange
import PyProof.StrOps2
import HandS.TupMul
import HandS.DictComp
import KE.GoesMore
import KE.SortKeyHeap
import KE.DataCmp
import HandS.SetKeys
import PyProof.DictMoreH
import KE.DataMinMax
import HandS.TupLen
import HandS.HotCalls
import HandS.ExcIs
import HandS.WordsExc
import HandS.DictTup
import PySem.Challenge.RW_crosskeep_k13_bags_hold_messages
set_option Elab.async false
set_option linter.all false
set_option maxRecDepth 100000
set_option maxHeartbeats 4000000

/-! ## readings, one step at a time (a layer of our own over the hand layer) -/
namespace Xk
open PySem PySem.Spec PyProof.Rows L2

section
variable {K : PySem.W.Frag} {σ : L2.St} {H H0 H1 H2 : Hp} {Q : VK} {ta tb tc te : TE} {t u : TT} {D : Ends} {tz tu tw : TS} {g : TG} {x y z v : V} {i j : Int} {b : Bool}

/-! ### values -/
theorem rel_ref {a : Addr} : RelV (.ref a) (.ref a) := rfl
theorem rel_ty {T : String} : RelV (.ty T) (.type T) := rfl
theorem rel_int {tk : Tok} : RelV (.int i) (.int i tk) := ⟨tk, rfl⟩
theorem rel_str {s : Str} {tk : Tok} : RelV (.str s) (.str s tk) := ⟨tk, rfl⟩

/-! ### heaps -/
/-- nothing stands at p -/
structure Fr (p : Addr) (H : Hp) : Prop where
  is : H p = none
theorem same_fr {p : Addr} {o : HO} (h : Fr p H) : Same H (upd H p o) := fun c x e => by
  rw [upd_ne (ne_of_none e h.is)]
  exact e
theorem same_new {p : Addr} {o : HO} (h : H p = none) : Same H (upd H p o) := fun c x e => by
  rw [upd_ne (ne_of_none e h)]
  exact e
theorem same_mut {p : Addr} {o : HO} (e : Same H H1) (h : Fr p H) : Same H (upd H1 p o) := fun c x ha => by
  rw [upd_ne (ne_of_none ha h.is)]
  exact e c x ha
theorem same_at {a : Addr} {o : HO} (e : Same H H1) (h : H a = some o) : H1 a = some o := e a o h
theorem free_back {p : Addr} (h : Fr p H1) (e : Same H H1) : Fr p H := ⟨Same.free e h.is⟩
theorem ne_new {a p : Addr} {o : HO} (h' : Fr p H) (h : H a = some o) : a ≠ p := ne_of_none h h'.is
theorem sq_of {a : Addr} {xs : List V} (h : H a = some (.lst xs)) : SqL K H a xs := Or.inl (Or.inl h)
theorem st_of {a : Addr} {xs : List V} (h : H a = some (.tup xs)) : SqT K H a xs := Or.inl (Or.inl h)
theorem sq_same {a : Addr} {xs : List V} (h : SqL K H a xs) (e : Same H H1) : SqL K H1 a xs := e.seq h
theorem st_same {a : Addr} {xs : List V} (h : SqT K H a xs) (e : Same H H1) : SqT K H1 a xs := by
  rcases h with (h | ⟨o, h⟩) | h
  · exact .inl (.inl (e _ _ h))
  · exact .inl (.inr ⟨o, e _ _ h⟩)
  · exact .inr h
theorem size_ok {n : Nat} (h : n ≤ 100000) : n ≤ sizeLine := Nat.le_trans h (by decide)
theorem size_lt {n : Nat} (h : n < 100000) : n < sizeLine := Nat.lt_of_lt_of_le h (by decide)

/-- all that was tracked but at p is as it was -/
def But (p : Addr) (H H' : Hp) : Prop := ∀ b o, b ≠ p → H b = some o → H' b = some o
theorem But.refl (p : Addr) (H : Hp) : But p H H := fun _ _ _ h => h
theorem but_same {p : Addr} (e : Same H H1) : But p H H1 := fun b o _ h => e b o h
theorem but_trans {p : Addr} (e : But p H H1) (e' : But p H1 H2) : But p H H2 := fun b o n h => e' b o n (e b o n h)
theorem but_mut {p : Addr} {o : HO} (e : But p H H1) : But p H (upd H1 p o) := fun b u n h => by
  rw [upd_ne n]
  exact e b u n h
theorem but_new {p q : Addr} {o : HO} (e : But p H H1) (h : Fr q H) : But p H (upd H1 q o) := fun b u n g => by
  rw [upd_ne (ne_of_none g h.is)]
  exact e b u n g
theorem but_at {p a : Addr} {o : HO} (e : But p H H1) (n : a ≠ p) (h : H a = some o) : H1 a = some o := e a o n h
theorem none_but {p a : Addr} {o u : HO} (h : H p = some o) (e : But p H H1) (h1 : H1 p = some u) (ha : Fr a H1) : Fr a H := by
  refine ⟨?_⟩
  cases q : H a with
  | none => rfl
  | some v =>
    by_cases n : a = p
    · subst n
      rw [ha.is] at h1
      cases h1
    · have := e a v n q
      rw [ha.is] at this
      cases this
theorem fr_upd {p q : Addr} {o : HO} (h : Fr p (upd H q o)) : Fr p H := by
  refine ⟨?_⟩
  have h1 := h.is
  unfold upd at h1
  split at h1
  · cases h1
  · exact h1
theorem same_but {p : Addr} (e : But p H H1) (h : Fr p H0) (e0 : Same H0 H) : Same H0 H1 := fun b o g => e b o (ne_of_none g h.is) (e0 b o g)

/-! ### expressions -/
theorem x_var {n : Nat} (h : σ[n]? = some (some v)) (q : Q v H) : tVar n σ H Q := ⟨v, h, q⟩
theorem x_c (q : Q v H) : tC v σ H Q := q
theorem x_op {r : R2} (q : ta σ H fun x H1 => tb σ H1 fun y H2 => r x y H2 Q) : tOp r ta tb σ H Q := q
theorem x_un {r : V → Hp → VK → Prop} (q : ta σ H fun x H1 => r x H1 Q) : tUn r ta σ H Q := q
theorem x_I0 {f : Int → Int → V} (q : Q (f i j) H) : rI0 f (.int i) (.int j) H Q := ⟨i, j, rfl, rfl, q⟩
theorem x_I {C : Int → Int → Prop} {f : Int → Int → V} (hc : C i j) (q : Q (f i j) H) : rI C f (.int i) (.int j) H Q := ⟨i, j, rfl, rfl, hc, q⟩
theorem x_U {f : Int → V} (q : Q (f i) H) : rU f (.int i) H Q := ⟨i, rfl, q⟩
theorem x_eq (h : scal x y = true) (q : Q (.bl (decide (x = y))) H) : rEq x y H Q := ⟨h, q⟩
theorem x_ne (h : scal x y = true) (q : Q (.bl (!decide (x = y))) H) : rNe x y H Q := ⟨h, q⟩
theorem x_ixL {p : Addr} {xs : List V} (h : SqL K H p xs) (ha : atI xs i = some v) (q : Q v H) : rIxL K (.ref p) (.int i) H Q := ⟨p, xs, i, v, rfl, rfl, h, ha, q⟩
theorem x_ixT {p : Addr} {xs : List V} (h : SqT K H p xs) (ha : atI xs i = some v) (q : Q v H) : rIxT K (.ref p) (.int i) H Q := ⟨p, xs, i, v, rfl, rfl, h, ha, q⟩
theorem x_ixS {w : Str} {c : Nat} (h : w.length ≤ 100000) (ha : atI w.cps.toList i = some c) (q : Q (.str ⟨#[c]⟩) H) : rIxS (.str w) (.int i) H Q := ⟨w, i, c, rfl, rfl, size_ok h, ha, q⟩
theorem x_nil {R : List V → Hp → Prop} (q : R [] H) : tNil σ H R := q
theorem x_cons {tr : TA} {R : List V → Hp → Prop} (q : ta σ H fun x H1 => tr σ H1 fun xs H2 => R (x :: xs) H2) : tCons ta tr σ H R := q
def New (Q : VK) (o : HO) (n : Nat) (H : Hp) : Prop := n ≤ sizeLine ∧ ∀ p, H p = none → Q (.ref p) (upd H p o)
theorem x_lst {tr : TA} (q : tr σ H fun xs H1 => New Q (.lst xs) xs.length H1) : tLst tr σ H Q := q
theorem x_tup {tr : TA} (q : tr σ H fun xs H1 => New Q (.tup xs) xs.length H1) : tTup tr σ H Q := q
/-- what is new is told by what it holds; the heap gets a name -/
theorem x_new {n : Nat} {o : HO} (hl : n ≤ 100000) (k : ∀ p H2, Fr p H → Same H H2 → H2 p = some o → Q (.ref p) H2) : New Q o n H :=
  ⟨size_ok hl, fun p hp => k p _ ⟨hp⟩ (same_new hp) upd_same⟩
theorem x_new1 {o : HO} (k : ∀ p H2, Fr p H → Same H H2 → H2 p = some o → Q (.ref p) H2) : ∀ p, H p = none → Q (.ref p) (upd H p o) :=
  fun p hp => k p _ ⟨hp⟩ (same_new hp) upd_same
theorem x_cb {r : List V → Hp → VK → Prop} {tr : TA} (q : tr σ H fun vs H1 => r vs H1 Q) : tCB r tr σ H Q := q
theorem x_call {sp : Sp} {dvs : List V} {E : XK} {tr : TA} (q : tr σ H fun vs H1 => sp (vs ++ dvs) H1 Q E) : tCall sp dvs E tr σ H Q := q
theorem x_sl {r : V → Option Int → Option Int → Hp → VK → Prop} {tl th : TO} (q : te σ H fun x H1 => tl σ H1 fun l H2 => th σ H2 fun u H3 => r x l u H3 Q) : tSl r te tl th σ H Q := q
theorem x_nopart {R : Option Int → Hp → Prop} (q : R none H) : tNoPart σ H R := q
theorem x_part {R : Option Int → Hp → Prop} (q : te σ H fun x H1 => ∃ i, x = .int i ∧ R (some i) H1) : tPart te σ H R := q
theorem x_if (q : t σ H fun c H1 => if c = true then ta σ H1 Q else tb σ H1 Q) : tIf t ta tb σ H Q := q
theorem x_andV (q : ta σ H fun x H1 => ∃ c, x = .bl c ∧ if c = true then tb σ H1 Q else Q (.bl false) H1) : tAndV ta tb σ H Q := q
theorem x_orV (q : ta σ H fun x H1 => ∃ c, x = .bl c ∧ if c = true then Q (.bl true) H1 else tb σ H1 Q) : tOrV ta tb σ H Q := q
theorem x_notV (q : ta σ H fun x H1 => ∃ c, x = .bl c ∧ Q (.bl (!c)) H1) : tNotV ta σ H Q := q
theorem x_bl {R : Bool → Prop} (q : R b) : ∃ c, V.bl b = .bl c ∧ R c := ⟨b, rfl, q⟩
theorem x_isI {R : Int → Prop} (q : R i) : ∃ c, V.int i = .int c ∧ R c := ⟨i, rfl, q⟩

/-! ### built-ins by names -/
def nInt : List V → Hp → VK → Prop := fun xs H Q => (∃ i, xs = [.int i] ∧ Q (.int i) H) ∨ ∃ k, xs = [.bl k] ∧ Q (.int (if k then 1 else 0)) H
theorem call_nInt {X : Cx} : CallR X (.type "int") nInt := call_int1
theorem x_nInt (q : Q (.int i) H) : nInt [.int i] H Q := .inl ⟨i, rfl, q⟩
theorem x_nIntB (q : Q (.int (if b then 1 else 0)) H) : nInt [.bl b] H Q := .inr ⟨b, rfl, q⟩
def nLen (K : PySem.W.Frag) : List V → Hp → VK → Prop := fun xs H Q => ∃ p ys, xs = [.ref p] ∧ (SqL K H p ys ∨ SqT K H p ys) ∧ Q (.int ys.length) H
theorem call_nLen {X : Cx} : CallR X (.builtin "len") (nLen X.K) := call_len_seq
theorem x_lenL {p : Addr} {ys : List V} (h : SqL K H p ys) (q : Q (.int ys.length) H) : nLen K [.ref p] H Q := ⟨p, ys, rfl, .inl h, q⟩
theorem x_lenT {p : Addr} {ys : List V} (h : SqT K H p ys) (q : Q (.int ys.length) H) : nLen K [.ref p] H Q := ⟨p, ys, rfl, .inr h, q⟩
def nListOf (K : PySem.W.Frag) : List V → Hp → VK → Prop := fun xs H Q => ∃ p ys, xs = [.ref p] ∧ (SqL K H p ys ∨ SqT K H p ys) ∧ ∀ l, H l = none → Q (.ref l) (upd H l (.lst ys))
theorem call_nListOf {X : Cx} : CallR X (.type "list") (nListOf X.K) := call_list_of
theorem x_listL {p : Addr} {ys : List V} (h : SqL K H p ys) (k : ∀ l H2, Fr l H → Same H H2 → H2 l = some (.lst ys) → Q (.ref l) H2) : nListOf K [.ref p] H Q := ⟨p, ys, rfl, .inl h, x_new1 k⟩
theorem x_listT {p : Addr} {ys : List V} (h : SqT K H p ys) (k : ∀ l H2, Fr l H → Same H H2 → H2 l = some (.lst ys) → Q (.ref l) H2) : nListOf K [.ref p] H Q := ⟨p, ys, rfl, .inr h, x_new1 k⟩
def nTupleOf (K : PySem.W.Frag) : List V → Hp → VK → Prop := fun xs H Q => ∃ p ys, xs = [.ref p] ∧ ((SqL K H p ys ∧ ∀ l, H l = none → Q (.ref l) (upd H l (.tup ys))) ∨ (SqT K H p ys ∧ Q (.ref p) H))
theorem call_nTupleOf {X : Cx} : CallR X (.type "tuple") (nTupleOf X.K) := call_tuple_of
theorem x_tupleL {p : Addr} {ys : List V} (h : SqL K H p ys) (k : ∀ l H2, Fr l H → Same H H2 → H2 l = some (.tup ys) → Q (.ref l) H2) : nTupleOf K [.ref p] H Q := ⟨p, ys, rfl, .inl ⟨h, x_new1 k⟩⟩
theorem x_tupleT {p : Addr} {ys : List V} (h : SqT K H p ys) (q : Q (.ref p) H) : nTupleOf K [.ref p] H Q := ⟨p, ys, rfl, .inr ⟨h, q⟩⟩
theorem kit_T {a c : String} (h : kitB a c = some true) : kitB a c = some true := h
theorem kit_F {a c : String} (h : kitB a c = some false) : kitB a c = some false := h
theorem x_isi {c : String} {tt : String} {k : Bool} (ty : TyX K H x (.type tt)) (e : kitB tt c = some k) (q : Q (.bl k) H) : rIsi K [x, .ty c] H Q := ⟨x, .ty c, .type tt, .type c, k, rfl, .ty _, ty, kit_ty e, q⟩
theorem x_isiInt {c : String} {k : Bool} (e : kitB "int" c = some k) (q : Q (.bl k) H) : rIsi K [.int i, .ty c] H Q := x_isi (.base (.int i)) e q
theorem x_isiBl {c : String} {k b : Bool} (e : kitB "bool" c = some k) (q : Q (.bl k) H) : rIsi K [.bl b, .ty c] H Q := x_isi (.base (.bl b)) e q
theorem x_isiStr {c : String} {k : Bool} {s : Str} (e : kitB "str" c = some k) (q : Q (.bl k) H) : rIsi K [.str s, .ty c] H Q := x_isi (.base (.str s)) e q
theorem x_isiNon {c : String} {k : Bool} (e : kitB "NoneType" c = some k) (q : Q (.bl k) H) : rIsi K [.non, .ty c] H Q := x_isi (.base .non) e q
theorem x_isiLst {c : String} {k : Bool} {a : Addr} {xs : List V} (h : H a = some (.lst xs)) (e : kitB "list" c = some k) (q : Q (.bl k) H) : rIsi K [.ref a, .ty c] H Q := x_isi (.base (.lst h)) e q
theorem x_isiTup {c : String} {k : Bool} {a : Addr} {xs : List V} (h : H a = some (.tup xs)) (e : kitB "tuple" c = some k) (q : Q (.bl k) H) : rIsi K [.ref a, .ty c] H Q := x_isi (.base (.tup h)) e q

def nSorted (K : PySem.W.Frag) : List V → Hp → VK → Prop := fun vs H Q => ∃ (a : Addr) (ns : List Int), vs = [V.ref a] ∧ SqL K H a (ns.map V.int) ∧ ns.length < 64 ∧
  ∀ (ns' : List Int) (p : Addr), ns'.Perm ns → ns'.Pairwise (· ≤ ·) → H p = none → Q (.ref p) (upd H p (.lst (ns'.map V.int)))
theorem x_sorted {a : Addr} {ns : List Int} (h : SqL K H a (ns.map V.int)) (hl : ns.length < 64) (k : ∀ p H2 (ns' : List Int), ns'.Perm ns → ns'.Pairwise (· ≤ ·) → Fr p H → Same H H2 → H2 p = some (.lst (ns'.map V.int)) → Q (.ref p) H2) : rSorted K [.ref a] H Q :=
  ⟨a, ns, rfl, h, hl, fun ns' p h1 h2 h3 => k p _ ns' h1 h2 ⟨h3⟩ (same_new h3) upd_same⟩
/-- set(t), t a tuple of ints -/
def rSetOfI (K : PySem.W.Frag) (w : World) : List V → Hp → VK → Prop := fun vs H Q => ∃ (p : Addr) (ns : List Int), vs = [V.ref p] ∧ SqT K H p (ns.map V.int) ∧ ns.length ≤ 1000 ∧ ∀ a n, H a = none → n ≤ ns.length → Q (.ref a) (upd H a (SetO w a (fun j => decide (j ∈ ns)) n))
theorem cr_setOfI {X : Cx} (hc : X.calm = true) : CallR X (.type "set") (rSetOfI X.K X.w) := by
  intro pins s σ H xs us Q I r h
  obtain ⟨p0, ns, rfl, hq, hl, q⟩ := h
  cases r with
  | cons r rr =>
    cases rr
    cases r
    obtain ⟨its, rv, pt, hz⟩ := I.tuple hq
    have hi : IntsAre its.toArray.toList ns := ints_of_vals rv
    have hd := I.ok.hd hc
    refine call_set_tupI ns hd (show s.heap.IsTuple p0 its.toArray from pt) hi (by unfold scanBound; omega) fun h' tk c R1 hcn k => ?_
    exact ⟨.ref _, upd H s.heap.objs.size (SetO X.w s.heap.objs.size (fun j => decide (j ∈ ns)) c), I.laid (t' := tk) k (Nat.le_refl _) (setO_new R1), rfl, q _ _ (I.hok.fresh (Nat.le_refl _)) hcn⟩
theorem x_setOfI {w : World} {p : Addr} {ns : List Int} (h : SqT K H p (ns.map V.int)) (hl : ns.length ≤ 1000) (k : ∀ a H2 n, Fr a H → Same H H2 → H2 a = some (SetO w a (fun j => decide (j ∈ ns)) n) → n ≤ ns.length → Q (.ref a) H2) : rSetOfI K w [.ref p] H Q :=
  ⟨p, ns, rfl, h, hl, fun a n h1 h2 => k a _ n ⟨h1⟩ (same_new h1) upd_same h2⟩
theorem x_sortedSet {w : World} {a : Addr} {S : Int → Bool} {n : Nat} (h : H a = some (SetO w a S n)) (hl : n < 64) (k : ∀ p H2 (ns : List Int), ns.Pairwise (· < ·) → (∀ k : Int, k ∈ ns ↔ S k = true) → ns.length = n → Fr p H → Same H H2 → H2 p = some (.lst (ns.map V.int)) → Q (.ref p) H2) : rSortedSet w [.ref a] H Q :=
  ⟨a, S, n, rfl, h, hl, fun ns p h1 h2 h3 h4 => k p _ ns h1 h2 h3 ⟨h4⟩ (same_new h4) upd_same⟩
theorem x_all {a : Addr} {bs : List Bool} (h : SqL K H a (bs.map V.bl)) (q : Q (.bl (bs.all id)) H) : rAll K [.ref a] H Q := ⟨a, bs, rfl, h, q⟩
theorem x_any {a : Addr} {bs : List Bool} (h : SqL K H a (bs.map V.bl)) (q : Q (.bl (bs.any id)) H) : rAny K [.ref a] H Q := ⟨a, bs, rfl, h, q⟩
theorem x_sum {a : Addr} {ns : List Int} (h : SqL K H a (ns.map V.int)) (q : Q (.int ns.sum) H) : rSum K [.ref a] H Q := ⟨a, ns, rfl, h, q⟩
theorem x_inL {p : Addr} {xs : List V} (h : SqL K H p xs) (hx : flatV x = true) (ha : xs.all flatV = true) (q : Q (.bl (inV x xs)) H) : rIn K false x (.ref p) H Q := ⟨p, xs, rfl, .inl h, hx, ha, q⟩
theorem x_inT {p : Addr} {xs : List V} (h : SqT K H p xs) (hx : flatV x = true) (ha : xs.all flatV = true) (q : Q (.bl (inV x xs)) H) : rIn K false x (.ref p) H Q := ⟨p, xs, rfl, .inr h, hx, ha, q⟩
theorem x_niL {p : Addr} {xs : List V} (h : SqL K H p xs) (hx : flatV x = true) (ha : xs.all flatV = true) (q : Q (.bl (!inV x xs)) H) : rIn K true x (.ref p) H Q := ⟨p, xs, rfl, .inl h, hx, ha, q⟩
theorem x_niT {p : Addr} {xs : List V} (h : SqT K H p xs) (hx : flatV x = true) (ha : xs.all flatV = true) (q : Q (.bl (!inV x xs)) H) : rIn K true x (.ref p) H Q := ⟨p, xs, rfl, .inr h, hx, ha, q⟩
theorem flat_ints : ∀ ns : List Int, (ns.map V.int).all flatV = true
  | [] => rfl
  | n :: r => by
    rw [List.map_cons, List.all_cons, flat_ints r]
    rfl
theorem in_ints (i : Int) : ∀ ns : List Int, inV (.int i) (ns.map V.int) = decide (i ∈ ns)
  | [] => by simp [inV]
  | n :: r => by
    have h := in_ints i r
    unfold inV at h ⊢
    rw [List.map_cons, List.any_cons, h]
    by_cases e : n = i
    · subst e
      simp [eqV]
    · have e' : ¬ i = n := fun z => e z.symm
      simp [eqV, e, e']

def nIsN : R2 := fun x y H Q => y = .non ∧ Q (.bl (decide (x = .non))) H
def nNotN : R2 := fun x y H Q => y = .non ∧ Q (.bl (!decide (x = .non))) H
theorem op_nIsN {X : Cx} : OpR X (compareOp .Is) nIsN := op_isN
theorem op_nNotN {X : Cx} : OpR X (compareOp .IsNot) nNotN := op_notN
theorem x_nIsN (q : Q (.bl (decide (x = .non))) H) : nIsN x .non H Q := ⟨rfl, q⟩
theorem x_nNotN (q : Q (.bl (!decide (x = .non))) H) : nNotN x .non H Q := ⟨rfl, q⟩
def nAndM : R2 := fun x y H Q => ∃ (i : Int) (k : Nat), x = .int i ∧ y = .int (2 ^ k - 1) ∧ Q (.int (i % 2 ^ k)) H
theorem op_nAndM {X : Cx} : OpR X (binaryOp .BitAnd) nAndM := op_andM
theorem x_and255 (q : Q (.int (i % 256)) H) : nAndM (.int i) (.int 255) H Q := ⟨i, 8, rfl, rfl, q⟩

/-! ### the same rules, K told: within a comprehension's block too -/
section
variable {X : Cx} {w : World}
theorem k_in (e : X.K = K) : OpR X (compareOp .In) (rIn K false) := e ▸ op_in_seq
theorem k_enum {e : Expr} {ta : TA} {p pos tpos : Pos} {elts : List Expr} {kk : Nat} (hk : X.K = K) (hg : Gl X "enumerate") (hm : X.mg "enumerate" = none) (ha : PA X [e] ta) (hs : starEach [e] X.env = [(false, eval e X.env)] := by rfl) :
    PI X (.Tuple elts kk tpos) (.Call (.Name "enumerate" p) [e] [] pos) (iEnum K ta) := hk ▸ pi_enum hg hm ha hs
theorem k_gtup {es : List Expr} {k : Nat} {pos : Pos} {gs : TGs} {n : Nat} (hk : X.K = K) (hc : X.calm = true) (h : PGs X es gs)
    (hn : (assignEach es X.env).length = n := by rfl) (hst : (assignEach es X.env).findIdx? (·.1) = none := by rfl) : PG X (.Tuple es k pos) (gTup K n gs) := hk ▸ pg_tup hc h hn hst
theorem k_nin (e : X.K = K) : OpR X (compareOp .NotIn) (rIn K true) := e ▸ op_notIn_seq
theorem k_ixL (e : X.K = K) : IxR X (rIxL K) := e ▸ ix_list
theorem k_ixT (e : X.K = K) : IxR X (rIxT K) := e ▸ ix_tup
theorem k_slL (e : X.K = K) : SlR X (rSlL K) := e ▸ sl_list
theorem k_len (e : X.K = K) : CallR X (.builtin "len") (nLen K) := e ▸ call_nLen
theorem k_list (e : X.K = K) : CallR X (.type "list") (nListOf K) := e ▸ call_nListOf
theorem k_tuple (e : X.K = K) : CallR X (.type "tuple") (nTupleOf K) := e ▸ call_nTupleOf
theorem k_isi (e : X.K = K) : CallR X (.builtin "isinstance") (rIsi K) := e ▸ call_isi
theorem k_all (hc : X.calm = true) (e : X.K = K) : CallR X (.builtin "all") (rAll K) := e ▸ cr_all hc
theorem k_any (hc : X.calm = true) (e : X.K = K) : CallR X (.builtin "any") (rAny K) := e ▸ cr_any hc
theorem k_sum (hc : X.calm = true) (e : X.K = K) : CallR X (.builtin "sum") (rSum K) := e ▸ cr_sum hc
theorem k_sorted (e : X.K = K) : CallR X (.builtin "sorted") (rSorted K) := e ▸ cr_sorted
theorem k_sortedS (e : X.K = K) : CallR X (.builtin "sorted") (rSortedS K) := e ▸ cr_sortedS
theorem k_sortedSet (hc : X.calm = true) (e : X.w = w) : CallR X (.builtin "sorted") (rSortedSet w) := e ▸ cr_sortedSet hc
theorem k_setOfI (hc : X.calm = true) (e : X.K = K) (e' : X.w = w) : CallR X (.type "set") (rSetOfI K w) := e ▸ e' ▸ cr_setOfI hc
theorem k_eqD (hu : X.A.units + 64 < cLine) (e : X.K = K) : OpR X (compareOp .Eq) (rEqD K) := e ▸ op_eqD hu
theorem k_neD (hu : X.A.units + 64 < cLine) (e : X.K = K) : OpR X (compareOp .NotEq) (rNeD K) := e ▸ op_neD hu
end

/-! ### tests -/
theorem x_test {R : Bool → Hp → Prop} (q : te σ H fun x H1 => ∃ k, x = .bl k ∧ R k H1) : tTest te σ H R := q
theorem x_B {R : Bool → Hp → Prop} (q : te σ H fun x H1 => ∃ k, x = .bl k ∧ R k H1) : tB te σ H R := q
theorem x_and {R : Bool → Hp → Prop} (q : t σ H fun c H1 => if c = true then u σ H1 R else R false H1) : tAnd t u σ H R := q
theorem x_or {R : Bool → Hp → Prop} (q : t σ H fun c H1 => if c = true then R true H1 else u σ H1 R) : tOr t u σ H R := q
theorem x_not {R : Bool → Hp → Prop} (q : t σ H fun c H1 => R (!c) H1) : tNot t σ H R := q
theorem x_yes {R : Bool → Hp → Prop} (q : R true H) : tYes σ H R := q
theorem x_chain {r r' : R2} (q : ta σ H fun x H1 => tb σ H1 fun y H2 => r x y H2 fun z H3 => ∃ k, z = .bl k ∧ (if k = true then tc σ H3 fun w' H4 => r' y w' H4 Q else Q (.bl false) H3)) : tChain r r' ta tb tc σ H Q := q
theorem x_itd {p A B : Prop} [Decidable p] (h1 : p → A) (h2 : ¬p → B) : if decide p = true then A else B := by
  by_cases h : p
  · rw [if_pos (decide_eq_true h)]
    exact h1 h
  · rw [if_neg (by rw [decide_eq_false h]; decide)]
    exact h2 h
theorem x_itn {p A B : Prop} [Decidable p] (h1 : ¬p → A) (h2 : p → B) : if (!decide p) = true then A else B := by
  by_cases h : p
  · rw [decide_eq_true h, if_neg (by decide)]
    exact h2 h
  · rw [decide_eq_false h, if_pos (by decide)]
    exact h1 h
theorem x_itb {A B : Prop} (h1 : b = true → A) (h2 : b = false → B) : if b = true then A else B := by
  cases b with
  | true => rw [if_pos rfl]; exact h1 rfl
  | false => rw [if_neg (by decide)]; exact h2 rfl
theorem x_itnb {A B : Prop} (h1 : b = false → A) (h2 : b = true → B) : if (!b) = true then A else B := by
  cases b with
  | true => exact h2 rfl
  | false => exact h1 rfl

theorem x_nT {A B : Prop} (h : B) : if (!true) = true then A else B := h
theorem x_nF {A B : Prop} (h : A) : if (!false) = true then A else B := h
theorem x_dY {p A B : Prop} [Decidable p] (hp : p) (h : A) : if decide p = true then A else B := x_itd (fun _ => h) fun z => absurd hp z
theorem x_dN {p A B : Prop} [Decidable p] (hp : ¬p) (h : B) : if decide p = true then A else B := x_itd (fun z => absurd z hp) fun _ => h
theorem x_ndY {p A B : Prop} [Decidable p] (hp : p) (h : B) : if (!decide p) = true then A else B := x_itn (fun z => absurd hp z) fun _ => h
theorem x_ndN {p A B : Prop} [Decidable p] (hp : ¬p) (h : A) : if (!decide p) = true then A else B := x_itn (fun _ => h) fun z => absurd z hp

/-! ### statements -/
theorem x_seq (q : tu { D with nx := tz D } σ H) : tSeq tu tz D σ H := q
theorem x_sasg {n : Nat} (q : te σ H fun v H1 => tz D (σ.set n (some v)) H1) : tSeq (tAsg te (gName n)) tz D σ H := q
theorem x_asg {n : Nat} (q : te σ H fun v H1 => D.nx (σ.set n (some v)) H1) : tAsg te (gName n) D σ H := q
theorem x_sasgG (q : te σ H fun v H1 => g v σ H1 (tz D)) : tSeq (tAsg te g) tz D σ H := q
theorem x_asgG (q : te σ H fun v H1 => g v σ H1 D.nx) : tAsg te g D σ H := q
theorem x_ret (q : te σ H D.rt) : tRet te D σ H := q
theorem x_retN (q : D.rt .non H) : tRetN D σ H := q
theorem x_next (q : D.nx σ H) : tNext D σ H := q
theorem x_brk (q : D.bk σ H) : tBreak D σ H := q
theorem x_ct (q : D.ct σ H) : tCont D σ H := q
theorem x_sif (q : t σ H fun b H1 => if b = true then tu { D with nx := tz D } σ H1 else tw { D with nx := tz D } σ H1) : tSeq (tIfS t tu tw) tz D σ H := q
theorem x_ifS (q : t σ H fun b H1 => if b = true then tu D σ H1 else tw D σ H1) : tIfS t tu tw D σ H := q
theorem x_sdrop (q : te σ H fun _ H1 => tz D σ H1) : tSeq (tDrop te) tz D σ H := q
theorem x_drop (q : te σ H fun _ H1 => D.nx σ H1) : tDrop te D σ H := q
theorem x_saug {n : Nat} {ti : TIp} (h : σ[n]? = some (some x)) (q : te σ H fun y H1 => ti x y H1 fun z H2 => tz D (σ.set n (some z)) H2) : tSeq (tAug n te ti) tz D σ H := ⟨x, h, q⟩
theorem x_aug {n : Nat} {ti : TIp} (h : σ[n]? = some (some x)) (q : te σ H fun y H1 => ti x y H1 fun z H2 => D.nx (σ.set n (some z)) H2) : tAug n te ti D σ H := ⟨x, h, q⟩
theorem x_ipI {f : Int → Int → Int} (q : Q (.int (f i j)) H) : ipI f (.int i) (.int j) H Q := ⟨i, j, rfl, rfl, q⟩
/-- an if, then the rest: what follows is shown once -/
theorem x_cut (M : L2.St → Hp → Prop) (h : tu { D with nx := M } σ H) (k : ∀ σ' H', M σ' H' → tz D σ' H') : Evl.tCut tu tz D σ H := ⟨M, h, k⟩
theorem x_nocut (h : tu { D with nx := tz D } σ H) : Evl.tCut tu tz D σ H := ⟨_, h, fun _ _ q => q⟩

theorem x_nocutW (h : tSeq (tWhile t tu) tz D σ H) : Evl.tCut (tWhile t tu) tz D σ H := ⟨_, h, fun _ _ q => q⟩

/-! ### targets -/
theorem x_gName {n : Nat} {R : L2.St → Hp → Prop} (q : R (σ.set n (some v)) H) : gName n v σ H R := q
theorem x_gTup {n : Nat} {gs : TGs} {R : L2.St → Hp → Prop} {a : Addr} {xs : List V} (h : SqT K H a xs) (hn : xs.length = n) (q : gs xs σ H R) : gTup K n gs (.ref a) σ H R := ⟨a, xs, rfl, h, hn, q⟩
theorem x_gLst {n : Nat} {gs : TGs} {R : L2.St → Hp → Prop} {a : Addr} {xs : List V} (h : SqL K H a xs) (hn : xs.length = n) (q : gs xs σ H R) : gLst K n gs (.ref a) σ H R := ⟨a, xs, rfl, h, hn, q⟩
theorem x_gCons {gs : TGs} {R : L2.St → Hp → Prop} {vs : List V} (q : g v σ H fun σ' H' => gs vs σ' H' R) : gCons g gs (v :: vs) σ H R := ⟨v, vs, rfl, q⟩
theorem x_gNil {R : L2.St → Hp → Prop} (q : R σ H) : gNil [] σ H R := ⟨rfl, q⟩
theorem x_gSub {to ti : TE} {ts : TSet} {R : L2.St → Hp → Prop} (q : to σ H fun o H1 => ti σ H1 fun i H2 => ts o i v H2 fun H3 => R σ H3) : gSub to ti ts v σ H R := q
theorem ixN_nat {n j : Nat} (hj : j < n) : ixN n (j : Int) = some j := by
  unfold ixN
  rw [if_pos (by omega), if_pos (by omega)]
  simp
theorem ixN_of {n j : Nat} {k : Int} (e : k = (j : Int)) (hj : j < n) : ixN n k = some j := by
  rw [e]
  exact ixN_nat hj
theorem at_nat {α : Type} {xs : List α} {k : Int} {j : Nat} {v : α} (e : k = (j : Int)) (h : xs[j]? = some v) : atI xs k = some v := by
  rw [e]
  exact atI_nat h
theorem at_neg {α : Type} {xs : List α} {k : Int} {j : Nat} {v : α} (hk : k < 0) (e : k + (xs.length : Int) = (j : Int)) (h : xs[j]? = some v) : atI xs k = some v := by
  unfold atI ixN
  rw [if_neg (by omega), if_pos (by omega)]
  have e2 : (k + (xs.length : Int)).toNat = j := by omega
  rw [e2]
  exact h
theorem x_setL {p : Addr} {xs : List V} {k : Int} {j : Nat} {R : Hp → Prop} (h : H p = some (.lst xs)) (hj : ixN xs.length k = some j) (q : R (upd H p (.lst (xs.set j v)))) : rSetL (.ref p) (.int k) v H R := ⟨p, xs, k, j, rfl, rfl, h, hj, q⟩
/-- xs.append(e) -/
theorem x_bm {T : String} {r : V → List V → Hp → VK → Prop} {tr : TA} (q : te σ H fun x H1 => tyV K T x H1 ∧ tr σ H1 fun xs H2 => r x xs H2 Q) : tBM K T r te tr σ H Q := q
theorem x_bm0 {T : String} {r : V → List V → Hp → VK → Prop} (q : te σ H fun x H1 => tyV K T x H1 ∧ r x [] H1 Q) : tBM0 K T r te σ H Q := q
theorem x_tyL {a : Addr} {xs : List V} {P : Prop} (h : SqL K H a xs) (q : P) : tyV K "list" (.ref a) H ∧ P := ⟨.inl ⟨rfl, xs, h⟩, q⟩
theorem x_app {l : Addr} {xs : List V} (h : H l = some (.lst xs)) (hz : xs.length < 100000) (q : Q .non (upd H l (.lst (xs ++ [v])))) : rAppend (.ref l) [v] H Q := ⟨l, xs, v, rfl, rfl, h, size_lt hz, q⟩
theorem x_cat {a c : Addr} {xs ys : List V} (h : H a = some (.lst xs)) (h' : H c = some (.lst ys)) (hz : xs.length + ys.length ≤ 100000) (k : ∀ p H2, Fr p H → Same H H2 → H2 p = some (.lst (xs ++ ys)) → Q (.ref p) H2) : rCat (.ref a) (.ref c) H Q :=
  ⟨a, c, xs, ys, rfl, rfl, h, h', size_ok hz, x_new1 k⟩
theorem x_slL {a : Addr} {xs : List V} {lo hi : Option Int} (h : SqL K H a xs) (k : ∀ p H2, Fr p H → Same H H2 → H2 p = some (.lst (cutV xs lo hi)) → Q (.ref p) H2) : rSlL K (.ref a) lo hi H Q := ⟨a, xs, rfl, h, x_new1 k⟩

/-! ### loops -/
theorem x_forR {n : Nat} (q : te σ H fun x H1 => ∃ m : Int, x = .int m ∧ 0 ≤ m ∧ m ≤ 100000 ∧ ∃ Pv : Nat → L2.St → Hp → Prop, Pv 0 σ H1 ∧
      (∀ (i : Nat) σ' H', (i : Int) < m → Pv i σ' H' → tu { D with nx := Pv (i + 1), ct := Pv (i + 1), bk := D.nx } (σ'.set n (some (.int (i : Int)))) H') ∧ (∀ σ' H', Pv m.toNat σ' H' → D.nx σ' H'))
    (mono : ∀ Q Q' : VK, (∀ v H1, Q v H1 → Q' v H1) → te σ H Q → te σ H Q') : tFor (iRng1 (tCons te tNil)) (gName n) tu D σ H := by
  refine mono _ _ (fun v H1 h => ?_) q
  obtain ⟨m, rfl, h0, h1, Pv, p0, ps, pd⟩ := h
  refine ⟨m, rfl, by omega, by omega, for_range (lo := 0) (n := m.toNat) Pv p0 (fun i σ' H' hi p => ?_) pd⟩
  have e0 : (0 : Int) + (i : Int) = (i : Int) := Int.zero_add _
  show tu { D with nx := Pv (i + 1), ct := Pv (i + 1), bk := D.nx } (σ'.set n (some (.int ((0 : Int) + (i : Int))))) H'
  rw [e0]
  exact ps i σ' H' (by omega) p
def RRange (n : Nat) (m : Int) (tu : TS) (D : Ends) (σ : L2.St) (H : Hp) : Prop := ∃ Pv : Nat → L2.St → Hp → Prop, Pv 0 σ H ∧
      (∀ (i : Nat) σ' H', (i : Int) < m → Pv i σ' H' → tu { D with nx := Pv (i + 1), ct := Pv (i + 1), bk := D.nx } (σ'.set n (some (.int (i : Int)))) H') ∧ (∀ σ' H', Pv m.toNat σ' H' → D.nx σ' H')
def rRange (n : Nat) (tu : TS) (D : Ends) (σ : L2.St) : List V → Hp → Prop := fun vs H => ∃ j : Int, vs = [.int j] ∧ -(2 ^ 62) ≤ j ∧ j < 2 ^ 62 ∧ ∃ W : Nat → Nat → L2.St → Hp → Prop, (∃ m, W 0 m σ H) ∧ ∀ i m σ H, W i m σ H →
  ((Itr 0 j.toNat).stop i H ∧ D.nx σ H) ∨ ((Itr 0 j.toNat).go i H ∧ ∃ N : L2.St → Hp → Prop, (∀ σ' H', N σ' H' → ∃ m', m' < m ∧ W (i + 1) m' σ' H') ∧ ∀ x H', (Itr 0 j.toNat).yld i H x H' → gName n x σ H' fun σ2 H2 => tu { D with nx := N, ct := N, bk := D.nx } σ2 H2)
theorem x_forR1 {n : Nat} {tr : TA} (q : tr σ H (rRange n tu D σ)) : tFor (iRng1 tr) (gName n) tu D σ H := q
theorem x_range {n : Nat} {m : Int} (Pv : Nat → L2.St → Hp → Prop) (hm : 0 ≤ m ∧ m ≤ 100000) (p0 : Pv 0 σ H)
    (ps : ∀ (i : Nat) σ' H', (i : Int) < m → Pv i σ' H' → tu { D with nx := Pv (i + 1), ct := Pv (i + 1), bk := D.nx } (σ'.set n (some (.int (i : Int)))) H') (pd : ∀ σ' H', Pv m.toNat σ' H' → D.nx σ' H') : rRange n tu D σ [.int m] H := by
  refine ⟨m, rfl, by omega, by omega, for_range (lo := 0) (n := m.toNat) Pv p0 (fun i σ' H' hi p => ?_) pd⟩
  have e0 : (0 : Int) + (i : Int) = (i : Int) := Int.zero_add _
  show tu { D with nx := Pv (i + 1), ct := Pv (i + 1), bk := D.nx } (σ'.set n (some (.int ((0 : Int) + (i : Int))))) H'
  rw [e0]
  exact ps i σ' H' (by omega) p
def rForL (K : PySem.W.Frag) (g : TG) (tu : TS) (D : Ends) (σ : L2.St) : VK := fun x H => ∃ a, x = .ref a ∧ (∃ xs, SqL K H a xs) ∧ ∃ W : Nat → Nat → L2.St → Hp → Prop, (∃ m, W 0 m σ H) ∧ ∀ i m σ H, W i m σ H →
  ((Itl K a).stop i H ∧ D.nx σ H) ∨ ((Itl K a).go i H ∧ ∃ N : L2.St → Hp → Prop, (∀ σ' H', N σ' H' → ∃ m', m' < m ∧ W (i + 1) m' σ' H') ∧ ∀ x H', (Itl K a).yld i H x H' → g x σ H' fun σ2 H2 => tu { D with nx := N, ct := N, bk := D.nx } σ2 H2)
theorem x_forL1 (q : te σ H (rForL K g tu D σ)) : tFor (iList K te) g tu D σ H := q
theorem x_forL {a : Addr} {xs : List V} (Pv : Nat → L2.St → Hp → Prop) (hx : SqL K H a xs) (p0 : Pv 0 σ H) (hl : ∀ i σ' H', i ≤ xs.length → Pv i σ' H' → SqL K H' a xs)
    (ps : ∀ i x σ' H', xs[i]? = some x → Pv i σ' H' → g x σ' H' fun σ2 H2 => tu { D with nx := Pv (i + 1), ct := Pv (i + 1), bk := D.nx } σ2 H2) (pd : ∀ σ' H', Pv xs.length σ' H' → D.nx σ' H') : rForL K g tu D σ (.ref a) H :=
  ⟨a, rfl, ⟨xs, hx⟩, for_list Pv p0 hl ps pd⟩
def rForT (K : PySem.W.Frag) (g : TG) (tu : TS) (D : Ends) (σ : L2.St) : VK := fun x H => ∃ a, x = .ref a ∧ (∃ xs, SqT K H a xs) ∧ ∃ W : Nat → Nat → L2.St → Hp → Prop, (∃ m, W 0 m σ H) ∧ ∀ i m σ H, W i m σ H →
  ((Itt K a).stop i H ∧ D.nx σ H) ∨ ((Itt K a).go i H ∧ ∃ N : L2.St → Hp → Prop, (∀ σ' H', N σ' H' → ∃ m', m' < m ∧ W (i + 1) m' σ' H') ∧ ∀ x H', (Itt K a).yld i H x H' → g x σ H' fun σ2 H2 => tu { D with nx := N, ct := N, bk := D.nx } σ2 H2)
theorem x_forT1 (q : te σ H (rForT K g tu D σ)) : tFor (iTup K te) g tu D σ H := q
theorem x_forT {a : Addr} {xs : List V} (Pv : Nat → L2.St → Hp → Prop) (hx : SqT K H a xs) (p0 : Pv 0 σ H) (hl : ∀ i σ' H', i ≤ xs.length → Pv i σ' H' → SqT K H' a xs)
    (ps : ∀ i x σ' H', xs[i]? = some x → Pv i σ' H' → g x σ' H' fun σ2 H2 => tu { D with nx := Pv (i + 1), ct := Pv (i + 1), bk := D.nx } σ2 H2) (pd : ∀ σ' H', Pv xs.length σ' H' → D.nx σ' H') : rForT K g tu D σ (.ref a) H :=
  ⟨a, rfl, ⟨xs, hx⟩, for_tup Pv p0 hl ps pd⟩
/-- while: W by a number that falls -/
def Falls (W : Nat → L2.St → Hp → Prop) (m : Nat) : L2.St → Hp → Prop := fun σ' H' => ∃ m', m' < m ∧ W m' σ' H'
theorem x_while (W : Nat → L2.St → Hp → Prop) (m0 : Nat) (h0 : W m0 σ H) (hs : ∀ m σ' H', W m σ' H' → t σ' H' fun b H1 => if b = true then tu { D with nx := Falls W m, ct := Falls W m, bk := D.nx } σ' H1 else D.nx σ' H1)
    (mono : ∀ (σ' : L2.St) (H' : Hp) (R R' : Bool → Hp → Prop), (∀ y H4, R y H4 → R' y H4) → t σ' H' R → t σ' H' R') : tWhile t tu D σ H :=
  ⟨W, ⟨m0, h0⟩, fun m σ' H' hw => mono _ _ _ _ (fun b H1 q => by
    cases b with
    | true =>
      rw [if_pos rfl] at q ⊢
      exact ⟨Falls W m, fun _ _ h => h, q⟩
    | false =>
      rw [if_neg (by decide)] at q ⊢
      exact q) (hs m σ' H' hw)⟩
def WTurn (W : Nat → L2.St → Hp → Prop) (m : Nat) (tu : TS) (D : Ends) (σ : L2.St) : Bool → Hp → Prop := fun b H1 => if b = true then ∃ N : L2.St → Hp → Prop, (∀ σ' H', N σ' H' → ∃ m', m' < m ∧ W m' σ' H') ∧ tu { D with nx := N, ct := N, bk := D.nx } σ H1 else D.nx σ H1
theorem x_while1 (W : Nat → L2.St → Hp → Prop) (m0 : Nat) (h0 : W m0 σ H) (hs : ∀ m σ' H', W m σ' H' → t σ' H' (WTurn W m tu D σ')) : tWhile t tu D σ H := ⟨W, ⟨m0, h0⟩, hs⟩
theorem x_wT {W : Nat → L2.St → Hp → Prop} {m : Nat} (q : tu { D with nx := Falls W m, ct := Falls W m, bk := D.nx } σ H) : WTurn W m tu D σ true H := by
  unfold WTurn
  rw [if_pos rfl]
  exact ⟨Falls W m, fun _ _ h => h, q⟩
theorem x_wF {W : Nat → L2.St → Hp → Prop} {m : Nat} (q : D.nx σ H) : WTurn W m tu D σ false H := by
  unfold WTurn
  rw [if_neg (by decide)]
  exact q
theorem x_wd {W : Nat → L2.St → Hp → Prop} {m : Nat} {p : Prop} [Decidable p] (h1 : p → WTurn W m tu D σ true H) (h2 : ¬p → WTurn W m tu D σ false H) : WTurn W m tu D σ (decide p) H := by
  by_cases h : p
  · rw [decide_eq_true h]
    exact h1 h
  · rw [decide_eq_false h]
    exact h2 h
theorem x_wn {W : Nat → L2.St → Hp → Prop} {m : Nat} {p : Prop} [Decidable p] (h1 : ¬p → WTurn W m tu D σ true H) (h2 : p → WTurn W m tu D σ false H) : WTurn W m tu D σ (!decide p) H := by
  by_cases h : p
  · rw [decide_eq_true h]
    exact h2 h
  · rw [decide_eq_false h]
    exact h1 h

/-! ### comprehensions -/
def RLc (J : It) (g : TG) (tt : TT) (te : TE) (vs : List Nat) (σ : L2.St) (Q : VK) : Hp → Prop := fun H1 => ∀ D, H1 D = none → ∃ W : Nat → Nat → Hp → Prop, (∃ m, W 0 m (upd H1 D (.lst []))) ∧ ∀ i m H, W i m H →
  (J.stop i H ∧ Q (.ref D) H) ∨ (J.go i H ∧ ∃ Nx : Hp → Prop, (∀ H', Nx H' → ∃ m', m' < m ∧ W (i + 1) m' H') ∧ ∀ x H', J.yld i H x H' → g x (wipe σ vs) H' fun σ2 H2 => wipe σ2 vs = wipe σ vs ∧ tt σ2 H2 fun b H3 =>
    if b = true then te σ2 H3 fun y H4 => ∃ acc, H4 D = some (.lst acc) ∧ acc.length < sizeLine ∧ Nx (upd H4 D (.lst (acc ++ [y]))) else Nx H3)
def rLcL (K : PySem.W.Frag) (g : TG) (tt : TT) (te : TE) (vs : List Nat) (σ : L2.St) (Q : VK) : VK := fun x H1 => ∃ a, x = .ref a ∧ (∃ xs, SqL K H1 a xs) ∧ RLc (Itl K a) g tt te vs σ Q H1
def rLcT (K : PySem.W.Frag) (g : TG) (tt : TT) (te : TE) (vs : List Nat) (σ : L2.St) (Q : VK) : VK := fun x H1 => ∃ a, x = .ref a ∧ (∃ xs, SqT K H1 a xs) ∧ RLc (Itt K a) g tt te vs σ Q H1
def rLcR (g : TG) (tt : TT) (te : TE) (vs : List Nat) (σ : L2.St) (Q : VK) : List V → Hp → Prop := fun xs H1 => ∃ j : Int, xs = [.int j] ∧ -(2 ^ 62) ≤ j ∧ j < 2 ^ 62 ∧ RLc (Itr 0 j.toNat) g tt te vs σ Q H1
theorem x_lcL1 {tx : TE} {vs : List Nat} (q : tx σ H (rLcL K g t te vs σ Q)) : tLc (iList K tx) g t te vs σ H Q := q
theorem x_lcT1 {tx : TE} {vs : List Nat} (q : tx σ H (rLcT K g t te vs σ Q)) : tLc (iTup K tx) g t te vs σ H Q := q
theorem x_lcR1 {tr : TA} {vs : List Nat} (q : tr σ H (rLcR g t te vs σ Q)) : tLc (iRng1 tr) g t te vs σ H Q := q
/-- a list comprehension: Pv of the new list's place, the turn and the heap -/
theorem x_lcL {a : Addr} {xs : List V} {vs : List Nat} (Pv : Addr → Nat → Hp → Prop) (hx : SqL K H a xs) (h0 : ∀ Dl, Fr Dl H → Pv Dl 0 (upd H Dl (.lst []))) (hl : ∀ Dl i H', Fr Dl H → Pv Dl i H' → SqL K H' a xs)
    (hs : ∀ Dl, Fr Dl H → ∀ i x H', xs[i]? = some x → Pv Dl i H' → g x (wipe σ vs) H' fun σ2 H2 => wipe σ2 vs = wipe σ vs ∧ t σ2 H2 fun b H3 =>
      if b = true then te σ2 H3 fun y H4 => ∃ acc, H4 Dl = some (.lst acc) ∧ acc.length < sizeLine ∧ Pv Dl (i + 1) (upd H4 Dl (.lst (acc ++ [y]))) else Pv Dl (i + 1) H3)
    (hd : ∀ Dl H', Fr Dl H → Pv Dl xs.length H' → Q (.ref Dl) H') : rLcL K g t te vs σ Q (.ref a) H := ⟨a, rfl, ⟨xs, hx⟩, fun Dl hD =>
  lc_list (xs := xs) (Pv Dl) (h0 Dl ⟨hD⟩) (fun i H' _ p => hl Dl i H' ⟨hD⟩ p) (fun i x H' hi p => hs Dl ⟨hD⟩ i x H' hi p) (fun H' p => hd Dl H' ⟨hD⟩ p)⟩
theorem x_lcT {a : Addr} {xs : List V} {vs : List Nat} (Pv : Addr → Nat → Hp → Prop) (hx : SqT K H a xs) (h0 : ∀ Dl, Fr Dl H → Pv Dl 0 (upd H Dl (.lst []))) (hl : ∀ Dl i H', Fr Dl H → Pv Dl i H' → SqT K H' a xs)
    (hs : ∀ Dl, Fr Dl H → ∀ i x H', xs[i]? = some x → Pv Dl i H' → g x (wipe σ vs) H' fun σ2 H2 => wipe σ2 vs = wipe σ vs ∧ t σ2 H2 fun b H3 =>
      if b = true then te σ2 H3 fun y H4 => ∃ acc, H4 Dl = some (.lst acc) ∧ acc.length < sizeLine ∧ Pv Dl (i + 1) (upd H4 Dl (.lst (acc ++ [y]))) else Pv Dl (i + 1) H3)
    (hd : ∀ Dl H', Fr Dl H → Pv Dl xs.length H' → Q (.ref Dl) H') : rLcT K g t te vs σ Q (.ref a) H := ⟨a, rfl, ⟨xs, hx⟩, fun Dl hD =>
  lc_tup (xs := xs) (Pv Dl) (h0 Dl ⟨hD⟩) (fun i H' _ p => hl Dl i H' ⟨hD⟩ p) (fun i x H' hi p => hs Dl ⟨hD⟩ i x H' hi p) (fun H' p => hd Dl H' ⟨hD⟩ p)⟩
theorem x_lcR {m : Int} {vs : List Nat} (Pv : Addr → Nat → Hp → Prop) (hm : 0 ≤ m ∧ m ≤ 100000) (h0 : ∀ Dl, Fr Dl H → Pv Dl 0 (upd H Dl (.lst [])))
    (hs : ∀ Dl, Fr Dl H → ∀ (i : Nat) H', (i : Int) < m → Pv Dl i H' → g (.int (i : Int)) (wipe σ vs) H' fun σ2 H2 => wipe σ2 vs = wipe σ vs ∧ t σ2 H2 fun b H3 =>
      if b = true then te σ2 H3 fun y H4 => ∃ acc, H4 Dl = some (.lst acc) ∧ acc.length < sizeLine ∧ Pv Dl (i + 1) (upd H4 Dl (.lst (acc ++ [y]))) else Pv Dl (i + 1) H3)
    (hd : ∀ Dl H', Fr Dl H → Pv Dl m.toNat H' → Q (.ref Dl) H') : rLcR g t te vs σ Q [.int m] H := ⟨m, rfl, by omega, by omega, fun Dl hD =>
  lc_range (lo := 0) (n := m.toNat) (Pv Dl) (h0 Dl ⟨hD⟩) (fun i H' hi p => by
    have e0 : (0 : Int) + (i : Int) = (i : Int) := Int.zero_add _
    rw [e0]
    exact hs Dl ⟨hD⟩ i H' (by omega) p) (fun H' p => hd Dl H' ⟨hD⟩ p)⟩
def rLcE (K : PySem.W.Frag) (g : TG) (tt : TT) (te : TE) (vs : List Nat) (σ : L2.St) (Q : VK) : List V → Hp → Prop := fun vs' H1 => ∃ a xs, vs' = [.ref a] ∧ SqL K H1 a xs ∧ RLc (Ite K a) g tt te vs σ Q H1
theorem x_lcE1 {tr : TA} {vs : List Nat} (q : tr σ H (rLcE K g t te vs σ Q)) : tLc (iEnum K tr) g t te vs σ H Q := q
theorem x_lcE {a : Addr} {xs : List V} {vs : List Nat} (Pv : Addr → Nat → Hp → Prop) (hx : SqL K H a xs) (h0 : ∀ Dl, Fr Dl H → Pv Dl 0 (upd H Dl (.lst []))) (hl : ∀ Dl i H', Fr Dl H → Pv Dl i H' → SqL K H' a xs)
    (hs : ∀ Dl, Fr Dl H → ∀ i x H1 T H', xs[i]? = some x → Pv Dl i H1 → Fr T H1 → Same H1 H' → H' T = some (.tup [.int (i : Nat), x]) → g (.ref T) (wipe σ vs) H' fun σ2 H2 => wipe σ2 vs = wipe σ vs ∧ t σ2 H2 fun b H3 =>
      if b = true then te σ2 H3 fun y H4 => ∃ acc, H4 Dl = some (.lst acc) ∧ acc.length < sizeLine ∧ Pv Dl (i + 1) (upd H4 Dl (.lst (acc ++ [y]))) else Pv Dl (i + 1) H3)
    (hd : ∀ Dl H', Fr Dl H → Pv Dl xs.length H' → Q (.ref Dl) H') : rLcE K g t te vs σ Q [.ref a] H := ⟨a, xs, rfl, hx, fun Dl hD =>
  lc_it walk_enum (Pv Dl) (h0 Dl ⟨hD⟩) (fun i H' _ p => hl Dl i H' ⟨hD⟩ p) (fun i x H1 H' hi p y => by
    obtain ⟨T, u, v, rfl, hT, rfl, e1, e2⟩ := y
    cases Option.some.inj e1
    exact hs Dl ⟨hD⟩ i v H1 T _ e2 p ⟨hT⟩ (same_new hT) upd_same) (fun H' p => hd Dl H' ⟨hD⟩ p)⟩
/-- the end of a turn: what is kept goes into the list -/
def Keep (Dl : Addr) (N : Hp → Prop) : VK := fun y H => ∃ acc, H Dl = some (.lst acc) ∧ acc.length < sizeLine ∧ N (upd H Dl (.lst (acc ++ [y])))
theorem x_keep {Dl : Addr} {N : Hp → Prop} {acc : List V} (h : H Dl = some (.lst acc)) (hz : acc.length < 100000) (q : N (upd H Dl (.lst (acc ++ [y])))) : ∃ acc, H Dl = some (.lst acc) ∧ acc.length < sizeLine ∧ N (upd H Dl (.lst (acc ++ [y]))) := ⟨acc, h, size_lt hz, q⟩
theorem x_wiped {A : Prop} {a b : L2.St} (h : a = b) (q : A) : a = b ∧ A := ⟨h, q⟩
end

/-! ### lists -/
theorem map_at {α β : Type} {f : α → β} {xs : List α} {j : Nat} {x : α} (h : xs[j]? = some x) : (xs.map f)[j]? = some (f x) := by
  rw [List.getElem?_map, h]
  rfl
theorem of_map_at {α β : Type} {f : α → β} {xs : List α} {j : Nat} {y : β} (h : (xs.map f)[j]? = some y) : ∃ x, xs[j]? = some x ∧ y = f x := by
  rw [List.getElem?_map] at h
  obtain ⟨x, hx, rfl⟩ := Option.map_eq_some_iff.mp h
  exact ⟨x, hx, rfl⟩
theorem at_lt {α : Type} {xs : List α} {j : Nat} {x : α} (h : xs[j]? = some x) : j < xs.length := (List.getElem?_eq_some_iff.mp h).1
theorem lt_at {α : Type} {xs : List α} {j : Nat} (h : j < xs.length) : ∃ x, xs[j]? = some x := ⟨xs[j], List.getElem?_eq_getElem h⟩
theorem drop_at {α : Type} {xs : List α} {j : Nat} {x : α} (h : xs[j]? = some x) : xs.drop j = x :: xs.drop (j + 1) := by
  obtain ⟨h1, h2⟩ := List.getElem?_eq_some_iff.mp h
  rw [List.drop_eq_getElem_cons h1, h2]
theorem snoc_map {α β : Type} {f : α → β} {xs : List α} {x : α} : xs.map f ++ [f x] = (xs ++ [x]).map f := by
  rw [List.map_append]
  rfl
theorem mem_snoc {α : Type} {P : α → Prop} {xs : List α} {x : α} (h : ∀ y ∈ xs, P y) (hx : P x) : ∀ y ∈ xs ++ [x], P y := fun y hy => by
  rcases List.mem_append.mp hy with hy | hy
  · exact h y hy
  · rw [List.mem_singleton.mp hy]
    exact hx

def upto (a b : Int) : List Int := (List.range (b - a).toNat).map fun i => a + (i : Nat)
theorem rgV_ints (a b : Int) : rgV a b = (upto a b).map V.int := by
  unfold rgV upto
  rw [List.map_map]
  rfl
theorem upto_len (a b : Int) : (upto a b).length = (b - a).toNat := by
  unfold upto
  rw [List.length_map, List.length_range]
def nRg (Q : VK) : Int → Int → Hp → Prop := fun a b H1 => RgOk a b ∧ ∀ q, H1 q = none → Q (.ref q) (upd H1 q (.lst (rgV a b)))
theorem x_lstRg {σ : L2.St} {H : Hp} {Q : VK} {te : L2.St → Hp → (Int → Int → Hp → Prop) → Prop} (q : te σ H (nRg Q)) : tLstRg te σ H Q := q
theorem x_rg1 {σ : L2.St} {H : Hp} {ta : TE} {R : Int → Int → Hp → Prop} (q : ta σ H fun x H1 => ∃ n, x = .int n ∧ R 0 n H1) : tRg1 ta σ H R := q
theorem x_nRg {H : Hp} {Q : VK} {a b : Int} (h : 0 ≤ a ∧ a ≤ 100000 ∧ 0 ≤ b ∧ b ≤ 100000) (k : ∀ p H2, Fr p H → Same H H2 → H2 p = some (.lst ((upto a b).map V.int)) → Q (.ref p) H2) : nRg Q a b H :=
  ⟨RgOk.of_le (by omega) (by omega) (by omega) (by omega), fun p hp => k p _ ⟨hp⟩ (same_new hp) (by rw [upd_same, rgV_ints])⟩
theorem upto_at {a b : Int} {j : Nat} (h : (j : Int) < b - a) : (upto a b)[j]? = some (a + j) := by
  unfold upto
  rw [List.getElem?_map, List.getElem?_range (by omega)]
  rfl

/-! ### lists of lists of ints -/
/-- at a stands a list of lists of ints: L their places and what they hold -/
def LL (H : Hp) (a : Addr) (L : List (Addr × List Int)) : Prop := H a = some (.lst (L.map fun e => V.ref e.1)) ∧ ∀ e ∈ L, H e.1 = some (.lst (e.2.map V.int))
theorem ll_same {H H' : Hp} {a : Addr} {L : List (Addr × List Int)} (e : Same H H') (h : LL H a L) : LL H' a L := ⟨e _ _ h.1, fun p hp => e _ _ (h.2 p hp)⟩
theorem ll_nil {H : Hp} {a : Addr} (h : H a = some (.lst [])) : LL H a [] := ⟨h, fun _ z => absurd z List.not_mem_nil⟩
theorem ll_snoc {H H' : Hp} {a p : Addr} {ns : List Int} {L : List (Addr × List Int)} (h : LL H a L) (h1 : H' a = some (.lst ((L.map fun e => V.ref e.1) ++ [V.ref p]))) (h2 : H' p = some (.lst (ns.map V.int))) (k : ∀ e ∈ L, H' e.1 = H e.1) : LL H' a (L ++ [(p, ns)]) := by
  refine ⟨?_, fun e he => ?_⟩
  · rw [h1, List.map_append]
    rfl
  · rcases List.mem_append.mp he with he | he
    · rw [k e he]
      exact h.2 e he
    · rw [List.mem_singleton.mp he]
      exact h2

/-! ### data -/
def dInts (ns : List Int) : List PyData := ns.map PyData.int
theorem dp_ints {K : PySem.W.Frag} {H : Hp} : ∀ ns : List Int, DpAll K H (ns.map V.int) (dInts ns)
  | [] => .nil
  | n :: r => .cons (.int n) (dp_ints r)
theorem canLay_ints : ∀ ns : List Int, PyData.canLayAll0 (dInts ns) = true
  | [] => by simp [dInts, PyData.canLayAll0]
  | n :: r => by
    have h := canLay_ints r
    unfold dInts at h ⊢
    rw [List.map_cons]
    simp only [PyData.canLayAll0, PyData.canLay0, h, Bool.and_self]
theorem eqv_ints : ∀ ns ms : List Int, PyData.eqvAll (dInts ns) (dInts ms) = decide (ns = ms)
  | [], [] => by simp [dInts, PyData.eqvAll]
  | [], m :: r => by simp [dInts, PyData.eqvAll]
  | n :: r, [] => by simp [dInts, PyData.eqvAll]
  | n :: r, m :: q => by
    have h := eqv_ints r q
    unfold dInts at h ⊢
    rw [List.map_cons, List.map_cons, PyData.eqvAll, h, PyData.eqv]
    by_cases h1 : n = m <;> by_cases h2 : r = q <;> simp [h1, h2]
theorem canLayAll_map {α : Type} {f : α → PyData} : ∀ (xs : List α), (∀ x ∈ xs, (f x).canLay0 = true) → PyData.canLayAll0 (xs.map f) = true
  | [], _ => by simp [PyData.canLayAll0]
  | x :: r, h => by
    have h1 := h x List.mem_cons_self
    have h2 := canLayAll_map r fun y hy => h y (List.mem_cons_of_mem _ hy)
    rw [List.map_cons]
    simp only [PyData.canLayAll0, h1, h2, Bool.and_self]
theorem depthAll_map {α : Type} {f : α → PyData} {n : Nat} : ∀ (xs : List α), (∀ x ∈ xs, (f x).depth ≤ n) → PyData.depthAll (xs.map f) ≤ n
  | [], _ => by simp [PyData.depthAll]
  | x :: r, h => by
    have h1 := h x List.mem_cons_self
    have h2 := depthAll_map r fun y hy => h y (List.mem_cons_of_mem _ hy)
    rw [List.map_cons, PyData.depthAll]
    omega
theorem depth_ints : ∀ ns : List Int, PyData.depthAll (dInts ns) = 0
  | [] => by simp [dInts, PyData.depthAll]
  | n :: r => by
    have h := depth_ints r
    unfold dInts at h ⊢
    rw [List.map_cons, PyData.depthAll, h, PyData.depth]
    rfl
theorem shaped_lints (ns : List Int) : SeqAt.shaped (.list (dInts ns)) = true := by
  unfold SeqAt.shaped
  rw [PyData.canLay0, canLay_ints, PyData.depth, depth_ints]
  rfl
theorem shaped_tints (ns : List Int) : SeqAt.shaped (.tuple (dInts ns)) = true := by
  unfold SeqAt.shaped
  rw [PyData.canLay0, canLay_ints, PyData.depth, depth_ints]
  rfl
theorem eqv_lints (ns ms : List Int) : PyData.eqv (.list (dInts ns)) (.list (dInts ms)) = decide (ns = ms) := by
  rw [PyData.eqv]
  exact eqv_ints ns ms
theorem eqv_tints (ns ms : List Int) : PyData.eqv (.tuple (dInts ns)) (.tuple (dInts ms)) = decide (ns = ms) := by
  rw [PyData.eqv]
  exact eqv_ints ns ms
theorem shaped_of {d : PyData} (h1 : d.canLay0 = true) (h2 : d.depth ≤ 64) : SeqAt.shaped d = true := by
  unfold SeqAt.shaped
  rw [h1, decide_eq_true h2]
  rfl
theorem canLay_lints (ns : List Int) : PyData.canLay0 (.list (dInts ns)) = true := by
  rw [PyData.canLay0, canLay_ints]
theorem depth_lints (ns : List Int) : PyData.depth (.list (dInts ns)) = 1 := by
  rw [PyData.depth, depth_ints]
/-- lists of lists of ints as data -/
def dLists (ps : List (List Int)) : List PyData := ps.map fun p => .list (dInts p)
theorem canLay_lists (ps : List (List Int)) : PyData.canLayAll0 (dLists ps) = true := canLayAll_map ps fun p _ => canLay_lints p
theorem depth_lists (ps : List (List Int)) : PyData.depthAll (dLists ps) ≤ 1 := depthAll_map ps fun p _ => Nat.le_of_eq (depth_lints p)
theorem dp_list {K : PySem.W.Frag} {H : Hp} : ∀ (L : List (Addr × List Int)), (∀ e ∈ L, H e.1 = some (.lst (e.2.map V.int))) → DpAll K H (L.map fun e => V.ref e.1) (dLists (L.map (·.2)))
  | [], _ => .nil
  | e :: r, h => .cons (.lst (sq_of (h e List.mem_cons_self)) (dp_ints _)) (dp_list r fun x hx => h x (List.mem_cons_of_mem _ hx))
theorem dp_LL {K : PySem.W.Frag} {H : Hp} {a : Addr} {L : List (Addr × List Int)} (h : LL H a L) : Dp K H (.ref a) (.list (dLists (L.map (·.2)))) := .lst (sq_of h.1) (dp_list L h.2)
mutual
theorem dp_same {K : PySem.W.Frag} {H H' : Hp} (e : Same H H') : ∀ (d : PyData) (v : V), Dp K H v d → Dp K H' v d
  | .none, _, h => by cases h; exact .non
  | .bool b, _, h => by cases h; exact .bl b
  | .int i, _, h => by cases h; exact .int i
  | .str x, _, h => by cases h; exact .str x
  | .list ds, _, h => by
    cases h with
    | lst hs ha => exact .lst (sq_same hs e) (dpAll_same e ds _ ha)
  | .tuple ds, _, h => by
    cases h with
    | tup hs ha => exact .tup (st_same hs e) (dpAll_same e ds _ ha)
  | .dict _, _, h => by cases h
theorem dpAll_same {K : PySem.W.Frag} {H H' : Hp} (e : Same H H') : ∀ (ds : List PyData) (vs : List V), DpAll K H vs ds → DpAll K H' vs ds
  | [], _, h => by cases h; exact .nil
  | d :: ds, _, h => by
    cases h with
    | cons h1 h2 => exact .cons (dp_same e d _ h1) (dpAll_same e ds _ h2)
end
/-- equal data -/
theorem x_neSame {K : PySem.W.Frag} {H : Hp} {Q : VK} {x y : V} {d : PyData} (h : Dp K H x d) (h' : Dp K H y d) (c : d.canLay0 = true) (n : d.depth ≤ 64) (q : Q (.bl false) H) : rNeD K x y H Q :=
  ⟨d, d, h, h', shaped_of c n, shaped_of c n, by rw [SeqAt.eqv_refl d c]; exact q⟩
theorem x_eqSame {K : PySem.W.Frag} {H : Hp} {Q : VK} {x y : V} {d : PyData} (h : Dp K H x d) (h' : Dp K H y d) (c : d.canLay0 = true) (n : d.depth ≤ 64) (q : Q (.bl true) H) : rEqD K x y H Q :=
  ⟨d, d, h, h', shaped_of c n, shaped_of c n, by rw [SeqAt.eqv_refl d c]; exact q⟩
section
variable {K : PySem.W.Frag} {H : Hp} {Q : VK} {a c : Addr} {ns ms : List Int}
theorem x_neInts (h : SqL K H a (ns.map V.int)) (h' : SqL K H c (ms.map V.int)) (q : Q (.bl (!decide (ns = ms))) H) : rNeD K (.ref a) (.ref c) H Q :=
  ⟨.list (dInts ns), .list (dInts ms), .lst h (dp_ints ns), .lst h' (dp_ints ms), shaped_lints ns, shaped_lints ms, by rw [eqv_lints]; exact q⟩
theorem x_eqInts (h : SqL K H a (ns.map V.int)) (h' : SqL K H c (ms.map V.int)) (q : Q (.bl (decide (ns = ms))) H) : rEqD K (.ref a) (.ref c) H Q :=
  ⟨.list (dInts ns), .list (dInts ms), .lst h (dp_ints ns), .lst h' (dp_ints ms), shaped_lints ns, shaped_lints ms, by rw [eqv_lints]; exact q⟩
theorem x_neTInts (h : SqT K H a (ns.map V.int)) (h' : SqT K H c (ms.map V.int)) (q : Q (.bl (!decide (ns = ms))) H) : rNeD K (.ref a) (.ref c) H Q :=
  ⟨.tuple (dInts ns), .tuple (dInts ms), .tup h (dp_ints ns), .tup h' (dp_ints ms), shaped_tints ns, shaped_tints ms, by rw [eqv_tints]; exact q⟩
theorem x_eqTInts (h : SqT K H a (ns.map V.int)) (h' : SqT K H c (ms.map V.int)) (q : Q (.bl (decide (ns = ms))) H) : rEqD K (.ref a) (.ref c) H Q :=
  ⟨.tuple (dInts ns), .tuple (dInts ms), .tup h (dp_ints ns), .tup h' (dp_ints ms), shaped_tints ns, shaped_tints ms, by rw [eqv_tints]; exact q⟩
end
end Xk
/-! ## slices stored and deleted, properties, own objects -/
namespace Xk
open PySem PySem.Spec PyProof.Rows L2
section
variable {X : Cx} {o : Expr} {lo hi : Option Expr} {to : TE} {tl th : TO} {pos p2 tpos : Pos}
/-- o[lo:hi] = another list -/
def gSubSl (to : TE) (tl th : TO) : TG := fun v σ H R => to σ H fun x H1 => tl σ H1 fun l H2 => th σ H2 fun u H3 => ∃ (a b : Addr) (xs ys : List V) (i j : Int), x = .ref a ∧ v = .ref b ∧ l = some i ∧ u = some j ∧
  H3 a = some (.lst xs) ∧ H3 b = some (.lst ys) ∧ a ≠ b ∧ 0 ≤ i ∧ i ≤ j ∧ j ≤ xs.length ∧ xs.length + ys.length ≤ sizeLine ∧ R σ (upd H3 a (.lst (xs.take i.toNat ++ ys ++ xs.drop j.toNat)))
theorem pg_subSl (ho : PE X o to) (hl : PO X lo tl) (hu : PO X hi th)
    (ha : ∀ v, assign (.Subscript o (.Slice lo hi none p2) pos) X.env v = (do
      let ov ← holding [v] (eval o X.env)
      let iv ← holding [v, ov] (eval (.Slice lo hi none p2) X.env)
      standAt pos
      holding [v, ov, iv] (setItem ov iv v)
      release [iv, v, ov] []) := by intro _; rfl) : PG X (.Subscript o (.Slice lo hi none p2) pos) (gSubSl to tl th) := by
  refine ⟨fun pins s σ H v u Q I r h => ?_⟩
  rw [ha]
  refine wpAny_bind (wpAny_holding (thn (ho.run pins s σ H _ I h) fun ov s1 ⟨x, H1, I1, r1, q1⟩ => ?_))
  refine wpAny_bind (wpAny_holding ?_)
  refine wpAny_Slice (thn (hl.run pins s1 σ H1 _ I1 q1) fun vl s2 ⟨l, H2, I2, pl, q2⟩ => thn (hu.run pins s2 σ H2 _ I2 q2) fun vu s3 ⟨w, H3, I3, pu, q3⟩ => ?_)
  rw [evalPart_none]
  refine wpAny_pure ?_
  have I4 : Inv X pins σ H3 { s3 with heap := s3.heap.push { cls := .type "slice", data := .fields #[vl, vu, .none] } } := I3.kept (t' := s3.toks) fun b ob q => Heap.get?_push_of_some _ q
  obtain ⟨a, b, xs, ys, i, j, rfl, rfl, rfl, rfl, hA, hB, hne, h0, hij, hj, hz, q⟩ := q3
  cases r1
  cases r
  cases pl with
  | int _ ti =>
  cases pu with
  | int _ tj =>
  refine wpAny_bind (wpAny_standAt (wpAny_bind (wpAny_holding ?_)))
  exact set_slice I4 hA hB hne (Heap.IsSliceOf.new ..) ⟨_, rfl⟩ ⟨_, rfl⟩ h0 hij hj hz fun s' I5 => wpAny_release ⟨σ, _, I5, q⟩

theorem sel_take (f : Nat → Bool) (i n : Nat) (h : ∀ k : Nat, f k = (decide ((i : Int) ≤ (k : Int)) && decide ((k : Int) < (n : Int)) && (((k : Int) - (i : Int)) % 1 == 0))) :
    ∀ (xs : List Value) (m : Nat), m + xs.length ≤ n → (xs.zipIdx m).filterMap (fun (x, k) => if f k then none else some x) = xs.take (i - m)
  | [], m, hm => by simp
  | x :: r, m, hm => by
    rw [List.length_cons] at hm
    have ih := sel_take f i n h r (m + 1) (by omega)
    rw [List.zipIdx_cons, List.filterMap_cons]
    have hf : f m = decide (i ≤ m) := by
      rw [h m]
      by_cases h1 : i ≤ m
      · have h2 : (i : Int) ≤ (m : Int) := by omega
        have h3 : (m : Int) < (n : Int) := by omega
        have h4 : ((m : Int) - (i : Int)) % 1 = 0 := by omega
        rw [h4, decide_eq_true h1, decide_eq_true h2, decide_eq_true h3]
        rfl
      · have h2 : ¬ (i : Int) ≤ (m : Int) := by omega
        rw [decide_eq_false h1, decide_eq_false h2]
        rfl
    by_cases h1 : i ≤ m
    · have e : f m = true := by rw [hf, decide_eq_true h1]
      simp only [e, if_true]
      rw [ih, show i - (m + 1) = 0 by omega, show i - m = 0 by omega]
      rfl
    · have e : f m = false := by rw [hf, decide_eq_false h1]
      simp only [e]
      show x :: _ = _
      rw [ih, show i - m = (i - (m + 1)) + 1 by omega]
      rfl
theorem bounds_from {i n : Nat} (hi : i ≤ n) : sliceBounds (some (i : Int)) none none n = ((i : Int), (n : Int), 1) := by
  simp only [sliceBounds, Option.getD_none]
  have h1 : ¬ ((i : Int) < 0) := by omega
  simp only [h1, if_false, show (1 : Int) > 0 by decide, if_true]
  congr 1
  omega
section
variable {prog : Program} {w : World} {A : Around} {E : Value → Shared → Prop} {s : Shared}
open PySem.P PySem.F in
theorem delItem_tail {l sl : Addr} {items : Array Value} {n : Nat} {vl : Value} {i : Nat} {Q : Unit → Shared → Prop}
    (e : s.heap.get? l = some { cls := .type "list", data := .seq items n }) (hs : s.heap.IsSliceOf sl vl .none .none) (pl : IsPart vl (some (i : Int))) (hi : i ≤ items.size) (hsz : items.size ≤ sizeLine)
    (h : ∀ f : Array Value → Array Value, f items = (items.toList.take i).toArray → Q () { s with heap := s.heap.update l (Obj.mapSeq f) }) :
    wpAny (model prog w) A (delItem (.ref l) (.ref sl)) Q E s := by
  have hl : s.heap.IsList l items := PySem.IsL.isList e
  obtain ⟨os, hos, hcs, hds⟩ := id hs
  have hTs : s.TypeIs (.ref sl) "slice" := ⟨os, hos, hcs⟩
  have hstep : ¬ ((rawPart none == rawInt 0) = true) := Bool.false_ne_true
  unfold delItem
  refine wpAny_holding ?_
  refine wpAny_bind (wpAny_sequenceKey hl.typeIs (by decide) ?_)
  refine wpAny_bind (wpAny_callSpecial?_slot (name := Str.ofString "__delitem__") hl.typeIs PySem.F.slot_list_delitem
    (wpAny_call_entry PySem.F.slot_list_delitem hl.typeIs PySem.F.entry_list_delitem ?_ (PySem.F.args_list_delitem_2 _ _)))
  show wpAny _ _ (Builtin.List.listSubscript? (.ref sl) >>= _) _ _ s
  refine wpAny_bind ?_
  unfold Builtin.List.listSubscript?
  refine wpAny_bind (wpAny_specialOf hTs slice_no_index ?_)
  simp only [Option.isNone_none, if_true]
  refine wpAny_pure ?_
  show wpAny _ _ (typeOf (.ref sl) >>= _) _ _ s
  refine wpAny_bind (wpAny_typeOf hTs ?_)
  first
    | rw [if_neg (by decide)]
    | refine PySem.W.KFB.if_not (by decide) ?_
  rw [listSliceParts_eq]
  refine wpAny_bind (wpAny_bind (wpAny_field hos hds (x := .none) rfl (wpAny_bind (wpAny_listPart .none ?_))))
  rw [if_neg hstep]
  refine wpAny_bind (wpAny_field hos hds (x := vl) rfl (wpAny_bind (wpAny_listPart pl ?_)))
  refine wpAny_bind (wpAny_field hos hds (x := .none) rfl (wpAny_bind (wpAny_listPart .none (wpAny_pure ?_))))
  refine wpAny_bind (m := Builtin.List.listItems (.ref l)) ?_
  unfold Builtin.List.listItems
  refine wpAny_bind (wpAny_seqItems e rfl (wpAny_pure ?_))
  refine wpAny_bind (wpAny_of_eq ((sliceIndices_raw (some (i : Int)) none none items.size (by simp)).trans (congrArg (pure : Int × Int × Int → Sem (Int × Int × Int)) (bounds_from hi))) ?_)
  refine wpAny_bind (wpAny_rule ?_)
  show wpAny _ _ (updateSeq l _ >>= _) _ _ s
  have hf := sel_take _ i items.size (fun k => rfl) items.toList 0 (by simp)
  refine wpAny_bind (wpAny_updateSeq (hz := hsz) (_hz' := ?_) e rfl ?_)
  refine wpAny_bind (wpAny_letGo ?_)
  · exact wpAny_pure ⟨.none, rfl, wpAny_pure (h _ (congrArg List.toArray hf))⟩
  · refine Nat.le_trans (Nat.le_of_eq (congrArg Array.size (congrArg List.toArray hf))) ?_
    rw [List.size_toArray, List.length_take, Array.length_toList]
    omega
end
variable {pins : List (Addr × Obj)}
theorem del_tail {s : Shared} {σ : L2.St} {H : Hp} {l sl : Addr} {xs : List V} {i : Nat} {vl : Value} {Q : Unit → Shared → Prop} (I : Inv X pins σ H s) (hH : H l = some (.lst xs))
    (hs : s.heap.IsSliceOf sl vl .none .none) (pl : IsPart vl (some (i : Int))) (hi : i ≤ xs.length) (h : ∀ s', Inv X pins σ (upd H l (.lst (xs.take i))) s' → Q () s') :
    wpAny (model X.prog X.w) X.A (delItem (.ref l) (.ref sl)) Q X.xe s := by
  obtain ⟨z, its, n, r, hl, e⟩ := I.lstM hH
  refine delItem_tail e hs pl (by rw [List.size_toArray]; omega) (by rw [List.size_toArray]; omega) fun f hf => h _ ?_
  refine I.lset (its' := its.take i) (t' := s.toks) hH e ?_ (r.take i) ?_
  · rw [hf]
  · rw [List.length_take]
    omega
/-- del o[i:] -/
def tDelT (to : TE) (tl : TO) : TS := fun D σ H => to σ H fun x H1 => tl σ H1 fun u H2 => ∃ (l : Addr) (xs : List V) (i : Nat), x = .ref l ∧ u = some (i : Int) ∧ H2 l = some (.lst xs) ∧ i ≤ xs.length ∧ D.nx σ (upd H2 l (.lst (xs.take i)))
theorem ps_delT (ho : PE X o to) (hl : PO X lo tl) : PS X (.Delete [.Subscript o (.Slice lo none none p2) tpos] pos) (tDelT to tl) := by
  refine ⟨fun pins s σ H D I h => ?_⟩
  refine wpAny_Delete (wpAny_deleteEach_cons (wpAny_delete_Subscript (thn (ho.run pins s σ H _ I h) fun u s1 ⟨x, H1, I1, rx, q1⟩ => ?_)))
  refine wpAny_Slice (thn (hl.run pins s1 σ H1 _ I1 q1) fun vl s2 ⟨w, H2, I2, pl, q2⟩ => ?_)
  rw [evalPart_none]
  refine wpAny_pure (wpAny_pure ?_)
  have I4 : Inv X pins σ H2 { s2 with heap := s2.heap.push { cls := .type "slice", data := .fields #[vl, .none, .none] } } := I2.kept (t' := s2.toks) fun b ob q => Heap.get?_push_of_some _ q
  obtain ⟨l, xs, i, rfl, rfl, hA, hi, q⟩ := q2
  cases rx
  exact del_tail I4 hA (Heap.IsSliceOf.new ..) pl hi fun s3 I3 => wpAny_deleteEach_nil ⟨σ, _, I3, q⟩
end
section
variable {K : PySem.W.Frag} {σ σ2 : L2.St} {H H1 H2 : Hp} {Q : VK} {ta tv te te1 : TE} {D : Ends} {tz : TS} {g g1 : TG} {t tt1 : TT} {x v : V}
theorem k_pil {X : Cx} {tg l : Expr} {tl : TE} (e : X.K = K) (h : PE X l tl) : PI X tg l (iList K tl) := e ▸ pi_list h
/-- the inner for of a comprehension -/
def RIn (J : It) (g1 : TG) (tt1 : TT) (te : TE) (vs1 : List Nat) (σ2 : L2.St) (Dl : Addr) (N : Hp → Prop) : Hp → Prop := fun H4 => ∃ W1 : Nat → Nat → Hp → Prop, (∃ m, W1 0 m H4) ∧ ∀ j k H, W1 j k H →
  (J.stop j H ∧ N H) ∨ (J.go j H ∧ ∃ Nx1 : Hp → Prop, (∀ H', Nx1 H' → ∃ k', k' < k ∧ W1 (j + 1) k' H') ∧ ∀ x H', J.yld j H x H' → g1 x (wipe σ2 vs1) H' fun σ3 H5 => wipe σ3 vs1 = wipe σ2 vs1 ∧ tt1 σ3 H5 fun b H6 =>
    if b = true then te σ3 H6 fun y H7 => ∃ acc, H7 Dl = some (.lst acc) ∧ acc.length < sizeLine ∧ Nx1 (upd H7 Dl (.lst (acc ++ [y]))) else Nx1 H6)
def rInL (K : PySem.W.Frag) (g1 : TG) (tt1 : TT) (te : TE) (vs1 : List Nat) (σ2 : L2.St) (Dl : Addr) (N : Hp → Prop) : VK := fun x H4 => ∃ a, x = .ref a ∧ (∃ xs, SqL K H4 a xs) ∧ RIn (Itl K a) g1 tt1 te vs1 σ2 Dl N H4
theorem x_infL {a Dl : Addr} {xs : List V} {vs1 : List Nat} {N : Hp → Prop} (Pv : Nat → Hp → Prop) (hx : SqL K H a xs) (p0 : Pv 0 H) (hl : ∀ i H', Pv i H' → SqL K H' a xs)
    (hs : ∀ i x H', xs[i]? = some x → Pv i H' → g1 x (wipe σ2 vs1) H' fun σ3 H5 => wipe σ3 vs1 = wipe σ2 vs1 ∧ tt1 σ3 H5 fun b H6 => if b = true then te σ3 H6 (fun y H7 => ∃ acc, H7 Dl = some (.lst acc) ∧ acc.length < sizeLine ∧ Pv (i + 1) (upd H7 Dl (.lst (acc ++ [y])))) else Pv (i + 1) H6)
    (hd : ∀ H', Pv xs.length H' → N H') : rInL K g1 tt1 te vs1 σ2 Dl N (.ref a) H := by
  refine ⟨a, rfl, ⟨xs, hx⟩, fun i m H => m = xs.length - i ∧ i ≤ xs.length ∧ Pv i H, ⟨xs.length, by simp, Nat.zero_le _, p0⟩, ?_⟩
  rintro i m H' ⟨rfl, hi, p⟩
  have q := hl i H' p
  by_cases hlt : i < xs.length
  · refine .inr ⟨⟨xs, xs[i], q, by simp [hlt]⟩, Pv (i + 1), fun H' p' => ⟨xs.length - (i + 1), by omega, rfl, hlt, p'⟩, fun x H2 y => ?_⟩
    obtain ⟨e, y⟩ := y
    subst e
    exact hs i x _ (y xs q) p
  · have e : i = xs.length := by omega
    subst e
    exact .inl ⟨⟨xs, q, Nat.le_refl _⟩, hd H' p⟩
/-- the outer for -/
def rLc2L (K : PySem.W.Frag) (g : TG) (te1 : TE) (g1 : TG) (tt1 : TT) (te : TE) (vs vs1 : List Nat) (σ : L2.St) (Q : VK) : VK := fun x H1 => ∃ a, x = .ref a ∧ (∃ xs, SqL K H1 a xs) ∧ ∀ D, H1 D = none → ∃ W : Nat → Nat → Hp → Prop, (∃ m, W 0 m (upd H1 D (.lst []))) ∧ ∀ i m H, W i m H →
  ((Itl K a).stop i H ∧ Q (.ref D) H) ∨ ((Itl K a).go i H ∧ ∃ Nx : Hp → Prop, (∀ H', Nx H' → ∃ m', m' < m ∧ W (i + 1) m' H') ∧ ∀ x H', (Itl K a).yld i H x H' → g x (wipe σ vs) H' fun σ2 H2 => wipe σ2 vs = wipe σ vs ∧
    te1 σ2 H2 (rInL K g1 tt1 te vs1 σ2 D Nx))
theorem x_lc2 {tx : TE} {vs vs1 : List Nat} (q : tx σ H (rLc2L K g te1 g1 tt1 te vs vs1 σ Q)) : tLc2 (iList K tx) g tYes (iList K te1) g1 tt1 te vs vs1 σ H Q := q
theorem x_lc2L {a : Addr} {xs : List V} {vs vs1 : List Nat} (Pv : Addr → Nat → Hp → Prop) (hx : SqL K H a xs) (h0 : ∀ Dl, Fr Dl H → Pv Dl 0 (upd H Dl (.lst []))) (hl : ∀ Dl i H', Fr Dl H → Pv Dl i H' → SqL K H' a xs)
    (hs : ∀ Dl, Fr Dl H → ∀ i x H', xs[i]? = some x → Pv Dl i H' → g x (wipe σ vs) H' fun σ2 H2 => wipe σ2 vs = wipe σ vs ∧ te1 σ2 H2 (rInL K g1 tt1 te vs1 σ2 Dl (Pv Dl (i + 1))))
    (hd : ∀ Dl H', Fr Dl H → Pv Dl xs.length H' → Q (.ref Dl) H') : rLc2L K g te1 g1 tt1 te vs vs1 σ Q (.ref a) H := by
  refine ⟨a, rfl, ⟨xs, hx⟩, fun Dl hD => ⟨fun i m H => m = xs.length - i ∧ i ≤ xs.length ∧ Pv Dl i H, ⟨xs.length, by simp, Nat.zero_le _, h0 Dl ⟨hD⟩⟩, ?_⟩⟩
  rintro i m H' ⟨rfl, hi, p⟩
  have q := hl Dl i H' ⟨hD⟩ p
  by_cases hlt : i < xs.length
  · refine .inr ⟨⟨xs, xs[i], q, by simp [hlt]⟩, Pv Dl (i + 1), fun H' p' => ⟨xs.length - (i + 1), by omega, rfl, hlt, p'⟩, fun x H2 y => ?_⟩
    obtain ⟨e, y⟩ := y
    subst e
    exact hs Dl ⟨hD⟩ i x _ (y xs q) p
  · have e : i = xs.length := by omega
    subst e
    exact .inl ⟨⟨xs, q, Nat.le_refl _⟩, hd Dl H' ⟨hD⟩ p⟩
/-- attributes -/
theorem x_fld {a C dx : Addr} {fs : List (Str × V)} {f : Str} (h : H a = some (.ins C dx fs)) (c : Cls K C) (n : NoAttr K C f) (l : fs.lookup f = some v) (q : Q v H) : (∃ a' C dx fs v, V.ref a = .ref a' ∧ H a' = some (.ins C dx fs) ∧ Cls K C ∧ NoAttr K C f ∧ fs.lookup f = some v ∧ Q v H) :=
  ⟨a, C, dx, fs, v, rfl, h, c, n, l, q⟩
/-- what is read from an instance -/
def rFld (K : PySem.W.Frag) (f : Str) (Q : VK) : VK := fun x H1 => ∃ a C dx fs v, x = .ref a ∧ H1 a = some (.ins C dx fs) ∧ Cls K C ∧ NoAttr K C f ∧ fs.lookup f = some v ∧ Q v H1
theorem x_fld1 {f : Str} (q : ta σ H (rFld K f Q)) : tFld K ta f σ H Q := q
theorem x_rFld {a C dx : Addr} {fs : List (Str × V)} {f : Str} (h : H a = some (.ins C dx fs)) (c : Cls K C) (n : NoAttr K C f) (l : fs.lookup f = some v) (q : Q v H) : rFld K f Q (.ref a) H := ⟨a, C, dx, fs, v, rfl, h, c, n, l, q⟩
def rSetF (K : PySem.W.Frag) (f : Str) (y : V) (R : Hp → Prop) : VK := fun x H2 => ∃ a C dx fs, x = .ref a ∧ H2 a = some (.ins C dx fs) ∧ Cls K C ∧ NoAttr K C f ∧ fs.length < 1000 ∧ R (upd H2 a (.ins C dx (putF f y fs)))
theorem x_sfld {f : Str} (q : tv σ H fun y H1 => ta σ H1 (rSetF K f y (D.nx σ))) : sFld K ta tv f D σ H := q
theorem x_ssfld {f : Str} (q : tv σ H fun y H1 => ta σ H1 (rSetF K f y fun H2 => tz D σ H2)) : tSeq (sFld K ta tv f) tz D σ H := q
theorem x_rSetF {a C dx : Addr} {fs : List (Str × V)} {f : Str} {R : Hp → Prop} (h : H a = some (.ins C dx fs)) (c : Cls K C) (n : NoAttr K C f) (l : fs.length < 1000) (q : R (upd H a (.ins C dx (putF f x fs)))) : rSetF K f x R (.ref a) H := ⟨a, C, dx, fs, rfl, h, c, n, l, q⟩
def rProp (C : Addr) (sp : Sp) (dvs : List V) (E : XK) (Q : VK) : VK := fun x H1 => ∃ a dx fs, x = .ref a ∧ H1 a = some (.ins C dx fs) ∧ sp (.ref a :: dvs) H1 Q E
theorem x_prop {C : Addr} {sp : Sp} {dvs : List V} {E : XK} (q : ta σ H (rProp C sp dvs E Q)) : tProp C sp dvs E ta σ H Q := q
theorem x_rProp {a C dx : Addr} {fs : List (Str × V)} {sp : Sp} {dvs : List V} {E : XK} (h : H a = some (.ins C dx fs)) (q : sp (.ref a :: dvs) H Q E) : rProp C sp dvs E Q (.ref a) H := ⟨a, dx, fs, rfl, h, q⟩
def rMeth (C : Addr) (m : Str) (tr : TA) (sp : Sp) (dvs : List V) (E : XK) (σ : L2.St) (Q : VK) : VK := fun x H1 => ∃ a dx fs, x = .ref a ∧ H1 a = some (.ins C dx fs) ∧ fs.lookup m = none ∧ tr σ H1 fun vs H2 => sp (x :: (vs ++ dvs)) H2 Q E
theorem x_meth {C : Addr} {m : Str} {tr : TA} {sp : Sp} {dvs : List V} {E : XK} (q : ta σ H (rMeth C m tr sp dvs E σ Q)) : tMeth C m sp dvs E ta tr σ H Q := q
theorem x_rMeth {a C dx : Addr} {fs : List (Str × V)} {m : Str} {tr : TA} {sp : Sp} {dvs : List V} {E : XK} (h : H a = some (.ins C dx fs)) (l : fs.lookup m = none) (q : tr σ H fun vs H2 => sp (.ref a :: (vs ++ dvs)) H2 Q E) : rMeth C m tr sp dvs E σ Q (.ref a) H := ⟨a, dx, fs, rfl, h, l, q⟩
def rMake (C : Addr) (sp : Sp) (dvs : List V) (E : XK) (Q : VK) : List V → Hp → Prop := fun vs H1 => ∀ x dx, H1 x = none → H1 dx = none → dx ≠ x → sp (.ref x :: (vs ++ dvs)) (upd (upd H1 dx (.own x)) x (.ins C dx [])) (fun v H2 => v = .non ∧ Q (.ref x) H2) E
theorem x_make {C : Addr} {tr : TA} {sp : Sp} {dvs : List V} {E : XK} (q : tr σ H (rMake C sp dvs E Q)) : tMake C sp dvs E tr σ H Q := q
theorem x_rMake {C : Addr} {sp : Sp} {dvs vs : List V} {E : XK} (k : ∀ x dx H2, Fr x H → Fr dx H → dx ≠ x → Same H H2 → H2 dx = some (.own x) → H2 x = some (.ins C dx []) → sp (.ref x :: (vs ++ dvs)) H2 (fun v H3 => v = .non ∧ Q (.ref x) H3) E) : rMake C sp dvs E Q vs H :=
  fun x dx hx hd hn => k x dx _ ⟨hx⟩ ⟨hd⟩ hn (same_mut (same_fr ⟨hd⟩) ⟨hx⟩) ((upd_ne hn).trans upd_same) upd_same
/-- slices stored and deleted -/
def rDelT (R : Hp → Prop) (l : Addr) (xs : List V) (i : Nat) (u : Option Int) (H2 : Hp) : Prop := u = some (i : Int) ∧ H2 l = some (.lst xs) ∧ i ≤ xs.length ∧ R (upd H2 l (.lst (xs.take i)))
theorem x_delT {to : TE} {tl : TO} (q : to σ H fun x H1 => tl σ H1 fun u H2 => ∃ l xs i, x = .ref l ∧ rDelT (D.nx σ) l xs i u H2) : tDelT to tl D σ H := q
theorem x_sdelT {to : TE} {tl : TO} (q : to σ H fun x H1 => tl σ H1 fun u H2 => ∃ l xs i, x = .ref l ∧ rDelT (fun H3 => tz D σ H3) l xs i u H2) : tSeq (tDelT to tl) tz D σ H := q
theorem x_rDelT {l : Addr} {xs : List V} {i : Nat} {k : Int} {R : Hp → Prop} (e : k = (i : Int)) (h : H l = some (.lst xs)) (hi : i ≤ xs.length) (q : R (upd H l (.lst (xs.take i)))) : ∃ l' xs i', V.ref l = .ref l' ∧ rDelT R l' xs i' (some k) H := ⟨l, xs, i, rfl, by rw [e], h, hi, q⟩
end
end Xk
/-! ## pairs in order, defs with defaults -/
namespace Xk
open PySem PySem.Spec PyProof.Rows L2
/-- the pair (p, q) stands below (r, s) -/
def Bf (p q r s : Int) : Prop := p < r ∨ (p = r ∧ q < s)
instance {p q r s : Int} : Decidable (Bf p q r s) := by unfold Bf; infer_instance
section
variable {X : Cx} {K : PySem.W.Frag} {H : Hp} {Q : VK} {a b : Addr} {p q r s : Int}
theorem pair_in {pins : List (Addr × Obj)} {σ : L2.St} {z : Shared} (I : Inv X pins σ H z) (h : SqT X.K H a [.int p, .int q]) : ∃ t u, z.heap.IsTuple a #[.int p t, .int q u] := by
  obtain ⟨vs, rv, it, _⟩ := I.tuple h
  cases rv with
  | cons x y =>
    cases y with
    | cons y w =>
      cases w
      obtain ⟨t, rfl⟩ := x
      obtain ⟨u, rfl⟩ := y
      exact ⟨t, u, it⟩
theorem eq_ints {A : Around} {z : Shared} (i j : Int) (t u : Tok) : SeqAt.EqAt A z (.int i t) (.int j u) (decide (i = j)) := by
  have h : (i == j) = decide (i = j) := by
    by_cases e : i = j
    · subst e
      simp
    · simp [e]
  rw [← h]
  exact SeqAt.EqAt.int_int _ _ _ _
def rGeP (K : PySem.W.Frag) : R2 := fun x y H Q => ∃ a b p q r s, x = .ref a ∧ y = .ref b ∧ SqT K H a [.int p, .int q] ∧ SqT K H b [.int r, .int s] ∧ Q (.bl (!decide (Bf p q r s))) H
def rLtP (K : PySem.W.Frag) : R2 := fun x y H Q => ∃ a b p q r s, x = .ref a ∧ y = .ref b ∧ SqT K H a [.int p, .int q] ∧ SqT K H b [.int r, .int s] ∧ Q (.bl (decide (Bf p q r s))) H
theorem op_geP (hu : X.A.units < cLine) : OpR X (compareOp .GtE) (rGeP X.K) := by
  intro pins σ0 σ H x y v u Q I rx ry h
  obtain ⟨a, b, p, q, r, s, rfl, rfl, ha, hb, k⟩ := h
  cases rx
  cases ry
  obtain ⟨t1, t2, ia⟩ := pair_in I ha
  obtain ⟨t3, t4, ib⟩ := pair_in I hb
  have R := Ob.RcOp.tuples_ge (e := fun j => if j = 0 then decide (p = r) else decide (q = s)) (r := fun j => if j = 0 then decide (r ≤ p) else decide (s ≤ q)) ia ib hu
    (fun j h1 h2 => match j, h1, h2 with | 0, _, _ => eq_ints _ _ _ _ | 1, _, _ => eq_ints _ _ _ _ | j + 2, z, _ => absurd (show j + 2 < 2 from z) (by omega))
    (fun j h1 h2 _ => match j, h1, h2 with | 0, _, _ => Ob.RcOp.ge_int _ _ _ _ | 1, _, _ => Ob.RcOp.ge_int _ _ _ _ | j + 2, z, _ => absurd (show j + 2 < 2 from z) (by omega))
  refine R X.prog X.w X.xe _ ?_
  have e : Ob.lexAt (fun j => if j = 0 then decide (p = r) else decide (q = s)) (fun j => if j = 0 then decide (r ≤ p) else decide (s ≤ q)) (decide (2 ≥ 2)) 0 2 = !decide (Bf p q r s) := by
    simp only [Ob.lexAt_succ, Ob.lexAt_zero, Bf]
    by_cases h1 : p = r
    · by_cases h2 : q = s
      · simp [h1, h2]
      · by_cases h3 : s ≤ q
        · have h4 : ¬ q < s := by omega
          simp [h1, h2, h3, h4]
        · have h4 : q < s := by omega
          simp [h1, h2, h3, h4]
    · by_cases h3 : r ≤ p
      · have h4 : ¬ p < r := by omega
        simp [h1, h3, h4]
      · have h4 : p < r := by omega
        simp [h1, h3, h4]
  exact ⟨.bl _, H, I, rfl, (congrArg (fun z => Q (.bl z) H) e).mpr k⟩
theorem op_ltP (hu : X.A.units < cLine) : OpR X (compareOp .Lt) (rLtP X.K) := by
  intro pins σ0 σ H x y v u Q I rx ry h
  obtain ⟨a, b, p, q, r, s, rfl, rfl, ha, hb, k⟩ := h
  cases rx
  cases ry
  obtain ⟨t1, t2, ia⟩ := pair_in I ha
  obtain ⟨t3, t4, ib⟩ := pair_in I hb
  have R := Ob.RcOp.tuples_lt (e := fun j => if j = 0 then decide (p = r) else decide (q = s)) (r := fun j => if j = 0 then decide (p < r) else decide (q < s)) ia ib hu
    (fun j h1 h2 => match j, h1, h2 with | 0, _, _ => eq_ints _ _ _ _ | 1, _, _ => eq_ints _ _ _ _ | j + 2, z, _ => absurd (show j + 2 < 2 from z) (by omega))
    (fun j h1 h2 _ => match j, h1, h2 with | 0, _, _ => Ob.RcOp.lt_int _ _ _ _ | 1, _, _ => Ob.RcOp.lt_int _ _ _ _ | j + 2, z, _ => absurd (show j + 2 < 2 from z) (by omega))
  refine R X.prog X.w X.xe _ ?_
  have e : Ob.lexAt (fun j => if j = 0 then decide (p = r) else decide (q = s)) (fun j => if j = 0 then decide (p < r) else decide (q < s)) (decide (2 < 2)) 0 2 = decide (Bf p q r s) := by
    simp only [Ob.lexAt_succ, Ob.lexAt_zero, Bf]
    by_cases h1 : p = r
    · by_cases h2 : q = s
      · simp [h1, h2]
      · by_cases h3 : q < s
        · simp [h1, h2, h3]
        · simp [h1, h2, h3]
    · by_cases h3 : p < r
      · simp [h1, h3]
      · simp [h1, h3]
  exact ⟨.bl _, H, I, rfl, (congrArg (fun z => Q (.bl z) H) e).mpr k⟩
theorem k_geP (hu : X.A.units + 64 < cLine) (e : X.K = K) : OpR X (compareOp .GtE) (rGeP K) := e ▸ op_geP (by omega)
theorem k_ltP (hu : X.A.units + 64 < cLine) (e : X.K = K) : OpR X (compareOp .Lt) (rLtP K) := e ▸ op_ltP (by omega)
theorem x_geP (h : SqT K H a [.int p, .int q]) (h' : SqT K H b [.int r, .int s]) (k : Q (.bl (!decide (Bf p q r s))) H) : rGeP K (.ref a) (.ref b) H Q := ⟨a, b, p, q, r, s, rfl, rfl, h, h', k⟩
theorem x_ltP (h : SqT K H a [.int p, .int q]) (h' : SqT K H b [.int r, .int s]) (k : Q (.bl (decide (Bf p q r s))) H) : rLtP K (.ref a) (.ref b) H Q := ⟨a, b, p, q, r, s, rfl, rfl, h, h', k⟩
def nMax2 : List V → Hp → VK → Prop := fun xs H Q => ∃ i j : Int, xs = [.int i, .int j] ∧ Q (.int (max i j)) H
def nMin2 : List V → Hp → VK → Prop := fun xs H Q => ∃ i j : Int, xs = [.int i, .int j] ∧ Q (.int (min i j)) H
theorem call_nMax2 (hc : X.calm = true) : CallR X (.builtin "max") nMax2 := by
  intro pins s σ H xs us Q I r h
  obtain ⟨i, j, e, q⟩ := h
  refine call_max2 hc pins s σ H xs us Q I r ⟨i, j, e, ?_⟩
  have z : (if j > i then j else i) = max i j := by
    by_cases h : i < j
    · rw [if_pos h]
      omega
    · rw [if_neg h]
      omega
  rw [z]
  exact q
theorem call_nMin2 (hc : X.calm = true) : CallR X (.builtin "min") nMin2 := by
  intro pins s σ H xs us Q I r h
  obtain ⟨i, j, e, q⟩ := h
  refine call_min2 hc pins s σ H xs us Q I r ⟨i, j, e, ?_⟩
  have z : (if j < i then j else i) = min i j := by
    by_cases h : j < i
    · rw [if_pos h]
      omega
    · rw [if_neg h]
      omega
  rw [z]
  exact q
theorem x_nMax2 {i j : Int} (k : Q (.int (max i j)) H) : nMax2 [.int i, .int j] H Q := ⟨i, j, rfl, k⟩
theorem x_nMin2 {i j : Int} (k : Q (.int (min i j)) H) : nMin2 [.int i, .int j] H Q := ⟨i, j, rfl, k⟩
/-- lists and tuples stay, though an own object changes -/
structure Sk (K : PySem.W.Frag) (H H' : Hp) : Prop where
  l : ∀ a xs, SqL K H a xs → SqL K H' a xs
  t : ∀ a xs, SqT K H a xs → SqT K H' a xs
theorem sk_same {H' : Hp} (e : Same H H') : Sk K H H' := ⟨fun _ _ h => sq_same h e, fun _ _ h => st_same h e⟩
theorem Sk.refl (H : Hp) : Sk K H H := ⟨fun _ _ h => h, fun _ _ h => h⟩
theorem Sk.trans {H' H'' : Hp} (e : Sk K H H') (e' : Sk K H' H'') : Sk K H H'' := ⟨fun a xs h => e'.l a xs (e.l a xs h), fun a xs h => e'.t a xs (e.t a xs h)⟩
theorem sk_but {H' : Hp} {C dx : Addr} {fs : List (Str × V)} (hi : H a = some (.ins C dx fs)) (e : But a H H') : Sk K H H' := by
  have key : ∀ b o, H b = some o → (∀ C dx fs, o ≠ .ins C dx fs) → H' b = some o := fun b o hb hn => e b o (fun z => by
    subst z
    exact hn _ _ _ (Option.some.inj (hb.symm.trans hi))) hb
  constructor
  · intro b xs h
    rcases h with (h | ⟨o, h⟩) | h
    · exact .inl (.inl (key _ _ h fun _ _ _ z => by cases z))
    · exact .inl (.inr ⟨o, key _ _ h fun _ _ _ z => by cases z⟩)
    · exact .inr h
  · intro b xs h
    rcases h with (h | ⟨o, h⟩) | h
    · exact .inl (.inl (key _ _ h fun _ _ _ z => by cases z))
    · exact .inl (.inr ⟨o, key _ _ h fun _ _ _ z => by cases z⟩)
    · exact .inr h
mutual
theorem dp_sk {H' : Hp} (e : Sk K H H') : ∀ (d : PyData) (v : V), Dp K H v d → Dp K H' v d
  | .none, _, h => by cases h; exact .non
  | .bool b, _, h => by cases h; exact .bl b
  | .int i, _, h => by cases h; exact .int i
  | .str x, _, h => by cases h; exact .str x
  | .list ds, _, h => by
    cases h with
    | lst hs ha => exact .lst (e.l _ _ hs) (dps_sk e ds _ ha)
  | .tuple ds, _, h => by
    cases h with
    | tup hs ha => exact .tup (e.t _ _ hs) (dps_sk e ds _ ha)
  | .dict _, _, h => by cases h
theorem dps_sk {H' : Hp} (e : Sk K H H') : ∀ (ds : List PyData) (vs : List V), DpAll K H vs ds → DpAll K H' vs ds
  | [], _, h => by cases h; exact .nil
  | d :: ds, _, h => by
    cases h with
    | cons h1 h2 => exact .cons (dp_sk e d _ h1) (dps_sk e ds _ h2)
end
/-- tuples stay -/
structure St (K : PySem.W.Frag) (H H' : Hp) : Prop where
  t : ∀ a xs, SqT K H a xs → SqT K H' a xs
theorem Sk.st {H' : Hp} (e : Sk K H H') : St K H H' := ⟨e.t⟩
theorem St.refl (H : Hp) : St K H H := ⟨fun _ _ h => h⟩
theorem St.trans {H' H'' : Hp} (e : St K H H') (e' : St K H' H'') : St K H H'' := ⟨fun a xs h => e'.t a xs (e.t a xs h)⟩
theorem tt_same {H' : Hp} (e : Same H H') : St K H H' := ⟨fun _ _ h => st_same h e⟩
theorem tt_but {H' : Hp} {o : HO} (hi : H a = some o) (h1 : ∀ xs, o ≠ .tup xs) (h2 : ∀ u xs, o ≠ .frz u (.tup xs)) (e : But a H H') : St K H H' := by
  refine ⟨fun b xs h => ?_⟩
  rcases h with (h | ⟨u, h⟩) | h
  · exact .inl (.inl (e b _ (fun z => by subst z; exact h1 xs (Option.some.inj (hi.symm.trans h))) h))
  · exact .inl (.inr ⟨u, e b _ (fun z => by subst z; exact h2 u xs (Option.some.inj (hi.symm.trans h))) h⟩)
  · exact .inr h
theorem tt_butL {H' : Hp} {ys : List V} (hi : H a = some (.lst ys)) (e : But a H H') : St K H H' := tt_but hi (fun _ z => by cases z) (fun _ _ z => by cases z) e
theorem tt_butO {H' : Hp} {C dx : Addr} {fs : List (Str × V)} (hi : H a = some (.ins C dx fs)) (e : But a H H') : St K H H' := tt_but hi (fun _ z => by cases z) (fun _ _ z => by cases z) e
theorem tt_mutL {o : HO} {ys : List V} (hi : H a = some (.lst ys)) : St K H (upd H a o) := tt_butL hi (but_mut (But.refl _ _))
mutual
/-- none, ints, truth values, texts, and tuples of such -/
def tupD : PyData → Bool
  | .none | .bool _ | .int _ => true
  | .str x => PyData.canLay0 (.str x)
  | .tuple xs => tupDs xs
  | .list _ | .dict _ => false
def tupDs : List PyData → Bool
  | [] => true
  | x :: xs => tupD x && tupDs xs
end
mutual
theorem tupD_lay : ∀ (d : PyData), tupD d = true → d.canLay0 = true
  | .none, _ => rfl
  | .bool _, _ => rfl
  | .int _, _ => rfl
  | .str x, h => h
  | .tuple xs, h => tupDs_lay xs h
  | .list _, h => by cases h
  | .dict _, h => by cases h
theorem tupDs_lay : ∀ (ds : List PyData), tupDs ds = true → PyData.canLayAll0 ds = true
  | [], _ => rfl
  | x :: xs, h => by
    have h2 : (tupD x && tupDs xs) = true := h
    rw [Bool.and_eq_true] at h2
    show (x.canLay0 && PyData.canLayAll0 xs) = true
    rw [tupD_lay x h2.1, tupDs_lay xs h2.2]
    rfl
end
mutual
theorem dp_st {H' : Hp} (e : St K H H') : ∀ (d : PyData) (v : V), tupD d = true → Dp K H v d → Dp K H' v d
  | .none, _, _, h => by cases h; exact .non
  | .bool b, _, _, h => by cases h; exact .bl b
  | .int i, _, _, h => by cases h; exact .int i
  | .str x, _, _, h => by cases h; exact .str x
  | .list ds, _, c, _ => by cases c
  | .tuple ds, _, c, h => by
    cases h with
    | tup hs ha => exact .tup (e.t _ _ hs) (dps_st e ds _ c ha)
  | .dict _, _, _, h => by cases h
theorem dps_st {H' : Hp} (e : St K H H') : ∀ (ds : List PyData) (vs : List V), tupDs ds = true → DpAll K H vs ds → DpAll K H' vs ds
  | [], _, _, h => by cases h; exact .nil
  | d :: ds, _, c, h => by
    have h2 : (tupD d && tupDs ds) = true := c
    rw [Bool.and_eq_true] at h2
    cases h with
    | cons h3 h4 => exact .cons (dp_st e d _ h2.1 h3) (dps_st e ds _ h2.2 h4)
end
/-- packable data at v, not deep -/
def Pk (K : PySem.W.Frag) (H : Hp) (n : Nat) (v : V) (d : PyData) : Prop := Dp K H v d ∧ tupD d = true ∧ d.depth ≤ n
theorem Pk.st {H' : Hp} {n : Nat} {v : V} {d : PyData} (h : Pk K H n v d) (e : St K H H') : Pk K H' n v d := ⟨dp_st e d v h.2.1 h.1, h.2⟩
theorem Pk.sk {H' : Hp} {n : Nat} {v : V} {d : PyData} (h : Pk K H n v d) (e : Sk K H H') : Pk K H' n v d := h.st e.st
theorem Pk.same {H' : Hp} {n : Nat} {v : V} {d : PyData} (h : Pk K H n v d) (e : Same H H') : Pk K H' n v d := h.st (tt_same e)
theorem Pk.mono {n m : Nat} {v : V} {d : PyData} (h : Pk K H n v d) (l : n ≤ m) : Pk K H m v d := ⟨h.1, h.2.1, Nat.le_trans h.2.2 l⟩
theorem Pk.lay {n : Nat} {v : V} {d : PyData} (h : Pk K H n v d) : d.canLay0 = true := tupD_lay d h.2.1
theorem pk_non {n : Nat} : Pk K H n .non .none := ⟨.non, rfl, Nat.zero_le _⟩
theorem pk_int {n : Nat} {i : Int} : Pk K H n (.int i) (.int i) := ⟨.int i, rfl, Nat.zero_le _⟩
theorem pk_str {n : Nat} {x : Str} (h : PyData.canLay0 (.str x) = true := by decide +kernel) : Pk K H n (.str x) (.str x) := ⟨.str x, h, Nat.zero_le _⟩
/-- packable data, one behind another -/
def PkAll (K : PySem.W.Frag) (H : Hp) (n : Nat) (vs : List V) (ds : List PyData) : Prop := DpAll K H vs ds ∧ tupDs ds = true ∧ PyData.depthAll ds ≤ n
theorem PkAll.st {H' : Hp} {n : Nat} {vs : List V} {ds : List PyData} (h : PkAll K H n vs ds) (e : St K H H') : PkAll K H' n vs ds := ⟨dps_st e ds vs h.2.1 h.1, h.2⟩
theorem PkAll.same {H' : Hp} {n : Nat} {vs : List V} {ds : List PyData} (h : PkAll K H n vs ds) (e : Same H H') : PkAll K H' n vs ds := h.st (tt_same e)
theorem PkAll.mono {n m : Nat} {vs : List V} {ds : List PyData} (h : PkAll K H n vs ds) (l : n ≤ m) : PkAll K H m vs ds := ⟨h.1, h.2.1, Nat.le_trans h.2.2 l⟩
theorem PkAll.lay {n : Nat} {vs : List V} {ds : List PyData} (h : PkAll K H n vs ds) : PyData.canLayAll0 ds = true := tupDs_lay ds h.2.1
theorem pk_nil {n : Nat} : PkAll K H n [] [] := ⟨.nil, rfl, Nat.zero_le _⟩
theorem pk_cons {n : Nat} {v : V} {vs : List V} {d : PyData} {ds : List PyData} (h : Pk K H n v d) (h' : PkAll K H n vs ds) : PkAll K H n (v :: vs) (d :: ds) :=
  ⟨.cons h.1 h'.1, by show (tupD d && tupDs ds) = true; rw [h.2.1, h'.2.1]; rfl, by show max _ _ ≤ n; have := h.2.2; have := h'.2.2; omega⟩
theorem PkAll.uncons {n : Nat} {v : V} {vs : List V} {ds : List PyData} (h : PkAll K H n (v :: vs) ds) : ∃ d es, ds = d :: es ∧ Pk K H n v d ∧ PkAll K H n vs es := by
  obtain ⟨h1, h2, h3⟩ := h
  cases h1 with
  | cons a b =>
    rename_i d es
    have h4 : (tupD d && tupDs es) = true := h2
    rw [Bool.and_eq_true] at h4
    have h5 : max d.depth (PyData.depthAll es) ≤ n := h3
    exact ⟨d, es, rfl, ⟨a, h4.1, by omega⟩, ⟨b, h4.2, by omega⟩⟩
theorem pk_snoc {n : Nat} : ∀ {vs : List V} {ds : List PyData} {v : V} {d : PyData}, PkAll K H n vs ds → Pk K H n v d → PkAll K H n (vs ++ [v]) (ds ++ [d])
  | [], ds, v, d, h, h' => by
    obtain ⟨h1, _, _⟩ := h
    cases h1
    exact pk_cons h' pk_nil
  | w :: vs, ds, v, d, h, h' => by
    obtain ⟨e, es, rfl, h1, h2⟩ := h.uncons
    exact pk_cons h1 (pk_snoc h2 h')
theorem PkAll.len {n : Nat} : ∀ {vs : List V} {ds : List PyData}, PkAll K H n vs ds → vs.length = ds.length
  | [], ds, h => by
    obtain ⟨h1, _, _⟩ := h
    cases h1
    rfl
  | w :: vs, ds, h => by
    obtain ⟨e, es, rfl, h1, h2⟩ := h.uncons
    show vs.length + 1 = es.length + 1
    rw [h2.len]
theorem PkAll.take {n : Nat} : ∀ {vs : List V} {ds : List PyData} (k : Nat), PkAll K H n vs ds → PkAll K H n (vs.take k) (ds.take k)
  | vs, ds, 0, h => pk_nil
  | [], ds, k + 1, h => by
    obtain ⟨h1, _, _⟩ := h
    cases h1
    exact pk_nil
  | w :: vs, ds, k + 1, h => by
    obtain ⟨e, es, rfl, h1, h2⟩ := h.uncons
    exact pk_cons h1 (h2.take k)
theorem PkAll.at {n : Nat} : ∀ {vs : List V} {ds : List PyData} {i : Nat} {v : V}, PkAll K H n vs ds → vs[i]? = some v → ∃ d, ds[i]? = some d ∧ Pk K H n v d
  | [], ds, i, v, h, e => by simp at e
  | w :: vs, ds, 0, v, h, e => by
    obtain ⟨d, es, rfl, h1, h2⟩ := h.uncons
    cases (show w = v from Option.some.inj e)
    exact ⟨d, rfl, h1⟩
  | w :: vs, ds, i + 1, v, h, e => by
    obtain ⟨d, es, rfl, h1, h2⟩ := h.uncons
    exact h2.at e
theorem pk_tup {n : Nat} {a : Addr} {vs : List V} {ds : List PyData} (h : SqT K H a vs) (h1 : PkAll K H n vs ds) : Pk K H (n + 1) (.ref a) (.tuple ds) :=
  ⟨.tup h h1.1, h1.2.1, Nat.add_le_add_right h1.2.2 1⟩
theorem pk_tup1 {n : Nat} {a : Addr} {v : V} {d : PyData} (h : SqT K H a [v]) (h1 : Pk K H n v d) : Pk K H (n + 1) (.ref a) (.tuple [d]) := pk_tup h (pk_cons h1 pk_nil)
theorem pk_tup2 {n : Nat} {a : Addr} {v w : V} {d e : PyData} (h : SqT K H a [v, w]) (h1 : Pk K H n v d) (h2 : Pk K H n w e) : Pk K H (n + 1) (.ref a) (.tuple [d, e]) := pk_tup h (pk_cons h1 (pk_cons h2 pk_nil))
theorem pk_tup3 {n : Nat} {a : Addr} {u v w : V} {c d e : PyData} (h : SqT K H a [u, v, w]) (h0 : Pk K H n u c) (h1 : Pk K H n v d) (h2 : Pk K H n w e) : Pk K H (n + 1) (.ref a) (.tuple [c, d, e]) := pk_tup h (pk_cons h0 (pk_cons h1 (pk_cons h2 pk_nil)))
/-- equal data, one way or the other -/
theorem x_nePk {n m : Nat} {x y : V} {d : PyData} (h : Pk K H n x d) (h' : Pk K H m y d) (q : Q (.bl false) H) (l : n ≤ 64 := by decide) : rNeD K x y H Q := x_neSame h.1 h'.1 h.lay (Nat.le_trans h.2.2 l) q
theorem x_eqPk {n m : Nat} {x y : V} {d : PyData} (h : Pk K H n x d) (h' : Pk K H m y d) (q : Q (.bl true) H) (l : n ≤ 64 := by decide) : rEqD K x y H Q := x_eqSame h.1 h'.1 h.lay (Nat.le_trans h.2.2 l) q
theorem lay_list {ds : List PyData} (h : PyData.canLayAll0 ds = true) : PyData.canLay0 (.list ds) = true := h
theorem x_nePkL {n m : Nat} {p q' : Addr} {xs ys : List V} {ds : List PyData} (hp : SqL K H p xs) (hq : SqL K H q' ys) (h : PkAll K H n xs ds) (h' : PkAll K H m ys ds) (q : Q (.bl false) H) (l : n ≤ 63 := by decide) : rNeD K (.ref p) (.ref q') H Q :=
  x_neSame (.lst hp h.1) (.lst hq h'.1) (lay_list h.lay) (Nat.add_le_add_right (Nat.le_trans h.2.2 l) 1) q
theorem x_eqPkL {n m : Nat} {p q' : Addr} {xs ys : List V} {ds : List PyData} (hp : SqL K H p xs) (hq : SqL K H q' ys) (h : PkAll K H n xs ds) (h' : PkAll K H m ys ds) (q : Q (.bl true) H) (l : n ≤ 63 := by decide) : rEqD K (.ref p) (.ref q') H Q :=
  x_eqSame (.lst hp h.1) (.lst hq h'.1) (lay_list h.lay) (Nat.add_le_add_right (Nat.le_trans h.2.2 l) 1) q
theorem u65 {k : Nat} {A : Around} (r : Room k A) : A.units + 65 < cLine := by
  have := r.un
  omega
theorem k_inD (hu : X.A.units + 65 < cLine) (e : X.K = K) : OpR X (compareOp .In) (rInD K) := e ▸ op_inD hu
theorem k_ninD (hu : X.A.units + 65 < cLine) (e : X.K = K) : OpR X (compareOp .NotIn) (rNotInD K) := e ▸ op_notInD hu
/-- whether d is among ds -/
def inD (d : PyData) (ds : List PyData) : Bool := ds.any fun z => PyData.eqv z d
theorem x_inPk {n m : Nat} {x : V} {d : PyData} {xs : List V} {ds : List PyData} (h : Pk K H n x d) (hp : SqL K H a xs) (h' : PkAll K H m xs ds) (k : Q (.bl (inD d ds)) H) (l : n ≤ 64 := by decide) (l' : m ≤ 63 := by decide) : rInD K x (.ref a) H Q :=
  ⟨d, ds, h.1, .lst hp h'.1, shaped_of h.lay (Nat.le_trans h.2.2 l), shaped_of (lay_list h'.lay) (Nat.add_le_add_right (Nat.le_trans h'.2.2 l') 1), k⟩
theorem x_ninPk {n m : Nat} {x : V} {d : PyData} {xs : List V} {ds : List PyData} (h : Pk K H n x d) (hp : SqL K H a xs) (h' : PkAll K H m xs ds) (k : Q (.bl (!inD d ds)) H) (l : n ≤ 64 := by decide) (l' : m ≤ 63 := by decide) : rNotInD K x (.ref a) H Q :=
  ⟨d, ds, h.1, .lst hp h'.1, shaped_of h.lay (Nat.le_trans h.2.2 l), shaped_of (lay_list h'.lay) (Nat.add_le_add_right (Nat.le_trans h'.2.2 l') 1), k⟩
theorem x_inD {x : V} {d : PyData} {ds : List PyData} (h : Dp K H x d) (h' : Dp K H (.ref a) (.list ds)) (c : d.canLay0 = true) (n : d.depth ≤ 64) (c' : PyData.canLay0 (.list ds) = true) (n' : PyData.depth (.list ds) ≤ 64) (k : Q (.bl (inD d ds)) H) : rInD K x (.ref a) H Q :=
  ⟨d, ds, h, h', shaped_of c n, shaped_of c' n', k⟩
theorem x_ninD {x : V} {d : PyData} {ds : List PyData} (h : Dp K H x d) (h' : Dp K H (.ref a) (.list ds)) (c : d.canLay0 = true) (n : d.depth ≤ 64) (c' : PyData.canLay0 (.list ds) = true) (n' : PyData.depth (.list ds) ≤ 64) (k : Q (.bl (!inD d ds)) H) : rNotInD K x (.ref a) H Q :=
  ⟨d, ds, h, h', shaped_of c n, shaped_of c' n', k⟩
/-- a sign some times over -/
def repS (x : Str) (n : Int) : Str := if n < 1 then Str.empty else if (n == 1 || x.length == 0) = true then x else ⟨(List.replicate n.toNat x.cps).foldl (· ++ ·) #[]⟩
def nRepS : R2 := fun x y H Q => ∃ (z : Str) (n : Int), x = .str z ∧ y = .int n ∧ 0 ≤ n ∧ n ≤ 1000 ∧ z.length ≤ 100 ∧ Q (.str (repS z n)) H
theorem op_nRepS : OpR X (binaryOp .Mult) nRepS := by
  intro pins s σ H x y v u Q I rx ry h
  obtain ⟨z, n, rfl, rfl, h0, h1, h2, q⟩ := h
  obtain ⟨t, rfl⟩ := rx
  obtain ⟨t', rfl⟩ := ry
  have hlen : z.length * n.toNat ≤ 100000 := by
    have h3 : n.toNat ≤ 1000 := by omega
    calc z.length * n.toNat ≤ 100 * n.toNat := Nat.mul_le_mul_right _ h2
      _ ≤ 100000 := by omega
  refine PySem.P.mul_str ?_ ?_ ?_ ?_
  · rw [decide_eq_false (by omega), decide_eq_false (by omega)]
    rfl
  · intro h3 _ h4
    have h5 : (1000 : Int) ≤ (2 ^ 63 - 1) / n := by
      rw [Int.le_ediv_iff_mul_le (by omega)]
      omega
    omega
  · intro _ _
    exact decide_eq_false (by unfold sizeLine; omega)
  · unfold repS at q
    by_cases h3 : n < 1
    · rw [if_pos h3] at q ⊢
      exact ⟨by decide, .str Str.empty, H, I.tok _, ⟨_, rfl⟩, q⟩
    · rw [if_neg h3] at q ⊢
      by_cases h4 : (n == 1 || z.length == 0) = true
      · rw [if_pos h4] at q ⊢
        exact ⟨.str z, H, I, ⟨_, rfl⟩, q⟩
      · rw [if_neg h4] at q ⊢
        exact ⟨PySem.fits_reps (decide_eq_false (by unfold sizeLine; omega)), .str _, H, I.tok _, ⟨_, rfl⟩, q⟩
theorem x_nRepS {z : Str} {n : Int} (h : 0 ≤ n ∧ n ≤ 1000) (hz : z.length ≤ 100) (k : Q (.str (repS z n)) H) : nRepS (.str z) (.int n) H Q := ⟨z, n, rfl, rfl, h.1, h.2, hz, k⟩
/-- a range from its end -/
def rRevR (i : Nat) (tu : TS) (D : Ends) (σ : L2.St) : Int → Int → Hp → Prop := fun lo hi H => -(2 ^ 62) ≤ lo ∧ lo < 2 ^ 62 ∧ -(2 ^ 62) ≤ hi ∧ hi < 2 ^ 62 ∧ ∃ W : Nat → Nat → L2.St → Hp → Prop, (∃ m, W 0 m σ H) ∧ ∀ j m σ H, W j m σ H →
  ((Itc (lo + (((hi - lo).toNat : Nat) : Int) - 1) (-1) (hi - lo).toNat).stop j H ∧ D.nx σ H) ∨ ((Itc (lo + (((hi - lo).toNat : Nat) : Int) - 1) (-1) (hi - lo).toNat).go j H ∧ ∃ N : L2.St → Hp → Prop, (∀ σ' H', N σ' H' → ∃ m', m' < m ∧ W (j + 1) m' σ' H') ∧
    ∀ x H', (Itc (lo + (((hi - lo).toNat : Nat) : Int) - 1) (-1) (hi - lo).toNat).yld j H x H' → gName i x σ H' fun σ2 H2 => tu { D with nx := N, ct := N, bk := D.nx } σ2 H2)
theorem x_forRev1 {i : Nat} {tu : TS} {D : Ends} {σ : L2.St} {tr : L2.St → Hp → (Int → Int → Hp → Prop) → Prop} (q : tr σ H (rRevR i tu D σ)) : tFor (iRevR tr) (gName i) tu D σ H := q
theorem x_forRev {i : Nat} {tu : TS} {D : Ends} {σ : L2.St} {m : Int} (Pv : Nat → L2.St → Hp → Prop) (hm : 0 ≤ m ∧ m ≤ 100000) (p0 : Pv 0 σ H)
    (ps : ∀ (j : Nat) σ' H', (j : Int) < m → Pv j σ' H' → tu { D with nx := Pv (j + 1), ct := Pv (j + 1), bk := D.nx } (σ'.set i (some (.int (m - 1 - j)))) H') (pd : ∀ σ' H', Pv m.toNat σ' H' → D.nx σ' H') : rRevR i tu D σ 0 m H := by
  have e : (m - 0).toNat = m.toNat := by omega
  refine ⟨by omega, by omega, by omega, by omega, ?_⟩
  rw [e]
  refine for_rangeC (n := m.toNat) Pv p0 (fun j σ' H' hj p => ?_) pd
  have e0 : (0 : Int) + ((m.toNat : Nat) : Int) - 1 + (j : Nat) * (-1) = m - 1 - j := by omega
  show tu { D with nx := Pv (j + 1), ct := Pv (j + 1), bk := D.nx } (σ'.set i (some (.int ((0 : Int) + ((m.toNat : Nat) : Int) - 1 + (j : Nat) * (-1))))) H'
  rw [e0]
  exact ps j σ' H' (by omega) p
theorem cut_take {xs : List V} {k : Int} {n : Nat} (e : k = (n : Int)) : cutV xs none (some k) = xs.take n := by
  subst e
  unfold cutV
  rw [HT.sIx_nat, HT.sIx_none, List.drop_zero, Nat.sub_zero]
  by_cases h : n ≤ xs.length
  · rw [show min n xs.length = n by omega]
  · rw [show min n xs.length = xs.length by omega, List.take_length, List.take_of_length_le (by omega)]
theorem cut_drop {xs : List V} {k : Int} {n : Nat} (e : k = (n : Int)) : cutV xs (some k) none = xs.drop n := by
  subst e
  unfold cutV
  rw [HT.sIx_nat, HT.sIx_none]
  by_cases h : n ≤ xs.length
  · rw [show min n xs.length = n by omega, List.take_of_length_le (by rw [List.length_drop]; omega)]
  · rw [show min n xs.length = xs.length by omega, List.drop_length, List.drop_of_length_le (by omega)]
    simp
/-- range(lo, hi) -/
def rRange2 (n : Nat) (tu : TS) (D : Ends) (σ : L2.St) : List V → Hp → Prop := fun vs H => ∃ i j : Int, vs = [.int i, .int j] ∧ (-(2 ^ 62) ≤ i ∧ i < 2 ^ 62 ∧ -(2 ^ 62) ≤ j ∧ j < 2 ^ 62) ∧ ∃ W : Nat → Nat → L2.St → Hp → Prop, (∃ m, W 0 m σ H) ∧ ∀ k m σ H, W k m σ H →
  ((Itr i (j - i).toNat).stop k H ∧ D.nx σ H) ∨ ((Itr i (j - i).toNat).go k H ∧ ∃ N : L2.St → Hp → Prop, (∀ σ' H', N σ' H' → ∃ m', m' < m ∧ W (k + 1) m' σ' H') ∧ ∀ x H', (Itr i (j - i).toNat).yld k H x H' → gName n x σ H' fun σ2 H2 => tu { D with nx := N, ct := N, bk := D.nx } σ2 H2)
theorem x_forR2 {n : Nat} {tu : TS} {D : Ends} {σ : L2.St} {tr : TA} (q : tr σ H (rRange2 n tu D σ)) : tFor (iRng2 tr) (gName n) tu D σ H := q
theorem x_range2 {n : Nat} {tu : TS} {D : Ends} {σ : L2.St} {lo hi : Int} (Pv : Nat → L2.St → Hp → Prop) (hm : -1000000 ≤ lo ∧ lo ≤ 1000000 ∧ -1000000 ≤ hi ∧ hi ≤ 1000000) (p0 : Pv 0 σ H)
    (ps : ∀ (k : Nat) σ' H', lo + (k : Int) < hi → Pv k σ' H' → tu { D with nx := Pv (k + 1), ct := Pv (k + 1), bk := D.nx } (σ'.set n (some (.int (lo + (k : Int))))) H') (pd : ∀ σ' H', Pv (hi - lo).toNat σ' H' → D.nx σ' H') : rRange2 n tu D σ [.int lo, .int hi] H :=
  ⟨lo, hi, rfl, ⟨by omega, by omega, by omega, by omega⟩, for_range (lo := lo) (n := (hi - lo).toNat) Pv p0 (fun k σ' H' hk p => ps k σ' H' (by omega) p) pd⟩
theorem pk_ints {n : Nat} : ∀ ns : List Int, PkAll K H n (ns.map V.int) (ns.map PyData.int)
  | [] => pk_nil
  | m :: r => pk_cons pk_int (pk_ints r)
/-! dicts whose keys are texts -/
def rDG (x : V) (Q : VK) : VK := fun y H2 => ∃ (a : Addr) (v : V), x = .ref a ∧ DGet H2 a y (some v) ∧ Q v H2
theorem x_dget {td ty : TE} {σ : L2.St} (q : td σ H fun x H1 => ty σ H1 (rDG x Q)) : tDGet td ty σ H Q := q
theorem x_rDG {kvs : List (Key × V)} {k : Str} {v : V} (h : H a = some (.dK kvs)) (e : valV kvs (Sum.inr k) = some v) (q : Q v H) : rDG (.ref a) Q (.str k) H := ⟨a, v, rfl, by rw [← e]; exact (DGet.k (k := Sum.inr k) h : DGet H a (kV (Sum.inr k)) (valV kvs (Sum.inr k))), q⟩
def rDP (x v : V) (R : Hp → Prop) : VK := fun y H3 => ∃ (a : Addr) (H4 : Hp), x = .ref a ∧ DPut H3 a y v H4 ∧ R H4
theorem x_sdput {td ty tv : TE} {D : Ends} {σ : L2.St} {tz : TS} (q : tv σ H fun v H1 => td σ H1 fun x H2 => ty σ H2 (rDP x v fun H4 => tz D σ H4)) : tSeq (sDPut td ty tv) tz D σ H := q
theorem x_dput {td ty tv : TE} {D : Ends} {σ : L2.St} (q : tv σ H fun v H1 => td σ H1 fun x H2 => ty σ H2 (rDP x v fun H4 => D.nx σ H4)) : sDPut td ty tv D σ H := q
theorem x_rDP {kvs kvs' : List (Key × V)} {k : Str} {v : V} {R : Hp → Prop} (h : H a = some (.dK kvs)) (hl : kvs.length < 1000) (e : putK kvs (Sum.inr k) v = kvs') (q : R (upd H a (.dK kvs'))) : rDP (.ref a) v R (.str k) H :=
  ⟨a, upd H a (.dK (putK kvs (Sum.inr k) v)), rfl, (DPut.k (k := Sum.inr k) h (small1000 (Nat.le_of_lt hl)) : DPut H a (kV (Sum.inr k)) v _), by rw [e]; exact q⟩
theorem x_disp {trs : List (TE × TE)} {σ : L2.St} (q : ∀ p, Fr p H → tPairs trs σ (upd H p (.dK [])) fun ps H2 => H2 p = some (.dK []) ∧ ∃ kvs : List (Key × V), ps = kvs.map (fun kv => (kV kv.1, kv.2)) ∧ kvs.length ≤ 15 ∧ Q (.ref p) (upd H2 p (.dK (mergeK [] kvs)))) : tDisp trs σ H Q := fun p hp => q p ⟨hp⟩
theorem x_pcons {tk tv : TE} {r : List (TE × TE)} {σ : L2.St} {R : List (V × V) → Hp → Prop} (q : tk σ H fun x H1 => tv σ H1 fun y H2 => tPairs r σ H2 fun ps H3 => R ((x, y) :: ps) H3) : tPairs ((tk, tv) :: r) σ H R := q
theorem x_pnil {σ : L2.St} {R : List (V × V) → Hp → Prop} (q : R [] H) : tPairs [] σ H R := q
/-! lists of ints sorted where they stand -/
theorem x_rSortI {ns : List Int} (h : H a = some (.lst (ns.map V.int))) (k : ∀ ns' : List Int, ns'.Perm ns → ns'.Pairwise (· ≤ ·) → Q .non (upd H a (.lst (ns'.map V.int)))) : rSortI (.ref a) [] H Q := ⟨a, ns, rfl, rfl, h, k⟩
theorem srt_eq {xs ys : List Int} (p : xs.Perm ys) (h1 : xs.Pairwise (· ≤ ·)) (h2 : ys.Pairwise (· ≤ ·)) : xs = ys := p.eq_of_pairwise (fun x y _ _ h h' => Int.le_antisymm h h') h1 h2
/-! texts -/
def nInS : R2 := fun x y H Q => ∃ (c : Nat) (z : Str), x = .str ⟨#[c]⟩ ∧ y = .str z ∧ Q (.bl (decide (c ∈ z.cps.toList))) H
def nNotInS : R2 := fun x y H Q => ∃ (c : Nat) (z : Str), x = .str ⟨#[c]⟩ ∧ y = .str z ∧ Q (.bl (!decide (c ∈ z.cps.toList))) H
theorem op_nInS : OpR X (compareOp .In) nInS := op_in_sign
theorem op_nNotInS : OpR X (compareOp .NotIn) nNotInS := op_notIn_sign
theorem x_inS {c : Nat} {z : Str} (q : Q (.bl (decide (c ∈ z.cps.toList))) H) : nInS (.str ⟨#[c]⟩) (.str z) H Q := ⟨c, z, rfl, rfl, q⟩
theorem x_notInS {c : Nat} {z : Str} (q : Q (.bl (!decide (c ∈ z.cps.toList))) H) : nNotInS (.str ⟨#[c]⟩) (.str z) H Q := ⟨c, z, rfl, rfl, q⟩
def nAddS : R2 := fun x y H Q => ∃ i j : Str, x = .str i ∧ y = .str j ∧ i.length + j.length ≤ sizeLine ∧ Q (.str (i ++ j)) H
theorem op_nAddS : OpR X (binaryOp .Add) nAddS := op_add_str
theorem x_nAddS {i j : Str} (h : i.length + j.length ≤ 100000) (q : Q (.str (i ++ j)) H) : nAddS (.str i) (.str j) H Q := ⟨i, j, rfl, rfl, size_ok h, q⟩
def nLenS : List V → Hp → VK → Prop := fun xs H Q => ∃ z : Str, xs = [.str z] ∧ z.length ≤ sizeLine ∧ Q (.int z.length) H
theorem call_nLenS : CallR X (.builtin "len") nLenS := call_len_str
theorem x_nLenS {z : Str} (h : z.length ≤ 100000) (q : Q (.int z.length) H) : nLenS [.str z] H Q := ⟨z, rfl, size_ok h, q⟩
theorem x_slS {z : Str} {lo hi : Option Int} (h : z.length ≤ 100000) (q : Q (.str (cutS z lo hi)) H) : rSlS (.str z) lo hi H Q := ⟨z, rfl, size_ok h, q⟩
def rLcS (g : TG) (tt : TT) (te : TE) (vs : List Nat) (σ : L2.St) (Q : VK) : VK := fun x H1 => ∃ z, x = .str z ∧ RLc (Its z) g tt te vs σ Q H1
theorem x_lcS1 {g : TG} {t : TT} {te tx : TE} {vs : List Nat} {σ : L2.St} (q : tx σ H (rLcS g t te vs σ Q)) : tLc (iStr tx) g t te vs σ H Q := q
theorem x_lcS {g : TG} {t : TT} {te : TE} {vs : List Nat} {σ : L2.St} {z : Str} (Pv : Addr → Nat → Hp → Prop) (h0 : ∀ Dl, Fr Dl H → Pv Dl 0 (upd H Dl (.lst [])))
    (hs : ∀ Dl, Fr Dl H → ∀ i c H', z.cps.toList[i]? = some c → Pv Dl i H' → g (.str ⟨#[c]⟩) (wipe σ vs) H' fun σ2 H2 => wipe σ2 vs = wipe σ vs ∧ t σ2 H2 fun b H3 =>
      if b = true then te σ2 H3 fun y H4 => ∃ acc, H4 Dl = some (.lst acc) ∧ acc.length < sizeLine ∧ Pv Dl (i + 1) (upd H4 Dl (.lst (acc ++ [y]))) else Pv Dl (i + 1) H3)
    (hd : ∀ Dl H', Fr Dl H → Pv Dl z.length H' → Q (.ref Dl) H') : rLcS g t te vs σ Q (.str z) H := ⟨z, rfl, fun Dl hD =>
  lc_it walk_str (Pv Dl) (h0 Dl ⟨hD⟩) (fun _ _ _ _ => trivial) (fun i x H1 H' _ p y => by
    obtain ⟨rfl, c, hc, rfl⟩ := y
    exact hs Dl ⟨hD⟩ i c _ (by rw [← hc]; simp) p) (fun H' p => hd Dl H' ⟨hD⟩ p)⟩
/-! ### texts gone through, keys of a dict -/
def rForS (g : TG) (tu : TS) (D : Ends) (σ : L2.St) : VK := fun x H => ∃ z, x = .str z ∧ ∃ W : Nat → Nat → L2.St → Hp → Prop, (∃ m, W 0 m σ H) ∧ ∀ i m σ H, W i m σ H →
  ((Its z).stop i H ∧ D.nx σ H) ∨ ((Its z).go i H ∧ ∃ N : L2.St → Hp → Prop, (∀ σ' H', N σ' H' → ∃ m', m' < m ∧ W (i + 1) m' σ' H') ∧ ∀ x H', (Its z).yld i H x H' → g x σ H' fun σ2 H2 => tu { D with nx := N, ct := N, bk := D.nx } σ2 H2)
theorem x_forS1 {g : TG} {tu : TS} {D : Ends} {σ : L2.St} {te : TE} (q : te σ H (rForS g tu D σ)) : tFor (iStr te) g tu D σ H := q
theorem x_forS {g : TG} {tu : TS} {D : Ends} {σ : L2.St} {z : Str} (Pv : Nat → L2.St → Hp → Prop) (p0 : Pv 0 σ H)
    (ps : ∀ i c σ' H', z.cps.toList[i]? = some c → Pv i σ' H' → g (.str ⟨#[c]⟩) σ' H' fun σ2 H2 => tu { D with nx := Pv (i + 1), ct := Pv (i + 1), bk := D.nx } σ2 H2) (pd : ∀ σ' H', Pv z.length σ' H' → D.nx σ' H') : rForS g tu D σ (.str z) H :=
  ⟨z, rfl, for_it walk_str Pv p0 (fun _ _ _ _ _ => trivial) (fun i x σ H H' _ p y => by
    obtain ⟨rfl, c, hc, rfl⟩ := y
    exact ps i c _ _ (by rw [← hc]; simp) p) pd⟩
def nOrd : List V → Hp → VK → Prop := fun xs H Q => ∃ x : Str, xs = [.str x] ∧ x.length = 1 ∧ Q (.int (x.cps.getD 0 0 : Nat)) H
theorem k_ord {X : Cx} : CallR X (.builtin "ord") nOrd := call_ord
theorem x_ord {c : Nat} (q : Q (.int (c : Nat)) H) : nOrd [.str ⟨#[c]⟩] H Q := ⟨_, rfl, rfl, q⟩
/-- a list comprehension over a dict's keys -/
theorem x_lcK {g : TG} {t : TT} {te : TE} {vs : List Nat} {σ : L2.St} {a : Nat} {r : Addr} {kvs : List (Key × V)} (ea : σ[a]? = some (some (.ref r))) (hr : H r = some (.dK kvs))
    (q : ∀ od H0, H0 = upd H r (.frz od (.dK kvs)) → ∃ Pv : Addr → Nat → Hp → Prop, (∀ Dl, Fr Dl H0 → Pv Dl 0 (upd H0 Dl (.lst []))) ∧ (∀ Dl i H', Fr Dl H0 → Pv Dl i H' → H' r = some (.frz od (.dK kvs))) ∧
      (∀ Dl, Fr Dl H0 → ∀ i k v H', kvs[i]? = some (k, v) → Pv Dl i H' → g (kV k) (wipe σ vs) H' fun σ2 H2 => wipe σ2 vs = wipe σ vs ∧ t σ2 H2 fun b H3 =>
        if b = true then te σ2 H3 fun y H4 => ∃ acc, H4 Dl = some (.lst acc) ∧ acc.length < sizeLine ∧ Pv Dl (i + 1) (upd H4 Dl (.lst (acc ++ [y]))) else Pv Dl (i + 1) H3) ∧
      ∀ Dl H', Fr Dl H0 → Pv Dl kvs.length H' → Q (.ref Dl) (upd H' r (.dK kvs))) : tLockE (tLc (iKeys (tVar a)) g t te vs) σ H Q := by
  refine ⟨r, _, hr, trivial, fun od => ?_⟩
  obtain ⟨Pv, h0, h1, h2, h3⟩ := q od _ rfl
  refine ⟨.ref r, ea, r, od, rfl, .inl ⟨kvs, upd_same, fun Dl hD => ?_⟩⟩
  refine lc_it (walk_keys (o := od)) (Pv Dl) (h0 Dl ⟨hD⟩) (fun i H' _ p => h1 Dl i H' ⟨hD⟩ p) (fun i x H1 H' _ p y => ?_) fun H' p => ⟨h1 Dl _ H' ⟨hD⟩ p, h3 Dl H' ⟨hD⟩ p⟩
  obtain ⟨rfl, k, v, e, rfl⟩ := y
  exact h2 Dl ⟨hD⟩ i k v _ e p
/-- all signs of a text are so -/
def AllC (p : Nat → Bool) (s : Str) : Bool := s.cps.toList.all p
theorem toList_add (i j : Str) : (i ++ j).cps.toList = i.cps.toList ++ j.cps.toList := by
  show (i.cps ++ j.cps).toList = _
  simp
theorem len_add (i j : Str) : (i ++ j).length = i.length + j.length := by
  show (i.cps ++ j.cps).size = i.cps.size + j.cps.size
  simp
theorem allC_add {p : Nat → Bool} {i j : Str} (h : AllC p i = true) (h' : AllC p j = true) : AllC p (i ++ j) = true := by
  unfold AllC at *
  rw [toList_add, List.all_append, h, h']
  rfl
theorem allC_add_inv {p : Nat → Bool} {i j : Str} (h : AllC p (i ++ j) = true) : AllC p i = true ∧ AllC p j = true := by
  unfold AllC at *
  rw [toList_add, List.all_append, Bool.and_eq_true] at h
  exact h
theorem allC_cut {p : Nat → Bool} {z : Str} {lo hi : Option Int} (h : AllC p z = true) : AllC p (cutS z lo hi) = true := by
  unfold AllC at *
  rw [List.all_eq_true] at h ⊢
  intro c hc
  refine h c ?_
  unfold cutS at hc
  simp only at hc
  exact List.mem_of_mem_drop (List.mem_of_mem_take hc)
theorem len_cut (z : Str) (lo hi : Option Int) : (cutS z lo hi).length ≤ z.length := by
  show (cutS z lo hi).cps.size ≤ z.cps.size
  unfold cutS
  simp only [List.size_toArray, List.length_take, List.length_drop, Array.length_toList]
  have : z.length = z.cps.size := rfl
  omega
theorem allC_at {p : Nat → Bool} {z : Str} {i : Nat} {c : Nat} (h : AllC p z = true) (e : z.cps.toList[i]? = some c) : AllC p ⟨#[c]⟩ = true := by
  unfold AllC at *
  rw [List.all_eq_true] at h
  have := h c (List.mem_of_getElem? e)
  simp [this]
theorem allC_mono {p q : Nat → Bool} {s : Str} (h : AllC p s = true) (f : ∀ c, p c = true → q c = true) : AllC q s = true := by
  unfold AllC at *
  rw [List.all_eq_true] at h ⊢
  exact fun c hc => f c (h c hc)
def okC : Nat → Bool := fun c => decide (c < 0x110000)
theorem lay_str {s : Str} (h : AllC okC s = true) : PyData.canLay0 (.str s) = true := by
  have h2 : s.cps.all (fun c => decide (c < 0x110000)) = true := by
    rw [← Array.all_toList]
    exact h
  simpa only [PyData.canLay0, PyData.strOk] using h2
/-! tuples some times over -/
theorem tup_times1 (l : Addr) (items : Array Value) (n : Nat) (dd : Option Addr) (sl : Array (Option Value)) (u : Tok) :
    Meets (Builtin.«tuple.__mul__» ⟨[.ref l, .int 1 u], []⟩) (fun _ R s => s.heap.get? l = some { cls := .type "tuple", dict := dd, data := .seq items n, slots := sl } ∧ R (.ok (.ret (.ref l))) s) :=
  .of_wp fun prog w A R s h => by
    obtain ⟨hp, g, d, tk, os⟩ := s
    obtain ⟨hl, h⟩ := h
    have f1 := AutoSeq1.idx_int
    wp_walk using wpAny_loadPart' hl
    exact ⟨_, rfl, h⟩
def nRepT (K : PySem.W.Frag) : R2 := fun x y H Q => ∃ (l : Addr) (k : Int) (xs : List V), x = .ref l ∧ y = .int k ∧ SqT K H l xs ∧ xs ≠ [] ∧ xs.length ≤ 1000 ∧ ((k = 1 ∧ Q (.ref l) H) ∨ (2 ≤ k ∧ k ≤ 1000 ∧ ∀ p, H p = none → Q (.ref p) (upd H p (.tup (List.replicate k.toNat xs).flatten))))
theorem op_nRepT : OpR X (binaryOp .Mult) (nRepT X.K) := by
  intro pins s σ H x y v u Q I rx ry h
  obtain ⟨l, k, xs, rfl, rfl, hT, hne, hz, q⟩ := h
  rcases q with ⟨rfl, q⟩ | ⟨h1, h2, q⟩
  · cases rx
    obtain ⟨t, rfl⟩ := ry
    obtain ⟨its, r, ⟨⟨cls, dd, data, sl⟩, ho, hc, n, hd⟩, hs⟩ := I.tuple hT
    simp only at hc hd
    subst hc hd
    exact wpAny_binaryOp_repeat_ref (T := "tuple") (U := "int") (by decide) ⟨_, ho, rfl⟩ (fun s' => typeIs_int s' 1 t) noFill_tuple_mul PySem.F.fills_int_mul PySem.F.slot_int_rmul repeat_tuple PySem.F.slot_int_index.lookup
      (call_meets PySem.F.slot_int_rmul (typeIs_int s 1 t) PySem.F.entry_int_rmul (PySem.F.args_int_rmul_2 _ _) (int_rmul_tuple 1 t l its.toArray n dd sl)
        ⟨ho, rfl, ⟨_, ho, rfl⟩, call_meets PySem.F.slot_tuple_mul ⟨_, ho, rfl⟩ PySem.F.entry_tuple_mul (PySem.F.args_tuple_mul_2 _ _) (tup_times1 l its.toArray n dd sl t) ⟨ho, ⟨.ref l, H, I, rfl, q⟩⟩⟩)
  · exact op_repT pins s σ H _ _ v u Q I rx ry ⟨l, k, xs, rfl, rfl, hT, hne, h1, h2, hz, q⟩
theorem k_repT (e : X.K = K) : OpR X (binaryOp .Mult) (nRepT K) := e ▸ op_nRepT
/-! more of dicts -/
def rGet1 (R : VK) (a : Addr) : VK := fun y H2 => ∃ o, DGet H2 a y o ∧ R (o.getD .non) H2
def rGetD (x : V) (ty : TE) (σ : L2.St) (Q : VK) : Hp → Prop := fun H1 => ∃ a, x = .ref a ∧ IsD H1 a ∧ ty σ H1 (rGet1 Q a)
theorem x_dget1 {td ty : TE} {σ : L2.St} (q : td σ H fun x H1 => rGetD x ty σ Q H1) : tDGet1 td ty σ H Q := q
theorem x_rGetD {ty : TE} {σ : L2.St} {kvs : List (Key × V)} (h : H a = some (.dK kvs)) (q : ty σ H (rGet1 Q a)) : rGetD (.ref a) ty σ Q H := ⟨a, rfl, .inl ⟨kvs, .inl h⟩, q⟩
theorem x_rGet1 {kvs : List (Key × V)} {k : Str} (h : H a = some (.dK kvs)) (q : Q ((valV kvs (Sum.inr k)).getD .non) H) : rGet1 Q a (.str k) H := ⟨_, (DGet.k (k := Sum.inr k) h : DGet H a (kV (Sum.inr k)) (valV kvs (Sum.inr k))), q⟩
def rGet2 (R : VK) (a : Addr) (y z : V) : Hp → Prop := fun H3 => ∃ o, DGet H3 a y o ∧ R (o.getD z) H3
def rGetE (x : V) (ty tx : TE) (σ : L2.St) (Q : VK) : Hp → Prop := fun H1 => ∃ a, x = .ref a ∧ IsD H1 a ∧ ty σ H1 fun y H2 => tx σ H2 fun z H3 => rGet2 Q a y z H3
theorem x_dget2 {td ty tx : TE} {σ : L2.St} (q : td σ H fun x H1 => rGetE x ty tx σ Q H1) : tDGet2 td ty tx σ H Q := q
theorem x_rGetE {ty tx : TE} {σ : L2.St} {kvs : List (Key × V)} (h : H a = some (.dK kvs)) (q : ty σ H fun y H2 => tx σ H2 fun z H3 => rGet2 Q a y z H3) : rGetE (.ref a) ty tx σ Q H := ⟨a, rfl, .inl ⟨kvs, .inl h⟩, q⟩
theorem x_rGet2 {kvs : List (Key × V)} {k : Str} {z : V} (h : H a = some (.dK kvs)) (q : Q ((valV kvs (Sum.inr k)).getD z) H) : rGet2 Q a (.str k) z H := ⟨_, (DGet.k (k := Sum.inr k) h : DGet H a (kV (Sum.inr k)) (valV kvs (Sum.inr k))), q⟩
def rPop1 (R : VK) (a : Addr) : VK := fun y H2 => ∃ (kvs : List (Key × V)) (k : Key) (v : V), H2 a = some (.dK kvs) ∧ y = kV k ∧ valV kvs k = some v ∧ R v (upd H2 a (.dK (dropK kvs k)))
def rPopD (x : V) (ty : TE) (σ : L2.St) (Q : VK) : Hp → Prop := fun H1 => ∃ a, x = .ref a ∧ IsD H1 a ∧ ty σ H1 (rPop1 Q a)
theorem x_dpop1 {td ty : TE} {σ : L2.St} (q : td σ H fun x H1 => rPopD x ty σ Q H1) : tDPop1 td ty σ H Q := q
theorem x_rPopD {ty : TE} {σ : L2.St} {kvs : List (Key × V)} (h : H a = some (.dK kvs)) (q : ty σ H (rPop1 Q a)) : rPopD (.ref a) ty σ Q H := ⟨a, rfl, .inl ⟨kvs, .inl h⟩, q⟩
theorem x_rPop1 {kvs : List (Key × V)} {k : Str} {v : V} (h : H a = some (.dK kvs)) (e : valV kvs (Sum.inr k) = some v) (q : Q v (upd H a (.dK (dropK kvs (Sum.inr k))))) : rPop1 Q a (.str k) H := ⟨kvs, Sum.inr k, v, h, rfl, e, q⟩
def rPop2 (R : VK) (a : Addr) (y z : V) : Hp → Prop := fun H3 => ∃ (kvs : List (Key × V)) (k : Key), H3 a = some (.dK kvs) ∧ y = kV k ∧ (∀ v, valV kvs k = some v → R v (upd H3 a (.dK (dropK kvs k)))) ∧ (valV kvs k = none → R z H3)
def rPopE (x : V) (ty tx : TE) (σ : L2.St) (Q : VK) : Hp → Prop := fun H1 => ∃ a, x = .ref a ∧ IsD H1 a ∧ ty σ H1 fun y H2 => tx σ H2 fun z H3 => rPop2 Q a y z H3
theorem x_dpop2 {td ty tx : TE} {σ : L2.St} (q : td σ H fun x H1 => rPopE x ty tx σ Q H1) : tDPop2 td ty tx σ H Q := q
theorem x_rPopE {ty tx : TE} {σ : L2.St} {kvs : List (Key × V)} (h : H a = some (.dK kvs)) (q : ty σ H fun y H2 => tx σ H2 fun z H3 => rPop2 Q a y z H3) : rPopE (.ref a) ty tx σ Q H := ⟨a, rfl, .inl ⟨kvs, .inl h⟩, q⟩
theorem x_rPop2 {kvs : List (Key × V)} {k : Str} {z : V} (h : H a = some (.dK kvs)) (q1 : ∀ v, valV kvs (Sum.inr k) = some v → Q v (upd H a (.dK (dropK kvs (Sum.inr k))))) (q2 : valV kvs (Sum.inr k) = none → Q z H) : rPop2 Q a (.str k) z H := ⟨kvs, Sum.inr k, h, rfl, q1, q2⟩
def rDInK (y : V) (Q : VK) : VK := fun x H2 => ∃ a o, x = .ref a ∧ DGet H2 a y o ∧ Q (.bl o.isSome) H2
theorem x_din {ty td : TE} {σ : L2.St} (q : ty σ H fun y H1 => td σ H1 (rDInK y Q)) : tDIn ty td σ H Q := q
theorem x_rDInK {kvs : List (Key × V)} {k : Str} (h : H a = some (.dK kvs)) (q : Q (.bl (valV kvs (Sum.inr k)).isSome) H) : rDInK (.str k) Q (.ref a) H := ⟨a, _, rfl, (DGet.k (k := Sum.inr k) h : DGet H a (kV (Sum.inr k)) (valV kvs (Sum.inr k))), q⟩
theorem x_dnew {σ : L2.St} (k : ∀ p H2, Fr p H → Same H H2 → H2 p = some (.dK []) → Q (.ref p) H2) : tDNewK σ H Q := fun p hp => k p _ ⟨hp⟩ (same_new hp) upd_same
theorem x_notBl {b c : Bool} (q : Q (.bl (!decide (b = c))) H) : rNotB (.bl b) (.bl c) H Q := ⟨b, c, rfl, rfl, q⟩
theorem x_isBl {b c : Bool} (q : Q (.bl (decide (b = c))) H) : rIsB (.bl b) (.bl c) H Q := ⟨b, c, rfl, rfl, q⟩
theorem cut_whole {xs : List V} {lo hi : Option Int} (h : HT.sIx xs.length 0 lo = 0 ∧ HT.sIx xs.length xs.length hi = xs.length) : cutV xs lo hi = xs := by
  unfold cutV
  rw [h.1, h.2]
  simp
theorem x_slA {xs : List V} {lo hi : Option Int} (h : H a = some (.tup xs)) (k : ∀ p H', Same H H' → H' p = some (.tup (cutV xs lo hi)) → Q (.ref p) H') : rSlA K (.ref a) lo hi H Q :=
  ⟨a, xs, rfl, st_of h, fun e => k a H (Same.refl _) (by rw [cut_whole e]; exact h), fun _ p hp => k p _ (same_new hp) upd_same⟩
theorem x_catB {xs ys : List V} (h : H a = some (.tup xs)) (h' : H b = some (.tup ys)) (hz : xs.length + ys.length ≤ 100000) (k : ∀ p H', Same H H' → H' p = some (.tup (xs ++ ys)) → Q (.ref p) H') : rCatA K (.ref a) (.ref b) H Q :=
  ⟨a, b, xs, ys, rfl, rfl, st_of h, st_of h', size_ok hz, fun e => k b H (Same.refl _) (by rw [e]; exact h'), fun _ e => k a H (Same.refl _) (by rw [e, List.append_nil]; exact h), fun _ _ p hp => k p _ (same_new hp) upd_same⟩
theorem x_repB {xs : List V} {n : Int} (h : H a = some (.tup xs)) (hne : xs ≠ []) (hz : xs.length ≤ 1000) (hn : 1 ≤ n ∧ n ≤ 1000) (k : ∀ p H', Same H H' → H' p = some (.tup (List.replicate n.toNat xs).flatten) → Q (.ref p) H') : nRepT K (.ref a) (.int n) H Q := by
  refine ⟨a, n, xs, rfl, rfl, st_of h, hne, hz, ?_⟩
  by_cases e : n = 1
  · subst e
    refine .inl ⟨rfl, k a H (Same.refl _) ?_⟩
    rw [h]
    simp
  · exact .inr ⟨by omega, hn.2, fun p hp => k p _ (same_new hp) upd_same⟩
theorem repS_len {z : Str} {n : Int} (h : 2 ≤ n) (hz : 1 ≤ z.length) : (repS z n).length = n.toNat * z.length := by
  unfold repS
  rw [if_neg (by omega), if_neg]
  · show ((List.replicate n.toNat z.cps).foldl (· ++ ·) #[]).size = _
    rw [PySem.size_reps]
    show 0 + n.toNat * z.cps.size = n.toNat * z.length
    rw [Nat.zero_add]
    rfl
  · rw [Bool.or_eq_true, beq_iff_eq, beq_iff_eq]
    omega
end
/-- a def with defaults that lets nothing out -/
theorem okD {P : Program} {w : World} {K : PySem.W.Frag} {mg : Str → Option Value} {base : Heap} {x qual : Str} {pr : Arguments} {body : List Stmt} {sc : Scope} {dvs : List V} {kws : List (Str × V)} {f : Addr} {fd : FuncData} {N ps : List Str} {k : Nat} {sp : Sp}
    (F : FunD K x qual pr body sc dvs kws f fd) (S : FnScope N ps sc) (len : ∀ vs H Q E, sp vs H Q E → vs.length = ps.length)
    (hb : ∀ (cdv : Value) (A : Around) (outer : List Env) (s : Shared) (H : Hp) (vs : List V) (Q : VK) (E : XK), Room k (A.deeper (envOfC qual sc s.heap.objs.size f cdv)) → sp vs H Q E →
      ∃ t, PSs (cxOf CX0 P w K mg base N qual sc f cdv A outer s H E).nox body t ∧ t { nx := fun _ H' => Q .non H', rt := Q } (start N vs) H) : FnOk P w K mg base CX0 (k + 1) f fd ps sp :=
  F.ok S len fun cdv A outer s H vs Q E hr h => by
    obtain ⟨t, h1, q⟩ := hb cdv A outer s H vs Q E hr h
    exact ⟨t, h1.nox, q⟩
theorem funD_mk {K : PySem.W.Frag} {x qual : Str} {st : Stmt} {f dT : Addr} {oc : Value} {od an : Option Addr} {osl : Array (Option Value)} {kV doc pm cdv ct : Value} {dvs : List V} {o : Obj} {its : List Value} {n : Nat}
    (l : K.lookup f = some ⟨oc, od, .func (PySem.W.fnOf x qual (defArgs st) (defBody st) (defScope st) (.ref dT) kV doc pm an cdv ct), osl⟩) (c : PySem.W.codeIn K cdv qual = true) (k : PySem.W.keepIn K (.ref f) = true)
    (hd : dvs ≠ []) (lT : K.lookup dT = some o) (oT : o.data = .seq its.toArray n) (r : Vals dvs its) :
    FunD K x qual (defArgs st) (defBody st) (defScope st) dvs [] f (PySem.W.fnOf x qual (defArgs st) (defBody st) (defScope st) (.ref dT) kV doc pm an cdv ct) :=
  ⟨⟨oc, od, .ref dT, kV, doc, pm, an, cdv, ct, osl, rfl, l, c, .inr ⟨hd, dT, o, its, n, rfl, lT, oT, r⟩, .inl rfl⟩, k⟩
/-- dict(d) -/
def rDictD (xs : List V) (H : Hp) (Q : VK) : Prop := ∃ (a : Addr) (kvs : List (Key × V)), xs = [.ref a] ∧ Rd H a (.dK kvs) ∧ ∀ p, H p = none → Q (.ref p) (upd H p (.dK kvs))
theorem k_dictD {X : Cx} : CallR X (.type "dict") rDictD := call_dictD
theorem x_rDictD {a : Addr} {H : Hp} {Q : VK} {kvs : List (Key × V)} (h : H a = some (.dK kvs)) (k : ∀ p H2, Fr p H → Same H H2 → H2 p = some (.dK kvs) → Q (.ref p) H2) : rDictD [.ref a] H Q := ⟨a, kvs, rfl, .inl h, x_new1 k⟩
end Xk
/-! zip of a tuple and a list -/
namespace Xk
open PySem PySem.Spec PyProof.Rows L2
/-- a tuple at p and a list at q, side by side -/
def ItTL (K : PySem.W.Frag) (p q : Addr) : It where
  go := fun n H => ∃ (us vs : List V) (u v : V), SqT K H p us ∧ SqL K H q vs ∧ us[n]? = some u ∧ vs[n]? = some v
  yld := fun n H r H' => ∃ T u v, r = .ref T ∧ H T = none ∧ H' = upd H T (.tup [u, v]) ∧ (∀ us, SqT K H p us → us[n]? = some u) ∧ ∀ vs, SqL K H q vs → vs[n]? = some v
  stop := fun n H => ∃ us vs : List V, SqT K H p us ∧ SqL K H q vs ∧ n ≤ us.length ∧ n ≤ vs.length ∧ (n = us.length ∨ n = vs.length)
/-- what stands behind such an iterator -/
def AtTL (z t o i j p q : Addr) (n : Nat) (h : Heap) : Prop :=
  IsZip h z t o .none ∧ IsPair h t (.ref i) (.ref j) ∧ (∃ u v, IsPair h o u v) ∧ h.IsTupleIter i p n ∧ h.IsListIter j q n
theorem sepTL {z t o i j p q : Addr} (D : ZipApart z t o i j p q) : ZipSep2 z t o i j [i, p] [j, q] where
  TIz := D.TIz
  TOz := D.TOz
  TITO := D.TITO
  TIi1 := D.TIi1
  mem1 := List.mem_cons_self
  zf1 := by simp [D.i1z.symm, D.l1z.symm]
  Tf1 := by simp [D.TOi1, D.l1TO.symm]
  TIi2 := D.TIi2
  mem2 := List.mem_cons_self
  zf2 := by simp [D.i2z.symm, D.l2z.symm]
  Tf2 := by simp [D.TOi2, D.l2TO.symm]
  sep1_2 := by simp [D.i12, D.l2i1.symm]
  sep2_1 := by simp [D.i12.symm, D.l1i2.symm]
theorem five {c z t o i j : Addr} {P : Addr → Prop} (h : c ∈ [z, t, o, i, j]) (h1 : P z) (h2 : P t) (h3 : P o) (h4 : P i) (h5 : P j) : P c := by
  simp only [List.mem_cons, List.not_mem_nil, or_false] at h
  rcases h with rfl | rfl | rfl | rfl | rfl <;> assumption
theorem turnTL {P : Program} {w : World} {K : PySem.W.Frag} {es : List Expr} {k : Nat} {pos : Pos} {z t o i j p q : Addr} (D : ZipApart z t o i j p q) :
    Turn P w K (.Tuple es k pos) (ItTL K p q) [z, t, o, i, j] z (AtTL z t o i j p q) where
  mem := List.mem_cons_self
  obj := fun n h st c hc => by
    obtain ⟨g1, g2, ⟨u, v, g3⟩, ⟨o1, e1, _, d1⟩, ⟨o2, e2, _, d2⟩⟩ := st
    refine five (P := fun c => ∃ ob, h.get? c = some ob ∧ ∀ v, ob.data ≠ .cell v) hc ⟨_, g1, fun _ e => nomatch e⟩ ⟨_, g2, fun _ e => nomatch e⟩ ⟨_, g3, fun _ e => nomatch e⟩ ⟨o1, e1, fun x e => ?_⟩ ⟨o2, e2, fun x e => ?_⟩
    · rw [d1] at e
      cases e
    · rw [d2] at e
      cases e
  keep := fun n h h' st g => by
    obtain ⟨g1, g2, ⟨u, v, g3⟩, g4, g5⟩ := st
    exact ⟨g z (by simp) _ g1, g t (by simp) _ g2, ⟨u, v, g o (by simp) _ g3⟩, g4.at fun ob e => g i (by simp) ob e, g5.at fun ob e => g j (by simp) ob e⟩
  item := by
    intro X hP hw hK hc n pins s σ H E I hf st hg
    subst hP hw hK
    obtain ⟨g1, g2, ⟨u0, v0, g3⟩, g4, g5⟩ := st
    obtain ⟨us, vs, u, v, hus, hvs, hu, hv⟩ := hg
    obtain ⟨its, r1, p1, _⟩ := I.tuple hus
    obtain ⟨its2, r2, p2, _⟩ := I.list hvs
    obtain ⟨x, hx, rx⟩ := r1.get hu
    obtain ⟨y, hy, ry⟩ := r2.get hv
    have lt1 : n < its.toArray.size := by
      obtain ⟨b, _⟩ := List.getElem?_eq_some_iff.mp hx
      simpa using b
    have lt2 : n < its2.toArray.size := by
      obtain ⟨b, _⟩ := List.getElem?_eq_some_iff.mp hy
      simpa using b
    have hzl : z < s.heap.objs.size := Heap.lt_size g1
    have hh : X.A.in1.handled = none := I.ok.hd hc
    refine wpAny_pyNext_zipD2_item (sepTL D) (Draws.tuple hh i p D.l1i1 its.toArray) (Draws.list hh j q D.l2i2 its2.toArray) g1 g2 g3 ⟨g4, p1⟩ ⟨g5, p2.isList⟩ lt1 lt2 fun x1 y1 h' tk q1 q2 z' o' st1 st2 hT hsz hk => ?_
    have ex : x1 = x := by
      have e2 : its[n]? = some x1 := by simpa using q1
      exact Option.some.inj (e2.symm.trans hx)
    have ey : y1 = y := by
      have e2 : its2[n]? = some y1 := by simpa using q2
      exact Option.some.inj (e2.symm.trans hy)
    subst ex ey
    refine ⟨_, rfl, wpAny_letOwnedTupleGo_zip (s := { s with heap := h', toks := tk }) z' fun h2 z2 sb => ?_⟩
    have hT2 : h2.get? s.heap.objs.size = some { cls := .type "tuple", data := .seq #[x1, y1] } := (sb.2 _ (Nat.ne_of_gt hzl)).trans hT
    have new : ObjOk X.prog X.w (upd H s.heap.objs.size (.tup [u, v])) h2 s.heap.objs.size (.tup [u, v]) :=
      ⟨by show 2 ≤ sizeLine; decide, [x1, y1], .cons rx (.cons ry .nil), ⟨_, hT2, rfl, _, rfl⟩⟩
    have kept : ∀ c ob, c ∉ [z, t, o, i, j] → s.heap.get? c = some ob → h2.get? c = some ob := fun c ob nc e => by
      simp only [List.mem_cons, List.not_mem_nil, or_false, not_or] at nc
      exact (sb.2 c nc.1).trans (hk c ob nc.1 nc.2.2.1 nc.2.2.2.1 nc.2.2.2.2 e)
    have I1 : Inv X pins σ (upd H s.heap.objs.size (.tup [u, v])) { s with heap := h2, toks := tk } :=
      I.turnedNew (t' := tk) (ch := [z, t, o, i, j]) kept hf (Nat.le_refl _) new
    refine ⟨.ref s.heap.objs.size, _, I1, rfl, ⟨_, u, v, rfl, I.hok.fresh (Nat.le_refl _), rfl, fun l hl => ?_, fun l hl => ?_⟩, ⟨z2, ?_, ⟨x1, y1, ?_⟩, ?_, ?_⟩, fun c hcm => ?_⟩
    · rw [I.tuple_inj hl hus]
      exact hu
    · rw [I.list_inj hl hvs]
      exact hv
    · exact (sb.2 _ D.TIz).trans (hk t _ D.TIz D.TITO D.TIi1 D.TIi2 g2)
    · exact (sb.2 _ D.TOz).trans o'
    · exact st1.1.at fun ob e => (sb.2 _ D.i1z).trans e
    · exact st2.1.at fun ob e => (sb.2 _ D.i2z).trans e
    · have lt : c < s.heap.objs.size := by
        refine five (P := fun c => c < s.heap.objs.size) hcm hzl (Heap.lt_size g2) (Heap.lt_size g3) ?_ ?_
        · obtain ⟨_, e1, _⟩ := g4
          exact Heap.lt_size e1
        · obtain ⟨_, e1, _⟩ := g5
          exact Heap.lt_size e1
      rw [upd_ne (Nat.ne_of_lt lt)]
      exact (hf c hcm).1
  done := by
    intro X hP hw hK hc n pins s σ H E I hf st hg
    subst hP hw hK
    obtain ⟨g1, g2, ⟨u0, v0, g3⟩, g4, g5⟩ := st
    obtain ⟨us, vs, hus, hvs, le1, le2, hend⟩ := hg
    obtain ⟨its, r1, p1, _⟩ := I.tuple hus
    obtain ⟨its2, r2, p2, _⟩ := I.list hvs
    have l1 : its.toArray.size = us.length := by rw [List.size_toArray, r1.length]
    have l2 : its2.toArray.size = vs.length := by rw [List.size_toArray, r2.length]
    have hh : X.A.in1.handled = none := I.ok.hd hc
    exact wpAny_pyNext_zipD2_end (sepTL D) (Draws.tuple hh i p D.l1i1 its.toArray) (Draws.list hh j q D.l2i2 its2.toArray) g1 g2 g3 ⟨g4, p1⟩ ⟨g5, p2.isList⟩ (by omega) (by omega) (by omega) fun h' tk hk =>
      ⟨rfl, I.turnedL (t' := tk) (ch := [z, t, o, i, j]) (fun c ob nc e => by
        simp only [List.mem_cons, List.not_mem_nil, or_false, not_or] at nc
        exact hk c ob nc.1 nc.2.2.1 nc.2.2.2.1 nc.2.2.2.2 e) hf⟩
  self := fun A n s Q E st h => wpAny_pyIter_zip st.1 h
/-- zip(e, e2), e a tuple and e2 a list -/
def iTL (K : PySem.W.Frag) (ta : TA) : TI := fun σ H R => ta σ H fun vs H1 => ∃ p q us ws, vs = [.ref p, .ref q] ∧ SqT K H1 p us ∧ SqL K H1 q ws ∧ R (ItTL K p q) H1
theorem pi_TL {X : Cx} {e e2 : Expr} {ta : TA} {p1 pos tpos : Pos} {es : List Expr} {k : Nat} (hg : Gl X "zip") (hm : X.mg "zip" = none) (ha : PA X [e, e2] ta)
    (hs : starEach [e, e2] X.env = (false, eval e X.env) :: starEach [e2] X.env := by rfl) (hpl : (backTo pos (starEach [e2] X.env)).any (·.1) = false := by rfl) :
    PI X (.Tuple es k tpos) (.Call (.Name "zip" p1) [e, e2] [] pos) (iTL X.K ta) := by
  refine ⟨fun pins s σ H R I h => Call_ (ld_blt I hg hm PyProof.Rows.boot_zip (PyProof.Rows.callWith_type1 (thn (ha.run pos pins s σ H _ I h) fun us s1 ⟨vs, H1, I1, r1, q1⟩ => ?_) hs hpl))⟩
  obtain ⟨p, q, xs, ys, rfl, hx, hy, g⟩ := q1
  have e3 : us = [.ref p, .ref q] := by
    cases r1 with
    | cons a b =>
      cases b with
      | cons c d =>
        cases d
        cases a
        cases c
        rfl
  subst e3
  obtain ⟨its, rx, px, _⟩ := I1.tuple hx
  obtain ⟨its2, ry, py, _⟩ := I1.list hy
  have lp : p < s1.heap.objs.size := by
    obtain ⟨_, e1, _⟩ := id px
    exact Heap.lt_size e1
  refine zip_begins2 (begins_tuple p its.toArray) (begins_list q its2.toArray) px py.isList fun h' hz hTI hTO h1 h2 hsz hk => wpAny_pyIter_zip hz ?_
  have I2 : Inv X pins σ H1 { s1 with heap := h' } := I1.kept (t' := s1.toks) hk
  refine ⟨s1.heap.objs.size + 4, [s1.heap.objs.size + 4, s1.heap.objs.size + 2, s1.heap.objs.size + 3, s1.heap.objs.size, s1.heap.objs.size + 1], _, _, H1, rfl, I2,
    turnTL (PySem.W.ktu_apart s1.heap.objs.size p q lp py.lt), ⟨hz, hTI, ⟨_, _, hTO⟩, ⟨_, h1, rfl, rfl⟩, ⟨_, h2, rfl, rfl⟩⟩, fun c hcm => ?_, g⟩
  have le : s1.heap.objs.size ≤ c := five (P := fun c => s1.heap.objs.size ≤ c) hcm (Nat.le_add_right _ _) (Nat.le_add_right _ _) (Nat.le_add_right _ _) (Nat.le_refl _) (Nat.le_add_right _ _)
  exact I1.fpOk le (I1.hok.fresh le)
/-- a comprehension over it -/
theorem walkTL {K : PySem.W.Frag} {p q : Addr} {us vs : List V} (e : us.length = vs.length) : Walk (ItTL K p q) us.length (fun H => SqT K H p us ∧ SqL K H q vs) (YPair (fun n => us[n]?) (fun n => vs[n]?)) := by
  refine ⟨fun n _ hn g => ?_, fun _ g => ⟨us, vs, g.1, g.2, Nat.le_refl _, by omega, .inl rfl⟩, fun n H v H' _ g y => ?_⟩
  · have h2 : n < vs.length := by omega
    exact ⟨us, vs, us[n], vs[n], g.1, g.2, List.getElem?_eq_getElem hn, List.getElem?_eq_getElem h2⟩
  · obtain ⟨T, x, z, h1, h2, h3, h4, h5⟩ := y
    exact ⟨T, x, z, h1, h2, h3, h4 us g.1, h5 vs g.2⟩
end Xk
section
open PySem PySem.Spec PyProof.Rows L2
namespace Xk
variable {K : PySem.W.Frag} {σ : L2.St} {H : Hp} {Q : VK} {te : TE} {g : TG} {t : TT} {X : Cx}
theorem k_TL {e e2 : Expr} {ta : TA} {p1 pos tpos : Pos} {es : List Expr} {k : Nat} (hk : X.K = K) (hg : Gl X "zip") (hm : X.mg "zip" = none) (ha : PA X [e, e2] ta)
    (hs : starEach [e, e2] X.env = (false, eval e X.env) :: starEach [e2] X.env := by rfl) (hpl : (backTo pos (starEach [e2] X.env)).any (·.1) = false := by rfl) :
    PI X (.Tuple es k tpos) (.Call (.Name "zip" p1) [e, e2] [] pos) (iTL K ta) := hk ▸ pi_TL hg hm ha hs hpl
def rLcZ (K : PySem.W.Frag) (g : TG) (tt : TT) (te : TE) (vs : List Nat) (σ : L2.St) (Q : VK) : List V → Hp → Prop := fun zs H1 => ∃ p q us ws, zs = [.ref p, .ref q] ∧ SqT K H1 p us ∧ SqL K H1 q ws ∧ RLc (ItTL K p q) g tt te vs σ Q H1
theorem x_lcZ1 {tr : TA} {vs : List Nat} (q : tr σ H (rLcZ K g t te vs σ Q)) : tLc (iTL K tr) g t te vs σ H Q := q
theorem x_lcZ {a b : Addr} {us ws : List V} {vs : List Nat} (Pv : Addr → Nat → Hp → Prop) (e : us.length = ws.length) (hx : SqT K H a us) (hy : SqL K H b ws) (h0 : ∀ Dl, Fr Dl H → Pv Dl 0 (upd H Dl (.lst [])))
    (hl : ∀ Dl i H', Fr Dl H → Pv Dl i H' → SqT K H' a us ∧ SqL K H' b ws)
    (hs : ∀ Dl, Fr Dl H → ∀ i x y H1 T H', us[i]? = some x → ws[i]? = some y → Pv Dl i H1 → Fr T H1 → Same H1 H' → H' T = some (.tup [x, y]) → g (.ref T) (wipe σ vs) H' fun σ2 H2 => wipe σ2 vs = wipe σ vs ∧ t σ2 H2 fun c H3 =>
      if c = true then te σ2 H3 fun y H4 => ∃ acc, H4 Dl = some (.lst acc) ∧ acc.length < sizeLine ∧ Pv Dl (i + 1) (upd H4 Dl (.lst (acc ++ [y]))) else Pv Dl (i + 1) H3)
    (hd : ∀ Dl H', Fr Dl H → Pv Dl us.length H' → Q (.ref Dl) H') : rLcZ K g t te vs σ Q [.ref a, .ref b] H := ⟨a, b, us, ws, rfl, hx, hy, fun Dl hD =>
  lc_it (walkTL e) (Pv Dl) (h0 Dl ⟨hD⟩) (fun i H' _ p => hl Dl i H' ⟨hD⟩ p) (fun i x H1 H' hi p y => by
    obtain ⟨T, u, v, rfl, hT, rfl, e1, e2⟩ := y
    exact hs Dl ⟨hD⟩ i u v H1 T _ e1 e2 p ⟨hT⟩ (same_new hT) upd_same) (fun H' p => hd Dl H' ⟨hD⟩ p)⟩
/-- texts in order -/
def nLtS : R2 := fun x y H Q => ∃ i j, x = .str i ∧ y = .str j ∧ Q (.bl (decide (i.cps.toList < j.cps.toList))) H
def nLeS : R2 := fun x y H Q => ∃ i j, x = .str i ∧ y = .str j ∧ Q (.bl (!decide (j.cps.toList < i.cps.toList))) H
theorem op_nLtS : OpR X (compareOp .Lt) nLtS := op_lt_str
theorem op_nLeS : OpR X (compareOp .LtE) nLeS := op_le_str
def rPar (i j : Nat) (σ : L2.St) (R : L2.St → Hp → Prop) : List V → Hp → Prop := fun vs H1 => ∃ v w, vs = [v, w] ∧ R ((σ.set i (some v)).set j (some w)) H1
theorem x_spar {i j : Nat} {ta : TA} {tz : TS} {D : Ends} (q : ta σ H (rPar i j σ (tz D))) : tSeq (tPar i j ta) tz D σ H := q
theorem x_par {i j : Nat} {ta : TA} {D : Ends} (q : ta σ H (rPar i j σ D.nx)) : tPar i j ta D σ H := q
theorem x_rPar {i j : Nat} {R : L2.St → Hp → Prop} {v u : V} (q : R ((σ.set i (some v)).set j (some u)) H) : rPar i j σ R [v, u] H := ⟨v, u, rfl, q⟩
def nGeS : R2 := fun x y H Q => ∃ i j, x = .str i ∧ y = .str j ∧ Q (.bl (!decide (i.cps.toList < j.cps.toList))) H
theorem op_nGeS : OpR X (compareOp .GtE) nGeS := op_ge_str
theorem x_nGeS {i j : Str} (q : Q (.bl (!decide (i.cps.toList < j.cps.toList))) H) : nGeS (.str i) (.str j) H Q := ⟨i, j, rfl, rfl, q⟩
theorem x_nLtS {i j : Str} (q : Q (.bl (decide (i.cps.toList < j.cps.toList))) H) : nLtS (.str i) (.str j) H Q := ⟨i, j, rfl, rfl, q⟩
theorem x_nLeS {i j : Str} (q : Q (.bl (!decide (j.cps.toList < i.cps.toList))) H) : nLeS (.str i) (.str j) H Q := ⟨i, j, rfl, rfl, q⟩
theorem x_ext {l b : Addr} {xs zs : List V} (h : H l = some (.lst xs)) (h' : H b = some (.lst zs)) (hz : xs.length + zs.length ≤ 100000) (q : Q .non (upd H l (.lst (xs ++ zs)))) : rExtend (.ref l) [.ref b] H Q := ⟨l, b, xs, zs, rfl, rfl, h, h', size_ok hz, q⟩
theorem x_sortS {a : Addr} {xs : List Str} (h : SqL K H a (xs.map V.str)) (hl : xs.length < 64) (k : ∀ p H2 (ys : List Str), ys.Perm xs → sortedS ys = true → Fr p H → Same H H2 → H2 p = some (.lst (ys.map V.str)) → Q (.ref p) H2) : rSortedS K [.ref a] H Q :=
  ⟨a, xs, rfl, h, hl, fun ys p h1 h2 hp => k p _ ys h1 h2 ⟨hp⟩ (same_new hp) upd_same⟩
end Xk
end
namespace Xk
open PySem PySem.Spec PyProof.Rows L2
theorem k_fld {X : Cx} {K : PySem.W.Frag} {e : Expr} {f : Str} {pos : Pos} {ta : TE} (hk : X.K = K) (he : PE X e ta) (hb : attributeBase e f X.env (eval e X.env) = eval e X.env) : PE X (.Attribute e f pos) (tFld K ta f) := hk ▸ pe_fld he hb
end Xk
namespace Xk
open PySem PySem.Spec PyProof.Rows L2
def rSubSl (x v : V) (l u : Option Int) (σ : L2.St) (R : L2.St → Hp → Prop) : Hp → Prop := fun H3 => ∃ (a b : Addr) (xs ys : List V) (i j : Int), x = .ref a ∧ v = .ref b ∧ l = some i ∧ u = some j ∧
  H3 a = some (.lst xs) ∧ H3 b = some (.lst ys) ∧ a ≠ b ∧ 0 ≤ i ∧ i ≤ j ∧ j ≤ xs.length ∧ xs.length + ys.length ≤ sizeLine ∧ R σ (upd H3 a (.lst (xs.take i.toNat ++ ys ++ xs.drop j.toNat)))
theorem x_gSubSl {to : TE} {tl th : TO} {v : V} {σ : L2.St} {H : Hp} {R : L2.St → Hp → Prop} (q : to σ H fun x H1 => tl σ H1 fun l H2 => th σ H2 fun u H3 => rSubSl x v l u σ R H3) : gSubSl to tl th v σ H R := q
theorem x_rSubSl {a b : Addr} {xs ys : List V} {i j : Int} {n m : Nat} {σ : L2.St} {H : Hp} {R : L2.St → Hp → Prop} (h : H a = some (.lst xs)) (h' : H b = some (.lst ys)) (ne : a ≠ b) (hi : i = (n : Int)) (hj : j = (m : Int)) (nm : n ≤ m) (hm : m ≤ xs.length) (hz : xs.length + ys.length ≤ 100000)
    (q : R σ (upd H a (.lst (xs.take n ++ ys ++ xs.drop m)))) : rSubSl (.ref a) (.ref b) (some i) (some j) σ R H := by
  refine ⟨a, b, xs, ys, i, j, rfl, rfl, rfl, rfl, h, h', ne, by omega, by omega, by omega, size_ok hz, ?_⟩
  rw [hi, hj, Int.toNat_natCast, Int.toNat_natCast]
  exact q
end Xk
/-! enumerate of a tuple -/
namespace Xk
open PySem PySem.Spec PyProof.Rows L2
theorem wp_ite {M : Model} {A : Around} {E : Value → Shared → Prop} {s : Shared} {α : Type} {c : Prop} [Decidable c] {a b : Sem α} {Q : α → Shared → Prop} (h1 : wpAny M A a Q E s) (h2 : wpAny M A b Q E s) : wpAny M A (if c then a else b) Q E s := by
  by_cases h : c
  · exact wpAny_ite_true (decide_eq_true h) h1
  · exact wpAny_ite_false (decide_eq_false h) h2
theorem enumT0 {prog : Program} {w : World} {A : Around} {E : Value → Shared → Prop} {R : Fin → Shared → Prop} {s : Shared} {v : Value} {o : Obj} {H : Heap → Prop} (b : Begins v o H) (h1 : H s.heap)
  (h2 : R (Fin.done (Flow.ret (Value.ref (s.heap.push o).objs.size)))
        { heap := (s.heap.push o).push { cls := Value.type "enumerate", data := Data.fields #[Value.none, Value.bool false, Value.ref s.heap.objs.size, rawInt 0, Value.none, Value.none] },
          gens := s.gens, drawn := s.drawn, toks := s.toks, os := s.os }) :
  wpAny (model prog w) A (do
      let it ← pyIter v
      let r ← Builtin.SmallTypes.newRecord (Value.type "enumerate") (Builtin.SmallTypes.ownedTupleFields ++ [it, rawInt 0, Value.none, Value.none])
      ret r) R E s := by
  refine wpAny_bind (b.iter prog w A _ s _ h1 ?_)
  refine wpAny_bind ?_
  refine wpAny_bind (wpAny_alloc' ?_)
  refine wpAny_pure ?_
  exact wpAny_pure h2
theorem enumT1 {v : Value} {o : Obj} {H : Heap → Prop} (b : Begins v o H) : Meets (Builtin.«enumerate.__new__» { pos := [.type "enumerate", v] }) fun A R s => H s.heap ∧
   R (Except.ok (Flow.ret (Value.ref (s.heap.push o).objs.size)))
        { heap := (s.heap.push o).push { cls := Value.type "enumerate", data := Data.fields #[Value.none, Value.bool false, Value.ref s.heap.objs.size, rawInt 0, Value.none, Value.none] },
          gens := s.gens, drawn := s.drawn, toks := s.toks, os := s.os } := by
  intro prog w A R s hs
  obtain ⟨h1, h2⟩ := hs
  refine wpAny_bind ?_
  refine wpAny_bind ?_
  refine wpAny_of_eq (a := true) rfl ?_
  refine wpAny_ite_false rfl ?_
  refine wpAny_bind ?_
  refine wpAny_of_eq sub_enumerate ?_
  refine wpAny_ite_false rfl ?_
  refine wpAny_pure ?_
  refine wpAny_ite_true (by decide) ?_
  refine wpAny_bind ?_
  refine wpAny_bind (wpAny_stack_any fun st => wpAny_pure ?_)
  refine wp_ite ?_ ?_
  · refine wpAny_bind ?_
    refine wpAny_of_eq (a := (v, none)) rfl ?_
    exact enumT0 b h1 h2
  · refine wpAny_bind ?_
    refine wpAny_of_eq (a := (v, none)) rfl ?_
    exact enumT0 b h1 h2
theorem enum_one {prog : Program} {w : World} {A : Around} {E : Value → Shared → Prop} {s : Shared} {v : Value} {o : Obj} {H : Heap → Prop} {Q : Value → Shared → Prop} (b : Begins v o H) (h1 : H s.heap)
  (q : ∀ h' : Heap, IsEnum h' (s.heap.objs.size + 1) s.heap.objs.size 0 Value.none → h'.get? s.heap.objs.size = some o → h'.objs.size = s.heap.objs.size + 2 → (∀ (b : Addr) (o : Obj), s.heap.get? b = some o → h'.get? b = some o) →
     Q (Value.ref (s.heap.objs.size + 1)) { heap := h', gens := s.gens, drawn := s.drawn, toks := s.toks, os := s.os }) :
  wpAny (model prog w) A (call (Value.type "enumerate") [v]) Q E s := by
  refine callType_new F.called_enumerate (by decide) (F.typeCall_enumerate_1 v) (F.newCall_enumerate_1 v) (fun obj => F.args_object_init_2 obj v) F.entry_enumerate_new (enumT1 b) ⟨h1, ?_⟩
  have e1 : (s.heap.push o).objs.size = s.heap.objs.size + 1 := by rw [Heap.size_push]
  have g : ((s.heap.push o).push { cls := Value.type "enumerate", data := Data.fields #[Value.none, Value.bool false, Value.ref s.heap.objs.size, rawInt 0, Value.none, Value.none] }).get? (s.heap.push o).objs.size = some { cls := Value.type "enumerate", data := Data.fields #[Value.none, Value.bool false, Value.ref s.heap.objs.size, rawInt 0, Value.none, Value.none] } := Heap.get?_push_size _ rfl
  refine ⟨?_, ?_⟩
  · rw [e1] at g ⊢
    exact ⟨_, g, rfl⟩
  · rw [e1] at g ⊢
    refine q _ g ?_ (by rw [Heap.size_push, Heap.size_push]) fun b' o' e => Heap.get?_push_of_some _ (Heap.get?_push_of_some _ e)
    exact Heap.get?_push_of_some _ (Heap.get?_push_size _ b.free)
/-- a tuple at a, each item with its number -/
def ItET (K : PySem.W.Frag) (a : Addr) : It where
  go := fun i H => ∃ (xs : List V) (x : V), SqT K H a xs ∧ xs[i]? = some x
  yld := fun i H v H' => ∃ T x, v = .ref T ∧ H T = none ∧ H' = upd H T (.tup [.int (i : Nat), x]) ∧ ∀ xs : List V, SqT K H a xs → xs[i]? = some x
  stop := fun i H => ∃ xs : List V, SqT K H a xs ∧ i = xs.length
theorem turnET {P : Program} {w : World} {K : PySem.W.Frag} {es : List Expr} {k : Nat} {pos : Pos} {a e it : Addr} (d1 : e ≠ it) (d2 : a ≠ it) (d3 : e ≠ a) :
    Turn P w K (.Tuple es k pos) (ItET K a) [e, it] e (fun i h => (∃ old, IsEnum h e it (i : Nat) old) ∧ h.IsTupleIter it a i) where
  mem := List.mem_cons_self
  obj := fun n h st c hc => by
    obtain ⟨⟨old, g1⟩, ⟨o1, e1, _, dd1⟩⟩ := st
    simp only [List.mem_cons, List.not_mem_nil, or_false] at hc
    rcases hc with rfl | rfl
    · exact ⟨_, g1, fun _ e => nomatch e⟩
    · refine ⟨o1, e1, fun x e => ?_⟩
      rw [dd1] at e
      cases e
  keep := fun n h h' st g => by
    obtain ⟨⟨old, g1⟩, g2⟩ := st
    exact ⟨⟨old, g e (by simp) _ g1⟩, g2.at fun ob e => g it (by simp) ob e⟩
  item := by
    intro X hP hw hK hc n pins s σ H E I hf st hg
    subst hP hw hK
    obtain ⟨⟨old, g1⟩, g2⟩ := st
    obtain ⟨us, u, hus, hu⟩ := hg
    obtain ⟨its, r1, p1, _⟩ := I.tuple hus
    obtain ⟨x, hx, rx⟩ := r1.get hu
    have lt1 : n < its.toArray.size := by
      obtain ⟨b, _⟩ := List.getElem?_eq_some_iff.mp hx
      simpa using b
    have hzl : e < s.heap.objs.size := Heap.lt_size g1
    have hil : it < s.heap.objs.size := by
      obtain ⟨_, e1, _⟩ := id g2
      exact Heap.lt_size e1
    have hh : X.A.in1.handled = none := I.ok.hd hc
    refine wpAny_pyNext_enum_itemD (Draws.tuple hh it a d2 its.toArray) g1 ⟨g2, p1⟩ lt1 d1 (by simp [d1, d3]) fun x1 h' tk q1 eo st1 hT hsz hk => ?_
    have ex : x1 = x := by
      have e2 : its[n]? = some x1 := by simpa using q1
      exact Option.some.inj (e2.symm.trans hx)
    subst ex
    refine ⟨_, rfl, wpAny_letOwnedTupleGo_enum (s := { s with heap := h', toks := tk + 1 }) eo fun h2 z2 sb => ?_⟩
    have hT2 : h2.get? s.heap.objs.size = some { cls := .type "tuple", data := .seq #[Value.int (n : Nat) tk, x1] } := (sb.2 _ (Nat.ne_of_gt hzl)).trans hT
    have new : ObjOk X.prog X.w (upd H s.heap.objs.size (.tup [.int (n : Nat), u])) h2 s.heap.objs.size (.tup [.int (n : Nat), u]) :=
      ⟨by show 2 ≤ sizeLine; decide, [Value.int (n : Nat) tk, x1], .cons (by first | exact ⟨tk, rfl⟩ | exact rfl | constructor) (.cons rx .nil), ⟨_, hT2, rfl, _, rfl⟩⟩
    have kept : ∀ c ob, c ∉ [e, it] → s.heap.get? c = some ob → h2.get? c = some ob := fun c ob nc e => by
      simp only [List.mem_cons, List.not_mem_nil, or_false, not_or] at nc
      exact (sb.2 c nc.1).trans (hk c ob nc.1 nc.2 e)
    have I1 : Inv X pins σ (upd H s.heap.objs.size (.tup [.int (n : Nat), u])) { s with heap := h2, toks := tk + 1 } :=
      I.turnedNew (t' := tk + 1) (ch := [e, it]) kept hf (Nat.le_refl _) new
    refine ⟨.ref s.heap.objs.size, _, I1, rfl, ⟨_, u, rfl, I.hok.fresh (Nat.le_refl _), rfl, fun l hl => ?_⟩, ⟨⟨_, z2⟩, ?_⟩, fun c hcm => ?_⟩
    · rw [I.tuple_inj hl hus]
      exact hu
    · exact st1.1.at fun ob e => (sb.2 _ d1.symm).trans e
    · have lt : c < s.heap.objs.size := by
        simp only [List.mem_cons, List.not_mem_nil, or_false] at hcm
        rcases hcm with rfl | rfl
        · exact hzl
        · exact hil
      rw [upd_ne (Nat.ne_of_lt lt)]
      exact (hf c hcm).1
  done := by
    intro X hP hw hK hc n pins s σ H E I hf st hg
    subst hP hw hK
    obtain ⟨⟨old, g1⟩, g2⟩ := st
    obtain ⟨us, hus, rfl⟩ := hg
    obtain ⟨its, r1, p1, _⟩ := I.tuple hus
    have l1 : its.toArray.size = us.length := by rw [List.size_toArray, r1.length]
    have hh : X.A.in1.handled = none := I.ok.hd hc
    refine wpAny_pyNext_enum_endD (Draws.tuple hh it a d2 its.toArray) g1 (by rw [l1]; exact ⟨g2, p1⟩) fun h' hk => ?_
    exact ⟨rfl, I.turnedL (t' := s.toks) (ch := [e, it]) (fun c ob nc e => by
      simp only [List.mem_cons, List.not_mem_nil, or_false, not_or] at nc
      exact hk c ob nc.2 e) hf⟩
  self := fun A n s Q E st h => wpAny_pyIter_enum st.1.choose_spec h
/-- enumerate(e), e a tuple -/
def iET (K : PySem.W.Frag) (ta : TA) : TI := fun σ H R => ta σ H fun vs H1 => ∃ p us, vs = [.ref p] ∧ SqT K H1 p us ∧ R (ItET K p) H1
theorem pi_ET {X : Cx} {e : Expr} {ta : TA} {p1 pos tpos : Pos} {es : List Expr} {k : Nat} (hg : Gl X "enumerate") (hm : X.mg "enumerate" = none) (ha : PA X [e] ta)
    (hs : starEach [e] X.env = [(false, eval e X.env)] := by rfl) (hpl : (backTo pos (starEach [] X.env)).any (·.1) = false := by rfl) :
    PI X (.Tuple es k tpos) (.Call (.Name "enumerate" p1) [e] [] pos) (iET X.K ta) := by
  refine ⟨fun pins s σ H R I h => Call_ (ld_blt I hg hm PyProof.Rows.boot_enumerate (PyProof.Rows.callWith_type1 (thn (ha.run pos pins s σ H _ I h) fun us s1 ⟨vs, H1, I1, r1, q1⟩ => ?_) hs hpl))⟩
  obtain ⟨p, xs, rfl, hx, g⟩ := q1
  have e3 : us = [.ref p] := by
    cases r1 with
    | cons a b =>
      cases b
      cases a
      rfl
  subst e3
  obtain ⟨its, rx, px, _⟩ := I1.tuple hx
  have lp : p < s1.heap.objs.size := by
    obtain ⟨_, e1, _⟩ := id px
    exact Heap.lt_size e1
  refine enum_one (begins_tuple p its.toArray) px fun h' hz h1 hsz hk => wpAny_pyIter_enum hz ?_
  have I2 : Inv X pins σ H1 { s1 with heap := h' } := I1.kept (t' := s1.toks) hk
  refine ⟨s1.heap.objs.size + 1, [s1.heap.objs.size + 1, s1.heap.objs.size], _, _, H1, rfl, I2,
    turnET (Nat.succ_ne_self _) (Nat.ne_of_lt lp) (Nat.ne_of_gt (Nat.lt_succ_of_lt lp)), ⟨⟨_, hz⟩, ⟨_, h1, rfl, rfl⟩⟩, fun c hcm => ?_, g⟩
  have le : s1.heap.objs.size ≤ c := by
    simp only [List.mem_cons, List.not_mem_nil, or_false] at hcm
    rcases hcm with rfl | rfl
    · exact Nat.le_add_right _ _
    · exact Nat.le_refl _
  exact I1.fpOk le (I1.hok.fresh le)
/-- a comprehension over it -/
theorem walkET {K : PySem.W.Frag} {p : Addr} {us : List V} : Walk (ItET K p) us.length (fun H => SqT K H p us) (YPair (fun n => some (.int (n : Nat))) (fun n => us[n]?)) := by
  refine ⟨fun n _ hn g => ?_, fun _ g => ⟨us, g, rfl⟩, fun n H v H' _ g y => ?_⟩
  · exact ⟨us, us[n], g, List.getElem?_eq_getElem hn⟩
  · obtain ⟨T, x, h1, h2, h3, h4⟩ := y
    exact ⟨T, _, x, h1, h2, h3, rfl, h4 us g⟩
end Xk
section
open PySem PySem.Spec PyProof.Rows L2
namespace Xk
variable {K : PySem.W.Frag} {σ : L2.St} {H : Hp} {Q : VK} {te : TE} {g : TG} {t : TT} {X : Cx}
theorem k_ET {e : Expr} {ta : TA} {p1 pos tpos : Pos} {es : List Expr} {k : Nat} (hk : X.K = K) (hg : Gl X "enumerate") (hm : X.mg "enumerate" = none) (ha : PA X [e] ta)
    (hs : starEach [e] X.env = [(false, eval e X.env)] := by rfl) (hpl : (backTo pos (starEach [] X.env)).any (·.1) = false := by rfl) :
    PI X (.Tuple es k tpos) (.Call (.Name "enumerate" p1) [e] [] pos) (iET K ta) := hk ▸ pi_ET hg hm ha hs hpl
def rLcET (K : PySem.W.Frag) (g : TG) (tt : TT) (te : TE) (vs : List Nat) (σ : L2.St) (Q : VK) : List V → Hp → Prop := fun zs H1 => ∃ p us, zs = [.ref p] ∧ SqT K H1 p us ∧ RLc (ItET K p) g tt te vs σ Q H1
theorem x_lcET1 {tr : TA} {vs : List Nat} (q : tr σ H (rLcET K g t te vs σ Q)) : tLc (iET K tr) g t te vs σ H Q := q
theorem x_lcET {a : Addr} {us : List V} {vs : List Nat} (Pv : Addr → Nat → Hp → Prop) (hx : SqT K H a us) (h0 : ∀ Dl, Fr Dl H → Pv Dl 0 (upd H Dl (.lst [])))
    (hl : ∀ Dl i H', Fr Dl H → Pv Dl i H' → SqT K H' a us)
    (hs : ∀ Dl, Fr Dl H → ∀ i x H1 T H', us[i]? = some x → Pv Dl i H1 → Fr T H1 → Same H1 H' → H' T = some (.tup [.int (i : Nat), x]) → g (.ref T) (wipe σ vs) H' fun σ2 H2 => wipe σ2 vs = wipe σ vs ∧ t σ2 H2 fun c H3 =>
      if c = true then te σ2 H3 fun y H4 => ∃ acc, H4 Dl = some (.lst acc) ∧ acc.length < sizeLine ∧ Pv Dl (i + 1) (upd H4 Dl (.lst (acc ++ [y]))) else Pv Dl (i + 1) H3)
    (hd : ∀ Dl H', Fr Dl H → Pv Dl us.length H' → Q (.ref Dl) H') : rLcET K g t te vs σ Q [.ref a] H := ⟨a, us, rfl, hx, fun Dl hD =>
  lc_it walkET (Pv Dl) (h0 Dl ⟨hD⟩) (fun i H' _ p => hl Dl i H' ⟨hD⟩ p) (fun i x H1 H' hi p y => by
    obtain ⟨T, u, v, rfl, hT, rfl, e1, e2⟩ := y
    cases Option.some.inj e1
    exact hs Dl ⟨hD⟩ i v H1 T _ e2 p ⟨hT⟩ (same_new hT) upd_same) (fun H' p => hd Dl H' ⟨hD⟩ p)⟩
end Xk
end
/-! dict comprehensions over a tuple -/
section
open PySem PySem.Spec PyProof.Rows L2
namespace Xk
variable {K : PySem.W.Frag} {σ : L2.St} {H : Hp} {Q : VK} {tk tv : TE} {g : TG} {t : TT}
def RDc (J : It) (g : TG) (tt : TT) (tk tv : TE) (vs : List Nat) (σ : L2.St) (Q : VK) : Hp → Prop := fun H1 => ∀ D, H1 D = none → ∃ W : Nat → Nat → Hp → Prop, (∃ m, W 0 m (upd H1 D (.dK []))) ∧ ∀ i m H, W i m H →
  (J.stop i H ∧ Q (.ref D) H) ∨ (J.go i H ∧ ∃ Nx : Hp → Prop, (∀ H', Nx H' → ∃ m', m' < m ∧ W (i + 1) m' H') ∧ ∀ x H', J.yld i H x H' → g x (wipe σ vs) H' fun σ2 H2 => wipe σ2 vs = wipe σ vs ∧ tt σ2 H2 fun b H3 =>
    if b = true then tk σ2 H3 fun y H4 => tv σ2 H4 fun z H5 => ∃ kvs k, y = kV k ∧ H5 D = some (.dK kvs) ∧ kvs.length < sizeLine ∧ Nx (upd H5 D (.dK (putK kvs k z))) else Nx H3)
def rDcT (K : PySem.W.Frag) (g : TG) (tt : TT) (tk tv : TE) (vs : List Nat) (σ : L2.St) (Q : VK) : VK := fun x H1 => ∃ a, x = .ref a ∧ (∃ xs, SqT K H1 a xs) ∧ RDc (Itt K a) g tt tk tv vs σ Q H1
theorem x_dcT1 {tx : TE} {vs : List Nat} (q : tx σ H (rDcT K g t tk tv vs σ Q)) : tDc (iTup K tx) g t tk tv vs σ H Q := q
theorem x_dcT {a : Addr} {xs : List V} {vs : List Nat} (Pv : Addr → Nat → Hp → Prop) (hx : SqT K H a xs) (h0 : ∀ Dl, Fr Dl H → Pv Dl 0 (upd H Dl (.dK []))) (hl : ∀ Dl i H', Fr Dl H → Pv Dl i H' → SqT K H' a xs)
    (hs : ∀ Dl, Fr Dl H → ∀ i x H', xs[i]? = some x → Pv Dl i H' → g x (wipe σ vs) H' fun σ2 H2 => wipe σ2 vs = wipe σ vs ∧ t σ2 H2 fun b H3 =>
      if b = true then tk σ2 H3 fun y H4 => tv σ2 H4 fun z H5 => ∃ kvs k, y = kV k ∧ H5 Dl = some (.dK kvs) ∧ kvs.length < sizeLine ∧ Pv Dl (i + 1) (upd H5 Dl (.dK (putK kvs k z))) else Pv Dl (i + 1) H3)
    (hd : ∀ Dl H', Fr Dl H → Pv Dl xs.length H' → Q (.ref Dl) H') : rDcT K g t tk tv vs σ Q (.ref a) H := ⟨a, rfl, ⟨xs, hx⟩, fun Dl hD =>
  dc_tup (xs := xs) (Pv Dl) (h0 Dl ⟨hD⟩) (fun i H' _ p => hl Dl i H' ⟨hD⟩ p) (fun i x H' hi p => hs Dl ⟨hD⟩ i x H' hi p) (fun H' p => hd Dl H' ⟨hD⟩ p)⟩
end Xk
end
namespace Xk
open PySem PySem.Spec PyProof.Rows L2
section
variable {X : Cx}
/-- sorted(xs) of a list of data of one shape -/
def rSortX (K : PySem.W.Frag) : List V → Hp → VK → Prop := fun vs H Q => ∃ (a : Addr) (bs : List (V × PyData)), vs = [V.ref a] ∧ SqL K H a (bs.map (·.1)) ∧ (∀ b ∈ bs, Dp K H b.1 b.2 ∧ b.2.depth ≤ 9) ∧
  PySem.W.AllAlike (bs.map (·.2)) ∧ PySem.W.Sortable (bs.map (·.2)) ∧ ∀ p, H p = none → Q (.ref p) (upd H p (.lst ((bs.mergeSort (PySem.W.dataLe false (·.2))).map (·.1))))
theorem eachV {R : Value → PyData → Prop} : ∀ {its : List Value} {bs : List (V × PyData)}, Vals (bs.map (·.1)) its → (∀ b ∈ bs, ∀ u, RelV b.1 u → R u b.2) → PySem.W.EachIs (fun u (b : V × PyData) => RelV b.1 u ∧ R u b.2) its bs
  | its, [], h, _ => by cases h; exact .nil
  | its, b :: r, h, hr => by
    cases h with
    | cons h1 h2 => exact .cons ⟨h1, hr b (List.mem_cons_self ..) _ h1⟩ (eachV h2 fun c hc => hr c (List.mem_cons_of_mem _ hc))
theorem eachB {R : Value → PyData → Prop} : ∀ {its : List Value} {bs : List (V × PyData)}, PySem.W.EachIs (fun u (b : V × PyData) => RelV b.1 u ∧ R u b.2) its bs → Vals (bs.map (·.1)) its
  | _, _, .nil => .nil
  | _, _, .cons h t => .cons h.1 (eachB t)
theorem k_sortX0 (hu : X.A.units + 64 < cLine) : CallR X (.builtin "sorted") (rSortX X.K) := by
  intro pins s σ H vs us Q I r h
  obtain ⟨a, bs, rfl, hs, hd, hal, hk, q⟩ := h
  obtain ⟨its, rv, hl, hz⟩ := I.list hs
  rw [Vals.ref1 r]
  have e := eachV (R := fun u d => ∃ as, Reads s.heap u d as) rv fun b hb u ru => Dp.reads I b.2 b.1 u (hd b hb).1 ru
  have hlen : bs.length ≤ sizeLine := by rw [List.length_map] at hz; exact hz
  refine PySem.W.sorted_data (enc := fun b : V × PyData => b.2) hl.isList e (e.mono fun _ _ h => h.2) hal hk hlen (fun b hb => ?_) fun out ho eo => ?_
  · have := (hd b hb).2
    omega
  · obtain ⟨ep, he'⟩ := PyProof.Rows.sortedAll_at s.heap its out.toArray
    have hlen2 : ((bs.mergeSort (PySem.W.dataLe false (·.2))).map (·.1)).length ≤ sizeLine := by rw [List.length_map, List.length_mergeSort]; exact hlen
    exact ⟨.ref _, upd H (s.heap.objs.size + 1) (.lst ((bs.mergeSort (PySem.W.dataLe false (·.2))).map (·.1))), I.laid (t' := s.toks) (fun _ _ => PyProof.Rows.sortedAll_old) (Nat.le_succ _) ⟨hlen2, out, ep, eachB (R := fun u d => ∃ as, Reads s.heap u d as) eo, he'⟩, rfl, q _ (I.hok.fresh (Nat.le_succ _))⟩
/-- data compared -/
def rLtD (K : PySem.W.Frag) : R2 := fun x y H Q => ∃ d e, Dp K H x d ∧ Dp K H y e ∧ PySem.W.alike d e = true ∧ d ≠ .none ∧ d.depth ≤ 60 ∧ Q (.bl (PySem.W.dataLt d e)) H
def rLeD (K : PySem.W.Frag) : R2 := fun x y H Q => ∃ d e, Dp K H x d ∧ Dp K H y e ∧ PySem.W.alike d e = true ∧ d ≠ .none ∧ d.depth ≤ 60 ∧ Q (.bl (!PySem.W.dataLt e d)) H
theorem k_ltD0 (hu : X.A.units + 64 < cLine) : OpR X (compareOp .Lt) (rLtD X.K) := by
  intro pins s σ H x y v u Q I rx ry h
  obtain ⟨d, e, hd, he, ha, hn, hz, q⟩ := h
  obtain ⟨as, r1⟩ := Dp.reads I d x v hd rx
  obtain ⟨bs, r2⟩ := Dp.reads I e y u he ry
  exact PySem.W.rcLt_alike d e X.A s v u as bs r1 r2 ha hn (by have := Nat.min_le_left d.depth e.depth; omega) X.prog X.w X.xe (EP X pins σ Q) ⟨.bl _, H, I, rfl, q⟩
theorem k_leD0 (hu : X.A.units + 64 < cLine) : OpR X (compareOp .LtE) (rLeD X.K) := by
  intro pins s σ H x y v u Q I rx ry h
  obtain ⟨d, e, hd, he, ha, hn, hz, q⟩ := h
  obtain ⟨as, r1⟩ := Dp.reads I d x v hd rx
  obtain ⟨bs, r2⟩ := Dp.reads I e y u he ry
  exact PySem.W.rcLe_alike d e X.A s v u as bs r1 r2 ha hn (by have := Nat.min_le_left d.depth e.depth; omega) X.prog X.w X.xe (EP X pins σ Q) ⟨.bl _, H, I, rfl, q⟩
theorem k_sortX {K : PySem.W.Frag} (hu : X.A.units + 64 < cLine) (e : X.K = K) : CallR X (.builtin "sorted") (rSortX K) := e ▸ k_sortX0 hu
theorem k_ltD {K : PySem.W.Frag} (hu : X.A.units + 64 < cLine) (e : X.K = K) : OpR X (compareOp .Lt) (rLtD K) := e ▸ k_ltD0 hu
theorem k_leD {K : PySem.W.Frag} (hu : X.A.units + 64 < cLine) (e : X.K = K) : OpR X (compareOp .LtE) (rLeD K) := e ▸ k_leD0 hu
end
end Xk

/-! dicts whose keys are tuples: setdefault, sorted -/
namespace Xk
open PySem PySem.Spec PyProof.Rows L2
section
variable {X : Cx} {pins : List (Addr × Obj)} {σ : L2.St} {H : Hp} {s : Shared} {a b : Addr} {r : Value} {d : V} {k : List Key} {A : Around} {E : Value → Shared → Prop}
theorem d_setdT {kvs : List (List Key × V)} {Q : Value → Shared → Prop} (hu : A.units + 1 < cLine) (I : Inv X pins σ H s) (e : H a = some (.dT kvs)) (eb : H b = some (.tup (k.map kV))) (rd : RelV d r) (hl : kvs.length < sizeLine)
    (h1 : ∀ v, valV kvs k = some v → ∀ (w' : Value) (s' : Shared), Inv X pins σ H s' → RelV v w' → Q w' s') (h2 : valV kvs k = none → ∀ (w' : Value) (s' : Shared), Inv X pins σ (upd H a (.dT (putK kvs k d))) s' → RelV d w' → Q w' s') :
    wpAny (model X.prog X.w) A (call (.builtin "dict.setdefault") [.ref a, .ref b, r]) Q E s := by
  obtain ⟨z, hd, xs, rel, dd⟩ := dt_of I.hok e
  have hz : xs.length ≤ sizeLine := by rw [← Paired.length rel]; exact z
  refine call_setdefault_heap (knd := tupleKind (mixKind X.prog X.w)) (hsz := hz) (tupleKind_room_in1 hu) (key_of I.hok eb) hd dd (fun p hp => ?_) fun hn h' dd' hs => ?_
  · have q := rel.val k
    rw [hp] at q
    cases q0 : valV kvs k with
    | none =>
      rw [q0] at q
      exact (show False from q).elim
    | some v0 =>
      rw [q0] at q
      exact h1 v0 q0 _ _ (I.tok _) q
  · have q := rel.val k
    rw [hn] at q
    cases q0 : valV kvs k with
    | some v0 =>
      rw [q0] at q
      exact (show False from q).elim
    | none =>
      have hl2 : (putK kvs k d).length ≤ sizeLine := by
        have := length_putK kvs k d
        omega
      obtain ⟨q, es, ep, hq, g2, g3, g4, _, g5⟩ := dd'
      refine h2 q0 _ _ (d_write I (by rw [e]; exact True.intro) hs ⟨q, hq⟩ ⟨hl2, hd, _, (rel.put k eb rd).keeps fun c ys ec => ?_, q, es, ep, hq, g2, g3, g4, g5⟩) rd
      rw [upd_ne (ne_of ec e (fun z => nomatch z))]
      exact ec
end
/-- d.setdefault(y, z), tuple keys -/
def rDSetT (a : Addr) (y z : V) (Q : VK) (H3 : Hp) : Prop := ∃ (kvs : List (List Key × V)) (k : List Key) (b : Addr), H3 a = some (.dT kvs) ∧ y = .ref b ∧ H3 b = some (.tup (k.map kV)) ∧ kvs.length < sizeLine ∧
  (∀ v, valV kvs k = some v → Q v H3) ∧ (valV kvs k = none → Q z (upd H3 a (.dT (putK kvs k z))))
def tDSetT (td ty tx : TE) : TE := fun σ H Q => td σ H fun x H1 => ∃ a kvs, x = .ref a ∧ H1 a = some (.dT kvs) ∧ ty σ H1 fun y H2 => tx σ H2 fun z H3 => rDSetT a y z Q H3
section
variable {X : Cx} {o e f : Expr} {td ty tx : TE} {apos cpos : Pos}
theorem pe_dsetT (hu : X.A.units + 1 < cLine) (ho : PE X o td) (he : PE X e ty) (hf : PE X f tx) (m : M2 X o "setdefault" apos e f cpos) : PE X (.Call (.Attribute o "setdefault" apos) [e, f] [] cpos) (tDSetT td ty tx) := by
  refine ⟨fun pins s σ H Q I h => ?_⟩
  refine wpAny_Call_method m.base m.few m.line PySem.F.plainAttrs_dict PySem.F.slot_dict_setdefault PySem.F.type_dict_setdefault (thn (ho.run pins s σ H _ I h) fun u s1 ⟨x, H1, I1, rx, a, kvs, ex, d, q1⟩ => ?_)
  subst ex
  obtain rfl : u = Value.ref a := rx
  have hty : s1.TypeIs (.ref a) "dict" := by
    obtain ⟨_, _, xs, _, dd⟩ := dt_of I1.hok d
    exact dd.typeIs
  have hnd : ∀ b, Value.ref a = .ref b → ∃ ob, s1.heap.get? b = some ob ∧ ob.dict = none := fun b q => by
    cases q
    obtain ⟨_, _, xs, _, ob, _, _, h1, h2, _⟩ := dt_of I1.hok d
    exact ⟨ob, h1, h2.2.1⟩
  refine ⟨hty, hnd, ?_⟩
  rw [m.trees]
  refine Calls.callWith_builtin rfl (Calls.evalArgs_plain (Calls.spliced_cons (thn (he.run pins s1 σ H1 _ I1 q1) fun iv s2 ⟨y, H2, I2, ry, q2⟩ =>
    Calls.spliced_cons (thn (hf.run pins s2 σ H2 _ I2 q2) fun fv s3 ⟨z, H3, I3, rz, kvs, k, b, ea, ey, eb, hl, q3, q4⟩ => Calls.spliced_nil ?_))))
  subst ey
  obtain rfl : iv = Value.ref b := ry
  exact d_setdT hu I3 ea eb rz hl (fun v hv w' s4 I4 rw' => ⟨v, _, I4, rw', q3 v hv⟩) fun hn w' s4 I4 rw' => ⟨z, _, I4, rw', q4 hn⟩
end
/-- sorted(d), the keys tuples of ints: the keys' own tuples, ascending -/
def rSortT (xs : List V) (H : Hp) (Q : VK) : Prop := ∃ (d : Addr) (kvs : List (List Key × V)) (ks : List (List Int)), xs = [.ref d] ∧ H d = some (.dT kvs) ∧ kvs.map (·.1) = ks.map (fun k => k.map Sum.inl) ∧ (∀ k ∈ ks, k ≠ []) ∧ ks.length ≤ 1000 ∧
  ∀ (p : Addr) (zs : List (Addr × List Int)), H p = none → (zs.map (·.2)).Perm ks → (zs.map (·.2)).Pairwise (· ≤ ·) → (∀ z ∈ zs, H z.1 = some (.tup (z.2.map V.int))) → Q (.ref p) (upd H p (.lst (zs.map fun z => V.ref z.1)))
theorem kt_list {H : Hp} : ∀ {kvs : List (List Key × V)} {ts : List (List Key × Addr × Value)} {ks : List (List Int)}, KT H kvs ts → kvs.map (·.1) = ks.map (fun k => k.map Sum.inl) →
    ∃ L : List (Addr × List Int), L.map (·.1) = ts.map (fun x => x.2.1) ∧ L.map (·.2) = ks ∧ ∀ e ∈ L, H e.1 = some (.tup (e.2.map V.int))
  | [], _, ks, r, e => by
    cases r
    cases ks with
    | nil => exact ⟨[], rfl, rfl, fun e he => by cases he⟩
    | cons k r => cases e
  | p :: kvs, _, ks, r, e => by
    cases ks with
    | nil => cases e
    | cons k ks =>
      rw [List.map_cons, List.map_cons] at e
      injection e with e1 e2
      cases r with
      | @cons _ q _ qs h t =>
        obtain ⟨L, h1, h2, h3⟩ := kt_list t e2
        refine ⟨(q.2.1, k) :: L, by rw [List.map_cons, List.map_cons, h1], by rw [List.map_cons, h2], fun x hx => ?_⟩
        rcases List.mem_cons.mp hx with rfl | hx
        · have z := h.2.1
          rw [e1, List.map_map] at z
          exact z
        · exact h3 x hx
theorem reads_ints {h : Heap} : ∀ {ns : List Int} {us : List Value}, Vals (ns.map V.int) us → ReadsAll h us (ns.map PyData.int) []
  | [], _, r => by
    cases r
    exact .nil
  | n :: ns, _, r => by
    cases r with
    | cons r1 r2 =>
      obtain ⟨t, rfl⟩ := r1
      exact ReadsAll.cons (Reads.int n t) (reads_ints r2)
theorem tup_dataLe (x : Addr × List Int → List Int) : PySem.W.dataLe false (fun b : Addr × List Int => PyData.tuple ((x b).map .int)) = fun p q => decide (x p ≤ x q) := by
  rw [PySem.W.dataLe_eq]
  funext p q
  show (!PySem.W.dataLt _ _) = _
  rw [PySem.W.dataLt_tuple]
  have h := PySem.W.dataLt_ints (x q) (x p)
  unfold PySem.W.rowLt at h
  rw [h, ← decide_not]
  exact decide_eq_decide.mpr List.not_lt
section
variable {X : Cx}
theorem k_sortT (hcalm : X.calm = true) (hu : X.A.units + 64 < cLine) : CallR X (.builtin "sorted") rSortT := by
  intro pins s σ H xs us Q I r h
  obtain ⟨d, kvs, ks, rfl, hd, hks, hne, hl, q⟩ := h
  obtain ⟨u, rfl, rx⟩ := vals1 r
  cases rx
  obtain ⟨z, hs, ts, pr, o, es, ep, ho, hx, hdt, he, hn⟩ := (show ObjOk X.prog X.w H s.heap d (.dT kvs) from I.hok d _ hd)
  have l1 : es.size = ts.length := size_of_entries he
  have l2 : kvs.length = ts.length := Paired.length pr
  obtain ⟨L, hL1, hL2, hL3⟩ := kt_list pr hks
  have lL : L.length = ts.length := by
    have z := congrArg List.length hL1
    rw [List.length_map, List.length_map] at z
    exact z
  have lk : L.length ≤ 1000 := by
    have z := congrArg List.length hL2
    rw [List.length_map] at z
    omega
  have h16 : es.size ≤ sizeLine := by rw [l1, ← lL, sizeLine_eq]; omega
  refine Calls.call_function_entry PyProof.Rows.kind_sorted PyProof.Rows.plain_sorted PyProof.Rows.entry_sorted (PyProof.Rows.args_sorted1 _) ?_
  unfold Builtin.«sorted»
  refine wpAny_bind (m := checkCount "sorted" 1 1 _) (wpAny_pure ?_)
  refine wpAny_bind (PySem.W.kdu_collect (A := X.A.in1) (kdl_raw hs hx hdt) (I.ok.hd hcalm) ho h16 fun h' tk acc hk hacc => ?_)
  have ea : acc.toList = L.map fun x => Value.ref x.1 := by
    have hl : acc.toList.length = ts.length := by rw [Array.length_toList, hacc.1]; exact l1
    have e2 : (L.map fun x => Value.ref x.1) = ts.map fun x => Value.ref x.2.1 := by
      have z := congrArg (List.map Value.ref) hL1
      rw [List.map_map, List.map_map] at z
      exact z
    rw [e2]
    apply List.ext_getElem?
    intro j
    rw [List.getElem?_map]
    cases hj : acc.toList[j]? with
    | none =>
      have h1 := List.getElem?_eq_none_iff.mp hj
      rw [List.getElem?_eq_none (by omega)]
      all_goals rfl
    | some v =>
      obtain ⟨en, hen, hv⟩ := hacc.2 j v (by rw [← Array.getElem?_toList]; exact hj)
      have qe := entry_at he j
      rw [hen] at qe
      cases hb : ts[j]? with
      | none =>
        rw [hb] at qe
        exact nomatch (show some en = none from qe)
      | some b =>
        rw [hb] at qe
        have e2 : en = entryOfKey (tupleKind (mixKind X.prog X.w)) b := Option.some.inj qe
        rw [hv, e2]
        all_goals rfl
  have I1 : Inv X pins σ H { s with heap := h', toks := tk } := I.kept hk
  have hal : acc.toList.length = L.length := by rw [ea, List.length_map]
  refine wpAny_bind (wpAny_newList ?_ (by rw [hal, sizeLine_eq]; omega))
  have hoL : (h'.push (seqObj "list" acc.toList.toArray 0)).get? h'.objs.size = some (seqObj "list" acc.toList.toArray 0) := Heap.get?_push_size _ rfl
  show wpAny _ _ _ _ _ { s with heap := h'.push (seqObj "list" acc.toList.toArray 0), toks := tk }
  have er : PySem.W.EachIs (fun (v : Value) (b : Addr × List Int) => v = .ref b.1 ∧ ∃ as, Reads (h'.push (seqObj "list" acc.toList.toArray 0)) v (PyData.tuple (b.2.map .int)) as ∧ h'.objs.size ∉ as) acc.toList L := by
    rw [ea]
    have key : ∀ M : List (Addr × List Int), (∀ e ∈ M, H e.1 = some (.tup (e.2.map V.int))) → PySem.W.EachIs (fun (v : Value) (b : Addr × List Int) => v = .ref b.1 ∧ ∃ as, Reads (h'.push (seqObj "list" (L.map fun x => Value.ref x.1).toArray 0)) v (PyData.tuple (b.2.map .int)) as ∧ h'.objs.size ∉ as) (M.map fun x => Value.ref x.1) M := by
      intro M
      induction M with
      | nil => exact fun _ => .nil
      | cons e M ih =>
        intro hM
        refine .cons ⟨rfl, [], ?_, List.not_mem_nil⟩ (ih fun x hx => hM x (List.mem_cons_of_mem _ hx))
        obtain ⟨_, its, r, o, h1, h2, n, h3⟩ := (show ObjOk X.prog X.w H h' e.1 (.tup (e.2.map V.int)) from I1.hok _ _ (hM e (List.mem_cons_self ..)))
        exact Reads.tuple (Heap.get?_push_of_some _ h1) h2 h3 (by simpa using reads_ints r)
    exact key L hL3
  have enc1 : PySem.W.AllAlike (L.map fun b => PyData.tuple (b.2.map .int)) := PySem.W.AllAlike.of fun b b' => by
    show PySem.W.alikeAll _ _ = true
    exact PySem.W.alike_ints _ _
  have enc2 : PySem.W.Sortable (L.map fun b => PyData.tuple (b.2.map .int)) := .inl fun d hd => by
    obtain ⟨b, hb, rfl⟩ := List.mem_map.mp hd
    have hb2 : b.2 ≠ [] := hne _ (by rw [← hL2]; exact List.mem_map_of_mem (f := fun e : Addr × List Int => e.2) hb)
    cases e : b.2 with
    | nil => exact absurd e hb2
    | cons x r => exact ⟨_, _, rfl⟩
  refine wpAny_bind (wpAny_holding (PySem.W.list_sort_data (s := { s with heap := h'.push (seqObj "list" acc.toList.toArray 0), toks := tk }) (R := fun (v : Value) (b : Addr × List Int) => v = .ref b.1) (enc := fun b => PyData.tuple (b.2.map .int)) hoL (er.mono fun _ _ h => h.1) (er.mono fun _ _ h => h.2) enc1 enc2 (by rw [sizeLine_eq]; omega) (fun b _ => ?_) fun out ho2 eo => ?_))
  · have : (PyData.tuple (b.2.map .int)).depth = 1 := by
      rw [PyData.depth, PySem.W.depth_ints]
    have hA : X.A.in1.units ≤ X.A.units + 2 := by
      show _ ≤ _
      first
        | exact Nat.le_refl _
        | exact Nat.le_succ _
        | simp [Around.in1]
        | omega
    omega
  · obtain ⟨e', he'⟩ := PyProof.Rows.sortedHeap_at (vs := acc.toList) (out := out.toArray) hoL
    rw [tup_dataLe] at eo
    have perm : (L.mergeSort fun p q => decide (p.2 ≤ q.2)).Perm L := List.mergeSort_perm ..
    have ev : out = (L.mergeSort fun p q => decide (p.2 ≤ q.2)).map fun x => Value.ref x.1 := by
      have key : ∀ {o : List Value} {M : List (Addr × List Int)}, PySem.W.EachIs (fun (v : Value) (b : Addr × List Int) => v = .ref b.1) o M → o = M.map fun x => Value.ref x.1 := fun e => by
        induction e with
        | nil => rfl
        | cons h t ih => rw [List.map_cons, ← ih, h]
      exact key eo
    have pw : (L.mergeSort fun p q => decide (p.2 ≤ q.2)).Pairwise fun p q => p.2 ≤ q.2 := by
      refine (List.pairwise_mergeSort (fun a b c h1 h2 => ?_) (fun a b => ?_) L).imp fun h => of_decide_eq_true h
      · exact decide_eq_true (List.le_trans (of_decide_eq_true h1) (of_decide_eq_true h2))
      · rw [Bool.or_eq_true]
        rcases List.le_total a.2 b.2 with h | h
        · exact .inl (decide_eq_true h)
        · exact .inr (decide_eq_true h)
    generalize (L.mergeSort fun p q => decide (p.2 ≤ q.2)) = zs at *
    have lz : (zs.map fun z => V.ref z.1).length ≤ sizeLine := by rw [List.length_map, perm.length_eq, sizeLine_eq]; omega
    have vz : Vals (zs.map fun z => V.ref z.1) out := by
      rw [ev]
      have key := vals_refs (zs.map fun z => z.1)
      rw [List.map_map, List.map_map] at key
      exact key
    refine wpAny_pure ⟨_, rfl, .ref h'.objs.size, upd H h'.objs.size (.lst (zs.map fun z => V.ref z.1)), I1.laid (t' := tk) (fun b u e => ?_) (Nat.le_refl _)
      (show ObjOk X.prog X.w _ _ _ (.lst (zs.map fun z => V.ref z.1)) from ⟨lz, out, e', vz, he'⟩), rfl, q _ zs (I1.hok.fresh (Nat.le_refl _)) (by rw [← hL2]; exact perm.map _) (by rw [List.pairwise_map]; exact pw) fun z hz => hL3 z (perm.mem_iff.mp hz)⟩
    have hb : b < h'.objs.size := Heap.lt_size e
    rw [PyProof.Rows.sortedHeap_old (Nat.ne_of_lt hb) (by rw [size_push']; exact Nat.lt_succ_of_lt hb)]
    exact Heap.get?_push_of_some _ e
end
/-! ### set(xs) of a list of ints -/
abbrev nset (w : World) : Obj := { cls := .type "set", dict := none, data := .set #[] 0 (.fresh 0 0 (!w.params.followText "set-order")) }
section
variable {P : Program} {w : World} {A : Around} {E : Value → Shared → Prop} {s : Shared}
theorem madeI {l : Addr} {items : Array Value} {xs : List Int} {Q : Value → Shared → Prop} (hh : A.handled = none) (hl : s.heap.IsList l items) (hi : IntsAre items.toList xs) (room : xs.length + 1 < scanBound)
    (q : ∀ (h' : Heap) (tk c : Nat), SetR w h' s.heap.objs.size (fun j => decide (j ∈ xs)) c → c ≤ xs.length → (∀ b o, s.heap.get? b = some o → h'.get? b = some o) → Q (.ref s.heap.objs.size) { s with heap := h', toks := tk }) :
    wpAny (model P w) A (call (.type "set") [.ref l]) Q E s := by
  have isz : items.size = xs.length := by rw [← IntsAre.length hi, Array.length_toList]
  obtain ⟨c, tl, hmro⟩ := PySem.F.called_set.mro
  have g1 := PySem.F.called_set.made
  have g2 := PySem.F.called_set.sub
  have g3 := PySem.F.called_set.notType
  have g4 := PySem.F.called_set.canCreate
  have g5 := PySem.F.typeCall_set_1 (.ref l)
  refine wpAny_call (codeAny_of_tree ?_)
  show wpAny _ _ (callAny (.type "set") _) _ _ _
  refine wpAny_pure ⟨Code.quiet_builtin _ (by decide +kernel), codeAny_builtin PySem.F.entry_type_call ?_⟩
  rw [Around.under_plain (weight_type_call_type "set" [.ref l] []) rfl]
  repeat (any_goals (first | assumption | wp_step))
  refine codeAny_mono (code_set_led1 (.ref l) (E := E) (Q₁ := fun ob s₁ => ob = .ref s.heap.objs.size ∧ s₁ = { s with heap := s.heap.push (nset w) }) ⟨rfl, rfl⟩) fun r s₁ hr => ?_
  cases r with
  | error e => exact hr
  | ok fl =>
    cases fl with
    | ret ob =>
      obtain ⟨rfl, rfl⟩ := hr
      have hS : (s.heap.push (nset w)).get? s.heap.objs.size = some (nset w) := Heap.get?_push_size _ rfl
      have hT : Shared.TypeIs { s with heap := s.heap.push (nset w) } (.ref s.heap.objs.size) "set" := ⟨_, hS, rfl⟩
      have g6 := PySem.F.called_set.init.lookup
      have g7 := PySem.F.called_set.init.bind (.ref s.heap.objs.size)
      repeat (any_goals (first | assumption | wp_step))
      refine codeAny_mono (codeAny_call_builtin (R := wants (fun r s₂ => r = .none ∧ ∃ h' tk c, s₂ = { s with heap := h', toks := tk } ∧ SetR w h' s.heap.objs.size (fun j => decide (j ∈ xs)) c ∧ c ≤ xs.length ∧ ∀ b o, s.heap.get? b = some o → h'.get? b = some o) E)
        PySem.F.called_set.init.plain PySem.F.entry_set_init (check_set_init_1 hT ?_)) fun r₂ s₂ hr₂ => ?_
      · obtain ⟨⟨ocls, odict, odata, oslots⟩, hol, hcl, nl, hdl⟩ := hl
        simp only at hcl hdl
        subst hcl hdl
        have hol2 : (s.heap.push (nset w)).get? l = some { cls := .type "list", dict := odict, data := .seq items nl, slots := oslots } := Heap.get?_push_of_some _ hol
        have t1 := PySem.F.sub_list_set
        have t2 := PySem.F.sub_list_frozenset
        have t3 : (Value.type "list" == Value.type "dict") = false := by decide
        have hl1 : (s.heap.push (nset w)).IsList l items := ⟨_, hol2, rfl, nl, rfl⟩
        unfold Builtin.«set.__init__» noKeywords Builtin.Frozenset.updateFrom
        generalize hPI : pyIter = PI
        wp_walk
        subst hPI
        refine wpAny_pyIter_list hl1 (wpAny_bind (wpAny_runValue ?_))
        have lS : l < s.heap.objs.size := Heap.lt_size hol
        have h3 : A.in1.in1.in1.handled = none := by simp [hh]
        have z1 : (s.heap.push (nset w)).objs.size = s.heap.objs.size + 1 := Heap.size_push ..
        have nI : l ≠ (s.heap.push (nset w)).objs.size := by
          rw [z1]
          exact Nat.ne_of_lt (Nat.lt_succ_of_lt lS)
        have nS : s.heap.objs.size ∉ [(s.heap.push (nset w)).objs.size, l] := by
          rw [z1]
          simp only [List.mem_cons, List.not_mem_nil, or_false, not_or]
          exact ⟨Nat.ne_of_lt (Nat.lt_succ_self _), Nat.ne_of_gt lS⟩
        have vl : ∀ (i : Nat) (v : Value), items[i]? = some v → ∃ z u, xs[i]? = some z ∧ v = .int z u := fun i v hv => by
          obtain ⟨u, e⟩ := PyProof.Rows.IntsAre.int_at hi i v (by rw [Array.getElem?_toList]; exact hv)
          have lt : i < xs.length := by
            obtain ⟨b, _⟩ := Array.getElem?_eq_some_iff.mp hv
            omega
          exact ⟨xs.getD i 0, u, by rw [List.getD_eq_getElem?_getD, List.getElem?_eq_getElem lt]; rfl, e⟩
        refine set_update_ints ((Walks.list h3 _ l nI items).toS) s.heap.objs.size nS xs isz (by omega) vl (items.size - 0) 0 _ (by omega) (Nat.zero_le _) ⟨⟨_, Heap.get?_push_size _ rfl, rfl, rfl⟩, (hl1.push _)⟩ ?hS0 ?hR
        case hS0 => exact ⟨0, Nat.le_refl 0, setR_new_at (Heap.get?_push_of_some _ hS)⟩
        case hR =>
          rintro ⟨h', g', d', tk', os'⟩ c mv r2 r1
          obtain rfl : g' = s.gens := mv.gens
          obtain rfl : d' = s.drawn := mv.drawn
          obtain rfl : os' = s.os := mv.os
          show wpAny _ _ _ _ _ _
          refine wpAny_pure (wpAny_pure ⟨rfl, h', tk', c, rfl, r1, isz ▸ r2, fun b o e => ?_⟩)
          have lb := Heap.lt_size e
          refine mv.heap b o ?_ (Heap.get?_push_of_some _ (Heap.get?_push_of_some _ e))
          simp only [List.mem_cons, List.not_mem_nil, or_false, not_or]
          exact ⟨Nat.ne_of_lt lb, by rw [z1]; exact Nat.ne_of_lt (Nat.lt_succ_of_lt lb)⟩
      · cases r₂ with
        | error e => exact hr₂
        | ok fl₂ =>
          cases fl₂ with
          | ret r =>
            obtain ⟨rfl, h', tk, c, rfl, r1, r2, r3⟩ := hr₂
            repeat (any_goals (first | assumption | wp_step))
            exact q _ _ _ r1 r2 r3
          | _ => exact hr₂.elim
    | _ => exact hr.elim
end
def rSetOfL (K : PySem.W.Frag) (w : World) : List V → Hp → VK → Prop := fun vs H Q => ∃ (p : Addr) (ns : List Int), vs = [V.ref p] ∧ SqL K H p (ns.map V.int) ∧ ns.length ≤ 1000 ∧ ∀ a n, H a = none → n ≤ ns.length → Q (.ref a) (upd H a (SetO w a (fun j => decide (j ∈ ns)) n))
theorem cr_setOfL {X : Cx} (hc : X.calm = true) : CallR X (.type "set") (rSetOfL X.K X.w) := by
  intro pins s σ H xs us Q I r h
  obtain ⟨p0, ns, rfl, hq, hl, q⟩ := h
  cases r with
  | cons r rr =>
    cases rr
    cases r
    obtain ⟨its, rv, pt, hz⟩ := I.list hq
    have hi : IntsAre its.toArray.toList ns := ints_of_vals rv
    refine madeI (I.ok.hd hc) pt.isList hi (by unfold scanBound; omega) fun h' tk c R1 hcn k => ?_
    exact ⟨.ref _, upd H s.heap.objs.size (SetO X.w s.heap.objs.size (fun j => decide (j ∈ ns)) c), I.laid (t' := tk) k (Nat.le_refl _) (setO_new R1), rfl, q _ _ (I.hok.fresh (Nat.le_refl _)) hcn⟩
theorem k_setOfL {X : Cx} {K : PySem.W.Frag} {w : World} (hc : X.calm = true) (e : X.K = K) (e' : X.w = w) : CallR X (.type "set") (rSetOfL K w) := e ▸ e' ▸ cr_setOfL hc
theorem x_setOfL {K : PySem.W.Frag} {H : Hp} {Q : VK} {w : World} {p : Addr} {ns : List Int} (h : SqL K H p (ns.map V.int)) (hl : ns.length ≤ 1000) (k : ∀ a H2 n, Fr a H → Same H H2 → H2 a = some (SetO w a (fun j => decide (j ∈ ns)) n) → n ≤ ns.length → Q (.ref a) H2) : rSetOfL K w [.ref p] H Q :=
  ⟨p, ns, rfl, h, hl, fun a n h1 h2 => k a _ n ⟨h1⟩ (same_new h1) upd_same h2⟩
/-! ### list(d.values()) -/
def tListVals (td : TE) : TE := fun σ H Q => td σ H fun x H1 => ∃ a kvs, x = V.ref a ∧ H1 a = some (.dK kvs) ∧ ∀ p, H1 p = none → Q (.ref p) (upd H1 p (.lst (kvs.map (·.2))))
theorem vals_kv : ∀ {kvs : List (L2.Key × V)} {vs : List (L2.Key × Value)}, KV kvs vs → Vals (kvs.map (·.2)) (vs.map (·.2))
  | [], _, r => by
    cases r
    exact .nil
  | p :: kvs, _, r => by
    cases r with
    | cons h t => exact .cons h.2 (vals_kv t)
section
variable {X : Cx} {o : Expr} {p pos apos mpos : Pos} {td : TE}
theorem pe_listVals (hc : X.calm = true) (hg : Gl X "list") (hm : X.mg "list" = none) (hd : PE X o td) (hbase : attributeBase o "values" X.env (eval o X.env) = eval o X.env := by rfl) (hline : (apos.endLine == mpos.line) = true := by rfl)
    (hse : starEach [Expr.Call (.Attribute o "values" apos) [] [] mpos] X.env = [(false, eval (Expr.Call (.Attribute o "values" apos) [] [] mpos) X.env)] := by rfl) :
    PE X (.Call (.Name "list" p) [.Call (.Attribute o "values" apos) [] [] mpos] [] pos) (tListVals td) := by
  refine ⟨fun pins s σ H Q I h => ?_⟩
  refine wpAny_Call_Name_kw (ld_blt I hg hm (u := .type "list") (by first | rfl | decide +kernel) ?_ (by first | decide +kernel | decide) (by first | decide +kernel | decide))
  rw [hse]
  refine PySem.callWith_type1 (wpAny_Call_method0_late hbase hline (thn (hd.run pins s σ H _ I h) fun v s1 ⟨x, H1, I1, r1, a, kvs, ex, ha, q⟩ => ?_))
  subst ex
  obtain rfl : v = Value.ref a := r1
  obtain ⟨hz, hsys, vs, rel, dof⟩ := dk_of I1.hok ha
  obtain ⟨ep, dat⟩ := dof.dictAt
  have dat' := dat
  obtain ⟨ob, es, ho, ex, hdat, hko, hpr, hnd⟩ := dat'
  refine ⟨"dict", "dict.values", PySem.F.plainAttrs_dict, PySem.F.slot_dict_values, PySem.F.type_dict_values, ⟨ob, ho, ex.1⟩, fun b e => ?_, Calls.callWith_builtin rfl (PySem.evalArgs_none ?_)⟩
  · cases e
    exact ⟨ob, ho, ex.2.1⟩
  refine call_meetsIn PySem.F.slot_dict_values ⟨ob, ho, ex.1⟩ PySem.F.entry_dict_values (PySem.F.args_dict_values_1 _) (meets_dict_values (mixKind X.prog X.w) a hsys) ⟨⟨vs, dof⟩, ?_⟩
  have k1 : ∀ b u, s1.heap.get? b = some u → (s1.heap.push { cls := .type "dict_values", data := .fields #[.ref a] }).get? b = some u := fun b u e => Heap.get?_push_of_some _ e
  have dat1 : (s1.heap.push { cls := .type "dict_values", data := .fields #[.ref a] }).DictAt (mixKind X.prog X.w) a vs ep := dat.keep k1
  have hlv : vs.length = kvs.length := (KV.length rel).symm
  have hlt : a < s1.heap.objs.size := Heap.lt_size ho
  refine PySem.W.kdl_call (s := { s1 with heap := s1.heap.push { cls := .type "dict_values", data := .fields #[.ref a] } }) (PySem.W.kdl_values (knd := mixKind X.prog X.w) (r := s1.heap.objs.size) (d := a) (kvs := vs) (ep := ep)) (I.ok.hd hc) ⟨⟨_, Heap.get?_push_size _ rfl, rfl, rfl⟩, dat1⟩ (by rw [hlv]; exact hz) fun h' tk acc' c' kp e it => ?_
  have ea : acc'.toList = vs.map (·.2) := by
    have hl : acc'.toList.length = vs.length := by rw [Array.length_toList, it.1]
    apply List.ext_getElem?
    intro j
    rw [List.getElem?_map]
    cases hj : acc'.toList[j]? with
    | none =>
      have h1 := List.getElem?_eq_none_iff.mp hj
      rw [List.getElem?_eq_none (by omega)]
      rfl
    | some v =>
      obtain ⟨k, hk⟩ := it.2 j v (by rw [← Array.getElem?_toList]; exact hj)
      rw [hk]
      rfl
  have hsz : (s1.heap.push { cls := .type "dict_values", data := .fields #[.ref a] }).objs.size = s1.heap.objs.size + 1 := Heap.size_push _ _
  have rv : Vals (kvs.map (·.2)) acc'.toList := by
    rw [ea]
    exact vals_kv rel
  refine ⟨.ref _, upd H1 (s1.heap.push { cls := .type "dict_values", data := .fields #[.ref a] }).objs.size (.lst (kvs.map (·.2))), I1.laid (t' := tk) (fun b u e => kp b u (k1 b u e)) (by rw [hsz]; exact Nat.le_succ _) ⟨by rw [List.length_map]; exact hz, acc'.toList, c', rv, by rw [Array.toArray_toList]; exact e⟩, rfl, q _ (I1.hok.fresh (by rw [hsz]; exact Nat.le_succ _))⟩
end
end Xk

namespace Xk
open PySem PySem.Spec PyProof.Rows L2
section
variable {X : Cx}
/-- max(xs) of a list of data of one shape, not empty: an item whose data is the greatest -/
def rMaxX (K : PySem.W.Frag) : List V → Hp → VK → Prop := fun vs H Q => ∃ (a : Addr) (b : V × PyData) (bs : List (V × PyData)), vs = [V.ref a] ∧ SqL K H a ((b :: bs).map (·.1)) ∧ (∀ c ∈ b :: bs, Dp K H c.1 c.2 ∧ c.2.depth ≤ 9) ∧
  PySem.W.AlikeAll ((b :: bs).map (·.2)) ∧ ∀ c ∈ b :: bs, c.2 = PySem.W.maxD b.2 (bs.map (·.2)) → Q c.1 H
theorem readsAll_of {h : Heap} : ∀ {its : List Value} {bs : List (V × PyData)}, PySem.W.EachIs (fun u (b : V × PyData) => RelV b.1 u ∧ ∃ as, Reads h u b.2 as) its bs → ∃ as, ReadsAll h its (bs.map (·.2)) as
  | _, _, .nil => ⟨_, .nil⟩
  | _, _, .cons h t => by
    obtain ⟨_, _, r⟩ := h
    obtain ⟨_, rs⟩ := readsAll_of t
    exact ⟨_, .cons r rs⟩
theorem each_at {R : Value → V × PyData → Prop} : ∀ {its : List Value} {bs : List (V × PyData)} {i : Nat} {u : Value}, PySem.W.EachIs R its bs → its[i]? = some u → ∃ b ∈ bs, R u b
  | _, _, _, _, .nil, e => by cases e
  | _, _, 0, _, .cons h _, e => ⟨_, List.mem_cons_self .., Option.some.inj (show some _ = some _ from e) ▸ h⟩
  | _, _, i + 1, _, .cons _ t, e => by
    obtain ⟨b, hb, r⟩ := each_at (i := i) t (by simpa using e)
    exact ⟨b, List.mem_cons_of_mem _ hb, r⟩
theorem depth9 : ∀ {bs : List (V × PyData)}, (∀ c ∈ bs, c.2.depth ≤ 9) → PyData.depthAll (bs.map (·.2)) ≤ 9
  | [], _ => Nat.zero_le _
  | b :: r, h => Nat.max_le.mpr ⟨h b (List.mem_cons_self ..), depth9 fun c hc => h c (List.mem_cons_of_mem _ hc)⟩
theorem k_maxX0 (hc : X.calm = true) (hu : X.A.units + 64 < cLine) : CallR X (.builtin "max") (rMaxX X.K) := by
  intro pins s σ H vs us Q I r h
  obtain ⟨a, b, bs, rfl, hs, hd, hal, q⟩ := h
  obtain ⟨its, rv, hl, hz⟩ := I.list hs
  rw [Vals.ref1 r]
  have e := eachV (R := fun u d => ∃ as, Reads s.heap u d as) rv fun c hc u ru => Dp.reads I c.2 c.1 u (hd c hc).1 ru
  obtain ⟨as, ra⟩ := readsAll_of e
  have dp := depth9 fun c hc => (hd c hc).2
  refine PySem.W.max_list_data (I.ok.hd hc) hl.isList (x := b.2) (xs := bs.map fun c : V × PyData => c.2) (as := as) (by simpa using ra) hal (by have dp' : PyData.depthAll (b.2 :: bs.map (·.2)) ≤ 9 := dp; omega) fun i v h' tk bs' hv rd hk => ?_
  obtain ⟨c, hc', r1, as1, r2⟩ := each_at e (by simpa using hv)
  have ed := (PyProof.Rows.reads_det (fun b o e _ => hk b o e) r2 rd).1
  exact ⟨c.1, H, I.kept hk, r1, q c hc' ed.symm⟩
theorem k_maxX {K : PySem.W.Frag} (hc : X.calm = true) (hu : X.A.units + 64 < cLine) (e : X.K = K) : CallR X (.builtin "max") (rMaxX K) := e ▸ k_maxX0 hc hu
theorem setR_le {w : World} {h : Heap} {a : Addr} {S : Int → Bool} {n : Nat} (R : SetR w h a S n) {ms : List Int} (hs : ∀ k, S k = true → k ∈ ms) : n ≤ ms.length := by
  obtain ⟨o, es, ep, t, _, _, _, _, nd, mem, _, _, rfl, _⟩ := R
  have z := nd.length_le_of_subset (l₂ := ms) fun k hk => hs k ((mem k).mpr hk)
  rw [List.length_map, Array.length_toList] at z
  exact z
def rSetOfM (K : PySem.W.Frag) (w : World) : List V → Hp → VK → Prop := fun vs H Q => ∃ (p : Addr) (ns : List Int), vs = [V.ref p] ∧ SqL K H p (ns.map V.int) ∧ ns.length ≤ 1000 ∧ ∀ a n, H a = none → (∀ ms : List Int, (∀ x ∈ ns, x ∈ ms) → n ≤ ms.length) → Q (.ref a) (upd H a (SetO w a (fun j => decide (j ∈ ns)) n))
theorem cr_setOfM (hc : X.calm = true) : CallR X (.type "set") (rSetOfM X.K X.w) := by
  intro pins s σ H xs us Q I r h
  obtain ⟨p0, ns, rfl, hq, hl, q⟩ := h
  cases r with
  | cons r rr =>
    cases rr
    cases r
    obtain ⟨its, rv, pt, hz⟩ := I.list hq
    have hi : IntsAre its.toArray.toList ns := ints_of_vals rv
    refine madeI (I.ok.hd hc) pt.isList hi (by unfold scanBound; omega) fun h' tk c R1 hcn k => ?_
    exact ⟨.ref _, upd H s.heap.objs.size (SetO X.w s.heap.objs.size (fun j => decide (j ∈ ns)) c), I.laid (t' := tk) k (Nat.le_refl _) (setO_new R1), rfl, q _ _ (I.hok.fresh (Nat.le_refl _)) fun ms hm => setR_le R1 fun k hk => hm k (of_decide_eq_true hk)⟩
theorem k_setOfM {K : PySem.W.Frag} {w : World} (hc : X.calm = true) (e : X.K = K) (e' : X.w = w) : CallR X (.type "set") (rSetOfM K w) := e ▸ e' ▸ cr_setOfM hc
theorem x_setOfM {K : PySem.W.Frag} {H : Hp} {Q : VK} {w : World} {p : Addr} {ns : List Int} (h : SqL K H p (ns.map V.int)) (hl : ns.length ≤ 1000) (k : ∀ a H2 n, Fr a H → Same H H2 → H2 a = some (SetO w a (fun j => decide (j ∈ ns)) n) → (∀ ms : List Int, (∀ x ∈ ns, x ∈ ms) → n ≤ ms.length) → Q (.ref a) H2) : rSetOfM K w [.ref p] H Q :=
  ⟨p, ns, rfl, h, hl, fun a n h1 h2 => k a _ n ⟨h1⟩ (same_new h1) upd_same h2⟩
theorem k_slT {K : PySem.W.Frag} (e : X.K = K) : SlR X (rSlA K) := e ▸ sl_tupA
theorem k_catT {K : PySem.W.Frag} (e : X.K = K) : OpR X (binaryOp .Add) (rCatA K) := e ▸ op_catA
end
/-! e.f op= value -/
def rFldA (K : PySem.W.Frag) (tv : TE) (rd : V → V → Hp → VK → Prop) (f : Str) (σ : L2.St) (R : Hp → Prop) : VK := fun x H1 => ∃ a C dx fs v, x = .ref a ∧ H1 a = some (.ins C dx fs) ∧ Cls K C ∧ NoAttr K C f ∧ fs.lookup f = some v ∧
  tv σ H1 fun y H2 => rd v y H2 fun z H3 => ∃ dx' fs', H3 a = some (.ins C dx' fs') ∧ fs'.length < 1000 ∧ R (upd H3 a (.ins C dx' (putF f z fs')))
theorem x_sfldaug {K : PySem.W.Frag} {ta tv : TE} {rd : V → V → Hp → VK → Prop} {f : Str} {D : Ends} {σ : L2.St} {H : Hp} (q : ta σ H (rFldA K tv rd f σ (D.nx σ))) : sFldAug K ta tv rd f D σ H := q
theorem x_ssfldaug {K : PySem.W.Frag} {ta tv : TE} {rd : V → V → Hp → VK → Prop} {f : Str} {D : Ends} {σ : L2.St} {H : Hp} {tz : TS} (q : ta σ H (rFldA K tv rd f σ fun H2 => tz D σ H2)) : tSeq (sFldAug K ta tv rd f) tz D σ H := q
end Xk

/-! dict comprehensions whose keys are tuples -/
namespace Xk
open PySem PySem.Spec PyProof.Rows L2
section
variable {X : Cx} {pp : List (Addr × Obj)} {r0 : L2.St} {G : Hp} {sh : Shared}
/-- the comprehension's store -/
theorem d_storeT {Qd : Unit → Shared → Prop} {Ed : Value → Shared → Prop} {D : Addr} {y z : V} {u t : Value} {G' : Hp} (hu : X.A.units + 1 < cLine) (I : Inv X pp r0 G sh) (g : DPut G D y z G') (ry : RelV y u) (rz : RelV z t)
    (fin : ∀ s2, Inv X pp r0 G' s2 → Qd () s2) : wpAny (model X.prog X.w) X.A (dictSet D u t) Qd Ed sh := by
  rcases g with ⟨m, k, e, ey, l, eH⟩ | ⟨m, k, b, e, ey, eb, l, eH⟩
  · subst ey eH
    exact d_dictSet I e l ry rz fin
  · subst ey eH
    cases (show u = Value.ref b from ry)
    obtain ⟨n, hd, xs, rel, dd⟩ := dt_of I.hok e
    have n2 := length_putK m k z
    refine wpAny_dictSet_heap (hsz := by rw [← Paired.length rel]; exact n) (show X.A.units < cLine from Nat.lt_of_succ_lt hu) (key_of I.hok eb) dd fun h2 d2 sb => fin _ ?_
    obtain ⟨q, es, ep, hq, q1, q2, q3, _, q4⟩ := d2
    have st : KT (upd G D (.dT (putK m k z))) (putK m k z) _ := (rel.put k eb rz).keeps fun c ys ec => by
      rw [upd_ne (ne_of ec e (fun w => nomatch w))]
      exact ec
    exact d_write I (by rw [e]; exact True.intro) sb ⟨q, hq⟩ ⟨by omega, hd, _, st, q, es, ep, hq, q1, q2, q3, q4⟩
/-- what a turn of the comprehension must do -/
def DcTurn (g : TG) (tt : TT) (tk tv : TE) (vs : List Nat) (r0 : L2.St) (D : Addr) (Nx : Hp → Prop) (x : V) : Hp → Prop := fun G1 =>
  g x (wipe r0 vs) G1 fun r2 G2 => wipe r2 vs = wipe r0 vs ∧ tt r2 G2 fun b G3 =>
    if b = true then tk r2 G3 fun y G4 => tv r2 G4 fun z G5 => ∃ G6, DPut G5 D y z G6 ∧ Nx G6 else Nx G3
/-- what an iterator must let it do, from the new dict on -/
def DcRun (J : It) (g : TG) (tt : TT) (tk tv : TE) (vs : List Nat) (r0 : L2.St) (Q : VK) (G1 : Hp) : Prop :=
  ∀ D, G1 D = none → ∃ W : Nat → Nat → Hp → Prop, (∃ m, W 0 m (upd G1 D (.dT []))) ∧ ∀ i m G2, W i m G2 →
    (J.stop i G2 ∧ Q (.ref D) G2) ∨ (J.go i G2 ∧ ∃ Nx : Hp → Prop, (∀ G3, Nx G3 → ∃ m', m' < m ∧ W (i + 1) m' G3) ∧ ∀ x G3, J.yld i G2 x G3 → DcTurn g tt tk tv vs r0 D Nx x G3)
/-- {(k1, k2): v for target in iter if ..} -/
def tDcT (wi : TI) (g : TG) (tt : TT) (tk tv : TE) (vs : List Nat) : TE := fun r0 G Q => wi r0 G fun J G1 => DcRun J g tt tk tv vs r0 Q G1
abbrev Blk (X : Cx) (scope : Scope) (F : Cx → Prop) : Prop :=
  ∀ (s1 : Shared) (G1 : Hp) (C : Addr) (cl : List (Str × Addr)) (fp : List Addr), F (X.blk s1 G1 scope (compEnvC scope cl C X.env) fp)
theorem dcT_core {Q : VK} {kx vx tg itx : Expr} {cs : List Expr} {scope : Scope} {own : List (Str × Nat)} {p1 p2 : Pos} {wi : TI} {g : TG} {tt : TT} {tk tv : TE} {us : Option (Value → Sem Unit)} {Qf : Value → Shared → Prop}
    (hc : X.calm = true) (hu : X.A.units + 1 < cLine) (hN : X.N.Nodup) (I : Inv X pp r0 G sh) (hi : PI X tg itx wi) (ok : BlkOk X.N X.env.scope scope own)
    (hg : Blk X scope fun Y => PG Y tg g) (ht : Blk X scope fun Y => PTs Y cs tt) (hk : Blk X scope fun Y => PE Y kx tk) (he : Blk X scope fun Y => PE Y vx tv)
    (hs : ∀ x, foldedSetIterable itx X.env x = pure x) (h : tDcT wi g tt tk tv (own.map (·.2)) r0 G Q)
    (out : ∀ D C s1 m G1, Inv X pp r0 G1 s1 → Q (.ref D) G1 → s1.heap.Ns C m → FpOk X pp G1 C → compPost (model X.prog X.w) X.A X.xe us Qf (.ref D) C (.ok .next) s1) :
    wpAny (model X.prog X.w) X.A (comprehension (.DictComp kx vx [⟨tg, itx, cs, 0⟩] scope p1) scope X.env p2 newDict false (eval itx X.env) us) Qf X.xe sh := by
  have cells : ∀ nm ∈ scope.names, nm.2 = .free → ∃ c, X.env.cells.lookup nm.1 = some c := fun nm hn e =>
    (ok.free nm hn e).elim (fun k => I.ok.has _ (.inl k)) fun k => I.ok.has _ (.inr k)
  refine wpAny_comprehension_free (use := us) rfl hs (closure_ok cells) ok.kind (fun nm hn e => by rw [ok.uniq nm hn, e]) ?_
  refine thn (hi.run pp sh r0 G _ I h) fun xv s1 hx => thn hx fun itv s2 got => ?_
  obtain ⟨it, fp, tn, J, G2, ei, I2, T, at2, free2, run⟩ := got
  subst ei
  refine wpAny_newObj_type (newEnv_comp ?_)
  generalize hD : s2.heap.objs.size = D
  have nD : G2 D = none := I2.hok.fresh (Nat.le_of_eq hD)
  obtain ⟨W, ⟨m0, w0⟩, turn⟩ := run D nD
  generalize es3 : ({ s2 with heap := s2.heap.push { cls := .type "dict", data := .dict #[] } } : Shared) = s3
  have hp3 : s3.heap = s2.heap.push { cls := .type "dict", data := .dict #[] } := by rw [← es3]
  have I3 : Inv X pp r0 (upd G2 D (.dT [])) s3 := by
    rw [← es3]
    refine I2.laid (t' := s2.toks) (fun b o z => Heap.get?_push_of_some _ z) (Nat.le_of_eq hD) ?_
    rw [← hD]
    exact dt_empty s2.heap I2.big
  have below : ∀ b ∈ fp, b < s2.heap.objs.size := fun b hb => (T.obj _ _ at2 b hb).elim fun o z => Heap.lt_size z.1
  have fp3 : ∀ b ∈ fp, FpOk X pp (upd G2 D (.dT [])) b ∧ b < s3.heap.objs.size := fun b hb => by
    have lt := below b hb
    have nb : b ≠ D := by rw [← hD]; exact Nat.ne_of_lt lt
    exact ⟨⟨(upd_ne nb).trans (free2 b hb).1, (free2 b hb).2⟩, by rw [hp3, Heap.size_push]; exact Nat.lt_succ_of_lt lt⟩
  have at3 : tn 0 s3.heap := T.keep _ _ _ at2 fun b _ o z => by rw [hp3]; exact Heap.get?_push_of_some _ z
  have I4 := block_start I3 ok hN fp3
  have dg := hg s3 (upd G2 D (.dT [])) s3.heap.objs.size (cellsFrom (s3.heap.objs.size + 1) scope.names (cloFrom X.env.cells scope.names [])) fp
  have dt := ht s3 (upd G2 D (.dT [])) s3.heap.objs.size (cellsFrom (s3.heap.objs.size + 1) scope.names (cloFrom X.env.cells scope.names [])) fp
  have dk := hk s3 (upd G2 D (.dT [])) s3.heap.objs.size (cellsFrom (s3.heap.objs.size + 1) scope.names (cloFrom X.env.cells scope.names [])) fp
  have dv := he s3 (upd G2 D (.dT [])) s3.heap.objs.size (cellsFrom (s3.heap.objs.size + 1) scope.names (cloFrom X.env.cells scope.names [])) fp
  have nfp : ∀ b ∈ fp, (upd G2 D (.dT [])) b = none := fun b hb => (fp3 b hb).1.1
  show codeAny _ _ (.compStart (.DictComp kx vx [⟨tg, itx, cs, 0⟩] scope p1) 0 (.ref it) (.ref D) (compEnvC scope (cellsFrom (s3.heap.objs.size + 1) scope.names (cloFrom X.env.cells scope.names [])) s3.heap.objs.size X.env)) _ _
  generalize hce : compEnvC scope (cellsFrom (s3.heap.objs.size + 1) scope.names (cloFrom X.env.cells scope.names [])) s3.heap.objs.size X.env = ce at I4 dg dt dk dv ⊢
  have cL : ce.locals = s3.heap.objs.size := by rw [← hce]; rfl
  generalize hG3 : upd G2 D (.dT []) = G3 at I3 I4 dg dt dk dv w0 nfp fp3
  generalize es4 : ({ s3 with heap := pushCells (s3.heap.push { cls := .type "dict", data := .dict #[] }) scope.names } : Shared) = s4 at I4 ⊢
  have at4 : tn 0 s4.heap := T.keep _ _ _ at3 fun b _ o z => by rw [← es4]; exact pushCells_keeps _ _ _ _ (Heap.get?_push_of_some _ z)
  have Y : ∃ Y : Cx, Y = X.blk s3 G3 scope ce fp := ⟨_, rfl⟩
  obtain ⟨Y, eY⟩ := Y
  rw [← eY] at I4 dg dt dk dv
  have Yc : Y.calm = true := by rw [eY]; exact hc
  have stays : ∀ {r2 : L2.St} {G4 : Hp} {s5 : Shared}, Inv Y [] r2 G4 s5 → (∀ b ∈ fp, G4 b = none) → ∀ b ∈ fp, FpOk Y [] G4 b := fun {r2 G4 s5} I5 nn b hb => by
    subst eY
    exact ⟨nn b hb, (I5.ok.exf b hb).1, I5.ok.exfs b hb, .inl hb, fun x c z => (I5.ok.exf b hb).2 x c z, fun q hq => by
      rw [List.nil_append] at hq
      cases hq⟩
  have loop : codeAny (model X.prog X.w) X.A (.compLoop (.DictComp kx vx [⟨tg, itx, cs, 0⟩] scope p1) 0 (.ref it) (.ref D) ce) (compPost (model X.prog X.w) X.A X.xe us Qf (.ref D) s3.heap.objs.size) s4 := by
    refine compLoop_anyD (fun n s5 => ∃ i G4, Inv Y [] (wipe r0 (own.map (·.2))) G4 s5 ∧ tn i s5.heap ∧ (∀ b ∈ fp, G4 b = none) ∧ W i n G4) ?_ m0 ⟨0, G3, I4, at4, nfp, w0⟩
    rintro n s5 ⟨i, G5, I5, at5, n5, w5⟩
    rcases turn i n G5 w5 with ⟨stop, last⟩ | ⟨go, Nx, hNx, step⟩
    · have td := T.done Y (by subst eY; rfl) (by subst eY; rfl) (by subst eY; rfl) Yc i [] s5 _ G5 (fun _ _ => False) I5 (stays I5 n5) at5 stop
      subst eY
      refine thnF td fun r s6 ⟨hr, I6⟩ => ?_
      subst hr
      have back : Inv X pp r0 G5 s6 := I3.call' (ch := fp) I6.os I6.base I6.hok I6.bare fun b hb => by
        obtain ⟨_, k1, k2, k3, k4, k5⟩ := (fp3 b hb).1
        exact ⟨k3, k1, k4, k5⟩
      have nC : G5 s3.heap.objs.size = none := by
        have z := I6.free
        rw [← cL]
        exact z
      obtain ⟨m, hm, _⟩ := I6.loc
      replace hm : s6.heap.Ns ce.locals m := hm
      rw [cL] at hm
      exact out D s3.heap.objs.size s6 m G5 back last hm (I3.fpOk (Nat.le_refl _) nC)
    · have ti := T.item Y (by subst eY; rfl) (by subst eY; rfl) (by subst eY; rfl) Yc i [] s5 _ G5 (fun _ _ => False) I5 (stays I5 n5) at5 go
      have Yp : Y.prog = X.prog := by subst eY; rfl
      have Yu : Y.A.units + 1 < cLine := by subst eY; exact hu
      subst eY
      refine thnF ti fun r s6 ⟨u, hr, more⟩ => ?_
      subst hr
      refine thnF more fun _ s7 ⟨x, G7, I7, rx, yx, at7, n7⟩ => ?_
      have P7 := I7.pinned (stays I7 n7) (T.obj _ _ at7)
      refine thnF (dg.run _ s7 _ G7 x u _ P7 rx (step x G7 yx)) fun _ s8 ⟨r8, G8, I8, wiped, q8⟩ => ?_
      refine thnF (dt.run _ s8 r8 G8 _ I8 q8) fun b s9 ⟨G9, I9, q9⟩ => ?_
      have after : ∀ {sz : Shared} {Gz : Hp}, Inv (X.blk s3 G3 scope ce fp) ([] ++ pinsAt fp s7.heap) r8 Gz sz → Nx Gz →
          ∃ m, m < n ∧ ∃ i G4, Inv (X.blk s3 G3 scope ce fp) [] (wipe r0 (own.map (·.2))) G4 sz ∧ tn i sz.heap ∧ (∀ b ∈ fp, G4 b = none) ∧ W i m G4 := fun {sz Gz} Iz nx => by
        obtain ⟨m1, lt1, w1⟩ := hNx Gz nx
        have held : ∀ b ∈ fp, ∀ o, s7.heap.get? b = some o → sz.heap.get? b = some o ∧ Gz b = none := fun b hb o z => by
          have k := Iz.pin (b, o) (List.mem_append_right _ (List.mem_append_right _ (mem_pinsAt hb z)))
          exact ⟨k.1, k.2.1⟩
        have same_len : (wipe r0 (own.map (·.2))).length = r8.length := by rw [← wiped, wipe_length]
        refine ⟨m1, lt1, i + 1, Gz, (Iz.unpinned (pins := [])).weak same_len (fun j v z => ?_), T.keep _ _ _ at7 fun b hb o z => (held b hb o z).1, fun b hb => ?_, w1⟩
        · rw [← wiped] at z
          exact (wipe_some z).1
        · obtain ⟨o, z, _⟩ := T.obj _ _ at7 b hb
          exact (held b hb o z).2
      cases b with
      | false =>
        replace q9 : Nx G9 := by simpa using q9
        show ∃ m, _
        exact after I9 q9
      | true =>
        replace q9 := (if_pos (rfl : true = true)).mp q9
        refine thnF (dk.run _ s9 r8 G9 _ I9 q9) fun z s10 ⟨y1, G10, I10, ry, q10⟩ => ?_
        refine thnF (dv.run _ s10 r8 G10 _ I10 q10) fun z2 s11 ⟨y2, G11, I11, rv, G12, put, nx⟩ => ?_
        exact d_storeT (X := X.blk s3 G3 scope ce fp) Yu I11 put ry rv fun s12 I12 => after I12 nx
  exact codeAny_compStart_dict loop (T.self X.A 0 _ _ _ at4 loop)
theorem pe_dcT {kx vx tg itx : Expr} {cs : List Expr} {scope : Scope} {own : List (Str × Nat)} {p1 : Pos} {wi : TI} {g : TG} {tt : TT} {tk tv : TE} (hc : X.calm = true) (hu : X.A.units + 1 < cLine) (hN : X.N.Nodup) (hi : PI X tg itx wi) (ok : BlkOk X.N X.env.scope scope own)
    (hg : Blk X scope fun Y => PG Y tg g) (ht : Blk X scope fun Y => PTs Y cs tt) (hk : Blk X scope fun Y => PE Y kx tk) (he : Blk X scope fun Y => PE Y vx tv) (hs : ∀ x, foldedSetIterable itx X.env x = pure x := by intro _; rfl) :
    PE X (.DictComp kx vx [⟨tg, itx, cs, 0⟩] scope p1) (tDcT wi g tt tk tv (own.map (·.2))) := by
  refine ⟨fun pins s σ H Q I h => ?_⟩
  rw [arm_eval_DictComp]
  refine dcT_core hc hu hN I hi ok hg ht hk he hs h fun D C s1 m G1 I1 q hn f => ⟨m, hn, fun h2 sb => ?_⟩
  obtain ⟨f0, f1, f2, f3, f4, f5⟩ := f
  exact ⟨.ref D, G1, I1.turned (t' := s1.toks) (fun b o hb z => (sb.2 b hb).trans z) f0 f1 f3 f4 f5, rfl, q⟩
/-- the target's name swaps with the new dict -/
theorem sw_trueD {kx vx : Expr} {cs : List Comprehension} {scope : Scope} {p1 p2 : Pos} {y : Str} {l : Nat} {env : Env} (h1 : env.scope.kind = .function) (h2 : env.scope.names.lookup y = some .local) (h3 : (p2.line == p1.line) = true)
    (h4 : (scope.names.any fun z => z.1 == y && (z.2 == .local || z.2 == .cell)) = false) : swapsWith (.DictComp kx vx cs scope p1) (some (.Name y p2)) l env = pure true := by
  have k1 : env.kindOf y = some .local := h2
  have k2 : env.blockKind = .function := by
    unfold Env.blockKind
    rw [h1]
    rfl
  unfold swapsWith
  simp only [k2, k1, Expr.pos, h3]
  have k3 : (scope.names.any fun (n, k) => n == y && (k == .local || k == .cell)) = false := h4
  simp only [k3]
  rfl
/-- y = {(k1, k2): v for ..} -/
theorem ps_setDcT {i : Nat} {y : Str} {p2 p3 : Pos} {kx vx tg itx : Expr} {cs : List Expr} {scope : Scope} {own : List (Str × Nat)} {p1 : Pos} {wi : TI} {g : TG} {tt : TT} {tk tv : TE} (hc : X.calm = true) (hu : X.A.units + 1 < cLine) (hN : X.N.Nodup) (hy : X.N[i]? = some y)
    (hl : X.env.scope.names.lookup y = some .local) (sw : swapsWith (.DictComp kx vx [⟨tg, itx, cs, 0⟩] scope p1) (some (.Name y p2)) p3.line X.env = pure true) (hi : PI X tg itx wi) (ok : BlkOk X.N X.env.scope scope own)
    (hg : Blk X scope fun Y => PG Y tg g) (ht : Blk X scope fun Y => PTs Y cs tt) (hk : Blk X scope fun Y => PE Y kx tk) (he : Blk X scope fun Y => PE Y vx tv) (hs : ∀ x, foldedSetIterable itx X.env x = pure x := by intro _; rfl) :
    PS X (.Assign [.Name y p2] (.DictComp kx vx [⟨tg, itx, cs, 0⟩] scope p1) p3) (tAsg (tDcT wi g tt tk tv (own.map (·.2))) (gName i)) := by
  refine ⟨fun pins s σ H D I h => ?_⟩
  rw [exec_Assign_Name_used _ _ _ _ sw]
  refine wpAny_bind (wpAny_standAt (wpAny_bind ?_))
  have h : tDcT wi g tt tk tv (own.map (·.2)) σ H (fun x G1 => gName i x σ G1 D.nx) := h
  refine wpAny_bind (thn (dcT_core (us := some (assign (.Name y p2) X.env)) (Qf := fun _ s1 => SP X pins D .next s1) hc hu hN I hi ok hg ht hk he hs h fun d C s1 m G1 I1 q hn f => ?_) fun _ s1 z => wpAny_pure (wpAny_pure z))
  obtain ⟨f0, f1, f2, f3, f4, f5⟩ := f
  refine wpAny_assign_Name (store_ok2 (v := V.ref d) I1 hN hy (.inl hl) rfl (fun s2 I2 got => ?_) (.inr hl))
  obtain ⟨c, sb, hcx⟩ := got
  have nC : C ≠ c := hcx.elim (fun z => by rw [z]; exact f1) fun z e => f4 y c z e.symm
  exact ⟨m, hn.sameBut sb nC, fun h3 sb3 => ⟨_, G1, I2.turned (t' := s2.toks) (fun b o hb z => (sb3.2 b hb).trans z) f0 f1 f3 f4 f5, q⟩⟩
end
section
variable {K : PySem.W.Frag} {σ : L2.St} {H : Hp} {Q : VK} {tx tk tv : TE} {ta : TA} {g : TG} {t : TT} {tu : TS} {D : Ends}
def rDcTL (K : PySem.W.Frag) (g : TG) (tt : TT) (tk tv : TE) (vs : List Nat) (σ : L2.St) (Q : VK) : VK := fun x G => ∃ a, x = .ref a ∧ (∃ xs, SqL K G a xs) ∧ DcRun (Itl K a) g tt tk tv vs σ Q G
theorem x_dcTL1 {vs : List Nat} (q : tx σ H (rDcTL K g t tk tv vs σ Q)) : tDcT (iList K tx) g t tk tv vs σ H Q := q
/-- over a list that stays: Pv of the dict's place, the turn, the heap -/
theorem x_dcTL {a : Addr} {xs : List V} {vs : List Nat} (Pv : Addr → Nat → Hp → Prop) (hx : SqL K H a xs) (h0 : ∀ d, Fr d H → Pv d 0 (upd H d (.dT []))) (hl : ∀ d i G, Fr d H → Pv d i G → SqL K G a xs)
    (hs : ∀ d, Fr d H → ∀ i x G, xs[i]? = some x → Pv d i G → DcTurn g t tk tv vs σ d (Pv d (i + 1)) x G) (hd : ∀ d G, Fr d H → Pv d xs.length G → Q (.ref d) G) : rDcTL K g t tk tv vs σ Q (.ref a) H := by
  refine ⟨a, rfl, ⟨xs, hx⟩, fun d hf => ⟨fun i m G => m = xs.length - i ∧ i ≤ xs.length ∧ Pv d i G, ⟨xs.length, by omega, Nat.zero_le _, h0 d ⟨hf⟩⟩, ?_⟩⟩
  rintro i m G ⟨rfl, hi, p⟩
  have sq := hl d i G ⟨hf⟩ p
  by_cases lt : i < xs.length
  · refine .inr ⟨⟨xs, xs[i], sq, List.getElem?_eq_getElem lt⟩, Pv d (i + 1), fun G3 p3 => ⟨xs.length - (i + 1), by omega, rfl, lt, p3⟩, fun x G3 y => ?_⟩
    obtain ⟨eG, y⟩ := y
    subst eG
    exact hs d ⟨hf⟩ i x _ (y xs sq) p
  · have ei : i = xs.length := by omega
    subst ei
    exact .inl ⟨⟨xs, sq, Nat.le_refl _⟩, hd d G ⟨hf⟩ p⟩
def rForE (K : PySem.W.Frag) (g : TG) (tu : TS) (D : Ends) (σ : L2.St) : List V → Hp → Prop := fun vs G => ∃ a xs, vs = [.ref a] ∧ SqL K G a xs ∧ ∃ W : Nat → Nat → L2.St → Hp → Prop, (∃ m, W 0 m σ G) ∧ ∀ i m r G, W i m r G →
  ((Ite K a).stop i G ∧ D.nx r G) ∨ ((Ite K a).go i G ∧ ∃ N : L2.St → Hp → Prop, (∀ r' G', N r' G' → ∃ m', m' < m ∧ W (i + 1) m' r' G') ∧ ∀ x G', (Ite K a).yld i G x G' → g x r G' fun r2 G2 => tu { D with nx := N, ct := N, bk := D.nx } r2 G2)
theorem x_forE1 (q : ta σ H (rForE K g tu D σ)) : tFor (iEnum K ta) g tu D σ H := q
/-- for .. in enumerate(a list that stays) -/
theorem x_forE {a : Addr} {xs : List V} (Pv : Nat → L2.St → Hp → Prop) (hx : SqL K H a xs) (p0 : Pv 0 σ H) (hl : ∀ i r G, i ≤ xs.length → Pv i r G → SqL K G a xs)
    (ps : ∀ i x r G T G', xs[i]? = some x → Pv i r G → Fr T G → Same G G' → G' T = some (.tup [.int (i : Nat), x]) → g (.ref T) r G' fun r2 G2 => tu { D with nx := Pv (i + 1), ct := Pv (i + 1), bk := D.nx } r2 G2)
    (pd : ∀ r G, Pv xs.length r G → D.nx r G) : rForE K g tu D σ [.ref a] H :=
  ⟨a, xs, rfl, hx, for_it walk_enum Pv p0 hl (fun i x r G G' hi p y => by
    obtain ⟨T, u, v, rfl, hT, rfl, e1, e2⟩ := y
    cases Option.some.inj e1
    exact ps i v r G T _ e2 p ⟨hT⟩ (same_new hT) upd_same) pd⟩
/-- a put of a pair of ints -/
theorem x_putT {d b : Addr} {kvs : List (List Key × V)} {k : List Key} {z : V} {Nx : Hp → Prop} (e : H d = some (.dT kvs)) (eb : H b = some (.tup (k.map kV))) (hl : kvs.length < 100000) (q : Nx (upd H d (.dT (putK kvs k z)))) : ∃ G6, DPut H d (.ref b) z G6 ∧ Nx G6 :=
  ⟨_, DPut.t e eb (size_lt hl), q⟩
theorem x_dnewT (k : ∀ p G, Fr p H → Same H G → G p = some (.dT []) → Q (.ref p) G) : tDNewT σ H Q := fun p hp => k p _ ⟨hp⟩ (same_new hp) upd_same
def rDNin (y : V) (Q : VK) : VK := fun x G => ∃ a o, x = .ref a ∧ DGet G a y o ∧ Q (.bl (!o.isSome)) G
theorem x_dnin {ty td : TE} (q : ty σ H fun y G => td σ G (rDNin y Q)) : tDNotIn ty td σ H Q := q
theorem x_dinT {d b : Addr} {kvs : List (List Key × V)} {k : List Key} (e : H d = some (.dT kvs)) (eb : H b = some (.tup (k.map kV))) (q : Q (.bl (valV kvs k).isSome) H) : rDInK (.ref b) Q (.ref d) H := ⟨d, _, rfl, DGet.t e eb, q⟩
theorem x_dninT {d b : Addr} {kvs : List (List Key × V)} {k : List Key} (e : H d = some (.dT kvs)) (eb : H b = some (.tup (k.map kV))) (q : Q (.bl (!(valV kvs k).isSome)) H) : rDNin (.ref b) Q (.ref d) H := ⟨d, _, rfl, DGet.t e eb, q⟩
end
end Xk

/-! exceptions of own classes: raised by methods, caught, handed to a def within the suite -/
namespace Xk
open PySem PySem.Spec PyProof.Rows L2
/-- a class of errors without __init__ -/
structure ExR (K : PySem.W.Frag) (D : Addr) : Prop where
  q : PySem.W.excIn K D [.type "ValueError", .type "Exception", .type "BaseException", .type "object"] "ValueError.__new__" = true
  k : PySem.W.keepIn K (.ref D) = true
  b : PySem.W.subIn K (.ref D) (.type "BaseException") = some true
  t : PySem.W.typeIn K (.ref D) = some (.type "type")
  c : ExcC K D
  s : PySem.W.subIn K (.ref D) (.ref D) = some true
/-- a class that an except clause or isinstance names -/
structure ClsX (K : PySem.W.Frag) (C : Addr) : Prop where
  b : PySem.W.subIn K (.ref C) (.type "BaseException") = some true
  d : PySem.W.hasDictIn K C = true
  t : PySem.W.typeIn K (.ref C) = some (.type "type")
theorem kit_ref {K : PySem.W.Frag} {D C : Addr} {b : Bool} (R : ExR K D) (N : ClsX K C) (h : PySem.W.subIn K (.ref D) (.ref C) = some b) : PySem.W.kitOne K (.ref D) (.ref C) = some b := by
  unfold PySem.W.kitOne
  by_cases e : D = C
  · subst e
    rw [if_pos (by simp), ← h, R.s]
  · rw [if_neg (by simpa using e)]
    obtain ⟨cd, hc, _⟩ := PySem.W.any_some N.d
    have e2 : ((PySem.W.clsIn K C).isSome && PySem.W.typeIn K (.ref C) == some (.type "type")) = true := by rw [hc, N.t] <;> rfl
    show (if ((PySem.W.clsIn K C).isSome && PySem.W.typeIn K (.ref C) == some (.type "type")) = true then PySem.W.subIn K (.ref D) (.ref C) else none) = some b
    rw [if_pos e2, h]
theorem kit_type {K : PySem.W.Frag} {D : Addr} {T : String} {b : Bool} (m : PySem.W.kitMeta T = true) (h : PySem.W.subIn K (.ref D) (.type T) = some b) : PySem.W.kitOne K (.ref D) (.type T) = some b := by
  unfold PySem.W.kitOne
  rw [if_neg (by simp)]
  show (if PySem.W.kitMeta T = true then PySem.W.subIn K (.ref D) (.type T) else none) = some b
  rw [if_pos m, h]
theorem exm_one {K : PySem.W.Frag} {C : Addr} {cls : Value} {b : Bool} (N : ClsX K C) (h : PySem.W.subIn K cls (.ref C) = some b) : PySem.W.exmOne K cls (.ref C) = some b := PySem.W.exm_ref N.b N.d N.t h

/-! ### calls of methods that may raise -/
def rMthE (m : Str) (sp : Sp) (Ex : L2.St → XK) (tr : TA) (σ : L2.St) (Q : VK) (C : Addr) : V → Hp → Prop := fun x H1 => ∃ a dx fs, x = .ref a ∧ H1 a = some (.ins C dx fs) ∧ fs.lookup m = none ∧ tr σ H1 fun vs H2 => sp (x :: vs) H2 Q (Ex σ)
def tMthE (C : Addr) (m : Str) (sp : Sp) (Ex : L2.St → XK) (ta : TE) (tr : TA) : TE := fun σ H Q => ta σ H (rMthE m sp Ex tr σ Q C)
section
variable {X : Cx} {CT : CXT} {k : Nat} {f C : Addr} {fd : FuncData} {ps : List Str} {sp : Sp} {Ex : L2.St → XK} {m : Str} {o e1 : Expr} {es : List Expr} {ta : TE} {tr : TA} {apos pos : Pos}
theorem pe_mthE {pl : Sem Bool} (he : PE X o ta) (c : Cls X.K C) (hm : Meth X.K C m f) (F : FnOk X.prog X.w X.K X.mg X.base CT k f fd ps sp) (hr : Room k X.A) (hb : Binds X.K fd ps [])
    (hx : ∀ σ, PassesAt CT X σ (Ex σ)) (ha : PA X (e1 :: es) tr) (hst : starEach (e1 :: es) X.env = (false, eval e1 X.env) :: starEach es X.env := by rfl)
    (hpl : (backTo pos (starEach es X.env)).any (·.1) = false := by rfl)
    (ht : eval (.Call (.Attribute o m apos) (e1 :: es) [] pos) X.env = (do let ov ← eval o X.env; standAt apos.atName; let (f, first) ← holding [ov] (getMethod ov m pl); callWith pos f first (backTo pos (starEach (e1 :: es) X.env)) (backToKw pos (keywordEach [] X.env))) := by rfl) :
    PE X (.Call (.Attribute o m apos) (e1 :: es) [] pos) (tMthE C m sp Ex ta tr) := by
  constructor
  intro pins s σ H Q I h
  refine PySem.W.methodCall_KW (pl := pl) (thn (he.run pins s σ H _ I h) fun u s1 hu => ?_) ht
  obtain ⟨x, H1, I1, rx, a, dx, fs, ex, ea, l, q⟩ := hu
  subst ex
  have eu : u = Value.ref a := rx
  subst eu
  refine getmeth_ok I1 ea c hm l ?_
  refine PySem.W.callWith_K (first := [.ref a]) (h₀ := X.base) I.ok.mod.kin hm.kp (thn (ha.run pos pins s1 σ H1 _ I1 q) fun us s2 hu => ?_) hst hpl
  obtain ⟨vs, H2, I2, r, q2⟩ := hu
  exact ⟨I2.kIn, run_fnS (us := .ref a :: us) (vs := .ref a :: vs) F hr hb (hx σ) I2 (.cons rfl r) q2⟩
theorem x_mthE {σ : L2.St} {H : Hp} {Q : VK} (h : ta σ H (rMthE m sp Ex tr σ Q C)) : tMthE C m sp Ex ta tr σ H Q := h
theorem x_rMthE {σ : L2.St} {H : Hp} {Q : VK} {a dx : Addr} {fs : List (Str × V)} (h : H a = some (.ins C dx fs)) (l : fs.lookup m = none) (q : tr σ H fun vs H2 => sp (.ref a :: vs) H2 Q (Ex σ)) : rMthE m sp Ex tr σ Q C (.ref a) H :=
  ⟨a, dx, fs, rfl, h, l, q⟩
end

/-! ### raise -/
def sRaise (W : WX) (C : Addr) : TS := fun _ σ H => W (.ref C) none σ H
theorem ps_raiseO {X : Cx} {W : WX} {C : Addr} {x m : Str} {j : Nat} {p p2 pos pos2 : Pos} (hc : X.calm = true) (tk : Takes X W) (R : ExR X.K C) (gC : X.mg x = some (.ref C)) (hg : Gl X x) (hdb : (x == ("__debug__" : Str)) = false := by decide) :
    PS X (.Raise (some (.Call (.Name x p) [.Constant (.str m) j p2] [] pos)) none pos2) (sRaise W C) :=
  ps_raise hc tk (pmk_own PySem.F.excBase_ValueError R.q gC R.k (raises_own R.b R.t) hg hdb)
theorem x_raise {W : WX} {C : Addr} {D : Ends} {σ : L2.St} {H : Hp} (q : W (.ref C) none σ H) : sRaise W C D σ H := q

/-! ### try: body, except x as n: suite -/
def sTryE (K : PySem.W.Frag) (c : Value) (i : Nat) (tb : WX → TS) (ts : Addr → Value → Option Addr → TS) : TS := fun D σ H => tb (wAs K c i ts (fun _ _ _ _ => False) D) D σ H
theorem ps_tryE {X : Cx} {x n : Str} {c : Value} {i : Nat} {body suite : List Stmt} {b₀ : Stmt} {np pos pos' : Pos} {tb : WX → TS} {ts : Addr → Value → Option Addr → TS} (hs : X.stack = X.env :: X.outer) (hf : X.env.frame = some X.env.locals) (hN : X.N.Nodup) (hi : X.N[i]? = some n)
    (hln : X.env.kindOf n = some .local) (hc : Names X x c)
    (hb : ∀ (W : WX) (pn : List (Addr × Obj)) (xe : Value → Shared → Prop), Takes (X.tr pn xe) W → PassesOwn (model X.prog X.w) X.A X.env xe → PSs (X.tr pn xe) body (tb W))
    (hsu : ∀ (a : Addr) (oe : Obj) (cls : Value) (d : Option Addr) (pn : List (Addr × Obj)), Zc cls d oe → (∃ vs, oe.data = .fields vs) → PSs (X.suite a ((a, oe) :: pn)) (b₀ :: suite) (ts a cls d)) :
    PS X (.Try body [.ExceptHandler (some (.Name x np)) (some n) (b₀ :: suite) pos'] [] [] pos) (sTryE X.K c i tb ts) :=
  ps_try_as hs hf hN hi hln hc takes0 hb hsu
theorem x_tryE {K : PySem.W.Frag} {c : Value} {i : Nat} {tb : WX → TS} {ts : Addr → Value → Option Addr → TS} {D : Ends} {σ : L2.St} {H : Hp} (q : tb (wAs K c i ts (fun _ _ _ _ => False) D) D σ H) : sTryE K c i tb ts D σ H := q
/-- a raise within the body that the clause takes -/
theorem x_was {K : PySem.W.Frag} {c cls : Value} {d : Option Addr} {i : Nat} {ts : Addr → Value → Option Addr → TS} {Wo : WX} {D : Ends} {σ : L2.St} {H : Hp} (e : PySem.W.exmOne K cls c = some true)
    (q : ∀ a, Fr a H → ts a cls d { nx := fun σ' H' => D.nx (σ'.set i none) H', rt := D.rt, bk := fun σ' H' => D.bk (σ'.set i none) H', ct := fun σ' H' => D.ct (σ'.set i none) H' } (σ.set i (some (.ref a))) H) : wAs K c i ts Wo D cls d σ H :=
  ⟨true, e, fun _ a ha => q a ⟨ha⟩, fun z => Bool.noConfusion z⟩

/-! ### a def that is called within the suite with the exception -/
structure FnE (P : Program) (w : World) (K : PySem.W.Frag) (mg : Str → Option Value) (base : Heap) (k : Nat) (f : Addr) (fd : FuncData) (ps : List Str) (sp : Addr → Value → Option Addr → Sp) : Prop where
  len : ∀ a c d vs H Q E, sp a c d vs H Q E → vs.length = ps.length
  run : ∀ (A : Around) (outer : List Env) (s : Shared) (H : Hp) (args : Args) (us : List Value) (vs : List V) (Q : VK) (E : XK) (p : Addr × Obj) (c : Value) (d : Option Addr), L2H.RoomH k A → Zc c d p.2 → (∃ ws, p.2.data = .fields ws) → L2H.PinOk outer H s p →
    Env0 P w K mg base A outer s H → BindsTo s fd args (ps.zip us) → Vals vs us → sp p.1 c d vs H Q E → codeAny (model P w) A (.call (.ref f) args) (CR L2.CX0 outer P w H s Q E) s
theorem funE {P : Program} {w : World} {K : PySem.W.Frag} {mg : Str → Option Value} {base : Heap} {x qual : Str} {st : Stmt} {f : Addr} {fd : FuncData} {N ps : List Str} {k : Nat} {sp : Addr → Value → Option Addr → Sp} (F : Fun K x qual st f fd) (S : FnScope N ps (defScope st))
    (len : ∀ a c d vs H Q E, sp a c d vs H Q E → vs.length = ps.length)
    (body : ∀ (cdv : Value) (A : Around) (outer : List Env) (s : Shared) (H : Hp) (vs : List V) (Q : VK) (E : XK) (p : Addr × Obj) (c : Value) (d : Option Addr), L2H.RoomH k (A.deeper (envOfC qual (defScope st) s.heap.objs.size f cdv)) → Zc c d p.2 → (∃ ws, p.2.data = .fields ws) → sp p.1 c d vs H Q E →
      ∃ t, PSs (L2H.cxH L2.CX0 P w K mg base N qual (defScope st) f cdv A outer s H E p).nox (defBody st) t ∧ t { nx := fun _ H' => Q .non H', rt := Q } (start N vs) H) : FnE P w K mg base (k + 1) f fd ps sp := by
  obtain ⟨oc, od, kV, doc, pm, an, cdv, ct, osl, rfl, lk, hcd⟩ := F.ex
  constructor
  · exact len
  intro A outer s H args us vs Q E p c d hr hz hf hpin e0 hb r hsp
  have hl := len _ _ _ _ _ _ _ hsp
  have KX : K.In s.heap := e0.mod.kin.keeps fun b o e => (e0.bs b o e).1
  have lim : s.heap.NoLimit := e0.mod.nolimit.keeps fun b o e => (e0.bs b o e).1
  have hkind : ∀ y ∈ ps.zip us, (defScope st).names.lookup y.1 = some .local ∨ ((defScope st).names.lookup y.1 = some .cell ∧ ((cellsFrom (s.heap.objs.size + 1) (defScope st).names []).lookup y.1).isSome = true) := by
    rintro ⟨n, v⟩ hy
    rcases S.par n (List.of_mem_zip hy).1 with q | q
    · exact .inl q
    · exact .inr ⟨q, PySem.W.cellsFrom_some _ _ _ (.inl q)⟩
  refine codeAny_call_function hr.depth (KX _ _ lk) rfl S.co S.gen rfl (PySem.W.codeRec_of KX hcd) (hb _ _ _ _ ?_)
  refine wpAny_newFunctionEnv_cells S.kind hkind fun env he s1 x => ?_
  subst he
  refine ⟨lim.keeps x.toInCall.keep, codeAny_func ?_⟩
  obtain ⟨t, ht, hq⟩ := body cdv A outer s H vs Q E p c d (hr.deeper _) hz hf hsp
  have I := L2H.inv_startH (CX := L2.CX0) (E := E) S hpin e0 hl r x
  refine wpAny_mono (ht.nox.run [] s1 (L2.start N vs) H _ I hq) (fun fl s' hs => ?_) fun e s' hs => hs
  cases fl with
  | ret u =>
    obtain ⟨v, σ', H', J, rv, q⟩ := hs
    exact ⟨v, H', J.os, J.bare, J.base, J.hok, rv, q⟩
  | next =>
    obtain ⟨σ', H', J, q⟩ := hs
    exact ⟨V.non, H', J.os, J.bare, J.base, J.hok, (rfl : Value.none = Value.none), q⟩
  | brk =>
    obtain ⟨_, _, _, q⟩ := hs
    exact False.elim q
  | cont =>
    obtain ⟨_, _, _, q⟩ := hs
    exact False.elim q
def tCallE (sp : Addr → Value → Option Addr → Sp) (a : Addr) (c : Value) (d : Option Addr) (tr : TA) : TE := fun σ H Q => tr σ H fun vs H1 => sp a c d vs H1 Q fun _ _ _ => False
section
variable {X : Cx} {k : Nat} {f a : Addr} {oe : Obj} {c : Value} {d : Option Addr} {fd : FuncData} {ps : List Str} {sp : Addr → Value → Option Addr → Sp} {x : Str} {p pos : Pos} {e1 : Expr} {es : List Expr} {tr : TA}
theorem pe_callE (F : FnE X.prog X.w X.K X.mg X.base k f fd ps sp) (hr : L2H.RoomH k X.A) (hp : (a, oe) ∈ X.pn) (hz : Zc c d oe) (hf : ∃ ws, oe.data = .fields ws) (hg : Gl X x) (hm : X.mg x = some (.ref f)) (hk : PySem.W.keepIn X.K (.ref f) = true) (hb : Binds X.K fd ps [])
    (ha : PA X (e1 :: es) tr) (hdb : (x == ("__debug__" : Str)) = false := by decide) (hst : starEach (e1 :: es) X.env = (false, eval e1 X.env) :: starEach es X.env := by rfl) (hpl : (backTo pos (starEach es X.env)).any (·.1) = false := by rfl) :
    PE X (.Call (.Name x p) (e1 :: es) [] pos) (tCallE sp a c d tr) := by
  constructor
  intro pins s σ H Q I h
  refine wpAny_Call_Name_kw (ld_glob I hg hm ?_ hdb)
  refine PySem.W.callWith_K (h₀ := X.base) I.ok.mod.kin hk (thn (ha.run pos pins s σ H _ I h) fun us s1 hu => ?_) hst hpl
  obtain ⟨vs, H1, I1, r, q⟩ := hu
  refine ⟨I1.kIn, ?_⟩
  have hl : us.length = ps.length := by rw [← r.length]; exact F.len _ _ _ _ _ _ _ q
  have b := hb s1 us I1.kIn (by rw [List.append_nil]; exact hl)
  rw [List.append_nil] at b
  have P1 := I1.pin (a, oe) (List.mem_append_left _ hp)
  have hpin : L2H.PinOk X.stack H1 s1 (a, oe) := ⟨P1.1, P1.2.1, fun hm => (List.mem_cons.mp (I1.stkSub a hm)).elim P1.2.2.1 P1.2.2.2.1, P1.2.2.2.2⟩
  show wpAny _ _ (call (.ref f) us) _ _ _
  refine wpAny_call (codeAny_mono (F.run X.A X.stack s1 H1 ⟨us, []⟩ us vs Q _ (a, oe) c d hr hz hf hpin I1.env0 b r q) fun r s' hq => ?_)
  cases r with
  | error e => exact (show False from hq).elim
  | ok fl =>
    cases fl with
    | ret u => exact I1.after hq
    | next => exact False.elim hq
    | brk => exact False.elim hq
    | cont => exact False.elim hq
theorem x_callE {σ : L2.St} {H : Hp} {Q : VK} (q : tr σ H fun vs H1 => sp a c d vs H1 Q fun _ _ _ => False) : tCallE sp a c d tr σ H Q := q
/-- isinstance(e, c): e the pinned exception -/
theorem call_isP {D : Addr} {q : Addr × Obj} (C : ExcC X.K D) (hp : q ∈ X.pn) (hz : Zc (.ref D) none q.2) (hf : ∃ ws, q.2.data = .fields ws) : CallR X (.builtin "isinstance") (rIsE X.K D q.1) := by
  intro pins s σ H xs us Q I r h
  obtain ⟨c, cv, b, rfl, hcv, e, q1⟩ := h
  obtain ⟨u1, u2, rfl, r1, r2⟩ := vals2 r
  have e1 : u1 = Value.ref q.1 := r1
  have e2 := hcv _ r2
  subst e1 e2
  obtain ⟨hget, _⟩ := I.pin q (List.mem_append_left _ hp)
  obtain ⟨vs, hv⟩ := hf
  have J : PySem.W.InstAt s.heap q.1 q.2 D none := by
    obtain ⟨b1, oc, od, oda, osl⟩ := q
    obtain ⟨h1, h2⟩ := hz
    dsimp only at h1 h2 hv
    subst h1 h2 hv
    exact ⟨hget, rfl, rfl, trivial⟩
  exact PySem.W.kia_one (PySem.W.handS_kitx_exc C.hg C.hk C.hs C.hd C.ha C.hn C.ht C.hm) I.kIn J e (fun z => nomatch z) fun tk => ⟨.bl b, H, I.kept (t' := tk) fun _ _ z => z, rfl, q1⟩
end
theorem k_isP {X : Cx} {K : PySem.W.Frag} {D : Addr} {q : Addr × Obj} (e : X.K = K) (C : ExcC K D) (hp : q ∈ X.pn) (hz : Zc (.ref D) none q.2) (hf : ∃ ws, q.2.data = .fields ws) : CallR X (.builtin "isinstance") (rIsE K D q.1) := by
  subst e
  exact call_isP C hp hz hf
theorem x_isE {K : PySem.W.Frag} {D a C : Addr} {b : Bool} {H : Hp} {Q : VK} (e : PySem.W.kitOne K (.ref D) (.ref C) = some b) (q : Q (.bl b) H) : rIsE K D a [.ref a, .ref C] H Q := ⟨.ref C, .ref C, b, rfl, fun _ r => r, e, q⟩
theorem x_isET {K : PySem.W.Frag} {D a : Addr} {c : String} {b : Bool} {H : Hp} {Q : VK} (e : PySem.W.kitOne K (.ref D) (.type c) = some b) (q : Q (.bl b) H) : rIsE K D a [.ref a, .ty c] H Q := ⟨.ty c, .type c, b, rfl, fun _ r => r, e, q⟩
end Xk

/-! sorted(d), d a dict whose keys are ints, any number of them -/
namespace Xk
open PySem PySem.Spec PyProof.Rows L2
def rSortDI (xs : List V) (H : Hp) (Q : VK) : Prop := ∃ (a : Addr) (kvs : List (L2.Key × V)) (ks : List Int), xs = [.ref a] ∧ H a = some (.dK kvs) ∧ kvs.map (·.1) = ks.map Sum.inl ∧
  ∀ (ys : List Int) (p : Addr), ys.Perm ks → ys.Pairwise (· ≤ ·) → H p = none → Q (.ref p) (upd H p (.lst (ys.map V.int)))
theorem k_sortDI {X : Cx} (hcalm : X.calm = true) : CallR X (.builtin "sorted") rSortDI := by
  intro pins s σ H xs us Q I r h
  obtain ⟨a, kvs, ks, rfl, hd, hks, q⟩ := h
  obtain ⟨u, rfl, rx⟩ := vals1 r
  cases rx
  obtain ⟨z, lo, vs, rel, dd⟩ := dk_of I.hok hd
  obtain ⟨ep, hat⟩ := dd.dictAt
  have hkeys : vs.map (·.1) = ks.map Sum.inl := rel.keys.symm.trans hks
  have hl : vs.length = ks.length := by simpa using congrArg List.length hkeys
  have h16 : vs.length ≤ sizeLine := by rw [← rel.length]; exact z
  refine Calls.call_function_entry PyProof.Rows.kind_sorted PyProof.Rows.plain_sorted PyProof.Rows.entry_sorted (PyProof.Rows.args_sorted1 _) ?_
  unfold Builtin.«sorted»
  refine wpAny_bind (m := checkCount "sorted" 1 1 _) (wpAny_pure ?_)
  refine wpAny_bind (PySem.W.kdu_collect (A := X.A.in1) (PySem.W.kdl_dict (knd := mixKind X.prog X.w) (kvs := vs) (ep := ep) lo) (I.ok.hd hcalm) hat h16 fun h2 tk acc hk hacc => ?_)
  have hal : acc.toList.length = ks.length := by rw [Array.length_toList, hacc.1, hl]
  have hS : IntsAre acc.toList ks := ints_each hal fun j v e => by
    obtain ⟨k, x, e1, e2⟩ := hacc.2 j v (by rw [← Array.getElem?_toList]; exact e)
    have e3 : (ks.map Sum.inl)[j]? = some k := by rw [← hkeys, List.getElem?_map, e1]; rfl
    rw [List.getElem?_map] at e3
    cases e4 : ks[j]? with
    | none => rw [e4] at e3; cases e3
    | some y =>
      rw [e4] at e3
      obtain rfl : Sum.inl y = k := Option.some.inj e3
      rcases keyIs_shape (show keyIs (Sum.inl y) v = true from e2) with ⟨i, t, ek, ev⟩ | ⟨z, t, ek, ev⟩
      · cases ek
        exact ⟨y, t, rfl, ev⟩
      · cases ek
  have I1 : Inv X pins σ H { s with heap := h2, toks := tk } := I.kept hk
  have hsz : acc.toList.length ≤ sizeLine := by rw [hal, ← hl]; exact h16
  refine wpAny_bind (wpAny_newList ?_ hsz)
  have hoL : (h2.push (seqObj "list" acc.toList.toArray 0)).get? h2.objs.size = some (seqObj "list" acc.toList.toArray 0) := Heap.get?_push_size _ rfl
  show wpAny _ _ _ _ _ { s with heap := h2.push (seqObj "list" acc.toList.toArray 0), toks := tk }
  refine wpAny_bind (wpAny_holding (wpAny_call_entry PyProof.Rows.slot_list_sort ⟨_, hoL, rfl⟩ PyProof.Rows.entry_list_sort
    (SrtO.list_sort_ord (s := { s with heap := h2.push (seqObj "list" acc.toList.toArray 0), toks := tk }) SrtO.swo_int hoL hsz (fun g => SrtO.ints_sortable hS g) fun out g1 g2 => ⟨.none, rfl, ?_⟩) (PyProof.Rows.args_list_sort _)))
  obtain ⟨k1, k2, k3⟩ := SrtO.ints_out hS g1 g2
  obtain ⟨e2, he2⟩ := PyProof.Rows.sortedHeap_at (vs := acc.toList) (out := out.toArray) hoL
  have hlen : ((out.map SrtO.iv).map V.int).length ≤ sizeLine := by
    rw [List.length_map, k2.length_eq, ← hal]
    exact hsz
  refine wpAny_pure ⟨_, rfl, .ref h2.objs.size, upd H h2.objs.size (.lst ((out.map SrtO.iv).map V.int)), I1.laid (t' := tk) (fun b u e => ?_) (Nat.le_refl _)
    ⟨hlen, out, e2, vals_of_ints k1, he2⟩, rfl, q _ _ k2 k3 (I1.hok.fresh (Nat.le_refl _))⟩
  have hb : b < h2.objs.size := Heap.lt_size e
  rw [PyProof.Rows.sortedHeap_old (Nat.ne_of_lt hb) (by rw [size_push']; exact Nat.lt_succ_of_lt hb)]
  exact Heap.get?_push_of_some _ e
theorem x_sortDI {a : Addr} {kvs : List (L2.Key × V)} {ks : List Int} {H : Hp} {Q : VK} (h : H a = some (.dK kvs)) (e : kvs.map (·.1) = ks.map Sum.inl)
    (k : ∀ p H2 (ys : List Int), ys.Perm ks → ys.Pairwise (· ≤ ·) → Fr p H → Same H H2 → H2 p = some (.lst (ys.map V.int)) → Q (.ref p) H2) : rSortDI [.ref a] H Q :=
  ⟨a, kvs, ks, rfl, h, e, fun ys p h1 h2 h3 => k p _ ys h1 h2 ⟨h3⟩ (same_new h3) upd_same⟩

/-! ### steps of dicts with int keys, with tuple keys -/
section
variable {K : PySem.W.Frag} {H : Hp} {Q : VK} {a b : Addr} {n : Int} {v x : V} {R : Hp → Prop} {σ : L2.St} {D : Ends} {tz : TS}
theorem x_rDGi {kvs : List (L2.Key × V)} (h : H a = some (.dK kvs)) (e : valV kvs (Sum.inl n) = some v) (q : Q v H) : rDG (.ref a) Q (.int n) H := ⟨a, v, rfl, by rw [← e]; exact (DGet.k (k := Sum.inl n) h), q⟩
theorem x_rDPi {kvs : List (L2.Key × V)} (h : H a = some (.dK kvs)) (hl : kvs.length < 10000) (q : R (upd H a (.dK (putK kvs (Sum.inl n) v)))) : rDP (.ref a) v R (.int n) H := ⟨a, _, rfl, DPut.k (k := Sum.inl n) h (size_lt (by omega)), q⟩
theorem x_rDIi {kvs : List (L2.Key × V)} (h : H a = some (.dK kvs)) (q : Q (.bl (valV kvs (Sum.inl n)).isSome) H) : rDInK (.int n) Q (.ref a) H := ⟨a, _, rfl, (DGet.k (k := Sum.inl n) h : DGet H a (kV (Sum.inl n)) (valV kvs (Sum.inl n))), q⟩
theorem x_rDNi {kvs : List (L2.Key × V)} (h : H a = some (.dK kvs)) (q : Q (.bl (!(valV kvs (Sum.inl n)).isSome)) H) : rDNin (.int n) Q (.ref a) H := ⟨a, _, rfl, (DGet.k (k := Sum.inl n) h : DGet H a (kV (Sum.inl n)) (valV kvs (Sum.inl n))), q⟩
theorem x_rPopi {kvs : List (L2.Key × V)} (h : H a = some (.dK kvs)) (e : valV kvs (Sum.inl n) = some v) (q : Q v (upd H a (.dK (dropK kvs (Sum.inl n))))) : rPop1 Q a (.int n) H := ⟨kvs, Sum.inl n, v, h, rfl, e, q⟩
theorem x_rDPt {kvs : List (List L2.Key × V)} {k : List L2.Key} (h : H a = some (.dT kvs)) (hb : H b = some (.tup (k.map kV))) (hl : kvs.length < 10000) (q : R (upd H a (.dT (putK kvs k v)))) : rDP (.ref a) v R (.ref b) H :=
  ⟨a, _, rfl, DPut.t h hb (size_lt (by omega)), q⟩
def rDDel (D : Ends) (σ : L2.St) (x : V) : VK := fun y H2 => ∃ a kvs k, x = V.ref a ∧ H2 a = some (HO.dK kvs) ∧ y = kV k ∧ (valV kvs k).isSome = true ∧ D.nx σ (upd H2 a (.dK (dropK kvs k)))
theorem x_ddel {td ty : TE} (q : td σ H fun x H1 => ty σ H1 (rDDel D σ x)) : sDDel td ty D σ H := q
theorem x_rDDeli {kvs : List (L2.Key × V)} (h : H a = some (.dK kvs)) (e : valV kvs (Sum.inl n) = some v) (q : D.nx σ (upd H a (.dK (dropK kvs (Sum.inl n))))) : rDDel D σ (.ref a) (.int n) H := ⟨a, kvs, Sum.inl n, rfl, h, rfl, by rw [e]; rfl, q⟩
theorem x_tyDT {kvs : List (List L2.Key × V)} {P : Prop} (h : H a = some (.dT kvs)) (q : P) : tyV K "dict" (.ref a) H ∧ P := ⟨.inr (.inr (.inl ⟨rfl, .inr ⟨kvs, h⟩⟩)), q⟩
theorem x_popT {kvs : List (List L2.Key × V)} {k : List L2.Key} {d : V} (h : H a = some (.dT kvs)) (hb : H b = some (.tup (k.map kV))) (q1 : ∀ v, valV kvs k = some v → Q v (upd H a (.dT (dropK kvs k)))) (q2 : valV kvs k = none → Q d H) :
    L2.DX.rPopT (.ref a) [.ref b, d] H Q := ⟨a, kvs, k, b, d, rfl, rfl, h, hb, q1, q2⟩
end
/-! ### loops over dicts that are read -/
section
variable {H : Hp} {r : Addr} {D : Ends} {σ : L2.St} {g : TG} {tu : TS} {tm : TE}
theorem x_lockK {kvs : List (L2.Key × V)} (hr : H r = some (.dK kvs)) (q : ∀ od H0, H0 = upd H r (.frz od (.dK kvs)) → ∃ Pv : Nat → L2.St → Hp → Prop, (∀ R : VK, R (.ref r) H0 → tm σ H0 R) ∧ Pv 0 σ H0 ∧ (∀ i s h, Pv i s h → h r = some (.frz od (.dK kvs))) ∧
      (∀ i k v s h (E : Ends), kvs[i]? = some (k, v) → Pv i s h → g (kV k) s h fun s2 h2 => tu { E with nx := Pv (i + 1), ct := Pv (i + 1) } s2 h2) ∧ ∀ s h, Pv kvs.length s h → D.nx s (upd h r (.dK kvs))) : tLock (tFor (iKeys tm) g tu) D σ H := by
  refine ⟨r, _, hr, trivial, fun od => ?_⟩
  obtain ⟨Pv, ht, h0, h1, h2, h3⟩ := q od _ rfl
  refine ht _ ⟨r, od, rfl, .inl ⟨kvs, upd_same, ?_⟩⟩
  refine for_it walk_keys Pv h0 (fun i s h _ p => h1 i s h p) (fun i x s h h' _ p y => ?_) fun s h p => ⟨h1 _ _ _ p, h3 s h p⟩
  obtain ⟨rfl, k, v, e, rfl⟩ := y
  exact h2 i k v s _ ⟨fun _ _ => True, _, _, fun _ _ => True⟩ e p
theorem x_lockT {kvs : List (List L2.Key × V)} (hr : H r = some (.dT kvs)) (q : ∀ od H0, H0 = upd H r (.frz od (.dT kvs)) → ∃ Pv : Nat → L2.St → Hp → Prop, (∀ R : VK, R (.ref r) H0 → tm σ H0 R) ∧ Pv 0 σ H0 ∧ (∀ i s h, Pv i s h → h r = some (.frz od (.dT kvs))) ∧
      (∀ i k v p s h (E : Ends), kvs[i]? = some (k, v) → h p = some (.tup (k.map kV)) → Pv i s h → g (.ref p) s h fun s2 h2 => tu { E with nx := Pv (i + 1), ct := Pv (i + 1) } s2 h2) ∧ ∀ s h, Pv kvs.length s h → D.nx s (upd h r (.dT kvs))) : tLock (tFor (iKeys tm) g tu) D σ H := by
  refine ⟨r, _, hr, trivial, fun od => ?_⟩
  obtain ⟨Pv, ht, h0, h1, h2, h3⟩ := q od _ rfl
  refine ht _ ⟨r, od, rfl, .inr ⟨kvs, upd_same, ?_⟩⟩
  refine for_it walk_keysT Pv h0 (fun i s h _ p => h1 i s h p) (fun i x s h h' _ p y => ?_) fun s h p => ⟨h1 _ _ _ p, h3 s h p⟩
  obtain ⟨rfl, k, v, z, e, rfl, e2⟩ := y
  exact h2 i k v z s _ ⟨fun _ _ => True, _, _, fun _ _ => True⟩ e e2 p
theorem x_lockDcE {tt : TT} {tk tv : TE} {vs : List Nat} {Q : VK} {kvs : List (List L2.Key × V)} (hr : H r = some (.dT kvs)) (q : ∀ od H0, H0 = upd H r (.frz od (.dT kvs)) → ∃ Pv : Addr → Nat → Hp → Prop, (∀ R : VK, R (.ref r) H0 → tm σ H0 R) ∧
      (∀ d, Fr d H0 → Pv d 0 (upd H0 d (.dT []))) ∧ (∀ d i h, Fr d H0 → Pv d i h → h r = some (.frz od (.dT kvs))) ∧
      (∀ d, Fr d H0 → ∀ i k v p h, kvs[i]? = some (k, v) → h p = some (.tup (k.map kV)) → Pv d i h → DcTurn g tt tk tv vs σ d (Pv d (i + 1)) (.ref p) h) ∧
      ∀ d h, Fr d H0 → Pv d kvs.length h → Q (.ref d) (upd h r (.dT kvs))) : tLockE (tDcT (iKeys tm) g tt tk tv vs) σ H Q := by
  refine ⟨r, _, hr, trivial, fun od => ?_⟩
  obtain ⟨Pv, ht, h0, h1, h2, h3⟩ := q od _ rfl
  refine ht _ ⟨r, od, rfl, .inr ⟨kvs, upd_same, fun d hD => ⟨fun i m G => m = kvs.length - i ∧ i ≤ kvs.length ∧ Pv d i G, ⟨kvs.length, by omega, Nat.zero_le _, h0 d ⟨hD⟩⟩, ?_⟩⟩⟩
  intro i m G hw
  obtain ⟨em, hi, p⟩ := hw
  have hz := h1 d i G ⟨hD⟩ p
  rcases Nat.lt_or_ge i kvs.length with lt | ge
  · refine .inr ⟨⟨hz, lt⟩, Pv d (i + 1), fun G3 p3 => ⟨kvs.length - (i + 1), by omega, rfl, lt, p3⟩, fun x G3 y => ?_⟩
    obtain ⟨rfl, k, v, z, e, rfl, hq⟩ := y
    exact h2 d ⟨hD⟩ i k v z _ e hq p
  · obtain rfl : i = kvs.length := by omega
    exact .inl ⟨⟨hz, Nat.le_refl _⟩, hz, h3 d G ⟨hD⟩ p⟩
end
end Xk


local macro_rules | `(tactic| wtm_at "key") => `(tactic| (first | assumption | exact rfl | fail "key"))
local macro_rules | `(tactic| wtm_at "few") => `(tactic| (first | assumption | exact Nat.le_of_ble_eq_true rfl | fail "few"))
local macro_rules | `(tactic| wtm_at "cls") => `(tactic| (first | assumption | fail "cls"))
local macro_rules | `(tactic| wtm_at "neq") => `(tactic| (first | assumption | exact Ne.symm (by assumption) | exact Xk.ne_new (by assumption) (by wtm_at "hx") | exact (Xk.ne_new (by assumption) (by wtm_at "hx")).symm | fail "neq"))
local macro_rules | `(tactic| wtm_at "hx") => `(tactic| (first | assumption | exact L2.upd_same | ((refine' (L2.upd_ne ?un).trans ?uh); (case un => wtm_at "neq"); (case uh => wtm_at "hx")) | ((refine' Xk.same_at ?ue ?uh); (case ue => assumption); (case uh => wtm_at "hx")) | ((refine' Xk.but_at ?ue ?un ?uh); (case ue => assumption); (case un => wtm_at "neq"); (case uh => wtm_at "hx")) | fail "hx"))
local macro_rules | `(tactic| wtm_at "free") => `(tactic| (first | assumption | ((refine' Xk.free_back ?uh ?ue); (case uh => assumption); (case ue => wtm_at "sm")) | ((refine' Xk.free_back ?uh ?ue); (case uh => (refine' Xk.fr_upd ?uf; case uf => assumption)); (case ue => wtm_at "sm")) | fail "free"))
local macro_rules | `(tactic| wtm_at "sm") => `(tactic| (first | assumption | exact L2.Same.refl _ | ((refine' Xk.same_mut ?ue ?uh); (case ue => wtm_at "sm"); (case uh => wtm_at "free")) | ((refine' L2.Same.trans ?ue ?uh); (case uh => assumption); (case ue => wtm_at "sm")) | ((refine' Xk.same_but ?ue ?uh ?us); (case ue => assumption); (case uh => wtm_at "free"); (case us => wtm_at "sm")) | fail "sm"))
local macro_rules | `(tactic| wtm_at "bm") => `(tactic| (first | assumption | exact Xk.But.refl _ _ | ((refine' Xk.but_mut ?ue); (case ue => wtm_at "bm")) | ((refine' Xk.but_new ?ue ?uh); (case ue => wtm_at "bm"); (case uh => wtm_at "free")) | ((refine' Xk.but_trans ?ue ?uh); (case uh => assumption); (case ue => wtm_at "bm")) | ((refine' Xk.but_trans ?ue (Xk.but_same ?uh)); (case uh => assumption); (case ue => wtm_at "bm")) | fail "bm"))
local macro_rules | `(tactic| wtm_at "sq") => `(tactic| (first | assumption | exact Xk.sq_of (by wtm_at "hx") | ((refine' Xk.sq_same ?uh ?ue); (case uh => assumption); (case ue => wtm_at "sm")) | fail "sq"))
local macro_rules | `(tactic| wtm_at "st") => `(tactic| (first | assumption | exact Xk.st_of (by wtm_at "hx") | ((refine' Xk.st_same ?uh ?ue); (case uh => assumption); (case ue => wtm_at "sm")) | fail "st"))
local macro_rules | `(tactic| wtm_at "side") => `(tactic| (first | assumption | decide | omega | (refine Or.inr ?_; omega) | (refine Or.inl ?_; omega) | (refine ⟨?_, ?_⟩ <;> omega) | (refine ⟨?_, ?_, ?_⟩ <;> first | omega | decide) | fail "side"))
local macro_rules | `(tactic| wtm_at "len") => `(tactic| (first | omega | (simp only [List.length_map, List.length_append, List.length_cons, List.length_nil, List.length_set, List.length_replicate] at *; omega) | exact Nat.le_of_ble_eq_true rfl | fail "len"))
local macro_rules | `(tactic| wtm_at "x") => `(tactic| (first
  | ((with_reducible refine' Xk.x_var ?a1 ?_); (case a1 => exact rfl))
  | (with_reducible refine Xk.x_c ?_)
  | (with_reducible refine Xk.x_op ?_)
  | (with_reducible refine Xk.x_I0 ?_)
  | ((with_reducible refine' Xk.x_I ?a1 ?_); (case a1 => wtm_at "side"))
  | (with_reducible refine Xk.x_cons ?_)
  | (with_reducible refine Xk.x_nil ?_)
  | (with_reducible refine Xk.x_cb ?_)
  | (with_reducible refine Xk.x_call ?_)
  | (with_reducible refine Xk.x_sasg ?_)
  | (with_reducible refine Xk.x_asg ?_)
  | (with_reducible refine Xk.x_ret ?_)
  | (with_reducible refine Xk.x_test ?_)
  | (with_reducible refine Xk.x_bl ?_)
  | (with_reducible refine Xk.x_isI ?_)
  | (with_reducible refine Xk.x_sif ?_)
  | (with_reducible refine Xk.x_ifS ?_)
  | (with_reducible refine Xk.x_and ?_)
  | (with_reducible refine Xk.x_or ?_)
  | (with_reducible refine Xk.x_not ?_)
  | (with_reducible refine Xk.x_B ?_)
  | (with_reducible refine Xk.x_nInt ?_)
  | (with_reducible refine Xk.x_nIntB ?_)
  | ((with_reducible refine' Xk.x_lenL ?a1 ?_); (case a1 => wtm_at "sq"))
  | ((with_reducible refine' Xk.x_lenT ?a1 ?_); (case a1 => wtm_at "st"))
  | (with_reducible refine Xk.x_un ?_)
  | (with_reducible refine Xk.x_U ?_)
  | ((with_reducible refine' Xk.x_eq ?a1 ?_); (case a1 => exact rfl))
  | ((with_reducible refine' Xk.x_ne ?a1 ?_); (case a1 => exact rfl))
  | ((with_reducible refine' Xk.x_ixL ?a1 ?a2 ?_); (case a1 => wtm_at "sq"); (case a2 => first | exact rfl | assumption | exact Xk.at_nat rfl (Xk.map_at (by assumption)) | exact Xk.at_nat rfl (by assumption)))
  | ((with_reducible refine' Xk.x_ixT ?a1 ?a2 ?_); (case a1 => wtm_at "st"); (case a2 => first | exact rfl | assumption | exact Xk.at_nat rfl (Xk.map_at (by assumption)) | exact Xk.at_nat rfl (by assumption)))
  | (with_reducible refine Xk.x_lst ?_)
  | (with_reducible refine Xk.x_tup ?_)
  | ((with_reducible refine' Xk.x_new ?a1 ?_); (case a1 => wtm_at "len"))
  | ((with_reducible refine' Xk.x_listL ?a1 ?_); (case a1 => wtm_at "sq"))
  | ((with_reducible refine' Xk.x_listT ?a1 ?_); (case a1 => wtm_at "st"))
  | ((with_reducible refine' Xk.x_tupleL ?a1 ?_); (case a1 => wtm_at "sq"))
  | ((with_reducible refine' Xk.x_tupleT ?a1 ?_); (case a1 => wtm_at "st"))
  | (with_reducible refine Xk.x_seq ?_)
  | (with_reducible refine Xk.x_next ?_)
  | (with_reducible refine Xk.x_sdrop ?_)
  | (with_reducible refine Xk.x_drop ?_)
  | (with_reducible refine Xk.x_bm ?_)
  | (with_reducible refine Xk.x_bm0 ?_)
  | ((with_reducible refine' Xk.x_tyL ?a1 ?_); (case a1 => wtm_at "sq"))
  | ((with_reducible refine' Xk.x_app ?a1 ?a2 ?_); (case a1 => wtm_at "hx"); (case a2 => wtm_at "len"))
  | (with_reducible refine Xk.x_sasgG ?_)
  | (with_reducible refine Xk.x_asgG ?_)
  | (with_reducible refine Xk.x_gName ?_)
  | ((with_reducible refine' Xk.x_gTup ?a1 ?a2 ?_); (case a1 => wtm_at "st"); (case a2 => exact rfl))
  | ((with_reducible refine' Xk.x_gLst ?a1 ?a2 ?_); (case a1 => wtm_at "sq"); (case a2 => exact rfl))
  | (with_reducible refine Xk.x_gCons ?_)
  | (with_reducible refine Xk.x_gNil ?_)
  | (with_reducible refine Xk.x_gSub ?_)
  | (with_reducible refine Xk.x_if ?_)
  | (with_reducible refine Xk.x_andV ?_)
  | (with_reducible refine Xk.x_orV ?_)
  | (with_reducible refine Xk.x_notV ?_)
  | (with_reducible refine Xk.x_chain ?_)
  | (with_reducible refine Xk.x_yes ?_)
  | (with_reducible refine Xk.x_sl ?_)
  | (with_reducible refine Xk.x_nopart ?_)
  | (with_reducible refine Xk.x_part ?_)
  | ((with_reducible refine' Xk.x_slL ?a1 ?_); (case a1 => wtm_at "sq"))
  | ((with_reducible refine' Xk.x_saug ?a1 ?_); (case a1 => exact rfl))
  | ((with_reducible refine' Xk.x_aug ?a1 ?_); (case a1 => exact rfl))
  | (with_reducible refine Xk.x_ipI ?_)
  | ((with_reducible refine' Xk.x_isiInt ?a1 ?_); (case a1 => first | exact Xk.kit_T (by decide +kernel) | exact Xk.kit_F (by decide +kernel)))
  | ((with_reducible refine' Xk.x_isiBl ?a1 ?_); (case a1 => first | exact Xk.kit_T (by decide +kernel) | exact Xk.kit_F (by decide +kernel)))
  | ((with_reducible refine' Xk.x_isiStr ?a1 ?_); (case a1 => first | exact Xk.kit_T (by decide +kernel) | exact Xk.kit_F (by decide +kernel)))
  | ((with_reducible refine' Xk.x_isiNon ?a1 ?_); (case a1 => first | exact Xk.kit_T (by decide +kernel) | exact Xk.kit_F (by decide +kernel)))
  | ((with_reducible refine' Xk.x_isiLst ?a1 ?a2 ?_); (case a1 => wtm_at "hx"); (case a2 => first | exact Xk.kit_T (by decide +kernel) | exact Xk.kit_F (by decide +kernel)))
  | ((with_reducible refine' Xk.x_isiTup ?a1 ?a2 ?_); (case a1 => wtm_at "hx"); (case a2 => first | exact Xk.kit_T (by decide +kernel) | exact Xk.kit_F (by decide +kernel)))
  | (with_reducible refine Xk.x_forR1 ?_)
  | (with_reducible refine Xk.x_forL1 ?_)
  | (with_reducible refine Xk.x_forT1 ?_)
  | (with_reducible refine Xk.x_brk ?_)
  | (with_reducible refine Xk.x_ct ?_)
  | (with_reducible refine Xk.x_retN ?_)
  | (with_reducible refine Xk.x_lcL1 ?_)
  | (with_reducible refine Xk.x_lcT1 ?_)
  | (with_reducible refine Xk.x_lcR1 ?_)
  | (with_reducible refine Xk.x_lcE1 ?_)
  | (with_reducible refine Xk.x_nocutW ?_)
  | (with_reducible refine Xk.x_nIsN ?_)
  | (with_reducible refine Xk.x_nNotN ?_)
  | (with_reducible refine Xk.x_and255 ?_)
  | (with_reducible refine Xk.x_wT ?_)
  | (with_reducible refine Xk.x_wF ?_)
  | (with_reducible refine Xk.x_lstRg ?_)
  | (with_reducible refine Xk.x_rg1 ?_)
  | ((with_reducible refine' Xk.x_nRg ?a1 ?_); (case a1 => omega))
  | (with_reducible refine L2.iteT ?_)
  | (with_reducible refine L2.iteF ?_)
  | (with_reducible refine Xk.x_nT ?_)
  | (with_reducible refine Xk.x_nF ?_)
  | ((with_reducible refine' Xk.x_dY ?a1 ?_); (case a1 => first | exact rfl | assumption | omega))
  | ((with_reducible refine' Xk.x_dN ?a1 ?_); (case a1 => first | assumption | omega | (intro z; cases z; done)))
  | ((with_reducible refine' Xk.x_ndY ?a1 ?_); (case a1 => first | exact rfl | assumption | omega))
  | ((with_reducible refine' Xk.x_ndN ?a1 ?_); (case a1 => first | assumption | omega | (intro z; cases z; done)))
  | (with_reducible refine Xk.x_lc2 ?_)
  | (with_reducible refine Xk.x_fld1 ?_)
  | ((with_reducible refine' Xk.x_rFld ?a1 ?a2 ?a3 ?a4 ?_); (case a1 => wtm_at "hx"); (case a2 => wtm_at "cls"); (case a3 => wtm_at "cls"); (case a4 => exact rfl))
  | (with_reducible refine Xk.x_ssfld ?_)
  | (with_reducible refine Xk.x_sfld ?_)
  | ((with_reducible refine' Xk.x_rSetF ?a1 ?a2 ?a3 ?a4 ?_); (case a1 => wtm_at "hx"); (case a2 => wtm_at "cls"); (case a3 => wtm_at "cls"); (case a4 => exact Nat.le_of_ble_eq_true rfl))
  | (with_reducible refine Xk.x_prop ?_)
  | ((with_reducible refine' Xk.x_rProp ?a1 ?_); (case a1 => wtm_at "hx"))
  | (with_reducible refine Xk.x_meth ?_)
  | ((with_reducible refine' Xk.x_rMeth ?a1 ?a2 ?_); (case a1 => wtm_at "hx"); (case a2 => exact rfl))
  | (with_reducible refine Xk.x_make ?_)
  | (with_reducible refine Xk.x_sdelT ?_)
  | (with_reducible refine Xk.x_delT ?_)
  | (with_reducible refine Xk.x_nMax2 ?_)
  | (with_reducible refine Xk.x_nMin2 ?_)
  | ((with_reducible refine' Xk.x_nRepS ?a1 ?a2 ?_); (case a1 => wtm_at "side"); (case a2 => decide))
  | (with_reducible refine Xk.x_inS ?_)
  | (with_reducible refine Xk.x_notInS ?_)
  | ((with_reducible refine' Xk.x_nAddS ?a1 ?_); (case a1 => wtm_at "len"))
  | ((with_reducible refine' Xk.x_nLenS ?a1 ?_); (case a1 => wtm_at "len"))
  | ((with_reducible refine' Xk.x_slS ?a1 ?_); (case a1 => wtm_at "len"))
  | (with_reducible refine Xk.x_lcS1 ?_)
  | (with_reducible refine Xk.x_forS1 ?_)
  | (with_reducible refine Xk.x_ord ?_)
  | (with_reducible refine Xk.x_dget1 ?_)
  | ((with_reducible refine' Xk.x_rGetD ?a1 ?_); (case a1 => wtm_at "hx"))
  | ((with_reducible refine' Xk.x_rGet1 ?a1 ?_); (case a1 => wtm_at "hx"))
  | (with_reducible refine Xk.x_dget2 ?_)
  | ((with_reducible refine' Xk.x_rGetE ?a1 ?_); (case a1 => wtm_at "hx"))
  | ((with_reducible refine' Xk.x_rGet2 ?a1 ?_); (case a1 => wtm_at "hx"))
  | (with_reducible refine Xk.x_dpop1 ?_)
  | ((with_reducible refine' Xk.x_rPopD ?a1 ?_); (case a1 => wtm_at "hx"))
  | (with_reducible refine Xk.x_dpop2 ?_)
  | ((with_reducible refine' Xk.x_rPopE ?a1 ?_); (case a1 => wtm_at "hx"))
  | (with_reducible refine Xk.x_din ?_)
  | ((with_reducible refine' Xk.x_rDInK ?a1 ?_); (case a1 => wtm_at "hx"))
  | (with_reducible refine Xk.x_dnew ?_)
  | (with_reducible refine Xk.x_notBl ?_)
  | (with_reducible refine Xk.x_isBl ?_)
  | (with_reducible refine Xk.x_dget ?_)
  | ((with_reducible refine' Xk.x_rDG ?a1 ?a2 ?_); (case a1 => wtm_at "hx"); (case a2 => wtm_at "key"))
  | (with_reducible refine Xk.x_sdput ?_)
  | (with_reducible refine Xk.x_dput ?_)
  | ((with_reducible refine' Xk.x_rDP ?a1 ?a2 ?a3 ?_); (case a1 => wtm_at "hx"); (case a2 => wtm_at "few"); (case a3 => wtm_at "key"))
  | (with_reducible refine Xk.x_pcons ?_)
  | (with_reducible refine Xk.x_pnil ?_)
  | (with_reducible refine Xk.x_forRev1 ?_)
  | (with_reducible refine Xk.x_forR2 ?_)
  | ((with_reducible refine' Xk.x_geP ?a1 ?a2 ?_); (case a1 => wtm_at "st"); (case a2 => wtm_at "st"))
  | ((with_reducible refine' Xk.x_ltP ?a1 ?a2 ?_); (case a1 => wtm_at "st"); (case a2 => wtm_at "st"))
  | (with_reducible refine Xk.x_lcZ1 ?_)
  | (with_reducible refine Xk.x_lcET1 ?_)
  | (with_reducible refine Xk.x_dcT1 ?_)
  | (with_reducible refine Xk.x_nLtS ?_)
  | (with_reducible refine Xk.x_nLeS ?_)
  | (with_reducible refine Xk.x_nGeS ?_)
  | (with_reducible refine Xk.x_spar ?_)
  | (with_reducible refine Xk.x_par ?_)
  | (with_reducible refine Xk.x_rPar ?_)
  | (with_reducible refine Xk.x_gSubSl ?_)
  | fail "x"))
local macro_rules | `(tactic| wtm_at "xs") => `(tactic| ((repeat wtm_at "x"); try dsimp only [L2.wipe, List.set, List.append_nil, List.cons_append, List.nil_append]))
local macro_rules | `(tactic| wtm_at "x0") => `(tactic| (dsimp only [L2.cxOf, L2.start, List.map, List.length, List.replicate, Nat.reduceAdd, Nat.reduceSub, List.cons_append, List.nil_append]))
local macro_rules | `(tactic| wtm_at "xc") => `(tactic| (dsimp only [L2.wipe, List.set, List.append_nil, List.cons_append, List.nil_append]))

local macro_rules | `(tactic| wtm_at "x") => `(tactic| (first
  | (with_reducible refine Xk.x_mthE ?_)
  | ((with_reducible refine' Xk.x_rMthE ?a1 ?a2 ?_); (case a1 => wtm_at "hx"); (case a2 => exact rfl))
  | (with_reducible refine Xk.x_raise ?_)
  | (with_reducible refine Xk.x_tryE ?_)
  | (with_reducible refine Xk.x_callE ?_)
  | (with_reducible refine Xk.x_dnewT ?_)
  | (with_reducible refine Xk.x_dnin ?_)
  | (with_reducible refine Xk.x_ddel ?_)
  | ((with_reducible refine' Xk.x_tyDT ?a1 ?_); (case a1 => wtm_at "hx"))
  | fail "x"))
namespace K13
open PySem PySem.Spec PyProof.Rows L2
def topS (i : Nat) : Stmt := PySem.Challenge.pw_crosskeep_k13_bags_hold_messages.main.body.getD i (.Pass ⟨0, 0, 0, 0⟩)
abbrev s_Bag___init__ : Stmt := inClass (topS 6) 0
abbrev N_Bag___init__ : List Str := ["self"]
theorem sc_Bag___init__ : FnScope ["self"] ["self"] (defScope s_Bag___init__) := ⟨rfl, rfl, rfl, by decide +kernel, rfl, by decide +kernel, by decide +kernel⟩
abbrev s_Bag_send : Stmt := inClass (topS 6) 1
abbrev N_Bag_send : List Str := ["self", "sender", "receiver", "body", "number"]
theorem sc_Bag_send : FnScope ["self", "sender", "receiver", "body", "number"] ["self", "sender", "receiver", "body"] (defScope s_Bag_send) := ⟨rfl, rfl, rfl, by decide +kernel, rfl, by decide +kernel, by decide +kernel⟩
abbrev s_Bag_message : Stmt := inClass (topS 6) 2
abbrev N_Bag_message : List Str := ["self", "number"]
theorem sc_Bag_message : FnScope ["self", "number"] ["self", "number"] (defScope s_Bag_message) := ⟨rfl, rfl, rfl, by decide +kernel, rfl, by decide +kernel, by decide +kernel⟩
abbrev s_Bag_take : Stmt := inClass (topS 6) 3
abbrev N_Bag_take : List Str := ["self", "number"]
theorem sc_Bag_take : FnScope ["self", "number"] ["self", "number"] (defScope s_Bag_take) := ⟨rfl, rfl, rfl, by decide +kernel, rfl, by decide +kernel, by decide +kernel⟩
abbrev s_Bag_drop : Stmt := inClass (topS 6) 4
abbrev N_Bag_drop : List Str := ["self", "number"]
theorem sc_Bag_drop : FnScope ["self", "number"] ["self", "number"] (defScope s_Bag_drop) := ⟨rfl, rfl, rfl, by decide +kernel, rfl, by decide +kernel, by decide +kernel⟩
abbrev s_Bag_is_cut : Stmt := inClass (topS 6) 5
abbrev N_Bag_is_cut : List Str := ["self", "number", "sender", "receiver", "_"]
theorem sc_Bag_is_cut : FnScope ["self", "number", "sender", "receiver", "_"] ["self", "number"] (defScope s_Bag_is_cut) := ⟨rfl, rfl, rfl, by decide +kernel, rfl, by decide +kernel, by decide +kernel⟩
abbrev s_Bag_double : Stmt := inClass (topS 6) 6
abbrev N_Bag_double : List Str := ["self", "number", "sender", "receiver", "body"]
theorem sc_Bag_double : FnScope ["self", "number", "sender", "receiver", "body"] ["self", "number"] (defScope s_Bag_double) := ⟨rfl, rfl, rfl, by decide +kernel, rfl, by decide +kernel, by decide +kernel⟩
abbrev s_Bag_numbers : Stmt := inClass (topS 6) 7
abbrev N_Bag_numbers : List Str := ["self"]
theorem sc_Bag_numbers : FnScope ["self"] ["self"] (defScope s_Bag_numbers) := ⟨rfl, rfl, rfl, by decide +kernel, rfl, by decide +kernel, by decide +kernel⟩
abbrev s_Bag_cut : Stmt := inClass (topS 6) 8
abbrev N_Bag_cut : List Str := ["self", "sender", "receiver"]
theorem sc_Bag_cut : FnScope ["self", "sender", "receiver"] ["self", "sender", "receiver"] (defScope s_Bag_cut) := ⟨rfl, rfl, rfl, by decide +kernel, rfl, by decide +kernel, by decide +kernel⟩
abbrev s_Bag_heal : Stmt := inClass (topS 6) 9
abbrev N_Bag_heal : List Str := ["self", "sender", "receiver"]
theorem sc_Bag_heal : FnScope ["self", "sender", "receiver"] ["self", "sender", "receiver"] (defScope s_Bag_heal) := ⟨rfl, rfl, rfl, by decide +kernel, rfl, by decide +kernel, by decide +kernel⟩
abbrev s_Bag_links : Stmt := inClass (topS 6) 10
abbrev N_Bag_links : List Str := ["self"]
theorem sc_Bag_links : FnScope ["self"] ["self"] (defScope s_Bag_links) := ⟨rfl, rfl, rfl, by decide +kernel, rfl, by decide +kernel, by decide +kernel⟩
abbrev s_Bag_fork : Stmt := inClass (topS 6) 11
abbrev N_Bag_fork : List Str := ["self", "twin", "link"]
theorem sc_Bag_fork : FnScope ["self", "twin", "link"] ["self"] (defScope s_Bag_fork) := ⟨rfl, rfl, rfl, by decide +kernel, rfl, by decide +kernel, by decide +kernel⟩
abbrev s__law_row : Stmt := topS 8
abbrev N__law_row : List Str := ["script", "k", "cell", "first", "second"]
theorem sc__law_row : FnScope ["script", "k", "cell", "first", "second"] ["script", "k"] (defScope s__law_row) := ⟨rfl, rfl, rfl, by decide +kernel, rfl, by decide +kernel, by decide +kernel⟩
abbrev s__law_digits : Stmt := topS 9
abbrev N__law_digits : List Str := ["row", "sizes", "digits", "size"]
theorem sc__law_digits : FnScope ["row", "sizes", "digits", "size"] ["row", "sizes"] (defScope s__law_digits) := ⟨rfl, rfl, rfl, by decide +kernel, rfl, by decide +kernel, by decide +kernel⟩
abbrev s__law_agrees : Stmt := topS 10
abbrev N__law_agrees : List Str := ["bag", "model", "numbers", "links"]
theorem sc__law_agrees : FnScope ["bag", "model", "numbers", "links"] ["bag", "model"] (defScope s__law_agrees) := ⟨rfl, rfl, rfl, by decide +kernel, rfl, by decide +kernel, by decide +kernel⟩
abbrev s__law_fault : Stmt := topS 11
abbrev N__law_fault : List Str := ["e", "cut"]
theorem sc__law_fault : FnScope ["e", "cut"] ["e"] (defScope s__law_fault) := ⟨rfl, rfl, rfl, by decide +kernel, rfl, by decide +kernel, by decide +kernel⟩
abbrev s__law_asked : Stmt := topS 12
abbrev N__law_asked : List Str := ["bag", "kind", "number", "e"]
theorem sc__law_asked : FnScope ["bag", "kind", "number", "e"] ["bag", "kind", "number"] (defScope s__law_asked) := ⟨rfl, rfl, rfl, by decide +kernel, rfl, by decide +kernel, by decide +kernel⟩
abbrev s__law_due : Stmt := topS 13
abbrev N__law_due : List Str := ["model", "kind", "number", "messages", "message", "cut"]
theorem sc__law_due : FnScope ["model", "kind", "number", "messages", "message", "cut"] ["model", "kind", "number"] (defScope s__law_due) := ⟨rfl, rfl, rfl, by decide +kernel, rfl, by decide +kernel, by decide +kernel⟩
abbrev s__law_sent : Stmt := topS 14
abbrev N__law_sent : List Str := ["bag", "model", "row", "sender", "receiver", "same", "body", "number", "message", "messages", "told"]
theorem sc__law_sent : FnScope ["bag", "model", "row", "sender", "receiver", "same", "body", "number", "message", "messages", "told"] ["bag", "model", "row"] (defScope s__law_sent) := ⟨rfl, rfl, rfl, by decide +kernel, rfl, by decide +kernel, by decide +kernel⟩
abbrev s__law_linked : Stmt := topS 15
abbrev N__law_linked : List Str := ["bag", "model", "row", "messages", "sender", "receiver", "cuts", "known", "at", "chosen", "links"]
theorem sc__law_linked : FnScope ["bag", "model", "row", "messages", "sender", "receiver", "cuts", "known", "at", "chosen", "links"] ["bag", "model", "row", "messages"] (defScope s__law_linked) := ⟨rfl, rfl, rfl, by decide +kernel, rfl, by decide +kernel, by decide +kernel⟩
abbrev s__law_twin : Stmt := topS 16
abbrev N__law_twin : List Str := ["model", "messages", "number", "links", "link"]
theorem sc__law_twin : FnScope ["model", "messages", "number", "links", "link"] ["model"] (defScope s__law_twin) := ⟨rfl, rfl, rfl, by decide +kernel, rfl, by decide +kernel, by decide +kernel⟩
abbrev s_law : Stmt := topS 17
abbrev N_law : List Str := ["script", "many", "room", "bags", "models", "k", "which", "kind", "forks", "at", "row", "model", "number", "j"]
theorem sc_law : FnScope ["script", "many", "room", "bags", "models", "k", "which", "kind", "forks", "at", "row", "model", "number", "j"] ["script"] (defScope s_law) := ⟨rfl, rfl, rfl, by decide +kernel, rfl, by decide +kernel, by decide +kernel⟩
structure Txt (K : PySem.W.Frag) (mg : Str → Option Value) where
  C_Bag : Addr
  Cls_Bag : Cls K C_Bag
  g_Bag : mg "Bag" = some (.ref C_Bag)
  A_Bag__messages : NoAttr K C_Bag "_messages"
  A_Bag__next_number : NoAttr K C_Bag "_next_number"
  A_Bag__cut_links : NoAttr K C_Bag "_cut_links"
  C_CrossError : Addr
  g_CrossError : mg "CrossError" = some (.ref C_CrossError)
  N_CrossError : Xk.ClsX K C_CrossError
  C_Malformed : Addr
  g_Malformed : mg "Malformed" = some (.ref C_Malformed)
  N_Malformed : Xk.ClsX K C_Malformed
  C_NoMessage : Addr
  g_NoMessage : mg "NoMessage" = some (.ref C_NoMessage)
  N_NoMessage : Xk.ClsX K C_NoMessage
  C_LinkCut : Addr
  g_LinkCut : mg "LinkCut" = some (.ref C_LinkCut)
  N_LinkCut : Xk.ClsX K C_LinkCut
  R_NoMessage : Xk.ExR K C_NoMessage
  s_NoMessage_CrossError : PySem.W.subIn K (.ref C_NoMessage) (.ref C_CrossError) = some true
  s_NoMessage_Malformed : PySem.W.subIn K (.ref C_NoMessage) (.ref C_Malformed) = some false
  s_NoMessage_LinkCut : PySem.W.subIn K (.ref C_NoMessage) (.ref C_LinkCut) = some false
  v_NoMessage : PySem.W.subIn K (.ref C_NoMessage) (.type "ValueError") = some true
  R_LinkCut : Xk.ExR K C_LinkCut
  s_LinkCut_CrossError : PySem.W.subIn K (.ref C_LinkCut) (.ref C_CrossError) = some true
  s_LinkCut_Malformed : PySem.W.subIn K (.ref C_LinkCut) (.ref C_Malformed) = some false
  s_LinkCut_NoMessage : PySem.W.subIn K (.ref C_LinkCut) (.ref C_NoMessage) = some false
  v_LinkCut : PySem.W.subIn K (.ref C_LinkCut) (.type "ValueError") = some true
  f_Bag___init__ : Addr
  d_Bag___init__ : FuncData
  F_Bag___init__ : Fun K "__init__" "Bag.__init__" s_Bag___init__ f_Bag___init__ d_Bag___init__
  b_Bag___init__ : Binds K d_Bag___init__ ["self"] []
  Mk_Bag : Mk K C_Bag f_Bag___init__
  f_Bag_send : Addr
  d_Bag_send : FuncData
  F_Bag_send : Fun K "send" "Bag.send" s_Bag_send f_Bag_send d_Bag_send
  b_Bag_send : Binds K d_Bag_send ["self", "sender", "receiver", "body"] []
  M_Bag_send : Meth K C_Bag "send" f_Bag_send
  f_Bag_message : Addr
  d_Bag_message : FuncData
  F_Bag_message : Fun K "message" "Bag.message" s_Bag_message f_Bag_message d_Bag_message
  b_Bag_message : Binds K d_Bag_message ["self", "number"] []
  M_Bag_message : Meth K C_Bag "message" f_Bag_message
  f_Bag_take : Addr
  d_Bag_take : FuncData
  F_Bag_take : Fun K "take" "Bag.take" s_Bag_take f_Bag_take d_Bag_take
  b_Bag_take : Binds K d_Bag_take ["self", "number"] []
  M_Bag_take : Meth K C_Bag "take" f_Bag_take
  f_Bag_drop : Addr
  d_Bag_drop : FuncData
  F_Bag_drop : Fun K "drop" "Bag.drop" s_Bag_drop f_Bag_drop d_Bag_drop
  b_Bag_drop : Binds K d_Bag_drop ["self", "number"] []
  M_Bag_drop : Meth K C_Bag "drop" f_Bag_drop
  f_Bag_is_cut : Addr
  d_Bag_is_cut : FuncData
  F_Bag_is_cut : Fun K "is_cut" "Bag.is_cut" s_Bag_is_cut f_Bag_is_cut d_Bag_is_cut
  b_Bag_is_cut : Binds K d_Bag_is_cut ["self", "number"] []
  M_Bag_is_cut : Meth K C_Bag "is_cut" f_Bag_is_cut
  f_Bag_double : Addr
  d_Bag_double : FuncData
  F_Bag_double : Fun K "double" "Bag.double" s_Bag_double f_Bag_double d_Bag_double
  b_Bag_double : Binds K d_Bag_double ["self", "number"] []
  M_Bag_double : Meth K C_Bag "double" f_Bag_double
  f_Bag_numbers : Addr
  d_Bag_numbers : FuncData
  F_Bag_numbers : Fun K "numbers" "Bag.numbers" s_Bag_numbers f_Bag_numbers d_Bag_numbers
  b_Bag_numbers : Binds K d_Bag_numbers ["self"] []
  M_Bag_numbers : Meth K C_Bag "numbers" f_Bag_numbers
  f_Bag_cut : Addr
  d_Bag_cut : FuncData
  F_Bag_cut : Fun K "cut" "Bag.cut" s_Bag_cut f_Bag_cut d_Bag_cut
  b_Bag_cut : Binds K d_Bag_cut ["self", "sender", "receiver"] []
  M_Bag_cut : Meth K C_Bag "cut" f_Bag_cut
  f_Bag_heal : Addr
  d_Bag_heal : FuncData
  F_Bag_heal : Fun K "heal" "Bag.heal" s_Bag_heal f_Bag_heal d_Bag_heal
  b_Bag_heal : Binds K d_Bag_heal ["self", "sender", "receiver"] []
  M_Bag_heal : Meth K C_Bag "heal" f_Bag_heal
  f_Bag_links : Addr
  d_Bag_links : FuncData
  F_Bag_links : Fun K "links" "Bag.links" s_Bag_links f_Bag_links d_Bag_links
  b_Bag_links : Binds K d_Bag_links ["self"] []
  M_Bag_links : Meth K C_Bag "links" f_Bag_links
  f_Bag_fork : Addr
  d_Bag_fork : FuncData
  F_Bag_fork : Fun K "fork" "Bag.fork" s_Bag_fork f_Bag_fork d_Bag_fork
  b_Bag_fork : Binds K d_Bag_fork ["self"] []
  M_Bag_fork : Meth K C_Bag "fork" f_Bag_fork
  f__law_row : Addr
  d__law_row : FuncData
  F__law_row : Fun K "_law_row" "_law_row" s__law_row f__law_row d__law_row
  b__law_row : Binds K d__law_row ["script", "k"] []
  g__law_row : mg "_law_row" = some (.ref f__law_row)
  f__law_digits : Addr
  d__law_digits : FuncData
  F__law_digits : Fun K "_law_digits" "_law_digits" s__law_digits f__law_digits d__law_digits
  b__law_digits : Binds K d__law_digits ["row", "sizes"] []
  g__law_digits : mg "_law_digits" = some (.ref f__law_digits)
  f__law_agrees : Addr
  d__law_agrees : FuncData
  F__law_agrees : Fun K "_law_agrees" "_law_agrees" s__law_agrees f__law_agrees d__law_agrees
  b__law_agrees : Binds K d__law_agrees ["bag", "model"] []
  g__law_agrees : mg "_law_agrees" = some (.ref f__law_agrees)
  f__law_fault : Addr
  d__law_fault : FuncData
  F__law_fault : Fun K "_law_fault" "_law_fault" s__law_fault f__law_fault d__law_fault
  b__law_fault : Binds K d__law_fault ["e"] []
  g__law_fault : mg "_law_fault" = some (.ref f__law_fault)
  f__law_asked : Addr
  d__law_asked : FuncData
  F__law_asked : Fun K "_law_asked" "_law_asked" s__law_asked f__law_asked d__law_asked
  b__law_asked : Binds K d__law_asked ["bag", "kind", "number"] []
  g__law_asked : mg "_law_asked" = some (.ref f__law_asked)
  f__law_due : Addr
  d__law_due : FuncData
  F__law_due : Fun K "_law_due" "_law_due" s__law_due f__law_due d__law_due
  b__law_due : Binds K d__law_due ["model", "kind", "number"] []
  g__law_due : mg "_law_due" = some (.ref f__law_due)
  f__law_sent : Addr
  d__law_sent : FuncData
  F__law_sent : Fun K "_law_sent" "_law_sent" s__law_sent f__law_sent d__law_sent
  b__law_sent : Binds K d__law_sent ["bag", "model", "row"] []
  g__law_sent : mg "_law_sent" = some (.ref f__law_sent)
  f__law_linked : Addr
  d__law_linked : FuncData
  F__law_linked : Fun K "_law_linked" "_law_linked" s__law_linked f__law_linked d__law_linked
  b__law_linked : Binds K d__law_linked ["bag", "model", "row", "messages"] []
  g__law_linked : mg "_law_linked" = some (.ref f__law_linked)
  f__law_twin : Addr
  d__law_twin : FuncData
  F__law_twin : Fun K "_law_twin" "_law_twin" s__law_twin f__law_twin d__law_twin
  b__law_twin : Binds K d__law_twin ["model"] []
  g__law_twin : mg "_law_twin" = some (.ref f__law_twin)
  f_law : Addr
  d_law : FuncData
  F_law : Fun K "law" "law" s_law f_law d_law
  b_law : Binds K d_law ["script"] []
  g_law : mg "law" = some (.ref f_law)
  m_ValueError : mg "ValueError" = none
  m_bool : mg "bool" = none
  m_dict : mg "dict" = none
  m_int : mg "int" = none
  m_isinstance : mg "isinstance" = none
  m_len : mg "len" = none
  m_list : mg "list" = none
  m_range : mg "range" = none
  m_sorted : mg "sorted" = none
section
variable {P : Program} {w : World} {K : PySem.W.Frag} {mg : Str → Option Value} {base : Heap}
def sp__law_row (K : PySem.W.Frag) : Sp := fun vs H Q _ => ∃ (a : Addr) (k : Int) (ns : List Int), vs = [.ref a, .int k] ∧ SqL K H a (ns.map V.int) ∧ ns.length ≤ 63 ∧ 0 ≤ k ∧ k ≤ 1000 ∧ ∀ n : Int, 0 ≤ n → Q (.int n) H
theorem ok__law_row (T : Txt K mg) : FnOk P w K mg base CX0 1 T.f__law_row T.d__law_row ["script", "k"] (sp__law_row K) := by
  refine T.F__law_row.ok sc__law_row (fun vs H Q E h => ?_) (fun cdv A outer s H vs Q E hr h => ?_)
  · obtain ⟨a, k, ns, rfl, _⟩ := h
    rfl
  obtain ⟨a, k, ns, rfl, hS, hl, hk, hk2, q⟩ := h
  refine ⟨_, (pss_cons (ps_set (i := 2) sc__law_row.nd rfl (Or.inl rfl) (pe_int))
      (Evl.pss_cut (ps_if (pt_cmpR op_gt (pe_callB (Xk.k_len (K := K) (by rfl)) (by rfl) T.m_len PySem.boot_len (pa_cons (pv 0) pa_nil)) (pe_int) (nomark _)) (pss_one (ps_set (i := 2) sc__law_row.nd rfl (Or.inl rfl) (pe_ix (Xk.k_ixL (K := K) (by rfl)) (pv 0) (pe_op op_mod (pe_callTy Xk.call_nInt (by rfl) T.m_int (by decide +kernel) (pa_cons (pv 1) pa_nil)) (pe_callB (Xk.k_len (K := K) (by rfl)) (by rfl) T.m_len PySem.boot_len (pa_cons (pv 0) pa_nil))) (fun _ _ => rfl)))) pss_nil)
      (Evl.pss_cut (ps_if (pt_cmpR op_lt (pv 2) (pe_int) (nomark _)) (pss_one (ps_set (i := 2) sc__law_row.nd rfl (Or.inl rfl) (pe_op op_sub (pe_int) (pe_op op_mul (pe_int) (pv 2))))) pss_nil)
      (Evl.pss_cut (ps_if (PW.pt (pw_and (pt_cmpR op_ge (pv 2) (pe_op op_pow (pe_int) (pe_int)) (nomark _)) (pw_and1 (pt_cmpR op_lt (pv 1) (pe_callB (Xk.k_len (K := K) (by rfl)) (by rfl) T.m_len PySem.boot_len (pa_cons (pv 0) pa_nil)) (nomark _))))) (pss_one (ps_ret (pv 2))) pss_nil)
      (pss_cons (ps_set (i := 3) sc__law_row.nd rfl (Or.inl rfl) (pe_op op_mod (pe_callTy Xk.call_nInt (by rfl) T.m_int (by decide +kernel) (pa_cons (pe_op op_add (pe_op op_add (pe_op op_mul (pv 2) (pe_int)) (pe_op op_mul (pe_op op_add (pv 1) (pe_int)) (pe_int))) (pe_callB (Xk.k_len (K := K) (by rfl)) (by rfl) T.m_len PySem.boot_len (pa_cons (pv 0) pa_nil))) pa_nil)) (pe_int)))
      (pss_cons (ps_set (i := 4) sc__law_row.nd rfl (Or.inl rfl) (pe_op op_mod (pe_callTy Xk.call_nInt (by rfl) T.m_int (by decide +kernel) (pa_cons (pe_op op_add (pe_op op_add (pe_op op_mul (pv 3) (pv 3)) (pe_op op_mul (pv 2) (pe_int))) (pv 1)) pa_nil)) (pe_int)))
      (pss_one (ps_ret (pe_op op_add (pe_op op_mul (pv 4) (pe_int)) (pe_op op_mod (pe_callTy Xk.call_nInt (by rfl) T.m_int (by decide +kernel) (pa_cons (pe_op op_mul (pv 3) (pe_int)) pa_nil)) (pe_int))))))))))), ?_⟩
  wtm_at "x0"
  wtm_at "xs"
  refine Xk.x_cut (fun σ' H' => H = H' ∧ ∃ c : Int, σ' = [some (.ref a), some (.int k), some (.int c), none, none]) ?_ ?_
  · wtm_at "xs"
    refine Xk.x_itd (fun h => ?_) (fun h => ?_)
    · wtm_at "xs"
      rw [List.length_map] at h ⊢
      have h1 : k % (ns.length : Int) < ns.length := Int.emod_lt_of_pos _ h
      have h2 : 0 ≤ k % (ns.length : Int) := Int.emod_nonneg _ (by omega)
      obtain ⟨j, hj⟩ := Int.eq_ofNat_of_zero_le h2
      rw [hj] at h1 ⊢
      have h3 : j < ns.length := by omega
      refine Xk.x_ixL hS (atI_nat (j := j) (by rw [List.getElem?_map, List.getElem?_eq_getElem h3]; rfl)) ?_
      exact ⟨rfl, _, rfl⟩
    · wtm_at "xs"
      exact ⟨rfl, _, rfl⟩
  rintro σ' H' ⟨rfl, c, rfl⟩
  refine Xk.x_cut (fun σ' H' => H = H' ∧ ∃ c : Int, 0 ≤ c ∧ σ' = [some (.ref a), some (.int k), some (.int c), none, none]) ?_ ?_
  · wtm_at "xs"
    refine Xk.x_itd (fun h => ?_) (fun h => ?_)
    · wtm_at "xs"
      exact ⟨rfl, _, by omega, rfl⟩
    · wtm_at "xs"
      exact ⟨rfl, _, by omega, rfl⟩
  rintro σ' H' ⟨rfl, c, hc, rfl⟩
  refine Xk.x_cut (fun σ' H' => H = H' ∧ σ' = [some (.ref a), some (.int k), some (.int c), none, none]) ?_ ?_
  · wtm_at "xs"
    refine Xk.x_itd (fun h => ?_) (fun h => ?_)
    · wtm_at "xs"
      refine Xk.x_itd (fun h => ?_) (fun h => ?_)
      · wtm_at "xs"
        exact q _ hc
      · wtm_at "xs"
        exact ⟨rfl, rfl⟩
    · wtm_at "xs"
      exact ⟨rfl, rfl⟩
  rintro σ' H' ⟨rfl, rfl⟩
  wtm_at "xs"
  exact q _ (by omega)
def sp__law_digits (K : PySem.W.Frag) : Sp := fun vs H Q _ => ∃ (n : Int) (a : Addr) (zs : List Int), vs = [.int n, .ref a] ∧ SqL K H a (zs.map V.int) ∧ zs.length ≤ 20 ∧ (∀ z ∈ zs, 0 < z ∧ z < 1152921504606846976) ∧
  ∀ (p : Addr) (H2 : Hp) (ds : List Int), Xk.Fr p H → Same H H2 → H2 p = some (.lst (ds.map V.int)) → ds.length = zs.length → (∀ (i : Nat) d z, ds[i]? = some d → zs[i]? = some z → 0 ≤ d ∧ d < z) → Q (.ref p) H2
theorem ok__law_digits (T : Txt K mg) : FnOk P w K mg base CX0 1 T.f__law_digits T.d__law_digits ["row", "sizes"] (sp__law_digits K) := by
  refine T.F__law_digits.ok sc__law_digits (fun vs H Q E h => ?_) (fun cdv A outer s H vs Q E hr h => ?_)
  · obtain ⟨n, a, zs, rfl, _⟩ := h
    rfl
  obtain ⟨n, a, zs, rfl, hS, hl, hz, q⟩ := h
  refine ⟨_, (pss_cons (ps_set (i := 2) sc__law_digits.nd rfl (Or.inl rfl) (pe_lst pa_nil))
      (pss_cons (ps_for PassesOwn.never rfl (pi_list (pv 1)) (pg_name (i := 3) sc__law_digits.nd rfl (Or.inl rfl)) (pss_cons (ps_expr (pe_bm PySem.F.plainAttrs_list PySem.F.slot_list_append PySem.F.type_list_append mt_append (pv 2) (pa_cons (pe_op op_mod (pe_callTy Xk.call_nInt (by rfl) T.m_int (by decide +kernel) (pa_cons (pv 0) pa_nil)) (pv 3)) pa_nil)))
      (pss_one (ps_set (i := 0) sc__law_digits.nd rfl (Or.inl rfl) (pe_op op_fdivW (pv 0) (pv 3))))))
      (pss_one (ps_ret (pv 2))))), ?_⟩
  wtm_at "x0"
  wtm_at "xs"
  intro p H1 hp s1 h1
  wtm_at "xs"
  refine Xk.x_forL (fun i σ' H' => ∃ y n ds, σ' = [some (.int n), some (.ref a), some (.ref p), y] ∧ Same H H' ∧ H' p = some (.lst (ds.map V.int)) ∧ ds.length = i ∧ (∀ (i : Nat) d z, ds[i]? = some d → zs[i]? = some z → 0 ≤ d ∧ d < z)) (by wtm_at "sq") ⟨_, _, [], rfl, s1, h1, rfl, by simp⟩ ?_ ?_ ?_
  · rintro i σ' H' hi ⟨y, n, ds, rfl, s2, h2, hd, hw⟩
    wtm_at "sq"
  · rintro i x σ' H' hi ⟨y, n, ds, rfl, s2, h2, hd, hw⟩
    rw [List.getElem?_map] at hi
    obtain ⟨z, ho, rfl⟩ := Option.map_eq_some_iff.mp hi
    have hz1 := hz z (List.mem_of_getElem? ho)
    have hi2 := (List.getElem?_eq_some_iff.mp ho).1
    wtm_at "xs"
    refine Xk.x_I (wide_div (b := 60) (by omega) (by omega) (by decide) (by decide)) ?_
    wtm_at "xs"
    refine ⟨_, _, ds ++ [n % z], rfl, by wtm_at "sm", ?_, by rw [List.length_append]; simp [hd], ?_⟩
    · rw [upd_same, List.map_append]
      rfl
    · intro j d z' h3 h4
      by_cases hj : j < ds.length
      · rw [List.getElem?_append_left hj] at h3
        exact hw j d z' h3 h4
      · have hj2 : j = i := by
          have h5 := (List.getElem?_eq_some_iff.mp h3).1
          simp at h5
          omega
        subst hj2
        rw [List.getElem?_append_right (by omega), hd, Nat.sub_self] at h3
        have e1 : n % z = d := Option.some.inj h3
        have e2 : z = z' := Option.some.inj (ho.symm.trans h4)
        subst e2 e1
        exact ⟨Int.emod_nonneg _ (by omega), Int.emod_lt_of_pos _ (by omega)⟩
  · rintro σ' H' ⟨y, n, ds, rfl, s2, h2, hd, hw⟩
    wtm_at "xs"
    rw [List.length_map] at hd
    exact q p _ ds hp s2 h2 hd hw
--CUT--
structure Ms where
  n : Int
  a : Addr
  s : Int
  r : Int
  d : PyData
abbrev Lk := Int × Int
def dk (A : List Ms) : List (L2.Key × V) := A.map fun e => (Sum.inl e.n, V.ref e.a)
def lkk (p : Lk) : List L2.Key := [Sum.inl p.1, Sum.inl p.2]
def lk (L : List Lk) : List (List L2.Key × V) := L.map fun p => (lkk p, V.bl true)
def gh (A : List Ms) : List (Int × Int × Int × PyData) := A.map fun e => (e.n, e.s, e.r, e.d)
def fnd (A : List Ms) (n : Int) : Option Ms := A.find? fun e => decide (e.n = n)
def rmv (A : List Ms) (n : Int) : List Ms := A.filter fun e => decide (e.n ≠ n)
def add (L : List Lk) (p : Lk) : List Lk := if p ∈ L then L else L ++ [p]
def sub (L : List Lk) (p : Lk) : List Lk := L.filter fun q => decide (q ≠ p)
theorem dk_val (n : Int) : ∀ A : List Ms, valV (dk A) (Sum.inl n) = (fnd A n).map fun e => V.ref e.a
  | [] => rfl
  | e :: A => by
    have ih := dk_val n A
    unfold fnd dk at *
    rw [List.map_cons, List.find?_cons]
    by_cases h : e.n = n
    · rw [valV_pos (by rw [h]), decide_eq_true h]
      rfl
    · rw [valV_neg (fun z => h (Sum.inl.inj z)), ih, decide_eq_false h]
theorem dk_put {A : List Ms} {n : Int} (h : fnd A n = none) (a : Addr) (s r : Int) (d : PyData) : putK (dk A) (Sum.inl n) (V.ref a) = dk (A ++ [⟨n, a, s, r, d⟩]) := by
  rw [putK_new _ (by rw [dk_val, h]; rfl)]
  unfold dk
  rw [List.map_append]
  rfl
theorem dk_drop (A : List Ms) (n : Int) : dropK (dk A) (Sum.inl n) = dk (rmv A n) := by
  unfold dropK dk rmv
  rw [List.filter_map]
  congr 1
  refine List.filter_congr fun e _ => ?_
  show decide ((Sum.inl e.n : L2.Key) ≠ Sum.inl n) = decide (e.n ≠ n)
  refine decide_eq_decide.mpr (not_congr ⟨fun z => Sum.inl.inj z, fun z => by rw [z]⟩)
theorem dk_keys (A : List Ms) : (dk A).map (·.1) = (A.map (·.n)).map Sum.inl := by
  unfold dk
  rw [List.map_map, List.map_map]
  rfl
theorem dk_len (A : List Ms) : (dk A).length = A.length := List.length_map _
theorem lkk_inj {p q : Lk} (h : lkk p = lkk q) : p = q := by
  unfold lkk at h
  simp only [List.cons.injEq, Sum.inl.injEq, and_true] at h
  exact Prod.ext h.1 h.2
theorem lk_val (p : Lk) : ∀ L : List Lk, valV (lk L) (lkk p) = if p ∈ L then some (.bl true) else none
  | [] => rfl
  | q :: L => by
    have ih := lk_val p L
    unfold lk at *
    rw [List.map_cons]
    by_cases h : q = p
    · subst h
      rw [valV_pos rfl, if_pos (List.mem_cons_self ..)]
    · rw [valV_neg (fun z => h (lkk_inj z)), ih]
      simp only [List.mem_cons, Ne.symm h, false_or]
theorem lk_in (p : Lk) (L : List Lk) : (valV (lk L) (lkk p)).isSome = decide (p ∈ L) := by
  rw [lk_val]
  by_cases h : p ∈ L
  · rw [if_pos h, decide_eq_true h]
    rfl
  · rw [if_neg h, decide_eq_false h]
    rfl
theorem lk_put (p : Lk) (L : List Lk) : putK (lk L) (lkk p) (.bl true) = lk (add L p) := by
  unfold add
  by_cases h : p ∈ L
  · rw [if_pos h]
    unfold putK
    have e : ((lk L).any fun kv => decide (kv.1 = lkk p)) = true := by
      rw [valV_any, lk_in]
      exact decide_eq_true h
    rw [if_pos e]
    unfold lk
    rw [List.map_map]
    refine List.map_congr_left fun q _ => ?_
    show (if lkk q = lkk p then (lkk q, V.bl true) else (lkk q, V.bl true)) = _
    split <;> rfl
  · rw [if_neg h, putK_new _ (by rw [lk_val, if_neg h])]
    unfold lk
    rw [List.map_append]
    rfl
theorem lk_drop (p : Lk) (L : List Lk) : dropK (lk L) (lkk p) = lk (sub L p) := by
  unfold dropK lk sub
  rw [List.filter_map]
  congr 1
  refine List.filter_congr fun q _ => ?_
  show decide (lkk q ≠ lkk p) = decide (q ≠ p)
  exact decide_eq_decide.mpr (not_congr ⟨lkk_inj, fun z => by rw [z]⟩)
theorem sub_out {p : Lk} {L : List Lk} (h : p ∉ L) : sub L p = L := by
  unfold sub
  rw [List.filter_eq_self]
  intro q hq
  exact decide_eq_true fun e => h (e ▸ hq)
theorem lk_keys (L : List Lk) : (lk L).map (·.1) = (L.map fun p => [p.1, p.2]).map fun k => k.map Sum.inl := by
  unfold lk
  rw [List.map_map, List.map_map]
  rfl
theorem lk_len (L : List Lk) : (lk L).length = L.length := List.length_map _
theorem lkk_V (p : Lk) : (lkk p).map kV = [V.int p.1, V.int p.2] := rfl
/-- what holds of a bag's contents; m: how many deeds at most -/
structure Ok (A : List Ms) (N : Int) (L : List Lk) (m : Nat) : Prop where
  nd : (A.map (·.n)).Nodup
  lt : ∀ e ∈ A, 0 ≤ e.n ∧ e.n < N
  n0 : 0 ≤ N
  al : A.length ≤ m
  lnd : L.Nodup
  ll : L.length ≤ m
theorem fnd_none {A : List Ms} {N : Int} {L : List Lk} {m : Nat} (h : Ok A N L m) : fnd A N = none := by
  unfold fnd
  rw [List.find?_eq_none]
  intro e he z
  have := (h.lt e he).2
  rw [of_decide_eq_true z] at this
  omega
theorem fnd_mem {A : List Ms} {n : Int} {e : Ms} (h : fnd A n = some e) : e ∈ A ∧ e.n = n := by
  unfold fnd at h
  have z := List.find?_some h
  exact ⟨List.mem_of_find?_eq_some h, of_decide_eq_true z⟩
theorem Ok.snoc {A : List Ms} {N : Int} {L : List Lk} {m : Nat} (h : Ok A N L m) (a : Addr) (s r : Int) (d : PyData) : Ok (A ++ [⟨N, a, s, r, d⟩]) (N + 1) L (m + 1) := by
  refine ⟨?_, fun e he => ?_, by have := h.n0; omega, by rw [List.length_append]; have := h.al; simpa using this, h.lnd, Nat.le_succ_of_le h.ll⟩
  · rw [List.map_append, List.nodup_append]
    refine ⟨h.nd, by simp, fun x hx y hy => ?_⟩
    obtain ⟨e, he, rfl⟩ := List.mem_map.mp hx
    simp only [List.map_cons, List.map_nil, List.mem_singleton] at hy
    subst hy
    have := (h.lt e he).2
    omega
  · rcases List.mem_append.mp he with he | he
    · have := h.lt e he
      omega
    · rw [List.mem_singleton] at he
      subst he
      have := h.n0
      exact ⟨this, by show N < N + 1; omega⟩
theorem Ok.rmv {A : List Ms} {N : Int} {L : List Lk} {m : Nat} (h : Ok A N L m) (n : Int) : Ok (rmv A n) N L (m + 1) := by
  refine ⟨h.nd.sublist (List.Sublist.map _ List.filter_sublist), fun e he => h.lt e (List.mem_filter.mp he).1, h.n0, Nat.le_succ_of_le (Nat.le_trans (List.length_filter_le _ _) h.al), h.lnd, Nat.le_succ_of_le h.ll⟩
theorem Ok.add {A : List Ms} {N : Int} {L : List Lk} {m : Nat} (h : Ok A N L m) (p : Lk) : Ok A N (add L p) (m + 1) := by
  refine ⟨h.nd, h.lt, h.n0, Nat.le_succ_of_le h.al, ?_, ?_⟩
  · unfold K13.add
    split
    · exact h.lnd
    · rename_i hp
      rw [List.nodup_append]
      refine ⟨h.lnd, by simp, fun x hx y hy => ?_⟩
      rw [List.mem_singleton] at hy
      subst hy
      intro e
      exact hp (e ▸ hx)
  · unfold K13.add
    split
    · exact Nat.le_succ_of_le h.ll
    · rw [List.length_append]
      have := h.ll
      simpa using this
theorem Ok.sub {A : List Ms} {N : Int} {L : List Lk} {m : Nat} (h : Ok A N L m) (p : Lk) : Ok A N (sub L p) (m + 1) :=
  ⟨h.nd, h.lt, h.n0, Nat.le_succ_of_le h.al, h.lnd.sublist List.filter_sublist, Nat.le_succ_of_le (Nat.le_trans (List.length_filter_le _ _) h.ll)⟩
theorem Ok.up {A : List Ms} {N : Int} {L : List Lk} {m k : Nat} (h : Ok A N L m) (l : m ≤ k) : Ok A N L k := ⟨h.nd, h.lt, h.n0, Nat.le_trans h.al l, h.lnd, Nat.le_trans h.ll l⟩
theorem gh_nums : ∀ {A B : List Ms}, gh A = gh B → A.map (·.n) = B.map (·.n) := fun {A B} h => by
  have := congrArg (List.map fun x : Int × Int × Int × PyData => x.1) h
  unfold gh at this
  rw [List.map_map, List.map_map] at this
  exact this
theorem gh_len {A B : List Ms} (h : gh A = gh B) : A.length = B.length := by
  have := congrArg List.length h
  unfold gh at this
  rw [List.length_map, List.length_map] at this
  exact this
def g4 (e : Ms) : Int × Int × Int × PyData := (e.n, e.s, e.r, e.d)
theorem gh_fnd (n : Int) : ∀ {A B : List Ms}, gh A = gh B → (fnd A n).map g4 = (fnd B n).map g4
  | [], [], _ => rfl
  | [], _ :: _, h => by cases h
  | _ :: _, [], h => by cases h
  | e :: A, f :: B, h => by
    unfold gh at h
    rw [List.map_cons, List.map_cons] at h
    injection h with h1 h2
    have ih := gh_fnd n (A := A) (B := B) h2
    unfold fnd at *
    rw [List.find?_cons, List.find?_cons]
    have en : e.n = f.n := congrArg Prod.fst h1
    by_cases q : e.n = n
    · have q2 : f.n = n := en.symm.trans q
      rw [decide_eq_true q, decide_eq_true q2]
      exact congrArg some h1
    · have q2 : ¬ f.n = n := fun z => q (en.trans z)
      rw [decide_eq_false q, decide_eq_false q2]
      exact ih
theorem gh_rmv (n : Int) : ∀ {A B : List Ms}, gh A = gh B → gh (rmv A n) = gh (rmv B n)
  | [], [], _ => rfl
  | [], _ :: _, h => by cases h
  | _ :: _, [], h => by cases h
  | e :: A, f :: B, h => by
    unfold gh at h
    rw [List.map_cons, List.map_cons] at h
    injection h with h1 h2
    have ih := gh_rmv n (A := A) (B := B) h2
    have en : e.n = f.n := congrArg Prod.fst h1
    unfold rmv at *
    by_cases q : e.n = n
    · have q2 : f.n = n := en.symm.trans q
      rw [List.filter_cons_of_neg (by simp [q]), List.filter_cons_of_neg (by simp [q2])]
      exact ih
    · have q2 : ¬ f.n = n := fun z => q (en.trans z)
      rw [List.filter_cons_of_pos (by simp [q]), List.filter_cons_of_pos (by simp [q2])]
      show (e.n, e.s, e.r, e.d) :: gh _ = (f.n, f.s, f.r, f.d) :: gh _
      rw [ih, h1]
theorem gh_snoc {A B : List Ms} (h : gh A = gh B) {e f : Ms} (h2 : g4 e = g4 f) : gh (A ++ [e]) = gh (B ++ [f]) := by
  unfold gh at *
  rw [List.map_append, List.map_append, h]
  exact congrArg (fun x => _ ++ [x]) h2
/-- all but some places stay -/
def Exc (S : List Addr) (H H' : Hp) : Prop := ∀ c o, c ∉ S → H c = some o → H' c = some o
theorem Exc.same {S : List Addr} {H H' : Hp} (h : Same H H') : Exc S H H' := fun c o _ e => h c o e
theorem Exc.trans {S : List Addr} {H H' H'' : Hp} (h : Exc S H H') (g : Exc S H' H'') : Exc S H H'' := fun c o n e => g c o n (h c o n e)
theorem Exc.sup {S T : List Addr} {H H' : Hp} (h : Exc S H H') (i : ∀ x ∈ S, x ∈ T) : Exc T H H' := fun c o n e => h c o (fun z => n (i c z)) e
theorem Exc.put {S : List Addr} {H H' : Hp} (h : Exc S H H') {p : Addr} {o : HO} (hp : p ∈ S) : Exc S H (upd H' p o) := fun c o n e => (upd_ne (fun z => n (by rw [z]; exact hp))).trans (h c o n e)
theorem Exc.new {S : List Addr} {H H' : Hp} (h : Exc S H H') {p : Addr} {o : HO} (hp : Xk.Fr p H') : Exc S H (upd H' p o) := fun c o n e => (upd_ne (Xk.ne_new hp (h c o n e))).trans (h c o n e)
def isTup : HO → Bool
  | .tup _ => true
  | .frz _ (.tup _) => true
  | _ => false
/-- what stands at the places of S is no tuple -/
def NoT (H : Hp) (S : List Addr) : Prop := ∀ c ∈ S, ∃ o, H c = some o ∧ isTup o = false
theorem Exc.st {S : List Addr} {H H' : Hp} (h : Exc S H H') (n : NoT H S) : Xk.St K H H' := by
  have key : ∀ c o, isTup o = true → H c = some o → H' c = some o := fun c o ho e => by
    refine h c o (fun z => ?_) e
    obtain ⟨o', e', q⟩ := n c z
    rw [e] at e'
    cases e'
    rw [ho] at q
    cases q
  refine ⟨fun a xs q => ?_⟩
  rcases q with q | q
  · rcases q with q | ⟨u, q⟩
    · exact .inl (.inl (key _ _ rfl q))
    · exact .inl (.inr ⟨u, key _ _ rfl q⟩)
  · exact .inr q
def MsAt (K : PySem.W.Frag) (H : Hp) (e : Ms) : Prop := ∃ bv, H e.a = some (.tup [.int e.s, .int e.r, bv]) ∧ Xk.Pk K H 5 bv e.d
theorem MsAt.same {H H' : Hp} {e : Ms} (h : MsAt K H e) (s : Same H H') : MsAt K H' e := by
  obtain ⟨bv, h1, h2⟩ := h
  exact ⟨bv, s _ _ h1, h2.same s⟩
theorem MsAt.exc {S : List Addr} {H H' : Hp} {e : Ms} (h : MsAt K H e) (s : Exc S H H') (n : NoT H S) : MsAt K H' e := by
  obtain ⟨bv, h1, h2⟩ := h
  refine ⟨bv, s _ _ (fun z => ?_) h1, h2.st (s.st n)⟩
  obtain ⟨o, e1, e2⟩ := n _ z
  rw [h1] at e1
  cases e1
  cases e2
/-- a bag's places -/
structure Bg where
  x : Addr
  dx : Addr
  m : Addr
  l : Addr
structure BgAt (K : PySem.W.Frag) (C : Addr) (H : Hp) (b : Bg) (A : List Ms) (N : Int) (L : List Lk) : Prop where
  i : H b.x = some (.ins C b.dx [("_messages", .ref b.m), ("_next_number", .int N), ("_cut_links", .ref b.l)])
  m : H b.m = some (.dK (dk A))
  l : H b.l = some (.dT (lk L))
  e : ∀ e ∈ A, MsAt K H e
theorem BgAt.same {C : Addr} {H H' : Hp} {b : Bg} {A : List Ms} {N : Int} {L : List Lk} (h : BgAt K C H b A N L) (s : Same H H') : BgAt K C H' b A N L := ⟨s _ _ h.i, s _ _ h.m, s _ _ h.l, fun e he => (h.e e he).same s⟩
theorem BgAt.noT {C : Addr} {H : Hp} {b : Bg} {A : List Ms} {N : Int} {L : List Lk} (h : BgAt K C H b A N L) : NoT H [b.x, b.m, b.l] := fun c hc => by
  simp only [List.mem_cons, List.not_mem_nil, or_false] at hc
  rcases hc with rfl | rfl | rfl
  · exact ⟨_, h.i, rfl⟩
  · exact ⟨_, h.m, rfl⟩
  · exact ⟨_, h.l, rfl⟩
theorem mem_snoc {A : List Ms} {P : Ms → Prop} {e : Ms} (h : ∀ x ∈ A, P x) (h2 : P e) : ∀ x ∈ A ++ [e], P x := fun x hx => by
  rcases List.mem_append.mp hx with q | q
  · exact h x q
  · rw [List.mem_singleton] at q
    subst q
    exact h2
theorem mem_rmv {A : List Ms} {P : Ms → Prop} {n : Int} (h : ∀ x ∈ A, P x) : ∀ x ∈ rmv A n, P x := fun x hx => h x (List.mem_filter.mp hx).1
--CUT--
theorem ne_ho {H : Hp} {b c : Addr} {o o' : HO} (h : H b = some o) (h' : H c = some o') (n : o ≠ o') : b ≠ c := fun e => by
  subst e
  exact n (Option.some.inj (h.symm.trans h'))
theorem BgAt.xm {C : Addr} {H : Hp} {b : Bg} {A : List Ms} {N : Int} {L : List Lk} (h : BgAt K C H b A N L) : b.x ≠ b.m := ne_ho h.i h.m (fun z => by cases z)
theorem BgAt.xl {C : Addr} {H : Hp} {b : Bg} {A : List Ms} {N : Int} {L : List Lk} (h : BgAt K C H b A N L) : b.x ≠ b.l := ne_ho h.i h.l (fun z => by cases z)
theorem BgAt.ml {C : Addr} {H : Hp} {b : Bg} {A : List Ms} {N : Int} {L : List Lk} (h : BgAt K C H b A N L) : b.m ≠ b.l := ne_ho h.m h.l (fun z => by cases z)
def sp_Bag___init__ (K : PySem.W.Frag) (C _ _ : Addr) : Sp := fun vs H Q _ => ∃ x dx, vs = [.ref x] ∧ H x = some (.ins C dx []) ∧ ∀ H' m l, Xk.But x H H' → Xk.Fr m H → Xk.Fr l H → BgAt K C H' ⟨x, dx, m, l⟩ [] 0 [] → Q .non H'
theorem ok_Bag___init__ (T : Txt K mg) : FnOk P w K mg base CX0 1 T.f_Bag___init__ T.d_Bag___init__ ["self"] (sp_Bag___init__ K T.C_Bag T.C_NoMessage T.C_LinkCut) := by
  refine T.F_Bag___init__.ok sc_Bag___init__ (fun vs H Q E h => ?_) (fun cdv A outer s H vs Q E hr h => ?_)
  · obtain ⟨x, dx, rfl, _⟩ := h
    rfl
  obtain ⟨x, dx, rfl, j1, q⟩ := h
  have c0 := T.Cls_Bag
  have c1 := T.A_Bag__messages
  have c2 := T.A_Bag__next_number
  have c3 := T.A_Bag__cut_links
  refine ⟨_, (pss_cons (ps_fld (pv 0) (pe_dnewK) rfl)
      (pss_cons (ps_fld (pv 0) (pe_int) rfl)
      (pss_one (ps_fld (pv 0) (pe_dnewT) rfl)))), ?_⟩
  wtm_at "x0"
  wtm_at "xs"
  intro m H2 hm s2 h2
  have n1 : x ≠ m := Xk.ne_new hm j1
  wtm_at "xs"
  intro l H3 hl s3 h3
  have n2 : x ≠ l := Xk.ne_new hl upd_same
  have h2' : (upd (upd H2 x (.ins T.C_Bag dx (putF "_messages" (.ref m) []))) x (.ins T.C_Bag dx (putF "_next_number" (.int 0) (putF "_messages" (.ref m) [])))) m = some (.dK []) := by wtm_at "hx"
  have n3 : m ≠ l := Xk.ne_new hl h2'
  have j3 := s3 _ _ upd_same
  have j4 := s3 _ _ h2'
  wtm_at "xs"
  have b2 : Xk.But x H H3 := fun c o n e => s3 _ _ ((upd_ne n).trans ((upd_ne n).trans (s2 _ _ e)))
  refine q _ m l (fun c o n e => (upd_ne n).trans (b2 c o n e)) hm ?_ ⟨upd_same, (upd_ne n1.symm).trans j4, (upd_ne n2.symm).trans h3, fun e he => by cases he⟩
  exact Xk.free_back (Xk.fr_upd (Xk.fr_upd hl)) s2
def sp_Bag_send (K : PySem.W.Frag) (C _ _ : Addr) : Sp := fun vs H Q _ => ∃ b A N L s r bv d, vs = [.ref (Bg.x b), .int s, .int r, bv] ∧ BgAt K C H b A N L ∧ fnd A N = none ∧ A.length < 9000 ∧ Xk.Pk K H 5 bv d ∧
  ∀ H' a, Exc [b.x, b.m, b.l] H H' → BgAt K C H' b (A ++ [⟨N, a, s, r, d⟩]) (N + 1) L → Q (.int N) H'
theorem ok_Bag_send (T : Txt K mg) : FnOk P w K mg base CX0 1 T.f_Bag_send T.d_Bag_send ["self", "sender", "receiver", "body"] (sp_Bag_send K T.C_Bag T.C_NoMessage T.C_LinkCut) := by
  refine T.F_Bag_send.ok sc_Bag_send (fun vs H Q E h => ?_) (fun cdv A outer s H vs Q E hr h => ?_)
  · obtain ⟨b, A, N, L, s, r, bv, d, rfl, _⟩ := h
    rfl
  obtain ⟨b, A, N, L, s1, r, bv, d, rfl, j, hn, hl, hd, q⟩ := h
  have c0 := T.Cls_Bag
  have c1 := T.A_Bag__messages
  have c2 := T.A_Bag__next_number
  have c3 := T.A_Bag__cut_links
  have j1 := j.i
  have j2 := j.m
  have n1 := j.xm
  refine ⟨_, (pss_cons (ps_set (i := 4) sc_Bag_send.nd rfl (Or.inl rfl) (Xk.k_fld (K := K) (by rfl) (pv 0) rfl))
      (pss_cons (ps_dput (hu_of hr) (Xk.k_fld (K := K) (by rfl) (pv 0) rfl) (pv 4) (pe_tup (pa_cons (pv 1) (pa_cons (pv 2) (pa_cons (pv 3) pa_nil)))) rfl)
      (pss_cons (ps_fld (pv 0) (pe_op op_add (pv 4) (pe_int)) rfl)
      (pss_one (ps_ret (pv 4)))))), ?_⟩
  wtm_at "x0"
  wtm_at "xs"
  intro a H2 ha s2 h2
  have j3 := s2 _ _ j1
  have j4 := s2 _ _ j2
  have n2 : a ≠ b.m := (Xk.ne_new ha j2).symm
  have n3 : a ≠ b.x := (Xk.ne_new ha j1).symm
  wtm_at "xs"
  refine Xk.x_rDPi j4 (by rw [dk_len]; omega) ?_
  rw [dk_put hn a s1 r d]
  wtm_at "xs"
  have e2 : Exc [b.x, b.m, b.l] H2 (upd (upd H2 b.m (.dK (dk (A ++ [⟨N, a, s1, r, d⟩])))) b.x (.ins T.C_Bag b.dx (putF "_next_number" (.int (N + 1)) [("_messages", .ref b.m), ("_next_number", .int N), ("_cut_links", .ref b.l)]))) :=
    ((Exc.same (Same.refl _)).put (by simp)).put (by simp)
  have jj := j.same s2
  have nt := jj.noT
  refine q _ a ((Exc.same s2).trans e2) ⟨upd_same, (upd_ne n1.symm).trans upd_same, (upd_ne j.xl.symm).trans ((upd_ne j.ml.symm).trans jj.l), mem_snoc (fun x hx => (jj.e x hx).exc e2 nt) ?_⟩
  exact ⟨bv, (upd_ne n3).trans ((upd_ne n2).trans h2), (hd.same s2).st (e2.st nt)⟩
def sp_Bag_message (K : PySem.W.Frag) (C CN _ : Addr) : Sp := fun vs H Q E => ∃ b A N L n, vs = [.ref (Bg.x b), .int n] ∧ BgAt K C H b A N L ∧ (∀ e, fnd A n = some e → Q (.ref e.a) H) ∧ (fnd A n = none → E (.ref CN) none H)
theorem ok_Bag_message (T : Txt K mg) : FnOk P w K mg base (L2.CX P w) 1 T.f_Bag_message T.d_Bag_message ["self", "number"] (sp_Bag_message K T.C_Bag T.C_NoMessage T.C_LinkCut) := by
  refine T.F_Bag_message.okX sc_Bag_message (fun vs H Q E h => ?_) (fun cdv A outer s H vs Q E hr h => ?_)
  · obtain ⟨b, A, N, L, n, rfl, _⟩ := h
    rfl
  obtain ⟨b, A, N, L, n, rfl, j, q1, q2⟩ := h
  have c0 := T.Cls_Bag
  have c1 := T.A_Bag__messages
  have j1 := j.i
  have j2 := j.m
  refine ⟨_, (Evl.pss_cut (ps_if (pt_cmp (pc_dnotin (hu_of hr) (pv 1) (Xk.k_fld (K := K) (by rfl) (pv 0) rfl))) (pss_one (Xk.ps_raiseO rfl (takes_of rfl rfl rfl rfl) T.R_NoMessage T.g_NoMessage rfl)) pss_nil)
      (pss_one (ps_ret (pe_dget (hu_of hr) (Xk.k_fld (K := K) (by rfl) (pv 0) rfl) (pv 1) (fun _ _ => rfl))))), ?_⟩
  wtm_at "x0"
  refine Xk.x_nocut ?_
  wtm_at "xs"
  refine Xk.x_rDNi j2 ?_
  wtm_at "xs"
  rw [dk_val]
  cases e : fnd A n with
  | none =>
    show if (!false) = true then _ else _
    wtm_at "xs"
    exact q2 e
  | some u =>
    show if (!true) = true then _ else _
    wtm_at "xs"
    refine Xk.x_rDGi j2 (by rw [dk_val, e]; rfl) ?_
    exact q1 u e
def sp_Bag_is_cut (K : PySem.W.Frag) (C CN _ : Addr) : Sp := fun vs H Q E => ∃ b A N L n, vs = [.ref (Bg.x b), .int n] ∧ BgAt K C H b A N L ∧ (∀ e H', fnd A n = some e → Same H H' → Q (.bl (decide ((e.s, e.r) ∈ L))) H') ∧ (fnd A n = none → E (.ref CN) none H)
theorem ok_Bag_is_cut (T : Txt K mg) : FnOk P w K mg base (L2.CX P w) 2 T.f_Bag_is_cut T.d_Bag_is_cut ["self", "number"] (sp_Bag_is_cut K T.C_Bag T.C_NoMessage T.C_LinkCut) := by
  refine T.F_Bag_is_cut.okX sc_Bag_is_cut (fun vs H Q E h => ?_) (fun cdv A outer s H vs Q E hr h => ?_)
  · obtain ⟨b, A, N, L, n, rfl, _⟩ := h
    rfl
  obtain ⟨b, A, N, L, n, rfl, j, q1, q2⟩ := h
  have c0 := T.Cls_Bag
  have c1 := T.A_Bag__messages
  have c3 := T.A_Bag__cut_links
  have j1 := j.i
  have j2 := j.m
  refine ⟨_, (pss_cons (ps_asg (Xk.pe_mthE (pv 0) T.Cls_Bag T.M_Bag_message (ok_Bag_message T) (hr.mono (by decide)) T.b_Bag_message (fun σ => passAt (takes_of rfl rfl rfl rfl) σ) (pa_cons (pv 1) pa_nil)) (pg_tup rfl (pgs_cons (pg_name (i := 2) sc_Bag_is_cut.nd rfl (Or.inl rfl)) (pgs_cons (pg_name (i := 3) sc_Bag_is_cut.nd rfl (Or.inl rfl)) (pgs_cons (pg_name (i := 4) sc_Bag_is_cut.nd rfl (Or.inl rfl)) pgs_nil)))))
      (pss_one (ps_ret (pe_cmp (pc_din (hu_of hr) (pe_tup (pa_cons (pv 2) (pa_cons (pv 3) pa_nil))) (Xk.k_fld (K := K) (by rfl) (pv 0) rfl)))))), ?_⟩
  wtm_at "x0"
  wtm_at "xs"
  refine ⟨b, A, N, L, n, rfl, j, fun e he => ?_, q2⟩
  obtain ⟨bv, h1, h2⟩ := j.e e (fnd_mem he).1
  wtm_at "xs"
  intro p H2 hp s2 h3
  have j3 := s2 _ _ j1
  have j4 := s2 _ _ j.l
  wtm_at "xs"
  refine Xk.x_dinT (k := lkk (e.s, e.r)) j4 h3 ?_
  rw [lk_in]
  exact q1 e _ he s2
def sp_Bag_take (K : PySem.W.Frag) (C CN CL : Addr) : Sp := fun vs H Q E => ∃ b A N L n, vs = [.ref (Bg.x b), .int n] ∧ BgAt K C H b A N L ∧ (fnd A n = none → E (.ref CN) none H) ∧ (∀ e H', fnd A n = some e → (e.s, e.r) ∈ L → Same H H' → E (.ref CL) none H') ∧
  ∀ e H', fnd A n = some e → (e.s, e.r) ∉ L → Exc [b.x, b.m, b.l] H H' → BgAt K C H' b (rmv A n) N L → Q (.ref e.a) H'
theorem ok_Bag_take (T : Txt K mg) : FnOk P w K mg base (L2.CX P w) 3 T.f_Bag_take T.d_Bag_take ["self", "number"] (sp_Bag_take K T.C_Bag T.C_NoMessage T.C_LinkCut) := by
  refine T.F_Bag_take.okX sc_Bag_take (fun vs H Q E h => ?_) (fun cdv A outer s H vs Q E hr h => ?_)
  · obtain ⟨b, A, N, L, n, rfl, _⟩ := h
    rfl
  obtain ⟨b, A, N, L, n, rfl, j, q1, q2, q3⟩ := h
  have c0 := T.Cls_Bag
  have c1 := T.A_Bag__messages
  have c3 := T.A_Bag__cut_links
  have j1 := j.i
  have j2 := j.m
  refine ⟨_, (Evl.pss_cut (ps_if (pt_val (Xk.pe_mthE (pv 0) T.Cls_Bag T.M_Bag_is_cut (ok_Bag_is_cut T) (hr.mono (by decide)) T.b_Bag_is_cut (fun σ => passAt (takes_of rfl rfl rfl rfl) σ) (pa_cons (pv 1) pa_nil))) (pss_one (Xk.ps_raiseO rfl (takes_of rfl rfl rfl rfl) T.R_LinkCut T.g_LinkCut rfl)) pss_nil)
      (pss_one (ps_ret (pe_dpop1 (Xk.k_fld (K := K) (by rfl) (pv 0) rfl) (pv 1) ⟨by rfl, by rfl, by rfl, by rfl⟩)))), ?_⟩
  wtm_at "x0"
  refine Xk.x_nocut ?_
  wtm_at "xs"
  refine ⟨b, A, N, L, n, rfl, j, fun e H2 he s2 => ?_, q1⟩
  have jj := j.same s2
  have j3 := jj.i
  have j4 := jj.m
  wtm_at "xs"
  refine Xk.x_itd (fun hin => ?_) (fun hout => ?_)
  · wtm_at "xs"
    exact q2 e H2 he hin s2
  · wtm_at "xs"
    refine Xk.x_rPopi j4 (by rw [dk_val, he]; rfl) ?_
    rw [dk_drop]
    have e2 : Exc [b.x, b.m, b.l] H2 (upd H2 b.m (.dK (dk (rmv A n)))) := (Exc.same (Same.refl _)).put (by simp)
    exact q3 e _ he hout ((Exc.same s2).trans e2) ⟨(upd_ne j.xm).trans j3, upd_same, (upd_ne j.ml.symm).trans jj.l, mem_rmv fun x hx => (jj.e x hx).exc e2 jj.noT⟩
def sp_Bag_drop (K : PySem.W.Frag) (C CN CL : Addr) : Sp := fun vs H Q E => ∃ b A N L n, vs = [.ref (Bg.x b), .int n] ∧ BgAt K C H b A N L ∧ (fnd A n = none → E (.ref CN) none H) ∧
  ∀ e H', fnd A n = some e → Exc [b.x, b.m, b.l] H H' → BgAt K C H' b (rmv A n) N L → Q .non H'
theorem ok_Bag_drop (T : Txt K mg) : FnOk P w K mg base (L2.CX P w) 2 T.f_Bag_drop T.d_Bag_drop ["self", "number"] (sp_Bag_drop K T.C_Bag T.C_NoMessage T.C_LinkCut) := by
  refine T.F_Bag_drop.okX sc_Bag_drop (fun vs H Q E h => ?_) (fun cdv A outer s H vs Q E hr h => ?_)
  · obtain ⟨b, A, N, L, n, rfl, _⟩ := h
    rfl
  obtain ⟨b, A, N, L, n, rfl, j, q1, q3⟩ := h
  have c0 := T.Cls_Bag
  have c1 := T.A_Bag__messages
  have j1 := j.i
  have j2 := j.m
  refine ⟨_, (pss_cons (ps_expr (Xk.pe_mthE (pv 0) T.Cls_Bag T.M_Bag_message (ok_Bag_message T) (hr.mono (by decide)) T.b_Bag_message (fun σ => passAt (takes_of rfl rfl rfl rfl) σ) (pa_cons (pv 1) pa_nil)))
      (pss_one (ps_ddel (Xk.k_fld (K := K) (by rfl) (pv 0) rfl) (pv 1)))), ?_⟩
  wtm_at "x0"
  wtm_at "xs"
  refine ⟨b, A, N, L, n, rfl, j, fun e he => ?_, q1⟩
  wtm_at "xs"
  refine Xk.x_rDDeli j2 (by rw [dk_val, he]; rfl) ?_
  rw [dk_drop]
  have e2 : Exc [b.x, b.m, b.l] H (upd H b.m (.dK (dk (rmv A n)))) := (Exc.same (Same.refl _)).put (by simp)
  exact q3 e _ he e2 ⟨(upd_ne j.xm).trans j1, upd_same, (upd_ne j.ml.symm).trans j.l, mem_rmv fun x hx => (j.e x hx).exc e2 j.noT⟩
def sp_Bag_double (K : PySem.W.Frag) (C CN CL : Addr) : Sp := fun vs H Q E => ∃ b A N L n, vs = [.ref (Bg.x b), .int n] ∧ BgAt K C H b A N L ∧ fnd A N = none ∧ A.length < 9000 ∧ (fnd A n = none → E (.ref CN) none H) ∧
  ∀ e a H', fnd A n = some e → Exc [b.x, b.m, b.l] H H' → BgAt K C H' b (A ++ [⟨N, a, e.s, e.r, e.d⟩]) (N + 1) L → Q (.int N) H'
theorem ok_Bag_double (T : Txt K mg) : FnOk P w K mg base (L2.CX P w) 2 T.f_Bag_double T.d_Bag_double ["self", "number"] (sp_Bag_double K T.C_Bag T.C_NoMessage T.C_LinkCut) := by
  refine T.F_Bag_double.okX sc_Bag_double (fun vs H Q E h => ?_) (fun cdv A outer s H vs Q E hr h => ?_)
  · obtain ⟨b, A, N, L, n, rfl, _⟩ := h
    rfl
  obtain ⟨b, A, N, L, n, rfl, j, hn, hl, q1, q3⟩ := h
  have c0 := T.Cls_Bag
  have c1 := T.A_Bag__messages
  have j1 := j.i
  have j2 := j.m
  refine ⟨_, (pss_cons (ps_asg (Xk.pe_mthE (pv 0) T.Cls_Bag T.M_Bag_message (ok_Bag_message T) (hr.mono (by decide)) T.b_Bag_message (fun σ => passAt (takes_of rfl rfl rfl rfl) σ) (pa_cons (pv 1) pa_nil)) (pg_tup rfl (pgs_cons (pg_name (i := 2) sc_Bag_double.nd rfl (Or.inl rfl)) (pgs_cons (pg_name (i := 3) sc_Bag_double.nd rfl (Or.inl rfl)) (pgs_cons (pg_name (i := 4) sc_Bag_double.nd rfl (Or.inl rfl)) pgs_nil)))))
      (pss_one (ps_ret (pe_meth (pv 0) T.Cls_Bag T.M_Bag_send (ok_Bag_send T) (hr.mono (by decide)) T.b_Bag_send .nil pass0 (pa_cons (pv 2) (pa_cons (pv 3) (pa_cons (pv 4) pa_nil))))))), ?_⟩
  wtm_at "x0"
  wtm_at "xs"
  refine ⟨b, A, N, L, n, rfl, j, fun e he => ?_, q1⟩
  obtain ⟨bv, h1, h2⟩ := j.e e (fnd_mem he).1
  wtm_at "xs"
  exact ⟨b, A, N, L, e.s, e.r, bv, e.d, rfl, j, hn, hl, h2, fun H' a x y => q3 e a H' he x y⟩
def sp_Bag_numbers (K : PySem.W.Frag) (C CN CL : Addr) : Sp := fun vs H Q _ => ∃ b A N L, vs = [.ref (Bg.x b)] ∧ BgAt K C H b A N L ∧ ∀ p H' (ys : List Int), ys.Perm (A.map (·.n)) → ys.Pairwise (· ≤ ·) → Xk.Fr p H → Same H H' → H' p = some (.lst (ys.map V.int)) → Q (.ref p) H'
theorem ok_Bag_numbers (T : Txt K mg) : FnOk P w K mg base CX0 1 T.f_Bag_numbers T.d_Bag_numbers ["self"] (sp_Bag_numbers K T.C_Bag T.C_NoMessage T.C_LinkCut) := by
  refine T.F_Bag_numbers.ok sc_Bag_numbers (fun vs H Q E h => ?_) (fun cdv A outer s H vs Q E hr h => ?_)
  · obtain ⟨b, A, N, L, rfl, _⟩ := h
    rfl
  obtain ⟨b, A, N, L, rfl, j, q⟩ := h
  have c0 := T.Cls_Bag
  have c1 := T.A_Bag__messages
  have j1 := j.i
  refine ⟨_, (pss_one (ps_ret (pe_callB (Xk.k_sortDI rfl) (by rfl) T.m_sorted (by decide +kernel) (pa_cons (Xk.k_fld (K := K) (by rfl) (pv 0) rfl) pa_nil)))), ?_⟩
  wtm_at "x0"
  wtm_at "xs"
  exact Xk.x_sortDI j.m (dk_keys A) q
--CUT--
theorem ints_pair (p : Lk) : [p.1, p.2].map V.int = [V.int p.1, V.int p.2] := rfl
/-- an ascending list of pairs' places -/
structure LkL (K : PySem.W.Frag) (H : Hp) (p : Addr) (zs : List (Addr × List Int)) (L : List Lk) : Prop where
  l : H p = some (.lst (zs.map fun z => V.ref z.1))
  p : (zs.map (·.2)).Perm (L.map fun p => [p.1, p.2])
  s : (zs.map (·.2)).Pairwise (· ≤ ·)
  e : ∀ z ∈ zs, H z.1 = some (.tup (z.2.map V.int))
theorem x_links {H : Hp} {Q : VK} {l : Addr} {L : List Lk} (h : H l = some (.dT (lk L))) (hl : L.length ≤ 1000) (k : ∀ p H' zs, Xk.Fr p H → Same H H' → LkL K H' p zs L → Q (.ref p) H') : Xk.rSortT [.ref l] H Q := by
  refine ⟨l, lk L, L.map fun p => [p.1, p.2], rfl, h, lk_keys L, fun k hk => ?_, by rw [List.length_map]; exact hl, fun p zs hp h1 h2 h3 => ?_⟩
  · obtain ⟨q, _, rfl⟩ := List.mem_map.mp hk
    exact List.cons_ne_nil _ _
  · have s : Same H (upd H p (.lst (zs.map fun z => V.ref z.1))) := Xk.same_new hp
    exact k p _ zs ⟨hp⟩ s ⟨upd_same, h1, h2, fun z hz => s _ _ (h3 z hz)⟩
def sp_Bag_links (K : PySem.W.Frag) (C CN CL : Addr) : Sp := fun vs H Q _ => ∃ b A N L, vs = [.ref (Bg.x b)] ∧ BgAt K C H b A N L ∧ L.length ≤ 1000 ∧ ∀ p H' zs, Xk.Fr p H → Same H H' → LkL K H' p zs L → Q (.ref p) H'
theorem ok_Bag_links (T : Txt K mg) : FnOk P w K mg base CX0 1 T.f_Bag_links T.d_Bag_links ["self"] (sp_Bag_links K T.C_Bag T.C_NoMessage T.C_LinkCut) := by
  refine T.F_Bag_links.ok sc_Bag_links (fun vs H Q E h => ?_) (fun cdv A outer s H vs Q E hr h => ?_)
  · obtain ⟨b, A, N, L, rfl, _⟩ := h
    rfl
  obtain ⟨b, A, N, L, rfl, j, hl, q⟩ := h
  have c0 := T.Cls_Bag
  have c3 := T.A_Bag__cut_links
  have j1 := j.i
  refine ⟨_, (pss_one (ps_ret (pe_callB (Xk.k_sortT rfl hr.units) (by rfl) T.m_sorted (by decide +kernel) (pa_cons (Xk.k_fld (K := K) (by rfl) (pv 0) rfl) pa_nil)))), ?_⟩
  wtm_at "x0"
  wtm_at "xs"
  exact x_links (K := K) j.l hl q
def sp_Bag_cut (K : PySem.W.Frag) (C CN CL : Addr) : Sp := fun vs H Q _ => ∃ b A N L s r, vs = [.ref (Bg.x b), .int s, .int r] ∧ BgAt K C H b A N L ∧ L.length < 1000 ∧ ∀ H', Exc [b.x, b.m, b.l] H H' → BgAt K C H' b A N (add L (s, r)) → Q .non H'
theorem ok_Bag_cut (T : Txt K mg) : FnOk P w K mg base CX0 1 T.f_Bag_cut T.d_Bag_cut ["self", "sender", "receiver"] (sp_Bag_cut K T.C_Bag T.C_NoMessage T.C_LinkCut) := by
  refine T.F_Bag_cut.ok sc_Bag_cut (fun vs H Q E h => ?_) (fun cdv A outer s H vs Q E hr h => ?_)
  · obtain ⟨b, A, N, L, s, r, rfl, _⟩ := h
    rfl
  obtain ⟨b, A, N, L, s1, r, rfl, j, hl, q⟩ := h
  have c0 := T.Cls_Bag
  have c3 := T.A_Bag__cut_links
  have j1 := j.i
  refine ⟨_, (pss_one (ps_dput (hu_of hr) (Xk.k_fld (K := K) (by rfl) (pv 0) rfl) (pe_tup (pa_cons (pv 1) (pa_cons (pv 2) pa_nil))) (pe_bl) rfl)), ?_⟩
  wtm_at "x0"
  wtm_at "xs"
  intro p H2 hp s2 h2
  have jj := j.same s2
  refine Xk.x_rDPt (k := lkk (s1, r)) jj.l h2 (by rw [lk_len]; omega) ?_
  rw [lk_put]
  have e2 : Exc [b.x, b.m, b.l] H2 (upd H2 b.l (.dT (lk (add L (s1, r))))) := (Exc.same (Same.refl _)).put (by simp)
  exact q _ ((Exc.same s2).trans e2) ⟨(upd_ne j.xl).trans jj.i, (upd_ne j.ml).trans jj.m, upd_same, fun x hx => (jj.e x hx).exc e2 jj.noT⟩
def sp_Bag_heal (K : PySem.W.Frag) (C CN CL : Addr) : Sp := fun vs H Q _ => ∃ b A N L s r, vs = [.ref (Bg.x b), .int s, .int r] ∧ BgAt K C H b A N L ∧ ∀ H', Exc [b.x, b.m, b.l] H H' → BgAt K C H' b A N (sub L (s, r)) → Q .non H'
theorem ok_Bag_heal (T : Txt K mg) : FnOk P w K mg base CX0 1 T.f_Bag_heal T.d_Bag_heal ["self", "sender", "receiver"] (sp_Bag_heal K T.C_Bag T.C_NoMessage T.C_LinkCut) := by
  refine T.F_Bag_heal.ok sc_Bag_heal (fun vs H Q E h => ?_) (fun cdv A outer s H vs Q E hr h => ?_)
  · obtain ⟨b, A, N, L, s, r, rfl, _⟩ := h
    rfl
  obtain ⟨b, A, N, L, s1, r, rfl, j, q⟩ := h
  have c0 := T.Cls_Bag
  have c3 := T.A_Bag__cut_links
  have j1 := j.i
  have j4 := j.l
  refine ⟨_, (pss_one (ps_expr (pe_bm PySem.F.plainAttrs_dict PySem.F.slot_dict_pop PySem.F.type_dict_pop (L2.DX.mt_popT (hu_of hr)) (Xk.k_fld (K := K) (by rfl) (pv 0) rfl) (pa_cons (pe_tup (pa_cons (pv 1) (pa_cons (pv 2) pa_nil))) (pa_cons (pe_non) pa_nil))))), ?_⟩
  wtm_at "x0"
  wtm_at "xs"
  intro p H2 hp s2 h2
  have jj := j.same s2
  wtm_at "xs"
  refine Xk.x_popT (k := lkk (s1, r)) jj.l h2 (fun v hv => ?_) fun hv => ?_
  · rw [lk_drop]
    have e2 : Exc [b.x, b.m, b.l] H2 (upd H2 b.l (.dT (lk (sub L (s1, r))))) := (Exc.same (Same.refl _)).put (by simp)
    exact q _ ((Exc.same s2).trans e2) ⟨(upd_ne j.xl).trans jj.i, (upd_ne j.ml).trans jj.m, upd_same, fun x hx => (jj.e x hx).exc e2 jj.noT⟩
  · have ho : (s1, r) ∉ L := fun z => by
      rw [lk_val, if_pos z] at hv
      cases hv
    refine q _ (Exc.same s2) ?_
    rw [sub_out ho]
    exact jj
theorem lk_at {L : List Lk} {i : Nat} {k : List L2.Key} {v : V} (h : (lk L)[i]? = some (k, v)) : ∃ p, L[i]? = some p ∧ k = lkk p ∧ v = .bl true := by
  unfold lk at h
  rw [List.getElem?_map] at h
  obtain ⟨p, h1, h2⟩ := Option.map_eq_some_iff.mp h
  cases h2
  exact ⟨p, h1, rfl, rfl⟩
theorem lk_next {L : List Lk} {i : Nat} {p : Lk} (nd : L.Nodup) (h : L[i]? = some p) : add (L.take i) p = L.take (i + 1) := by
  have hn : p ∉ L.take i := fun z => by
    rw [← List.take_append_drop i L] at nd
    obtain ⟨hi, e⟩ := List.getElem?_eq_some_iff.mp h
    have hd : p ∈ L.drop i := by
      rw [List.drop_eq_getElem_cons hi, e]
      exact List.mem_cons_self ..
    exact (List.nodup_append.mp nd).2.2 p z p hd rfl
  unfold add
  rw [if_neg hn, List.take_add_one, h]
  rfl
def sp_Bag_fork (K : PySem.W.Frag) (C CN CL : Addr) : Sp := fun vs H Q _ => ∃ b A N L, vs = [.ref (Bg.x b)] ∧ BgAt K C H b A N L ∧ L.Nodup ∧ L.length < 1000 ∧ ∀ c H', Same H H' → Xk.Fr (Bg.x c) H → Xk.Fr c.m H → Xk.Fr c.l H → BgAt K C H' c A N L → Q (.ref c.x) H'
theorem ok_Bag_fork (T : Txt K mg) : FnOk P w K mg base CX0 3 T.f_Bag_fork T.d_Bag_fork ["self"] (sp_Bag_fork K T.C_Bag T.C_NoMessage T.C_LinkCut) := by
  refine T.F_Bag_fork.ok sc_Bag_fork (fun vs H Q E h => ?_) (fun cdv A outer s H vs Q E hr h => ?_)
  · obtain ⟨b, A, N, L, rfl, _⟩ := h
    rfl
  obtain ⟨b, A, N, L, rfl, j, nd, hl, q⟩ := h
  have c0 := T.Cls_Bag
  have c1 := T.A_Bag__messages
  have c2 := T.A_Bag__next_number
  have c3 := T.A_Bag__cut_links
  refine ⟨_, (pss_cons (ps_set (i := 1) sc_Bag_fork.nd rfl (Or.inl rfl) (pe_make0 T.Mk_Bag (ok_Bag___init__ T) (hr.mono (by decide)) (by rfl) T.g_Bag T.b_Bag___init__ .nil pass0))
      (pss_cons (ps_fld (pv 1) (pe_callTy Xk.k_dictD (by rfl) T.m_dict (by decide +kernel) (pa_cons (Xk.k_fld (K := K) (by rfl) (pv 0) rfl) pa_nil)) rfl)
      (pss_cons (ps_fld (pv 1) (Xk.k_fld (K := K) (by rfl) (pv 0) rfl) rfl)
      (pss_cons (ps_fld (pv 1) (pe_lock (Xk.pe_dcT (own := [("link", 2)]) (g := gName 2) (tt := tYes) rfl (hu_of hr) sc_Bag_fork.nd  (pi_keys (Xk.k_fld (K := K) (by rfl) (pv 0) rfl)) (blkOk_by (N := N_Bag_fork) (sc := defScope s_Bag_fork) (own := [("link", 2)]) (by decide +kernel)) (fun _ _ _ _ _ => pg_name (i := 2) sc_Bag_fork.nd rfl (Or.inl rfl)) (fun _ _ _ _ _ => pts_nil) (fun _ _ _ _ _ => (pv 2)) (fun _ _ _ _ _ => (pe_bl)))) rfl)
      (pss_one (ps_ret (pv 1))))))), ?_⟩
  wtm_at "x0"
  wtm_at "xs"
  refine Xk.x_rMake fun x dx H1 hx hdx hn s1 hd h1 => ?_
  refine ⟨x, dx, rfl, h1, fun H2 m0 l0 b2 hm0 hl0 jc => ⟨rfl, ?_⟩⟩
  have s2 : Same H H2 := Xk.same_but b2 hx s1
  have jj := j.same s2
  have j1 := jj.i
  have k1 := jc.i
  wtm_at "xs"
  refine Xk.x_rDictD jj.m fun m H3 hm s3 h3 => ?_
  have k3 := s3 _ _ k1
  have j3 := s3 _ _ j1
  have nx : b.x ≠ x := Xk.ne_new hx j.i
  have nm : m ≠ x := (Xk.ne_new hm k1).symm
  wtm_at "xs"
  have kb : ∀ H' : Hp, (∀ c o, c ≠ x → H3 c = some o → H' c = some o) → H' x = some (.ins T.C_Bag dx [("_messages", .ref m), ("_next_number", .int N), ("_cut_links", .ref l0)]) → tLockE (Xk.tDcT (iKeys (tFld K (tVar 0) "_cut_links")) (gName 2) tYes (tVar 2) (tC (V.bl true)) [2]) [some (V.ref b.x), some (V.ref x), none] H' fun y H1 =>
      tVar 1 [some (V.ref b.x), some (V.ref x), none] H1 (Xk.rSetF K "_cut_links" y (tRet (tVar 1) { nx := fun x H' => Q V.non H', rt := Q } [some (V.ref b.x), some (V.ref x), none])) := by
    intro G e3 hx3
    have g1 := e3 _ _ nx j3
    have nlx : b.l ≠ x := Xk.ne_new hx j.l
    have g4 := e3 _ _ nlx (s3 _ _ jj.l)
    refine Xk.x_lockDcE g4 fun od H0 e0 => ?_
    have f4 : H0 b.l = some (.frz od (.dT (lk L))) := by rw [e0]; exact upd_same
    have f1 : H0 b.x = some (.ins T.C_Bag b.dx [("_messages", .ref b.m), ("_next_number", .int N), ("_cut_links", .ref b.l)]) := by rw [e0]; exact (upd_ne j.xl).trans g1
    have fo : ∀ c o, c ≠ b.l → G c = some o → H0 c = some o := fun c o n e => by rw [e0]; exact (upd_ne n).trans e
    refine ⟨fun d i h => (∀ c o, c ≠ d → H0 c = some o → h c = some o) ∧ h d = some (.dT (lk (L.take i))), fun R hR => ?_, fun d hd => ⟨fun c o n e => (upd_ne n).trans e, upd_same⟩, fun d i h hd p => p.1 _ _ (Xk.ne_new hd f4) f4, fun d hd i k v p h e1 e2 pv => ?_, fun d h hd pv => ?_⟩
    · wtm_at "xs"
      exact hR
    · obtain ⟨pr, l1, rfl, rfl⟩ := lk_at e1
      refine ⟨rfl, ?_⟩
      wtm_at "xs"
      have il := Xk.at_lt l1
      refine Xk.x_putT pv.2 e2 (by rw [lk_len, List.length_take]; omega) ?_
      refine ⟨fun c o n e => (upd_ne n).trans (pv.1 c o n e), ?_⟩
      rw [upd_same, lk_put, lk_next nd l1]
    · rw [lk_len, List.take_length] at pv
      have ndl : d ≠ b.l := (Xk.ne_new hd f4).symm
      have nxl : x ≠ b.l := nlx.symm
      have ndx : d ≠ x := (Xk.ne_new hd (fo _ _ nxl hx3)).symm
      have hx4 : upd h b.l (.dT (lk L)) x = some (.ins T.C_Bag dx [("_messages", .ref m), ("_next_number", .int N), ("_cut_links", .ref l0)]) := (upd_ne nxl).trans (pv.1 _ _ (Ne.symm ndx) (fo _ _ nxl hx3))
      have all : ∀ c o, c ≠ x → H3 c = some o → upd h b.l (.dT (lk L)) c = some o := fun c o n e => by
        by_cases z : c = b.l
        · subst z
          rw [upd_same, ← e, ← s3 _ _ jj.l]
        · refine (upd_ne z).trans (pv.1 _ _ (fun y => ?_) (fo _ _ z (e3 c o n e)))
          rw [y] at e
          have := fo _ _ ndl (e3 _ _ ndx e)
          rw [hd.is] at this
          cases this
      have hfd : Xk.Fr d H3 := ⟨by
        cases e : H3 d with
        | none => rfl
        | some o =>
          have := fo _ _ ndl (e3 _ _ ndx e)
          rw [hd.is] at this
          cases this⟩
      have hd4 : upd h b.l (.dT (lk L)) d = some (.dT (lk L)) := (upd_ne ndl).trans pv.2
      generalize upd h b.l (.dT (lk L)) = G2 at hx4 all hd4
      wtm_at "xs"
      have s5 : Same H (upd G2 x (.ins T.C_Bag dx (putF "_cut_links" (.ref d) [("_messages", .ref m), ("_next_number", .int N), ("_cut_links", .ref l0)]))) := fun c o e => by
        have n : c ≠ x := Xk.ne_new hx e
        exact (upd_ne n).trans (all _ _ n (s3 _ _ (s2 _ _ e)))
      refine q ⟨x, dx, m, d⟩ _ s5 hx (Xk.free_back hm s2) (Xk.free_back (Xk.free_back hfd s3) s2) ⟨upd_same, (upd_ne nm).trans (all _ _ nm h3), (upd_ne ndx).trans hd4, fun e he => (j.e e he).same s5⟩
  refine kb _ (fun c o n e => (upd_ne n).trans ((upd_ne n).trans e)) upd_same
--CUT--
/-- a model's places -/
structure Md where
  p : Addr
  m : Addr
  l : Addr
structure MdAt (K : PySem.W.Frag) (H : Hp) (b : Md) (A : List Ms) (N : Int) (L : List Lk) : Prop where
  i : H b.p = some (.lst [.ref b.m, .ref b.l, .int N])
  m : H b.m = some (.dK (dk A))
  l : H b.l = some (.dT (lk L))
  e : ∀ e ∈ A, MsAt K H e
section
variable {H H' : Hp} {b : Md} {A : List Ms} {N : Int} {L : List Lk}
theorem MdAt.same (h : MdAt K H b A N L) (s : Same H H') : MdAt K H' b A N L := ⟨s _ _ h.i, s _ _ h.m, s _ _ h.l, fun e he => (h.e e he).same s⟩
theorem MdAt.noT (h : MdAt K H b A N L) : NoT H [b.p, b.m, b.l] := fun c hc => by
  simp only [List.mem_cons, List.not_mem_nil, or_false] at hc
  rcases hc with rfl | rfl | rfl
  · exact ⟨_, h.i, rfl⟩
  · exact ⟨_, h.m, rfl⟩
  · exact ⟨_, h.l, rfl⟩
theorem MdAt.pm (h : MdAt K H b A N L) : b.p ≠ b.m := ne_ho h.i h.m (fun z => by cases z)
theorem MdAt.pl (h : MdAt K H b A N L) : b.p ≠ b.l := ne_ho h.i h.l (fun z => by cases z)
theorem MdAt.ml (h : MdAt K H b A N L) : b.m ≠ b.l := ne_ho h.m h.l (fun z => by cases z)
end
theorem LkL.pk {H : Hp} {p : Addr} {zs : List (Addr × List Int)} {L : List Lk} (h : LkL K H p zs L) : Xk.PkAll K H 1 (zs.map fun z => V.ref z.1) ((zs.map (·.2)).map fun ns => PyData.tuple (ns.map .int)) := by
  have key : ∀ ys : List (Addr × List Int), (∀ z ∈ ys, H z.1 = some (.tup (z.2.map V.int))) → Xk.PkAll K H 1 (ys.map fun z => V.ref z.1) ((ys.map (·.2)).map fun ns => PyData.tuple (ns.map .int)) := by
    intro ys
    induction ys with
    | nil => exact fun _ => Xk.pk_nil
    | cons y ys ih => exact fun hy => Xk.pk_cons (Xk.pk_tup (n := 0) (Xk.st_of (hy y (List.mem_cons_self ..))) (Xk.pk_ints _)) (ih fun z hz => hy z (List.mem_cons_of_mem _ hz))
  exact key zs h.e
theorem LkL.eq {H : Hp} {p q : Addr} {zs ys : List (Addr × List Int)} {L : List Lk} (h : LkL K H p zs L) (g : LkL K H q ys L) : zs.map (·.2) = ys.map (·.2) :=
  (h.p.trans g.p.symm).eq_of_pairwise (fun _ _ _ _ x y => List.le_antisymm x y) h.s g.s
theorem LkL.same {H H' : Hp} {p : Addr} {zs : List (Addr × List Int)} {L : List Lk} (h : LkL K H p zs L) (s : Same H H') : LkL K H' p zs L := ⟨s _ _ h.l, h.p, h.s, fun z hz => s _ _ (h.e z hz)⟩
def sp__law_agrees (K : PySem.W.Frag) (C CN CL : Addr) : Sp := fun vs H Q _ => ∃ b d A B N L, vs = [.ref (Bg.x b), .ref (Md.p d)] ∧ BgAt K C H b A N L ∧ MdAt K H d B N L ∧ gh A = gh B ∧ L.length ≤ 1000 ∧ A.length ≤ 9000 ∧ ∀ H', Same H H' → Q (.bl true) H'
theorem ok__law_agrees (T : Txt K mg) : FnOk P w K mg base CX0 2 T.f__law_agrees T.d__law_agrees ["bag", "model"] (sp__law_agrees K T.C_Bag T.C_NoMessage T.C_LinkCut) := by
  refine T.F__law_agrees.ok sc__law_agrees (fun vs H Q E h => ?_) (fun cdv A outer s H vs Q E hr h => ?_)
  · obtain ⟨b, d, A, B, N, L, rfl, _⟩ := h
    rfl
  obtain ⟨b, d, A, B, N, L, rfl, jb, jd, hg, hl, hl2, q⟩ := h
  have c0 := T.Cls_Bag
  have j1 := jb.i
  refine ⟨_, (pss_cons (ps_set (i := 2) sc__law_agrees.nd rfl (Or.inl rfl) (pe_meth0 (pv 0) T.Cls_Bag T.M_Bag_numbers (ok_Bag_numbers T) (hr.mono (by decide)) T.b_Bag_numbers .nil pass0))
      (pss_cons (ps_set (i := 3) sc__law_agrees.nd rfl (Or.inl rfl) (pe_meth0 (pv 0) T.Cls_Bag T.M_Bag_links (ok_Bag_links T) (hr.mono (by decide)) T.b_Bag_links .nil pass0))
      (Evl.pss_cut (ps_if (PW.pt (pw_or (pt_not (pt_val (pe_callB (Xk.k_isi (K := K) (by rfl)) (by rfl) T.m_isinstance (by decide +kernel) (pa_cons (pv 2) (pa_cons (pe_bltn (v := .ty "list") (u := .type "list") (by rfl) T.m_list (by decide +kernel) Xk.rel_ty) pa_nil))))) (pw_or1 (pt_cmpR (Xk.k_neD (K := K) hr.units (by rfl)) (pv 2) (pe_callB (Xk.k_sortDI rfl) (by rfl) T.m_sorted (by decide +kernel) (pa_cons (pe_ix (Xk.k_ixL (K := K) (by rfl)) (pv 1) (pe_int) (fun _ _ => rfl)) pa_nil)) (nomark _))))) (pss_one (ps_ret (pe_bl))) pss_nil)
      (Evl.pss_cut (ps_if (PW.pt (pw_or (pt_not (pt_val (pe_callB (Xk.k_isi (K := K) (by rfl)) (by rfl) T.m_isinstance (by decide +kernel) (pa_cons (pv 3) (pa_cons (pe_bltn (v := .ty "list") (u := .type "list") (by rfl) T.m_list (by decide +kernel) Xk.rel_ty) pa_nil))))) (pw_or1 (pt_cmpR (Xk.k_neD (K := K) hr.units (by rfl)) (pv 3) (pe_callB (Xk.k_sortT rfl hr.units) (by rfl) T.m_sorted (by decide +kernel) (pa_cons (pe_ix (Xk.k_ixL (K := K) (by rfl)) (pv 1) (pe_int) (fun _ _ => rfl)) pa_nil)) (nomark _))))) (pss_one (ps_ret (pe_bl))) pss_nil)
      (pss_cons (ps_expr (pe_bm PySem.F.plainAttrs_list PySem.F.slot_list_append PySem.F.type_list_append mt_append (pv 2) (pa_cons (pe_un un_neg (pe_int)) pa_nil)))
      (pss_cons (ps_expr (pe_bm PySem.F.plainAttrs_list PySem.F.slot_list_append PySem.F.type_list_append mt_append (pv 3) (pa_cons (pe_tup (pa_cons (pe_int) (pa_cons (pe_int) pa_nil))) pa_nil)))
      (pss_one (ps_ret (pe_bl))))))))), ?_⟩
  wtm_at "x0"
  wtm_at "xs"
  refine ⟨b, A, N, L, rfl, jb, fun p H2 ys hp1 hp2 hp s2 h2 => ?_⟩
  have j2 := s2 _ _ j1
  wtm_at "xs"
  refine ⟨b, A, N, L, rfl, jb.same s2, hl, fun p' H3 zs hp' s3 hz => ?_⟩
  have jm := (jd.same (s2.trans s3))
  have i1 := jm.i
  have h3 := s3 _ _ h2
  have hz1 := hz.l
  refine Xk.x_nocut ?_
  wtm_at "xs"
  refine Xk.x_sortDI jm.m (dk_keys B) fun p2 H4 ys2 q1 q2 hp4 s4 h4 => ?_
  have ey : ys2 = ys := Xk.srt_eq ((q1.trans (by rw [← gh_nums hg])).trans hp1.symm) q2 hp2
  subst ey
  refine Xk.x_neInts (Xk.sq_of (s4 _ _ h3)) (Xk.sq_of h4) ?_
  wtm_at "xs"
  have i2 := s4 _ _ i1
  have hz2 := s4 _ _ hz1
  refine Xk.x_nocut ?_
  wtm_at "xs"
  refine x_links (K := K) (s4 _ _ jm.l) hl fun p3 H5 zs2 hp5 s5 hz5 => ?_
  have k1 := (hz.same (s4.trans s5)).pk
  have k2 := hz5.pk
  rw [← LkL.eq (hz.same (s4.trans s5)) hz5] at k2
  refine Xk.x_nePkL (Xk.sq_of (s5 _ _ hz2)) (Xk.sq_of hz5.l) k1 k2 ?_
  wtm_at "xs"
  have h5 := s5 _ _ (s4 _ _ h3)
  have hz6 := s5 _ _ hz2
  have l1 : (ys2.map V.int).length < 100000 := by
    rw [List.length_map, q1.length_eq, List.length_map, ← gh_len hg]
    omega
  have l2 : (zs.map fun z => V.ref z.1).length < 100000 := by
    have := hz.p.length_eq
    rw [List.length_map, List.length_map] at this
    rw [List.length_map]
    omega
  have s25 := s2.trans (s3.trans (s4.trans s5))
  have fp : Xk.Fr p H := hp
  have fp' : Xk.Fr p' H := Xk.free_back hp' s2
  have npp : p ≠ p' := Xk.ne_new hp' h2
  wtm_at "xs"
  intro p6 H6 hp6 s6 h6
  have hz7 := s6 _ _ ((upd_ne npp.symm).trans hz6)
  wtm_at "xs"
  refine q _ ?_
  exact Xk.same_mut ((Xk.same_mut s25 fp).trans s6) fp'
--CUT--
def word (cut : Bool) : Str := if cut then "cut" else "none"
def sp__law_fault (K : PySem.W.Frag) (CN CL : Addr) : Addr → Value → Option Addr → Sp := fun a c d vs H Q _ => ∃ k : Bool, vs = [.ref a] ∧ d = none ∧ c = .ref (if k then CL else CN) ∧ ∀ p H', Xk.Fr p H → Same H H' → H' p = some (.tup [.str (word k), .non]) → Q (.ref p) H'
theorem ok__law_fault (T : Txt K mg) : Xk.FnE P w K mg base 1 T.f__law_fault T.d__law_fault ["e"] (sp__law_fault K T.C_NoMessage T.C_LinkCut) := by
  refine Xk.funE T.F__law_fault sc__law_fault (fun a c d vs H Q E h => ?_) (fun cdv A outer s H vs Q E p c d hr hz hf h => ?_)
  · obtain ⟨k, rfl, _⟩ := h
    rfl
  obtain ⟨k, rfl, rfl, rfl, q⟩ := h
  have hp : p ∈ [p] := List.mem_cons_self
  have hC : ExcC K (if k then T.C_LinkCut else T.C_NoMessage) := by
    cases k
    · exact T.R_NoMessage.c
    · exact T.R_LinkCut.c
  have kL : PySem.W.kitOne K (.ref (if k then T.C_LinkCut else T.C_NoMessage)) (.ref T.C_LinkCut) = some k := by
    cases k
    · exact Xk.kit_ref T.R_NoMessage T.N_LinkCut T.s_NoMessage_LinkCut
    · exact Xk.kit_ref T.R_LinkCut T.N_LinkCut T.R_LinkCut.s
  have kN : PySem.W.kitOne K (.ref (if k then T.C_LinkCut else T.C_NoMessage)) (.ref T.C_NoMessage) = some (!k) := by
    cases k
    · exact Xk.kit_ref T.R_NoMessage T.N_NoMessage T.R_NoMessage.s
    · exact Xk.kit_ref T.R_LinkCut T.N_NoMessage T.s_LinkCut_NoMessage
  have kM : PySem.W.kitOne K (.ref (if k then T.C_LinkCut else T.C_NoMessage)) (.ref T.C_Malformed) = some false := by
    cases k
    · exact Xk.kit_ref T.R_NoMessage T.N_Malformed T.s_NoMessage_Malformed
    · exact Xk.kit_ref T.R_LinkCut T.N_Malformed T.s_LinkCut_Malformed
  have kV : PySem.W.kitOne K (.ref (if k then T.C_LinkCut else T.C_NoMessage)) (.type "ValueError") = some true := by
    cases k
    · exact Xk.kit_type (by decide +kernel) T.v_NoMessage
    · exact Xk.kit_type (by decide +kernel) T.v_LinkCut
  generalize (if k then T.C_LinkCut else T.C_NoMessage) = D0 at hz hC kL kN kM kV
  refine ⟨_, (pss_cons (ps_set (i := 1) sc__law_fault.nd rfl (Or.inl rfl) (pe_callB (Xk.k_isP (K := K) (by rfl) hC hp hz hf) (by rfl) T.m_isinstance (by decide +kernel) (pa_cons (pv 0) (pa_cons (pe_glob (by rfl) T.g_LinkCut Xk.rel_ref) pa_nil))))
      (Evl.pss_cut (ps_if (PW.pt (pw_or (pt_val (pe_callB (Xk.k_isP (K := K) (by rfl) hC hp hz hf) (by rfl) T.m_isinstance (by decide +kernel) (pa_cons (pv 0) (pa_cons (pe_glob (by rfl) T.g_Malformed Xk.rel_ref) pa_nil)))) (pw_or (pt_not (pt_val (pe_callB (Xk.k_isP (K := K) (by rfl) hC hp hz hf) (by rfl) T.m_isinstance (by decide +kernel) (pa_cons (pv 0) (pa_cons (pe_bltn (v := .ty "ValueError") (u := .type "ValueError") (by rfl) T.m_ValueError (by decide +kernel) Xk.rel_ty) pa_nil))))) (pw_or1 (pt_cmpR op_eq (pe_callB (Xk.k_isP (K := K) (by rfl) hC hp hz hf) (by rfl) T.m_isinstance (by decide +kernel) (pa_cons (pv 0) (pa_cons (pe_glob (by rfl) T.g_NoMessage Xk.rel_ref) pa_nil))) (pv 1) (nomark _)))))) (pss_one (ps_ret (pe_tup (pa_cons (pe_str) (pa_cons (pe_non) pa_nil))))) pss_nil)
      (pss_one (ps_ret (pe_tup (pa_cons (pe_ix (Xk.k_ixL (K := K) (by rfl)) (pe_lst (pa_cons (pe_str) (pa_cons (pe_str) pa_nil))) (pe_callTy Xk.call_nInt (by rfl) T.m_int (by decide +kernel) (pa_cons (pv 1) pa_nil)) (fun _ _ => rfl)) (pa_cons (pe_non) pa_nil))))))), ?_⟩
  wtm_at "x0"
  wtm_at "xs"
  refine Xk.x_isE kL ?_
  refine Xk.x_nocut ?_
  wtm_at "xs"
  refine Xk.x_isE kM ?_
  wtm_at "xs"
  refine Xk.x_isET kV ?_
  wtm_at "xs"
  refine Xk.x_isE kN ?_
  wtm_at "xs"
  refine Xk.x_dN (by cases k <;> decide) ?_
  wtm_at "xs"
  intro p1 H2 hp1 s2 h2
  wtm_at "xs"
  refine Xk.x_ixL (Xk.sq_of h2) (show atI [V.str "none", V.str "cut"] (if k = true then 1 else 0) = some (.str (word k)) from ?_) ?_
  · cases k <;> rfl
  wtm_at "xs"
  intro p2 H3 hp2 s3 h3
  exact q p2 H3 (Xk.free_back hp2 s2) (s2.trans s3) h3
/-- what a deed answers -/
def ansD (kind : Int) (f : Option Ms) (N : Int) (L : List Lk) : PyData := match f with
  | none => .tuple [.str "none", .none]
  | some e => if kind = 0 ∧ (e.s, e.r) ∈ L then .tuple [.str "cut", .none] else if kind = 1 then .tuple [.str "told", .none] else if kind = 2 then .tuple [.str "told", .int N]
    else if kind = 3 then .tuple [.str "told", .bool (decide ((e.s, e.r) ∈ L))] else .tuple [.str "told", .tuple [.int e.s, .int e.r, e.d]]
/-- what a deed does -/
def Stp (kind : Int) (A : List Ms) (n N : Int) (L : List Lk) (A' : List Ms) (N' : Int) : Prop := match fnd A n with
  | none => A' = A ∧ N' = N
  | some e => if (kind = 0 ∧ (e.s, e.r) ∈ L) ∨ 3 ≤ kind then A' = A ∧ N' = N else if kind < 2 then A' = rmv A n ∧ N' = N else ∃ a, A' = A ++ [⟨N, a, e.s, e.r, e.d⟩] ∧ N' = N + 1
theorem stp_gh {kind : Int} {A B A' B' : List Ms} {n N N1 N2 : Int} {L : List Lk} (h : gh A = gh B) (h1 : Stp kind A n N L A' N1) (h2 : Stp kind B n N L B' N2) : gh A' = gh B' ∧ N1 = N2 := by
  have hf := gh_fnd n h
  unfold Stp at h1 h2
  cases e1 : fnd A n with
  | none =>
    rw [e1] at hf h1
    cases e2 : fnd B n with
    | none =>
      rw [e2] at h2
      obtain ⟨rfl, rfl⟩ := h1
      obtain ⟨rfl, rfl⟩ := h2
      exact ⟨h, rfl⟩
    | some f => rw [e2] at hf; cases hf
  | some e =>
    rw [e1] at hf h1
    cases e2 : fnd B n with
    | none => rw [e2] at hf; cases hf
    | some f =>
      rw [e2] at hf h2
      have hg : g4 e = g4 f := Option.some.inj hf
      have hs : e.s = f.s := congrArg (fun x => x.2.1) hg
      have hr : e.r = f.r := congrArg (fun x => x.2.2.1) hg
      have hd : e.d = f.d := congrArg (fun x => x.2.2.2) hg
      dsimp only at h1 h2
      rw [← hs, ← hr] at h2
      by_cases c : (kind = 0 ∧ (e.s, e.r) ∈ L) ∨ 3 ≤ kind
      · rw [if_pos c] at h1 h2
        obtain ⟨rfl, rfl⟩ := h1
        obtain ⟨rfl, rfl⟩ := h2
        exact ⟨h, rfl⟩
      · rw [if_neg c] at h1 h2
        by_cases c2 : kind < 2
        · rw [if_pos c2] at h1 h2
          obtain ⟨rfl, rfl⟩ := h1
          obtain ⟨rfl, rfl⟩ := h2
          exact ⟨gh_rmv n h, rfl⟩
        · rw [if_neg c2] at h1 h2
          obtain ⟨a1, rfl, rfl⟩ := h1
          obtain ⟨a2, rfl, rfl⟩ := h2
          exact ⟨gh_snoc h (by unfold g4; rw [hd]), rfl⟩
theorem ans_gh {kind : Int} {A B : List Ms} {n N : Int} {L : List Lk} (h : gh A = gh B) : ansD kind (fnd A n) N L = ansD kind (fnd B n) N L := by
  have hf := gh_fnd n h
  cases e1 : fnd A n with
  | none =>
    rw [e1] at hf
    cases e2 : fnd B n with
    | none => rfl
    | some f => rw [e2] at hf; cases hf
  | some e =>
    rw [e1] at hf
    cases e2 : fnd B n with
    | none => rw [e2] at hf; cases hf
    | some f =>
      rw [e2] at hf
      have hg : g4 e = g4 f := Option.some.inj hf
      have hs : e.s = f.s := congrArg (fun x => x.2.1) hg
      have hr : e.r = f.r := congrArg (fun x => x.2.2.1) hg
      have hd : e.d = f.d := congrArg (fun x => x.2.2.2) hg
      unfold ansD
      dsimp only
      rw [hs, hr, hd]
theorem stp_ok {kind : Int} {A A' : List Ms} {n N N1 : Int} {L : List Lk} {m : Nat} (h : Ok A N L m) (h1 : Stp kind A n N L A' N1) : Ok A' N1 L (m + 1) := by
  unfold Stp at h1
  cases e1 : fnd A n with
  | none =>
    rw [e1] at h1
    obtain ⟨rfl, rfl⟩ := h1
    exact h.up (Nat.le_succ _)
  | some e =>
    rw [e1] at h1
    dsimp only at h1
    split at h1
    · obtain ⟨rfl, rfl⟩ := h1
      exact h.up (Nat.le_succ _)
    · split at h1
      · obtain ⟨rfl, rfl⟩ := h1
        exact h.rmv n
      · obtain ⟨a, rfl, rfl⟩ := h1
        exact h.snoc a _ _ _
theorem pk_bool {H : Hp} {n : Nat} {b : Bool} : Xk.Pk K H n (.bl b) (.bool b) := ⟨.bl b, rfl, Nat.zero_le _⟩
theorem MsAt.pk {H : Hp} {e : Ms} (h : MsAt K H e) : Xk.Pk K H 6 (.ref e.a) (.tuple [.int e.s, .int e.r, e.d]) := by
  obtain ⟨bv, h1, h2⟩ := h
  exact Xk.pk_tup3 (Xk.st_of h1) Xk.pk_int Xk.pk_int h2
def sp__law_asked (K : PySem.W.Frag) (C CN CL : Addr) : Sp := fun vs H Q _ => ∃ b A N L m kind n, vs = [.ref (Bg.x b), .int kind, .int n] ∧ 0 ≤ kind ∧ BgAt K C H b A N L ∧ Ok A N L m ∧ m < 9000 ∧
  ∀ H' v A' N', Exc [b.x, b.m, b.l] H H' → BgAt K C H' b A' N' L → Xk.Pk K H' 8 v (ansD kind (fnd A n) N L) → Stp kind A n N L A' N' → Q v H'
theorem ok__law_asked (T : Txt K mg) : FnOk P w K mg base CX0 4 T.f__law_asked T.d__law_asked ["bag", "kind", "number"] (sp__law_asked K T.C_Bag T.C_NoMessage T.C_LinkCut) := by
  refine T.F__law_asked.ok sc__law_asked (fun vs H Q E h => ?_) (fun cdv A outer s H vs Q E hr h => ?_)
  · obtain ⟨b, A, N, L, m, kind, n, rfl, _⟩ := h
    rfl
  obtain ⟨b, A, N, L, m, kind, n, rfl, hk, j, ok, hm, q⟩ := h
  have c0 := T.Cls_Bag
  have j1 := j.i
  have al : A.length < 9000 := Nat.lt_of_le_of_lt ok.al hm
  refine ⟨_, (pss_one (Xk.ps_tryE (i := 3) rfl rfl sc__law_asked.nd rfl rfl ⟨rfl, by decide, .inl T.g_CrossError⟩ (fun W pn xe tk _ => (Evl.pss_cut (ps_if (pt_cmpR op_eq (pv 1) (pe_int) (nomark _)) (pss_one (ps_ret (pe_tup (pa_cons (pe_str) (pa_cons (Xk.pe_mthE (pv 0) T.Cls_Bag T.M_Bag_take (ok_Bag_take T) (hr.mono (by decide)) T.b_Bag_take (fun σ => passAt tk σ) (pa_cons (pv 2) pa_nil)) pa_nil))))) pss_nil)
      (Evl.pss_cut (ps_if (pt_cmpR op_eq (pv 1) (pe_int) (nomark _)) (pss_one (ps_ret (pe_tup (pa_cons (pe_str) (pa_cons (Xk.pe_mthE (pv 0) T.Cls_Bag T.M_Bag_drop (ok_Bag_drop T) (hr.mono (by decide)) T.b_Bag_drop (fun σ => passAt tk σ) (pa_cons (pv 2) pa_nil)) pa_nil))))) pss_nil)
      (Evl.pss_cut (ps_if (pt_cmpR op_eq (pv 1) (pe_int) (nomark _)) (pss_one (ps_ret (pe_tup (pa_cons (pe_str) (pa_cons (Xk.pe_mthE (pv 0) T.Cls_Bag T.M_Bag_double (ok_Bag_double T) (hr.mono (by decide)) T.b_Bag_double (fun σ => passAt tk σ) (pa_cons (pv 2) pa_nil)) pa_nil))))) pss_nil)
      (Evl.pss_cut (ps_if (pt_cmpR op_eq (pv 1) (pe_int) (nomark _)) (pss_one (ps_ret (pe_tup (pa_cons (pe_str) (pa_cons (Xk.pe_mthE (pv 0) T.Cls_Bag T.M_Bag_is_cut (ok_Bag_is_cut T) (hr.mono (by decide)) T.b_Bag_is_cut (fun σ => passAt tk σ) (pa_cons (pv 2) pa_nil)) pa_nil))))) pss_nil)
      (pss_one (ps_ret (pe_tup (pa_cons (pe_str) (pa_cons (Xk.pe_mthE (pv 0) T.Cls_Bag T.M_Bag_message (ok_Bag_message T) (hr.mono (by decide)) T.b_Bag_message (fun σ => passAt tk σ) (pa_cons (pv 2) pa_nil)) pa_nil)))))))))) (fun a oe cls d pn hz hf => (pss_one (ps_ret (Xk.pe_callE (ok__law_fault T) ⟨(hr.mono (j := 1) (by decide)).dp, (hr.mono (j := 1) (by decide)).un⟩ List.mem_cons_self hz hf (by rfl) T.g__law_fault T.F__law_fault.kp T.b__law_fault (pa_cons (pv 3) pa_nil))))))), ?_⟩
  wtm_at "x0"
  wtm_at "xs"
  have out : ∀ (k : Bool) (H2 : Hp), Same H H2 → ansD kind (fnd A n) N L = .tuple [.str (word k), .none] → Stp kind A n N L A N →
      wAs K (.ref T.C_CrossError) 3 (fun a cls d => tRet (Xk.tCallE (sp__law_fault K T.C_NoMessage T.C_LinkCut) a cls d (tCons (tVar 3) tNil))) (fun _ _ _ _ => False) { nx := fun _ H' => Q V.non H', rt := Q }
        (.ref (if k then T.C_LinkCut else T.C_NoMessage)) none [some (.ref b.x), some (.int kind), some (.int n), none] H2 := by
    intro k H2 s2 ea st
    refine Xk.x_was ?_ fun a ha => ?_
    · cases k
      · exact Xk.exm_one T.N_CrossError T.s_NoMessage_CrossError
      · exact Xk.exm_one T.N_CrossError T.s_LinkCut_CrossError
    wtm_at "xs"
    refine ⟨k, rfl, rfl, rfl, fun p H3 hp s3 h3 => ?_⟩
    refine q H3 _ A N (Exc.same (s2.trans s3)) (j.same (s2.trans s3)) ?_ st
    rw [ea]
    exact (Xk.pk_tup2 (n := 0) (Xk.st_of h3) (Xk.pk_str (by cases k <;> decide +kernel)) Xk.pk_non).mono (by decide)
  have none_ : fnd A n = none → wAs K (.ref T.C_CrossError) 3 (fun a cls d => tRet (Xk.tCallE (sp__law_fault K T.C_NoMessage T.C_LinkCut) a cls d (tCons (tVar 3) tNil))) (fun _ _ _ _ => False) { nx := fun _ H' => Q V.non H', rt := Q }
        (.ref T.C_NoMessage) none [some (.ref b.x), some (.int kind), some (.int n), none] H := fun e =>
    out false H (Same.refl _) (by rw [e]; rfl) (by unfold Stp; rw [e]; exact ⟨rfl, rfl⟩)
  refine Xk.x_nocut ?_
  wtm_at "xs"
  refine Xk.x_itd (fun hk0 => ?_) (fun hk0 => ?_)
  · obtain rfl : kind = 0 := V.int.inj hk0
    wtm_at "xs"
    refine ⟨b, A, N, L, n, rfl, j, none_, fun e H2 he hin s2 => ?_, fun e H2 he hout e2 j2 => ?_⟩
    · exact out true H2 s2 (by rw [he]; exact if_pos ⟨rfl, hin⟩) (by unfold Stp; rw [he]; exact (if_pos (.inl ⟨rfl, hin⟩)).mpr ⟨rfl, rfl⟩)
    · have hpk := ((j.e e (fnd_mem he).1).exc e2 j.noT).pk
      wtm_at "xs"
      intro p H3 hp s3 h3
      refine q H3 _ _ _ (e2.trans (Exc.same s3)) (j2.same s3) ?_ (by unfold Stp; rw [he]; exact (if_neg (fun z => z.elim (fun y => hout y.2) (fun y => by omega))).mpr ((if_pos (by decide)).mpr ⟨rfl, rfl⟩))
      rw [he]
      have ea : ansD 0 (some e) N L = .tuple [.str "told", .tuple [.int e.s, .int e.r, e.d]] := by
        unfold ansD
        dsimp only
        rw [if_neg (fun z => hout z.2), if_neg (by decide), if_neg (by decide), if_neg (by decide)]
      rw [ea]
      exact (Xk.pk_tup2 (Xk.st_of h3) (Xk.pk_str) (hpk.same s3)).mono (by decide)
  have k0 : kind ≠ 0 := fun z => hk0 (by rw [z])
  wtm_at "xs"
  refine Xk.x_nocut ?_
  wtm_at "xs"
  refine Xk.x_itd (fun hk1 => ?_) (fun hk1 => ?_)
  · obtain rfl : kind = 1 := V.int.inj hk1
    wtm_at "xs"
    refine ⟨b, A, N, L, n, rfl, j, none_, fun e H2 he e2 j2 => ?_⟩
    wtm_at "xs"
    intro p H3 hp s3 h3
    refine q H3 _ _ _ (e2.trans (Exc.same s3)) (j2.same s3) ?_ (by unfold Stp; rw [he]; exact (if_neg (fun z => z.elim (fun y => k0 y.1) (fun y => by omega))).mpr ((if_pos (by decide)).mpr ⟨rfl, rfl⟩))
    rw [he]
    have ea : ansD 1 (some e) N L = .tuple [.str "told", .none] := by
      unfold ansD
      dsimp only
      rw [if_neg (fun z => k0 z.1), if_pos rfl]
    rw [ea]
    exact (Xk.pk_tup2 (n := 0) (Xk.st_of h3) (Xk.pk_str) Xk.pk_non).mono (by decide)
  have k1 : kind ≠ 1 := fun z => hk1 (by rw [z])
  wtm_at "xs"
  refine Xk.x_nocut ?_
  wtm_at "xs"
  refine Xk.x_itd (fun hk2 => ?_) (fun hk2 => ?_)
  · obtain rfl : kind = 2 := V.int.inj hk2
    wtm_at "xs"
    refine ⟨b, A, N, L, n, rfl, j, fnd_none ok, al, none_, fun e a H2 he e2 j2 => ?_⟩
    wtm_at "xs"
    intro p H3 hp s3 h3
    refine q H3 _ _ _ (e2.trans (Exc.same s3)) (j2.same s3) ?_ (by unfold Stp; rw [he]; exact (if_neg (fun z => z.elim (fun y => k0 y.1) (fun y => by omega))).mpr ((if_neg (by decide)).mpr ⟨a, rfl, rfl⟩))
    rw [he]
    have ea : ansD 2 (some e) N L = .tuple [.str "told", .int N] := by
      unfold ansD
      dsimp only
      rw [if_neg (fun z => k0 z.1), if_neg (by decide), if_pos rfl]
    rw [ea]
    exact (Xk.pk_tup2 (n := 0) (Xk.st_of h3) (Xk.pk_str) Xk.pk_int).mono (by decide)
  have k2 : kind ≠ 2 := fun z => hk2 (by rw [z])
  wtm_at "xs"
  refine Xk.x_nocut ?_
  wtm_at "xs"
  refine Xk.x_itd (fun hk3 => ?_) (fun hk3 => ?_)
  · obtain rfl : kind = 3 := V.int.inj hk3
    wtm_at "xs"
    refine ⟨b, A, N, L, n, rfl, j, fun e H2 he s2 => ?_, none_⟩
    wtm_at "xs"
    intro p H3 hp s3 h3
    refine q H3 _ _ _ (Exc.same (s2.trans s3)) (j.same (s2.trans s3)) ?_ (by unfold Stp; rw [he]; exact (if_pos (.inr (by omega))).mpr ⟨rfl, rfl⟩)
    rw [he]
    have ea : ansD 3 (some e) N L = .tuple [.str "told", .bool (decide ((e.s, e.r) ∈ L))] := by
      unfold ansD
      dsimp only
      rw [if_neg (fun z => k0 z.1), if_neg (by decide), if_neg (by decide), if_pos rfl]
    rw [ea]
    exact (Xk.pk_tup2 (n := 0) (Xk.st_of h3) (Xk.pk_str) pk_bool).mono (by decide)
  have k3 : kind ≠ 3 := fun z => hk3 (by rw [z])
  wtm_at "xs"
  refine ⟨b, A, N, L, n, rfl, j, fun e he => ?_, none_⟩
  have hpk := (j.e e (fnd_mem he).1).pk
  wtm_at "xs"
  intro p H3 hp s3 h3
  refine q H3 _ _ _ (Exc.same s3) (j.same s3) ?_ (by unfold Stp; rw [he]; exact (if_pos (.inr (by omega))).mpr ⟨rfl, rfl⟩)
  rw [he]
  have ea : ansD kind (some e) N L = .tuple [.str "told", .tuple [.int e.s, .int e.r, e.d]] := by
    unfold ansD
    dsimp only
    rw [if_neg (fun z => k0 z.1), if_neg k1, if_neg k2, if_neg k3]
  rw [ea]
  exact (Xk.pk_tup2 (Xk.st_of h3) (Xk.pk_str) (hpk.same s3)).mono (by decide)
--CUT--
def sp__law_due (K : PySem.W.Frag) : Sp := fun vs H Q _ => ∃ b A N L m kind n, vs = [.ref (Md.p b), .int kind, .int n] ∧ 0 ≤ kind ∧ MdAt K H b A N L ∧ Ok A N L m ∧ m < 9000 ∧
  ∀ H' v A' N', Exc [b.p, b.m, b.l] H H' → MdAt K H' b A' N' L → Xk.Pk K H' 8 v (ansD kind (fnd A n) N L) → Stp kind A n N L A' N' → Q v H'
theorem stp_rmv {kind : Int} {A : List Ms} {n N : Int} {L : List Lk} {e : Ms} (he : fnd A n = some e) (h0 : ¬ (kind = 0 ∧ (e.s, e.r) ∈ L)) (h : kind < 2) : Stp kind A n N L (rmv A n) N := by
  unfold Stp
  rw [he]
  exact (if_neg (fun z => z.elim h0 (fun y => by omega))).mpr ((if_pos h).mpr ⟨rfl, rfl⟩)
theorem ans_msg {kind : Int} {N : Int} {L : List Lk} {e : Ms} (h0 : ¬ (kind = 0 ∧ (e.s, e.r) ∈ L)) (h1 : kind ≠ 1) (h2 : kind ≠ 2) (h3 : kind ≠ 3) : ansD kind (some e) N L = .tuple [.str "told", .tuple [.int e.s, .int e.r, e.d]] := by
  unfold ansD
  dsimp only
  rw [if_neg h0, if_neg h1, if_neg h2, if_neg h3]
theorem ok__law_due (T : Txt K mg) : FnOk P w K mg base CX0 1 T.f__law_due T.d__law_due ["model", "kind", "number"] (sp__law_due K) := by
  refine T.F__law_due.ok sc__law_due (fun vs H Q E h => ?_) (fun cdv A outer s H vs Q E hr h => ?_)
  · obtain ⟨b, A, N, L, m, kind, n, rfl, _⟩ := h
    rfl
  obtain ⟨b, A, N, L, m, kind, n, rfl, hk, j, ok, hm, q⟩ := h
  have j1 := j.i
  have j2 := j.m
  have al : A.length < 9000 := Nat.lt_of_le_of_lt ok.al hm
  refine ⟨_, (pss_cons (ps_set (i := 3) sc__law_due.nd rfl (Or.inl rfl) (pe_ix (Xk.k_ixL (K := K) (by rfl)) (pv 0) (pe_int) (fun _ _ => rfl)))
      (Evl.pss_cut (ps_if (pt_cmp (pc_dnotin (hu_of hr) (pv 2) (pv 3))) (pss_one (ps_ret (pe_tup (pa_cons (pe_str) (pa_cons (pe_non) pa_nil))))) pss_nil)
      (pss_cons (ps_set (i := 4) sc__law_due.nd rfl (Or.inl rfl) (pe_dget (hu_of hr) (pv 3) (pv 2) (fun _ _ => rfl)))
      (pss_cons (ps_set (i := 5) sc__law_due.nd rfl (Or.inl rfl) (pe_cmp (pc_din (hu_of hr) (pe_slice sl_tupA (pv 4) po_none (po_some (pe_int))) (pe_ix (Xk.k_ixL (K := K) (by rfl)) (pv 0) (pe_int) (fun _ _ => rfl)))))
      (Evl.pss_cut (ps_if (PW.pt (pw_and (pt_cmpR op_eq (pv 1) (pe_int) (nomark _)) (pw_and1 (pt_val (pv 5))))) (pss_one (ps_ret (pe_tup (pa_cons (pe_str) (pa_cons (pe_non) pa_nil))))) pss_nil)
      (Evl.pss_cut (ps_if (pt_cmpR op_lt (pv 1) (pe_int) (nomark _)) (pss_one (ps_expr (pe_dpop1 (pv 3) (pv 2) ⟨by rfl, by rfl, by rfl, by rfl⟩))) pss_nil)
      (Evl.pss_cut (ps_if (pt_cmpR op_eq (pv 1) (pe_int) (nomark _)) (pss_one (ps_ret (pe_tup (pa_cons (pe_str) (pa_cons (pe_non) pa_nil))))) pss_nil)
      (Evl.pss_cut (ps_if (pt_cmpR op_eq (pv 1) (pe_int) (nomark _)) (pss_cons (ps_dput (hu_of hr) (pv 3) (pe_ix (Xk.k_ixL (K := K) (by rfl)) (pv 0) (pe_int) (fun _ _ => rfl)) (pv 4) rfl)
      (pss_cons (ps_asg (pe_op op_add (pe_ix (Xk.k_ixL (K := K) (by rfl)) (pv 0) (pe_int) (fun _ _ => rfl)) (pe_int)) (pg_sub (pv 0) (pe_int) set_list))
      (pss_one (ps_ret (pe_tup (pa_cons (pe_str) (pa_cons (pe_op op_sub (pe_ix (Xk.k_ixL (K := K) (by rfl)) (pv 0) (pe_int) (fun _ _ => rfl)) (pe_int)) pa_nil))))))) pss_nil)
      (Evl.pss_cut (ps_if (pt_cmpR op_eq (pv 1) (pe_int) (nomark _)) (pss_one (ps_ret (pe_tup (pa_cons (pe_str) (pa_cons (pv 5) pa_nil))))) pss_nil)
      (pss_one (ps_ret (pe_tup (pa_cons (pe_str) (pa_cons (pv 4) pa_nil)))))))))))))), ?_⟩
  wtm_at "x0"
  wtm_at "xs"
  refine Xk.x_nocut ?_
  wtm_at "xs"
  refine Xk.x_rDNi j2 ?_
  rw [dk_val]
  cases he : fnd A n with
  | none =>
    show ∃ k, V.bl true = V.bl k ∧ _
    wtm_at "xs"
    wtm_at "xs"
    intro p H3 hp s3 h3
    refine q H3 _ A N (Exc.same s3) (j.same s3) ?_ (by unfold Stp; rw [he]; exact ⟨rfl, rfl⟩)
    rw [he]
    exact (Xk.pk_tup2 (n := 0) (Xk.st_of h3) (Xk.pk_str) Xk.pk_non).mono (by decide)
  | some e =>
    show ∃ k, V.bl false = V.bl k ∧ _
    have hpk := (j.e e (fnd_mem he).1).pk
    obtain ⟨bv, g1, g2⟩ := j.e e (fnd_mem he).1
    wtm_at "xs"
    skip
    refine Xk.x_rDGi j2 (by rw [dk_val, he]; rfl) ?_
    wtm_at "xs"
    refine Xk.x_slA g1 fun t H2 s2 h2 => ?_
    replace h2 : H2 t = some (.tup ((lkk (e.s, e.r)).map kV)) := h2
    have i1 := s2 _ _ j1
    have i2 := s2 _ _ j2
    have i3 := s2 _ _ j.l
    wtm_at "xs"
    refine Xk.x_dinT (k := lkk (e.s, e.r)) i3 h2 ?_
    rw [lk_in]
    have jj := j.same s2
    have hpk2 := hpk.same s2
    clear h2 g1 g2
    wtm_at "xs"
    refine Xk.x_cut (fun σ' H' => H' = H2 ∧ σ' = [some (.ref b.p), some (.int kind), some (.int n), some (.ref b.m), some (.ref e.a), some (.bl (decide ((e.s, e.r) ∈ L)))] ∧ ¬ (kind = 0 ∧ (e.s, e.r) ∈ L)) ?_ ?_
    · wtm_at "xs"
      refine Xk.x_itd (fun hk0 => ?_) (fun hk0 => ?_)
      · obtain rfl : kind = 0 := V.int.inj hk0
        wtm_at "xs"
        refine Xk.x_itd (fun hin => ?_) (fun hout => ?_)
        · wtm_at "xs"
          intro p H3 hp s3 h3
          refine q H3 _ A N (Exc.same (s2.trans s3)) (jj.same s3) ?_ (by unfold Stp; rw [he]; exact (if_pos (.inl ⟨rfl, hin⟩)).mpr ⟨rfl, rfl⟩)
          have ea : ansD 0 (some e) N L = .tuple [.str "cut", .none] := if_pos ⟨rfl, hin⟩
          rw [he, ea]
          exact (Xk.pk_tup2 (n := 0) (Xk.st_of h3) (Xk.pk_str) Xk.pk_non).mono (by decide)
        · wtm_at "xs"
          exact ⟨rfl, rfl, fun z => hout z.2⟩
      · wtm_at "xs"
        exact ⟨rfl, rfl, fun z => hk0 (by rw [z.1])⟩
    rintro σ' H' ⟨rfl, rfl, h0⟩
    have e2 : Exc [b.p, b.m, b.l] H' (upd H' b.m (.dK (dk (rmv A n)))) := (Exc.same (Same.refl _)).put (by simp)
    have jr : MdAt K (upd H' b.m (.dK (dk (rmv A n)))) b (rmv A n) N L := ⟨(upd_ne j.pm).trans i1, upd_same, (upd_ne j.ml.symm).trans i3, mem_rmv fun x hx => (jj.e x hx).exc e2 jj.noT⟩
    have hpk3 := hpk2.st (e2.st jj.noT)
    refine Xk.x_nocut ?_
    wtm_at "xs"
    refine Xk.x_itd (fun hk2 => ?_) (fun hk2 => ?_)
    · wtm_at "xs"
      refine Xk.x_rPopi i2 (by rw [dk_val, he]; rfl) ?_
      rw [dk_drop]
      refine Xk.x_nocut ?_
      wtm_at "xs"
      refine Xk.x_itd (fun hk1 => ?_) (fun hk1 => ?_)
      · obtain rfl : kind = 1 := V.int.inj hk1
        wtm_at "xs"
        intro p H3 hp s3 h3
        refine q H3 _ _ _ ((Exc.same s2).trans (e2.trans (Exc.same s3))) (jr.same s3) ?_ (stp_rmv he h0 hk2)
        have ea : ansD 1 (some e) N L = .tuple [.str "told", .none] := by
          unfold ansD
          dsimp only
          rw [if_neg h0, if_pos rfl]
        rw [he, ea]
        exact (Xk.pk_tup2 (n := 0) (Xk.st_of h3) (Xk.pk_str) Xk.pk_non).mono (by decide)
      · have k1 : kind ≠ 1 := fun z => hk1 (by rw [z])
        wtm_at "xs"
        refine Xk.x_nocut ?_
        wtm_at "xs"
        refine Xk.x_dN (fun z => by have := V.int.inj z; omega) ?_
        wtm_at "xs"
        refine Xk.x_nocut ?_
        wtm_at "xs"
        refine Xk.x_dN (fun z => by have := V.int.inj z; omega) ?_
        wtm_at "xs"
        intro p H3 hp s3 h3
        refine q H3 _ _ _ ((Exc.same s2).trans (e2.trans (Exc.same s3))) (jr.same s3) ?_ (stp_rmv he h0 hk2)
        rw [he, ans_msg h0 k1 (by omega) (by omega)]
        exact (Xk.pk_tup2 (Xk.st_of h3) (Xk.pk_str) (hpk3.same s3)).mono (by decide)
    · wtm_at "xs"
      refine Xk.x_nocut ?_
      wtm_at "xs"
      refine Xk.x_dN (fun z => by have := V.int.inj z; omega) ?_
      wtm_at "xs"
      refine Xk.x_nocut ?_
      wtm_at "xs"
      refine Xk.x_itd (fun hk3 => ?_) (fun hk3 => ?_)
      · obtain rfl : kind = 2 := V.int.inj hk3
        wtm_at "xs"
        refine Xk.x_rDPi i2 (by rw [dk_len]; omega) ?_
        rw [dk_put (fnd_none ok) e.a e.s e.r e.d]
        have e3 : Exc [b.p, b.m, b.l] H' (upd H' b.m (.dK (dk (A ++ [⟨N, e.a, e.s, e.r, e.d⟩])))) := (Exc.same (Same.refl _)).put (by simp)
        have n1 := j.pm
        have nt := jj.noT
        have hall : ∀ x ∈ A ++ [⟨N, e.a, e.s, e.r, e.d⟩], MsAt K (upd H' b.m (.dK (dk (A ++ [⟨N, e.a, e.s, e.r, e.d⟩])))) x := mem_snoc (fun x hx => (jj.e x hx).exc e3 nt) ((jj.e e (fnd_mem he).1).exc e3 nt)
        have i6 : (upd H' b.m (.dK (dk (A ++ [⟨N, e.a, e.s, e.r, e.d⟩])))) b.p = some (.lst [.ref b.m, .ref b.l, .int N]) := (upd_ne n1).trans i1
        wtm_at "xs"
        refine Xk.x_setL i6 (Xk.ixN_of (j := 2) rfl (Nat.le_refl 3)) ?_
        have e4 : Exc [b.p, b.m, b.l] (upd H' b.m (.dK (dk (A ++ [⟨N, e.a, e.s, e.r, e.d⟩])))) (upd (upd H' b.m (.dK (dk (A ++ [⟨N, e.a, e.s, e.r, e.d⟩])))) b.p (.lst [.ref b.m, .ref b.l, .int (N + 1)])) := (Exc.same (Same.refl _)).put (by simp)
        have nt4 : NoT (upd H' b.m (.dK (dk (A ++ [⟨N, e.a, e.s, e.r, e.d⟩])))) [b.p, b.m, b.l] := fun c hc => by
          simp only [List.mem_cons, List.not_mem_nil, or_false] at hc
          rcases hc with rfl | rfl | rfl
          · exact ⟨_, i6, rfl⟩
          · exact ⟨_, upd_same, rfl⟩
          · exact ⟨_, (upd_ne j.ml.symm).trans i3, rfl⟩
        have j7 : MdAt K (upd (upd H' b.m (.dK (dk (A ++ [⟨N, e.a, e.s, e.r, e.d⟩])))) b.p (.lst [.ref b.m, .ref b.l, .int (N + 1)])) b (A ++ [⟨N, e.a, e.s, e.r, e.d⟩]) (N + 1) L :=
          ⟨upd_same, (upd_ne n1.symm).trans upd_same, (upd_ne j.pl.symm).trans ((upd_ne j.ml.symm).trans i3), fun x hx => (hall x hx).exc e4 nt4⟩
        have j8 := j7.i
        show tRet _ _ _ (upd (upd H' b.m (.dK (dk (A ++ [⟨N, e.a, e.s, e.r, e.d⟩])))) b.p (.lst [.ref b.m, .ref b.l, .int (N + 1)]))
        have eX : Exc [b.p, b.m, b.l] H (upd (upd H' b.m (.dK (dk (A ++ [⟨N, e.a, e.s, e.r, e.d⟩])))) b.p (.lst [.ref b.m, .ref b.l, .int (N + 1)])) := (Exc.same s2).trans (e3.trans e4)
        generalize (upd (upd H' b.m (.dK (dk (A ++ [⟨N, e.a, e.s, e.r, e.d⟩])))) b.p (.lst [.ref b.m, .ref b.l, .int (N + 1)])) = H9 at j7 j8 eX
        wtm_at "xs"
        intro p H3 hp s3 h3
        refine q H3 _ _ _ (eX.trans (Exc.same s3)) (j7.same s3) ?_ (by unfold Stp; rw [he]; exact (if_neg (fun z => z.elim h0 (fun y => by omega))).mpr ((if_neg (by decide)).mpr ⟨e.a, rfl, rfl⟩))
        have ea : ansD 2 (some e) N L = .tuple [.str "told", .int N] := by
          unfold ansD
          dsimp only
          rw [if_neg h0, if_neg (by decide), if_pos rfl]
        rw [he, ea]
        rw [show N + 1 - 1 = N by omega] at h3
        exact (Xk.pk_tup2 (n := 0) (Xk.st_of h3) (Xk.pk_str) Xk.pk_int).mono (by decide)
      · have k2 : kind ≠ 2 := fun z => hk3 (by rw [z])
        have st3 : Stp kind A n N L A N := by unfold Stp; rw [he]; exact (if_pos (.inr (by omega))).mpr ⟨rfl, rfl⟩
        wtm_at "xs"
        refine Xk.x_nocut ?_
        wtm_at "xs"
        refine Xk.x_itd (fun hk4 => ?_) (fun hk4 => ?_)
        · obtain rfl : kind = 3 := V.int.inj hk4
          wtm_at "xs"
          intro p H3 hp s3 h3
          refine q H3 _ _ _ (Exc.same (s2.trans s3)) (jj.same s3) ?_ st3
          have ea : ansD 3 (some e) N L = .tuple [.str "told", .bool (decide ((e.s, e.r) ∈ L))] := by
            unfold ansD
            dsimp only
            rw [if_neg h0, if_neg (by decide), if_neg (by decide), if_pos rfl]
          rw [he, ea]
          exact (Xk.pk_tup2 (n := 0) (Xk.st_of h3) (Xk.pk_str) pk_bool).mono (by decide)
        · have k3 : kind ≠ 3 := fun z => hk4 (by rw [z])
          wtm_at "xs"
          intro p H3 hp s3 h3
          refine q H3 _ _ _ (Exc.same (s2.trans s3)) (jj.same s3) ?_ st3
          rw [he, ans_msg h0 (by omega) k2 k3]
          exact (Xk.pk_tup2 (Xk.st_of h3) (Xk.pk_str) (hpk2.same s3)).mono (by decide)
--CUT--
/-- what stands in both -/
structure Bo (K : PySem.W.Frag) (C : Addr) (H : Hp) (b : Bg) (d : Md) (A B : List Ms) (N : Int) (L : List Lk) (m : Nat) : Prop where
  b : BgAt K C H b A N L
  d : MdAt K H d B N L
  g : gh A = gh B
  ok : Ok A N L m
  o2 : Ok B N L m
abbrev six (b : Bg) (d : Md) : List Addr := [b.x, b.m, b.l, d.p, d.m, d.l]
theorem msg_lift {H : Hp} {b : Md} {A B : List Ms} {N M : Int} {L : List Lk} (h : MdAt K H b A N L) (e : MdAt K H b B M L) : True := trivial
/-- no place is in both -/
structure Far (b : Bg) (d : Md) : Prop where
  f : ∀ c ∈ [b.x, b.m, b.l], c ∉ [d.p, d.m, d.l]
theorem MdAt.exc {C : Addr} {H H' : Hp} {b : Bg} {d : Md} {A B : List Ms} {N M : Int} {L R : List Lk} (h : MdAt K H d B M R) (f : Far b d) (hb : BgAt K C H b A N L) (e : Exc [b.x, b.m, b.l] H H') : MdAt K H' d B M R :=
  ⟨e _ _ (fun z => f.f _ z (by simp)) h.i, e _ _ (fun z => f.f _ z (by simp)) h.m, e _ _ (fun z => f.f _ z (by simp)) h.l, fun x hx => (h.e x hx).exc e hb.noT⟩
theorem BgAt.exc {C : Addr} {H H' : Hp} {b : Bg} {d : Md} {A B : List Ms} {N M : Int} {L R : List Lk} (h : BgAt K C H b A N L) (f : Far b d) (hd : MdAt K H d B M R) (e : Exc [d.p, d.m, d.l] H H') : BgAt K C H' b A N L :=
  ⟨e _ _ (fun z => f.f b.x (by simp) z) h.i, e _ _ (fun z => f.f b.m (by simp) z) h.m, e _ _ (fun z => f.f b.l (by simp) z) h.l, fun x hx => (h.e x hx).exc e hd.noT⟩
def sp__law_sent (K : PySem.W.Frag) (C CN CL : Addr) : Sp := fun vs H Q _ => ∃ b d A B N L m row, vs = [.ref (Bg.x b), .ref (Md.p d), .int row] ∧ Bo K C H b d A B N L m ∧ Far b d ∧ m < 8000 ∧
  ∀ H' A' B', Exc (six b d) H H' → Bo K C H' b d A' B' (N + 1) L (m + 1) → Q (.bl true) H'
theorem ok__law_sent (T : Txt K mg) : FnOk P w K mg base CX0 2 T.f__law_sent T.d__law_sent ["bag", "model", "row"] (sp__law_sent K T.C_Bag T.C_NoMessage T.C_LinkCut) := by
  refine T.F__law_sent.ok sc__law_sent (fun vs H Q E h => ?_) (fun cdv A outer s H vs Q E hr h => ?_)
  · obtain ⟨b, d, A, B, N, L, m, row, rfl, _⟩ := h
    rfl
  obtain ⟨b, d, A, B, N, L, m, row, rfl, bo, far, hm, q⟩ := h
  have c0 := T.Cls_Bag
  refine ⟨_, (pss_cons (ps_asg (pe_call (ok__law_digits T) (hr.mono (by decide)) (by rfl) T.g__law_digits T.F__law_digits.kp T.b__law_digits .nil pass0 (pa_cons (pv 2) (pa_cons (pe_lst (pa_cons (pe_int) (pa_cons (pe_int) (pa_cons (pe_int) (pa_cons (pe_int) (pa_cons (pe_op op_pow (pe_int) (pe_int)) pa_nil)))))) pa_nil))) (pg_lst rfl (pgs_cons (pg_name (i := 3) sc__law_sent.nd rfl (Or.inl rfl)) (pgs_cons (pg_name (i := 4) sc__law_sent.nd rfl (Or.inl rfl)) (pgs_cons (pg_name (i := 5) sc__law_sent.nd rfl (Or.inl rfl)) (pgs_cons (pg_name (i := 6) sc__law_sent.nd rfl (Or.inl rfl)) (pgs_cons (pg_name (i := 7) sc__law_sent.nd rfl (Or.inl rfl)) pgs_nil)))))))
      (Evl.pss_cut (ps_if (pt_cmpR op_eq (pv 5) (pe_int) (nomark _)) (pss_one (ps_set (i := 4) sc__law_sent.nd rfl (Or.inl rfl) (pv 3))) pss_nil)
      (pss_cons (ps_set (i := 8) sc__law_sent.nd rfl (Or.inl rfl) (pe_tup (pa_cons (pv 3) (pa_cons (pv 4) (pa_cons (pe_ix (Xk.k_ixL (K := K) (by rfl)) (pe_lst (pa_cons (pe_tup (pa_cons (pe_str) (pa_cons (pv 7) pa_nil))) (pa_cons (pe_non) (pa_cons (pe_tup (pa_cons (pv 3) (pa_cons (pe_tup (pa_cons (pe_str) (pa_cons (pe_tup (pa_cons (pe_un un_neg (pv 7)) pa_nil)) pa_nil))) pa_nil))) pa_nil)))) (pv 6) (fun _ _ => rfl)) pa_nil)))))
      (pss_cons (ps_set (i := 9) sc__law_sent.nd rfl (Or.inl rfl) (pe_ix (Xk.k_ixL (K := K) (by rfl)) (pv 1) (pe_int) (fun _ _ => rfl)))
      (pss_cons (ps_dput (hu_of hr) (pv 9) (pe_ix (Xk.k_ixL (K := K) (by rfl)) (pv 1) (pe_int) (fun _ _ => rfl)) (pv 8) rfl)
      (pss_cons (ps_asg (pe_op op_add (pe_ix (Xk.k_ixL (K := K) (by rfl)) (pv 1) (pe_int) (fun _ _ => rfl)) (pe_int)) (pg_sub (pv 1) (pe_int) set_list))
      (pss_cons (ps_set (i := 10) sc__law_sent.nd rfl (Or.inl rfl) (pe_meth (pv 0) T.Cls_Bag T.M_Bag_send (ok_Bag_send T) (hr.mono (by decide)) T.b_Bag_send .nil pass0 (pa_cons (pe_ix (Xk.k_ixT (K := K) (by rfl)) (pv 8) (pe_int) (fun _ _ => rfl)) (pa_cons (pe_ix (Xk.k_ixT (K := K) (by rfl)) (pv 8) (pe_int) (fun _ _ => rfl)) (pa_cons (pe_ix (Xk.k_ixT (K := K) (by rfl)) (pv 8) (pe_int) (fun _ _ => rfl)) pa_nil)))))
      (pss_one (ps_ret ((pe_and (pe_callB (Xk.k_isi (K := K) (by rfl)) (by rfl) T.m_isinstance (by decide +kernel) (pa_cons (pv 10) (pa_cons (pe_bltn (v := .ty "int") (u := .type "int") (by rfl) T.m_int (by decide +kernel) Xk.rel_ty) pa_nil))) (pe_and (pe_not (pe_callB (Xk.k_isi (K := K) (by rfl)) (by rfl) T.m_isinstance (by decide +kernel) (pa_cons (pv 10) (pa_cons (pe_bltn (v := .ty "bool") (u := .type "bool") (by rfl) T.m_bool (by decide +kernel) Xk.rel_ty) pa_nil)))) (pe_one (pe_cmpR op_eq (pv 10) (pe_op op_sub (pe_ix (Xk.k_ixL (K := K) (by rfl)) (pv 1) (pe_int) (fun _ _ => rfl)) (pe_int)) (nomark _))))))))))))))), ?_⟩
  wtm_at "x0"
  wtm_at "xs"
  intro zp H1 hzp s1 hz
  wtm_at "xs"
  refine ⟨row, zp, [47, 47, 9, 3, 1000000000000000000], rfl, Xk.sq_of hz, Nat.le_of_ble_eq_true rfl, ?_, fun p2 H2 ds hp2 s2 h2 hd hw => ?_⟩
  · intro z hz
    simp only [List.mem_cons, List.not_mem_nil, or_false] at hz
    omega
  obtain ⟨v0, v1, v2, v3, v4, rfl⟩ : ∃ a b c d e, ds = [a, b, c, d, e] := by
    match ds, hd with
    | [a, b, c, d, e], _ => exact ⟨a, b, c, d, e, rfl⟩
  have c3 := hw 3 _ _ rfl rfl
  replace h2 : H2 p2 = some (.lst [.int v0, .int v1, .int v2, .int v3, .int v4]) := h2
  clear hw hd
  wtm_at "xs"
  refine Xk.x_cut (fun σ' H' => H' = H2 ∧ ∃ r, σ' = [some (.ref b.x), some (.ref d.p), some (.int row), some (.int v0), some (.int r), some (.int v2), some (.int v3), some (.int v4), none, none, none]) ?_ ?_
  · wtm_at "xs"
    refine Xk.x_itd (fun hk0 => ?_) (fun hk0 => ?_)
    · wtm_at "xs"
      exact ⟨rfl, _, rfl⟩
    · wtm_at "xs"
      exact ⟨rfl, _, rfl⟩
  rintro σ' H' ⟨rfl, r, rfl⟩
  have s12 := s1.trans s2
  wtm_at "xs"
  intro t1 G1 ht1 u1 g1
  wtm_at "xs"
  intro t2 G2 ht2 u2 g2
  wtm_at "xs"
  intro t3 G3 ht3 u3 g3
  wtm_at "xs"
  intro t4 G4 ht4 u4 g4'
  wtm_at "xs"
  intro l5 G5 hl5 u5 g5
  have k1 : Xk.Pk K G5 4 (.ref t1) (.tuple [.str "ask", .int v4]) := (Xk.pk_tup2 (n := 0) (Xk.st_of ((u2.trans (u3.trans (u4.trans u5))) _ _ g1)) (Xk.pk_str) Xk.pk_int).mono (by decide)
  have k2 : Xk.Pk K G5 4 (.ref t2) (.tuple [.int (-v4)]) := (Xk.pk_tup1 (n := 0) (Xk.st_of ((u3.trans (u4.trans u5)) _ _ g2)) Xk.pk_int).mono (by decide)
  have k2' : Xk.Pk K G5 1 (.ref t2) (.tuple [.int (-v4)]) := (Xk.pk_tup1 (n := 0) (Xk.st_of ((u3.trans (u4.trans u5)) _ _ g2)) Xk.pk_int)
  have k3 : Xk.Pk K G5 2 (.ref t3) (.tuple [.str "x", .tuple [.int (-v4)]]) := Xk.pk_tup2 (n := 1) (Xk.st_of ((u4.trans u5) _ _ g3)) (Xk.pk_str) k2'
  have k4 : Xk.Pk K G5 4 (.ref t4) (.tuple [.int v0, .tuple [.str "x", .tuple [.int (-v4)]]]) := (Xk.pk_tup2 (n := 2) (Xk.st_of (u5 _ _ g4')) Xk.pk_int k3).mono (by decide)
  obtain ⟨bv, dd, ei, hpk⟩ : ∃ bv dd, atI [V.ref t1, V.non, V.ref t4] v3 = some bv ∧ Xk.Pk K G5 4 bv dd := by
    rcases (show v3 = 0 ∨ v3 = 1 ∨ v3 = 2 by omega) with rfl | rfl | rfl
    · exact ⟨_, _, rfl, k1⟩
    · exact ⟨_, _, rfl, Xk.pk_non⟩
    · exact ⟨_, _, rfl, k4⟩
  clear k1 k2 k2' k3 k4
  have s5 : Same H G5 := s12.trans (u1.trans (u2.trans (u3.trans (u4.trans u5))))
  clear s12 u1 u2 u3 u4 u5 g1 g2 g3 g4'
  wtm_at "xs"
  intro t6 G6 ht6 u6 g6
  have s6 := s5.trans u6
  have jd := bo.d.same s6
  have jb := bo.b.same s6
  have i1 := jd.i
  have i2 := jd.m
  have hpk6 := (hpk.same u6).mono (show 4 ≤ 5 by decide)
  have al : B.length < 9000 := by have := bo.o2.al; omega
  wtm_at "xs"
  refine Xk.x_rDPi i2 (by rw [dk_len]; omega) ?_
  rw [dk_put (fnd_none bo.o2) t6 v0 r dd]
  have n1 := jd.pm
  have nt := jd.noT
  have hms : MsAt K G6 ⟨N, t6, v0, r, dd⟩ := ⟨bv, g6, hpk6⟩
  have e3 : Exc [d.p, d.m, d.l] G6 (upd G6 d.m (.dK (dk (B ++ [⟨N, t6, v0, r, dd⟩])))) := (Exc.same (Same.refl _)).put (by simp)
  have hall : ∀ x ∈ B ++ [⟨N, t6, v0, r, dd⟩], MsAt K (upd G6 d.m (.dK (dk (B ++ [⟨N, t6, v0, r, dd⟩])))) x := mem_snoc (fun x hx => (jd.e x hx).exc e3 nt) (hms.exc e3 nt)
  have i6 : (upd G6 d.m (.dK (dk (B ++ [⟨N, t6, v0, r, dd⟩])))) d.p = some (.lst [.ref d.m, .ref d.l, .int N]) := (upd_ne n1).trans i1
  have n66 : t6 ≠ d.m := ne_ho g6 i2 (fun z => by cases z)
  have n67 : t6 ≠ d.p := ne_ho g6 i1 (fun z => by cases z)
  have g7 : (upd G6 d.m (.dK (dk (B ++ [⟨N, t6, v0, r, dd⟩])))) t6 = some (.tup [.int v0, .int r, bv]) := (upd_ne n66).trans g6
  wtm_at "xs"
  refine Xk.x_setL i6 (Xk.ixN_of (j := 2) rfl (Nat.le_refl 3)) ?_
  have e4 : Exc [d.p, d.m, d.l] (upd G6 d.m (.dK (dk (B ++ [⟨N, t6, v0, r, dd⟩])))) (upd (upd G6 d.m (.dK (dk (B ++ [⟨N, t6, v0, r, dd⟩])))) d.p (.lst [.ref d.m, .ref d.l, .int (N + 1)])) := (Exc.same (Same.refl _)).put (by simp)
  have nt4 : NoT (upd G6 d.m (.dK (dk (B ++ [⟨N, t6, v0, r, dd⟩])))) [d.p, d.m, d.l] := fun c hc => by
    simp only [List.mem_cons, List.not_mem_nil, or_false] at hc
    rcases hc with rfl | rfl | rfl
    · exact ⟨_, i6, rfl⟩
    · exact ⟨_, upd_same, rfl⟩
    · exact ⟨_, (upd_ne jd.ml.symm).trans jd.l, rfl⟩
  have j7 : MdAt K (upd (upd G6 d.m (.dK (dk (B ++ [⟨N, t6, v0, r, dd⟩])))) d.p (.lst [.ref d.m, .ref d.l, .int (N + 1)])) d (B ++ [⟨N, t6, v0, r, dd⟩]) (N + 1) L :=
    ⟨upd_same, (upd_ne n1.symm).trans upd_same, (upd_ne jd.pl.symm).trans ((upd_ne jd.ml.symm).trans jd.l), fun x hx => (hall x hx).exc e4 nt4⟩
  have g8 : (upd (upd G6 d.m (.dK (dk (B ++ [⟨N, t6, v0, r, dd⟩])))) d.p (.lst [.ref d.m, .ref d.l, .int (N + 1)])) t6 = some (.tup [.int v0, .int r, bv]) := (upd_ne n67).trans g7
  have e34 := e3.trans e4
  have eX := (Exc.same s6).trans e34
  have jb7 := jb.exc far jd e34
  have hpk7 := hpk6.st (e34.st nt)
  show tSeq _ _ _ _ (upd (upd G6 d.m (.dK (dk (B ++ [⟨N, t6, v0, r, dd⟩])))) d.p (.lst [.ref d.m, .ref d.l, .int (N + 1)]))
  generalize (upd (upd G6 d.m (.dK (dk (B ++ [⟨N, t6, v0, r, dd⟩])))) d.p (.lst [.ref d.m, .ref d.l, .int (N + 1)])) = H9 at j7 g8 e34 eX jb7 hpk7
  clear e3 e4 hall i6 nt4 g7 nt
  have k1 := jb7.i
  have al2 : A.length < 9000 := by have := bo.ok.al; omega
  wtm_at "xs"
  refine ⟨b, A, N, L, v0, r, bv, dd, rfl, jb7, fnd_none bo.ok, al2, hpk7, fun H10 a e10 jb10 => ?_⟩
  have j10 := j7.exc far jb7 e10
  have k10 := j10.i
  wtm_at "xs"
  rw [decide_eq_true (show V.int N = V.int (N + 1 - 1) from congrArg V.int (by omega))]
  exact q H10 _ _ ((eX.sup (by simp)).trans (e10.sup (by simp))) ⟨jb10, j10, gh_snoc bo.g rfl, bo.ok.snoc _ _ _ _, bo.o2.snoc _ _ _ _⟩
--CUT--
theorem lk_all (L : List Lk) : True := trivial
theorem bo_up {C : Addr} {H : Hp} {b : Bg} {d : Md} {A B : List Ms} {N : Int} {L : List Lk} {m : Nat} (h : Bo K C H b d A B N L m) : Bo K C H b d A B N L (m + 1) := ⟨h.b, h.d, h.g, h.ok.up (Nat.le_succ _), h.o2.up (Nat.le_succ _)⟩
def sp__law_linked (K : PySem.W.Frag) (C CN CL : Addr) : Sp := fun vs H Q _ => ∃ b d A B N L m row, vs = [.ref (Bg.x b), .ref (Md.p d), .int row, .ref d.m] ∧ Bo K C H b d A B N L m ∧ Far b d ∧ m < 900 ∧
  ∀ H' L', Exc (six b d) H H' → Bo K C H' b d A B N L' (m + 1) → Q (.bl true) H'
theorem ok__law_linked (T : Txt K mg) : FnOk P w K mg base CX0 2 T.f__law_linked T.d__law_linked ["bag", "model", "row", "messages"] (sp__law_linked K T.C_Bag T.C_NoMessage T.C_LinkCut) := by
  refine T.F__law_linked.ok sc__law_linked (fun vs H Q E h => ?_) (fun cdv A outer s H vs Q E hr h => ?_)
  · obtain ⟨b, d, A, B, N, L, m, row, rfl, _⟩ := h
    rfl
  obtain ⟨b, d, A, B, N, L, m, row, rfl, bo, far, hm, q⟩ := h
  have c0 := T.Cls_Bag
  refine ⟨_, (pss_cons (ps_asg (pe_call (ok__law_digits T) (hr.mono (by decide)) (by rfl) T.g__law_digits T.F__law_digits.kp T.b__law_digits .nil pass0 (pa_cons (pv 2) (pa_cons (pe_lst (pa_cons (pe_int) (pa_cons (pe_int) (pa_cons (pe_int) (pa_cons (pe_int) (pa_cons (pe_int) pa_nil)))))) pa_nil))) (pg_lst rfl (pgs_cons (pg_name (i := 4) sc__law_linked.nd rfl (Or.inl rfl)) (pgs_cons (pg_name (i := 5) sc__law_linked.nd rfl (Or.inl rfl)) (pgs_cons (pg_name (i := 6) sc__law_linked.nd rfl (Or.inl rfl)) (pgs_cons (pg_name (i := 7) sc__law_linked.nd rfl (Or.inl rfl)) (pgs_cons (pg_name (i := 8) sc__law_linked.nd rfl (Or.inl rfl)) pgs_nil)))))))
      (Evl.pss_cut (ps_if (PW.pt (pw_and (pt_cmpR op_eq (pv 7) (pe_int) (nomark _)) (pw_and1 (pt_cmpR op_gt (pe_callB call_lenD (by rfl) T.m_len PySem.boot_len (pa_cons (pv 3) pa_nil)) (pe_int) (nomark _))))) (pss_cons (ps_set (i := 9) sc__law_linked.nd rfl (Or.inl rfl) (pe_dget (hu_of hr) (pv 3) (pe_ix (Xk.k_ixL (K := K) (by rfl)) (pe_callB (Xk.k_sortDI rfl) (by rfl) T.m_sorted (by decide +kernel) (pa_cons (pv 3) pa_nil)) (pe_op op_mod (pv 8) (pe_callB call_lenD (by rfl) T.m_len PySem.boot_len (pa_cons (pv 3) pa_nil))) (fun _ _ => rfl)) (fun _ _ => rfl)))
      (pss_cons (ps_set (i := 4) sc__law_linked.nd rfl (Or.inl rfl) (pe_ix (Xk.k_ixT (K := K) (by rfl)) (pv 9) (pe_int) (fun _ _ => rfl)))
      (pss_one (ps_set (i := 5) sc__law_linked.nd rfl (Or.inl rfl) (pe_ix (Xk.k_ixT (K := K) (by rfl)) (pv 9) (pe_int) (fun _ _ => rfl)))))) pss_nil)
      (pss_cons (ps_set (i := 10) sc__law_linked.nd rfl (Or.inl rfl) (pe_ix (Xk.k_ixL (K := K) (by rfl)) (pv 1) (pe_int) (fun _ _ => rfl)))
      (Evl.pss_cut (ps_if (pt_cmpR op_gt (pv 6) (pe_int) (nomark _)) (pss_cons (ps_dput (hu_of hr) (pv 10) (pe_tup (pa_cons (pv 4) (pa_cons (pv 5) pa_nil))) (pe_bl) rfl)
      (pss_one (ps_ret (pe_cmpR Xk.op_nIsN (pe_meth (pv 0) T.Cls_Bag T.M_Bag_cut (ok_Bag_cut T) (hr.mono (by decide)) T.b_Bag_cut .nil pass0 (pa_cons (pv 4) (pa_cons (pv 5) pa_nil))) (pe_non) (nomark _))))) pss_nil)
      (pss_cons (ps_expr (pe_bm PySem.F.plainAttrs_dict PySem.F.slot_dict_pop PySem.F.type_dict_pop (L2.DX.mt_popT (hu_of hr)) (pv 10) (pa_cons (pe_tup (pa_cons (pv 4) (pa_cons (pv 5) pa_nil))) (pa_cons (pe_non) pa_nil))))
      (pss_one (ps_ret (pe_cmpR Xk.op_nIsN (pe_meth (pv 0) T.Cls_Bag T.M_Bag_heal (ok_Bag_heal T) (hr.mono (by decide)) T.b_Bag_heal .nil pass0 (pa_cons (pv 4) (pa_cons (pv 5) pa_nil))) (pe_non) (nomark _))))))))), ?_⟩
  wtm_at "x0"
  wtm_at "xs"
  intro zp H1 hzp s1 hz
  wtm_at "xs"
  refine ⟨row, zp, [47, 47, 3, 2, 1000], rfl, Xk.sq_of hz, Nat.le_of_ble_eq_true rfl, ?_, fun p2 H2 ds hp2 s2 h2 hd hw => ?_⟩
  · intro z hz
    simp only [List.mem_cons, List.not_mem_nil, or_false] at hz
    omega
  obtain ⟨v0, v1, v2, v3, v4, rfl⟩ : ∃ a b c d e, ds = [a, b, c, d, e] := by
    match ds, hd with
    | [a, b, c, d, e], _ => exact ⟨a, b, c, d, e, rfl⟩
  have c4 := hw 4 _ _ rfl rfl
  replace h2 : H2 p2 = some (.lst [.int v0, .int v1, .int v2, .int v3, .int v4]) := h2
  clear hw hd
  wtm_at "xs"
  have s12 := s1.trans s2
  have jd := bo.d.same s12
  have jb := bo.b.same s12
  have i1 := jd.i
  have i2 := jd.m
  refine Xk.x_cut (fun σ' H' => Same H H' ∧ ∃ s r y, σ' = [some (.ref b.x), some (.ref d.p), some (.int row), some (.ref d.m), some (.int s), some (.int r), some (.int v2), some (.int v3), some (.int v4), y, none]) ?_ ?_
  · wtm_at "xs"
    refine Xk.x_itd (fun hk0 => ?_) (fun hk0 => ?_)
    · wtm_at "xs"
      refine ⟨d.m, _, rfl, i2, ?_⟩
      rw [dk_len]
      wtm_at "xs"
      refine Xk.x_itd (fun hB => ?_) (fun hB => ?_)
      · wtm_at "xs"
        refine Xk.x_sortDI i2 (dk_keys B) fun p3 H3 ys q1 q2 hp3 s3 h3 => ?_
        have i3 := s3 _ _ i2
        have ly : ys.length = B.length := by rw [q1.length_eq, List.length_map]
        wtm_at "xs"
        refine ⟨d.m, _, rfl, i3, ?_⟩
        rw [dk_len]
        wtm_at "xs"
        have e0 := Int.emod_nonneg v4 (show (B.length : Int) ≠ 0 by omega)
        have e1 := Int.emod_lt_of_pos v4 (show 0 < (B.length : Int) by omega)
        obtain ⟨j, hj⟩ := Int.eq_ofNat_of_zero_le e0
        rw [hj] at e1 ⊢
        obtain ⟨n, hn⟩ := Xk.lt_at (xs := ys) (j := j) (by omega)
        refine Xk.x_ixL (Xk.sq_of h3) (Xk.at_nat rfl (Xk.map_at hn)) ?_
        have hin : n ∈ B.map (·.n) := q1.mem_iff.mp (List.mem_of_getElem? hn)
        obtain ⟨e, he⟩ : ∃ e, fnd B n = some e := by
          cases z : fnd B n with
          | some e => exact ⟨e, rfl⟩
          | none =>
            obtain ⟨e, he, hen⟩ := List.mem_map.mp hin
            unfold fnd at z
            exact absurd (decide_eq_true hen) (List.find?_eq_none.mp z e he)
        refine Xk.x_rDGi i3 (by rw [dk_val, he]; rfl) ?_
        obtain ⟨bv, g1, g2⟩ := (jd.same s3).e e (fnd_mem he).1
        wtm_at "xs"
        exact ⟨s12.trans s3, _, _, _, rfl⟩
      · wtm_at "xs"
        exact ⟨s12, _, _, _, rfl⟩
    · wtm_at "xs"
      exact ⟨s12, _, _, _, rfl⟩
  clear h2 i1 i2 jd jb s12 s2 s1 hz
  rintro σ' H3 ⟨s3, s0, r0, y, rfl⟩
  have jd := bo.d.same s3
  have jb := bo.b.same s3
  have i1 := jd.i
  have i3 := jd.l
  have ll : L.length < 1000 := by have := bo.ok.ll; omega
  wtm_at "xs"
  refine Xk.x_nocut ?_
  wtm_at "xs"
  refine Xk.x_itd (fun hk0 => ?_) (fun hk0 => ?_)
  · wtm_at "xs"
    intro p H4 hp s4 h4
    have jd4 := jd.same s4
    refine Xk.x_rDPt (k := lkk (s0, r0)) jd4.l h4 (by rw [lk_len]; omega) ?_
    rw [lk_put]
    have e2 : Exc [d.p, d.m, d.l] H4 (upd H4 d.l (.dT (lk (add L (s0, r0))))) := (Exc.same (Same.refl _)).put (by simp)
    have j5 : MdAt K (upd H4 d.l (.dT (lk (add L (s0, r0))))) d B N (add L (s0, r0)) := ⟨(upd_ne jd4.pl).trans jd4.i, (upd_ne jd4.ml).trans jd4.m, upd_same, fun x hx => (jd4.e x hx).exc e2 jd4.noT⟩
    have jb5 := (jb.same s4).exc far jd4 e2
    have k1 := jb5.i
    have eX := (Exc.same (S := [d.p, d.m, d.l]) (s3.trans s4)).trans e2
    generalize (upd H4 d.l (.dT (lk (add L (s0, r0))))) = H5 at j5 jb5 k1 eX
    wtm_at "xs"
    refine ⟨b, A, N, L, s0, r0, rfl, jb5, ll, fun H6 e6 jb6 => ?_⟩
    wtm_at "xs"
    exact q H6 _ ((eX.sup (by simp)).trans (e6.sup (by simp))) ⟨jb6, j5.exc far jb5 e6, bo.g, bo.ok.add _, bo.o2.add _⟩
  · wtm_at "xs"
    intro p H4 hp s4 h4
    have jd4 := jd.same s4
    have i4 := jd4.l
    wtm_at "xs"
    have key : ∀ H5, Exc [d.p, d.m, d.l] H H5 → MdAt K H5 d B N (sub L (s0, r0)) → BgAt K T.C_Bag H5 b A N L → tRet (tOp Xk.nIsN (tMeth T.C_Bag "heal" (sp_Bag_heal K T.C_Bag T.C_NoMessage T.C_LinkCut) [] E0 (tVar 0) (tCons (tVar 4) (tCons (tVar 5) tNil))) (tC V.non)) { nx := fun _ H' => Q V.non H', rt := Q }
        [some (V.ref b.x), some (V.ref d.p), some (V.int row), some (V.ref d.m), some (V.int s0), some (V.int r0), some (V.int v2), some (V.int v3), some (V.int v4), y, some (V.ref d.l)] H5 := by
      intro H5 eX j5 jb5
      have k1 := jb5.i
      wtm_at "xs"
      refine ⟨b, A, N, L, s0, r0, rfl, jb5, fun H6 e6 jb6 => ?_⟩
      wtm_at "xs"
      exact q H6 _ ((eX.sup (by simp)).trans (e6.sup (by simp))) ⟨jb6, j5.exc far jb5 e6, bo.g, bo.ok.sub _, bo.o2.sub _⟩
    have eS : Exc [d.p, d.m, d.l] H H4 := Exc.same (s3.trans s4)
    refine Xk.x_popT (k := lkk (s0, r0)) i4 h4 (fun v hv => ?_) fun hv => ?_
    · rw [lk_drop]
      have e2 : Exc [d.p, d.m, d.l] H4 (upd H4 d.l (.dT (lk (sub L (s0, r0))))) := (Exc.same (Same.refl _)).put (by simp)
      exact key _ (eS.trans e2) ⟨(upd_ne jd4.pl).trans jd4.i, (upd_ne jd4.ml).trans jd4.m, upd_same, fun x hx => (jd4.e x hx).exc e2 jd4.noT⟩ ((jb.same s4).exc far jd4 e2)
    · have ho : (s0, r0) ∉ L := fun z => by
        rw [lk_val, if_pos z] at hv
        cases hv
      refine key _ eS ?_ (jb.same s4)
      rw [sub_out ho]
      exact jd4
--CUT--
theorem dk_at {A : List Ms} {i : Nat} {k : L2.Key} {v : V} (h : (dk A)[i]? = some (k, v)) : ∃ e, A[i]? = some e ∧ k = Sum.inl e.n ∧ v = .ref e.a := by
  unfold dk at h
  rw [List.getElem?_map] at h
  obtain ⟨p, h1, h2⟩ := Option.map_eq_some_iff.mp h
  cases h2
  exact ⟨p, h1, rfl, rfl⟩
theorem fnd_at {A : List Ms} {i : Nat} {e : Ms} (nd : (A.map (·.n)).Nodup) (h : A[i]? = some e) : fnd A e.n = some e ∧ fnd (A.take i) e.n = none := by
  induction A generalizing i with
  | nil => cases h
  | cons a A ih =>
    rw [List.map_cons, List.nodup_cons] at nd
    cases i with
    | zero =>
      have : a = e := Option.some.inj h
      subst this
      exact ⟨by unfold fnd; rw [List.find?_cons, decide_eq_true rfl], rfl⟩
    | succ i =>
      have h' : A[i]? = some e := h
      obtain ⟨h1, h2⟩ := ih nd.2 h'
      have hne : a.n ≠ e.n := fun z => nd.1 (z ▸ List.mem_map_of_mem (List.mem_of_getElem? h'))
      unfold fnd at *
      rw [List.take_succ_cons, List.find?_cons, List.find?_cons, decide_eq_false hne]
      exact ⟨h1, h2⟩
theorem dk_next {A : List Ms} {i : Nat} {e : Ms} (nd : (A.map (·.n)).Nodup) (h : A[i]? = some e) : putK (dk (A.take i)) (Sum.inl e.n) (V.ref e.a) = dk (A.take (i + 1)) := by
  rw [dk_put (fnd_at nd h).2 e.a e.s e.r e.d, List.take_add_one, h]
  rfl
def sp__law_twin (K : PySem.W.Frag) : Sp := fun vs H Q _ => ∃ b A N L m, vs = [.ref (Md.p b)] ∧ MdAt K H b A N L ∧ Ok A N L m ∧ m < 900 ∧ ∀ d H', Same H H' → Xk.Fr (Md.p d) H → Xk.Fr d.m H → Xk.Fr d.l H → MdAt K H' d A N L → Q (.ref d.p) H'
theorem ok__law_twin (T : Txt K mg) : FnOk P w K mg base CX0 1 T.f__law_twin T.d__law_twin ["model"] (sp__law_twin K) := by
  refine T.F__law_twin.ok sc__law_twin (fun vs H Q E h => ?_) (fun cdv A outer s H vs Q E hr h => ?_)
  · obtain ⟨b, A, N, L, m, rfl, _⟩ := h
    rfl
  obtain ⟨b, A, N, L, m, rfl, j, ok, hm, q⟩ := h
  have j1 := j.i
  refine ⟨_, (pss_cons (ps_set (i := 1) sc__law_twin.nd rfl (Or.inl rfl) (pe_dnewK))
      (pss_cons (ps_lock (ps_for PassesOwn.never rfl (pi_keys (pe_ix (Xk.k_ixL (K := K) (by rfl)) (pv 0) (pe_int) (fun _ _ => rfl))) (pg_name (i := 2) sc__law_twin.nd rfl (Or.inl rfl)) (pss_one (ps_dput (hu_of hr) (pv 1) (pv 2) (pe_dget (hu_of hr) (pe_ix (Xk.k_ixL (K := K) (by rfl)) (pv 0) (pe_int) (fun _ _ => rfl)) (pv 2) (fun _ _ => rfl)) rfl))))
      (pss_cons (ps_set (i := 3) sc__law_twin.nd rfl (Or.inl rfl) (pe_dnewT))
      (pss_cons (ps_lock (ps_for PassesOwn.never rfl (pi_keys (pe_ix (Xk.k_ixL (K := K) (by rfl)) (pv 0) (pe_int) (fun _ _ => rfl))) (pg_name (i := 4) sc__law_twin.nd rfl (Or.inl rfl)) (pss_one (ps_dput (hu_of hr) (pv 3) (pv 4) (pe_bl) rfl))))
      (pss_one (ps_ret (pe_lst (pa_cons (pv 1) (pa_cons (pv 3) (pa_cons (pe_ix (Xk.k_ixL (K := K) (by rfl)) (pv 0) (pe_int) (fun _ _ => rfl)) pa_nil)))))))))), ?_⟩
  wtm_at "x0"
  wtm_at "xs"
  intro m1 H1 hm1 s1 h1
  have i1 := s1 _ _ j1
  have i2 := s1 _ _ j.m
  have i3 := s1 _ _ j.l
  have n1 : m1 ≠ b.m := (Xk.ne_new hm1 j.m).symm
  have n2 : b.p ≠ b.m := j.pm
  have n3 : m1 ≠ b.p := (Xk.ne_new hm1 j1).symm
  wtm_at "xs"
  refine Xk.x_lockK i2 fun od H0 e0 => ?_
  have f2 : H0 b.m = some (.frz od (.dK (dk A))) := by rw [e0]; exact upd_same
  have f1 : H0 b.p = some (.lst [.ref b.m, .ref b.l, .int N]) := by rw [e0]; exact (upd_ne n2).trans i1
  have f4 : H0 m1 = some (.dK []) := by rw [e0]; exact (upd_ne n1).trans h1
  refine ⟨fun i σ' h => (∃ y, σ' = [some (.ref b.p), some (.ref m1), y, none, none]) ∧ h m1 = some (.dK (dk (A.take i))) ∧ ∀ c o, c ≠ m1 → H0 c = some o → h c = some o, fun R hR => ?_, ⟨⟨_, rfl⟩, f4, fun _ _ _ e => e⟩, fun i σ' h p => p.2.2 _ _ (Ne.symm n1) f2, fun i k v σ' h E e1 p => ?_, fun σ' h p => ?_⟩
  · wtm_at "xs"
    exact hR
  · obtain ⟨⟨y, rfl⟩, p2, p3⟩ := p
    obtain ⟨e, he, rfl, rfl⟩ := dk_at e1
    have k1 := p3 _ _ (Ne.symm n3) f1
    have k2 := p3 _ _ (Ne.symm n1) f2
    wtm_at "xs"
    refine ⟨b.m, V.ref e.a, rfl, .inl ⟨dk A, Sum.inl e.n, .inr ⟨od, k2⟩, rfl, ?_⟩, ?_⟩
    · rw [dk_val, (fnd_at ok.nd he).1]
      rfl
    wtm_at "xs"
    have il := Xk.at_lt he
    have al := ok.al
    refine Xk.x_rDPi p2 (by rw [dk_len, List.length_take]; omega) ?_
    rw [dk_next ok.nd he]
    exact ⟨⟨_, rfl⟩, upd_same, fun c o n z => (upd_ne n).trans (p3 c o n z)⟩
  · obtain ⟨⟨y, rfl⟩, p2, p3⟩ := p
    rw [dk_len, List.take_length] at p2
    have g2 : upd h b.m (.dK (dk A)) m1 = some (.dK (dk A)) := (upd_ne n1).trans p2
    have all : ∀ c o, c ≠ m1 → H1 c = some o → upd h b.m (.dK (dk A)) c = some o := fun c o n z => by
      by_cases w : c = b.m
      · subst w
        rw [upd_same, ← z, i2]
      · exact (upd_ne w).trans (p3 _ _ n (by rw [e0]; exact (upd_ne w).trans z))
    have sH : Same H (upd h b.m (.dK (dk A))) := fun c o z => all _ _ (Xk.ne_new hm1 z) (s1 _ _ z)
    have nb : ∀ c, Xk.Fr c (upd h b.m (.dK (dk A))) → Xk.Fr c H := fun c z => Xk.free_back z sH
    generalize upd h b.m (.dK (dk A)) = H3 at g2 all sH nb
    clear p2 p3 f1 f2 f4 e0 H0 h
    have k1 := sH _ _ j1
    have k3 := sH _ _ j.l
    wtm_at "xs"
    intro l1 H4 hl1 s4 h4
    have r1 := s4 _ _ k1
    have r3 := s4 _ _ k3
    have n4 : l1 ≠ b.l := (Xk.ne_new hl1 k3).symm
    have n5 : l1 ≠ b.p := (Xk.ne_new hl1 k1).symm
    have n6 : b.p ≠ b.l := j.pl
    wtm_at "xs"
    refine Xk.x_lockT r3 fun od2 H0 e0 => ?_
    have f2 : H0 b.l = some (.frz od2 (.dT (lk L))) := by rw [e0]; exact upd_same
    have f1 : H0 b.p = some (.lst [.ref b.m, .ref b.l, .int N]) := by rw [e0]; exact (upd_ne n6).trans r1
    have f4 : H0 l1 = some (.dT []) := by rw [e0]; exact (upd_ne n4).trans h4
    refine ⟨fun i σ' h => (∃ y', σ' = [some (.ref b.p), some (.ref m1), y, some (.ref l1), y']) ∧ h l1 = some (.dT (lk (L.take i))) ∧ ∀ c o, c ≠ l1 → H0 c = some o → h c = some o, fun R hR => ?_, ⟨⟨_, rfl⟩, f4, fun _ _ _ e => e⟩, fun i σ' h p => p.2.2 _ _ (Ne.symm n4) f2, fun i k v p0 σ' h E e1 e2 p => ?_, fun σ' h p => ?_⟩
    · wtm_at "xs"
      exact hR
    · obtain ⟨⟨y', rfl⟩, p2, p3⟩ := p
      obtain ⟨e, he, rfl, rfl⟩ := lk_at e1
      wtm_at "xs"
      have il := Xk.at_lt he
      have al := ok.ll
      refine Xk.x_rDPt p2 e2 (by rw [lk_len, List.length_take]; omega) ?_
      rw [lk_put, lk_next ok.lnd he]
      exact ⟨⟨_, rfl⟩, upd_same, fun c o n z => (upd_ne n).trans (p3 c o n z)⟩
    · obtain ⟨⟨y', rfl⟩, p2, p3⟩ := p
      rw [lk_len, List.take_length] at p2
      have g4 : upd h b.l (.dT (lk L)) l1 = some (.dT (lk L)) := (upd_ne n4).trans p2
      have all4 : ∀ c o, c ≠ l1 → H4 c = some o → upd h b.l (.dT (lk L)) c = some o := fun c o n z => by
        by_cases w : c = b.l
        · subst w
          rw [upd_same, ← z, r3]
        · exact (upd_ne w).trans (p3 _ _ n (by rw [e0]; exact (upd_ne w).trans z))
      have sH4 : Same H3 (upd h b.l (.dT (lk L))) := fun c o z => all4 _ _ (Xk.ne_new hl1 z) (s4 _ _ z)
      generalize upd h b.l (.dT (lk L)) = H5 at g4 all4 sH4
      have k5 := sH4 _ _ k1
      wtm_at "xs"
      intro p9 H9 hp9 s9 h9
      have s39 := sH.trans (sH4.trans s9)
      refine q ⟨p9, m1, l1⟩ H9 s39 (Xk.free_back hp9 (sH.trans sH4)) hm1 (nb _ hl1) ⟨h9, (sH4.trans s9) _ _ g2, s9 _ _ g4, fun x hx => (j.e x hx).same s39⟩
--CUT--
structure Zn where
  b : Bg
  d : Md
  A : List Ms
  B : List Ms
  N : Int
  L : List Lk
abbrev Zn.six (z : Zn) : List Addr := K13.six z.b z.d
/-- bags and their models -/
structure Wo (K : PySem.W.Frag) (C : Addr) (H1 H : Hp) (bl ml : Addr) (Z : List Zn) (m : Nat) (ρ : Addr → Nat) : Prop where
  sm : Same H1 H
  hb : H bl = some (.lst (Z.map fun z => V.ref z.b.x))
  hd : H ml = some (.lst (Z.map fun z => V.ref z.d.p))
  fb : Xk.Fr bl H1
  fd : Xk.Fr ml H1
  rb : ρ bl = 0
  rd : ρ ml = 1
  at_ : ∀ i z, Z[i]? = some z → Bo K C H z.b z.d z.A z.B z.N z.L m ∧ (∀ c ∈ z.six, Xk.Fr c H1) ∧ ∀ k c, z.six[k]? = some c → ρ c = 6 * i + k + 2
section
variable {C : Addr} {H1 H H' : Hp} {bl ml : Addr} {Z : List Zn} {m : Nat} {ρ : Addr → Nat}
theorem Bo.same {b : Bg} {d : Md} {A B : List Ms} {N : Int} {L : List Lk} (h : Bo K C H b d A B N L m) (s : Same H H') : Bo K C H' b d A B N L m := ⟨h.b.same s, h.d.same s, h.g, h.ok, h.o2⟩
theorem Bo.noT {b : Bg} {d : Md} {A B : List Ms} {N : Int} {L : List Lk} (h : Bo K C H b d A B N L m) : NoT H (six b d) := fun c hc => by
  simp only [six, List.mem_cons, List.not_mem_nil, or_false] at hc
  rcases hc with rfl | rfl | rfl | rfl | rfl | rfl
  · exact ⟨_, h.b.i, rfl⟩
  · exact ⟨_, h.b.m, rfl⟩
  · exact ⟨_, h.b.l, rfl⟩
  · exact ⟨_, h.d.i, rfl⟩
  · exact ⟨_, h.d.m, rfl⟩
  · exact ⟨_, h.d.l, rfl⟩
theorem Bo.stay {b : Bg} {d : Md} {A B : List Ms} {N : Int} {L : List Lk} (h : Bo K C H b d A B N L m) {S : List Addr} (e : Exc S H H') (n : NoT H S) (f : ∀ c ∈ six b d, c ∉ S) : Bo K C H' b d A B N L m :=
  ⟨⟨e _ _ (f _ (by simp)) h.b.i, e _ _ (f _ (by simp)) h.b.m, e _ _ (f _ (by simp)) h.b.l, fun x hx => (h.b.e x hx).exc e n⟩,
    ⟨e _ _ (f _ (by simp)) h.d.i, e _ _ (f _ (by simp)) h.d.m, e _ _ (f _ (by simp)) h.d.l, fun x hx => (h.d.e x hx).exc e n⟩, h.g, h.ok, h.o2⟩
theorem Wo.same (W : Wo K C H1 H bl ml Z m ρ) (s : Same H H') : Wo K C H1 H' bl ml Z m ρ := ⟨W.sm.trans s, s _ _ W.hb, s _ _ W.hd, W.fb, W.fd, W.rb, W.rd, fun i z hz => ⟨(W.at_ i z hz).1.same s, (W.at_ i z hz).2⟩⟩
theorem Wo.up (W : Wo K C H1 H bl ml Z m ρ) : Wo K C H1 H bl ml Z (m + 1) ρ := ⟨W.sm, W.hb, W.hd, W.fb, W.fd, W.rb, W.rd, fun i z hz => ⟨bo_up (W.at_ i z hz).1, (W.at_ i z hz).2⟩⟩
theorem Wo.far (W : Wo K C H1 H bl ml Z m ρ) {i : Nat} {z : Zn} (hz : Z[i]? = some z) : Far z.b z.d := ⟨fun c h1 h2 => by
  have hr := (W.at_ i z hz).2.2
  have e1 : ρ c = 6 * i + 2 ∨ ρ c = 6 * i + 3 ∨ ρ c = 6 * i + 4 := by
    simp only [List.mem_cons, List.not_mem_nil, or_false] at h1
    rcases h1 with rfl | rfl | rfl
    · exact .inl (hr 0 _ rfl)
    · exact .inr (.inl (hr 1 _ rfl))
    · exact .inr (.inr (hr 2 _ rfl))
  have e2 : ρ c = 6 * i + 5 ∨ ρ c = 6 * i + 6 ∨ ρ c = 6 * i + 7 := by
    simp only [List.mem_cons, List.not_mem_nil, or_false] at h2
    rcases h2 with rfl | rfl | rfl
    · exact .inl (hr 3 _ rfl)
    · exact .inr (.inl (hr 4 _ rfl))
    · exact .inr (.inr (hr 5 _ rfl))
  omega⟩
theorem Wo.rng (W : Wo K C H1 H bl ml Z m ρ) {i : Nat} {z : Zn} (hz : Z[i]? = some z) {c : Addr} (h : c ∈ z.six) : 6 * i + 2 ≤ ρ c ∧ ρ c < 6 * i + 8 := by
  obtain ⟨k, hk, e⟩ := List.getElem_of_mem h
  have := (W.at_ i z hz).2.2 k c (by rw [List.getElem?_eq_getElem hk, e])
  have hk2 : k < 6 := hk
  omega
theorem Wo.step (W : Wo K C H1 H bl ml Z m ρ) {i : Nat} {z : Zn} (hz : Z[i]? = some z) {A B : List Ms} {N : Int} {L : List Lk} (e : Exc z.six H H') (bo : Bo K C H' z.b z.d A B N L (m + 1)) :
    Wo K C H1 H' bl ml (Z.set i { z with A := A, B := B, N := N, L := L }) (m + 1) ρ := by
  obtain ⟨g1, g2, g3⟩ := W.at_ i z hz
  have hil := Xk.at_lt hz
  have set_same : ∀ f : Zn → V, f { z with A := A, B := B, N := N, L := L } = f z → (Z.set i { z with A := A, B := B, N := N, L := L }).map f = Z.map f := fun f hf => by
    rw [List.map_set, hf]
    have h0 : (Z.map f)[i]? = some (f z) := Xk.map_at hz
    obtain ⟨hi, he⟩ := List.getElem?_eq_some_iff.mp h0
    rw [← he, List.set_getElem_self]
  have nb : bl ∉ z.six := fun h => by have := W.rng hz h; rw [W.rb] at this; omega
  have nd : ml ∉ z.six := fun h => by have := W.rng hz h; rw [W.rd] at this; omega
  refine ⟨fun c o h => e c o (fun hc => ?_) (W.sm c o h), by rw [set_same _ rfl]; exact e _ _ nb W.hb, by rw [set_same _ rfl]; exact e _ _ nd W.hd, W.fb, W.fd, W.rb, W.rd, fun j y hy => ?_⟩
  · have := (g2 c hc).is
    rw [h] at this
    cases this
  by_cases hj : i = j
  · subst hj
    rw [List.getElem?_set_self hil] at hy
    cases (show ({ z with A := A, B := B, N := N, L := L } : Zn) = y from Option.some.inj hy)
    exact ⟨bo, g2, g3⟩
  · rw [List.getElem?_set_ne hj] at hy
    obtain ⟨k1, k2, k3⟩ := W.at_ j y hy
    refine ⟨bo_up (k1.stay e g1.noT fun c hc hc2 => ?_), k2, k3⟩
    have r1 := W.rng hz hc2
    have r2 := W.rng hy hc
    omega
theorem Wo.add (W : Wo K C H1 H bl ml Z m ρ) {z : Zn} (e : Exc [bl, ml] H H') (hb : H' bl = some (.lst (Z.map (fun z => V.ref z.b.x) ++ [V.ref z.b.x]))) (hd : H' ml = some (.lst (Z.map (fun z => V.ref z.d.p) ++ [V.ref z.d.p])))
    (bo : Bo K C H' z.b z.d z.A z.B z.N z.L m) (fr : ∀ c ∈ z.six, Xk.Fr c H) (nd : z.six.Nodup) : ∃ ρ', Wo K C H1 H' bl ml (Z ++ [z]) m ρ' := by
  have nt : NoT H [bl, ml] := fun c hc => by
    simp only [List.mem_cons, List.not_mem_nil, or_false] at hc
    rcases hc with rfl | rfl
    · exact ⟨_, W.hb, rfl⟩
    · exact ⟨_, W.hd, rfl⟩
  have occ : ∀ c o, H c = some o → c ∉ z.six := fun c o h hc => by
    have := (fr c hc).is
    rw [h] at this
    cases this
  have old : ∀ c, c ∉ z.six → (if c ∈ z.six then 6 * Z.length + z.six.idxOf c + 2 else ρ c) = ρ c := fun c h => if_neg h
  refine ⟨fun c => if c ∈ z.six then 6 * Z.length + z.six.idxOf c + 2 else ρ c, fun c o h => e c o (fun hc => ?_) (W.sm c o h), by rw [hb, List.map_append]; rfl, by rw [hd, List.map_append]; rfl, W.fb, W.fd, (old _ (occ _ _ W.hb)).trans W.rb, (old _ (occ _ _ W.hd)).trans W.rd, fun i y hy => ?_⟩
  · simp only [List.mem_cons, List.not_mem_nil, or_false] at hc
    rcases hc with rfl | rfl
    · have := W.fb.is
      rw [h] at this
      cases this
    · have := W.fd.is
      rw [h] at this
      cases this
  by_cases hi : i < Z.length
  · rw [List.getElem?_append_left hi] at hy
    obtain ⟨k1, k2, k3⟩ := W.at_ i y hy
    refine ⟨k1.stay e nt fun c hc hc2 => ?_, k2, fun k c hk => ?_⟩
    · have r := W.rng hy hc
      simp only [List.mem_cons, List.not_mem_nil, or_false] at hc2
      rcases hc2 with rfl | rfl
      · rw [W.rb] at r
        omega
      · rw [W.rd] at r
        omega
    · obtain ⟨o, ho, _⟩ := k1.noT c (List.mem_of_getElem? hk)
      exact (old c (occ c o ho)).trans (k3 k c hk)
  · rw [List.getElem?_append_right (by omega)] at hy
    have hi2 : i = Z.length := by
      have := Xk.at_lt hy
      simp only [List.length_singleton] at this
      omega
    subst hi2
    rw [Nat.sub_self] at hy
    cases (show z = y from Option.some.inj hy)
    refine ⟨bo, fun c hc => Xk.free_back (fr c hc) W.sm, fun k c hk => ?_⟩
    have hm := List.mem_of_getElem? hk
    obtain ⟨hkl, he⟩ := List.getElem?_eq_some_iff.mp hk
    show (if c ∈ z.six then _ else _) = _
    rw [if_pos hm, ← he, List.Nodup.idxOf_getElem nd]
end
--CUT--
theorem Wo.one {C : Addr} {H1 H : Hp} {bl ml : Addr} {z : Zn} {m : Nat} (sm : Same H1 H) (hb : H bl = some (.lst [V.ref z.b.x])) (hd : H ml = some (.lst [V.ref z.d.p])) (fb : Xk.Fr bl H1) (fd : Xk.Fr ml H1) (n : bl ≠ ml)
    (bo : Bo K C H z.b z.d z.A z.B z.N z.L m) (fr : ∀ c ∈ z.six, Xk.Fr c H1) (nd : z.six.Nodup) (nb : bl ∉ z.six) (nm : ml ∉ z.six) : ∃ ρ, Wo K C H1 H bl ml [z] m ρ := by
  refine ⟨fun c => if c ∈ z.six then z.six.idxOf c + 2 else if c = ml then 1 else 0, sm, hb, hd, fb, fd, (if_neg nb).trans (if_neg n), (if_neg nm).trans (if_pos rfl), fun i y hy => ?_⟩
  match i, hy with
  | 0, hy =>
    cases (show z = y from Option.some.inj hy)
    refine ⟨bo, fr, fun k c hk => ?_⟩
    have hm := List.mem_of_getElem? hk
    obtain ⟨hkl, he⟩ := List.getElem?_eq_some_iff.mp hk
    show (if c ∈ z.six then _ else _) = _
    rw [if_pos hm, ← he, List.Nodup.idxOf_getElem nd]
    omega
theorem ok_nil : Ok [] 0 [] 0 := ⟨List.nodup_nil, fun _ h => absurd h List.not_mem_nil, Int.le_refl 0, Nat.le_refl 0, List.nodup_nil, Nat.le_refl 0⟩
theorem six_nodup {x m l p n k : Addr} (h1 : x ≠ m) (h2 : x ≠ l) (h3 : m ≠ l) (h4 : p ≠ n) (h5 : p ≠ k) (h6 : n ≠ k) (f : ∀ c ∈ [x, m, l], c ≠ p ∧ c ≠ n ∧ c ≠ k) : [x, m, l, p, n, k].Nodup := by
  have a := f x (by simp)
  have b := f m (by simp)
  have c := f l (by simp)
  simp only [List.nodup_cons, List.mem_cons, List.not_mem_nil, or_false, not_or, List.nodup_nil, and_true, not_false_eq_true]
  exact ⟨⟨h1, h2, a.1, a.2.1, a.2.2⟩, ⟨h3, b.1, b.2.1, b.2.2⟩, ⟨c.1, c.2.1, c.2.2⟩, ⟨h4, h5⟩, h6⟩
def sp_law (K : PySem.W.Frag) : Sp := fun vs H Q _ => ∃ (a : Addr) (ns : List Int), vs = [.ref a] ∧ SqL K H a (ns.map V.int) ∧ ns.length ≤ 63 ∧ ∀ H', Q (.bl true) H'
theorem ok_law (T : Txt K mg) : FnOk P w K mg base CX0 5 T.f_law T.d_law ["script"] (sp_law K) := by
  refine T.F_law.ok sc_law (fun vs H Q E h => ?_) (fun cdv A outer s H vs Q E hr h => ?_)
  · obtain ⟨a, ns, rfl, _⟩ := h
    rfl
  obtain ⟨a, ns, rfl, hS, hl, q⟩ := h
  have c0 := T.Cls_Bag
  refine ⟨_, (pss_cons (ps_asg (pe_call (ok__law_digits T) (hr.mono (by decide)) (by rfl) T.g__law_digits T.F__law_digits.kp T.b__law_digits .nil pass0 (pa_cons (pe_call (ok__law_row T) (hr.mono (by decide)) (by rfl) T.g__law_row T.F__law_row.kp T.b__law_row .nil pass0 (pa_cons (pv 0) (pa_cons (pe_int) pa_nil))) (pa_cons (pe_lst (pa_cons (pe_int) (pa_cons (pe_int) pa_nil))) pa_nil))) (pg_lst rfl (pgs_cons (pg_name (i := 1) sc_law.nd rfl (Or.inl rfl)) (pgs_cons (pg_name (i := 2) sc_law.nd rfl (Or.inl rfl)) pgs_nil))))
      (pss_cons (ps_set (i := 3) sc_law.nd rfl (Or.inl rfl) (pe_lst (pa_cons (pe_make0 T.Mk_Bag (ok_Bag___init__ T) (hr.mono (by decide)) (by rfl) T.g_Bag T.b_Bag___init__ .nil pass0) pa_nil)))
      (pss_cons (ps_set (i := 4) sc_law.nd rfl (Or.inl rfl) (pe_lst (pa_cons (pe_lst (pa_cons (pe_dnewK) (pa_cons (pe_dnewT) (pa_cons pe_int pa_nil)))) pa_nil)))
      (pss_cons (ps_for PassesOwn.never rfl (pi_range1 (by rfl) T.m_range (pa_cons (pe_op op_mul (pv 2) (pe_callTy Xk.call_nInt (by rfl) T.m_int (by decide +kernel) (pa_cons (pe_cmpR op_eq (pv 1) (pe_int) (nomark _)) pa_nil))) pa_nil)) (pg_name (i := 5) sc_law.nd rfl (Or.inl rfl)) (pss_one (ps_if (pt_not (pt_val (pe_call (ok__law_sent T) (hr.mono (by decide)) (by rfl) T.g__law_sent T.F__law_sent.kp T.b__law_sent .nil pass0 (pa_cons (pe_ix (Xk.k_ixL (K := K) (by rfl)) (pv 3) (pe_int) (fun _ _ => rfl)) (pa_cons (pe_ix (Xk.k_ixL (K := K) (by rfl)) (pv 4) (pe_int) (fun _ _ => rfl)) (pa_cons (pe_op op_add (pe_call (ok__law_row T) (hr.mono (by decide)) (by rfl) T.g__law_row T.F__law_row.kp T.b__law_row .nil pass0 (pa_cons (pv 0) (pa_cons (pe_int) pa_nil))) (pe_op op_mul (pv 5) (pe_int))) pa_nil)))))) (pss_one (ps_ret (pe_bl))) pss_nil)))
      (pss_cons (ps_for PassesOwn.never rfl (pi_range1 (by rfl) T.m_range (pa_cons (pe_int) pa_nil)) (pg_name (i := 5) sc_law.nd rfl (Or.inl rfl)) (pss_cons (ps_asg (pe_call (ok__law_digits T) (hr.mono (by decide)) (by rfl) T.g__law_digits T.F__law_digits.kp T.b__law_digits .nil pass0 (pa_cons (pe_call (ok__law_row T) (hr.mono (by decide)) (by rfl) T.g__law_row T.F__law_row.kp T.b__law_row .nil pass0 (pa_cons (pv 0) (pa_cons (pe_op op_add (pe_int) (pv 5)) pa_nil))) (pa_cons (pe_lst (pa_cons (pe_int) (pa_cons (pe_int) (pa_cons (pe_int) (pa_cons (pe_int) pa_nil))))) pa_nil))) (pg_lst rfl (pgs_cons (pg_name (i := 6) sc_law.nd rfl (Or.inl rfl)) (pgs_cons (pg_name (i := 7) sc_law.nd rfl (Or.inl rfl)) (pgs_cons (pg_name (i := 8) sc_law.nd rfl (Or.inl rfl)) (pgs_cons (pg_name (i := 9) sc_law.nd rfl (Or.inl rfl)) pgs_nil))))))
      (pss_cons (ps_set (i := 6) sc_law.nd rfl (Or.inl rfl) (pe_op op_mod (pv 6) (pe_callB (Xk.k_len (K := K) (by rfl)) (by rfl) T.m_len PySem.boot_len (pa_cons (pv 3) pa_nil))))
      (Evl.pss_cut (ps_if (pt_cmpR op_eq (pv 8) (pe_int) (nomark _)) (pss_cons (ps_expr (pe_bm PySem.F.plainAttrs_list PySem.F.slot_list_append PySem.F.type_list_append mt_append (pv 3) (pa_cons (pe_meth0 (pe_ix (Xk.k_ixL (K := K) (by rfl)) (pv 3) (pv 6) (fun _ _ => rfl)) T.Cls_Bag T.M_Bag_fork (ok_Bag_fork T) (hr.mono (by decide)) T.b_Bag_fork .nil pass0) pa_nil)))
      (pss_one (ps_expr (pe_bm PySem.F.plainAttrs_list PySem.F.slot_list_append PySem.F.type_list_append mt_append (pv 4) (pa_cons (pe_call (ok__law_twin T) (hr.mono (by decide)) (by rfl) T.g__law_twin T.F__law_twin.kp T.b__law_twin .nil pass0 (pa_cons (pe_ix (Xk.k_ixL (K := K) (by rfl)) (pv 4) (pv 6) (fun _ _ => rfl)) pa_nil)) pa_nil))))) pss_nil)
      (pss_cons (ps_set (i := 10) sc_law.nd rfl (Or.inl rfl) (pe_call (ok__law_row T) (hr.mono (by decide)) (by rfl) T.g__law_row T.F__law_row.kp T.b__law_row .nil pass0 (pa_cons (pv 0) (pa_cons (pe_op op_add (pe_int) (pv 5)) pa_nil))))
      (pss_cons (ps_set (i := 11) sc_law.nd rfl (Or.inl rfl) (pe_ix (Xk.k_ixL (K := K) (by rfl)) (pv 4) (pv 6) (fun _ _ => rfl)))
      (Evl.pss_cut (ps_if (pt_cmpR op_lt (pv 7) (pe_int) (nomark _)) (pss_one (ps_if (pt_not (pt_val (pe_call (ok__law_sent T) (hr.mono (by decide)) (by rfl) T.g__law_sent T.F__law_sent.kp T.b__law_sent .nil pass0 (pa_cons (pe_ix (Xk.k_ixL (K := K) (by rfl)) (pv 3) (pv 6) (fun _ _ => rfl)) (pa_cons (pv 11) (pa_cons (pv 10) pa_nil)))))) (pss_one (ps_ret (pe_bl))) pss_nil)) (pss_one (ps_if (pt_cmpR op_lt (pv 7) (pe_int) (nomark _)) (pss_one (ps_if (pt_not (pt_val (pe_call (ok__law_linked T) (hr.mono (by decide)) (by rfl) T.g__law_linked T.F__law_linked.kp T.b__law_linked .nil pass0 (pa_cons (pe_ix (Xk.k_ixL (K := K) (by rfl)) (pv 3) (pv 6) (fun _ _ => rfl)) (pa_cons (pv 11) (pa_cons (pv 10) (pa_cons (pe_ix (Xk.k_ixL (K := K) (by rfl)) (pv 11) (pe_int) (fun _ _ => rfl)) pa_nil))))))) (pss_one (ps_ret (pe_bl))) pss_nil)) (pss_cons (ps_set (i := 12) sc_law.nd rfl (Or.inl rfl) (pe_op op_mod (pe_callTy Xk.call_nInt (by rfl) T.m_int (by decide +kernel) (pa_cons (pv 10) pa_nil)) (pe_op op_add (pe_ix (Xk.k_ixL (K := K) (by rfl)) (pv 11) (pe_int) (fun _ _ => rfl)) (pe_int))))
      (Evl.pss_cut (ps_if (PW.pt (pw_and (pt_cmpR op_gt (pv 9) (pe_int) (nomark _)) (pw_and1 (pt_cmpR op_gt (pe_callB call_lenD (by rfl) T.m_len PySem.boot_len (pa_cons (pe_ix (Xk.k_ixL (K := K) (by rfl)) (pv 11) (pe_int) (fun _ _ => rfl)) pa_nil)) (pe_int) (nomark _))))) (pss_one (ps_set (i := 12) sc_law.nd rfl (Or.inl rfl) (pe_ix (Xk.k_ixL (K := K) (by rfl)) (pe_callB (Xk.k_sortDI rfl) (by rfl) T.m_sorted (by decide +kernel) (pa_cons (pe_ix (Xk.k_ixL (K := K) (by rfl)) (pv 11) (pe_int) (fun _ _ => rfl)) pa_nil)) (pe_op op_mod (pe_callTy Xk.call_nInt (by rfl) T.m_int (by decide +kernel) (pa_cons (pv 10) pa_nil)) (pe_callB call_lenD (by rfl) T.m_len PySem.boot_len (pa_cons (pe_ix (Xk.k_ixL (K := K) (by rfl)) (pv 11) (pe_int) (fun _ _ => rfl)) pa_nil))) (fun _ _ => rfl)))) pss_nil)
      (pss_one (ps_if (pt_cmpR (Xk.k_neD (K := K) hr.units (by rfl)) (pe_call (ok__law_asked T) (hr.mono (by decide)) (by rfl) T.g__law_asked T.F__law_asked.kp T.b__law_asked .nil pass0 (pa_cons (pe_ix (Xk.k_ixL (K := K) (by rfl)) (pv 3) (pv 6) (fun _ _ => rfl)) (pa_cons (pe_op op_sub (pv 7) (pe_int)) (pa_cons (pv 12) pa_nil)))) (pe_call (ok__law_due T) (hr.mono (by decide)) (by rfl) T.g__law_due T.F__law_due.kp T.b__law_due .nil pass0 (pa_cons (pv 11) (pa_cons (pe_op op_sub (pv 7) (pe_int)) (pa_cons (pv 12) pa_nil)))) (nomark _)) (pss_one (ps_ret (pe_bl))) pss_nil)))))))
      (pss_one (ps_for PassesOwn.never rfl (pi_range1 (by rfl) T.m_range (pa_cons (pe_callB (Xk.k_len (K := K) (by rfl)) (by rfl) T.m_len PySem.boot_len (pa_cons (pv 3) pa_nil)) pa_nil)) (pg_name (i := 13) sc_law.nd rfl (Or.inl rfl)) (pss_one (ps_if (pt_not (pt_val (pe_call (ok__law_agrees T) (hr.mono (by decide)) (by rfl) T.g__law_agrees T.F__law_agrees.kp T.b__law_agrees .nil pass0 (pa_cons (pe_ix (Xk.k_ixL (K := K) (by rfl)) (pv 3) (pv 13) (fun _ _ => rfl)) (pa_cons (pe_ix (Xk.k_ixL (K := K) (by rfl)) (pv 4) (pv 13) (fun _ _ => rfl)) pa_nil))))) (pss_one (ps_ret (pe_bl))) pss_nil)))))))))))
      (pss_one (ps_ret (pe_bl)))))))), ?_⟩
  wtm_at "x0"
  wtm_at "xs"
  refine ⟨a, 0, ns, rfl, hS, hl, by decide, by decide, fun n0 hn0 => ?_⟩
  wtm_at "xs"
  intro zp H1 hzp s1 hz
  wtm_at "xs"
  refine ⟨n0, zp, [8, 701], rfl, Xk.sq_of hz, Nat.le_of_ble_eq_true rfl, ?_, fun p2 H2 ds hp2 s2 h2 hd hw => ?_⟩
  · intro z hz
    simp only [List.mem_cons, List.not_mem_nil, or_false] at hz
    omega
  obtain ⟨many, room, rfl⟩ : ∃ a b, ds = [a, b] := by
    match ds, hd with
    | [a, b], _ => exact ⟨a, b, rfl⟩
  have cr := hw 1 _ _ rfl rfl
  replace h2 : H2 p2 = some (.lst [.int many, .int room]) := h2
  have ha2 := Xk.sq_same hS (s1.trans s2)
  clear hw hd hS s1
  wtm_at "xs"
  refine Xk.x_rMake fun x dx H3 hx hdx hn s3 hd3 h3 => ?_
  refine ⟨x, dx, rfl, h3, fun H4 m0 l0 b4 hm0 hl0 jb => ⟨rfl, ?_⟩⟩
  have s4 : Same H2 H4 := Xk.same_but b4 hx s3
  wtm_at "xs"
  intro bl H5 hbl s5 h5
  wtm_at "xs"
  intro m1 H6 hm1 s6 h6
  wtm_at "xs"
  intro l1 H7 hl1 s7 h7
  wtm_at "xs"
  intro p1 H8 hp1 s8 h8
  wtm_at "xs"
  intro ml H9 hml s9 h9
  have s28 := s4.trans (s5.trans (s6.trans (s7.trans s8)))
  have s49 := s5.trans (s6.trans (s7.trans (s8.trans s9)))
  have fbl : Xk.Fr bl H2 := Xk.free_back hbl s4
  have fml : Xk.Fr ml H2 := Xk.free_back hml s28
  have fm1 : Xk.Fr m1 H2 := Xk.free_back hm1 (s4.trans s5)
  have fl1 : Xk.Fr l1 H2 := Xk.free_back hl1 (s4.trans (s5.trans s6))
  have fp1 : Xk.Fr p1 H2 := Xk.free_back hp1 (s4.trans (s5.trans (s6.trans s7)))
  have jb9 := jb.same s49
  have jm9 := (s7.trans (s8.trans s9)) _ _ h6
  have jl9 := (s8.trans s9) _ _ h7
  have jp9 := s9 _ _ h8
  have jbl9 := (s6.trans (s7.trans (s8.trans s9))) _ _ h5
  have jd9 : MdAt K H9 ⟨p1, m1, l1⟩ [] 0 [] := ⟨jp9, jm9, jl9, fun e he => absurd he List.not_mem_nil⟩
  have kk : ∀ c o, H4 c = some o → c ≠ p1 ∧ c ≠ m1 ∧ c ≠ l1 := fun c o e => ⟨Xk.ne_new hp1 ((s5.trans (s6.trans s7)) _ _ e), Xk.ne_new hm1 (s5 _ _ e), Xk.ne_new hl1 ((s5.trans s6) _ _ e)⟩
  have nb4 : ∀ c o, H4 c = some o → c ≠ bl ∧ c ≠ ml := fun c o e => ⟨Xk.ne_new hbl e, Xk.ne_new hml ((s5.trans (s6.trans (s7.trans s8))) _ _ e)⟩
  obtain ⟨ρ, W⟩ := Wo.one (C := T.C_Bag) (z := ⟨⟨x, dx, m0, l0⟩, ⟨p1, m1, l1⟩, [], [], 0, []⟩) (m := 0) (H1 := H2) (H := H9) (s4.trans s49) jbl9 h9 fbl fml (Xk.ne_new hml ((s6.trans (s7.trans s8)) _ _ h5)) ⟨jb9, jd9, rfl, ok_nil, ok_nil⟩
    (fun c hc => by
      simp only [Zn.six, six, List.mem_cons, List.not_mem_nil, or_false] at hc
      rcases hc with rfl | rfl | rfl | rfl | rfl | rfl
      · exact hx
      · exact Xk.free_back hm0 s3
      · exact Xk.free_back hl0 s3
      · exact fp1
      · exact fm1
      · exact fl1)
    (six_nodup jb.xm jb.xl jb.ml jd9.pm jd9.pl jd9.ml fun c hc => by
      simp only [List.mem_cons, List.not_mem_nil, or_false] at hc
      rcases hc with rfl | rfl | rfl
      · exact kk _ _ jb.i
      · exact kk _ _ jb.m
      · exact kk _ _ jb.l)
    (fun hc => by
      simp only [Zn.six, six, List.mem_cons, List.not_mem_nil, or_false] at hc
      rcases hc with rfl | rfl | rfl | rfl | rfl | rfl
      · exact (nb4 _ _ jb.i).1 rfl
      · exact (nb4 _ _ jb.m).1 rfl
      · exact (nb4 _ _ jb.l).1 rfl
      · exact Xk.ne_new hp1 ((s6.trans s7) _ _ h5) rfl
      · exact Xk.ne_new hm1 h5 rfl
      · exact Xk.ne_new hl1 (s6 _ _ h5) rfl)
    (fun hc => by
      simp only [Zn.six, six, List.mem_cons, List.not_mem_nil, or_false] at hc
      rcases hc with rfl | rfl | rfl | rfl | rfl | rfl
      · exact (nb4 _ _ jb.i).2 rfl
      · exact (nb4 _ _ jb.m).2 rfl
      · exact (nb4 _ _ jb.l).2 rfl
      · exact Xk.ne_new hml h8 rfl
      · exact Xk.ne_new hml ((s7.trans s8) _ _ h6) rfl
      · exact Xk.ne_new hml (s8 _ _ h7) rfl)
  clear kk nb4 jd9 jbl9 jp9 jl9 jm9 jb9 fp1 fl1 fm1 fml fbl s49 s28 h9 s9 hml h8 s8 hp1 h7 s7 hl1 h6 s6 hm1 h5 s5 hbl s4 jb b4 hm0 hl0 h3 hd3 s3 hn hdx hx
  wtm_at "xs"
  refine Xk.x_range (fun i σ' H' => ∃ (y5 y6 y7 y8 y9 y10 y11 y12 y13 : Option V) (Z : List Zn), σ' = [some (.ref a), some (.int many), some (.int room), some (.ref bl), some (.ref ml), y5, y6, y7, y8, y9, y10, y11, y12, y13] ∧ Wo K T.C_Bag H2 H' bl ml Z i ρ ∧ Z.length = 1)
    (by split <;> omega) ⟨_, _, _, _, _, _, _, _, _, _, rfl, W, rfl⟩ ?_ ?_
  · clear W
    rintro i σ' H5 hi ⟨y5, y6, y7, y8, y9, y10, y11, y12, y13, Z, rfl, W, hZ⟩
    have hi2 : (i : Int) < 701 := by
      revert hi
      split <;> omega
    have ha5 := Xk.sq_same ha2 W.sm
    have hb5 := W.hb
    have hd5 := W.hd
    obtain ⟨z, hz0⟩ := Xk.lt_at (xs := Z) (j := 0) (by omega)
    wtm_at "xs"
    refine ⟨a, 1, ns, rfl, ha5, hl, by decide, by decide, fun n1 hn1 => ?_⟩
    wtm_at "xs"
    refine ⟨z.b, z.d, z.A, z.B, z.N, z.L, i, _, rfl, (W.at_ 0 z hz0).1, W.far hz0, by omega, fun H6 A6 B6 e6 bo6 => ?_⟩
    have W6 := W.step hz0 e6 bo6
    wtm_at "xs"
    exact ⟨_, _, _, _, _, _, _, _, _, _, rfl, W6, by rw [List.length_set]; exact hZ⟩
  clear W
  rintro σ' H5 ⟨y5, y6, y7, y8, y9, y10, y11, y12, y13, Z, rfl, W, hZ⟩
  wtm_at "xs"
  refine Xk.x_range (fun i σ' H' => ∃ (y5 y6 y7 y8 y9 y10 y11 y12 y13 : Option V) (Z : List Zn) (ρ : Addr → Nat) (m : Nat), σ' = [some (.ref a), some (.int many), some (.int room), some (.ref bl), some (.ref ml), y5, y6, y7, y8, y9, y10, y11, y12, y13] ∧ Wo K T.C_Bag H2 H' bl ml Z m ρ ∧ 1 ≤ Z.length ∧ Z.length ≤ i + 1 ∧ m ≤ 701 + i)
    ⟨by omega, by omega⟩ ⟨_, _, _, _, _, _, _, _, _, Z, ρ, _, rfl, W, by omega, by omega, by split <;> omega⟩ ?_ ?_
  · clear W hZ Z ρ y5 y6 y7 y8 y9 y10 y11 y12 y13
    rintro i σ' H5 hi ⟨y5, y6, y7, y8, y9, y10, y11, y12, y13, Z, ρ, m, rfl, W, hz1, hz2, hm⟩
    have ha5 := Xk.sq_same ha2 W.sm
    wtm_at "xs"
    refine ⟨a, _, ns, rfl, ha5, hl, by omega, by omega, fun n1 hn1 => ?_⟩
    wtm_at "xs"
    intro zp H6 hzp s6 hz6
    wtm_at "xs"
    refine ⟨_, _, [6, 13, 12, 9], rfl, Xk.sq_of hz6, Nat.le_of_ble_eq_true rfl, ?_, fun p2 H8 ds hp2 s8 h8 hd hw => ?_⟩
    · intro z hz
      simp only [List.mem_cons, List.not_mem_nil, or_false] at hz
      omega
    obtain ⟨wh, kd, fk, at_, rfl⟩ : ∃ a b c d, ds = [a, b, c, d] := by
      match ds, hd with
      | [a, b, c, d], _ => exact ⟨a, b, c, d, rfl⟩
    have c0' := hw 0 _ _ rfl rfl
    have c1' := hw 1 _ _ rfl rfl
    replace h8 : H8 p2 = some (.lst [.int wh, .int kd, .int fk, .int at_]) := h8
    have W8 := W.same (s6.trans s8)
    have hs8 := W8.hb
    have hd8 := W8.hd
    clear W s6 s8 hz6 hzp hp2 hd hw ha5
    wtm_at "xs"
    rw [List.length_map]
    refine Xk.x_I (show (0 : Int) < (Z.length : Int) by omega) ?_
    have e0 := Int.emod_nonneg wh (show (Z.length : Int) ≠ 0 by omega)
    have e1 := Int.emod_lt_of_pos wh (show 0 < (Z.length : Int) by omega)
    obtain ⟨j, hj⟩ := Int.eq_ofNat_of_zero_le e0
    rw [hj] at e1 ⊢
    have hjl : j < Z.length := by omega
    clear e0 e1 hj
    refine Xk.x_cut (fun σ' H' => ∃ (Z : List Zn) (ρ : Addr → Nat), σ' = [some (.ref a), some (.int many), some (.int room), some (.ref bl), some (.ref ml), some (.int i), some (.int j), some (.int kd), some (.int fk), some (.int at_), y10, y11, y12, y13] ∧ Wo K T.C_Bag H2 H' bl ml Z m ρ ∧ j < Z.length ∧ 1 ≤ Z.length ∧ Z.length ≤ i + 2) ?_ ?_
    · wtm_at "xs"
      refine Xk.x_itd (fun hk0 => ?_) (fun hk0 => ?_)
      · obtain ⟨z, hz⟩ := Xk.lt_at (xs := Z) (j := j) hjl
        obtain ⟨g1, g2, g3⟩ := W8.at_ j z hz
        have k1 := g1.b.i
        have zl : (Z.map fun z => V.ref z.b.x).length < 100000 := by
          rw [List.length_map]
          omega
        have zl2 : (Z.map fun z => V.ref z.d.p).length < 100000 := by
          rw [List.length_map]
          omega
        have nbm : bl ≠ ml := fun e => by
          have h1 := W8.rb
          have h2 := W8.rd
          rw [e, h2] at h1
          cases h1
        wtm_at "xs"
        refine ⟨z.b, z.A, z.N, z.L, rfl, g1.b, g1.ok.lnd, by have := g1.ok.ll; omega, fun c H9 s9 hx hm' hl' jc => ?_⟩
        have hs9 := s9 _ _ hs8
        have hd9 := s9 _ _ hd8
        wtm_at "xs"
        have W9 := W8.same s9
        obtain ⟨k1, k2, k3⟩ := W9.at_ j z hz
        have rl := W9.rng hz (c := z.d.l) (by simp)
        have rm := W9.rng hz (c := z.d.m) (by simp)
        have rp := W9.rng hz (c := z.d.p) (by simp)
        have nbs : ∀ c ∈ z.six, c ≠ bl := fun c hc e => by
          have := W9.rng hz hc
          rw [e, W9.rb] at this
          omega
        have eb : Exc [bl] H9 (upd H9 bl (.lst (Z.map (fun z => V.ref z.b.x) ++ [V.ref c.x]))) := (Exc.same (Same.refl _)).put (by simp)
        have nt1 : NoT H9 [bl] := fun c hc => by
          rw [List.mem_singleton] at hc
          subst hc
          exact ⟨_, hs9, rfl⟩
        have bo' := k1.stay eb nt1 fun c hc hc2 => nbs c hc (List.mem_singleton.mp hc2)
        refine ⟨z.d, z.B, z.N, z.L, m, rfl, bo'.d, bo'.o2, by omega, fun d' H10 s10 hp1 hm1 hl1 jd => ?_⟩
        have hd10 := s10 _ _ ((upd_ne nbm.symm).trans hd9)
        wtm_at "xs"
        have ob : ∀ k o, H9 k = some o → k ≠ bl → upd H9 bl (.lst (Z.map (fun z => V.ref z.b.x) ++ [V.ref c.x])) k = some o := fun k o e n => (upd_ne n).trans e
        have cb : ∀ k ∈ [c.x, c.m, c.l], k ≠ bl ∧ k ≠ ml := fun k hk => by
          simp only [List.mem_cons, List.not_mem_nil, or_false] at hk
          rcases hk with rfl | rfl | rfl
          · exact ⟨(Xk.ne_new hx hs8).symm, (Xk.ne_new hx hd8).symm⟩
          · exact ⟨(Xk.ne_new hm' hs8).symm, (Xk.ne_new hm' hd8).symm⟩
          · exact ⟨(Xk.ne_new hl' hs8).symm, (Xk.ne_new hl' hd8).symm⟩
        have md9 := ob _ _ hd9 nbm.symm
        have bl9 : upd H9 bl (.lst (Z.map (fun z => V.ref z.b.x) ++ [V.ref c.x])) bl = some (.lst (Z.map (fun z => V.ref z.b.x) ++ [V.ref c.x])) := upd_same
        have db : ∀ k ∈ [d'.p, d'.m, d'.l], k ≠ bl ∧ k ≠ ml := fun k hk => by
          simp only [List.mem_cons, List.not_mem_nil, or_false] at hk
          rcases hk with rfl | rfl | rfl
          · exact ⟨(Xk.ne_new hp1 bl9).symm, (Xk.ne_new hp1 md9).symm⟩
          · exact ⟨(Xk.ne_new hm1 bl9).symm, (Xk.ne_new hm1 md9).symm⟩
          · exact ⟨(Xk.ne_new hl1 bl9).symm, (Xk.ne_new hl1 md9).symm⟩
        have eF : Exc [bl, ml] H9 (upd H10 ml (.lst (Z.map (fun z => V.ref z.d.p) ++ [V.ref d'.p]))) := ((((Exc.same (Same.refl _)).put (p := bl) (by simp)).trans (Exc.same s10))).put (by simp)
        have nt2 : NoT H9 [bl, ml] := fun c hc => by
          simp only [List.mem_cons, List.not_mem_nil, or_false] at hc
          rcases hc with rfl | rfl
          · exact ⟨_, hs9, rfl⟩
          · exact ⟨_, hd9, rfl⟩
        have eM : Exc [ml] H10 (upd H10 ml (.lst (Z.map (fun z => V.ref z.d.p) ++ [V.ref d'.p]))) := (Exc.same (Same.refl _)).put (by simp)
        have nt3 : NoT H10 [ml] := fun c hc => by
          rw [List.mem_singleton] at hc
          subst hc
          exact ⟨_, hd10, rfl⟩
        have jcF : BgAt K T.C_Bag (upd H10 ml (.lst (Z.map (fun z => V.ref z.d.p) ++ [V.ref d'.p]))) c z.A z.N z.L :=
          ⟨eF _ _ (by have := cb c.x (by simp); simp [this.1, this.2]) jc.i, eF _ _ (by have := cb c.m (by simp); simp [this.1, this.2]) jc.m, eF _ _ (by have := cb c.l (by simp); simp [this.1, this.2]) jc.l, fun e he => (jc.e e he).exc eF nt2⟩
        have jdF : MdAt K (upd H10 ml (.lst (Z.map (fun z => V.ref z.d.p) ++ [V.ref d'.p]))) d' z.B z.N z.L :=
          ⟨eM _ _ (by have := db d'.p (by simp); simp [this.2]) jd.i, eM _ _ (by have := db d'.m (by simp); simp [this.2]) jd.m, eM _ _ (by have := db d'.l (by simp); simp [this.2]) jd.l, fun e he => (jd.e e he).exc eM nt3⟩
        have cc : ∀ k o, H9 k = some o → k ≠ bl → k ≠ d'.p ∧ k ≠ d'.m ∧ k ≠ d'.l := fun k o e n => ⟨Xk.ne_new hp1 (ob k o e n), Xk.ne_new hm1 (ob k o e n), Xk.ne_new hl1 (ob k o e n)⟩
        obtain ⟨ρ', W'⟩ := W8.add (z := ⟨c, d', z.A, z.B, z.N, z.L⟩) ((Exc.same s9).trans eF) ((upd_ne nbm).trans (s10 _ _ upd_same)) upd_same ⟨jcF, jdF, g1.g, g1.ok, g1.o2⟩
          (fun k hk => by
            simp only [Zn.six, six, List.mem_cons, List.not_mem_nil, or_false] at hk
            rcases hk with rfl | rfl | rfl | rfl | rfl | rfl
            · exact hx
            · exact hm'
            · exact hl'
            · exact Xk.free_back (Xk.fr_upd hp1) s9
            · exact Xk.free_back (Xk.fr_upd hm1) s9
            · exact Xk.free_back (Xk.fr_upd hl1) s9)
          (six_nodup jc.xm jc.xl jc.ml jd.pm jd.pl jd.ml fun k hk => by
            simp only [List.mem_cons, List.not_mem_nil, or_false] at hk
            rcases hk with rfl | rfl | rfl
            · exact cc _ _ jc.i (cb _ (by simp)).1
            · exact cc _ _ jc.m (cb _ (by simp)).1
            · exact cc _ _ jc.l (cb _ (by simp)).1)
        exact ⟨_, ρ', rfl, W', by rw [List.length_append]; omega, by rw [List.length_append]; omega, by rw [List.length_append]; show Z.length + 1 ≤ i + 2; omega⟩
      · wtm_at "xs"
        exact ⟨Z, ρ, rfl, W8, hjl, hz1, by omega⟩
    clear W8 hs8 hd8 h8 hz1 hz2 hjl Z ρ
    rintro σ' H9 ⟨Z, ρ, rfl, W, hjl, hz1, hz2⟩
    have ha9 := Xk.sq_same ha2 W.sm
    obtain ⟨z, hz⟩ := Xk.lt_at (xs := Z) (j := j) hjl
    obtain ⟨g1, g2, g3⟩ := W.at_ j z hz
    have far := W.far hz
    have hb9 := W.hb
    have hd9 := W.hd
    have k1 := g1.d.i
    wtm_at "xs"
    refine ⟨a, _, ns, rfl, ha9, hl, by omega, by omega, fun row hrow => ?_⟩
    wtm_at "xs"
    refine Xk.x_cut (fun σ' H' => ∃ (Z' : List Zn) (y : Option V), σ' = [some (.ref a), some (.int many), some (.int room), some (.ref bl), some (.ref ml), some (.int i), some (.int j), some (.int kd), some (.int fk), some (.int at_), some (.int row), some (.ref z.d.p), y, y13] ∧ Wo K T.C_Bag H2 H' bl ml Z' (m + 1) ρ ∧ Z'.length = Z.length) ?_ ?_
    · wtm_at "xs"
      refine Xk.x_itd (fun hk0 => ?_) (fun hk0 => ?_)
      · wtm_at "xs"
        refine ⟨z.b, z.d, z.A, z.B, z.N, z.L, m, _, rfl, g1, far, by omega, fun H10 A6 B6 e6 bo6 => ?_⟩
        wtm_at "xs"
        exact ⟨_, _, rfl, W.step hz e6 bo6, by rw [List.length_set]⟩
      wtm_at "xs"
      refine Xk.x_itd (fun hk1 => ?_) (fun hk1 => ?_)
      · wtm_at "xs"
        refine ⟨z.b, z.d, z.A, z.B, z.N, z.L, m, _, rfl, g1, far, by omega, fun H10 L6 e6 bo6 => ?_⟩
        wtm_at "xs"
        exact ⟨_, _, rfl, W.step hz e6 bo6, by rw [List.length_set]⟩
      wtm_at "xs"
      have n0' := g1.ok.n0
      have k2 := g1.d.m
      refine Xk.x_I (show (0 : Int) < z.N + 2 by omega) ?_
      refine Xk.x_cut (fun σ' H' => Same H9 H' ∧ ∃ n : Int, σ' = [some (.ref a), some (.int many), some (.int room), some (.ref bl), some (.ref ml), some (.int i), some (.int j), some (.int kd), some (.int fk), some (.int at_), some (.int row), some (.ref z.d.p), some (.int n), y13]) ?_ ?_
      · wtm_at "xs"
        refine Xk.x_itd (fun hk2 => ?_) (fun hk2 => ?_)
        · wtm_at "xs"
          refine ⟨z.d.m, _, rfl, k2, ?_⟩
          rw [dk_len]
          wtm_at "xs"
          refine Xk.x_itd (fun hB => ?_) (fun hB => ?_)
          · wtm_at "xs"
            refine Xk.x_sortDI k2 (dk_keys z.B) fun p3 H10 ys q1 q2 hp3 s3 h3 => ?_
            have i3 := s3 _ _ k2
            have i1 := s3 _ _ k1
            have ly : ys.length = z.B.length := by rw [q1.length_eq, List.length_map]
            wtm_at "xs"
            refine ⟨z.d.m, _, rfl, i3, ?_⟩
            rw [dk_len]
            wtm_at "xs"
            have e0 := Int.emod_nonneg row (show (z.B.length : Int) ≠ 0 by omega)
            have e1 := Int.emod_lt_of_pos row (show 0 < (z.B.length : Int) by omega)
            obtain ⟨j2, hj⟩ := Int.eq_ofNat_of_zero_le e0
            rw [hj] at e1 ⊢
            obtain ⟨n, hn⟩ := Xk.lt_at (xs := ys) (j := j2) (by omega)
            refine Xk.x_ixL (Xk.sq_of h3) (Xk.at_nat rfl (Xk.map_at hn)) ?_
            exact ⟨s3, _, rfl⟩
          · wtm_at "xs"
            exact ⟨Same.refl _, _, rfl⟩
        · wtm_at "xs"
          exact ⟨Same.refl _, _, rfl⟩
      rintro σ' H10 ⟨s10, n, rfl⟩
      have W10 := W.same s10
      clear hb9 hd9 k1 k2
      obtain ⟨g1, g2, g3⟩ := W10.at_ j z hz
      have hb10 := W10.hb
      have hd10 := W10.hd
      have k1 := g1.d.i
      wtm_at "xs"
      refine ⟨z.b, z.A, z.N, z.L, m, kd - 8, n, rfl, by omega, g1.b, g1.ok, by omega, fun H11 v A6 N6 e11 jb11 pk1 st1 => ?_⟩
      have jd11 := g1.d.exc far g1.b e11
      wtm_at "xs"
      refine ⟨z.d, z.B, z.N, z.L, m, kd - 8, n, rfl, by omega, jd11, g1.o2, by omega, fun H12 v2 B6 N7 e12 jd12 pk2 st2 => ?_⟩
      obtain ⟨hg, rfl⟩ := stp_gh g1.g st1 st2
      rw [← ans_gh g1.g] at pk2
      refine Xk.x_nePk (pk1.st (e12.st jd11.noT)) pk2 ?_
      wtm_at "xs"
      have W12 := W10.step hz ((e11.sup (T := z.six) (by simp)).trans (e12.sup (by simp))) ⟨jb11.exc far jd11 e12, jd12, hg, stp_ok g1.ok st1, stp_ok g1.o2 st2⟩
      exact ⟨_, _, rfl, W12, by rw [List.length_set]⟩
    clear W hb9 hd9 k1 g1 g2 g3 far ha9
    rintro σ' H12 ⟨Z', y, rfl, W12, hz3⟩
    have hb12 := W12.hb
    have hd12 := W12.hd
    wtm_at "xs"
    rw [List.length_map]
    refine Xk.x_range (fun k σ' H' => Same H12 H' ∧ ∃ y13, σ' = [some (.ref a), some (.int many), some (.int room), some (.ref bl), some (.ref ml), some (.int i), some (.int j), some (.int kd), some (.int fk), some (.int at_), some (.int row), some (.ref z.d.p), y, y13]) ⟨by omega, by omega⟩ ⟨Same.refl _, _, rfl⟩ ?_ ?_
    · rintro k σ' H' hk ⟨s12, y14, rfl⟩
      obtain ⟨u, hu⟩ := Xk.lt_at (xs := Z') (j := k) (by omega)
      have W13 := W12.same s12
      obtain ⟨g1, _⟩ := W13.at_ k u hu
      have hb13 := W13.hb
      have hd13 := W13.hd
      wtm_at "xs"
      refine ⟨u.b, u.d, u.A, u.B, u.N, u.L, rfl, g1.b, g1.d, g1.g, by have := g1.ok.ll; omega, by have := g1.ok.al; omega, fun H14 s14 => ?_⟩
      wtm_at "xs"
      exact ⟨s12.trans s14, _, rfl⟩
    · rintro σ' H' ⟨s12, y14, rfl⟩
      exact ⟨_, _, _, _, _, _, _, _, _, Z', ρ, _, rfl, W12.same s12, by omega, by omega, by omega⟩
  · rintro σ' H' ⟨y5, y6, y7, y8, y9, y10, y11, y12, y13, Z, ρ, m, rfl, W, hz1, hz2, hm⟩
    wtm_at "xs"
    exact q _
end
theorem all_mk {l : PySem.W.OpenLaw} {w : World} {K : PySem.W.Frag} {h : Heap} {mg : Str → Option Value} {fa C_Bag C_CrossError C_Malformed C_NoMessage C_LinkCut f_Bag___init__ f_Bag_send f_Bag_message f_Bag_take f_Bag_drop f_Bag_is_cut f_Bag_double f_Bag_numbers f_Bag_cut f_Bag_heal f_Bag_links f_Bag_fork f__law_row f__law_digits f__law_agrees f__law_fault f__law_asked f__law_due f__law_sent f__law_linked f__law_twin f_law : Addr} (X : K.In h) (G : h.Ns mainGlobals mg) (hfa : mg "law" = some (.ref fa))
    {od_Bag___init__ an_Bag___init__ od_Bag_send an_Bag_send od_Bag_message an_Bag_message od_Bag_take an_Bag_take od_Bag_drop an_Bag_drop od_Bag_is_cut an_Bag_is_cut od_Bag_double an_Bag_double od_Bag_numbers an_Bag_numbers od_Bag_cut an_Bag_cut od_Bag_heal an_Bag_heal od_Bag_links an_Bag_links od_Bag_fork an_Bag_fork od__law_row an__law_row od__law_digits an__law_digits od__law_agrees an__law_agrees od__law_fault an__law_fault od__law_asked an__law_asked od__law_due an__law_due od__law_sent an__law_sent od__law_linked an__law_linked od__law_twin an__law_twin od_law an_law : Option Addr} {sl_Bag___init__ sl_Bag_send sl_Bag_message sl_Bag_take sl_Bag_drop sl_Bag_is_cut sl_Bag_double sl_Bag_numbers sl_Bag_cut sl_Bag_heal sl_Bag_links sl_Bag_fork sl__law_row sl__law_digits sl__law_agrees sl__law_fault sl__law_asked sl__law_due sl__law_sent sl__law_linked sl__law_twin sl_law : Array (Option Value)} {oc_Bag___init__ kV_Bag___init__ dc_Bag___init__ pm_Bag___init__ cd_Bag___init__ ct_Bag___init__ oc_Bag_send kV_Bag_send dc_Bag_send pm_Bag_send cd_Bag_send ct_Bag_send oc_Bag_message kV_Bag_message dc_Bag_message pm_Bag_message cd_Bag_message ct_Bag_message oc_Bag_take kV_Bag_take dc_Bag_take pm_Bag_take cd_Bag_take ct_Bag_take oc_Bag_drop kV_Bag_drop dc_Bag_drop pm_Bag_drop cd_Bag_drop ct_Bag_drop oc_Bag_is_cut kV_Bag_is_cut dc_Bag_is_cut pm_Bag_is_cut cd_Bag_is_cut ct_Bag_is_cut oc_Bag_double kV_Bag_double dc_Bag_double pm_Bag_double cd_Bag_double ct_Bag_double oc_Bag_numbers kV_Bag_numbers dc_Bag_numbers pm_Bag_numbers cd_Bag_numbers ct_Bag_numbers oc_Bag_cut kV_Bag_cut dc_Bag_cut pm_Bag_cut cd_Bag_cut ct_Bag_cut oc_Bag_heal kV_Bag_heal dc_Bag_heal pm_Bag_heal cd_Bag_heal ct_Bag_heal oc_Bag_links kV_Bag_links dc_Bag_links pm_Bag_links cd_Bag_links ct_Bag_links oc_Bag_fork kV_Bag_fork dc_Bag_fork pm_Bag_fork cd_Bag_fork ct_Bag_fork oc__law_row kV__law_row dc__law_row pm__law_row cd__law_row ct__law_row oc__law_digits kV__law_digits dc__law_digits pm__law_digits cd__law_digits ct__law_digits oc__law_agrees kV__law_agrees dc__law_agrees pm__law_agrees cd__law_agrees ct__law_agrees oc__law_fault kV__law_fault dc__law_fault pm__law_fault cd__law_fault ct__law_fault oc__law_asked kV__law_asked dc__law_asked pm__law_asked cd__law_asked ct__law_asked oc__law_due kV__law_due dc__law_due pm__law_due cd__law_due ct__law_due oc__law_sent kV__law_sent dc__law_sent pm__law_sent cd__law_sent ct__law_sent oc__law_linked kV__law_linked dc__law_linked pm__law_linked cd__law_linked ct__law_linked oc__law_twin kV__law_twin dc__law_twin pm__law_twin cd__law_twin ct__law_twin oc_law kV_law dc_law pm_law cd_law ct_law : Value}
    (aC_Bag : PySem.W.nsIn K mainGlobals "Bag" = some (some (.ref C_Bag)))
    (pg_Bag : PySem.W.plainGet K C_Bag Str.empty = true)
    (hd_Bag : PySem.W.hasDictIn K C_Bag = true)
    (po_Bag : PySem.W.plainOver K C_Bag = true)
    (sa_Bag : PySem.W.findIn K (.ref C_Bag) "__setattr__" = some (some (.builtin "object.__setattr__")))
    (mk_Bag : PySem.W.makesIn K C_Bag = true)
    (kc_Bag : PySem.W.keepIn K (.ref C_Bag) = true)
    (na_Bag__messages : PySem.W.findIn K (.ref C_Bag) "_messages" = some none)
    (na_Bag__next_number : PySem.W.findIn K (.ref C_Bag) "_next_number" = some none)
    (na_Bag__cut_links : PySem.W.findIn K (.ref C_Bag) "_cut_links" = some none)
    (aC_CrossError : PySem.W.nsIn K mainGlobals "CrossError" = some (some (.ref C_CrossError)))
    (xb_CrossError : PySem.W.subIn K (.ref C_CrossError) (.type "BaseException") = some true)
    (xd_CrossError : PySem.W.hasDictIn K C_CrossError = true)
    (xt_CrossError : PySem.W.typeIn K (.ref C_CrossError) = some (.type "type"))
    (aC_Malformed : PySem.W.nsIn K mainGlobals "Malformed" = some (some (.ref C_Malformed)))
    (xb_Malformed : PySem.W.subIn K (.ref C_Malformed) (.type "BaseException") = some true)
    (xd_Malformed : PySem.W.hasDictIn K C_Malformed = true)
    (xt_Malformed : PySem.W.typeIn K (.ref C_Malformed) = some (.type "type"))
    (aC_NoMessage : PySem.W.nsIn K mainGlobals "NoMessage" = some (some (.ref C_NoMessage)))
    (xb_NoMessage : PySem.W.subIn K (.ref C_NoMessage) (.type "BaseException") = some true)
    (xd_NoMessage : PySem.W.hasDictIn K C_NoMessage = true)
    (xt_NoMessage : PySem.W.typeIn K (.ref C_NoMessage) = some (.type "type"))
    (aC_LinkCut : PySem.W.nsIn K mainGlobals "LinkCut" = some (some (.ref C_LinkCut)))
    (xb_LinkCut : PySem.W.subIn K (.ref C_LinkCut) (.type "BaseException") = some true)
    (xd_LinkCut : PySem.W.hasDictIn K C_LinkCut = true)
    (xt_LinkCut : PySem.W.typeIn K (.ref C_LinkCut) = some (.type "type"))
    (xq_NoMessage : PySem.W.excIn K C_NoMessage [.type "ValueError", .type "Exception", .type "BaseException", .type "object"] "ValueError.__new__" = true)
    (xk_NoMessage : PySem.W.keepIn K (.ref C_NoMessage) = true)
    (x1_NoMessage : PySem.W.findIn K (.ref C_NoMessage) "__getattribute__" = some (some (.builtin "BaseException.__getattribute__")))
    (x2_NoMessage : PySem.W.findIn K (.ref C_NoMessage) "__getattr__" = some none)
    (x3_NoMessage : PySem.W.findIn K (.ref C_NoMessage) "__class__" = some (some (.builtin "object.__class__")))
    (x4_NoMessage : PySem.W.specialIn K (.builtin "object.__class__") "__get__" = some (some (.builtin "getset_descriptor.__get__")))
    (x5_NoMessage : PySem.W.takesIn K (.builtin "object.__class__") = some true)
    (x6_NoMessage : PySem.W.mroIn K C_NoMessage (.type "object") = some true)
    (x7_NoMessage : PySem.W.subIn K (.ref C_NoMessage) (.ref C_NoMessage) = some true)
    (xs_NoMessage_CrossError : PySem.W.subIn K (.ref C_NoMessage) (.ref C_CrossError) = some true)
    (xs_NoMessage_Malformed : PySem.W.subIn K (.ref C_NoMessage) (.ref C_Malformed) = some false)
    (xs_NoMessage_LinkCut : PySem.W.subIn K (.ref C_NoMessage) (.ref C_LinkCut) = some false)
    (xv_NoMessage : PySem.W.subIn K (.ref C_NoMessage) (.type "ValueError") = some true)
    (xq_LinkCut : PySem.W.excIn K C_LinkCut [.type "ValueError", .type "Exception", .type "BaseException", .type "object"] "ValueError.__new__" = true)
    (xk_LinkCut : PySem.W.keepIn K (.ref C_LinkCut) = true)
    (x1_LinkCut : PySem.W.findIn K (.ref C_LinkCut) "__getattribute__" = some (some (.builtin "BaseException.__getattribute__")))
    (x2_LinkCut : PySem.W.findIn K (.ref C_LinkCut) "__getattr__" = some none)
    (x3_LinkCut : PySem.W.findIn K (.ref C_LinkCut) "__class__" = some (some (.builtin "object.__class__")))
    (x4_LinkCut : PySem.W.specialIn K (.builtin "object.__class__") "__get__" = some (some (.builtin "getset_descriptor.__get__")))
    (x5_LinkCut : PySem.W.takesIn K (.builtin "object.__class__") = some true)
    (x6_LinkCut : PySem.W.mroIn K C_LinkCut (.type "object") = some true)
    (x7_LinkCut : PySem.W.subIn K (.ref C_LinkCut) (.ref C_LinkCut) = some true)
    (xs_LinkCut_CrossError : PySem.W.subIn K (.ref C_LinkCut) (.ref C_CrossError) = some true)
    (xs_LinkCut_Malformed : PySem.W.subIn K (.ref C_LinkCut) (.ref C_Malformed) = some false)
    (xs_LinkCut_NoMessage : PySem.W.subIn K (.ref C_LinkCut) (.ref C_NoMessage) = some false)
    (xv_LinkCut : PySem.W.subIn K (.ref C_LinkCut) (.type "ValueError") = some true)
    (a_Bag___init__ : PySem.W.findIn K (.ref C_Bag) "__init__" = some (some (.ref f_Bag___init__)))
    (i_Bag___init__ : PySem.W.isFn K (.ref f_Bag___init__) = true)
    (l_Bag___init__ : K.lookup f_Bag___init__ = some ⟨oc_Bag___init__, od_Bag___init__, .func (PySem.W.fnOf "__init__" "Bag.__init__" (defArgs s_Bag___init__) (defBody s_Bag___init__) (defScope s_Bag___init__) .none kV_Bag___init__ dc_Bag___init__ pm_Bag___init__ an_Bag___init__ cd_Bag___init__ ct_Bag___init__), sl_Bag___init__⟩)
    (c_Bag___init__ : PySem.W.codeIn K cd_Bag___init__ "Bag.__init__" = true)
    (k_Bag___init__ : PySem.W.keepIn K (.ref f_Bag___init__) = true)
    (a_Bag_send : PySem.W.findIn K (.ref C_Bag) "send" = some (some (.ref f_Bag_send)))
    (i_Bag_send : PySem.W.isFn K (.ref f_Bag_send) = true)
    (l_Bag_send : K.lookup f_Bag_send = some ⟨oc_Bag_send, od_Bag_send, .func (PySem.W.fnOf "send" "Bag.send" (defArgs s_Bag_send) (defBody s_Bag_send) (defScope s_Bag_send) .none kV_Bag_send dc_Bag_send pm_Bag_send an_Bag_send cd_Bag_send ct_Bag_send), sl_Bag_send⟩)
    (c_Bag_send : PySem.W.codeIn K cd_Bag_send "Bag.send" = true)
    (k_Bag_send : PySem.W.keepIn K (.ref f_Bag_send) = true)
    (a_Bag_message : PySem.W.findIn K (.ref C_Bag) "message" = some (some (.ref f_Bag_message)))
    (i_Bag_message : PySem.W.isFn K (.ref f_Bag_message) = true)
    (l_Bag_message : K.lookup f_Bag_message = some ⟨oc_Bag_message, od_Bag_message, .func (PySem.W.fnOf "message" "Bag.message" (defArgs s_Bag_message) (defBody s_Bag_message) (defScope s_Bag_message) .none kV_Bag_message dc_Bag_message pm_Bag_message an_Bag_message cd_Bag_message ct_Bag_message), sl_Bag_message⟩)
    (c_Bag_message : PySem.W.codeIn K cd_Bag_message "Bag.message" = true)
    (k_Bag_message : PySem.W.keepIn K (.ref f_Bag_message) = true)
    (a_Bag_take : PySem.W.findIn K (.ref C_Bag) "take" = some (some (.ref f_Bag_take)))
    (i_Bag_take : PySem.W.isFn K (.ref f_Bag_take) = true)
    (l_Bag_take : K.lookup f_Bag_take = some ⟨oc_Bag_take, od_Bag_take, .func (PySem.W.fnOf "take" "Bag.take" (defArgs s_Bag_take) (defBody s_Bag_take) (defScope s_Bag_take) .none kV_Bag_take dc_Bag_take pm_Bag_take an_Bag_take cd_Bag_take ct_Bag_take), sl_Bag_take⟩)
    (c_Bag_take : PySem.W.codeIn K cd_Bag_take "Bag.take" = true)
    (k_Bag_take : PySem.W.keepIn K (.ref f_Bag_take) = true)
    (a_Bag_drop : PySem.W.findIn K (.ref C_Bag) "drop" = some (some (.ref f_Bag_drop)))
    (i_Bag_drop : PySem.W.isFn K (.ref f_Bag_drop) = true)
    (l_Bag_drop : K.lookup f_Bag_drop = some ⟨oc_Bag_drop, od_Bag_drop, .func (PySem.W.fnOf "drop" "Bag.drop" (defArgs s_Bag_drop) (defBody s_Bag_drop) (defScope s_Bag_drop) .none kV_Bag_drop dc_Bag_drop pm_Bag_drop an_Bag_drop cd_Bag_drop ct_Bag_drop), sl_Bag_drop⟩)
    (c_Bag_drop : PySem.W.codeIn K cd_Bag_drop "Bag.drop" = true)
    (k_Bag_drop : PySem.W.keepIn K (.ref f_Bag_drop) = true)
    (a_Bag_is_cut : PySem.W.findIn K (.ref C_Bag) "is_cut" = some (some (.ref f_Bag_is_cut)))
    (i_Bag_is_cut : PySem.W.isFn K (.ref f_Bag_is_cut) = true)
    (l_Bag_is_cut : K.lookup f_Bag_is_cut = some ⟨oc_Bag_is_cut, od_Bag_is_cut, .func (PySem.W.fnOf "is_cut" "Bag.is_cut" (defArgs s_Bag_is_cut) (defBody s_Bag_is_cut) (defScope s_Bag_is_cut) .none kV_Bag_is_cut dc_Bag_is_cut pm_Bag_is_cut an_Bag_is_cut cd_Bag_is_cut ct_Bag_is_cut), sl_Bag_is_cut⟩)
    (c_Bag_is_cut : PySem.W.codeIn K cd_Bag_is_cut "Bag.is_cut" = true)
    (k_Bag_is_cut : PySem.W.keepIn K (.ref f_Bag_is_cut) = true)
    (a_Bag_double : PySem.W.findIn K (.ref C_Bag) "double" = some (some (.ref f_Bag_double)))
    (i_Bag_double : PySem.W.isFn K (.ref f_Bag_double) = true)
    (l_Bag_double : K.lookup f_Bag_double = some ⟨oc_Bag_double, od_Bag_double, .func (PySem.W.fnOf "double" "Bag.double" (defArgs s_Bag_double) (defBody s_Bag_double) (defScope s_Bag_double) .none kV_Bag_double dc_Bag_double pm_Bag_double an_Bag_double cd_Bag_double ct_Bag_double), sl_Bag_double⟩)
    (c_Bag_double : PySem.W.codeIn K cd_Bag_double "Bag.double" = true)
    (k_Bag_double : PySem.W.keepIn K (.ref f_Bag_double) = true)
    (a_Bag_numbers : PySem.W.findIn K (.ref C_Bag) "numbers" = some (some (.ref f_Bag_numbers)))
    (i_Bag_numbers : PySem.W.isFn K (.ref f_Bag_numbers) = true)
    (l_Bag_numbers : K.lookup f_Bag_numbers = some ⟨oc_Bag_numbers, od_Bag_numbers, .func (PySem.W.fnOf "numbers" "Bag.numbers" (defArgs s_Bag_numbers) (defBody s_Bag_numbers) (defScope s_Bag_numbers) .none kV_Bag_numbers dc_Bag_numbers pm_Bag_numbers an_Bag_numbers cd_Bag_numbers ct_Bag_numbers), sl_Bag_numbers⟩)
    (c_Bag_numbers : PySem.W.codeIn K cd_Bag_numbers "Bag.numbers" = true)
    (k_Bag_numbers : PySem.W.keepIn K (.ref f_Bag_numbers) = true)
    (a_Bag_cut : PySem.W.findIn K (.ref C_Bag) "cut" = some (some (.ref f_Bag_cut)))
    (i_Bag_cut : PySem.W.isFn K (.ref f_Bag_cut) = true)
    (l_Bag_cut : K.lookup f_Bag_cut = some ⟨oc_Bag_cut, od_Bag_cut, .func (PySem.W.fnOf "cut" "Bag.cut" (defArgs s_Bag_cut) (defBody s_Bag_cut) (defScope s_Bag_cut) .none kV_Bag_cut dc_Bag_cut pm_Bag_cut an_Bag_cut cd_Bag_cut ct_Bag_cut), sl_Bag_cut⟩)
    (c_Bag_cut : PySem.W.codeIn K cd_Bag_cut "Bag.cut" = true)
    (k_Bag_cut : PySem.W.keepIn K (.ref f_Bag_cut) = true)
    (a_Bag_heal : PySem.W.findIn K (.ref C_Bag) "heal" = some (some (.ref f_Bag_heal)))
    (i_Bag_heal : PySem.W.isFn K (.ref f_Bag_heal) = true)
    (l_Bag_heal : K.lookup f_Bag_heal = some ⟨oc_Bag_heal, od_Bag_heal, .func (PySem.W.fnOf "heal" "Bag.heal" (defArgs s_Bag_heal) (defBody s_Bag_heal) (defScope s_Bag_heal) .none kV_Bag_heal dc_Bag_heal pm_Bag_heal an_Bag_heal cd_Bag_heal ct_Bag_heal), sl_Bag_heal⟩)
    (c_Bag_heal : PySem.W.codeIn K cd_Bag_heal "Bag.heal" = true)
    (k_Bag_heal : PySem.W.keepIn K (.ref f_Bag_heal) = true)
    (a_Bag_links : PySem.W.findIn K (.ref C_Bag) "links" = some (some (.ref f_Bag_links)))
    (i_Bag_links : PySem.W.isFn K (.ref f_Bag_links) = true)
    (l_Bag_links : K.lookup f_Bag_links = some ⟨oc_Bag_links, od_Bag_links, .func (PySem.W.fnOf "links" "Bag.links" (defArgs s_Bag_links) (defBody s_Bag_links) (defScope s_Bag_links) .none kV_Bag_links dc_Bag_links pm_Bag_links an_Bag_links cd_Bag_links ct_Bag_links), sl_Bag_links⟩)
    (c_Bag_links : PySem.W.codeIn K cd_Bag_links "Bag.links" = true)
    (k_Bag_links : PySem.W.keepIn K (.ref f_Bag_links) = true)
    (a_Bag_fork : PySem.W.findIn K (.ref C_Bag) "fork" = some (some (.ref f_Bag_fork)))
    (i_Bag_fork : PySem.W.isFn K (.ref f_Bag_fork) = true)
    (l_Bag_fork : K.lookup f_Bag_fork = some ⟨oc_Bag_fork, od_Bag_fork, .func (PySem.W.fnOf "fork" "Bag.fork" (defArgs s_Bag_fork) (defBody s_Bag_fork) (defScope s_Bag_fork) .none kV_Bag_fork dc_Bag_fork pm_Bag_fork an_Bag_fork cd_Bag_fork ct_Bag_fork), sl_Bag_fork⟩)
    (c_Bag_fork : PySem.W.codeIn K cd_Bag_fork "Bag.fork" = true)
    (k_Bag_fork : PySem.W.keepIn K (.ref f_Bag_fork) = true)
    (a__law_row : PySem.W.nsIn K mainGlobals "_law_row" = some (some (.ref f__law_row)))
    (l__law_row : K.lookup f__law_row = some ⟨oc__law_row, od__law_row, .func (PySem.W.fnOf "_law_row" "_law_row" (defArgs s__law_row) (defBody s__law_row) (defScope s__law_row) .none kV__law_row dc__law_row pm__law_row an__law_row cd__law_row ct__law_row), sl__law_row⟩)
    (c__law_row : PySem.W.codeIn K cd__law_row "_law_row" = true)
    (k__law_row : PySem.W.keepIn K (.ref f__law_row) = true)
    (a__law_digits : PySem.W.nsIn K mainGlobals "_law_digits" = some (some (.ref f__law_digits)))
    (l__law_digits : K.lookup f__law_digits = some ⟨oc__law_digits, od__law_digits, .func (PySem.W.fnOf "_law_digits" "_law_digits" (defArgs s__law_digits) (defBody s__law_digits) (defScope s__law_digits) .none kV__law_digits dc__law_digits pm__law_digits an__law_digits cd__law_digits ct__law_digits), sl__law_digits⟩)
    (c__law_digits : PySem.W.codeIn K cd__law_digits "_law_digits" = true)
    (k__law_digits : PySem.W.keepIn K (.ref f__law_digits) = true)
    (a__law_agrees : PySem.W.nsIn K mainGlobals "_law_agrees" = some (some (.ref f__law_agrees)))
    (l__law_agrees : K.lookup f__law_agrees = some ⟨oc__law_agrees, od__law_agrees, .func (PySem.W.fnOf "_law_agrees" "_law_agrees" (defArgs s__law_agrees) (defBody s__law_agrees) (defScope s__law_agrees) .none kV__law_agrees dc__law_agrees pm__law_agrees an__law_agrees cd__law_agrees ct__law_agrees), sl__law_agrees⟩)
    (c__law_agrees : PySem.W.codeIn K cd__law_agrees "_law_agrees" = true)
    (k__law_agrees : PySem.W.keepIn K (.ref f__law_agrees) = true)
    (a__law_fault : PySem.W.nsIn K mainGlobals "_law_fault" = some (some (.ref f__law_fault)))
    (l__law_fault : K.lookup f__law_fault = some ⟨oc__law_fault, od__law_fault, .func (PySem.W.fnOf "_law_fault" "_law_fault" (defArgs s__law_fault) (defBody s__law_fault) (defScope s__law_fault) .none kV__law_fault dc__law_fault pm__law_fault an__law_fault cd__law_fault ct__law_fault), sl__law_fault⟩)
    (c__law_fault : PySem.W.codeIn K cd__law_fault "_law_fault" = true)
    (k__law_fault : PySem.W.keepIn K (.ref f__law_fault) = true)
    (a__law_asked : PySem.W.nsIn K mainGlobals "_law_asked" = some (some (.ref f__law_asked)))
    (l__law_asked : K.lookup f__law_asked = some ⟨oc__law_asked, od__law_asked, .func (PySem.W.fnOf "_law_asked" "_law_asked" (defArgs s__law_asked) (defBody s__law_asked) (defScope s__law_asked) .none kV__law_asked dc__law_asked pm__law_asked an__law_asked cd__law_asked ct__law_asked), sl__law_asked⟩)
    (c__law_asked : PySem.W.codeIn K cd__law_asked "_law_asked" = true)
    (k__law_asked : PySem.W.keepIn K (.ref f__law_asked) = true)
    (a__law_due : PySem.W.nsIn K mainGlobals "_law_due" = some (some (.ref f__law_due)))
    (l__law_due : K.lookup f__law_due = some ⟨oc__law_due, od__law_due, .func (PySem.W.fnOf "_law_due" "_law_due" (defArgs s__law_due) (defBody s__law_due) (defScope s__law_due) .none kV__law_due dc__law_due pm__law_due an__law_due cd__law_due ct__law_due), sl__law_due⟩)
    (c__law_due : PySem.W.codeIn K cd__law_due "_law_due" = true)
    (k__law_due : PySem.W.keepIn K (.ref f__law_due) = true)
    (a__law_sent : PySem.W.nsIn K mainGlobals "_law_sent" = some (some (.ref f__law_sent)))
    (l__law_sent : K.lookup f__law_sent = some ⟨oc__law_sent, od__law_sent, .func (PySem.W.fnOf "_law_sent" "_law_sent" (defArgs s__law_sent) (defBody s__law_sent) (defScope s__law_sent) .none kV__law_sent dc__law_sent pm__law_sent an__law_sent cd__law_sent ct__law_sent), sl__law_sent⟩)
    (c__law_sent : PySem.W.codeIn K cd__law_sent "_law_sent" = true)
    (k__law_sent : PySem.W.keepIn K (.ref f__law_sent) = true)
    (a__law_linked : PySem.W.nsIn K mainGlobals "_law_linked" = some (some (.ref f__law_linked)))
    (l__law_linked : K.lookup f__law_linked = some ⟨oc__law_linked, od__law_linked, .func (PySem.W.fnOf "_law_linked" "_law_linked" (defArgs s__law_linked) (defBody s__law_linked) (defScope s__law_linked) .none kV__law_linked dc__law_linked pm__law_linked an__law_linked cd__law_linked ct__law_linked), sl__law_linked⟩)
    (c__law_linked : PySem.W.codeIn K cd__law_linked "_law_linked" = true)
    (k__law_linked : PySem.W.keepIn K (.ref f__law_linked) = true)
    (a__law_twin : PySem.W.nsIn K mainGlobals "_law_twin" = some (some (.ref f__law_twin)))
    (l__law_twin : K.lookup f__law_twin = some ⟨oc__law_twin, od__law_twin, .func (PySem.W.fnOf "_law_twin" "_law_twin" (defArgs s__law_twin) (defBody s__law_twin) (defScope s__law_twin) .none kV__law_twin dc__law_twin pm__law_twin an__law_twin cd__law_twin ct__law_twin), sl__law_twin⟩)
    (c__law_twin : PySem.W.codeIn K cd__law_twin "_law_twin" = true)
    (k__law_twin : PySem.W.keepIn K (.ref f__law_twin) = true)
    (a_law : PySem.W.nsIn K mainGlobals "law" = some (some (.ref f_law)))
    (l_law : K.lookup f_law = some ⟨oc_law, od_law, .func (PySem.W.fnOf "law" "law" (defArgs s_law) (defBody s_law) (defScope s_law) .none kV_law dc_law pm_law an_law cd_law ct_law), sl_law⟩)
    (c_law : PySem.W.codeIn K cd_law "law" = true)
    (k_law : PySem.W.keepIn K (.ref f_law) = true)
    (z_ValueError : PySem.W.nsIn K mainGlobals "ValueError" = some none)
    (z_bool : PySem.W.nsIn K mainGlobals "bool" = some none)
    (z_dict : PySem.W.nsIn K mainGlobals "dict" = some none)
    (z_int : PySem.W.nsIn K mainGlobals "int" = some none)
    (z_isinstance : PySem.W.nsIn K mainGlobals "isinstance" = some none)
    (z_len : PySem.W.nsIn K mainGlobals "len" = some none)
    (z_list : PySem.W.nsIn K mainGlobals "list" = some none)
    (z_range : PySem.W.nsIn K mainGlobals "range" = some none)
    (z_sorted : PySem.W.nsIn K mainGlobals "sorted" = some none)
    : ∃ fd : FuncData, (∀ (s : Shared) (v : Value), BindsTo s fd ⟨[v], []⟩ [("script", v)]) ∧ ∀ base : Heap, K.In base → base.Ns mainGlobals mg → FnOk l.prog w K mg base CX0 5 fa fd ["script"] (sp_law K) := by
  have e := hfa.symm.trans (PySem.W.mg_of X G a_law)
  cases e
  have F_Bag___init__ := fun_mk (st := s_Bag___init__) l_Bag___init__ c_Bag___init__ k_Bag___init__
  have b_Bag___init__ := F_Bag___init__.binds (ps := ["self"]) fun _ _ _ _ _ _ us hl => match us, hl with | [_], _ => rfl
  have F_Bag_send := fun_mk (st := s_Bag_send) l_Bag_send c_Bag_send k_Bag_send
  have b_Bag_send := F_Bag_send.binds (ps := ["self", "sender", "receiver", "body"]) fun _ _ _ _ _ _ us hl => match us, hl with | [_, _, _, _], _ => rfl
  have F_Bag_message := fun_mk (st := s_Bag_message) l_Bag_message c_Bag_message k_Bag_message
  have b_Bag_message := F_Bag_message.binds (ps := ["self", "number"]) fun _ _ _ _ _ _ us hl => match us, hl with | [_, _], _ => rfl
  have F_Bag_take := fun_mk (st := s_Bag_take) l_Bag_take c_Bag_take k_Bag_take
  have b_Bag_take := F_Bag_take.binds (ps := ["self", "number"]) fun _ _ _ _ _ _ us hl => match us, hl with | [_, _], _ => rfl
  have F_Bag_drop := fun_mk (st := s_Bag_drop) l_Bag_drop c_Bag_drop k_Bag_drop
  have b_Bag_drop := F_Bag_drop.binds (ps := ["self", "number"]) fun _ _ _ _ _ _ us hl => match us, hl with | [_, _], _ => rfl
  have F_Bag_is_cut := fun_mk (st := s_Bag_is_cut) l_Bag_is_cut c_Bag_is_cut k_Bag_is_cut
  have b_Bag_is_cut := F_Bag_is_cut.binds (ps := ["self", "number"]) fun _ _ _ _ _ _ us hl => match us, hl with | [_, _], _ => rfl
  have F_Bag_double := fun_mk (st := s_Bag_double) l_Bag_double c_Bag_double k_Bag_double
  have b_Bag_double := F_Bag_double.binds (ps := ["self", "number"]) fun _ _ _ _ _ _ us hl => match us, hl with | [_, _], _ => rfl
  have F_Bag_numbers := fun_mk (st := s_Bag_numbers) l_Bag_numbers c_Bag_numbers k_Bag_numbers
  have b_Bag_numbers := F_Bag_numbers.binds (ps := ["self"]) fun _ _ _ _ _ _ us hl => match us, hl with | [_], _ => rfl
  have F_Bag_cut := fun_mk (st := s_Bag_cut) l_Bag_cut c_Bag_cut k_Bag_cut
  have b_Bag_cut := F_Bag_cut.binds (ps := ["self", "sender", "receiver"]) fun _ _ _ _ _ _ us hl => match us, hl with | [_, _, _], _ => rfl
  have F_Bag_heal := fun_mk (st := s_Bag_heal) l_Bag_heal c_Bag_heal k_Bag_heal
  have b_Bag_heal := F_Bag_heal.binds (ps := ["self", "sender", "receiver"]) fun _ _ _ _ _ _ us hl => match us, hl with | [_, _, _], _ => rfl
  have F_Bag_links := fun_mk (st := s_Bag_links) l_Bag_links c_Bag_links k_Bag_links
  have b_Bag_links := F_Bag_links.binds (ps := ["self"]) fun _ _ _ _ _ _ us hl => match us, hl with | [_], _ => rfl
  have F_Bag_fork := fun_mk (st := s_Bag_fork) l_Bag_fork c_Bag_fork k_Bag_fork
  have b_Bag_fork := F_Bag_fork.binds (ps := ["self"]) fun _ _ _ _ _ _ us hl => match us, hl with | [_], _ => rfl
  have F__law_row := fun_mk (st := s__law_row) l__law_row c__law_row k__law_row
  have b__law_row := F__law_row.binds (ps := ["script", "k"]) fun _ _ _ _ _ _ us hl => match us, hl with | [_, _], _ => rfl
  have F__law_digits := fun_mk (st := s__law_digits) l__law_digits c__law_digits k__law_digits
  have b__law_digits := F__law_digits.binds (ps := ["row", "sizes"]) fun _ _ _ _ _ _ us hl => match us, hl with | [_, _], _ => rfl
  have F__law_agrees := fun_mk (st := s__law_agrees) l__law_agrees c__law_agrees k__law_agrees
  have b__law_agrees := F__law_agrees.binds (ps := ["bag", "model"]) fun _ _ _ _ _ _ us hl => match us, hl with | [_, _], _ => rfl
  have F__law_fault := fun_mk (st := s__law_fault) l__law_fault c__law_fault k__law_fault
  have b__law_fault := F__law_fault.binds (ps := ["e"]) fun _ _ _ _ _ _ us hl => match us, hl with | [_], _ => rfl
  have F__law_asked := fun_mk (st := s__law_asked) l__law_asked c__law_asked k__law_asked
  have b__law_asked := F__law_asked.binds (ps := ["bag", "kind", "number"]) fun _ _ _ _ _ _ us hl => match us, hl with | [_, _, _], _ => rfl
  have F__law_due := fun_mk (st := s__law_due) l__law_due c__law_due k__law_due
  have b__law_due := F__law_due.binds (ps := ["model", "kind", "number"]) fun _ _ _ _ _ _ us hl => match us, hl with | [_, _, _], _ => rfl
  have F__law_sent := fun_mk (st := s__law_sent) l__law_sent c__law_sent k__law_sent
  have b__law_sent := F__law_sent.binds (ps := ["bag", "model", "row"]) fun _ _ _ _ _ _ us hl => match us, hl with | [_, _, _], _ => rfl
  have F__law_linked := fun_mk (st := s__law_linked) l__law_linked c__law_linked k__law_linked
  have b__law_linked := F__law_linked.binds (ps := ["bag", "model", "row", "messages"]) fun _ _ _ _ _ _ us hl => match us, hl with | [_, _, _, _], _ => rfl
  have F__law_twin := fun_mk (st := s__law_twin) l__law_twin c__law_twin k__law_twin
  have b__law_twin := F__law_twin.binds (ps := ["model"]) fun _ _ _ _ _ _ us hl => match us, hl with | [_], _ => rfl
  have F_law := fun_mk (st := s_law) l_law c_law k_law
  have b_law := F_law.binds (ps := ["script"]) fun _ _ _ _ _ _ us hl => match us, hl with | [_], _ => rfl
  let T : Txt K mg := ⟨C_Bag, ⟨pg_Bag, hd_Bag, po_Bag, sa_Bag⟩, PySem.W.mg_of X G aC_Bag, na_Bag__messages, na_Bag__next_number, na_Bag__cut_links, C_CrossError, PySem.W.mg_of X G aC_CrossError, ⟨xb_CrossError, xd_CrossError, xt_CrossError⟩, C_Malformed, PySem.W.mg_of X G aC_Malformed, ⟨xb_Malformed, xd_Malformed, xt_Malformed⟩, C_NoMessage, PySem.W.mg_of X G aC_NoMessage, ⟨xb_NoMessage, xd_NoMessage, xt_NoMessage⟩, C_LinkCut, PySem.W.mg_of X G aC_LinkCut, ⟨xb_LinkCut, xd_LinkCut, xt_LinkCut⟩, ⟨xq_NoMessage, xk_NoMessage, xb_NoMessage, xt_NoMessage, ⟨x1_NoMessage, x2_NoMessage, xb_NoMessage, xd_NoMessage, x3_NoMessage, x4_NoMessage, x5_NoMessage, x6_NoMessage⟩, x7_NoMessage⟩, xs_NoMessage_CrossError, xs_NoMessage_Malformed, xs_NoMessage_LinkCut, xv_NoMessage, ⟨xq_LinkCut, xk_LinkCut, xb_LinkCut, xt_LinkCut, ⟨x1_LinkCut, x2_LinkCut, xb_LinkCut, xd_LinkCut, x3_LinkCut, x4_LinkCut, x5_LinkCut, x6_LinkCut⟩, x7_LinkCut⟩, xs_LinkCut_CrossError, xs_LinkCut_Malformed, xs_LinkCut_NoMessage, xv_LinkCut, f_Bag___init__, _, F_Bag___init__, b_Bag___init__, ⟨mk_Bag, a_Bag___init__, i_Bag___init__, kc_Bag⟩, f_Bag_send, _, F_Bag_send, b_Bag_send, ⟨a_Bag_send, i_Bag_send, k_Bag_send⟩, f_Bag_message, _, F_Bag_message, b_Bag_message, ⟨a_Bag_message, i_Bag_message, k_Bag_message⟩, f_Bag_take, _, F_Bag_take, b_Bag_take, ⟨a_Bag_take, i_Bag_take, k_Bag_take⟩, f_Bag_drop, _, F_Bag_drop, b_Bag_drop, ⟨a_Bag_drop, i_Bag_drop, k_Bag_drop⟩, f_Bag_is_cut, _, F_Bag_is_cut, b_Bag_is_cut, ⟨a_Bag_is_cut, i_Bag_is_cut, k_Bag_is_cut⟩, f_Bag_double, _, F_Bag_double, b_Bag_double, ⟨a_Bag_double, i_Bag_double, k_Bag_double⟩, f_Bag_numbers, _, F_Bag_numbers, b_Bag_numbers, ⟨a_Bag_numbers, i_Bag_numbers, k_Bag_numbers⟩, f_Bag_cut, _, F_Bag_cut, b_Bag_cut, ⟨a_Bag_cut, i_Bag_cut, k_Bag_cut⟩, f_Bag_heal, _, F_Bag_heal, b_Bag_heal, ⟨a_Bag_heal, i_Bag_heal, k_Bag_heal⟩, f_Bag_links, _, F_Bag_links, b_Bag_links, ⟨a_Bag_links, i_Bag_links, k_Bag_links⟩, f_Bag_fork, _, F_Bag_fork, b_Bag_fork, ⟨a_Bag_fork, i_Bag_fork, k_Bag_fork⟩, f__law_row, _, F__law_row, b__law_row, PySem.W.mg_of X G a__law_row, f__law_digits, _, F__law_digits, b__law_digits, PySem.W.mg_of X G a__law_digits, f__law_agrees, _, F__law_agrees, b__law_agrees, PySem.W.mg_of X G a__law_agrees, f__law_fault, _, F__law_fault, b__law_fault, PySem.W.mg_of X G a__law_fault, f__law_asked, _, F__law_asked, b__law_asked, PySem.W.mg_of X G a__law_asked, f__law_due, _, F__law_due, b__law_due, PySem.W.mg_of X G a__law_due, f__law_sent, _, F__law_sent, b__law_sent, PySem.W.mg_of X G a__law_sent, f__law_linked, _, F__law_linked, b__law_linked, PySem.W.mg_of X G a__law_linked, f__law_twin, _, F__law_twin, b__law_twin, PySem.W.mg_of X G a__law_twin, fa, _, F_law, b_law, PySem.W.mg_of X G a_law, PySem.W.mg_none_of X G z_ValueError, PySem.W.mg_none_of X G z_bool, PySem.W.mg_none_of X G z_dict, PySem.W.mg_none_of X G z_int, PySem.W.mg_none_of X G z_isinstance, PySem.W.mg_none_of X G z_len, PySem.W.mg_none_of X G z_list, PySem.W.mg_none_of X G z_range, PySem.W.mg_none_of X G z_sorted⟩
  exact ⟨PySem.W.fnOf "law" "law" (defArgs s_law) (defBody s_law) (defScope s_law) .none kV_law dc_law pm_law an_law cd_law ct_law, fun s v => .of_eq rfl, fun base _ _ => ok_law T⟩
end K13
open PySem PySem.W PyProof.Rows
set_option maxRecDepth 100000 in
set_option maxHeartbeats 0 in
theorem PySem.Challenge.cw_crosskeep_k13_bags_hold_messages_holds : PySem.Challenge.rw_crosskeep_k13_bags_hold_messages.Holds := by
  w_on; o_law; k_head; (case hw => w_witness2)
  k_fill
  refine L2.walk_of (l := PySem.Challenge.rw_crosskeep_k13_bags_hold_messages) (n := 63) (k := 5) (x := "script") (CX := fun _ => L2.CX0) (sp := fun w => K13.sp_law _) rfl (by decide) rfl ⟨rfl, by decide, by decide⟩ (fun w h Y => PySem.W.kIn_of Y) ?F (fun _ _ a ns hl _ hS => ⟨a, ns, rfl, hS, hl, fun _ => rfl⟩) (fun _ _ _ _ _ h => h)
  case F =>
    intro w mg fa h KX G hmg
    refine' K13.all_mk KX G hmg ?aC_Bag ?pg_Bag ?hd_Bag ?po_Bag ?sa_Bag ?mk_Bag ?kc_Bag ?na_Bag__messages ?na_Bag__next_number ?na_Bag__cut_links ?aC_CrossError ?xb_CrossError ?xd_CrossError ?xt_CrossError ?aC_Malformed ?xb_Malformed ?xd_Malformed ?xt_Malformed ?aC_NoMessage ?xb_NoMessage ?xd_NoMessage ?xt_NoMessage ?aC_LinkCut ?xb_LinkCut ?xd_LinkCut ?xt_LinkCut ?xq_NoMessage ?xk_NoMessage ?x1_NoMessage ?x2_NoMessage ?x3_NoMessage ?x4_NoMessage ?x5_NoMessage ?x6_NoMessage ?x7_NoMessage ?xs_NoMessage_CrossError ?xs_NoMessage_Malformed ?xs_NoMessage_LinkCut ?xv_NoMessage ?xq_LinkCut ?xk_LinkCut ?x1_LinkCut ?x2_LinkCut ?x3_LinkCut ?x4_LinkCut ?x5_LinkCut ?x6_LinkCut ?x7_LinkCut ?xs_LinkCut_CrossError ?xs_LinkCut_Malformed ?xs_LinkCut_NoMessage ?xv_LinkCut ?a_Bag___init__ ?i_Bag___init__ ?l_Bag___init__ ?c_Bag___init__ ?k_Bag___init__ ?a_Bag_send ?i_Bag_send ?l_Bag_send ?c_Bag_send ?k_Bag_send ?a_Bag_message ?i_Bag_message ?l_Bag_message ?c_Bag_message ?k_Bag_message ?a_Bag_take ?i_Bag_take ?l_Bag_take ?c_Bag_take ?k_Bag_take ?a_Bag_drop ?i_Bag_drop ?l_Bag_drop ?c_Bag_drop ?k_Bag_drop ?a_Bag_is_cut ?i_Bag_is_cut ?l_Bag_is_cut ?c_Bag_is_cut ?k_Bag_is_cut ?a_Bag_double ?i_Bag_double ?l_Bag_double ?c_Bag_double ?k_Bag_double ?a_Bag_numbers ?i_Bag_numbers ?l_Bag_numbers ?c_Bag_numbers ?k_Bag_numbers ?a_Bag_cut ?i_Bag_cut ?l_Bag_cut ?c_Bag_cut ?k_Bag_cut ?a_Bag_heal ?i_Bag_heal ?l_Bag_heal ?c_Bag_heal ?k_Bag_heal ?a_Bag_links ?i_Bag_links ?l_Bag_links ?c_Bag_links ?k_Bag_links ?a_Bag_fork ?i_Bag_fork ?l_Bag_fork ?c_Bag_fork ?k_Bag_fork ?a__law_row ?l__law_row ?c__law_row ?k__law_row ?a__law_digits ?l__law_digits ?c__law_digits ?k__law_digits ?a__law_agrees ?l__law_agrees ?c__law_agrees ?k__law_agrees ?a__law_fault ?l__law_fault ?c__law_fault ?k__law_fault ?a__law_asked ?l__law_asked ?c__law_asked ?k__law_asked ?a__law_due ?l__law_due ?c__law_due ?k__law_due ?a__law_sent ?l__law_sent ?c__law_sent ?k__law_sent ?a__law_linked ?l__law_linked ?c__law_linked ?k__law_linked ?a__law_twin ?l__law_twin ?c__law_twin ?k__law_twin ?a_law ?l_law ?c_law ?k_law ?z_ValueError ?z_bool ?z_dict ?z_int ?z_isinstance ?z_len ?z_list ?z_range ?z_sorted
    (case aC_Bag => k_is)
    (case pg_Bag => k_is)
    (case hd_Bag => k_is)
    (case po_Bag => k_is)
    (case sa_Bag => k_is)
    (case mk_Bag => k_is)
    (case kc_Bag => k_is)
    (case na_Bag__messages => k_is)
    (case na_Bag__next_number => k_is)
    (case na_Bag__cut_links => k_is)
    (case aC_CrossError => k_is)
    (case xb_CrossError => k_is)
    (case xd_CrossError => k_is)
    (case xt_CrossError => k_is)
    (case aC_Malformed => k_is)
    (case xb_Malformed => k_is)
    (case xd_Malformed => k_is)
    (case xt_Malformed => k_is)
    (case aC_NoMessage => k_is)
    (case xb_NoMessage => k_is)
    (case xd_NoMessage => k_is)
    (case xt_NoMessage => k_is)
    (case aC_LinkCut => k_is)
    (case xb_LinkCut => k_is)
    (case xd_LinkCut => k_is)
    (case xt_LinkCut => k_is)
    (case xq_NoMessage => k_exc)
    (case xk_NoMessage => k_is)
    (case x1_NoMessage => k_is)
    (case x2_NoMessage => k_is)
    (case x3_NoMessage => k_is)
    (case x4_NoMessage => k_is)
    (case x5_NoMessage => k_is)
    (case x6_NoMessage => k_is)
    (case x7_NoMessage => k_is)
    (case xs_NoMessage_CrossError => k_is)
    (case xs_NoMessage_Malformed => k_is)
    (case xs_NoMessage_LinkCut => k_is)
    (case xv_NoMessage => k_is)
    (case xq_LinkCut => k_exc)
    (case xk_LinkCut => k_is)
    (case x1_LinkCut => k_is)
    (case x2_LinkCut => k_is)
    (case x3_LinkCut => k_is)
    (case x4_LinkCut => k_is)
    (case x5_LinkCut => k_is)
    (case x6_LinkCut => k_is)
    (case x7_LinkCut => k_is)
    (case xs_LinkCut_CrossError => k_is)
    (case xs_LinkCut_Malformed => k_is)
    (case xs_LinkCut_NoMessage => k_is)
    (case xv_LinkCut => k_is)
    (case a_Bag___init__ => k_is)
    (case i_Bag___init__ => k_is)
    (case l_Bag___init__ => k_is)
    (case c_Bag___init__ => k_is)
    (case k_Bag___init__ => k_is)
    (case a_Bag_send => k_is)
    (case i_Bag_send => k_is)
    (case l_Bag_send => k_is)
    (case c_Bag_send => k_is)
    (case k_Bag_send => k_is)
    (case a_Bag_message => k_is)
    (case i_Bag_message => k_is)
    (case l_Bag_message => k_is)
    (case c_Bag_message => k_is)
    (case k_Bag_message => k_is)
    (case a_Bag_take => k_is)
    (case i_Bag_take => k_is)
    (case l_Bag_take => k_is)
    (case c_Bag_take => k_is)
    (case k_Bag_take => k_is)
    (case a_Bag_drop => k_is)
    (case i_Bag_drop => k_is)
    (case l_Bag_drop => k_is)
    (case c_Bag_drop => k_is)
    (case k_Bag_drop => k_is)
    (case a_Bag_is_cut => k_is)
    (case i_Bag_is_cut => k_is)
    (case l_Bag_is_cut => k_is)
    (case c_Bag_is_cut => k_is)
    (case k_Bag_is_cut => k_is)
    (case a_Bag_double => k_is)
    (case i_Bag_double => k_is)
    (case l_Bag_double => k_is)
    (case c_Bag_double => k_is)
    (case k_Bag_double => k_is)
    (case a_Bag_numbers => k_is)
    (case i_Bag_numbers => k_is)
    (case l_Bag_numbers => k_is)
    (case c_Bag_numbers => k_is)
    (case k_Bag_numbers => k_is)
    (case a_Bag_cut => k_is)
    (case i_Bag_cut => k_is)
    (case l_Bag_cut => k_is)
    (case c_Bag_cut => k_is)
    (case k_Bag_cut => k_is)
    (case a_Bag_heal => k_is)
    (case i_Bag_heal => k_is)
    (case l_Bag_heal => k_is)
    (case c_Bag_heal => k_is)
    (case k_Bag_heal => k_is)
    (case a_Bag_links => k_is)
    (case i_Bag_links => k_is)
    (case l_Bag_links => k_is)
    (case c_Bag_links => k_is)
    (case k_Bag_links => k_is)
    (case a_Bag_fork => k_is)
    (case i_Bag_fork => k_is)
    (case l_Bag_fork => k_is)
    (case c_Bag_fork => k_is)
    (case k_Bag_fork => k_is)
    (case a__law_row => k_is)
    (case l__law_row => k_is)
    (case c__law_row => k_is)
    (case k__law_row => k_is)
    (case a__law_digits => k_is)
    (case l__law_digits => k_is)
    (case c__law_digits => k_is)
    (case k__law_digits => k_is)
    (case a__law_agrees => k_is)
    (case l__law_agrees => k_is)
    (case c__law_agrees => k_is)
    (case k__law_agrees => k_is)
    (case a__law_fault => k_is)
    (case l__law_fault => k_is)
    (case c__law_fault => k_is)
    (case k__law_fault => k_is)
    (case a__law_asked => k_is)
    (case l__law_asked => k_is)
    (case c__law_asked => k_is)
    (case k__law_asked => k_is)
    (case a__law_due => k_is)
    (case l__law_due => k_is)
    (case c__law_due => k_is)
    (case k__law_due => k_is)
    (case a__law_sent => k_is)
    (case l__law_sent => k_is)
    (case c__law_sent => k_is)
    (case k__law_sent => k_is)
    (case a__law_linked => k_is)
    (case l__law_linked => k_is)
    (case c__law_linked => k_is)
    (case k__law_linked => k_is)
    (case a__law_twin => k_is)
    (case l__law_twin => k_is)
    (case c__law_twin => k_is)
    (case k__law_twin => k_is)
    (case a_law => k_is)
    (case l_law => k_is)
    (case c_law => k_is)
    (case k_law => k_is)
    (case z_ValueError => k_is)
    (case z_bool => k_is)
    (case z_dict => k_is)
    (case z_int => k_is)
    (case z_isinstance => k_is)
    (case z_len => k_is)
    (case z_list => k_is)
    (case z_range => k_is)
    (case z_sorted => k_is)
#print axioms PySem.Challenge.cw_crosskeep_k13_bags_hold_messages_holds

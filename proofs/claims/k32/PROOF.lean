import PyProof.Rows.All
import Wide.All
import OpenK.AllK
import Wide.FinOn
import HandS.ForMost
import HandS.TryOnly
import HandS.IsInst
import HandS.Evl
import HandS.Wide
import HandS.TupAny
import HandS.SortInts
import HandS.Style
import HandS.Strs
import HandS.SetFor
import HandS.Conv
import HandS.More
import HandS.Walk
import HandS.WideBits
import HandS.Property
import HandS.TupLe
import HandS.Defaults
import HandS.Deep
import HandS.RevRange
import PyProof.StrOps2
import HandS.TupMul
import HandS.DictComp
import KE.GoesMore
import PySem.Challenge.RW_crosskeep_k32_attempts
set_option Elab.async false
set_option linter.all false
set_option maxRecDepth 100000
set_option maxHeartbeats 4000000

/-! ## readings, one step at a time (a layer of our own over the hand layer) -/
namespace Xk
open PySem PySem.Spec PyProof.Rows L2

section
variable {K : PySem.W.Frag} {σ : L2.St} {H H0 H1 H2 : Hp} {Q : VK} {ta tb tc te : TE} {t u : TT} {D : Ends} {tz tu tw : TS} {g : TG} {x y z v : V} {i j : Int} {b : Bool}

/-! ### values -/
theorem rel_ref {a : Addr} : RelV (.ref a) (.ref a) := rfl
theorem rel_ty {T : String} : RelV (.ty T) (.type T) := rfl
theorem rel_int {tk : Tok} : RelV (.int i) (.int i tk) := ⟨tk, rfl⟩
theorem rel_str {s : Str} {tk : Tok} : RelV (.str s) (.str s tk) := ⟨tk, rfl⟩

/-! ### heaps -/
/-- nothing stands at p -/
structure Fr (p : Addr) (H : Hp) : Prop where
  is : H p = none
theorem same_fr {p : Addr} {o : HO} (h : Fr p H) : Same H (upd H p o) := fun c x e => by
  rw [upd_ne (ne_of_none e h.is)]
  exact e
theorem same_new {p : Addr} {o : HO} (h : H p = none) : Same H (upd H p o) := fun c x e => by
  rw [upd_ne (ne_of_none e h)]
  exact e
theorem same_mut {p : Addr} {o : HO} (e : Same H H1) (h : Fr p H) : Same H (upd H1 p o) := fun c x ha => by
  rw [upd_ne (ne_of_none ha h.is)]
  exact e c x ha
theorem same_at {a : Addr} {o : HO} (e : Same H H1) (h : H a = some o) : H1 a = some o := e a o h
theorem free_back {p : Addr} (h : Fr p H1) (e : Same H H1) : Fr p H := ⟨Same.free e h.is⟩
theorem ne_new {a p : Addr} {o : HO} (h' : Fr p H) (h : H a = some o) : a ≠ p := ne_of_none h h'.is
theorem sq_of {a : Addr} {xs : List V} (h : H a = some (.lst xs)) : SqL K H a xs := Or.inl (Or.inl h)
theorem st_of {a : Addr} {xs : List V} (h : H a = some (.tup xs)) : SqT K H a xs := Or.inl (Or.inl h)
theorem sq_same {a : Addr} {xs : List V} (h : SqL K H a xs) (e : Same H H1) : SqL K H1 a xs := e.seq h
theorem st_same {a : Addr} {xs : List V} (h : SqT K H a xs) (e : Same H H1) : SqT K H1 a xs := by
  rcases h with (h | ⟨o, h⟩) | h
  · exact .inl (.inl (e _ _ h))
  · exact .inl (.inr ⟨o, e _ _ h⟩)
  · exact .inr h
theorem size_ok {n : Nat} (h : n ≤ 100000) : n ≤ sizeLine := Nat.le_trans h (by decide)
theorem size_lt {n : Nat} (h : n < 100000) : n < sizeLine := Nat.lt_of_lt_of_le h (by decide)

/-- all that was tracked but at p is as it was -/
def But (p : Addr) (H H' : Hp) : Prop := ∀ b o, b ≠ p → H b = some o → H' b = some o
theorem But.refl (p : Addr) (H : Hp) : But p H H := fun _ _ _ h => h
theorem but_same {p : Addr} (e : Same H H1) : But p H H1 := fun b o _ h => e b o h
theorem but_trans {p : Addr} (e : But p H H1) (e' : But p H1 H2) : But p H H2 := fun b o n h => e' b o n (e b o n h)
theorem but_mut {p : Addr} {o : HO} (e : But p H H1) : But p H (upd H1 p o) := fun b u n h => by
  rw [upd_ne n]
  exact e b u n h
theorem but_new {p q : Addr} {o : HO} (e : But p H H1) (h : Fr q H) : But p H (upd H1 q o) := fun b u n g => by
  rw [upd_ne (ne_of_none g h.is)]
  exact e b u n g
theorem but_at {p a : Addr} {o : HO} (e : But p H H1) (n : a ≠ p) (h : H a = some o) : H1 a = some o := e a o n h
theorem none_but {p a : Addr} {o u : HO} (h : H p = some o) (e : But p H H1) (h1 : H1 p = some u) (ha : Fr a H1) : Fr a H := by
  refine ⟨?_⟩
  cases q : H a with
  | none => rfl
  | some v =>
    by_cases n : a = p
    · subst n
      rw [ha.is] at h1
      cases h1
    · have := e a v n q
      rw [ha.is] at this
      cases this
theorem fr_upd {p q : Addr} {o : HO} (h : Fr p (upd H q o)) : Fr p H := by
  refine ⟨?_⟩
  have h1 := h.is
  unfold upd at h1
  split at h1
  · cases h1
  · exact h1
theorem same_but {p : Addr} (e : But p H H1) (h : Fr p H0) (e0 : Same H0 H) : Same H0 H1 := fun b o g => e b o (ne_of_none g h.is) (e0 b o g)

/-! ### expressions -/
theorem x_var {n : Nat} (h : σ[n]? = some (some v)) (q : Q v H) : tVar n σ H Q := ⟨v, h, q⟩
theorem x_c (q : Q v H) : tC v σ H Q := q
theorem x_op {r : R2} (q : ta σ H fun x H1 => tb σ H1 fun y H2 => r x y H2 Q) : tOp r ta tb σ H Q := q
theorem x_un {r : V → Hp → VK → Prop} (q : ta σ H fun x H1 => r x H1 Q) : tUn r ta σ H Q := q
theorem x_I0 {f : Int → Int → V} (q : Q (f i j) H) : rI0 f (.int i) (.int j) H Q := ⟨i, j, rfl, rfl, q⟩
theorem x_I {C : Int → Int → Prop} {f : Int → Int → V} (hc : C i j) (q : Q (f i j) H) : rI C f (.int i) (.int j) H Q := ⟨i, j, rfl, rfl, hc, q⟩
theorem x_U {f : Int → V} (q : Q (f i) H) : rU f (.int i) H Q := ⟨i, rfl, q⟩
theorem x_eq (h : scal x y = true) (q : Q (.bl (decide (x = y))) H) : rEq x y H Q := ⟨h, q⟩
theorem x_ne (h : scal x y = true) (q : Q (.bl (!decide (x = y))) H) : rNe x y H Q := ⟨h, q⟩
theorem x_ixL {p : Addr} {xs : List V} (h : SqL K H p xs) (ha : atI xs i = some v) (q : Q v H) : rIxL K (.ref p) (.int i) H Q := ⟨p, xs, i, v, rfl, rfl, h, ha, q⟩
theorem x_ixT {p : Addr} {xs : List V} (h : SqT K H p xs) (ha : atI xs i = some v) (q : Q v H) : rIxT K (.ref p) (.int i) H Q := ⟨p, xs, i, v, rfl, rfl, h, ha, q⟩
theorem x_ixS {w : Str} {c : Nat} (h : w.length ≤ 100000) (ha : atI w.cps.toList i = some c) (q : Q (.str ⟨#[c]⟩) H) : rIxS (.str w) (.int i) H Q := ⟨w, i, c, rfl, rfl, size_ok h, ha, q⟩
theorem x_nil {R : List V → Hp → Prop} (q : R [] H) : tNil σ H R := q
theorem x_cons {tr : TA} {R : List V → Hp → Prop} (q : ta σ H fun x H1 => tr σ H1 fun xs H2 => R (x :: xs) H2) : tCons ta tr σ H R := q
def New (Q : VK) (o : HO) (n : Nat) (H : Hp) : Prop := n ≤ sizeLine ∧ ∀ p, H p = none → Q (.ref p) (upd H p o)
theorem x_lst {tr : TA} (q : tr σ H fun xs H1 => New Q (.lst xs) xs.length H1) : tLst tr σ H Q := q
theorem x_tup {tr : TA} (q : tr σ H fun xs H1 => New Q (.tup xs) xs.length H1) : tTup tr σ H Q := q
/-- what is new is told by what it holds; the heap gets a name -/
theorem x_new {n : Nat} {o : HO} (hl : n ≤ 100000) (k : ∀ p H2, Fr p H → Same H H2 → H2 p = some o → Q (.ref p) H2) : New Q o n H :=
  ⟨size_ok hl, fun p hp => k p _ ⟨hp⟩ (same_new hp) upd_same⟩
theorem x_new1 {o : HO} (k : ∀ p H2, Fr p H → Same H H2 → H2 p = some o → Q (.ref p) H2) : ∀ p, H p = none → Q (.ref p) (upd H p o) :=
  fun p hp => k p _ ⟨hp⟩ (same_new hp) upd_same
theorem x_cb {r : List V → Hp → VK → Prop} {tr : TA} (q : tr σ H fun vs H1 => r vs H1 Q) : tCB r tr σ H Q := q
theorem x_call {sp : Sp} {dvs : List V} {E : XK} {tr : TA} (q : tr σ H fun vs H1 => sp (vs ++ dvs) H1 Q E) : tCall sp dvs E tr σ H Q := q
theorem x_sl {r : V → Option Int → Option Int → Hp → VK → Prop} {tl th : TO} (q : te σ H fun x H1 => tl σ H1 fun l H2 => th σ H2 fun u H3 => r x l u H3 Q) : tSl r te tl th σ H Q := q
theorem x_nopart {R : Option Int → Hp → Prop} (q : R none H) : tNoPart σ H R := q
theorem x_part {R : Option Int → Hp → Prop} (q : te σ H fun x H1 => ∃ i, x = .int i ∧ R (some i) H1) : tPart te σ H R := q
theorem x_if (q : t σ H fun c H1 => if c = true then ta σ H1 Q else tb σ H1 Q) : tIf t ta tb σ H Q := q
theorem x_andV (q : ta σ H fun x H1 => ∃ c, x = .bl c ∧ if c = true then tb σ H1 Q else Q (.bl false) H1) : tAndV ta tb σ H Q := q
theorem x_orV (q : ta σ H fun x H1 => ∃ c, x = .bl c ∧ if c = true then Q (.bl true) H1 else tb σ H1 Q) : tOrV ta tb σ H Q := q
theorem x_notV (q : ta σ H fun x H1 => ∃ c, x = .bl c ∧ Q (.bl (!c)) H1) : tNotV ta σ H Q := q
theorem x_bl {R : Bool → Prop} (q : R b) : ∃ c, V.bl b = .bl c ∧ R c := ⟨b, rfl, q⟩
theorem x_isI {R : Int → Prop} (q : R i) : ∃ c, V.int i = .int c ∧ R c := ⟨i, rfl, q⟩

/-! ### built-ins by names -/
def nInt : List V → Hp → VK → Prop := fun xs H Q => (∃ i, xs = [.int i] ∧ Q (.int i) H) ∨ ∃ k, xs = [.bl k] ∧ Q (.int (if k then 1 else 0)) H
theorem call_nInt {X : Cx} : CallR X (.type "int") nInt := call_int1
theorem x_nInt (q : Q (.int i) H) : nInt [.int i] H Q := .inl ⟨i, rfl, q⟩
theorem x_nIntB (q : Q (.int (if b then 1 else 0)) H) : nInt [.bl b] H Q := .inr ⟨b, rfl, q⟩
def nLen (K : PySem.W.Frag) : List V → Hp → VK → Prop := fun xs H Q => ∃ p ys, xs = [.ref p] ∧ (SqL K H p ys ∨ SqT K H p ys) ∧ Q (.int ys.length) H
theorem call_nLen {X : Cx} : CallR X (.builtin "len") (nLen X.K) := call_len_seq
theorem x_lenL {p : Addr} {ys : List V} (h : SqL K H p ys) (q : Q (.int ys.length) H) : nLen K [.ref p] H Q := ⟨p, ys, rfl, .inl h, q⟩
theorem x_lenT {p : Addr} {ys : List V} (h : SqT K H p ys) (q : Q (.int ys.length) H) : nLen K [.ref p] H Q := ⟨p, ys, rfl, .inr h, q⟩
def nListOf (K : PySem.W.Frag) : List V → Hp → VK → Prop := fun xs H Q => ∃ p ys, xs = [.ref p] ∧ (SqL K H p ys ∨ SqT K H p ys) ∧ ∀ l, H l = none → Q (.ref l) (upd H l (.lst ys))
theorem call_nListOf {X : Cx} : CallR X (.type "list") (nListOf X.K) := call_list_of
theorem x_listL {p : Addr} {ys : List V} (h : SqL K H p ys) (k : ∀ l H2, Fr l H → Same H H2 → H2 l = some (.lst ys) → Q (.ref l) H2) : nListOf K [.ref p] H Q := ⟨p, ys, rfl, .inl h, x_new1 k⟩
theorem x_listT {p : Addr} {ys : List V} (h : SqT K H p ys) (k : ∀ l H2, Fr l H → Same H H2 → H2 l = some (.lst ys) → Q (.ref l) H2) : nListOf K [.ref p] H Q := ⟨p, ys, rfl, .inr h, x_new1 k⟩
def nTupleOf (K : PySem.W.Frag) : List V → Hp → VK → Prop := fun xs H Q => ∃ p ys, xs = [.ref p] ∧ ((SqL K H p ys ∧ ∀ l, H l = none → Q (.ref l) (upd H l (.tup ys))) ∨ (SqT K H p ys ∧ Q (.ref p) H))
theorem call_nTupleOf {X : Cx} : CallR X (.type "tuple") (nTupleOf X.K) := call_tuple_of
theorem x_tupleL {p : Addr} {ys : List V} (h : SqL K H p ys) (k : ∀ l H2, Fr l H → Same H H2 → H2 l = some (.tup ys) → Q (.ref l) H2) : nTupleOf K [.ref p] H Q := ⟨p, ys, rfl, .inl ⟨h, x_new1 k⟩⟩
theorem x_tupleT {p : Addr} {ys : List V} (h : SqT K H p ys) (q : Q (.ref p) H) : nTupleOf K [.ref p] H Q := ⟨p, ys, rfl, .inr ⟨h, q⟩⟩
theorem kit_T {a c : String} (h : kitB a c = some true) : kitB a c = some true := h
theorem kit_F {a c : String} (h : kitB a c = some false) : kitB a c = some false := h
theorem x_isi {c : String} {tt : String} {k : Bool} (ty : TyX K H x (.type tt)) (e : kitB tt c = some k) (q : Q (.bl k) H) : rIsi K [x, .ty c] H Q := ⟨x, .ty c, .type tt, .type c, k, rfl, .ty _, ty, kit_ty e, q⟩
theorem x_isiInt {c : String} {k : Bool} (e : kitB "int" c = some k) (q : Q (.bl k) H) : rIsi K [.int i, .ty c] H Q := x_isi (.base (.int i)) e q
theorem x_isiBl {c : String} {k b : Bool} (e : kitB "bool" c = some k) (q : Q (.bl k) H) : rIsi K [.bl b, .ty c] H Q := x_isi (.base (.bl b)) e q
theorem x_isiStr {c : String} {k : Bool} {s : Str} (e : kitB "str" c = some k) (q : Q (.bl k) H) : rIsi K [.str s, .ty c] H Q := x_isi (.base (.str s)) e q
theorem x_isiNon {c : String} {k : Bool} (e : kitB "NoneType" c = some k) (q : Q (.bl k) H) : rIsi K [.non, .ty c] H Q := x_isi (.base .non) e q
theorem x_isiLst {c : String} {k : Bool} {a : Addr} {xs : List V} (h : H a = some (.lst xs)) (e : kitB "list" c = some k) (q : Q (.bl k) H) : rIsi K [.ref a, .ty c] H Q := x_isi (.base (.lst h)) e q
theorem x_isiTup {c : String} {k : Bool} {a : Addr} {xs : List V} (h : H a = some (.tup xs)) (e : kitB "tuple" c = some k) (q : Q (.bl k) H) : rIsi K [.ref a, .ty c] H Q := x_isi (.base (.tup h)) e q

def nSorted (K : PySem.W.Frag) : List V → Hp → VK → Prop := fun vs H Q => ∃ (a : Addr) (ns : List Int), vs = [V.ref a] ∧ SqL K H a (ns.map V.int) ∧ ns.length < 64 ∧
  ∀ (ns' : List Int) (p : Addr), ns'.Perm ns → ns'.Pairwise (· ≤ ·) → H p = none → Q (.ref p) (upd H p (.lst (ns'.map V.int)))
theorem x_sorted {a : Addr} {ns : List Int} (h : SqL K H a (ns.map V.int)) (hl : ns.length < 64) (k : ∀ p H2 (ns' : List Int), ns'.Perm ns → ns'.Pairwise (· ≤ ·) → Fr p H → Same H H2 → H2 p = some (.lst (ns'.map V.int)) → Q (.ref p) H2) : rSorted K [.ref a] H Q :=
  ⟨a, ns, rfl, h, hl, fun ns' p h1 h2 h3 => k p _ ns' h1 h2 ⟨h3⟩ (same_new h3) upd_same⟩
/-- set(t), t a tuple of ints -/
def rSetOfI (K : PySem.W.Frag) (w : World) : List V → Hp → VK → Prop := fun vs H Q => ∃ (p : Addr) (ns : List Int), vs = [V.ref p] ∧ SqT K H p (ns.map V.int) ∧ ns.length ≤ 1000 ∧ ∀ a n, H a = none → n ≤ ns.length → Q (.ref a) (upd H a (SetO w a (fun j => decide (j ∈ ns)) n))
theorem cr_setOfI {X : Cx} (hc : X.calm = true) : CallR X (.type "set") (rSetOfI X.K X.w) := by
  intro pins s σ H xs us Q I r h
  obtain ⟨p0, ns, rfl, hq, hl, q⟩ := h
  cases r with
  | cons r rr =>
    cases rr
    cases r
    obtain ⟨its, rv, pt, hz⟩ := I.tuple hq
    have hi : IntsAre its.toArray.toList ns := ints_of_vals rv
    have hd := I.ok.hd hc
    refine call_set_tupI ns hd (show s.heap.IsTuple p0 its.toArray from pt) hi (by unfold scanBound; omega) fun h' tk c R1 hcn k => ?_
    exact ⟨.ref _, upd H s.heap.objs.size (SetO X.w s.heap.objs.size (fun j => decide (j ∈ ns)) c), I.laid (t' := tk) k (Nat.le_refl _) (setO_new R1), rfl, q _ _ (I.hok.fresh (Nat.le_refl _)) hcn⟩
theorem x_setOfI {w : World} {p : Addr} {ns : List Int} (h : SqT K H p (ns.map V.int)) (hl : ns.length ≤ 1000) (k : ∀ a H2 n, Fr a H → Same H H2 → H2 a = some (SetO w a (fun j => decide (j ∈ ns)) n) → n ≤ ns.length → Q (.ref a) H2) : rSetOfI K w [.ref p] H Q :=
  ⟨p, ns, rfl, h, hl, fun a n h1 h2 => k a _ n ⟨h1⟩ (same_new h1) upd_same h2⟩
theorem x_sortedSet {w : World} {a : Addr} {S : Int → Bool} {n : Nat} (h : H a = some (SetO w a S n)) (hl : n < 64) (k : ∀ p H2 (ns : List Int), ns.Pairwise (· < ·) → (∀ k : Int, k ∈ ns ↔ S k = true) → ns.length = n → Fr p H → Same H H2 → H2 p = some (.lst (ns.map V.int)) → Q (.ref p) H2) : rSortedSet w [.ref a] H Q :=
  ⟨a, S, n, rfl, h, hl, fun ns p h1 h2 h3 h4 => k p _ ns h1 h2 h3 ⟨h4⟩ (same_new h4) upd_same⟩
theorem x_all {a : Addr} {bs : List Bool} (h : SqL K H a (bs.map V.bl)) (q : Q (.bl (bs.all id)) H) : rAll K [.ref a] H Q := ⟨a, bs, rfl, h, q⟩
theorem x_any {a : Addr} {bs : List Bool} (h : SqL K H a (bs.map V.bl)) (q : Q (.bl (bs.any id)) H) : rAny K [.ref a] H Q := ⟨a, bs, rfl, h, q⟩
theorem x_sum {a : Addr} {ns : List Int} (h : SqL K H a (ns.map V.int)) (q : Q (.int ns.sum) H) : rSum K [.ref a] H Q := ⟨a, ns, rfl, h, q⟩
theorem x_inL {p : Addr} {xs : List V} (h : SqL K H p xs) (hx : flatV x = true) (ha : xs.all flatV = true) (q : Q (.bl (inV x xs)) H) : rIn K false x (.ref p) H Q := ⟨p, xs, rfl, .inl h, hx, ha, q⟩
theorem x_inT {p : Addr} {xs : List V} (h : SqT K H p xs) (hx : flatV x = true) (ha : xs.all flatV = true) (q : Q (.bl (inV x xs)) H) : rIn K false x (.ref p) H Q := ⟨p, xs, rfl, .inr h, hx, ha, q⟩
theorem x_niL {p : Addr} {xs : List V} (h : SqL K H p xs) (hx : flatV x = true) (ha : xs.all flatV = true) (q : Q (.bl (!inV x xs)) H) : rIn K true x (.ref p) H Q := ⟨p, xs, rfl, .inl h, hx, ha, q⟩
theorem x_niT {p : Addr} {xs : List V} (h : SqT K H p xs) (hx : flatV x = true) (ha : xs.all flatV = true) (q : Q (.bl (!inV x xs)) H) : rIn K true x (.ref p) H Q := ⟨p, xs, rfl, .inr h, hx, ha, q⟩
theorem flat_ints : ∀ ns : List Int, (ns.map V.int).all flatV = true
  | [] => rfl
  | n :: r => by
    rw [List.map_cons, List.all_cons, flat_ints r]
    rfl
theorem in_ints (i : Int) : ∀ ns : List Int, inV (.int i) (ns.map V.int) = decide (i ∈ ns)
  | [] => by simp [inV]
  | n :: r => by
    have h := in_ints i r
    unfold inV at h ⊢
    rw [List.map_cons, List.any_cons, h]
    by_cases e : n = i
    · subst e
      simp [eqV]
    · have e' : ¬ i = n := fun z => e z.symm
      simp [eqV, e, e']

def nIsN : R2 := fun x y H Q => y = .non ∧ Q (.bl (decide (x = .non))) H
def nNotN : R2 := fun x y H Q => y = .non ∧ Q (.bl (!decide (x = .non))) H
theorem op_nIsN {X : Cx} : OpR X (compareOp .Is) nIsN := op_isN
theorem op_nNotN {X : Cx} : OpR X (compareOp .IsNot) nNotN := op_notN
theorem x_nIsN (q : Q (.bl (decide (x = .non))) H) : nIsN x .non H Q := ⟨rfl, q⟩
theorem x_nNotN (q : Q (.bl (!decide (x = .non))) H) : nNotN x .non H Q := ⟨rfl, q⟩
def nAndM : R2 := fun x y H Q => ∃ (i : Int) (k : Nat), x = .int i ∧ y = .int (2 ^ k - 1) ∧ Q (.int (i % 2 ^ k)) H
theorem op_nAndM {X : Cx} : OpR X (binaryOp .BitAnd) nAndM := op_andM
theorem x_and255 (q : Q (.int (i % 256)) H) : nAndM (.int i) (.int 255) H Q := ⟨i, 8, rfl, rfl, q⟩

/-! ### the same rules, K told: within a comprehension's block too -/
section
variable {X : Cx} {w : World}
theorem k_in (e : X.K = K) : OpR X (compareOp .In) (rIn K false) := e ▸ op_in_seq
theorem k_enum {e : Expr} {ta : TA} {p pos tpos : Pos} {elts : List Expr} {kk : Nat} (hk : X.K = K) (hg : Gl X "enumerate") (hm : X.mg "enumerate" = none) (ha : PA X [e] ta) (hs : starEach [e] X.env = [(false, eval e X.env)] := by rfl) :
    PI X (.Tuple elts kk tpos) (.Call (.Name "enumerate" p) [e] [] pos) (iEnum K ta) := hk ▸ pi_enum hg hm ha hs
theorem k_gtup {es : List Expr} {k : Nat} {pos : Pos} {gs : TGs} {n : Nat} (hk : X.K = K) (hc : X.calm = true) (h : PGs X es gs)
    (hn : (assignEach es X.env).length = n := by rfl) (hst : (assignEach es X.env).findIdx? (·.1) = none := by rfl) : PG X (.Tuple es k pos) (gTup K n gs) := hk ▸ pg_tup hc h hn hst
theorem k_nin (e : X.K = K) : OpR X (compareOp .NotIn) (rIn K true) := e ▸ op_notIn_seq
theorem k_ixL (e : X.K = K) : IxR X (rIxL K) := e ▸ ix_list
theorem k_ixT (e : X.K = K) : IxR X (rIxT K) := e ▸ ix_tup
theorem k_slL (e : X.K = K) : SlR X (rSlL K) := e ▸ sl_list
theorem k_len (e : X.K = K) : CallR X (.builtin "len") (nLen K) := e ▸ call_nLen
theorem k_list (e : X.K = K) : CallR X (.type "list") (nListOf K) := e ▸ call_nListOf
theorem k_tuple (e : X.K = K) : CallR X (.type "tuple") (nTupleOf K) := e ▸ call_nTupleOf
theorem k_isi (e : X.K = K) : CallR X (.builtin "isinstance") (rIsi K) := e ▸ call_isi
theorem k_all (hc : X.calm = true) (e : X.K = K) : CallR X (.builtin "all") (rAll K) := e ▸ cr_all hc
theorem k_any (hc : X.calm = true) (e : X.K = K) : CallR X (.builtin "any") (rAny K) := e ▸ cr_any hc
theorem k_sum (hc : X.calm = true) (e : X.K = K) : CallR X (.builtin "sum") (rSum K) := e ▸ cr_sum hc
theorem k_sorted (e : X.K = K) : CallR X (.builtin "sorted") (rSorted K) := e ▸ cr_sorted
theorem k_sortedS (e : X.K = K) : CallR X (.builtin "sorted") (rSortedS K) := e ▸ cr_sortedS
theorem k_sortedSet (hc : X.calm = true) (e : X.w = w) : CallR X (.builtin "sorted") (rSortedSet w) := e ▸ cr_sortedSet hc
theorem k_setOfI (hc : X.calm = true) (e : X.K = K) (e' : X.w = w) : CallR X (.type "set") (rSetOfI K w) := e ▸ e' ▸ cr_setOfI hc
theorem k_eqD (hu : X.A.units + 64 < cLine) (e : X.K = K) : OpR X (compareOp .Eq) (rEqD K) := e ▸ op_eqD hu
theorem k_neD (hu : X.A.units + 64 < cLine) (e : X.K = K) : OpR X (compareOp .NotEq) (rNeD K) := e ▸ op_neD hu
end

/-! ### tests -/
theorem x_test {R : Bool → Hp → Prop} (q : te σ H fun x H1 => ∃ k, x = .bl k ∧ R k H1) : tTest te σ H R := q
theorem x_B {R : Bool → Hp → Prop} (q : te σ H fun x H1 => ∃ k, x = .bl k ∧ R k H1) : tB te σ H R := q
theorem x_and {R : Bool → Hp → Prop} (q : t σ H fun c H1 => if c = true then u σ H1 R else R false H1) : tAnd t u σ H R := q
theorem x_or {R : Bool → Hp → Prop} (q : t σ H fun c H1 => if c = true then R true H1 else u σ H1 R) : tOr t u σ H R := q
theorem x_not {R : Bool → Hp → Prop} (q : t σ H fun c H1 => R (!c) H1) : tNot t σ H R := q
theorem x_yes {R : Bool → Hp → Prop} (q : R true H) : tYes σ H R := q
theorem x_chain {r r' : R2} (q : ta σ H fun x H1 => tb σ H1 fun y H2 => r x y H2 fun z H3 => ∃ k, z = .bl k ∧ (if k = true then tc σ H3 fun w' H4 => r' y w' H4 Q else Q (.bl false) H3)) : tChain r r' ta tb tc σ H Q := q
theorem x_itd {p A B : Prop} [Decidable p] (h1 : p → A) (h2 : ¬p → B) : if decide p = true then A else B := by
  by_cases h : p
  · rw [if_pos (decide_eq_true h)]
    exact h1 h
  · rw [if_neg (by rw [decide_eq_false h]; decide)]
    exact h2 h
theorem x_itn {p A B : Prop} [Decidable p] (h1 : ¬p → A) (h2 : p → B) : if (!decide p) = true then A else B := by
  by_cases h : p
  · rw [decide_eq_true h, if_neg (by decide)]
    exact h2 h
  · rw [decide_eq_false h, if_pos (by decide)]
    exact h1 h
theorem x_itb {A B : Prop} (h1 : b = true → A) (h2 : b = false → B) : if b = true then A else B := by
  cases b with
  | true => rw [if_pos rfl]; exact h1 rfl
  | false => rw [if_neg (by decide)]; exact h2 rfl
theorem x_itnb {A B : Prop} (h1 : b = false → A) (h2 : b = true → B) : if (!b) = true then A else B := by
  cases b with
  | true => exact h2 rfl
  | false => exact h1 rfl

theorem x_nT {A B : Prop} (h : B) : if (!true) = true then A else B := h
theorem x_nF {A B : Prop} (h : A) : if (!false) = true then A else B := h
theorem x_dY {p A B : Prop} [Decidable p] (hp : p) (h : A) : if decide p = true then A else B := x_itd (fun _ => h) fun z => absurd hp z
theorem x_dN {p A B : Prop} [Decidable p] (hp : ¬p) (h : B) : if decide p = true then A else B := x_itd (fun z => absurd z hp) fun _ => h
theorem x_ndY {p A B : Prop} [Decidable p] (hp : p) (h : B) : if (!decide p) = true then A else B := x_itn (fun z => absurd hp z) fun _ => h
theorem x_ndN {p A B : Prop} [Decidable p] (hp : ¬p) (h : A) : if (!decide p) = true then A else B := x_itn (fun _ => h) fun z => absurd z hp

/-! ### statements -/
theorem x_seq (q : tu { D with nx := tz D } σ H) : tSeq tu tz D σ H := q
theorem x_sasg {n : Nat} (q : te σ H fun v H1 => tz D (σ.set n (some v)) H1) : tSeq (tAsg te (gName n)) tz D σ H := q
theorem x_asg {n : Nat} (q : te σ H fun v H1 => D.nx (σ.set n (some v)) H1) : tAsg te (gName n) D σ H := q
theorem x_sasgG (q : te σ H fun v H1 => g v σ H1 (tz D)) : tSeq (tAsg te g) tz D σ H := q
theorem x_asgG (q : te σ H fun v H1 => g v σ H1 D.nx) : tAsg te g D σ H := q
theorem x_ret (q : te σ H D.rt) : tRet te D σ H := q
theorem x_retN (q : D.rt .non H) : tRetN D σ H := q
theorem x_next (q : D.nx σ H) : tNext D σ H := q
theorem x_brk (q : D.bk σ H) : tBreak D σ H := q
theorem x_ct (q : D.ct σ H) : tCont D σ H := q
theorem x_sif (q : t σ H fun b H1 => if b = true then tu { D with nx := tz D } σ H1 else tw { D with nx := tz D } σ H1) : tSeq (tIfS t tu tw) tz D σ H := q
theorem x_ifS (q : t σ H fun b H1 => if b = true then tu D σ H1 else tw D σ H1) : tIfS t tu tw D σ H := q
theorem x_sdrop (q : te σ H fun _ H1 => tz D σ H1) : tSeq (tDrop te) tz D σ H := q
theorem x_drop (q : te σ H fun _ H1 => D.nx σ H1) : tDrop te D σ H := q
theorem x_saug {n : Nat} {ti : TIp} (h : σ[n]? = some (some x)) (q : te σ H fun y H1 => ti x y H1 fun z H2 => tz D (σ.set n (some z)) H2) : tSeq (tAug n te ti) tz D σ H := ⟨x, h, q⟩
theorem x_aug {n : Nat} {ti : TIp} (h : σ[n]? = some (some x)) (q : te σ H fun y H1 => ti x y H1 fun z H2 => D.nx (σ.set n (some z)) H2) : tAug n te ti D σ H := ⟨x, h, q⟩
theorem x_ipI {f : Int → Int → Int} (q : Q (.int (f i j)) H) : ipI f (.int i) (.int j) H Q := ⟨i, j, rfl, rfl, q⟩
/-- an if, then the rest: what follows is shown once -/
theorem x_cut (M : L2.St → Hp → Prop) (h : tu { D with nx := M } σ H) (k : ∀ σ' H', M σ' H' → tz D σ' H') : Evl.tCut tu tz D σ H := ⟨M, h, k⟩
theorem x_nocut (h : tu { D with nx := tz D } σ H) : Evl.tCut tu tz D σ H := ⟨_, h, fun _ _ q => q⟩

theorem x_nocutW (h : tSeq (tWhile t tu) tz D σ H) : Evl.tCut (tWhile t tu) tz D σ H := ⟨_, h, fun _ _ q => q⟩

/-! ### targets -/
theorem x_gName {n : Nat} {R : L2.St → Hp → Prop} (q : R (σ.set n (some v)) H) : gName n v σ H R := q
theorem x_gTup {n : Nat} {gs : TGs} {R : L2.St → Hp → Prop} {a : Addr} {xs : List V} (h : SqT K H a xs) (hn : xs.length = n) (q : gs xs σ H R) : gTup K n gs (.ref a) σ H R := ⟨a, xs, rfl, h, hn, q⟩
theorem x_gLst {n : Nat} {gs : TGs} {R : L2.St → Hp → Prop} {a : Addr} {xs : List V} (h : SqL K H a xs) (hn : xs.length = n) (q : gs xs σ H R) : gLst K n gs (.ref a) σ H R := ⟨a, xs, rfl, h, hn, q⟩
theorem x_gCons {gs : TGs} {R : L2.St → Hp → Prop} {vs : List V} (q : g v σ H fun σ' H' => gs vs σ' H' R) : gCons g gs (v :: vs) σ H R := ⟨v, vs, rfl, q⟩
theorem x_gNil {R : L2.St → Hp → Prop} (q : R σ H) : gNil [] σ H R := ⟨rfl, q⟩
theorem x_gSub {to ti : TE} {ts : TSet} {R : L2.St → Hp → Prop} (q : to σ H fun o H1 => ti σ H1 fun i H2 => ts o i v H2 fun H3 => R σ H3) : gSub to ti ts v σ H R := q
theorem ixN_nat {n j : Nat} (hj : j < n) : ixN n (j : Int) = some j := by
  unfold ixN
  rw [if_pos (by omega), if_pos (by omega)]
  simp
theorem ixN_of {n j : Nat} {k : Int} (e : k = (j : Int)) (hj : j < n) : ixN n k = some j := by
  rw [e]
  exact ixN_nat hj
theorem at_nat {α : Type} {xs : List α} {k : Int} {j : Nat} {v : α} (e : k = (j : Int)) (h : xs[j]? = some v) : atI xs k = some v := by
  rw [e]
  exact atI_nat h
theorem at_neg {α : Type} {xs : List α} {k : Int} {j : Nat} {v : α} (hk : k < 0) (e : k + (xs.length : Int) = (j : Int)) (h : xs[j]? = some v) : atI xs k = some v := by
  unfold atI ixN
  rw [if_neg (by omega), if_pos (by omega)]
  have e2 : (k + (xs.length : Int)).toNat = j := by omega
  rw [e2]
  exact h
theorem x_setL {p : Addr} {xs : List V} {k : Int} {j : Nat} {R : Hp → Prop} (h : H p = some (.lst xs)) (hj : ixN xs.length k = some j) (q : R (upd H p (.lst (xs.set j v)))) : rSetL (.ref p) (.int k) v H R := ⟨p, xs, k, j, rfl, rfl, h, hj, q⟩
/-- xs.append(e) -/
theorem x_bm {T : String} {r : V → List V → Hp → VK → Prop} {tr : TA} (q : te σ H fun x H1 => tyV K T x H1 ∧ tr σ H1 fun xs H2 => r x xs H2 Q) : tBM K T r te tr σ H Q := q
theorem x_bm0 {T : String} {r : V → List V → Hp → VK → Prop} (q : te σ H fun x H1 => tyV K T x H1 ∧ r x [] H1 Q) : tBM0 K T r te σ H Q := q
theorem x_tyL {a : Addr} {xs : List V} {P : Prop} (h : SqL K H a xs) (q : P) : tyV K "list" (.ref a) H ∧ P := ⟨.inl ⟨rfl, xs, h⟩, q⟩
theorem x_app {l : Addr} {xs : List V} (h : H l = some (.lst xs)) (hz : xs.length < 100000) (q : Q .non (upd H l (.lst (xs ++ [v])))) : rAppend (.ref l) [v] H Q := ⟨l, xs, v, rfl, rfl, h, size_lt hz, q⟩
theorem x_cat {a c : Addr} {xs ys : List V} (h : H a = some (.lst xs)) (h' : H c = some (.lst ys)) (hz : xs.length + ys.length ≤ 100000) (k : ∀ p H2, Fr p H → Same H H2 → H2 p = some (.lst (xs ++ ys)) → Q (.ref p) H2) : rCat (.ref a) (.ref c) H Q :=
  ⟨a, c, xs, ys, rfl, rfl, h, h', size_ok hz, x_new1 k⟩
theorem x_slL {a : Addr} {xs : List V} {lo hi : Option Int} (h : SqL K H a xs) (k : ∀ p H2, Fr p H → Same H H2 → H2 p = some (.lst (cutV xs lo hi)) → Q (.ref p) H2) : rSlL K (.ref a) lo hi H Q := ⟨a, xs, rfl, h, x_new1 k⟩

/-! ### loops -/
theorem x_forR {n : Nat} (q : te σ H fun x H1 => ∃ m : Int, x = .int m ∧ 0 ≤ m ∧ m ≤ 100000 ∧ ∃ Pv : Nat → L2.St → Hp → Prop, Pv 0 σ H1 ∧
      (∀ (i : Nat) σ' H', (i : Int) < m → Pv i σ' H' → tu { D with nx := Pv (i + 1), ct := Pv (i + 1), bk := D.nx } (σ'.set n (some (.int (i : Int)))) H') ∧ (∀ σ' H', Pv m.toNat σ' H' → D.nx σ' H'))
    (mono : ∀ Q Q' : VK, (∀ v H1, Q v H1 → Q' v H1) → te σ H Q → te σ H Q') : tFor (iRng1 (tCons te tNil)) (gName n) tu D σ H := by
  refine mono _ _ (fun v H1 h => ?_) q
  obtain ⟨m, rfl, h0, h1, Pv, p0, ps, pd⟩ := h
  refine ⟨m, rfl, by omega, by omega, for_range (lo := 0) (n := m.toNat) Pv p0 (fun i σ' H' hi p => ?_) pd⟩
  have e0 : (0 : Int) + (i : Int) = (i : Int) := Int.zero_add _
  show tu { D with nx := Pv (i + 1), ct := Pv (i + 1), bk := D.nx } (σ'.set n (some (.int ((0 : Int) + (i : Int))))) H'
  rw [e0]
  exact ps i σ' H' (by omega) p
def RRange (n : Nat) (m : Int) (tu : TS) (D : Ends) (σ : L2.St) (H : Hp) : Prop := ∃ Pv : Nat → L2.St → Hp → Prop, Pv 0 σ H ∧
      (∀ (i : Nat) σ' H', (i : Int) < m → Pv i σ' H' → tu { D with nx := Pv (i + 1), ct := Pv (i + 1), bk := D.nx } (σ'.set n (some (.int (i : Int)))) H') ∧ (∀ σ' H', Pv m.toNat σ' H' → D.nx σ' H')
def rRange (n : Nat) (tu : TS) (D : Ends) (σ : L2.St) : List V → Hp → Prop := fun vs H => ∃ j : Int, vs = [.int j] ∧ -(2 ^ 62) ≤ j ∧ j < 2 ^ 62 ∧ ∃ W : Nat → Nat → L2.St → Hp → Prop, (∃ m, W 0 m σ H) ∧ ∀ i m σ H, W i m σ H →
  ((Itr 0 j.toNat).stop i H ∧ D.nx σ H) ∨ ((Itr 0 j.toNat).go i H ∧ ∃ N : L2.St → Hp → Prop, (∀ σ' H', N σ' H' → ∃ m', m' < m ∧ W (i + 1) m' σ' H') ∧ ∀ x H', (Itr 0 j.toNat).yld i H x H' → gName n x σ H' fun σ2 H2 => tu { D with nx := N, ct := N, bk := D.nx } σ2 H2)
theorem x_forR1 {n : Nat} {tr : TA} (q : tr σ H (rRange n tu D σ)) : tFor (iRng1 tr) (gName n) tu D σ H := q
theorem x_range {n : Nat} {m : Int} (Pv : Nat → L2.St → Hp → Prop) (hm : 0 ≤ m ∧ m ≤ 100000) (p0 : Pv 0 σ H)
    (ps : ∀ (i : Nat) σ' H', (i : Int) < m → Pv i σ' H' → tu { D with nx := Pv (i + 1), ct := Pv (i + 1), bk := D.nx } (σ'.set n (some (.int (i : Int)))) H') (pd : ∀ σ' H', Pv m.toNat σ' H' → D.nx σ' H') : rRange n tu D σ [.int m] H := by
  refine ⟨m, rfl, by omega, by omega, for_range (lo := 0) (n := m.toNat) Pv p0 (fun i σ' H' hi p => ?_) pd⟩
  have e0 : (0 : Int) + (i : Int) = (i : Int) := Int.zero_add _
  show tu { D with nx := Pv (i + 1), ct := Pv (i + 1), bk := D.nx } (σ'.set n (some (.int ((0 : Int) + (i : Int))))) H'
  rw [e0]
  exact ps i σ' H' (by omega) p
def rForL (K : PySem.W.Frag) (g : TG) (tu : TS) (D : Ends) (σ : L2.St) : VK := fun x H => ∃ a, x = .ref a ∧ (∃ xs, SqL K H a xs) ∧ ∃ W : Nat → Nat → L2.St → Hp → Prop, (∃ m, W 0 m σ H) ∧ ∀ i m σ H, W i m σ H →
  ((Itl K a).stop i H ∧ D.nx σ H) ∨ ((Itl K a).go i H ∧ ∃ N : L2.St → Hp → Prop, (∀ σ' H', N σ' H' → ∃ m', m' < m ∧ W (i + 1) m' σ' H') ∧ ∀ x H', (Itl K a).yld i H x H' → g x σ H' fun σ2 H2 => tu { D with nx := N, ct := N, bk := D.nx } σ2 H2)
theorem x_forL1 (q : te σ H (rForL K g tu D σ)) : tFor (iList K te) g tu D σ H := q
theorem x_forL {a : Addr} {xs : List V} (Pv : Nat → L2.St → Hp → Prop) (hx : SqL K H a xs) (p0 : Pv 0 σ H) (hl : ∀ i σ' H', i ≤ xs.length → Pv i σ' H' → SqL K H' a xs)
    (ps : ∀ i x σ' H', xs[i]? = some x → Pv i σ' H' → g x σ' H' fun σ2 H2 => tu { D with nx := Pv (i + 1), ct := Pv (i + 1), bk := D.nx } σ2 H2) (pd : ∀ σ' H', Pv xs.length σ' H' → D.nx σ' H') : rForL K g tu D σ (.ref a) H :=
  ⟨a, rfl, ⟨xs, hx⟩, for_list Pv p0 hl ps pd⟩
def rForT (K : PySem.W.Frag) (g : TG) (tu : TS) (D : Ends) (σ : L2.St) : VK := fun x H => ∃ a, x = .ref a ∧ (∃ xs, SqT K H a xs) ∧ ∃ W : Nat → Nat → L2.St → Hp → Prop, (∃ m, W 0 m σ H) ∧ ∀ i m σ H, W i m σ H →
  ((Itt K a).stop i H ∧ D.nx σ H) ∨ ((Itt K a).go i H ∧ ∃ N : L2.St → Hp → Prop, (∀ σ' H', N σ' H' → ∃ m', m' < m ∧ W (i + 1) m' σ' H') ∧ ∀ x H', (Itt K a).yld i H x H' → g x σ H' fun σ2 H2 => tu { D with nx := N, ct := N, bk := D.nx } σ2 H2)
theorem x_forT1 (q : te σ H (rForT K g tu D σ)) : tFor (iTup K te) g tu D σ H := q
theorem x_forT {a : Addr} {xs : List V} (Pv : Nat → L2.St → Hp → Prop) (hx : SqT K H a xs) (p0 : Pv 0 σ H) (hl : ∀ i σ' H', i ≤ xs.length → Pv i σ' H' → SqT K H' a xs)
    (ps : ∀ i x σ' H', xs[i]? = some x → Pv i σ' H' → g x σ' H' fun σ2 H2 => tu { D with nx := Pv (i + 1), ct := Pv (i + 1), bk := D.nx } σ2 H2) (pd : ∀ σ' H', Pv xs.length σ' H' → D.nx σ' H') : rForT K g tu D σ (.ref a) H :=
  ⟨a, rfl, ⟨xs, hx⟩, for_tup Pv p0 hl ps pd⟩
/-- while: W by a number that falls -/
def Falls (W : Nat → L2.St → Hp → Prop) (m : Nat) : L2.St → Hp → Prop := fun σ' H' => ∃ m', m' < m ∧ W m' σ' H'
theorem x_while (W : Nat → L2.St → Hp → Prop) (m0 : Nat) (h0 : W m0 σ H) (hs : ∀ m σ' H', W m σ' H' → t σ' H' fun b H1 => if b = true then tu { D with nx := Falls W m, ct := Falls W m, bk := D.nx } σ' H1 else D.nx σ' H1)
    (mono : ∀ (σ' : L2.St) (H' : Hp) (R R' : Bool → Hp → Prop), (∀ y H4, R y H4 → R' y H4) → t σ' H' R → t σ' H' R') : tWhile t tu D σ H :=
  ⟨W, ⟨m0, h0⟩, fun m σ' H' hw => mono _ _ _ _ (fun b H1 q => by
    cases b with
    | true =>
      rw [if_pos rfl] at q ⊢
      exact ⟨Falls W m, fun _ _ h => h, q⟩
    | false =>
      rw [if_neg (by decide)] at q ⊢
      exact q) (hs m σ' H' hw)⟩
def WTurn (W : Nat → L2.St → Hp → Prop) (m : Nat) (tu : TS) (D : Ends) (σ : L2.St) : Bool → Hp → Prop := fun b H1 => if b = true then ∃ N : L2.St → Hp → Prop, (∀ σ' H', N σ' H' → ∃ m', m' < m ∧ W m' σ' H') ∧ tu { D with nx := N, ct := N, bk := D.nx } σ H1 else D.nx σ H1
theorem x_while1 (W : Nat → L2.St → Hp → Prop) (m0 : Nat) (h0 : W m0 σ H) (hs : ∀ m σ' H', W m σ' H' → t σ' H' (WTurn W m tu D σ')) : tWhile t tu D σ H := ⟨W, ⟨m0, h0⟩, hs⟩
theorem x_wT {W : Nat → L2.St → Hp → Prop} {m : Nat} (q : tu { D with nx := Falls W m, ct := Falls W m, bk := D.nx } σ H) : WTurn W m tu D σ true H := by
  unfold WTurn
  rw [if_pos rfl]
  exact ⟨Falls W m, fun _ _ h => h, q⟩
theorem x_wF {W : Nat → L2.St → Hp → Prop} {m : Nat} (q : D.nx σ H) : WTurn W m tu D σ false H := by
  unfold WTurn
  rw [if_neg (by decide)]
  exact q
theorem x_wd {W : Nat → L2.St → Hp → Prop} {m : Nat} {p : Prop} [Decidable p] (h1 : p → WTurn W m tu D σ true H) (h2 : ¬p → WTurn W m tu D σ false H) : WTurn W m tu D σ (decide p) H := by
  by_cases h : p
  · rw [decide_eq_true h]
    exact h1 h
  · rw [decide_eq_false h]
    exact h2 h
theorem x_wn {W : Nat → L2.St → Hp → Prop} {m : Nat} {p : Prop} [Decidable p] (h1 : ¬p → WTurn W m tu D σ true H) (h2 : p → WTurn W m tu D σ false H) : WTurn W m tu D σ (!decide p) H := by
  by_cases h : p
  · rw [decide_eq_true h]
    exact h2 h
  · rw [decide_eq_false h]
    exact h1 h

/-! ### comprehensions -/
def RLc (J : It) (g : TG) (tt : TT) (te : TE) (vs : List Nat) (σ : L2.St) (Q : VK) : Hp → Prop := fun H1 => ∀ D, H1 D = none → ∃ W : Nat → Nat → Hp → Prop, (∃ m, W 0 m (upd H1 D (.lst []))) ∧ ∀ i m H, W i m H →
  (J.stop i H ∧ Q (.ref D) H) ∨ (J.go i H ∧ ∃ Nx : Hp → Prop, (∀ H', Nx H' → ∃ m', m' < m ∧ W (i + 1) m' H') ∧ ∀ x H', J.yld i H x H' → g x (wipe σ vs) H' fun σ2 H2 => wipe σ2 vs = wipe σ vs ∧ tt σ2 H2 fun b H3 =>
    if b = true then te σ2 H3 fun y H4 => ∃ acc, H4 D = some (.lst acc) ∧ acc.length < sizeLine ∧ Nx (upd H4 D (.lst (acc ++ [y]))) else Nx H3)
def rLcL (K : PySem.W.Frag) (g : TG) (tt : TT) (te : TE) (vs : List Nat) (σ : L2.St) (Q : VK) : VK := fun x H1 => ∃ a, x = .ref a ∧ (∃ xs, SqL K H1 a xs) ∧ RLc (Itl K a) g tt te vs σ Q H1
def rLcT (K : PySem.W.Frag) (g : TG) (tt : TT) (te : TE) (vs : List Nat) (σ : L2.St) (Q : VK) : VK := fun x H1 => ∃ a, x = .ref a ∧ (∃ xs, SqT K H1 a xs) ∧ RLc (Itt K a) g tt te vs σ Q H1
def rLcR (g : TG) (tt : TT) (te : TE) (vs : List Nat) (σ : L2.St) (Q : VK) : List V → Hp → Prop := fun xs H1 => ∃ j : Int, xs = [.int j] ∧ -(2 ^ 62) ≤ j ∧ j < 2 ^ 62 ∧ RLc (Itr 0 j.toNat) g tt te vs σ Q H1
theorem x_lcL1 {tx : TE} {vs : List Nat} (q : tx σ H (rLcL K g t te vs σ Q)) : tLc (iList K tx) g t te vs σ H Q := q
theorem x_lcT1 {tx : TE} {vs : List Nat} (q : tx σ H (rLcT K g t te vs σ Q)) : tLc (iTup K tx) g t te vs σ H Q := q
theorem x_lcR1 {tr : TA} {vs : List Nat} (q : tr σ H (rLcR g t te vs σ Q)) : tLc (iRng1 tr) g t te vs σ H Q := q
/-- a list comprehension: Pv of the new list's place, the turn and the heap -/
theorem x_lcL {a : Addr} {xs : List V} {vs : List Nat} (Pv : Addr → Nat → Hp → Prop) (hx : SqL K H a xs) (h0 : ∀ Dl, Fr Dl H → Pv Dl 0 (upd H Dl (.lst []))) (hl : ∀ Dl i H', Fr Dl H → Pv Dl i H' → SqL K H' a xs)
    (hs : ∀ Dl, Fr Dl H → ∀ i x H', xs[i]? = some x → Pv Dl i H' → g x (wipe σ vs) H' fun σ2 H2 => wipe σ2 vs = wipe σ vs ∧ t σ2 H2 fun b H3 =>
      if b = true then te σ2 H3 fun y H4 => ∃ acc, H4 Dl = some (.lst acc) ∧ acc.length < sizeLine ∧ Pv Dl (i + 1) (upd H4 Dl (.lst (acc ++ [y]))) else Pv Dl (i + 1) H3)
    (hd : ∀ Dl H', Fr Dl H → Pv Dl xs.length H' → Q (.ref Dl) H') : rLcL K g t te vs σ Q (.ref a) H := ⟨a, rfl, ⟨xs, hx⟩, fun Dl hD =>
  lc_list (xs := xs) (Pv Dl) (h0 Dl ⟨hD⟩) (fun i H' _ p => hl Dl i H' ⟨hD⟩ p) (fun i x H' hi p => hs Dl ⟨hD⟩ i x H' hi p) (fun H' p => hd Dl H' ⟨hD⟩ p)⟩
theorem x_lcT {a : Addr} {xs : List V} {vs : List Nat} (Pv : Addr → Nat → Hp → Prop) (hx : SqT K H a xs) (h0 : ∀ Dl, Fr Dl H → Pv Dl 0 (upd H Dl (.lst []))) (hl : ∀ Dl i H', Fr Dl H → Pv Dl i H' → SqT K H' a xs)
    (hs : ∀ Dl, Fr Dl H → ∀ i x H', xs[i]? = some x → Pv Dl i H' → g x (wipe σ vs) H' fun σ2 H2 => wipe σ2 vs = wipe σ vs ∧ t σ2 H2 fun b H3 =>
      if b = true then te σ2 H3 fun y H4 => ∃ acc, H4 Dl = some (.lst acc) ∧ acc.length < sizeLine ∧ Pv Dl (i + 1) (upd H4 Dl (.lst (acc ++ [y]))) else Pv Dl (i + 1) H3)
    (hd : ∀ Dl H', Fr Dl H → Pv Dl xs.length H' → Q (.ref Dl) H') : rLcT K g t te vs σ Q (.ref a) H := ⟨a, rfl, ⟨xs, hx⟩, fun Dl hD =>
  lc_tup (xs := xs) (Pv Dl) (h0 Dl ⟨hD⟩) (fun i H' _ p => hl Dl i H' ⟨hD⟩ p) (fun i x H' hi p => hs Dl ⟨hD⟩ i x H' hi p) (fun H' p => hd Dl H' ⟨hD⟩ p)⟩
theorem x_lcR {m : Int} {vs : List Nat} (Pv : Addr → Nat → Hp → Prop) (hm : 0 ≤ m ∧ m ≤ 100000) (h0 : ∀ Dl, Fr Dl H → Pv Dl 0 (upd H Dl (.lst [])))
    (hs : ∀ Dl, Fr Dl H → ∀ (i : Nat) H', (i : Int) < m → Pv Dl i H' → g (.int (i : Int)) (wipe σ vs) H' fun σ2 H2 => wipe σ2 vs = wipe σ vs ∧ t σ2 H2 fun b H3 =>
      if b = true then te σ2 H3 fun y H4 => ∃ acc, H4 Dl = some (.lst acc) ∧ acc.length < sizeLine ∧ Pv Dl (i + 1) (upd H4 Dl (.lst (acc ++ [y]))) else Pv Dl (i + 1) H3)
    (hd : ∀ Dl H', Fr Dl H → Pv Dl m.toNat H' → Q (.ref Dl) H') : rLcR g t te vs σ Q [.int m] H := ⟨m, rfl, by omega, by omega, fun Dl hD =>
  lc_range (lo := 0) (n := m.toNat) (Pv Dl) (h0 Dl ⟨hD⟩) (fun i H' hi p => by
    have e0 : (0 : Int) + (i : Int) = (i : Int) := Int.zero_add _
    rw [e0]
    exact hs Dl ⟨hD⟩ i H' (by omega) p) (fun H' p => hd Dl H' ⟨hD⟩ p)⟩
def rLcE (K : PySem.W.Frag) (g : TG) (tt : TT) (te : TE) (vs : List Nat) (σ : L2.St) (Q : VK) : List V → Hp → Prop := fun vs' H1 => ∃ a xs, vs' = [.ref a] ∧ SqL K H1 a xs ∧ RLc (Ite K a) g tt te vs σ Q H1
theorem x_lcE1 {tr : TA} {vs : List Nat} (q : tr σ H (rLcE K g t te vs σ Q)) : tLc (iEnum K tr) g t te vs σ H Q := q
theorem x_lcE {a : Addr} {xs : List V} {vs : List Nat} (Pv : Addr → Nat → Hp → Prop) (hx : SqL K H a xs) (h0 : ∀ Dl, Fr Dl H → Pv Dl 0 (upd H Dl (.lst []))) (hl : ∀ Dl i H', Fr Dl H → Pv Dl i H' → SqL K H' a xs)
    (hs : ∀ Dl, Fr Dl H → ∀ i x H1 T H', xs[i]? = some x → Pv Dl i H1 → Fr T H1 → Same H1 H' → H' T = some (.tup [.int (i : Nat), x]) → g (.ref T) (wipe σ vs) H' fun σ2 H2 => wipe σ2 vs = wipe σ vs ∧ t σ2 H2 fun b H3 =>
      if b = true then te σ2 H3 fun y H4 => ∃ acc, H4 Dl = some (.lst acc) ∧ acc.length < sizeLine ∧ Pv Dl (i + 1) (upd H4 Dl (.lst (acc ++ [y]))) else Pv Dl (i + 1) H3)
    (hd : ∀ Dl H', Fr Dl H → Pv Dl xs.length H' → Q (.ref Dl) H') : rLcE K g t te vs σ Q [.ref a] H := ⟨a, xs, rfl, hx, fun Dl hD =>
  lc_it walk_enum (Pv Dl) (h0 Dl ⟨hD⟩) (fun i H' _ p => hl Dl i H' ⟨hD⟩ p) (fun i x H1 H' hi p y => by
    obtain ⟨T, u, v, rfl, hT, rfl, e1, e2⟩ := y
    cases Option.some.inj e1
    exact hs Dl ⟨hD⟩ i v H1 T _ e2 p ⟨hT⟩ (same_new hT) upd_same) (fun H' p => hd Dl H' ⟨hD⟩ p)⟩
/-- the end of a turn: what is kept goes into the list -/
def Keep (Dl : Addr) (N : Hp → Prop) : VK := fun y H => ∃ acc, H Dl = some (.lst acc) ∧ acc.length < sizeLine ∧ N (upd H Dl (.lst (acc ++ [y])))
theorem x_keep {Dl : Addr} {N : Hp → Prop} {acc : List V} (h : H Dl = some (.lst acc)) (hz : acc.length < 100000) (q : N (upd H Dl (.lst (acc ++ [y])))) : ∃ acc, H Dl = some (.lst acc) ∧ acc.length < sizeLine ∧ N (upd H Dl (.lst (acc ++ [y]))) := ⟨acc, h, size_lt hz, q⟩
theorem x_wiped {A : Prop} {a b : L2.St} (h : a = b) (q : A) : a = b ∧ A := ⟨h, q⟩
end

/-! ### lists -/
theorem map_at {α β : Type} {f : α → β} {xs : List α} {j : Nat} {x : α} (h : xs[j]? = some x) : (xs.map f)[j]? = some (f x) := by
  rw [List.getElem?_map, h]
  rfl
theorem of_map_at {α β : Type} {f : α → β} {xs : List α} {j : Nat} {y : β} (h : (xs.map f)[j]? = some y) : ∃ x, xs[j]? = some x ∧ y = f x := by
  rw [List.getElem?_map] at h
  obtain ⟨x, hx, rfl⟩ := Option.map_eq_some_iff.mp h
  exact ⟨x, hx, rfl⟩
theorem at_lt {α : Type} {xs : List α} {j : Nat} {x : α} (h : xs[j]? = some x) : j < xs.length := (List.getElem?_eq_some_iff.mp h).1
theorem lt_at {α : Type} {xs : List α} {j : Nat} (h : j < xs.length) : ∃ x, xs[j]? = some x := ⟨xs[j], List.getElem?_eq_getElem h⟩
theorem drop_at {α : Type} {xs : List α} {j : Nat} {x : α} (h : xs[j]? = some x) : xs.drop j = x :: xs.drop (j + 1) := by
  obtain ⟨h1, h2⟩ := List.getElem?_eq_some_iff.mp h
  rw [List.drop_eq_getElem_cons h1, h2]
theorem snoc_map {α β : Type} {f : α → β} {xs : List α} {x : α} : xs.map f ++ [f x] = (xs ++ [x]).map f := by
  rw [List.map_append]
  rfl
theorem mem_snoc {α : Type} {P : α → Prop} {xs : List α} {x : α} (h : ∀ y ∈ xs, P y) (hx : P x) : ∀ y ∈ xs ++ [x], P y := fun y hy => by
  rcases List.mem_append.mp hy with hy | hy
  · exact h y hy
  · rw [List.mem_singleton.mp hy]
    exact hx

def upto (a b : Int) : List Int := (List.range (b - a).toNat).map fun i => a + (i : Nat)
theorem rgV_ints (a b : Int) : rgV a b = (upto a b).map V.int := by
  unfold rgV upto
  rw [List.map_map]
  rfl
theorem upto_len (a b : Int) : (upto a b).length = (b - a).toNat := by
  unfold upto
  rw [List.length_map, List.length_range]
def nRg (Q : VK) : Int → Int → Hp → Prop := fun a b H1 => RgOk a b ∧ ∀ q, H1 q = none → Q (.ref q) (upd H1 q (.lst (rgV a b)))
theorem x_lstRg {σ : L2.St} {H : Hp} {Q : VK} {te : L2.St → Hp → (Int → Int → Hp → Prop) → Prop} (q : te σ H (nRg Q)) : tLstRg te σ H Q := q
theorem x_rg1 {σ : L2.St} {H : Hp} {ta : TE} {R : Int → Int → Hp → Prop} (q : ta σ H fun x H1 => ∃ n, x = .int n ∧ R 0 n H1) : tRg1 ta σ H R := q
theorem x_nRg {H : Hp} {Q : VK} {a b : Int} (h : 0 ≤ a ∧ a ≤ 100000 ∧ 0 ≤ b ∧ b ≤ 100000) (k : ∀ p H2, Fr p H → Same H H2 → H2 p = some (.lst ((upto a b).map V.int)) → Q (.ref p) H2) : nRg Q a b H :=
  ⟨RgOk.of_le (by omega) (by omega) (by omega) (by omega), fun p hp => k p _ ⟨hp⟩ (same_new hp) (by rw [upd_same, rgV_ints])⟩
theorem upto_at {a b : Int} {j : Nat} (h : (j : Int) < b - a) : (upto a b)[j]? = some (a + j) := by
  unfold upto
  rw [List.getElem?_map, List.getElem?_range (by omega)]
  rfl

/-! ### lists of lists of ints -/
/-- at a stands a list of lists of ints: L their places and what they hold -/
def LL (H : Hp) (a : Addr) (L : List (Addr × List Int)) : Prop := H a = some (.lst (L.map fun e => V.ref e.1)) ∧ ∀ e ∈ L, H e.1 = some (.lst (e.2.map V.int))
theorem ll_same {H H' : Hp} {a : Addr} {L : List (Addr × List Int)} (e : Same H H') (h : LL H a L) : LL H' a L := ⟨e _ _ h.1, fun p hp => e _ _ (h.2 p hp)⟩
theorem ll_nil {H : Hp} {a : Addr} (h : H a = some (.lst [])) : LL H a [] := ⟨h, fun _ z => absurd z List.not_mem_nil⟩
theorem ll_snoc {H H' : Hp} {a p : Addr} {ns : List Int} {L : List (Addr × List Int)} (h : LL H a L) (h1 : H' a = some (.lst ((L.map fun e => V.ref e.1) ++ [V.ref p]))) (h2 : H' p = some (.lst (ns.map V.int))) (k : ∀ e ∈ L, H' e.1 = H e.1) : LL H' a (L ++ [(p, ns)]) := by
  refine ⟨?_, fun e he => ?_⟩
  · rw [h1, List.map_append]
    rfl
  · rcases List.mem_append.mp he with he | he
    · rw [k e he]
      exact h.2 e he
    · rw [List.mem_singleton.mp he]
      exact h2

/-! ### data -/
def dInts (ns : List Int) : List PyData := ns.map PyData.int
theorem dp_ints {K : PySem.W.Frag} {H : Hp} : ∀ ns : List Int, DpAll K H (ns.map V.int) (dInts ns)
  | [] => .nil
  | n :: r => .cons (.int n) (dp_ints r)
theorem canLay_ints : ∀ ns : List Int, PyData.canLayAll0 (dInts ns) = true
  | [] => by simp [dInts, PyData.canLayAll0]
  | n :: r => by
    have h := canLay_ints r
    unfold dInts at h ⊢
    rw [List.map_cons]
    simp only [PyData.canLayAll0, PyData.canLay0, h, Bool.and_self]
theorem eqv_ints : ∀ ns ms : List Int, PyData.eqvAll (dInts ns) (dInts ms) = decide (ns = ms)
  | [], [] => by simp [dInts, PyData.eqvAll]
  | [], m :: r => by simp [dInts, PyData.eqvAll]
  | n :: r, [] => by simp [dInts, PyData.eqvAll]
  | n :: r, m :: q => by
    have h := eqv_ints r q
    unfold dInts at h ⊢
    rw [List.map_cons, List.map_cons, PyData.eqvAll, h, PyData.eqv]
    by_cases h1 : n = m <;> by_cases h2 : r = q <;> simp [h1, h2]
theorem canLayAll_map {α : Type} {f : α → PyData} : ∀ (xs : List α), (∀ x ∈ xs, (f x).canLay0 = true) → PyData.canLayAll0 (xs.map f) = true
  | [], _ => by simp [PyData.canLayAll0]
  | x :: r, h => by
    have h1 := h x List.mem_cons_self
    have h2 := canLayAll_map r fun y hy => h y (List.mem_cons_of_mem _ hy)
    rw [List.map_cons]
    simp only [PyData.canLayAll0, h1, h2, Bool.and_self]
theorem depthAll_map {α : Type} {f : α → PyData} {n : Nat} : ∀ (xs : List α), (∀ x ∈ xs, (f x).depth ≤ n) → PyData.depthAll (xs.map f) ≤ n
  | [], _ => by simp [PyData.depthAll]
  | x :: r, h => by
    have h1 := h x List.mem_cons_self
    have h2 := depthAll_map r fun y hy => h y (List.mem_cons_of_mem _ hy)
    rw [List.map_cons, PyData.depthAll]
    omega
theorem depth_ints : ∀ ns : List Int, PyData.depthAll (dInts ns) = 0
  | [] => by simp [dInts, PyData.depthAll]
  | n :: r => by
    have h := depth_ints r
    unfold dInts at h ⊢
    rw [List.map_cons, PyData.depthAll, h, PyData.depth]
    rfl
theorem shaped_lints (ns : List Int) : SeqAt.shaped (.list (dInts ns)) = true := by
  unfold SeqAt.shaped
  rw [PyData.canLay0, canLay_ints, PyData.depth, depth_ints]
  rfl
theorem shaped_tints (ns : List Int) : SeqAt.shaped (.tuple (dInts ns)) = true := by
  unfold SeqAt.shaped
  rw [PyData.canLay0, canLay_ints, PyData.depth, depth_ints]
  rfl
theorem eqv_lints (ns ms : List Int) : PyData.eqv (.list (dInts ns)) (.list (dInts ms)) = decide (ns = ms) := by
  rw [PyData.eqv]
  exact eqv_ints ns ms
theorem eqv_tints (ns ms : List Int) : PyData.eqv (.tuple (dInts ns)) (.tuple (dInts ms)) = decide (ns = ms) := by
  rw [PyData.eqv]
  exact eqv_ints ns ms
theorem shaped_of {d : PyData} (h1 : d.canLay0 = true) (h2 : d.depth ≤ 64) : SeqAt.shaped d = true := by
  unfold SeqAt.shaped
  rw [h1, decide_eq_true h2]
  rfl
theorem canLay_lints (ns : List Int) : PyData.canLay0 (.list (dInts ns)) = true := by
  rw [PyData.canLay0, canLay_ints]
theorem depth_lints (ns : List Int) : PyData.depth (.list (dInts ns)) = 1 := by
  rw [PyData.depth, depth_ints]
/-- lists of lists of ints as data -/
def dLists (ps : List (List Int)) : List PyData := ps.map fun p => .list (dInts p)
theorem canLay_lists (ps : List (List Int)) : PyData.canLayAll0 (dLists ps) = true := canLayAll_map ps fun p _ => canLay_lints p
theorem depth_lists (ps : List (List Int)) : PyData.depthAll (dLists ps) ≤ 1 := depthAll_map ps fun p _ => Nat.le_of_eq (depth_lints p)
theorem dp_list {K : PySem.W.Frag} {H : Hp} : ∀ (L : List (Addr × List Int)), (∀ e ∈ L, H e.1 = some (.lst (e.2.map V.int))) → DpAll K H (L.map fun e => V.ref e.1) (dLists (L.map (·.2)))
  | [], _ => .nil
  | e :: r, h => .cons (.lst (sq_of (h e List.mem_cons_self)) (dp_ints _)) (dp_list r fun x hx => h x (List.mem_cons_of_mem _ hx))
theorem dp_LL {K : PySem.W.Frag} {H : Hp} {a : Addr} {L : List (Addr × List Int)} (h : LL H a L) : Dp K H (.ref a) (.list (dLists (L.map (·.2)))) := .lst (sq_of h.1) (dp_list L h.2)
mutual
theorem dp_same {K : PySem.W.Frag} {H H' : Hp} (e : Same H H') : ∀ (d : PyData) (v : V), Dp K H v d → Dp K H' v d
  | .none, _, h => by cases h; exact .non
  | .bool b, _, h => by cases h; exact .bl b
  | .int i, _, h => by cases h; exact .int i
  | .str x, _, h => by cases h; exact .str x
  | .list ds, _, h => by
    cases h with
    | lst hs ha => exact .lst (sq_same hs e) (dpAll_same e ds _ ha)
  | .tuple ds, _, h => by
    cases h with
    | tup hs ha => exact .tup (st_same hs e) (dpAll_same e ds _ ha)
  | .dict _, _, h => by cases h
theorem dpAll_same {K : PySem.W.Frag} {H H' : Hp} (e : Same H H') : ∀ (ds : List PyData) (vs : List V), DpAll K H vs ds → DpAll K H' vs ds
  | [], _, h => by cases h; exact .nil
  | d :: ds, _, h => by
    cases h with
    | cons h1 h2 => exact .cons (dp_same e d _ h1) (dpAll_same e ds _ h2)
end
/-- equal data -/
theorem x_neSame {K : PySem.W.Frag} {H : Hp} {Q : VK} {x y : V} {d : PyData} (h : Dp K H x d) (h' : Dp K H y d) (c : d.canLay0 = true) (n : d.depth ≤ 64) (q : Q (.bl false) H) : rNeD K x y H Q :=
  ⟨d, d, h, h', shaped_of c n, shaped_of c n, by rw [SeqAt.eqv_refl d c]; exact q⟩
theorem x_eqSame {K : PySem.W.Frag} {H : Hp} {Q : VK} {x y : V} {d : PyData} (h : Dp K H x d) (h' : Dp K H y d) (c : d.canLay0 = true) (n : d.depth ≤ 64) (q : Q (.bl true) H) : rEqD K x y H Q :=
  ⟨d, d, h, h', shaped_of c n, shaped_of c n, by rw [SeqAt.eqv_refl d c]; exact q⟩
section
variable {K : PySem.W.Frag} {H : Hp} {Q : VK} {a c : Addr} {ns ms : List Int}
theorem x_neInts (h : SqL K H a (ns.map V.int)) (h' : SqL K H c (ms.map V.int)) (q : Q (.bl (!decide (ns = ms))) H) : rNeD K (.ref a) (.ref c) H Q :=
  ⟨.list (dInts ns), .list (dInts ms), .lst h (dp_ints ns), .lst h' (dp_ints ms), shaped_lints ns, shaped_lints ms, by rw [eqv_lints]; exact q⟩
theorem x_eqInts (h : SqL K H a (ns.map V.int)) (h' : SqL K H c (ms.map V.int)) (q : Q (.bl (decide (ns = ms))) H) : rEqD K (.ref a) (.ref c) H Q :=
  ⟨.list (dInts ns), .list (dInts ms), .lst h (dp_ints ns), .lst h' (dp_ints ms), shaped_lints ns, shaped_lints ms, by rw [eqv_lints]; exact q⟩
theorem x_neTInts (h : SqT K H a (ns.map V.int)) (h' : SqT K H c (ms.map V.int)) (q : Q (.bl (!decide (ns = ms))) H) : rNeD K (.ref a) (.ref c) H Q :=
  ⟨.tuple (dInts ns), .tuple (dInts ms), .tup h (dp_ints ns), .tup h' (dp_ints ms), shaped_tints ns, shaped_tints ms, by rw [eqv_tints]; exact q⟩
theorem x_eqTInts (h : SqT K H a (ns.map V.int)) (h' : SqT K H c (ms.map V.int)) (q : Q (.bl (decide (ns = ms))) H) : rEqD K (.ref a) (.ref c) H Q :=
  ⟨.tuple (dInts ns), .tuple (dInts ms), .tup h (dp_ints ns), .tup h' (dp_ints ms), shaped_tints ns, shaped_tints ms, by rw [eqv_tints]; exact q⟩
end
end Xk
/-! ## slices stored and deleted, properties, own objects -/
namespace Xk
open PySem PySem.Spec PyProof.Rows L2
section
variable {X : Cx} {o : Expr} {lo hi : Option Expr} {to : TE} {tl th : TO} {pos p2 tpos : Pos}
/-- o[lo:hi] = another list -/
def gSubSl (to : TE) (tl th : TO) : TG := fun v σ H R => to σ H fun x H1 => tl σ H1 fun l H2 => th σ H2 fun u H3 => ∃ (a b : Addr) (xs ys : List V) (i j : Int), x = .ref a ∧ v = .ref b ∧ l = some i ∧ u = some j ∧
  H3 a = some (.lst xs) ∧ H3 b = some (.lst ys) ∧ a ≠ b ∧ 0 ≤ i ∧ i ≤ j ∧ j ≤ xs.length ∧ xs.length + ys.length ≤ sizeLine ∧ R σ (upd H3 a (.lst (xs.take i.toNat ++ ys ++ xs.drop j.toNat)))
theorem pg_subSl (ho : PE X o to) (hl : PO X lo tl) (hu : PO X hi th)
    (ha : ∀ v, assign (.Subscript o (.Slice lo hi none p2) pos) X.env v = (do
      let ov ← holding [v] (eval o X.env)
      let iv ← holding [v, ov] (eval (.Slice lo hi none p2) X.env)
      standAt pos
      holding [v, ov, iv] (setItem ov iv v)
      release [iv, v, ov] []) := by intro _; rfl) : PG X (.Subscript o (.Slice lo hi none p2) pos) (gSubSl to tl th) := by
  refine ⟨fun pins s σ H v u Q I r h => ?_⟩
  rw [ha]
  refine wpAny_bind (wpAny_holding (thn (ho.run pins s σ H _ I h) fun ov s1 ⟨x, H1, I1, r1, q1⟩ => ?_))
  refine wpAny_bind (wpAny_holding ?_)
  refine wpAny_Slice (thn (hl.run pins s1 σ H1 _ I1 q1) fun vl s2 ⟨l, H2, I2, pl, q2⟩ => thn (hu.run pins s2 σ H2 _ I2 q2) fun vu s3 ⟨w, H3, I3, pu, q3⟩ => ?_)
  rw [evalPart_none]
  refine wpAny_pure ?_
  have I4 : Inv X pins σ H3 { s3 with heap := s3.heap.push { cls := .type "slice", data := .fields #[vl, vu, .none] } } := I3.kept (t' := s3.toks) fun b ob q => Heap.get?_push_of_some _ q
  obtain ⟨a, b, xs, ys, i, j, rfl, rfl, rfl, rfl, hA, hB, hne, h0, hij, hj, hz, q⟩ := q3
  cases r1
  cases r
  cases pl with
  | int _ ti =>
  cases pu with
  | int _ tj =>
  refine wpAny_bind (wpAny_standAt (wpAny_bind (wpAny_holding ?_)))
  exact set_slice I4 hA hB hne (Heap.IsSliceOf.new ..) ⟨_, rfl⟩ ⟨_, rfl⟩ h0 hij hj hz fun s' I5 => wpAny_release ⟨σ, _, I5, q⟩

theorem sel_take (f : Nat → Bool) (i n : Nat) (h : ∀ k : Nat, f k = (decide ((i : Int) ≤ (k : Int)) && decide ((k : Int) < (n : Int)) && (((k : Int) - (i : Int)) % 1 == 0))) :
    ∀ (xs : List Value) (m : Nat), m + xs.length ≤ n → (xs.zipIdx m).filterMap (fun (x, k) => if f k then none else some x) = xs.take (i - m)
  | [], m, hm => by simp
  | x :: r, m, hm => by
    rw [List.length_cons] at hm
    have ih := sel_take f i n h r (m + 1) (by omega)
    rw [List.zipIdx_cons, List.filterMap_cons]
    have hf : f m = decide (i ≤ m) := by
      rw [h m]
      by_cases h1 : i ≤ m
      · have h2 : (i : Int) ≤ (m : Int) := by omega
        have h3 : (m : Int) < (n : Int) := by omega
        have h4 : ((m : Int) - (i : Int)) % 1 = 0 := by omega
        rw [h4, decide_eq_true h1, decide_eq_true h2, decide_eq_true h3]
        rfl
      · have h2 : ¬ (i : Int) ≤ (m : Int) := by omega
        rw [decide_eq_false h1, decide_eq_false h2]
        rfl
    by_cases h1 : i ≤ m
    · have e : f m = true := by rw [hf, decide_eq_true h1]
      simp only [e, if_true]
      rw [ih, show i - (m + 1) = 0 by omega, show i - m = 0 by omega]
      rfl
    · have e : f m = false := by rw [hf, decide_eq_false h1]
      simp only [e]
      show x :: _ = _
      rw [ih, show i - m = (i - (m + 1)) + 1 by omega]
      rfl
theorem bounds_from {i n : Nat} (hi : i ≤ n) : sliceBounds (some (i : Int)) none none n = ((i : Int), (n : Int), 1) := by
  simp only [sliceBounds, Option.getD_none]
  have h1 : ¬ ((i : Int) < 0) := by omega
  simp only [h1, if_false, show (1 : Int) > 0 by decide, if_true]
  congr 1
  omega
section
variable {prog : Program} {w : World} {A : Around} {E : Value → Shared → Prop} {s : Shared}
open PySem.P PySem.F in
theorem delItem_tail {l sl : Addr} {items : Array Value} {n : Nat} {vl : Value} {i : Nat} {Q : Unit → Shared → Prop}
    (e : s.heap.get? l = some { cls := .type "list", data := .seq items n }) (hs : s.heap.IsSliceOf sl vl .none .none) (pl : IsPart vl (some (i : Int))) (hi : i ≤ items.size) (hsz : items.size ≤ sizeLine)
    (h : ∀ f : Array Value → Array Value, f items = (items.toList.take i).toArray → Q () { s with heap := s.heap.update l (Obj.mapSeq f) }) :
    wpAny (model prog w) A (delItem (.ref l) (.ref sl)) Q E s := by
  have hl : s.heap.IsList l items := PySem.IsL.isList e
  obtain ⟨os, hos, hcs, hds⟩ := id hs
  have hTs : s.TypeIs (.ref sl) "slice" := ⟨os, hos, hcs⟩
  have hstep : ¬ ((rawPart none == rawInt 0) = true) := Bool.false_ne_true
  unfold delItem
  refine wpAny_holding ?_
  refine wpAny_bind (wpAny_sequenceKey hl.typeIs (by decide) ?_)
  refine wpAny_bind (wpAny_callSpecial?_slot (name := Str.ofString "__delitem__") hl.typeIs PySem.F.slot_list_delitem
    (wpAny_call_entry PySem.F.slot_list_delitem hl.typeIs PySem.F.entry_list_delitem ?_ (PySem.F.args_list_delitem_2 _ _)))
  show wpAny _ _ (Builtin.List.listSubscript? (.ref sl) >>= _) _ _ s
  refine wpAny_bind ?_
  unfold Builtin.List.listSubscript?
  refine wpAny_bind (wpAny_specialOf hTs slice_no_index ?_)
  simp only [Option.isNone_none, if_true]
  refine wpAny_pure ?_
  show wpAny _ _ (typeOf (.ref sl) >>= _) _ _ s
  refine wpAny_bind (wpAny_typeOf hTs ?_)
  first
    | rw [if_neg (by decide)]
    | refine PySem.W.KFB.if_not (by decide) ?_
  rw [listSliceParts_eq]
  refine wpAny_bind (wpAny_bind (wpAny_field hos hds (x := .none) rfl (wpAny_bind (wpAny_listPart .none ?_))))
  rw [if_neg hstep]
  refine wpAny_bind (wpAny_field hos hds (x := vl) rfl (wpAny_bind (wpAny_listPart pl ?_)))
  refine wpAny_bind (wpAny_field hos hds (x := .none) rfl (wpAny_bind (wpAny_listPart .none (wpAny_pure ?_))))
  refine wpAny_bind (m := Builtin.List.listItems (.ref l)) ?_
  unfold Builtin.List.listItems
  refine wpAny_bind (wpAny_seqItems e rfl (wpAny_pure ?_))
  refine wpAny_bind (wpAny_of_eq ((sliceIndices_raw (some (i : Int)) none none items.size (by simp)).trans (congrArg (pure : Int × Int × Int → Sem (Int × Int × Int)) (bounds_from hi))) ?_)
  refine wpAny_bind (wpAny_rule ?_)
  show wpAny _ _ (updateSeq l _ >>= _) _ _ s
  have hf := sel_take _ i items.size (fun k => rfl) items.toList 0 (by simp)
  refine wpAny_bind (wpAny_updateSeq (hz := hsz) (_hz' := ?_) e rfl ?_)
  refine wpAny_bind (wpAny_letGo ?_)
  · exact wpAny_pure ⟨.none, rfl, wpAny_pure (h _ (congrArg List.toArray hf))⟩
  · refine Nat.le_trans (Nat.le_of_eq (congrArg Array.size (congrArg List.toArray hf))) ?_
    rw [List.size_toArray, List.length_take, Array.length_toList]
    omega
end
variable {pins : List (Addr × Obj)}
theorem del_tail {s : Shared} {σ : L2.St} {H : Hp} {l sl : Addr} {xs : List V} {i : Nat} {vl : Value} {Q : Unit → Shared → Prop} (I : Inv X pins σ H s) (hH : H l = some (.lst xs))
    (hs : s.heap.IsSliceOf sl vl .none .none) (pl : IsPart vl (some (i : Int))) (hi : i ≤ xs.length) (h : ∀ s', Inv X pins σ (upd H l (.lst (xs.take i))) s' → Q () s') :
    wpAny (model X.prog X.w) X.A (delItem (.ref l) (.ref sl)) Q X.xe s := by
  obtain ⟨z, its, n, r, hl, e⟩ := I.lstM hH
  refine delItem_tail e hs pl (by rw [List.size_toArray]; omega) (by rw [List.size_toArray]; omega) fun f hf => h _ ?_
  refine I.lset (its' := its.take i) (t' := s.toks) hH e ?_ (r.take i) ?_
  · rw [hf]
  · rw [List.length_take]
    omega
/-- del o[i:] -/
def tDelT (to : TE) (tl : TO) : TS := fun D σ H => to σ H fun x H1 => tl σ H1 fun u H2 => ∃ (l : Addr) (xs : List V) (i : Nat), x = .ref l ∧ u = some (i : Int) ∧ H2 l = some (.lst xs) ∧ i ≤ xs.length ∧ D.nx σ (upd H2 l (.lst (xs.take i)))
theorem ps_delT (ho : PE X o to) (hl : PO X lo tl) : PS X (.Delete [.Subscript o (.Slice lo none none p2) tpos] pos) (tDelT to tl) := by
  refine ⟨fun pins s σ H D I h => ?_⟩
  refine wpAny_Delete (wpAny_deleteEach_cons (wpAny_delete_Subscript (thn (ho.run pins s σ H _ I h) fun u s1 ⟨x, H1, I1, rx, q1⟩ => ?_)))
  refine wpAny_Slice (thn (hl.run pins s1 σ H1 _ I1 q1) fun vl s2 ⟨w, H2, I2, pl, q2⟩ => ?_)
  rw [evalPart_none]
  refine wpAny_pure (wpAny_pure ?_)
  have I4 : Inv X pins σ H2 { s2 with heap := s2.heap.push { cls := .type "slice", data := .fields #[vl, .none, .none] } } := I2.kept (t' := s2.toks) fun b ob q => Heap.get?_push_of_some _ q
  obtain ⟨l, xs, i, rfl, rfl, hA, hi, q⟩ := q2
  cases rx
  exact del_tail I4 hA (Heap.IsSliceOf.new ..) pl hi fun s3 I3 => wpAny_deleteEach_nil ⟨σ, _, I3, q⟩
end
section
variable {K : PySem.W.Frag} {σ σ2 : L2.St} {H H1 H2 : Hp} {Q : VK} {ta tv te te1 : TE} {D : Ends} {tz : TS} {g g1 : TG} {t tt1 : TT} {x v : V}
theorem k_pil {X : Cx} {tg l : Expr} {tl : TE} (e : X.K = K) (h : PE X l tl) : PI X tg l (iList K tl) := e ▸ pi_list h
/-- the inner for of a comprehension -/
def RIn (J : It) (g1 : TG) (tt1 : TT) (te : TE) (vs1 : List Nat) (σ2 : L2.St) (Dl : Addr) (N : Hp → Prop) : Hp → Prop := fun H4 => ∃ W1 : Nat → Nat → Hp → Prop, (∃ m, W1 0 m H4) ∧ ∀ j k H, W1 j k H →
  (J.stop j H ∧ N H) ∨ (J.go j H ∧ ∃ Nx1 : Hp → Prop, (∀ H', Nx1 H' → ∃ k', k' < k ∧ W1 (j + 1) k' H') ∧ ∀ x H', J.yld j H x H' → g1 x (wipe σ2 vs1) H' fun σ3 H5 => wipe σ3 vs1 = wipe σ2 vs1 ∧ tt1 σ3 H5 fun b H6 =>
    if b = true then te σ3 H6 fun y H7 => ∃ acc, H7 Dl = some (.lst acc) ∧ acc.length < sizeLine ∧ Nx1 (upd H7 Dl (.lst (acc ++ [y]))) else Nx1 H6)
def rInL (K : PySem.W.Frag) (g1 : TG) (tt1 : TT) (te : TE) (vs1 : List Nat) (σ2 : L2.St) (Dl : Addr) (N : Hp → Prop) : VK := fun x H4 => ∃ a, x = .ref a ∧ (∃ xs, SqL K H4 a xs) ∧ RIn (Itl K a) g1 tt1 te vs1 σ2 Dl N H4
theorem x_infL {a Dl : Addr} {xs : List V} {vs1 : List Nat} {N : Hp → Prop} (Pv : Nat → Hp → Prop) (hx : SqL K H a xs) (p0 : Pv 0 H) (hl : ∀ i H', Pv i H' → SqL K H' a xs)
    (hs : ∀ i x H', xs[i]? = some x → Pv i H' → g1 x (wipe σ2 vs1) H' fun σ3 H5 => wipe σ3 vs1 = wipe σ2 vs1 ∧ tt1 σ3 H5 fun b H6 => if b = true then te σ3 H6 (fun y H7 => ∃ acc, H7 Dl = some (.lst acc) ∧ acc.length < sizeLine ∧ Pv (i + 1) (upd H7 Dl (.lst (acc ++ [y])))) else Pv (i + 1) H6)
    (hd : ∀ H', Pv xs.length H' → N H') : rInL K g1 tt1 te vs1 σ2 Dl N (.ref a) H := by
  refine ⟨a, rfl, ⟨xs, hx⟩, fun i m H => m = xs.length - i ∧ i ≤ xs.length ∧ Pv i H, ⟨xs.length, by simp, Nat.zero_le _, p0⟩, ?_⟩
  rintro i m H' ⟨rfl, hi, p⟩
  have q := hl i H' p
  by_cases hlt : i < xs.length
  · refine .inr ⟨⟨xs, xs[i], q, by simp [hlt]⟩, Pv (i + 1), fun H' p' => ⟨xs.length - (i + 1), by omega, rfl, hlt, p'⟩, fun x H2 y => ?_⟩
    obtain ⟨e, y⟩ := y
    subst e
    exact hs i x _ (y xs q) p
  · have e : i = xs.length := by omega
    subst e
    exact .inl ⟨⟨xs, q, Nat.le_refl _⟩, hd H' p⟩
/-- the outer for -/
def rLc2L (K : PySem.W.Frag) (g : TG) (te1 : TE) (g1 : TG) (tt1 : TT) (te : TE) (vs vs1 : List Nat) (σ : L2.St) (Q : VK) : VK := fun x H1 => ∃ a, x = .ref a ∧ (∃ xs, SqL K H1 a xs) ∧ ∀ D, H1 D = none → ∃ W : Nat → Nat → Hp → Prop, (∃ m, W 0 m (upd H1 D (.lst []))) ∧ ∀ i m H, W i m H →
  ((Itl K a).stop i H ∧ Q (.ref D) H) ∨ ((Itl K a).go i H ∧ ∃ Nx : Hp → Prop, (∀ H', Nx H' → ∃ m', m' < m ∧ W (i + 1) m' H') ∧ ∀ x H', (Itl K a).yld i H x H' → g x (wipe σ vs) H' fun σ2 H2 => wipe σ2 vs = wipe σ vs ∧
    te1 σ2 H2 (rInL K g1 tt1 te vs1 σ2 D Nx))
theorem x_lc2 {tx : TE} {vs vs1 : List Nat} (q : tx σ H (rLc2L K g te1 g1 tt1 te vs vs1 σ Q)) : tLc2 (iList K tx) g tYes (iList K te1) g1 tt1 te vs vs1 σ H Q := q
theorem x_lc2L {a : Addr} {xs : List V} {vs vs1 : List Nat} (Pv : Addr → Nat → Hp → Prop) (hx : SqL K H a xs) (h0 : ∀ Dl, Fr Dl H → Pv Dl 0 (upd H Dl (.lst []))) (hl : ∀ Dl i H', Fr Dl H → Pv Dl i H' → SqL K H' a xs)
    (hs : ∀ Dl, Fr Dl H → ∀ i x H', xs[i]? = some x → Pv Dl i H' → g x (wipe σ vs) H' fun σ2 H2 => wipe σ2 vs = wipe σ vs ∧ te1 σ2 H2 (rInL K g1 tt1 te vs1 σ2 Dl (Pv Dl (i + 1))))
    (hd : ∀ Dl H', Fr Dl H → Pv Dl xs.length H' → Q (.ref Dl) H') : rLc2L K g te1 g1 tt1 te vs vs1 σ Q (.ref a) H := by
  refine ⟨a, rfl, ⟨xs, hx⟩, fun Dl hD => ⟨fun i m H => m = xs.length - i ∧ i ≤ xs.length ∧ Pv Dl i H, ⟨xs.length, by simp, Nat.zero_le _, h0 Dl ⟨hD⟩⟩, ?_⟩⟩
  rintro i m H' ⟨rfl, hi, p⟩
  have q := hl Dl i H' ⟨hD⟩ p
  by_cases hlt : i < xs.length
  · refine .inr ⟨⟨xs, xs[i], q, by simp [hlt]⟩, Pv Dl (i + 1), fun H' p' => ⟨xs.length - (i + 1), by omega, rfl, hlt, p'⟩, fun x H2 y => ?_⟩
    obtain ⟨e, y⟩ := y
    subst e
    exact hs Dl ⟨hD⟩ i x _ (y xs q) p
  · have e : i = xs.length := by omega
    subst e
    exact .inl ⟨⟨xs, q, Nat.le_refl _⟩, hd Dl H' ⟨hD⟩ p⟩
/-- attributes -/
theorem x_fld {a C dx : Addr} {fs : List (Str × V)} {f : Str} (h : H a = some (.ins C dx fs)) (c : Cls K C) (n : NoAttr K C f) (l : fs.lookup f = some v) (q : Q v H) : (∃ a' C dx fs v, V.ref a = .ref a' ∧ H a' = some (.ins C dx fs) ∧ Cls K C ∧ NoAttr K C f ∧ fs.lookup f = some v ∧ Q v H) :=
  ⟨a, C, dx, fs, v, rfl, h, c, n, l, q⟩
/-- what is read from an instance -/
def rFld (K : PySem.W.Frag) (f : Str) (Q : VK) : VK := fun x H1 => ∃ a C dx fs v, x = .ref a ∧ H1 a = some (.ins C dx fs) ∧ Cls K C ∧ NoAttr K C f ∧ fs.lookup f = some v ∧ Q v H1
theorem x_fld1 {f : Str} (q : ta σ H (rFld K f Q)) : tFld K ta f σ H Q := q
theorem x_rFld {a C dx : Addr} {fs : List (Str × V)} {f : Str} (h : H a = some (.ins C dx fs)) (c : Cls K C) (n : NoAttr K C f) (l : fs.lookup f = some v) (q : Q v H) : rFld K f Q (.ref a) H := ⟨a, C, dx, fs, v, rfl, h, c, n, l, q⟩
def rSetF (K : PySem.W.Frag) (f : Str) (y : V) (R : Hp → Prop) : VK := fun x H2 => ∃ a C dx fs, x = .ref a ∧ H2 a = some (.ins C dx fs) ∧ Cls K C ∧ NoAttr K C f ∧ fs.length < 1000 ∧ R (upd H2 a (.ins C dx (putF f y fs)))
theorem x_sfld {f : Str} (q : tv σ H fun y H1 => ta σ H1 (rSetF K f y (D.nx σ))) : sFld K ta tv f D σ H := q
theorem x_ssfld {f : Str} (q : tv σ H fun y H1 => ta σ H1 (rSetF K f y fun H2 => tz D σ H2)) : tSeq (sFld K ta tv f) tz D σ H := q
theorem x_rSetF {a C dx : Addr} {fs : List (Str × V)} {f : Str} {R : Hp → Prop} (h : H a = some (.ins C dx fs)) (c : Cls K C) (n : NoAttr K C f) (l : fs.length < 1000) (q : R (upd H a (.ins C dx (putF f x fs)))) : rSetF K f x R (.ref a) H := ⟨a, C, dx, fs, rfl, h, c, n, l, q⟩
def rProp (C : Addr) (sp : Sp) (dvs : List V) (E : XK) (Q : VK) : VK := fun x H1 => ∃ a dx fs, x = .ref a ∧ H1 a = some (.ins C dx fs) ∧ sp (.ref a :: dvs) H1 Q E
theorem x_prop {C : Addr} {sp : Sp} {dvs : List V} {E : XK} (q : ta σ H (rProp C sp dvs E Q)) : tProp C sp dvs E ta σ H Q := q
theorem x_rProp {a C dx : Addr} {fs : List (Str × V)} {sp : Sp} {dvs : List V} {E : XK} (h : H a = some (.ins C dx fs)) (q : sp (.ref a :: dvs) H Q E) : rProp C sp dvs E Q (.ref a) H := ⟨a, dx, fs, rfl, h, q⟩
def rMeth (C : Addr) (m : Str) (tr : TA) (sp : Sp) (dvs : List V) (E : XK) (σ : L2.St) (Q : VK) : VK := fun x H1 => ∃ a dx fs, x = .ref a ∧ H1 a = some (.ins C dx fs) ∧ fs.lookup m = none ∧ tr σ H1 fun vs H2 => sp (x :: (vs ++ dvs)) H2 Q E
theorem x_meth {C : Addr} {m : Str} {tr : TA} {sp : Sp} {dvs : List V} {E : XK} (q : ta σ H (rMeth C m tr sp dvs E σ Q)) : tMeth C m sp dvs E ta tr σ H Q := q
theorem x_rMeth {a C dx : Addr} {fs : List (Str × V)} {m : Str} {tr : TA} {sp : Sp} {dvs : List V} {E : XK} (h : H a = some (.ins C dx fs)) (l : fs.lookup m = none) (q : tr σ H fun vs H2 => sp (.ref a :: (vs ++ dvs)) H2 Q E) : rMeth C m tr sp dvs E σ Q (.ref a) H := ⟨a, dx, fs, rfl, h, l, q⟩
def rMake (C : Addr) (sp : Sp) (dvs : List V) (E : XK) (Q : VK) : List V → Hp → Prop := fun vs H1 => ∀ x dx, H1 x = none → H1 dx = none → dx ≠ x → sp (.ref x :: (vs ++ dvs)) (upd (upd H1 dx (.own x)) x (.ins C dx [])) (fun v H2 => v = .non ∧ Q (.ref x) H2) E
theorem x_make {C : Addr} {tr : TA} {sp : Sp} {dvs : List V} {E : XK} (q : tr σ H (rMake C sp dvs E Q)) : tMake C sp dvs E tr σ H Q := q
theorem x_rMake {C : Addr} {sp : Sp} {dvs vs : List V} {E : XK} (k : ∀ x dx H2, Fr x H → Fr dx H → dx ≠ x → Same H H2 → H2 dx = some (.own x) → H2 x = some (.ins C dx []) → sp (.ref x :: (vs ++ dvs)) H2 (fun v H3 => v = .non ∧ Q (.ref x) H3) E) : rMake C sp dvs E Q vs H :=
  fun x dx hx hd hn => k x dx _ ⟨hx⟩ ⟨hd⟩ hn (same_mut (same_fr ⟨hd⟩) ⟨hx⟩) ((upd_ne hn).trans upd_same) upd_same
/-- slices stored and deleted -/
def rDelT (R : Hp → Prop) (l : Addr) (xs : List V) (i : Nat) (u : Option Int) (H2 : Hp) : Prop := u = some (i : Int) ∧ H2 l = some (.lst xs) ∧ i ≤ xs.length ∧ R (upd H2 l (.lst (xs.take i)))
theorem x_delT {to : TE} {tl : TO} (q : to σ H fun x H1 => tl σ H1 fun u H2 => ∃ l xs i, x = .ref l ∧ rDelT (D.nx σ) l xs i u H2) : tDelT to tl D σ H := q
theorem x_sdelT {to : TE} {tl : TO} (q : to σ H fun x H1 => tl σ H1 fun u H2 => ∃ l xs i, x = .ref l ∧ rDelT (fun H3 => tz D σ H3) l xs i u H2) : tSeq (tDelT to tl) tz D σ H := q
theorem x_rDelT {l : Addr} {xs : List V} {i : Nat} {k : Int} {R : Hp → Prop} (e : k = (i : Int)) (h : H l = some (.lst xs)) (hi : i ≤ xs.length) (q : R (upd H l (.lst (xs.take i)))) : ∃ l' xs i', V.ref l = .ref l' ∧ rDelT R l' xs i' (some k) H := ⟨l, xs, i, rfl, by rw [e], h, hi, q⟩
end
end Xk
/-! ## pairs in order, defs with defaults -/
namespace Xk
open PySem PySem.Spec PyProof.Rows L2
/-- the pair (p, q) stands below (r, s) -/
def Bf (p q r s : Int) : Prop := p < r ∨ (p = r ∧ q < s)
instance {p q r s : Int} : Decidable (Bf p q r s) := by unfold Bf; infer_instance
section
variable {X : Cx} {K : PySem.W.Frag} {H : Hp} {Q : VK} {a b : Addr} {p q r s : Int}
theorem pair_in {pins : List (Addr × Obj)} {σ : L2.St} {z : Shared} (I : Inv X pins σ H z) (h : SqT X.K H a [.int p, .int q]) : ∃ t u, z.heap.IsTuple a #[.int p t, .int q u] := by
  obtain ⟨vs, rv, it, _⟩ := I.tuple h
  cases rv with
  | cons x y =>
    cases y with
    | cons y w =>
      cases w
      obtain ⟨t, rfl⟩ := x
      obtain ⟨u, rfl⟩ := y
      exact ⟨t, u, it⟩
theorem eq_ints {A : Around} {z : Shared} (i j : Int) (t u : Tok) : SeqAt.EqAt A z (.int i t) (.int j u) (decide (i = j)) := by
  have h : (i == j) = decide (i = j) := by
    by_cases e : i = j
    · subst e
      simp
    · simp [e]
  rw [← h]
  exact SeqAt.EqAt.int_int _ _ _ _
def rGeP (K : PySem.W.Frag) : R2 := fun x y H Q => ∃ a b p q r s, x = .ref a ∧ y = .ref b ∧ SqT K H a [.int p, .int q] ∧ SqT K H b [.int r, .int s] ∧ Q (.bl (!decide (Bf p q r s))) H
def rLtP (K : PySem.W.Frag) : R2 := fun x y H Q => ∃ a b p q r s, x = .ref a ∧ y = .ref b ∧ SqT K H a [.int p, .int q] ∧ SqT K H b [.int r, .int s] ∧ Q (.bl (decide (Bf p q r s))) H
theorem op_geP (hu : X.A.units < cLine) : OpR X (compareOp .GtE) (rGeP X.K) := by
  intro pins σ0 σ H x y v u Q I rx ry h
  obtain ⟨a, b, p, q, r, s, rfl, rfl, ha, hb, k⟩ := h
  cases rx
  cases ry
  obtain ⟨t1, t2, ia⟩ := pair_in I ha
  obtain ⟨t3, t4, ib⟩ := pair_in I hb
  have R := Ob.RcOp.tuples_ge (e := fun j => if j = 0 then decide (p = r) else decide (q = s)) (r := fun j => if j = 0 then decide (r ≤ p) else decide (s ≤ q)) ia ib hu
    (fun j h1 h2 => match j, h1, h2 with | 0, _, _ => eq_ints _ _ _ _ | 1, _, _ => eq_ints _ _ _ _ | j + 2, z, _ => absurd (show j + 2 < 2 from z) (by omega))
    (fun j h1 h2 _ => match j, h1, h2 with | 0, _, _ => Ob.RcOp.ge_int _ _ _ _ | 1, _, _ => Ob.RcOp.ge_int _ _ _ _ | j + 2, z, _ => absurd (show j + 2 < 2 from z) (by omega))
  refine R X.prog X.w X.xe _ ?_
  have e : Ob.lexAt (fun j => if j = 0 then decide (p = r) else decide (q = s)) (fun j => if j = 0 then decide (r ≤ p) else decide (s ≤ q)) (decide (2 ≥ 2)) 0 2 = !decide (Bf p q r s) := by
    simp only [Ob.lexAt_succ, Ob.lexAt_zero, Bf]
    by_cases h1 : p = r
    · by_cases h2 : q = s
      · simp [h1, h2]
      · by_cases h3 : s ≤ q
        · have h4 : ¬ q < s := by omega
          simp [h1, h2, h3, h4]
        · have h4 : q < s := by omega
          simp [h1, h2, h3, h4]
    · by_cases h3 : r ≤ p
      · have h4 : ¬ p < r := by omega
        simp [h1, h3, h4]
      · have h4 : p < r := by omega
        simp [h1, h3, h4]
  exact ⟨.bl _, H, I, rfl, (congrArg (fun z => Q (.bl z) H) e).mpr k⟩
theorem op_ltP (hu : X.A.units < cLine) : OpR X (compareOp .Lt) (rLtP X.K) := by
  intro pins σ0 σ H x y v u Q I rx ry h
  obtain ⟨a, b, p, q, r, s, rfl, rfl, ha, hb, k⟩ := h
  cases rx
  cases ry
  obtain ⟨t1, t2, ia⟩ := pair_in I ha
  obtain ⟨t3, t4, ib⟩ := pair_in I hb
  have R := Ob.RcOp.tuples_lt (e := fun j => if j = 0 then decide (p = r) else decide (q = s)) (r := fun j => if j = 0 then decide (p < r) else decide (q < s)) ia ib hu
    (fun j h1 h2 => match j, h1, h2 with | 0, _, _ => eq_ints _ _ _ _ | 1, _, _ => eq_ints _ _ _ _ | j + 2, z, _ => absurd (show j + 2 < 2 from z) (by omega))
    (fun j h1 h2 _ => match j, h1, h2 with | 0, _, _ => Ob.RcOp.lt_int _ _ _ _ | 1, _, _ => Ob.RcOp.lt_int _ _ _ _ | j + 2, z, _ => absurd (show j + 2 < 2 from z) (by omega))
  refine R X.prog X.w X.xe _ ?_
  have e : Ob.lexAt (fun j => if j = 0 then decide (p = r) else decide (q = s)) (fun j => if j = 0 then decide (p < r) else decide (q < s)) (decide (2 < 2)) 0 2 = decide (Bf p q r s) := by
    simp only [Ob.lexAt_succ, Ob.lexAt_zero, Bf]
    by_cases h1 : p = r
    · by_cases h2 : q = s
      · simp [h1, h2]
      · by_cases h3 : q < s
        · simp [h1, h2, h3]
        · simp [h1, h2, h3]
    · by_cases h3 : p < r
      · simp [h1, h3]
      · simp [h1, h3]
  exact ⟨.bl _, H, I, rfl, (congrArg (fun z => Q (.bl z) H) e).mpr k⟩
theorem k_geP (hu : X.A.units + 64 < cLine) (e : X.K = K) : OpR X (compareOp .GtE) (rGeP K) := e ▸ op_geP (by omega)
theorem k_ltP (hu : X.A.units + 64 < cLine) (e : X.K = K) : OpR X (compareOp .Lt) (rLtP K) := e ▸ op_ltP (by omega)
theorem x_geP (h : SqT K H a [.int p, .int q]) (h' : SqT K H b [.int r, .int s]) (k : Q (.bl (!decide (Bf p q r s))) H) : rGeP K (.ref a) (.ref b) H Q := ⟨a, b, p, q, r, s, rfl, rfl, h, h', k⟩
theorem x_ltP (h : SqT K H a [.int p, .int q]) (h' : SqT K H b [.int r, .int s]) (k : Q (.bl (decide (Bf p q r s))) H) : rLtP K (.ref a) (.ref b) H Q := ⟨a, b, p, q, r, s, rfl, rfl, h, h', k⟩
def nMax2 : List V → Hp → VK → Prop := fun xs H Q => ∃ i j : Int, xs = [.int i, .int j] ∧ Q (.int (max i j)) H
def nMin2 : List V → Hp → VK → Prop := fun xs H Q => ∃ i j : Int, xs = [.int i, .int j] ∧ Q (.int (min i j)) H
theorem call_nMax2 (hc : X.calm = true) : CallR X (.builtin "max") nMax2 := by
  intro pins s σ H xs us Q I r h
  obtain ⟨i, j, e, q⟩ := h
  refine call_max2 hc pins s σ H xs us Q I r ⟨i, j, e, ?_⟩
  have z : (if j > i then j else i) = max i j := by
    by_cases h : i < j
    · rw [if_pos h]
      omega
    · rw [if_neg h]
      omega
  rw [z]
  exact q
theorem call_nMin2 (hc : X.calm = true) : CallR X (.builtin "min") nMin2 := by
  intro pins s σ H xs us Q I r h
  obtain ⟨i, j, e, q⟩ := h
  refine call_min2 hc pins s σ H xs us Q I r ⟨i, j, e, ?_⟩
  have z : (if j < i then j else i) = min i j := by
    by_cases h : j < i
    · rw [if_pos h]
      omega
    · rw [if_neg h]
      omega
  rw [z]
  exact q
theorem x_nMax2 {i j : Int} (k : Q (.int (max i j)) H) : nMax2 [.int i, .int j] H Q := ⟨i, j, rfl, k⟩
theorem x_nMin2 {i j : Int} (k : Q (.int (min i j)) H) : nMin2 [.int i, .int j] H Q := ⟨i, j, rfl, k⟩
/-- lists and tuples stay, though an own object changes -/
structure Sk (K : PySem.W.Frag) (H H' : Hp) : Prop where
  l : ∀ a xs, SqL K H a xs → SqL K H' a xs
  t : ∀ a xs, SqT K H a xs → SqT K H' a xs
theorem sk_same {H' : Hp} (e : Same H H') : Sk K H H' := ⟨fun _ _ h => sq_same h e, fun _ _ h => st_same h e⟩
theorem Sk.refl (H : Hp) : Sk K H H := ⟨fun _ _ h => h, fun _ _ h => h⟩
theorem Sk.trans {H' H'' : Hp} (e : Sk K H H') (e' : Sk K H' H'') : Sk K H H'' := ⟨fun a xs h => e'.l a xs (e.l a xs h), fun a xs h => e'.t a xs (e.t a xs h)⟩
theorem sk_but {H' : Hp} {C dx : Addr} {fs : List (Str × V)} (hi : H a = some (.ins C dx fs)) (e : But a H H') : Sk K H H' := by
  have key : ∀ b o, H b = some o → (∀ C dx fs, o ≠ .ins C dx fs) → H' b = some o := fun b o hb hn => e b o (fun z => by
    subst z
    exact hn _ _ _ (Option.some.inj (hb.symm.trans hi))) hb
  constructor
  · intro b xs h
    rcases h with (h | ⟨o, h⟩) | h
    · exact .inl (.inl (key _ _ h fun _ _ _ z => by cases z))
    · exact .inl (.inr ⟨o, key _ _ h fun _ _ _ z => by cases z⟩)
    · exact .inr h
  · intro b xs h
    rcases h with (h | ⟨o, h⟩) | h
    · exact .inl (.inl (key _ _ h fun _ _ _ z => by cases z))
    · exact .inl (.inr ⟨o, key _ _ h fun _ _ _ z => by cases z⟩)
    · exact .inr h
mutual
theorem dp_sk {H' : Hp} (e : Sk K H H') : ∀ (d : PyData) (v : V), Dp K H v d → Dp K H' v d
  | .none, _, h => by cases h; exact .non
  | .bool b, _, h => by cases h; exact .bl b
  | .int i, _, h => by cases h; exact .int i
  | .str x, _, h => by cases h; exact .str x
  | .list ds, _, h => by
    cases h with
    | lst hs ha => exact .lst (e.l _ _ hs) (dps_sk e ds _ ha)
  | .tuple ds, _, h => by
    cases h with
    | tup hs ha => exact .tup (e.t _ _ hs) (dps_sk e ds _ ha)
  | .dict _, _, h => by cases h
theorem dps_sk {H' : Hp} (e : Sk K H H') : ∀ (ds : List PyData) (vs : List V), DpAll K H vs ds → DpAll K H' vs ds
  | [], _, h => by cases h; exact .nil
  | d :: ds, _, h => by
    cases h with
    | cons h1 h2 => exact .cons (dp_sk e d _ h1) (dps_sk e ds _ h2)
end
/-- tuples stay -/
structure St (K : PySem.W.Frag) (H H' : Hp) : Prop where
  t : ∀ a xs, SqT K H a xs → SqT K H' a xs
theorem Sk.st {H' : Hp} (e : Sk K H H') : St K H H' := ⟨e.t⟩
theorem St.refl (H : Hp) : St K H H := ⟨fun _ _ h => h⟩
theorem St.trans {H' H'' : Hp} (e : St K H H') (e' : St K H' H'') : St K H H'' := ⟨fun a xs h => e'.t a xs (e.t a xs h)⟩
theorem tt_same {H' : Hp} (e : Same H H') : St K H H' := ⟨fun _ _ h => st_same h e⟩
theorem tt_but {H' : Hp} {o : HO} (hi : H a = some o) (h1 : ∀ xs, o ≠ .tup xs) (h2 : ∀ u xs, o ≠ .frz u (.tup xs)) (e : But a H H') : St K H H' := by
  refine ⟨fun b xs h => ?_⟩
  rcases h with (h | ⟨u, h⟩) | h
  · exact .inl (.inl (e b _ (fun z => by subst z; exact h1 xs (Option.some.inj (hi.symm.trans h))) h))
  · exact .inl (.inr ⟨u, e b _ (fun z => by subst z; exact h2 u xs (Option.some.inj (hi.symm.trans h))) h⟩)
  · exact .inr h
theorem tt_butL {H' : Hp} {ys : List V} (hi : H a = some (.lst ys)) (e : But a H H') : St K H H' := tt_but hi (fun _ z => by cases z) (fun _ _ z => by cases z) e
theorem tt_butO {H' : Hp} {C dx : Addr} {fs : List (Str × V)} (hi : H a = some (.ins C dx fs)) (e : But a H H') : St K H H' := tt_but hi (fun _ z => by cases z) (fun _ _ z => by cases z) e
theorem tt_mutL {o : HO} {ys : List V} (hi : H a = some (.lst ys)) : St K H (upd H a o) := tt_butL hi (but_mut (But.refl _ _))
mutual
/-- none, ints, truth values, texts, and tuples of such -/
def tupD : PyData → Bool
  | .none | .bool _ | .int _ => true
  | .str x => PyData.canLay0 (.str x)
  | .tuple xs => tupDs xs
  | .list _ | .dict _ => false
def tupDs : List PyData → Bool
  | [] => true
  | x :: xs => tupD x && tupDs xs
end
mutual
theorem tupD_lay : ∀ (d : PyData), tupD d = true → d.canLay0 = true
  | .none, _ => rfl
  | .bool _, _ => rfl
  | .int _, _ => rfl
  | .str x, h => h
  | .tuple xs, h => tupDs_lay xs h
  | .list _, h => by cases h
  | .dict _, h => by cases h
theorem tupDs_lay : ∀ (ds : List PyData), tupDs ds = true → PyData.canLayAll0 ds = true
  | [], _ => rfl
  | x :: xs, h => by
    have h2 : (tupD x && tupDs xs) = true := h
    rw [Bool.and_eq_true] at h2
    show (x.canLay0 && PyData.canLayAll0 xs) = true
    rw [tupD_lay x h2.1, tupDs_lay xs h2.2]
    rfl
end
mutual
theorem dp_st {H' : Hp} (e : St K H H') : ∀ (d : PyData) (v : V), tupD d = true → Dp K H v d → Dp K H' v d
  | .none, _, _, h => by cases h; exact .non
  | .bool b, _, _, h => by cases h; exact .bl b
  | .int i, _, _, h => by cases h; exact .int i
  | .str x, _, _, h => by cases h; exact .str x
  | .list ds, _, c, _ => by cases c
  | .tuple ds, _, c, h => by
    cases h with
    | tup hs ha => exact .tup (e.t _ _ hs) (dps_st e ds _ c ha)
  | .dict _, _, _, h => by cases h
theorem dps_st {H' : Hp} (e : St K H H') : ∀ (ds : List PyData) (vs : List V), tupDs ds = true → DpAll K H vs ds → DpAll K H' vs ds
  | [], _, _, h => by cases h; exact .nil
  | d :: ds, _, c, h => by
    have h2 : (tupD d && tupDs ds) = true := c
    rw [Bool.and_eq_true] at h2
    cases h with
    | cons h3 h4 => exact .cons (dp_st e d _ h2.1 h3) (dps_st e ds _ h2.2 h4)
end
/-- packable data at v, not deep -/
def Pk (K : PySem.W.Frag) (H : Hp) (n : Nat) (v : V) (d : PyData) : Prop := Dp K H v d ∧ tupD d = true ∧ d.depth ≤ n
theorem Pk.st {H' : Hp} {n : Nat} {v : V} {d : PyData} (h : Pk K H n v d) (e : St K H H') : Pk K H' n v d := ⟨dp_st e d v h.2.1 h.1, h.2⟩
theorem Pk.sk {H' : Hp} {n : Nat} {v : V} {d : PyData} (h : Pk K H n v d) (e : Sk K H H') : Pk K H' n v d := h.st e.st
theorem Pk.same {H' : Hp} {n : Nat} {v : V} {d : PyData} (h : Pk K H n v d) (e : Same H H') : Pk K H' n v d := h.st (tt_same e)
theorem Pk.mono {n m : Nat} {v : V} {d : PyData} (h : Pk K H n v d) (l : n ≤ m) : Pk K H m v d := ⟨h.1, h.2.1, Nat.le_trans h.2.2 l⟩
theorem Pk.lay {n : Nat} {v : V} {d : PyData} (h : Pk K H n v d) : d.canLay0 = true := tupD_lay d h.2.1
theorem pk_non {n : Nat} : Pk K H n .non .none := ⟨.non, rfl, Nat.zero_le _⟩
theorem pk_int {n : Nat} {i : Int} : Pk K H n (.int i) (.int i) := ⟨.int i, rfl, Nat.zero_le _⟩
theorem pk_str {n : Nat} {x : Str} (h : PyData.canLay0 (.str x) = true := by decide +kernel) : Pk K H n (.str x) (.str x) := ⟨.str x, h, Nat.zero_le _⟩
/-- packable data, one behind another -/
def PkAll (K : PySem.W.Frag) (H : Hp) (n : Nat) (vs : List V) (ds : List PyData) : Prop := DpAll K H vs ds ∧ tupDs ds = true ∧ PyData.depthAll ds ≤ n
theorem PkAll.st {H' : Hp} {n : Nat} {vs : List V} {ds : List PyData} (h : PkAll K H n vs ds) (e : St K H H') : PkAll K H' n vs ds := ⟨dps_st e ds vs h.2.1 h.1, h.2⟩
theorem PkAll.same {H' : Hp} {n : Nat} {vs : List V} {ds : List PyData} (h : PkAll K H n vs ds) (e : Same H H') : PkAll K H' n vs ds := h.st (tt_same e)
theorem PkAll.mono {n m : Nat} {vs : List V} {ds : List PyData} (h : PkAll K H n vs ds) (l : n ≤ m) : PkAll K H m vs ds := ⟨h.1, h.2.1, Nat.le_trans h.2.2 l⟩
theorem PkAll.lay {n : Nat} {vs : List V} {ds : List PyData} (h : PkAll K H n vs ds) : PyData.canLayAll0 ds = true := tupDs_lay ds h.2.1
theorem pk_nil {n : Nat} : PkAll K H n [] [] := ⟨.nil, rfl, Nat.zero_le _⟩
theorem pk_cons {n : Nat} {v : V} {vs : List V} {d : PyData} {ds : List PyData} (h : Pk K H n v d) (h' : PkAll K H n vs ds) : PkAll K H n (v :: vs) (d :: ds) :=
  ⟨.cons h.1 h'.1, by show (tupD d && tupDs ds) = true; rw [h.2.1, h'.2.1]; rfl, by show max _ _ ≤ n; have := h.2.2; have := h'.2.2; omega⟩
theorem PkAll.uncons {n : Nat} {v : V} {vs : List V} {ds : List PyData} (h : PkAll K H n (v :: vs) ds) : ∃ d es, ds = d :: es ∧ Pk K H n v d ∧ PkAll K H n vs es := by
  obtain ⟨h1, h2, h3⟩ := h
  cases h1 with
  | cons a b =>
    rename_i d es
    have h4 : (tupD d && tupDs es) = true := h2
    rw [Bool.and_eq_true] at h4
    have h5 : max d.depth (PyData.depthAll es) ≤ n := h3
    exact ⟨d, es, rfl, ⟨a, h4.1, by omega⟩, ⟨b, h4.2, by omega⟩⟩
theorem pk_snoc {n : Nat} : ∀ {vs : List V} {ds : List PyData} {v : V} {d : PyData}, PkAll K H n vs ds → Pk K H n v d → PkAll K H n (vs ++ [v]) (ds ++ [d])
  | [], ds, v, d, h, h' => by
    obtain ⟨h1, _, _⟩ := h
    cases h1
    exact pk_cons h' pk_nil
  | w :: vs, ds, v, d, h, h' => by
    obtain ⟨e, es, rfl, h1, h2⟩ := h.uncons
    exact pk_cons h1 (pk_snoc h2 h')
theorem PkAll.len {n : Nat} : ∀ {vs : List V} {ds : List PyData}, PkAll K H n vs ds → vs.length = ds.length
  | [], ds, h => by
    obtain ⟨h1, _, _⟩ := h
    cases h1
    rfl
  | w :: vs, ds, h => by
    obtain ⟨e, es, rfl, h1, h2⟩ := h.uncons
    show vs.length + 1 = es.length + 1
    rw [h2.len]
theorem PkAll.take {n : Nat} : ∀ {vs : List V} {ds : List PyData} (k : Nat), PkAll K H n vs ds → PkAll K H n (vs.take k) (ds.take k)
  | vs, ds, 0, h => pk_nil
  | [], ds, k + 1, h => by
    obtain ⟨h1, _, _⟩ := h
    cases h1
    exact pk_nil
  | w :: vs, ds, k + 1, h => by
    obtain ⟨e, es, rfl, h1, h2⟩ := h.uncons
    exact pk_cons h1 (h2.take k)
theorem PkAll.at {n : Nat} : ∀ {vs : List V} {ds : List PyData} {i : Nat} {v : V}, PkAll K H n vs ds → vs[i]? = some v → ∃ d, ds[i]? = some d ∧ Pk K H n v d
  | [], ds, i, v, h, e => by simp at e
  | w :: vs, ds, 0, v, h, e => by
    obtain ⟨d, es, rfl, h1, h2⟩ := h.uncons
    cases (show w = v from Option.some.inj e)
    exact ⟨d, rfl, h1⟩
  | w :: vs, ds, i + 1, v, h, e => by
    obtain ⟨d, es, rfl, h1, h2⟩ := h.uncons
    exact h2.at e
theorem pk_tup {n : Nat} {a : Addr} {vs : List V} {ds : List PyData} (h : SqT K H a vs) (h1 : PkAll K H n vs ds) : Pk K H (n + 1) (.ref a) (.tuple ds) :=
  ⟨.tup h h1.1, h1.2.1, Nat.add_le_add_right h1.2.2 1⟩
theorem pk_tup1 {n : Nat} {a : Addr} {v : V} {d : PyData} (h : SqT K H a [v]) (h1 : Pk K H n v d) : Pk K H (n + 1) (.ref a) (.tuple [d]) := pk_tup h (pk_cons h1 pk_nil)
theorem pk_tup2 {n : Nat} {a : Addr} {v w : V} {d e : PyData} (h : SqT K H a [v, w]) (h1 : Pk K H n v d) (h2 : Pk K H n w e) : Pk K H (n + 1) (.ref a) (.tuple [d, e]) := pk_tup h (pk_cons h1 (pk_cons h2 pk_nil))
theorem pk_tup3 {n : Nat} {a : Addr} {u v w : V} {c d e : PyData} (h : SqT K H a [u, v, w]) (h0 : Pk K H n u c) (h1 : Pk K H n v d) (h2 : Pk K H n w e) : Pk K H (n + 1) (.ref a) (.tuple [c, d, e]) := pk_tup h (pk_cons h0 (pk_cons h1 (pk_cons h2 pk_nil)))
/-- equal data, one way or the other -/
theorem x_nePk {n m : Nat} {x y : V} {d : PyData} (h : Pk K H n x d) (h' : Pk K H m y d) (q : Q (.bl false) H) (l : n ≤ 64 := by decide) : rNeD K x y H Q := x_neSame h.1 h'.1 h.lay (Nat.le_trans h.2.2 l) q
theorem x_eqPk {n m : Nat} {x y : V} {d : PyData} (h : Pk K H n x d) (h' : Pk K H m y d) (q : Q (.bl true) H) (l : n ≤ 64 := by decide) : rEqD K x y H Q := x_eqSame h.1 h'.1 h.lay (Nat.le_trans h.2.2 l) q
theorem lay_list {ds : List PyData} (h : PyData.canLayAll0 ds = true) : PyData.canLay0 (.list ds) = true := h
theorem x_nePkL {n m : Nat} {p q' : Addr} {xs ys : List V} {ds : List PyData} (hp : SqL K H p xs) (hq : SqL K H q' ys) (h : PkAll K H n xs ds) (h' : PkAll K H m ys ds) (q : Q (.bl false) H) (l : n ≤ 63 := by decide) : rNeD K (.ref p) (.ref q') H Q :=
  x_neSame (.lst hp h.1) (.lst hq h'.1) (lay_list h.lay) (Nat.add_le_add_right (Nat.le_trans h.2.2 l) 1) q
theorem x_eqPkL {n m : Nat} {p q' : Addr} {xs ys : List V} {ds : List PyData} (hp : SqL K H p xs) (hq : SqL K H q' ys) (h : PkAll K H n xs ds) (h' : PkAll K H m ys ds) (q : Q (.bl true) H) (l : n ≤ 63 := by decide) : rEqD K (.ref p) (.ref q') H Q :=
  x_eqSame (.lst hp h.1) (.lst hq h'.1) (lay_list h.lay) (Nat.add_le_add_right (Nat.le_trans h.2.2 l) 1) q
theorem u65 {k : Nat} {A : Around} (r : Room k A) : A.units + 65 < cLine := by
  have := r.un
  omega
theorem k_inD (hu : X.A.units + 65 < cLine) (e : X.K = K) : OpR X (compareOp .In) (rInD K) := e ▸ op_inD hu
theorem k_ninD (hu : X.A.units + 65 < cLine) (e : X.K = K) : OpR X (compareOp .NotIn) (rNotInD K) := e ▸ op_notInD hu
/-- whether d is among ds -/
def inD (d : PyData) (ds : List PyData) : Bool := ds.any fun z => PyData.eqv z d
theorem x_inPk {n m : Nat} {x : V} {d : PyData} {xs : List V} {ds : List PyData} (h : Pk K H n x d) (hp : SqL K H a xs) (h' : PkAll K H m xs ds) (k : Q (.bl (inD d ds)) H) (l : n ≤ 64 := by decide) (l' : m ≤ 63 := by decide) : rInD K x (.ref a) H Q :=
  ⟨d, ds, h.1, .lst hp h'.1, shaped_of h.lay (Nat.le_trans h.2.2 l), shaped_of (lay_list h'.lay) (Nat.add_le_add_right (Nat.le_trans h'.2.2 l') 1), k⟩
theorem x_ninPk {n m : Nat} {x : V} {d : PyData} {xs : List V} {ds : List PyData} (h : Pk K H n x d) (hp : SqL K H a xs) (h' : PkAll K H m xs ds) (k : Q (.bl (!inD d ds)) H) (l : n ≤ 64 := by decide) (l' : m ≤ 63 := by decide) : rNotInD K x (.ref a) H Q :=
  ⟨d, ds, h.1, .lst hp h'.1, shaped_of h.lay (Nat.le_trans h.2.2 l), shaped_of (lay_list h'.lay) (Nat.add_le_add_right (Nat.le_trans h'.2.2 l') 1), k⟩
theorem x_inD {x : V} {d : PyData} {ds : List PyData} (h : Dp K H x d) (h' : Dp K H (.ref a) (.list ds)) (c : d.canLay0 = true) (n : d.depth ≤ 64) (c' : PyData.canLay0 (.list ds) = true) (n' : PyData.depth (.list ds) ≤ 64) (k : Q (.bl (inD d ds)) H) : rInD K x (.ref a) H Q :=
  ⟨d, ds, h, h', shaped_of c n, shaped_of c' n', k⟩
theorem x_ninD {x : V} {d : PyData} {ds : List PyData} (h : Dp K H x d) (h' : Dp K H (.ref a) (.list ds)) (c : d.canLay0 = true) (n : d.depth ≤ 64) (c' : PyData.canLay0 (.list ds) = true) (n' : PyData.depth (.list ds) ≤ 64) (k : Q (.bl (!inD d ds)) H) : rNotInD K x (.ref a) H Q :=
  ⟨d, ds, h, h', shaped_of c n, shaped_of c' n', k⟩
/-- a sign some times over -/
def repS (x : Str) (n : Int) : Str := if n < 1 then Str.empty else if (n == 1 || x.length == 0) = true then x else ⟨(List.replicate n.toNat x.cps).foldl (· ++ ·) #[]⟩
def nRepS : R2 := fun x y H Q => ∃ (z : Str) (n : Int), x = .str z ∧ y = .int n ∧ 0 ≤ n ∧ n ≤ 1000 ∧ z.length ≤ 100 ∧ Q (.str (repS z n)) H
theorem op_nRepS : OpR X (binaryOp .Mult) nRepS := by
  intro pins s σ H x y v u Q I rx ry h
  obtain ⟨z, n, rfl, rfl, h0, h1, h2, q⟩ := h
  obtain ⟨t, rfl⟩ := rx
  obtain ⟨t', rfl⟩ := ry
  have hlen : z.length * n.toNat ≤ 100000 := by
    have h3 : n.toNat ≤ 1000 := by omega
    calc z.length * n.toNat ≤ 100 * n.toNat := Nat.mul_le_mul_right _ h2
      _ ≤ 100000 := by omega
  refine PySem.P.mul_str ?_ ?_ ?_ ?_
  · rw [decide_eq_false (by omega), decide_eq_false (by omega)]
    rfl
  · intro h3 _ h4
    have h5 : (1000 : Int) ≤ (2 ^ 63 - 1) / n := by
      rw [Int.le_ediv_iff_mul_le (by omega)]
      omega
    omega
  · intro _ _
    exact decide_eq_false (by unfold sizeLine; omega)
  · unfold repS at q
    by_cases h3 : n < 1
    · rw [if_pos h3] at q ⊢
      exact ⟨by decide, .str Str.empty, H, I.tok _, ⟨_, rfl⟩, q⟩
    · rw [if_neg h3] at q ⊢
      by_cases h4 : (n == 1 || z.length == 0) = true
      · rw [if_pos h4] at q ⊢
        exact ⟨.str z, H, I, ⟨_, rfl⟩, q⟩
      · rw [if_neg h4] at q ⊢
        exact ⟨PySem.fits_reps (decide_eq_false (by unfold sizeLine; omega)), .str _, H, I.tok _, ⟨_, rfl⟩, q⟩
theorem x_nRepS {z : Str} {n : Int} (h : 0 ≤ n ∧ n ≤ 1000) (hz : z.length ≤ 100) (k : Q (.str (repS z n)) H) : nRepS (.str z) (.int n) H Q := ⟨z, n, rfl, rfl, h.1, h.2, hz, k⟩
/-- a range from its end -/
def rRevR (i : Nat) (tu : TS) (D : Ends) (σ : L2.St) : Int → Int → Hp → Prop := fun lo hi H => -(2 ^ 62) ≤ lo ∧ lo < 2 ^ 62 ∧ -(2 ^ 62) ≤ hi ∧ hi < 2 ^ 62 ∧ ∃ W : Nat → Nat → L2.St → Hp → Prop, (∃ m, W 0 m σ H) ∧ ∀ j m σ H, W j m σ H →
  ((Itc (lo + (((hi - lo).toNat : Nat) : Int) - 1) (-1) (hi - lo).toNat).stop j H ∧ D.nx σ H) ∨ ((Itc (lo + (((hi - lo).toNat : Nat) : Int) - 1) (-1) (hi - lo).toNat).go j H ∧ ∃ N : L2.St → Hp → Prop, (∀ σ' H', N σ' H' → ∃ m', m' < m ∧ W (j + 1) m' σ' H') ∧
    ∀ x H', (Itc (lo + (((hi - lo).toNat : Nat) : Int) - 1) (-1) (hi - lo).toNat).yld j H x H' → gName i x σ H' fun σ2 H2 => tu { D with nx := N, ct := N, bk := D.nx } σ2 H2)
theorem x_forRev1 {i : Nat} {tu : TS} {D : Ends} {σ : L2.St} {tr : L2.St → Hp → (Int → Int → Hp → Prop) → Prop} (q : tr σ H (rRevR i tu D σ)) : tFor (iRevR tr) (gName i) tu D σ H := q
theorem x_forRev {i : Nat} {tu : TS} {D : Ends} {σ : L2.St} {m : Int} (Pv : Nat → L2.St → Hp → Prop) (hm : 0 ≤ m ∧ m ≤ 100000) (p0 : Pv 0 σ H)
    (ps : ∀ (j : Nat) σ' H', (j : Int) < m → Pv j σ' H' → tu { D with nx := Pv (j + 1), ct := Pv (j + 1), bk := D.nx } (σ'.set i (some (.int (m - 1 - j)))) H') (pd : ∀ σ' H', Pv m.toNat σ' H' → D.nx σ' H') : rRevR i tu D σ 0 m H := by
  have e : (m - 0).toNat = m.toNat := by omega
  refine ⟨by omega, by omega, by omega, by omega, ?_⟩
  rw [e]
  refine for_rangeC (n := m.toNat) Pv p0 (fun j σ' H' hj p => ?_) pd
  have e0 : (0 : Int) + ((m.toNat : Nat) : Int) - 1 + (j : Nat) * (-1) = m - 1 - j := by omega
  show tu { D with nx := Pv (j + 1), ct := Pv (j + 1), bk := D.nx } (σ'.set i (some (.int ((0 : Int) + ((m.toNat : Nat) : Int) - 1 + (j : Nat) * (-1))))) H'
  rw [e0]
  exact ps j σ' H' (by omega) p
theorem cut_take {xs : List V} {k : Int} {n : Nat} (e : k = (n : Int)) : cutV xs none (some k) = xs.take n := by
  subst e
  unfold cutV
  rw [HT.sIx_nat, HT.sIx_none, List.drop_zero, Nat.sub_zero]
  by_cases h : n ≤ xs.length
  · rw [show min n xs.length = n by omega]
  · rw [show min n xs.length = xs.length by omega, List.take_length, List.take_of_length_le (by omega)]
theorem cut_drop {xs : List V} {k : Int} {n : Nat} (e : k = (n : Int)) : cutV xs (some k) none = xs.drop n := by
  subst e
  unfold cutV
  rw [HT.sIx_nat, HT.sIx_none]
  by_cases h : n ≤ xs.length
  · rw [show min n xs.length = n by omega, List.take_of_length_le (by rw [List.length_drop]; omega)]
  · rw [show min n xs.length = xs.length by omega, List.drop_length, List.drop_of_length_le (by omega)]
    simp
/-- range(lo, hi) -/
def rRange2 (n : Nat) (tu : TS) (D : Ends) (σ : L2.St) : List V → Hp → Prop := fun vs H => ∃ i j : Int, vs = [.int i, .int j] ∧ (-(2 ^ 62) ≤ i ∧ i < 2 ^ 62 ∧ -(2 ^ 62) ≤ j ∧ j < 2 ^ 62) ∧ ∃ W : Nat → Nat → L2.St → Hp → Prop, (∃ m, W 0 m σ H) ∧ ∀ k m σ H, W k m σ H →
  ((Itr i (j - i).toNat).stop k H ∧ D.nx σ H) ∨ ((Itr i (j - i).toNat).go k H ∧ ∃ N : L2.St → Hp → Prop, (∀ σ' H', N σ' H' → ∃ m', m' < m ∧ W (k + 1) m' σ' H') ∧ ∀ x H', (Itr i (j - i).toNat).yld k H x H' → gName n x σ H' fun σ2 H2 => tu { D with nx := N, ct := N, bk := D.nx } σ2 H2)
theorem x_forR2 {n : Nat} {tu : TS} {D : Ends} {σ : L2.St} {tr : TA} (q : tr σ H (rRange2 n tu D σ)) : tFor (iRng2 tr) (gName n) tu D σ H := q
theorem x_range2 {n : Nat} {tu : TS} {D : Ends} {σ : L2.St} {lo hi : Int} (Pv : Nat → L2.St → Hp → Prop) (hm : -1000000 ≤ lo ∧ lo ≤ 1000000 ∧ -1000000 ≤ hi ∧ hi ≤ 1000000) (p0 : Pv 0 σ H)
    (ps : ∀ (k : Nat) σ' H', lo + (k : Int) < hi → Pv k σ' H' → tu { D with nx := Pv (k + 1), ct := Pv (k + 1), bk := D.nx } (σ'.set n (some (.int (lo + (k : Int))))) H') (pd : ∀ σ' H', Pv (hi - lo).toNat σ' H' → D.nx σ' H') : rRange2 n tu D σ [.int lo, .int hi] H :=
  ⟨lo, hi, rfl, ⟨by omega, by omega, by omega, by omega⟩, for_range (lo := lo) (n := (hi - lo).toNat) Pv p0 (fun k σ' H' hk p => ps k σ' H' (by omega) p) pd⟩
theorem pk_ints {n : Nat} : ∀ ns : List Int, PkAll K H n (ns.map V.int) (ns.map PyData.int)
  | [] => pk_nil
  | m :: r => pk_cons pk_int (pk_ints r)
/-! dicts whose keys are texts -/
def rDG (x : V) (Q : VK) : VK := fun y H2 => ∃ (a : Addr) (v : V), x = .ref a ∧ DGet H2 a y (some v) ∧ Q v H2
theorem x_dget {td ty : TE} {σ : L2.St} (q : td σ H fun x H1 => ty σ H1 (rDG x Q)) : tDGet td ty σ H Q := q
theorem x_rDG {kvs : List (Key × V)} {k : Str} {v : V} (h : H a = some (.dK kvs)) (e : valV kvs (Sum.inr k) = some v) (q : Q v H) : rDG (.ref a) Q (.str k) H := ⟨a, v, rfl, by rw [← e]; exact (DGet.k (k := Sum.inr k) h : DGet H a (kV (Sum.inr k)) (valV kvs (Sum.inr k))), q⟩
def rDP (x v : V) (R : Hp → Prop) : VK := fun y H3 => ∃ (a : Addr) (H4 : Hp), x = .ref a ∧ DPut H3 a y v H4 ∧ R H4
theorem x_sdput {td ty tv : TE} {D : Ends} {σ : L2.St} {tz : TS} (q : tv σ H fun v H1 => td σ H1 fun x H2 => ty σ H2 (rDP x v fun H4 => tz D σ H4)) : tSeq (sDPut td ty tv) tz D σ H := q
theorem x_dput {td ty tv : TE} {D : Ends} {σ : L2.St} (q : tv σ H fun v H1 => td σ H1 fun x H2 => ty σ H2 (rDP x v fun H4 => D.nx σ H4)) : sDPut td ty tv D σ H := q
theorem x_rDP {kvs kvs' : List (Key × V)} {k : Str} {v : V} {R : Hp → Prop} (h : H a = some (.dK kvs)) (hl : kvs.length < 1000) (e : putK kvs (Sum.inr k) v = kvs') (q : R (upd H a (.dK kvs'))) : rDP (.ref a) v R (.str k) H :=
  ⟨a, upd H a (.dK (putK kvs (Sum.inr k) v)), rfl, (DPut.k (k := Sum.inr k) h (small1000 (Nat.le_of_lt hl)) : DPut H a (kV (Sum.inr k)) v _), by rw [e]; exact q⟩
theorem x_disp {trs : List (TE × TE)} {σ : L2.St} (q : ∀ p, Fr p H → tPairs trs σ (upd H p (.dK [])) fun ps H2 => H2 p = some (.dK []) ∧ ∃ kvs : List (Key × V), ps = kvs.map (fun kv => (kV kv.1, kv.2)) ∧ kvs.length ≤ 15 ∧ Q (.ref p) (upd H2 p (.dK (mergeK [] kvs)))) : tDisp trs σ H Q := fun p hp => q p ⟨hp⟩
theorem x_pcons {tk tv : TE} {r : List (TE × TE)} {σ : L2.St} {R : List (V × V) → Hp → Prop} (q : tk σ H fun x H1 => tv σ H1 fun y H2 => tPairs r σ H2 fun ps H3 => R ((x, y) :: ps) H3) : tPairs ((tk, tv) :: r) σ H R := q
theorem x_pnil {σ : L2.St} {R : List (V × V) → Hp → Prop} (q : R [] H) : tPairs [] σ H R := q
/-! lists of ints sorted where they stand -/
theorem x_rSortI {ns : List Int} (h : H a = some (.lst (ns.map V.int))) (k : ∀ ns' : List Int, ns'.Perm ns → ns'.Pairwise (· ≤ ·) → Q .non (upd H a (.lst (ns'.map V.int)))) : rSortI (.ref a) [] H Q := ⟨a, ns, rfl, rfl, h, k⟩
theorem srt_eq {xs ys : List Int} (p : xs.Perm ys) (h1 : xs.Pairwise (· ≤ ·)) (h2 : ys.Pairwise (· ≤ ·)) : xs = ys := p.eq_of_pairwise (fun x y _ _ h h' => Int.le_antisymm h h') h1 h2
/-! texts -/
def nInS : R2 := fun x y H Q => ∃ (c : Nat) (z : Str), x = .str ⟨#[c]⟩ ∧ y = .str z ∧ Q (.bl (decide (c ∈ z.cps.toList))) H
def nNotInS : R2 := fun x y H Q => ∃ (c : Nat) (z : Str), x = .str ⟨#[c]⟩ ∧ y = .str z ∧ Q (.bl (!decide (c ∈ z.cps.toList))) H
theorem op_nInS : OpR X (compareOp .In) nInS := op_in_sign
theorem op_nNotInS : OpR X (compareOp .NotIn) nNotInS := op_notIn_sign
theorem x_inS {c : Nat} {z : Str} (q : Q (.bl (decide (c ∈ z.cps.toList))) H) : nInS (.str ⟨#[c]⟩) (.str z) H Q := ⟨c, z, rfl, rfl, q⟩
theorem x_notInS {c : Nat} {z : Str} (q : Q (.bl (!decide (c ∈ z.cps.toList))) H) : nNotInS (.str ⟨#[c]⟩) (.str z) H Q := ⟨c, z, rfl, rfl, q⟩
def nAddS : R2 := fun x y H Q => ∃ i j : Str, x = .str i ∧ y = .str j ∧ i.length + j.length ≤ sizeLine ∧ Q (.str (i ++ j)) H
theorem op_nAddS : OpR X (binaryOp .Add) nAddS := op_add_str
theorem x_nAddS {i j : Str} (h : i.length + j.length ≤ 100000) (q : Q (.str (i ++ j)) H) : nAddS (.str i) (.str j) H Q := ⟨i, j, rfl, rfl, size_ok h, q⟩
def nLenS : List V → Hp → VK → Prop := fun xs H Q => ∃ z : Str, xs = [.str z] ∧ z.length ≤ sizeLine ∧ Q (.int z.length) H
theorem call_nLenS : CallR X (.builtin "len") nLenS := call_len_str
theorem x_nLenS {z : Str} (h : z.length ≤ 100000) (q : Q (.int z.length) H) : nLenS [.str z] H Q := ⟨z, rfl, size_ok h, q⟩
theorem x_slS {z : Str} {lo hi : Option Int} (h : z.length ≤ 100000) (q : Q (.str (cutS z lo hi)) H) : rSlS (.str z) lo hi H Q := ⟨z, rfl, size_ok h, q⟩
def rLcS (g : TG) (tt : TT) (te : TE) (vs : List Nat) (σ : L2.St) (Q : VK) : VK := fun x H1 => ∃ z, x = .str z ∧ RLc (Its z) g tt te vs σ Q H1
theorem x_lcS1 {g : TG} {t : TT} {te tx : TE} {vs : List Nat} {σ : L2.St} (q : tx σ H (rLcS g t te vs σ Q)) : tLc (iStr tx) g t te vs σ H Q := q
theorem x_lcS {g : TG} {t : TT} {te : TE} {vs : List Nat} {σ : L2.St} {z : Str} (Pv : Addr → Nat → Hp → Prop) (h0 : ∀ Dl, Fr Dl H → Pv Dl 0 (upd H Dl (.lst [])))
    (hs : ∀ Dl, Fr Dl H → ∀ i c H', z.cps.toList[i]? = some c → Pv Dl i H' → g (.str ⟨#[c]⟩) (wipe σ vs) H' fun σ2 H2 => wipe σ2 vs = wipe σ vs ∧ t σ2 H2 fun b H3 =>
      if b = true then te σ2 H3 fun y H4 => ∃ acc, H4 Dl = some (.lst acc) ∧ acc.length < sizeLine ∧ Pv Dl (i + 1) (upd H4 Dl (.lst (acc ++ [y]))) else Pv Dl (i + 1) H3)
    (hd : ∀ Dl H', Fr Dl H → Pv Dl z.length H' → Q (.ref Dl) H') : rLcS g t te vs σ Q (.str z) H := ⟨z, rfl, fun Dl hD =>
  lc_it walk_str (Pv Dl) (h0 Dl ⟨hD⟩) (fun _ _ _ _ => trivial) (fun i x H1 H' _ p y => by
    obtain ⟨rfl, c, hc, rfl⟩ := y
    exact hs Dl ⟨hD⟩ i c _ (by rw [← hc]; simp) p) (fun H' p => hd Dl H' ⟨hD⟩ p)⟩
/-! ### texts gone through, keys of a dict -/
def rForS (g : TG) (tu : TS) (D : Ends) (σ : L2.St) : VK := fun x H => ∃ z, x = .str z ∧ ∃ W : Nat → Nat → L2.St → Hp → Prop, (∃ m, W 0 m σ H) ∧ ∀ i m σ H, W i m σ H →
  ((Its z).stop i H ∧ D.nx σ H) ∨ ((Its z).go i H ∧ ∃ N : L2.St → Hp → Prop, (∀ σ' H', N σ' H' → ∃ m', m' < m ∧ W (i + 1) m' σ' H') ∧ ∀ x H', (Its z).yld i H x H' → g x σ H' fun σ2 H2 => tu { D with nx := N, ct := N, bk := D.nx } σ2 H2)
theorem x_forS1 {g : TG} {tu : TS} {D : Ends} {σ : L2.St} {te : TE} (q : te σ H (rForS g tu D σ)) : tFor (iStr te) g tu D σ H := q
theorem x_forS {g : TG} {tu : TS} {D : Ends} {σ : L2.St} {z : Str} (Pv : Nat → L2.St → Hp → Prop) (p0 : Pv 0 σ H)
    (ps : ∀ i c σ' H', z.cps.toList[i]? = some c → Pv i σ' H' → g (.str ⟨#[c]⟩) σ' H' fun σ2 H2 => tu { D with nx := Pv (i + 1), ct := Pv (i + 1), bk := D.nx } σ2 H2) (pd : ∀ σ' H', Pv z.length σ' H' → D.nx σ' H') : rForS g tu D σ (.str z) H :=
  ⟨z, rfl, for_it walk_str Pv p0 (fun _ _ _ _ _ => trivial) (fun i x σ H H' _ p y => by
    obtain ⟨rfl, c, hc, rfl⟩ := y
    exact ps i c _ _ (by rw [← hc]; simp) p) pd⟩
def nOrd : List V → Hp → VK → Prop := fun xs H Q => ∃ x : Str, xs = [.str x] ∧ x.length = 1 ∧ Q (.int (x.cps.getD 0 0 : Nat)) H
theorem k_ord {X : Cx} : CallR X (.builtin "ord") nOrd := call_ord
theorem x_ord {c : Nat} (q : Q (.int (c : Nat)) H) : nOrd [.str ⟨#[c]⟩] H Q := ⟨_, rfl, rfl, q⟩
/-- a list comprehension over a dict's keys -/
theorem x_lcK {g : TG} {t : TT} {te : TE} {vs : List Nat} {σ : L2.St} {a : Nat} {r : Addr} {kvs : List (Key × V)} (ea : σ[a]? = some (some (.ref r))) (hr : H r = some (.dK kvs))
    (q : ∀ od H0, H0 = upd H r (.frz od (.dK kvs)) → ∃ Pv : Addr → Nat → Hp → Prop, (∀ Dl, Fr Dl H0 → Pv Dl 0 (upd H0 Dl (.lst []))) ∧ (∀ Dl i H', Fr Dl H0 → Pv Dl i H' → H' r = some (.frz od (.dK kvs))) ∧
      (∀ Dl, Fr Dl H0 → ∀ i k v H', kvs[i]? = some (k, v) → Pv Dl i H' → g (kV k) (wipe σ vs) H' fun σ2 H2 => wipe σ2 vs = wipe σ vs ∧ t σ2 H2 fun b H3 =>
        if b = true then te σ2 H3 fun y H4 => ∃ acc, H4 Dl = some (.lst acc) ∧ acc.length < sizeLine ∧ Pv Dl (i + 1) (upd H4 Dl (.lst (acc ++ [y]))) else Pv Dl (i + 1) H3) ∧
      ∀ Dl H', Fr Dl H0 → Pv Dl kvs.length H' → Q (.ref Dl) (upd H' r (.dK kvs))) : tLockE (tLc (iKeys (tVar a)) g t te vs) σ H Q := by
  refine ⟨r, _, hr, trivial, fun od => ?_⟩
  obtain ⟨Pv, h0, h1, h2, h3⟩ := q od _ rfl
  refine ⟨.ref r, ea, r, od, rfl, .inl ⟨kvs, upd_same, fun Dl hD => ?_⟩⟩
  refine lc_it (walk_keys (o := od)) (Pv Dl) (h0 Dl ⟨hD⟩) (fun i H' _ p => h1 Dl i H' ⟨hD⟩ p) (fun i x H1 H' _ p y => ?_) fun H' p => ⟨h1 Dl _ H' ⟨hD⟩ p, h3 Dl H' ⟨hD⟩ p⟩
  obtain ⟨rfl, k, v, e, rfl⟩ := y
  exact h2 Dl ⟨hD⟩ i k v _ e p
/-- all signs of a text are so -/
def AllC (p : Nat → Bool) (s : Str) : Bool := s.cps.toList.all p
theorem toList_add (i j : Str) : (i ++ j).cps.toList = i.cps.toList ++ j.cps.toList := by
  show (i.cps ++ j.cps).toList = _
  simp
theorem len_add (i j : Str) : (i ++ j).length = i.length + j.length := by
  show (i.cps ++ j.cps).size = i.cps.size + j.cps.size
  simp
theorem allC_add {p : Nat → Bool} {i j : Str} (h : AllC p i = true) (h' : AllC p j = true) : AllC p (i ++ j) = true := by
  unfold AllC at *
  rw [toList_add, List.all_append, h, h']
  rfl
theorem allC_add_inv {p : Nat → Bool} {i j : Str} (h : AllC p (i ++ j) = true) : AllC p i = true ∧ AllC p j = true := by
  unfold AllC at *
  rw [toList_add, List.all_append, Bool.and_eq_true] at h
  exact h
theorem allC_cut {p : Nat → Bool} {z : Str} {lo hi : Option Int} (h : AllC p z = true) : AllC p (cutS z lo hi) = true := by
  unfold AllC at *
  rw [List.all_eq_true] at h ⊢
  intro c hc
  refine h c ?_
  unfold cutS at hc
  simp only at hc
  exact List.mem_of_mem_drop (List.mem_of_mem_take hc)
theorem len_cut (z : Str) (lo hi : Option Int) : (cutS z lo hi).length ≤ z.length := by
  show (cutS z lo hi).cps.size ≤ z.cps.size
  unfold cutS
  simp only [List.size_toArray, List.length_take, List.length_drop, Array.length_toList]
  have : z.length = z.cps.size := rfl
  omega
theorem allC_at {p : Nat → Bool} {z : Str} {i : Nat} {c : Nat} (h : AllC p z = true) (e : z.cps.toList[i]? = some c) : AllC p ⟨#[c]⟩ = true := by
  unfold AllC at *
  rw [List.all_eq_true] at h
  have := h c (List.mem_of_getElem? e)
  simp [this]
theorem allC_mono {p q : Nat → Bool} {s : Str} (h : AllC p s = true) (f : ∀ c, p c = true → q c = true) : AllC q s = true := by
  unfold AllC at *
  rw [List.all_eq_true] at h ⊢
  exact fun c hc => f c (h c hc)
def okC : Nat → Bool := fun c => decide (c < 0x110000)
theorem lay_str {s : Str} (h : AllC okC s = true) : PyData.canLay0 (.str s) = true := by
  have h2 : s.cps.all (fun c => decide (c < 0x110000)) = true := by
    rw [← Array.all_toList]
    exact h
  simpa only [PyData.canLay0, PyData.strOk] using h2
/-! tuples some times over -/
theorem tup_times1 (l : Addr) (items : Array Value) (n : Nat) (dd : Option Addr) (sl : Array (Option Value)) (u : Tok) :
    Meets (Builtin.«tuple.__mul__» ⟨[.ref l, .int 1 u], []⟩) (fun _ R s => s.heap.get? l = some { cls := .type "tuple", dict := dd, data := .seq items n, slots := sl } ∧ R (.ok (.ret (.ref l))) s) :=
  .of_wp fun prog w A R s h => by
    obtain ⟨hp, g, d, tk, os⟩ := s
    obtain ⟨hl, h⟩ := h
    have f1 := AutoSeq1.idx_int
    wp_walk using wpAny_loadPart' hl
    exact ⟨_, rfl, h⟩
def nRepT (K : PySem.W.Frag) : R2 := fun x y H Q => ∃ (l : Addr) (k : Int) (xs : List V), x = .ref l ∧ y = .int k ∧ SqT K H l xs ∧ xs ≠ [] ∧ xs.length ≤ 1000 ∧ ((k = 1 ∧ Q (.ref l) H) ∨ (2 ≤ k ∧ k ≤ 1000 ∧ ∀ p, H p = none → Q (.ref p) (upd H p (.tup (List.replicate k.toNat xs).flatten))))
theorem op_nRepT : OpR X (binaryOp .Mult) (nRepT X.K) := by
  intro pins s σ H x y v u Q I rx ry h
  obtain ⟨l, k, xs, rfl, rfl, hT, hne, hz, q⟩ := h
  rcases q with ⟨rfl, q⟩ | ⟨h1, h2, q⟩
  · cases rx
    obtain ⟨t, rfl⟩ := ry
    obtain ⟨its, r, ⟨⟨cls, dd, data, sl⟩, ho, hc, n, hd⟩, hs⟩ := I.tuple hT
    simp only at hc hd
    subst hc hd
    exact wpAny_binaryOp_repeat_ref (T := "tuple") (U := "int") (by decide) ⟨_, ho, rfl⟩ (fun s' => typeIs_int s' 1 t) noFill_tuple_mul PySem.F.fills_int_mul PySem.F.slot_int_rmul repeat_tuple PySem.F.slot_int_index.lookup
      (call_meets PySem.F.slot_int_rmul (typeIs_int s 1 t) PySem.F.entry_int_rmul (PySem.F.args_int_rmul_2 _ _) (int_rmul_tuple 1 t l its.toArray n dd sl)
        ⟨ho, rfl, ⟨_, ho, rfl⟩, call_meets PySem.F.slot_tuple_mul ⟨_, ho, rfl⟩ PySem.F.entry_tuple_mul (PySem.F.args_tuple_mul_2 _ _) (tup_times1 l its.toArray n dd sl t) ⟨ho, ⟨.ref l, H, I, rfl, q⟩⟩⟩)
  · exact op_repT pins s σ H _ _ v u Q I rx ry ⟨l, k, xs, rfl, rfl, hT, hne, h1, h2, hz, q⟩
theorem k_repT (e : X.K = K) : OpR X (binaryOp .Mult) (nRepT K) := e ▸ op_nRepT
/-! more of dicts -/
def rGet1 (R : VK) (a : Addr) : VK := fun y H2 => ∃ o, DGet H2 a y o ∧ R (o.getD .non) H2
def rGetD (x : V) (ty : TE) (σ : L2.St) (Q : VK) : Hp → Prop := fun H1 => ∃ a, x = .ref a ∧ IsD H1 a ∧ ty σ H1 (rGet1 Q a)
theorem x_dget1 {td ty : TE} {σ : L2.St} (q : td σ H fun x H1 => rGetD x ty σ Q H1) : tDGet1 td ty σ H Q := q
theorem x_rGetD {ty : TE} {σ : L2.St} {kvs : List (Key × V)} (h : H a = some (.dK kvs)) (q : ty σ H (rGet1 Q a)) : rGetD (.ref a) ty σ Q H := ⟨a, rfl, .inl ⟨kvs, .inl h⟩, q⟩
theorem x_rGet1 {kvs : List (Key × V)} {k : Str} (h : H a = some (.dK kvs)) (q : Q ((valV kvs (Sum.inr k)).getD .non) H) : rGet1 Q a (.str k) H := ⟨_, (DGet.k (k := Sum.inr k) h : DGet H a (kV (Sum.inr k)) (valV kvs (Sum.inr k))), q⟩
def rGet2 (R : VK) (a : Addr) (y z : V) : Hp → Prop := fun H3 => ∃ o, DGet H3 a y o ∧ R (o.getD z) H3
def rGetE (x : V) (ty tx : TE) (σ : L2.St) (Q : VK) : Hp → Prop := fun H1 => ∃ a, x = .ref a ∧ IsD H1 a ∧ ty σ H1 fun y H2 => tx σ H2 fun z H3 => rGet2 Q a y z H3
theorem x_dget2 {td ty tx : TE} {σ : L2.St} (q : td σ H fun x H1 => rGetE x ty tx σ Q H1) : tDGet2 td ty tx σ H Q := q
theorem x_rGetE {ty tx : TE} {σ : L2.St} {kvs : List (Key × V)} (h : H a = some (.dK kvs)) (q : ty σ H fun y H2 => tx σ H2 fun z H3 => rGet2 Q a y z H3) : rGetE (.ref a) ty tx σ Q H := ⟨a, rfl, .inl ⟨kvs, .inl h⟩, q⟩
theorem x_rGet2 {kvs : List (Key × V)} {k : Str} {z : V} (h : H a = some (.dK kvs)) (q : Q ((valV kvs (Sum.inr k)).getD z) H) : rGet2 Q a (.str k) z H := ⟨_, (DGet.k (k := Sum.inr k) h : DGet H a (kV (Sum.inr k)) (valV kvs (Sum.inr k))), q⟩
def rPop1 (R : VK) (a : Addr) : VK := fun y H2 => ∃ (kvs : List (Key × V)) (k : Key) (v : V), H2 a = some (.dK kvs) ∧ y = kV k ∧ valV kvs k = some v ∧ R v (upd H2 a (.dK (dropK kvs k)))
def rPopD (x : V) (ty : TE) (σ : L2.St) (Q : VK) : Hp → Prop := fun H1 => ∃ a, x = .ref a ∧ IsD H1 a ∧ ty σ H1 (rPop1 Q a)
theorem x_dpop1 {td ty : TE} {σ : L2.St} (q : td σ H fun x H1 => rPopD x ty σ Q H1) : tDPop1 td ty σ H Q := q
theorem x_rPopD {ty : TE} {σ : L2.St} {kvs : List (Key × V)} (h : H a = some (.dK kvs)) (q : ty σ H (rPop1 Q a)) : rPopD (.ref a) ty σ Q H := ⟨a, rfl, .inl ⟨kvs, .inl h⟩, q⟩
theorem x_rPop1 {kvs : List (Key × V)} {k : Str} {v : V} (h : H a = some (.dK kvs)) (e : valV kvs (Sum.inr k) = some v) (q : Q v (upd H a (.dK (dropK kvs (Sum.inr k))))) : rPop1 Q a (.str k) H := ⟨kvs, Sum.inr k, v, h, rfl, e, q⟩
def rPop2 (R : VK) (a : Addr) (y z : V) : Hp → Prop := fun H3 => ∃ (kvs : List (Key × V)) (k : Key), H3 a = some (.dK kvs) ∧ y = kV k ∧ (∀ v, valV kvs k = some v → R v (upd H3 a (.dK (dropK kvs k)))) ∧ (valV kvs k = none → R z H3)
def rPopE (x : V) (ty tx : TE) (σ : L2.St) (Q : VK) : Hp → Prop := fun H1 => ∃ a, x = .ref a ∧ IsD H1 a ∧ ty σ H1 fun y H2 => tx σ H2 fun z H3 => rPop2 Q a y z H3
theorem x_dpop2 {td ty tx : TE} {σ : L2.St} (q : td σ H fun x H1 => rPopE x ty tx σ Q H1) : tDPop2 td ty tx σ H Q := q
theorem x_rPopE {ty tx : TE} {σ : L2.St} {kvs : List (Key × V)} (h : H a = some (.dK kvs)) (q : ty σ H fun y H2 => tx σ H2 fun z H3 => rPop2 Q a y z H3) : rPopE (.ref a) ty tx σ Q H := ⟨a, rfl, .inl ⟨kvs, .inl h⟩, q⟩
theorem x_rPop2 {kvs : List (Key × V)} {k : Str} {z : V} (h : H a = some (.dK kvs)) (q1 : ∀ v, valV kvs (Sum.inr k) = some v → Q v (upd H a (.dK (dropK kvs (Sum.inr k))))) (q2 : valV kvs (Sum.inr k) = none → Q z H) : rPop2 Q a (.str k) z H := ⟨kvs, Sum.inr k, h, rfl, q1, q2⟩
def rDInK (y : V) (Q : VK) : VK := fun x H2 => ∃ a o, x = .ref a ∧ DGet H2 a y o ∧ Q (.bl o.isSome) H2
theorem x_din {ty td : TE} {σ : L2.St} (q : ty σ H fun y H1 => td σ H1 (rDInK y Q)) : tDIn ty td σ H Q := q
theorem x_rDInK {kvs : List (Key × V)} {k : Str} (h : H a = some (.dK kvs)) (q : Q (.bl (valV kvs (Sum.inr k)).isSome) H) : rDInK (.str k) Q (.ref a) H := ⟨a, _, rfl, (DGet.k (k := Sum.inr k) h : DGet H a (kV (Sum.inr k)) (valV kvs (Sum.inr k))), q⟩
theorem x_dnew {σ : L2.St} (k : ∀ p H2, Fr p H → Same H H2 → H2 p = some (.dK []) → Q (.ref p) H2) : tDNewK σ H Q := fun p hp => k p _ ⟨hp⟩ (same_new hp) upd_same
theorem x_notBl {b c : Bool} (q : Q (.bl (!decide (b = c))) H) : rNotB (.bl b) (.bl c) H Q := ⟨b, c, rfl, rfl, q⟩
theorem x_isBl {b c : Bool} (q : Q (.bl (decide (b = c))) H) : rIsB (.bl b) (.bl c) H Q := ⟨b, c, rfl, rfl, q⟩
theorem cut_whole {xs : List V} {lo hi : Option Int} (h : HT.sIx xs.length 0 lo = 0 ∧ HT.sIx xs.length xs.length hi = xs.length) : cutV xs lo hi = xs := by
  unfold cutV
  rw [h.1, h.2]
  simp
theorem x_slA {xs : List V} {lo hi : Option Int} (h : H a = some (.tup xs)) (k : ∀ p H', Same H H' → H' p = some (.tup (cutV xs lo hi)) → Q (.ref p) H') : rSlA K (.ref a) lo hi H Q :=
  ⟨a, xs, rfl, st_of h, fun e => k a H (Same.refl _) (by rw [cut_whole e]; exact h), fun _ p hp => k p _ (same_new hp) upd_same⟩
theorem x_catB {xs ys : List V} (h : H a = some (.tup xs)) (h' : H b = some (.tup ys)) (hz : xs.length + ys.length ≤ 100000) (k : ∀ p H', Same H H' → H' p = some (.tup (xs ++ ys)) → Q (.ref p) H') : rCatA K (.ref a) (.ref b) H Q :=
  ⟨a, b, xs, ys, rfl, rfl, st_of h, st_of h', size_ok hz, fun e => k b H (Same.refl _) (by rw [e]; exact h'), fun _ e => k a H (Same.refl _) (by rw [e, List.append_nil]; exact h), fun _ _ p hp => k p _ (same_new hp) upd_same⟩
theorem x_repB {xs : List V} {n : Int} (h : H a = some (.tup xs)) (hne : xs ≠ []) (hz : xs.length ≤ 1000) (hn : 1 ≤ n ∧ n ≤ 1000) (k : ∀ p H', Same H H' → H' p = some (.tup (List.replicate n.toNat xs).flatten) → Q (.ref p) H') : nRepT K (.ref a) (.int n) H Q := by
  refine ⟨a, n, xs, rfl, rfl, st_of h, hne, hz, ?_⟩
  by_cases e : n = 1
  · subst e
    refine .inl ⟨rfl, k a H (Same.refl _) ?_⟩
    rw [h]
    simp
  · exact .inr ⟨by omega, hn.2, fun p hp => k p _ (same_new hp) upd_same⟩
theorem repS_len {z : Str} {n : Int} (h : 2 ≤ n) (hz : 1 ≤ z.length) : (repS z n).length = n.toNat * z.length := by
  unfold repS
  rw [if_neg (by omega), if_neg]
  · show ((List.replicate n.toNat z.cps).foldl (· ++ ·) #[]).size = _
    rw [PySem.size_reps]
    show 0 + n.toNat * z.cps.size = n.toNat * z.length
    rw [Nat.zero_add]
    rfl
  · rw [Bool.or_eq_true, beq_iff_eq, beq_iff_eq]
    omega
end
/-- a def with defaults that lets nothing out -/
theorem okD {P : Program} {w : World} {K : PySem.W.Frag} {mg : Str → Option Value} {base : Heap} {x qual : Str} {pr : Arguments} {body : List Stmt} {sc : Scope} {dvs : List V} {kws : List (Str × V)} {f : Addr} {fd : FuncData} {N ps : List Str} {k : Nat} {sp : Sp}
    (F : FunD K x qual pr body sc dvs kws f fd) (S : FnScope N ps sc) (len : ∀ vs H Q E, sp vs H Q E → vs.length = ps.length)
    (hb : ∀ (cdv : Value) (A : Around) (outer : List Env) (s : Shared) (H : Hp) (vs : List V) (Q : VK) (E : XK), Room k (A.deeper (envOfC qual sc s.heap.objs.size f cdv)) → sp vs H Q E →
      ∃ t, PSs (cxOf CX0 P w K mg base N qual sc f cdv A outer s H E).nox body t ∧ t { nx := fun _ H' => Q .non H', rt := Q } (start N vs) H) : FnOk P w K mg base CX0 (k + 1) f fd ps sp :=
  F.ok S len fun cdv A outer s H vs Q E hr h => by
    obtain ⟨t, h1, q⟩ := hb cdv A outer s H vs Q E hr h
    exact ⟨t, h1.nox, q⟩
theorem funD_mk {K : PySem.W.Frag} {x qual : Str} {st : Stmt} {f dT : Addr} {oc : Value} {od an : Option Addr} {osl : Array (Option Value)} {kV doc pm cdv ct : Value} {dvs : List V} {o : Obj} {its : List Value} {n : Nat}
    (l : K.lookup f = some ⟨oc, od, .func (PySem.W.fnOf x qual (defArgs st) (defBody st) (defScope st) (.ref dT) kV doc pm an cdv ct), osl⟩) (c : PySem.W.codeIn K cdv qual = true) (k : PySem.W.keepIn K (.ref f) = true)
    (hd : dvs ≠ []) (lT : K.lookup dT = some o) (oT : o.data = .seq its.toArray n) (r : Vals dvs its) :
    FunD K x qual (defArgs st) (defBody st) (defScope st) dvs [] f (PySem.W.fnOf x qual (defArgs st) (defBody st) (defScope st) (.ref dT) kV doc pm an cdv ct) :=
  ⟨⟨oc, od, .ref dT, kV, doc, pm, an, cdv, ct, osl, rfl, l, c, .inr ⟨hd, dT, o, its, n, rfl, lT, oT, r⟩, .inl rfl⟩, k⟩
/-- dict(d) -/
def rDictD (xs : List V) (H : Hp) (Q : VK) : Prop := ∃ (a : Addr) (kvs : List (Key × V)), xs = [.ref a] ∧ Rd H a (.dK kvs) ∧ ∀ p, H p = none → Q (.ref p) (upd H p (.dK kvs))
theorem k_dictD {X : Cx} : CallR X (.type "dict") rDictD := call_dictD
theorem x_rDictD {a : Addr} {H : Hp} {Q : VK} {kvs : List (Key × V)} (h : H a = some (.dK kvs)) (k : ∀ p H2, Fr p H → Same H H2 → H2 p = some (.dK kvs) → Q (.ref p) H2) : rDictD [.ref a] H Q := ⟨a, kvs, rfl, .inl h, x_new1 k⟩
end Xk
/-! zip of a tuple and a list -/
namespace Xk
open PySem PySem.Spec PyProof.Rows L2
/-- a tuple at p and a list at q, side by side -/
def ItTL (K : PySem.W.Frag) (p q : Addr) : It where
  go := fun n H => ∃ (us vs : List V) (u v : V), SqT K H p us ∧ SqL K H q vs ∧ us[n]? = some u ∧ vs[n]? = some v
  yld := fun n H r H' => ∃ T u v, r = .ref T ∧ H T = none ∧ H' = upd H T (.tup [u, v]) ∧ (∀ us, SqT K H p us → us[n]? = some u) ∧ ∀ vs, SqL K H q vs → vs[n]? = some v
  stop := fun n H => ∃ us vs : List V, SqT K H p us ∧ SqL K H q vs ∧ n ≤ us.length ∧ n ≤ vs.length ∧ (n = us.length ∨ n = vs.length)
/-- what stands behind such an iterator -/
def AtTL (z t o i j p q : Addr) (n : Nat) (h : Heap) : Prop :=
  IsZip h z t o .none ∧ IsPair h t (.ref i) (.ref j) ∧ (∃ u v, IsPair h o u v) ∧ h.IsTupleIter i p n ∧ h.IsListIter j q n
theorem sepTL {z t o i j p q : Addr} (D : ZipApart z t o i j p q) : ZipSep2 z t o i j [i, p] [j, q] where
  TIz := D.TIz
  TOz := D.TOz
  TITO := D.TITO
  TIi1 := D.TIi1
  mem1 := List.mem_cons_self
  zf1 := by simp [D.i1z.symm, D.l1z.symm]
  Tf1 := by simp [D.TOi1, D.l1TO.symm]
  TIi2 := D.TIi2
  mem2 := List.mem_cons_self
  zf2 := by simp [D.i2z.symm, D.l2z.symm]
  Tf2 := by simp [D.TOi2, D.l2TO.symm]
  sep1_2 := by simp [D.i12, D.l2i1.symm]
  sep2_1 := by simp [D.i12.symm, D.l1i2.symm]
theorem five {c z t o i j : Addr} {P : Addr → Prop} (h : c ∈ [z, t, o, i, j]) (h1 : P z) (h2 : P t) (h3 : P o) (h4 : P i) (h5 : P j) : P c := by
  simp only [List.mem_cons, List.not_mem_nil, or_false] at h
  rcases h with rfl | rfl | rfl | rfl | rfl <;> assumption
theorem turnTL {P : Program} {w : World} {K : PySem.W.Frag} {es : List Expr} {k : Nat} {pos : Pos} {z t o i j p q : Addr} (D : ZipApart z t o i j p q) :
    Turn P w K (.Tuple es k pos) (ItTL K p q) [z, t, o, i, j] z (AtTL z t o i j p q) where
  mem := List.mem_cons_self
  obj := fun n h st c hc => by
    obtain ⟨g1, g2, ⟨u, v, g3⟩, ⟨o1, e1, _, d1⟩, ⟨o2, e2, _, d2⟩⟩ := st
    refine five (P := fun c => ∃ ob, h.get? c = some ob ∧ ∀ v, ob.data ≠ .cell v) hc ⟨_, g1, fun _ e => nomatch e⟩ ⟨_, g2, fun _ e => nomatch e⟩ ⟨_, g3, fun _ e => nomatch e⟩ ⟨o1, e1, fun x e => ?_⟩ ⟨o2, e2, fun x e => ?_⟩
    · rw [d1] at e
      cases e
    · rw [d2] at e
      cases e
  keep := fun n h h' st g => by
    obtain ⟨g1, g2, ⟨u, v, g3⟩, g4, g5⟩ := st
    exact ⟨g z (by simp) _ g1, g t (by simp) _ g2, ⟨u, v, g o (by simp) _ g3⟩, g4.at fun ob e => g i (by simp) ob e, g5.at fun ob e => g j (by simp) ob e⟩
  item := by
    intro X hP hw hK hc n pins s σ H E I hf st hg
    subst hP hw hK
    obtain ⟨g1, g2, ⟨u0, v0, g3⟩, g4, g5⟩ := st
    obtain ⟨us, vs, u, v, hus, hvs, hu, hv⟩ := hg
    obtain ⟨its, r1, p1, _⟩ := I.tuple hus
    obtain ⟨its2, r2, p2, _⟩ := I.list hvs
    obtain ⟨x, hx, rx⟩ := r1.get hu
    obtain ⟨y, hy, ry⟩ := r2.get hv
    have lt1 : n < its.toArray.size := by
      obtain ⟨b, _⟩ := List.getElem?_eq_some_iff.mp hx
      simpa using b
    have lt2 : n < its2.toArray.size := by
      obtain ⟨b, _⟩ := List.getElem?_eq_some_iff.mp hy
      simpa using b
    have hzl : z < s.heap.objs.size := Heap.lt_size g1
    have hh : X.A.in1.handled = none := I.ok.hd hc
    refine wpAny_pyNext_zipD2_item (sepTL D) (Draws.tuple hh i p D.l1i1 its.toArray) (Draws.list hh j q D.l2i2 its2.toArray) g1 g2 g3 ⟨g4, p1⟩ ⟨g5, p2.isList⟩ lt1 lt2 fun x1 y1 h' tk q1 q2 z' o' st1 st2 hT hsz hk => ?_
    have ex : x1 = x := by
      have e2 : its[n]? = some x1 := by simpa using q1
      exact Option.some.inj (e2.symm.trans hx)
    have ey : y1 = y := by
      have e2 : its2[n]? = some y1 := by simpa using q2
      exact Option.some.inj (e2.symm.trans hy)
    subst ex ey
    refine ⟨_, rfl, wpAny_letOwnedTupleGo_zip (s := { s with heap := h', toks := tk }) z' fun h2 z2 sb => ?_⟩
    have hT2 : h2.get? s.heap.objs.size = some { cls := .type "tuple", data := .seq #[x1, y1] } := (sb.2 _ (Nat.ne_of_gt hzl)).trans hT
    have new : ObjOk X.prog X.w (upd H s.heap.objs.size (.tup [u, v])) h2 s.heap.objs.size (.tup [u, v]) :=
      ⟨by show 2 ≤ sizeLine; decide, [x1, y1], .cons rx (.cons ry .nil), ⟨_, hT2, rfl, _, rfl⟩⟩
    have kept : ∀ c ob, c ∉ [z, t, o, i, j] → s.heap.get? c = some ob → h2.get? c = some ob := fun c ob nc e => by
      simp only [List.mem_cons, List.not_mem_nil, or_false, not_or] at nc
      exact (sb.2 c nc.1).trans (hk c ob nc.1 nc.2.2.1 nc.2.2.2.1 nc.2.2.2.2 e)
    have I1 : Inv X pins σ (upd H s.heap.objs.size (.tup [u, v])) { s with heap := h2, toks := tk } :=
      I.turnedNew (t' := tk) (ch := [z, t, o, i, j]) kept hf (Nat.le_refl _) new
    refine ⟨.ref s.heap.objs.size, _, I1, rfl, ⟨_, u, v, rfl, I.hok.fresh (Nat.le_refl _), rfl, fun l hl => ?_, fun l hl => ?_⟩, ⟨z2, ?_, ⟨x1, y1, ?_⟩, ?_, ?_⟩, fun c hcm => ?_⟩
    · rw [I.tuple_inj hl hus]
      exact hu
    · rw [I.list_inj hl hvs]
      exact hv
    · exact (sb.2 _ D.TIz).trans (hk t _ D.TIz D.TITO D.TIi1 D.TIi2 g2)
    · exact (sb.2 _ D.TOz).trans o'
    · exact st1.1.at fun ob e => (sb.2 _ D.i1z).trans e
    · exact st2.1.at fun ob e => (sb.2 _ D.i2z).trans e
    · have lt : c < s.heap.objs.size := by
        refine five (P := fun c => c < s.heap.objs.size) hcm hzl (Heap.lt_size g2) (Heap.lt_size g3) ?_ ?_
        · obtain ⟨_, e1, _⟩ := g4
          exact Heap.lt_size e1
        · obtain ⟨_, e1, _⟩ := g5
          exact Heap.lt_size e1
      rw [upd_ne (Nat.ne_of_lt lt)]
      exact (hf c hcm).1
  done := by
    intro X hP hw hK hc n pins s σ H E I hf st hg
    subst hP hw hK
    obtain ⟨g1, g2, ⟨u0, v0, g3⟩, g4, g5⟩ := st
    obtain ⟨us, vs, hus, hvs, le1, le2, hend⟩ := hg
    obtain ⟨its, r1, p1, _⟩ := I.tuple hus
    obtain ⟨its2, r2, p2, _⟩ := I.list hvs
    have l1 : its.toArray.size = us.length := by rw [List.size_toArray, r1.length]
    have l2 : its2.toArray.size = vs.length := by rw [List.size_toArray, r2.length]
    have hh : X.A.in1.handled = none := I.ok.hd hc
    exact wpAny_pyNext_zipD2_end (sepTL D) (Draws.tuple hh i p D.l1i1 its.toArray) (Draws.list hh j q D.l2i2 its2.toArray) g1 g2 g3 ⟨g4, p1⟩ ⟨g5, p2.isList⟩ (by omega) (by omega) (by omega) fun h' tk hk =>
      ⟨rfl, I.turnedL (t' := tk) (ch := [z, t, o, i, j]) (fun c ob nc e => by
        simp only [List.mem_cons, List.not_mem_nil, or_false, not_or] at nc
        exact hk c ob nc.1 nc.2.2.1 nc.2.2.2.1 nc.2.2.2.2 e) hf⟩
  self := fun A n s Q E st h => wpAny_pyIter_zip st.1 h
/-- zip(e, e2), e a tuple and e2 a list -/
def iTL (K : PySem.W.Frag) (ta : TA) : TI := fun σ H R => ta σ H fun vs H1 => ∃ p q us ws, vs = [.ref p, .ref q] ∧ SqT K H1 p us ∧ SqL K H1 q ws ∧ R (ItTL K p q) H1
theorem pi_TL {X : Cx} {e e2 : Expr} {ta : TA} {p1 pos tpos : Pos} {es : List Expr} {k : Nat} (hg : Gl X "zip") (hm : X.mg "zip" = none) (ha : PA X [e, e2] ta)
    (hs : starEach [e, e2] X.env = (false, eval e X.env) :: starEach [e2] X.env := by rfl) (hpl : (backTo pos (starEach [e2] X.env)).any (·.1) = false := by rfl) :
    PI X (.Tuple es k tpos) (.Call (.Name "zip" p1) [e, e2] [] pos) (iTL X.K ta) := by
  refine ⟨fun pins s σ H R I h => Call_ (ld_blt I hg hm PyProof.Rows.boot_zip (PyProof.Rows.callWith_type1 (thn (ha.run pos pins s σ H _ I h) fun us s1 ⟨vs, H1, I1, r1, q1⟩ => ?_) hs hpl))⟩
  obtain ⟨p, q, xs, ys, rfl, hx, hy, g⟩ := q1
  have e3 : us = [.ref p, .ref q] := by
    cases r1 with
    | cons a b =>
      cases b with
      | cons c d =>
        cases d
        cases a
        cases c
        rfl
  subst e3
  obtain ⟨its, rx, px, _⟩ := I1.tuple hx
  obtain ⟨its2, ry, py, _⟩ := I1.list hy
  have lp : p < s1.heap.objs.size := by
    obtain ⟨_, e1, _⟩ := id px
    exact Heap.lt_size e1
  refine zip_begins2 (begins_tuple p its.toArray) (begins_list q its2.toArray) px py.isList fun h' hz hTI hTO h1 h2 hsz hk => wpAny_pyIter_zip hz ?_
  have I2 : Inv X pins σ H1 { s1 with heap := h' } := I1.kept (t' := s1.toks) hk
  refine ⟨s1.heap.objs.size + 4, [s1.heap.objs.size + 4, s1.heap.objs.size + 2, s1.heap.objs.size + 3, s1.heap.objs.size, s1.heap.objs.size + 1], _, _, H1, rfl, I2,
    turnTL (PySem.W.ktu_apart s1.heap.objs.size p q lp py.lt), ⟨hz, hTI, ⟨_, _, hTO⟩, ⟨_, h1, rfl, rfl⟩, ⟨_, h2, rfl, rfl⟩⟩, fun c hcm => ?_, g⟩
  have le : s1.heap.objs.size ≤ c := five (P := fun c => s1.heap.objs.size ≤ c) hcm (Nat.le_add_right _ _) (Nat.le_add_right _ _) (Nat.le_add_right _ _) (Nat.le_refl _) (Nat.le_add_right _ _)
  exact I1.fpOk le (I1.hok.fresh le)
/-- a comprehension over it -/
theorem walkTL {K : PySem.W.Frag} {p q : Addr} {us vs : List V} (e : us.length = vs.length) : Walk (ItTL K p q) us.length (fun H => SqT K H p us ∧ SqL K H q vs) (YPair (fun n => us[n]?) (fun n => vs[n]?)) := by
  refine ⟨fun n _ hn g => ?_, fun _ g => ⟨us, vs, g.1, g.2, Nat.le_refl _, by omega, .inl rfl⟩, fun n H v H' _ g y => ?_⟩
  · have h2 : n < vs.length := by omega
    exact ⟨us, vs, us[n], vs[n], g.1, g.2, List.getElem?_eq_getElem hn, List.getElem?_eq_getElem h2⟩
  · obtain ⟨T, x, z, h1, h2, h3, h4, h5⟩ := y
    exact ⟨T, x, z, h1, h2, h3, h4 us g.1, h5 vs g.2⟩
end Xk
section
open PySem PySem.Spec PyProof.Rows L2
namespace Xk
variable {K : PySem.W.Frag} {σ : L2.St} {H : Hp} {Q : VK} {te : TE} {g : TG} {t : TT} {X : Cx}
theorem k_TL {e e2 : Expr} {ta : TA} {p1 pos tpos : Pos} {es : List Expr} {k : Nat} (hk : X.K = K) (hg : Gl X "zip") (hm : X.mg "zip" = none) (ha : PA X [e, e2] ta)
    (hs : starEach [e, e2] X.env = (false, eval e X.env) :: starEach [e2] X.env := by rfl) (hpl : (backTo pos (starEach [e2] X.env)).any (·.1) = false := by rfl) :
    PI X (.Tuple es k tpos) (.Call (.Name "zip" p1) [e, e2] [] pos) (iTL K ta) := hk ▸ pi_TL hg hm ha hs hpl
def rLcZ (K : PySem.W.Frag) (g : TG) (tt : TT) (te : TE) (vs : List Nat) (σ : L2.St) (Q : VK) : List V → Hp → Prop := fun zs H1 => ∃ p q us ws, zs = [.ref p, .ref q] ∧ SqT K H1 p us ∧ SqL K H1 q ws ∧ RLc (ItTL K p q) g tt te vs σ Q H1
theorem x_lcZ1 {tr : TA} {vs : List Nat} (q : tr σ H (rLcZ K g t te vs σ Q)) : tLc (iTL K tr) g t te vs σ H Q := q
theorem x_lcZ {a b : Addr} {us ws : List V} {vs : List Nat} (Pv : Addr → Nat → Hp → Prop) (e : us.length = ws.length) (hx : SqT K H a us) (hy : SqL K H b ws) (h0 : ∀ Dl, Fr Dl H → Pv Dl 0 (upd H Dl (.lst [])))
    (hl : ∀ Dl i H', Fr Dl H → Pv Dl i H' → SqT K H' a us ∧ SqL K H' b ws)
    (hs : ∀ Dl, Fr Dl H → ∀ i x y H1 T H', us[i]? = some x → ws[i]? = some y → Pv Dl i H1 → Fr T H1 → Same H1 H' → H' T = some (.tup [x, y]) → g (.ref T) (wipe σ vs) H' fun σ2 H2 => wipe σ2 vs = wipe σ vs ∧ t σ2 H2 fun c H3 =>
      if c = true then te σ2 H3 fun y H4 => ∃ acc, H4 Dl = some (.lst acc) ∧ acc.length < sizeLine ∧ Pv Dl (i + 1) (upd H4 Dl (.lst (acc ++ [y]))) else Pv Dl (i + 1) H3)
    (hd : ∀ Dl H', Fr Dl H → Pv Dl us.length H' → Q (.ref Dl) H') : rLcZ K g t te vs σ Q [.ref a, .ref b] H := ⟨a, b, us, ws, rfl, hx, hy, fun Dl hD =>
  lc_it (walkTL e) (Pv Dl) (h0 Dl ⟨hD⟩) (fun i H' _ p => hl Dl i H' ⟨hD⟩ p) (fun i x H1 H' hi p y => by
    obtain ⟨T, u, v, rfl, hT, rfl, e1, e2⟩ := y
    exact hs Dl ⟨hD⟩ i u v H1 T _ e1 e2 p ⟨hT⟩ (same_new hT) upd_same) (fun H' p => hd Dl H' ⟨hD⟩ p)⟩
/-- texts in order -/
def nLtS : R2 := fun x y H Q => ∃ i j, x = .str i ∧ y = .str j ∧ Q (.bl (decide (i.cps.toList < j.cps.toList))) H
def nLeS : R2 := fun x y H Q => ∃ i j, x = .str i ∧ y = .str j ∧ Q (.bl (!decide (j.cps.toList < i.cps.toList))) H
theorem op_nLtS : OpR X (compareOp .Lt) nLtS := op_lt_str
theorem op_nLeS : OpR X (compareOp .LtE) nLeS := op_le_str
def rPar (i j : Nat) (σ : L2.St) (R : L2.St → Hp → Prop) : List V → Hp → Prop := fun vs H1 => ∃ v w, vs = [v, w] ∧ R ((σ.set i (some v)).set j (some w)) H1
theorem x_spar {i j : Nat} {ta : TA} {tz : TS} {D : Ends} (q : ta σ H (rPar i j σ (tz D))) : tSeq (tPar i j ta) tz D σ H := q
theorem x_par {i j : Nat} {ta : TA} {D : Ends} (q : ta σ H (rPar i j σ D.nx)) : tPar i j ta D σ H := q
theorem x_rPar {i j : Nat} {R : L2.St → Hp → Prop} {v u : V} (q : R ((σ.set i (some v)).set j (some u)) H) : rPar i j σ R [v, u] H := ⟨v, u, rfl, q⟩
def nGeS : R2 := fun x y H Q => ∃ i j, x = .str i ∧ y = .str j ∧ Q (.bl (!decide (i.cps.toList < j.cps.toList))) H
theorem op_nGeS : OpR X (compareOp .GtE) nGeS := op_ge_str
theorem x_nGeS {i j : Str} (q : Q (.bl (!decide (i.cps.toList < j.cps.toList))) H) : nGeS (.str i) (.str j) H Q := ⟨i, j, rfl, rfl, q⟩
theorem x_nLtS {i j : Str} (q : Q (.bl (decide (i.cps.toList < j.cps.toList))) H) : nLtS (.str i) (.str j) H Q := ⟨i, j, rfl, rfl, q⟩
theorem x_nLeS {i j : Str} (q : Q (.bl (!decide (j.cps.toList < i.cps.toList))) H) : nLeS (.str i) (.str j) H Q := ⟨i, j, rfl, rfl, q⟩
theorem x_ext {l b : Addr} {xs zs : List V} (h : H l = some (.lst xs)) (h' : H b = some (.lst zs)) (hz : xs.length + zs.length ≤ 100000) (q : Q .non (upd H l (.lst (xs ++ zs)))) : rExtend (.ref l) [.ref b] H Q := ⟨l, b, xs, zs, rfl, rfl, h, h', size_ok hz, q⟩
theorem x_sortS {a : Addr} {xs : List Str} (h : SqL K H a (xs.map V.str)) (hl : xs.length < 64) (k : ∀ p H2 (ys : List Str), ys.Perm xs → sortedS ys = true → Fr p H → Same H H2 → H2 p = some (.lst (ys.map V.str)) → Q (.ref p) H2) : rSortedS K [.ref a] H Q :=
  ⟨a, xs, rfl, h, hl, fun ys p h1 h2 hp => k p _ ys h1 h2 ⟨hp⟩ (same_new hp) upd_same⟩
end Xk
end
namespace Xk
open PySem PySem.Spec PyProof.Rows L2
theorem k_fld {X : Cx} {K : PySem.W.Frag} {e : Expr} {f : Str} {pos : Pos} {ta : TE} (hk : X.K = K) (he : PE X e ta) (hb : attributeBase e f X.env (eval e X.env) = eval e X.env) : PE X (.Attribute e f pos) (tFld K ta f) := hk ▸ pe_fld he hb
end Xk
namespace Xk
open PySem PySem.Spec PyProof.Rows L2
def rSubSl (x v : V) (l u : Option Int) (σ : L2.St) (R : L2.St → Hp → Prop) : Hp → Prop := fun H3 => ∃ (a b : Addr) (xs ys : List V) (i j : Int), x = .ref a ∧ v = .ref b ∧ l = some i ∧ u = some j ∧
  H3 a = some (.lst xs) ∧ H3 b = some (.lst ys) ∧ a ≠ b ∧ 0 ≤ i ∧ i ≤ j ∧ j ≤ xs.length ∧ xs.length + ys.length ≤ sizeLine ∧ R σ (upd H3 a (.lst (xs.take i.toNat ++ ys ++ xs.drop j.toNat)))
theorem x_gSubSl {to : TE} {tl th : TO} {v : V} {σ : L2.St} {H : Hp} {R : L2.St → Hp → Prop} (q : to σ H fun x H1 => tl σ H1 fun l H2 => th σ H2 fun u H3 => rSubSl x v l u σ R H3) : gSubSl to tl th v σ H R := q
theorem x_rSubSl {a b : Addr} {xs ys : List V} {i j : Int} {n m : Nat} {σ : L2.St} {H : Hp} {R : L2.St → Hp → Prop} (h : H a = some (.lst xs)) (h' : H b = some (.lst ys)) (ne : a ≠ b) (hi : i = (n : Int)) (hj : j = (m : Int)) (nm : n ≤ m) (hm : m ≤ xs.length) (hz : xs.length + ys.length ≤ 100000)
    (q : R σ (upd H a (.lst (xs.take n ++ ys ++ xs.drop m)))) : rSubSl (.ref a) (.ref b) (some i) (some j) σ R H := by
  refine ⟨a, b, xs, ys, i, j, rfl, rfl, rfl, rfl, h, h', ne, by omega, by omega, by omega, size_ok hz, ?_⟩
  rw [hi, hj, Int.toNat_natCast, Int.toNat_natCast]
  exact q
end Xk
/-! enumerate of a tuple -/
namespace Xk
open PySem PySem.Spec PyProof.Rows L2
theorem wp_ite {M : Model} {A : Around} {E : Value → Shared → Prop} {s : Shared} {α : Type} {c : Prop} [Decidable c] {a b : Sem α} {Q : α → Shared → Prop} (h1 : wpAny M A a Q E s) (h2 : wpAny M A b Q E s) : wpAny M A (if c then a else b) Q E s := by
  by_cases h : c
  · exact wpAny_ite_true (decide_eq_true h) h1
  · exact wpAny_ite_false (decide_eq_false h) h2
theorem enumT0 {prog : Program} {w : World} {A : Around} {E : Value → Shared → Prop} {R : Fin → Shared → Prop} {s : Shared} {v : Value} {o : Obj} {H : Heap → Prop} (b : Begins v o H) (h1 : H s.heap)
  (h2 : R (Fin.done (Flow.ret (Value.ref (s.heap.push o).objs.size)))
        { heap := (s.heap.push o).push { cls := Value.type "enumerate", data := Data.fields #[Value.none, Value.bool false, Value.ref s.heap.objs.size, rawInt 0, Value.none, Value.none] },
          gens := s.gens, drawn := s.drawn, toks := s.toks, os := s.os }) :
  wpAny (model prog w) A (do
      let it ← pyIter v
      let r ← Builtin.SmallTypes.newRecord (Value.type "enumerate") (Builtin.SmallTypes.ownedTupleFields ++ [it, rawInt 0, Value.none, Value.none])
      ret r) R E s := by
  refine wpAny_bind (b.iter prog w A _ s _ h1 ?_)
  refine wpAny_bind ?_
  refine wpAny_bind (wpAny_alloc' ?_)
  refine wpAny_pure ?_
  exact wpAny_pure h2
theorem enumT1 {v : Value} {o : Obj} {H : Heap → Prop} (b : Begins v o H) : Meets (Builtin.«enumerate.__new__» { pos := [.type "enumerate", v] }) fun A R s => H s.heap ∧
   R (Except.ok (Flow.ret (Value.ref (s.heap.push o).objs.size)))
        { heap := (s.heap.push o).push { cls := Value.type "enumerate", data := Data.fields #[Value.none, Value.bool false, Value.ref s.heap.objs.size, rawInt 0, Value.none, Value.none] },
          gens := s.gens, drawn := s.drawn, toks := s.toks, os := s.os } := by
  intro prog w A R s hs
  obtain ⟨h1, h2⟩ := hs
  refine wpAny_bind ?_
  refine wpAny_bind ?_
  refine wpAny_of_eq (a := true) rfl ?_
  refine wpAny_ite_false rfl ?_
  refine wpAny_bind ?_
  refine wpAny_of_eq sub_enumerate ?_
  refine wpAny_ite_false rfl ?_
  refine wpAny_pure ?_
  refine wpAny_ite_true (by decide) ?_
  refine wpAny_bind ?_
  refine wpAny_bind (wpAny_stack_any fun st => wpAny_pure ?_)
  refine wp_ite ?_ ?_
  · refine wpAny_bind ?_
    refine wpAny_of_eq (a := (v, none)) rfl ?_
    exact enumT0 b h1 h2
  · refine wpAny_bind ?_
    refine wpAny_of_eq (a := (v, none)) rfl ?_
    exact enumT0 b h1 h2
theorem enum_one {prog : Program} {w : World} {A : Around} {E : Value → Shared → Prop} {s : Shared} {v : Value} {o : Obj} {H : Heap → Prop} {Q : Value → Shared → Prop} (b : Begins v o H) (h1 : H s.heap)
  (q : ∀ h' : Heap, IsEnum h' (s.heap.objs.size + 1) s.heap.objs.size 0 Value.none → h'.get? s.heap.objs.size = some o → h'.objs.size = s.heap.objs.size + 2 → (∀ (b : Addr) (o : Obj), s.heap.get? b = some o → h'.get? b = some o) →
     Q (Value.ref (s.heap.objs.size + 1)) { heap := h', gens := s.gens, drawn := s.drawn, toks := s.toks, os := s.os }) :
  wpAny (model prog w) A (call (Value.type "enumerate") [v]) Q E s := by
  refine callType_new F.called_enumerate (by decide) (F.typeCall_enumerate_1 v) (F.newCall_enumerate_1 v) (fun obj => F.args_object_init_2 obj v) F.entry_enumerate_new (enumT1 b) ⟨h1, ?_⟩
  have e1 : (s.heap.push o).objs.size = s.heap.objs.size + 1 := by rw [Heap.size_push]
  have g : ((s.heap.push o).push { cls := Value.type "enumerate", data := Data.fields #[Value.none, Value.bool false, Value.ref s.heap.objs.size, rawInt 0, Value.none, Value.none] }).get? (s.heap.push o).objs.size = some { cls := Value.type "enumerate", data := Data.fields #[Value.none, Value.bool false, Value.ref s.heap.objs.size, rawInt 0, Value.none, Value.none] } := Heap.get?_push_size _ rfl
  refine ⟨?_, ?_⟩
  · rw [e1] at g ⊢
    exact ⟨_, g, rfl⟩
  · rw [e1] at g ⊢
    refine q _ g ?_ (by rw [Heap.size_push, Heap.size_push]) fun b' o' e => Heap.get?_push_of_some _ (Heap.get?_push_of_some _ e)
    exact Heap.get?_push_of_some _ (Heap.get?_push_size _ b.free)
/-- a tuple at a, each item with its number -/
def ItET (K : PySem.W.Frag) (a : Addr) : It where
  go := fun i H => ∃ (xs : List V) (x : V), SqT K H a xs ∧ xs[i]? = some x
  yld := fun i H v H' => ∃ T x, v = .ref T ∧ H T = none ∧ H' = upd H T (.tup [.int (i : Nat), x]) ∧ ∀ xs : List V, SqT K H a xs → xs[i]? = some x
  stop := fun i H => ∃ xs : List V, SqT K H a xs ∧ i = xs.length
theorem turnET {P : Program} {w : World} {K : PySem.W.Frag} {es : List Expr} {k : Nat} {pos : Pos} {a e it : Addr} (d1 : e ≠ it) (d2 : a ≠ it) (d3 : e ≠ a) :
    Turn P w K (.Tuple es k pos) (ItET K a) [e, it] e (fun i h => (∃ old, IsEnum h e it (i : Nat) old) ∧ h.IsTupleIter it a i) where
  mem := List.mem_cons_self
  obj := fun n h st c hc => by
    obtain ⟨⟨old, g1⟩, ⟨o1, e1, _, dd1⟩⟩ := st
    simp only [List.mem_cons, List.not_mem_nil, or_false] at hc
    rcases hc with rfl | rfl
    · exact ⟨_, g1, fun _ e => nomatch e⟩
    · refine ⟨o1, e1, fun x e => ?_⟩
      rw [dd1] at e
      cases e
  keep := fun n h h' st g => by
    obtain ⟨⟨old, g1⟩, g2⟩ := st
    exact ⟨⟨old, g e (by simp) _ g1⟩, g2.at fun ob e => g it (by simp) ob e⟩
  item := by
    intro X hP hw hK hc n pins s σ H E I hf st hg
    subst hP hw hK
    obtain ⟨⟨old, g1⟩, g2⟩ := st
    obtain ⟨us, u, hus, hu⟩ := hg
    obtain ⟨its, r1, p1, _⟩ := I.tuple hus
    obtain ⟨x, hx, rx⟩ := r1.get hu
    have lt1 : n < its.toArray.size := by
      obtain ⟨b, _⟩ := List.getElem?_eq_some_iff.mp hx
      simpa using b
    have hzl : e < s.heap.objs.size := Heap.lt_size g1
    have hil : it < s.heap.objs.size := by
      obtain ⟨_, e1, _⟩ := id g2
      exact Heap.lt_size e1
    have hh : X.A.in1.handled = none := I.ok.hd hc
    refine wpAny_pyNext_enum_itemD (Draws.tuple hh it a d2 its.toArray) g1 ⟨g2, p1⟩ lt1 d1 (by simp [d1, d3]) fun x1 h' tk q1 eo st1 hT hsz hk => ?_
    have ex : x1 = x := by
      have e2 : its[n]? = some x1 := by simpa using q1
      exact Option.some.inj (e2.symm.trans hx)
    subst ex
    refine ⟨_, rfl, wpAny_letOwnedTupleGo_enum (s := { s with heap := h', toks := tk + 1 }) eo fun h2 z2 sb => ?_⟩
    have hT2 : h2.get? s.heap.objs.size = some { cls := .type "tuple", data := .seq #[Value.int (n : Nat) tk, x1] } := (sb.2 _ (Nat.ne_of_gt hzl)).trans hT
    have new : ObjOk X.prog X.w (upd H s.heap.objs.size (.tup [.int (n : Nat), u])) h2 s.heap.objs.size (.tup [.int (n : Nat), u]) :=
      ⟨by show 2 ≤ sizeLine; decide, [Value.int (n : Nat) tk, x1], .cons (by first | exact ⟨tk, rfl⟩ | exact rfl | constructor) (.cons rx .nil), ⟨_, hT2, rfl, _, rfl⟩⟩
    have kept : ∀ c ob, c ∉ [e, it] → s.heap.get? c = some ob → h2.get? c = some ob := fun c ob nc e => by
      simp only [List.mem_cons, List.not_mem_nil, or_false, not_or] at nc
      exact (sb.2 c nc.1).trans (hk c ob nc.1 nc.2 e)
    have I1 : Inv X pins σ (upd H s.heap.objs.size (.tup [.int (n : Nat), u])) { s with heap := h2, toks := tk + 1 } :=
      I.turnedNew (t' := tk + 1) (ch := [e, it]) kept hf (Nat.le_refl _) new
    refine ⟨.ref s.heap.objs.size, _, I1, rfl, ⟨_, u, rfl, I.hok.fresh (Nat.le_refl _), rfl, fun l hl => ?_⟩, ⟨⟨_, z2⟩, ?_⟩, fun c hcm => ?_⟩
    · rw [I.tuple_inj hl hus]
      exact hu
    · exact st1.1.at fun ob e => (sb.2 _ d1.symm).trans e
    · have lt : c < s.heap.objs.size := by
        simp only [List.mem_cons, List.not_mem_nil, or_false] at hcm
        rcases hcm with rfl | rfl
        · exact hzl
        · exact hil
      rw [upd_ne (Nat.ne_of_lt lt)]
      exact (hf c hcm).1
  done := by
    intro X hP hw hK hc n pins s σ H E I hf st hg
    subst hP hw hK
    obtain ⟨⟨old, g1⟩, g2⟩ := st
    obtain ⟨us, hus, rfl⟩ := hg
    obtain ⟨its, r1, p1, _⟩ := I.tuple hus
    have l1 : its.toArray.size = us.length := by rw [List.size_toArray, r1.length]
    have hh : X.A.in1.handled = none := I.ok.hd hc
    refine wpAny_pyNext_enum_endD (Draws.tuple hh it a d2 its.toArray) g1 (by rw [l1]; exact ⟨g2, p1⟩) fun h' hk => ?_
    exact ⟨rfl, I.turnedL (t' := s.toks) (ch := [e, it]) (fun c ob nc e => by
      simp only [List.mem_cons, List.not_mem_nil, or_false, not_or] at nc
      exact hk c ob nc.2 e) hf⟩
  self := fun A n s Q E st h => wpAny_pyIter_enum st.1.choose_spec h
/-- enumerate(e), e a tuple -/
def iET (K : PySem.W.Frag) (ta : TA) : TI := fun σ H R => ta σ H fun vs H1 => ∃ p us, vs = [.ref p] ∧ SqT K H1 p us ∧ R (ItET K p) H1
theorem pi_ET {X : Cx} {e : Expr} {ta : TA} {p1 pos tpos : Pos} {es : List Expr} {k : Nat} (hg : Gl X "enumerate") (hm : X.mg "enumerate" = none) (ha : PA X [e] ta)
    (hs : starEach [e] X.env = [(false, eval e X.env)] := by rfl) (hpl : (backTo pos (starEach [] X.env)).any (·.1) = false := by rfl) :
    PI X (.Tuple es k tpos) (.Call (.Name "enumerate" p1) [e] [] pos) (iET X.K ta) := by
  refine ⟨fun pins s σ H R I h => Call_ (ld_blt I hg hm PyProof.Rows.boot_enumerate (PyProof.Rows.callWith_type1 (thn (ha.run pos pins s σ H _ I h) fun us s1 ⟨vs, H1, I1, r1, q1⟩ => ?_) hs hpl))⟩
  obtain ⟨p, xs, rfl, hx, g⟩ := q1
  have e3 : us = [.ref p] := by
    cases r1 with
    | cons a b =>
      cases b
      cases a
      rfl
  subst e3
  obtain ⟨its, rx, px, _⟩ := I1.tuple hx
  have lp : p < s1.heap.objs.size := by
    obtain ⟨_, e1, _⟩ := id px
    exact Heap.lt_size e1
  refine enum_one (begins_tuple p its.toArray) px fun h' hz h1 hsz hk => wpAny_pyIter_enum hz ?_
  have I2 : Inv X pins σ H1 { s1 with heap := h' } := I1.kept (t' := s1.toks) hk
  refine ⟨s1.heap.objs.size + 1, [s1.heap.objs.size + 1, s1.heap.objs.size], _, _, H1, rfl, I2,
    turnET (Nat.succ_ne_self _) (Nat.ne_of_lt lp) (Nat.ne_of_gt (Nat.lt_succ_of_lt lp)), ⟨⟨_, hz⟩, ⟨_, h1, rfl, rfl⟩⟩, fun c hcm => ?_, g⟩
  have le : s1.heap.objs.size ≤ c := by
    simp only [List.mem_cons, List.not_mem_nil, or_false] at hcm
    rcases hcm with rfl | rfl
    · exact Nat.le_add_right _ _
    · exact Nat.le_refl _
  exact I1.fpOk le (I1.hok.fresh le)
/-- a comprehension over it -/
theorem walkET {K : PySem.W.Frag} {p : Addr} {us : List V} : Walk (ItET K p) us.length (fun H => SqT K H p us) (YPair (fun n => some (.int (n : Nat))) (fun n => us[n]?)) := by
  refine ⟨fun n _ hn g => ?_, fun _ g => ⟨us, g, rfl⟩, fun n H v H' _ g y => ?_⟩
  · exact ⟨us, us[n], g, List.getElem?_eq_getElem hn⟩
  · obtain ⟨T, x, h1, h2, h3, h4⟩ := y
    exact ⟨T, _, x, h1, h2, h3, rfl, h4 us g⟩
end Xk
section
open PySem PySem.Spec PyProof.Rows L2
namespace Xk
variable {K : PySem.W.Frag} {σ : L2.St} {H : Hp} {Q : VK} {te : TE} {g : TG} {t : TT} {X : Cx}
theorem k_ET {e : Expr} {ta : TA} {p1 pos tpos : Pos} {es : List Expr} {k : Nat} (hk : X.K = K) (hg : Gl X "enumerate") (hm : X.mg "enumerate" = none) (ha : PA X [e] ta)
    (hs : starEach [e] X.env = [(false, eval e X.env)] := by rfl) (hpl : (backTo pos (starEach [] X.env)).any (·.1) = false := by rfl) :
    PI X (.Tuple es k tpos) (.Call (.Name "enumerate" p1) [e] [] pos) (iET K ta) := hk ▸ pi_ET hg hm ha hs hpl
def rLcET (K : PySem.W.Frag) (g : TG) (tt : TT) (te : TE) (vs : List Nat) (σ : L2.St) (Q : VK) : List V → Hp → Prop := fun zs H1 => ∃ p us, zs = [.ref p] ∧ SqT K H1 p us ∧ RLc (ItET K p) g tt te vs σ Q H1
theorem x_lcET1 {tr : TA} {vs : List Nat} (q : tr σ H (rLcET K g t te vs σ Q)) : tLc (iET K tr) g t te vs σ H Q := q
theorem x_lcET {a : Addr} {us : List V} {vs : List Nat} (Pv : Addr → Nat → Hp → Prop) (hx : SqT K H a us) (h0 : ∀ Dl, Fr Dl H → Pv Dl 0 (upd H Dl (.lst [])))
    (hl : ∀ Dl i H', Fr Dl H → Pv Dl i H' → SqT K H' a us)
    (hs : ∀ Dl, Fr Dl H → ∀ i x H1 T H', us[i]? = some x → Pv Dl i H1 → Fr T H1 → Same H1 H' → H' T = some (.tup [.int (i : Nat), x]) → g (.ref T) (wipe σ vs) H' fun σ2 H2 => wipe σ2 vs = wipe σ vs ∧ t σ2 H2 fun c H3 =>
      if c = true then te σ2 H3 fun y H4 => ∃ acc, H4 Dl = some (.lst acc) ∧ acc.length < sizeLine ∧ Pv Dl (i + 1) (upd H4 Dl (.lst (acc ++ [y]))) else Pv Dl (i + 1) H3)
    (hd : ∀ Dl H', Fr Dl H → Pv Dl us.length H' → Q (.ref Dl) H') : rLcET K g t te vs σ Q [.ref a] H := ⟨a, us, rfl, hx, fun Dl hD =>
  lc_it walkET (Pv Dl) (h0 Dl ⟨hD⟩) (fun i H' _ p => hl Dl i H' ⟨hD⟩ p) (fun i x H1 H' hi p y => by
    obtain ⟨T, u, v, rfl, hT, rfl, e1, e2⟩ := y
    cases Option.some.inj e1
    exact hs Dl ⟨hD⟩ i v H1 T _ e2 p ⟨hT⟩ (same_new hT) upd_same) (fun H' p => hd Dl H' ⟨hD⟩ p)⟩
end Xk
end
/-! dict comprehensions over a tuple -/
section
open PySem PySem.Spec PyProof.Rows L2
namespace Xk
variable {K : PySem.W.Frag} {σ : L2.St} {H : Hp} {Q : VK} {tk tv : TE} {g : TG} {t : TT}
def RDc (J : It) (g : TG) (tt : TT) (tk tv : TE) (vs : List Nat) (σ : L2.St) (Q : VK) : Hp → Prop := fun H1 => ∀ D, H1 D = none → ∃ W : Nat → Nat → Hp → Prop, (∃ m, W 0 m (upd H1 D (.dK []))) ∧ ∀ i m H, W i m H →
  (J.stop i H ∧ Q (.ref D) H) ∨ (J.go i H ∧ ∃ Nx : Hp → Prop, (∀ H', Nx H' → ∃ m', m' < m ∧ W (i + 1) m' H') ∧ ∀ x H', J.yld i H x H' → g x (wipe σ vs) H' fun σ2 H2 => wipe σ2 vs = wipe σ vs ∧ tt σ2 H2 fun b H3 =>
    if b = true then tk σ2 H3 fun y H4 => tv σ2 H4 fun z H5 => ∃ kvs k, y = kV k ∧ H5 D = some (.dK kvs) ∧ kvs.length < sizeLine ∧ Nx (upd H5 D (.dK (putK kvs k z))) else Nx H3)
def rDcT (K : PySem.W.Frag) (g : TG) (tt : TT) (tk tv : TE) (vs : List Nat) (σ : L2.St) (Q : VK) : VK := fun x H1 => ∃ a, x = .ref a ∧ (∃ xs, SqT K H1 a xs) ∧ RDc (Itt K a) g tt tk tv vs σ Q H1
theorem x_dcT1 {tx : TE} {vs : List Nat} (q : tx σ H (rDcT K g t tk tv vs σ Q)) : tDc (iTup K tx) g t tk tv vs σ H Q := q
theorem x_dcT {a : Addr} {xs : List V} {vs : List Nat} (Pv : Addr → Nat → Hp → Prop) (hx : SqT K H a xs) (h0 : ∀ Dl, Fr Dl H → Pv Dl 0 (upd H Dl (.dK []))) (hl : ∀ Dl i H', Fr Dl H → Pv Dl i H' → SqT K H' a xs)
    (hs : ∀ Dl, Fr Dl H → ∀ i x H', xs[i]? = some x → Pv Dl i H' → g x (wipe σ vs) H' fun σ2 H2 => wipe σ2 vs = wipe σ vs ∧ t σ2 H2 fun b H3 =>
      if b = true then tk σ2 H3 fun y H4 => tv σ2 H4 fun z H5 => ∃ kvs k, y = kV k ∧ H5 Dl = some (.dK kvs) ∧ kvs.length < sizeLine ∧ Pv Dl (i + 1) (upd H5 Dl (.dK (putK kvs k z))) else Pv Dl (i + 1) H3)
    (hd : ∀ Dl H', Fr Dl H → Pv Dl xs.length H' → Q (.ref Dl) H') : rDcT K g t tk tv vs σ Q (.ref a) H := ⟨a, rfl, ⟨xs, hx⟩, fun Dl hD =>
  dc_tup (xs := xs) (Pv Dl) (h0 Dl ⟨hD⟩) (fun i H' _ p => hl Dl i H' ⟨hD⟩ p) (fun i x H' hi p => hs Dl ⟨hD⟩ i x H' hi p) (fun H' p => hd Dl H' ⟨hD⟩ p)⟩
end Xk
end

local macro_rules | `(tactic| wtm_at "key") => `(tactic| (first | assumption | exact rfl | fail "key"))
local macro_rules | `(tactic| wtm_at "few") => `(tactic| (first | assumption | exact Nat.le_of_ble_eq_true rfl | fail "few"))
local macro_rules | `(tactic| wtm_at "cls") => `(tactic| (first | assumption | fail "cls"))
local macro_rules | `(tactic| wtm_at "neq") => `(tactic| (first | assumption | exact Ne.symm (by assumption) | exact Xk.ne_new (by assumption) (by wtm_at "hx") | exact (Xk.ne_new (by assumption) (by wtm_at "hx")).symm | fail "neq"))
local macro_rules | `(tactic| wtm_at "hx") => `(tactic| (first | assumption | exact L2.upd_same | ((refine' (L2.upd_ne ?un).trans ?uh); (case un => wtm_at "neq"); (case uh => wtm_at "hx")) | ((refine' Xk.same_at ?ue ?uh); (case ue => assumption); (case uh => wtm_at "hx")) | ((refine' Xk.but_at ?ue ?un ?uh); (case ue => assumption); (case un => wtm_at "neq"); (case uh => wtm_at "hx")) | fail "hx"))
local macro_rules | `(tactic| wtm_at "free") => `(tactic| (first | assumption | ((refine' Xk.free_back ?uh ?ue); (case uh => assumption); (case ue => wtm_at "sm")) | ((refine' Xk.free_back ?uh ?ue); (case uh => (refine' Xk.fr_upd ?uf; case uf => assumption)); (case ue => wtm_at "sm")) | fail "free"))
local macro_rules | `(tactic| wtm_at "sm") => `(tactic| (first | assumption | exact L2.Same.refl _ | ((refine' Xk.same_mut ?ue ?uh); (case ue => wtm_at "sm"); (case uh => wtm_at "free")) | ((refine' L2.Same.trans ?ue ?uh); (case uh => assumption); (case ue => wtm_at "sm")) | ((refine' Xk.same_but ?ue ?uh ?us); (case ue => assumption); (case uh => wtm_at "free"); (case us => wtm_at "sm")) | fail "sm"))
local macro_rules | `(tactic| wtm_at "bm") => `(tactic| (first | assumption | exact Xk.But.refl _ _ | ((refine' Xk.but_mut ?ue); (case ue => wtm_at "bm")) | ((refine' Xk.but_new ?ue ?uh); (case ue => wtm_at "bm"); (case uh => wtm_at "free")) | ((refine' Xk.but_trans ?ue ?uh); (case uh => assumption); (case ue => wtm_at "bm")) | ((refine' Xk.but_trans ?ue (Xk.but_same ?uh)); (case uh => assumption); (case ue => wtm_at "bm")) | fail "bm"))
local macro_rules | `(tactic| wtm_at "sq") => `(tactic| (first | assumption | exact Xk.sq_of (by wtm_at "hx") | ((refine' Xk.sq_same ?uh ?ue); (case uh => assumption); (case ue => wtm_at "sm")) | fail "sq"))
local macro_rules | `(tactic| wtm_at "st") => `(tactic| (first | assumption | exact Xk.st_of (by wtm_at "hx") | ((refine' Xk.st_same ?uh ?ue); (case uh => assumption); (case ue => wtm_at "sm")) | fail "st"))
local macro_rules | `(tactic| wtm_at "side") => `(tactic| (first | assumption | decide | omega | (refine Or.inr ?_; omega) | (refine Or.inl ?_; omega) | (refine ⟨?_, ?_⟩ <;> omega) | (refine ⟨?_, ?_, ?_⟩ <;> first | omega | decide) | fail "side"))
local macro_rules | `(tactic| wtm_at "len") => `(tactic| (first | omega | (simp only [List.length_map, List.length_append, List.length_cons, List.length_nil, List.length_set, List.length_replicate] at *; omega) | fail "len"))
local macro_rules | `(tactic| wtm_at "x") => `(tactic| (first
  | ((with_reducible refine' Xk.x_var ?a1 ?_); (case a1 => exact rfl))
  | (with_reducible refine Xk.x_c ?_)
  | (with_reducible refine Xk.x_op ?_)
  | (with_reducible refine Xk.x_I0 ?_)
  | ((with_reducible refine' Xk.x_I ?a1 ?_); (case a1 => wtm_at "side"))
  | (with_reducible refine Xk.x_cons ?_)
  | (with_reducible refine Xk.x_nil ?_)
  | (with_reducible refine Xk.x_cb ?_)
  | (with_reducible refine Xk.x_call ?_)
  | (with_reducible refine Xk.x_sasg ?_)
  | (with_reducible refine Xk.x_asg ?_)
  | (with_reducible refine Xk.x_ret ?_)
  | (with_reducible refine Xk.x_test ?_)
  | (with_reducible refine Xk.x_bl ?_)
  | (with_reducible refine Xk.x_isI ?_)
  | (with_reducible refine Xk.x_sif ?_)
  | (with_reducible refine Xk.x_ifS ?_)
  | (with_reducible refine Xk.x_and ?_)
  | (with_reducible refine Xk.x_or ?_)
  | (with_reducible refine Xk.x_not ?_)
  | (with_reducible refine Xk.x_B ?_)
  | (with_reducible refine Xk.x_nInt ?_)
  | (with_reducible refine Xk.x_nIntB ?_)
  | ((with_reducible refine' Xk.x_lenL ?a1 ?_); (case a1 => wtm_at "sq"))
  | ((with_reducible refine' Xk.x_lenT ?a1 ?_); (case a1 => wtm_at "st"))
  | (with_reducible refine Xk.x_un ?_)
  | (with_reducible refine Xk.x_U ?_)
  | ((with_reducible refine' Xk.x_eq ?a1 ?_); (case a1 => exact rfl))
  | ((with_reducible refine' Xk.x_ne ?a1 ?_); (case a1 => exact rfl))
  | ((with_reducible refine' Xk.x_ixL ?a1 ?a2 ?_); (case a1 => wtm_at "sq"); (case a2 => first | exact rfl | assumption | exact Xk.at_nat rfl (Xk.map_at (by assumption)) | exact Xk.at_nat rfl (by assumption)))
  | ((with_reducible refine' Xk.x_ixT ?a1 ?a2 ?_); (case a1 => wtm_at "st"); (case a2 => first | exact rfl | assumption | exact Xk.at_nat rfl (Xk.map_at (by assumption)) | exact Xk.at_nat rfl (by assumption)))
  | (with_reducible refine Xk.x_lst ?_)
  | (with_reducible refine Xk.x_tup ?_)
  | ((with_reducible refine' Xk.x_new ?a1 ?_); (case a1 => wtm_at "len"))
  | ((with_reducible refine' Xk.x_listL ?a1 ?_); (case a1 => wtm_at "sq"))
  | ((with_reducible refine' Xk.x_listT ?a1 ?_); (case a1 => wtm_at "st"))
  | ((with_reducible refine' Xk.x_tupleL ?a1 ?_); (case a1 => wtm_at "sq"))
  | ((with_reducible refine' Xk.x_tupleT ?a1 ?_); (case a1 => wtm_at "st"))
  | (with_reducible refine Xk.x_seq ?_)
  | (with_reducible refine Xk.x_next ?_)
  | (with_reducible refine Xk.x_sdrop ?_)
  | (with_reducible refine Xk.x_drop ?_)
  | (with_reducible refine Xk.x_bm ?_)
  | (with_reducible refine Xk.x_bm0 ?_)
  | ((with_reducible refine' Xk.x_tyL ?a1 ?_); (case a1 => wtm_at "sq"))
  | ((with_reducible refine' Xk.x_app ?a1 ?a2 ?_); (case a1 => wtm_at "hx"); (case a2 => wtm_at "len"))
  | (with_reducible refine Xk.x_sasgG ?_)
  | (with_reducible refine Xk.x_asgG ?_)
  | (with_reducible refine Xk.x_gName ?_)
  | ((with_reducible refine' Xk.x_gTup ?a1 ?a2 ?_); (case a1 => wtm_at "st"); (case a2 => exact rfl))
  | ((with_reducible refine' Xk.x_gLst ?a1 ?a2 ?_); (case a1 => wtm_at "sq"); (case a2 => exact rfl))
  | (with_reducible refine Xk.x_gCons ?_)
  | (with_reducible refine Xk.x_gNil ?_)
  | (with_reducible refine Xk.x_gSub ?_)
  | (with_reducible refine Xk.x_if ?_)
  | (with_reducible refine Xk.x_andV ?_)
  | (with_reducible refine Xk.x_orV ?_)
  | (with_reducible refine Xk.x_notV ?_)
  | (with_reducible refine Xk.x_chain ?_)
  | (with_reducible refine Xk.x_yes ?_)
  | (with_reducible refine Xk.x_sl ?_)
  | (with_reducible refine Xk.x_nopart ?_)
  | (with_reducible refine Xk.x_part ?_)
  | ((with_reducible refine' Xk.x_slL ?a1 ?_); (case a1 => wtm_at "sq"))
  | ((with_reducible refine' Xk.x_saug ?a1 ?_); (case a1 => exact rfl))
  | ((with_reducible refine' Xk.x_aug ?a1 ?_); (case a1 => exact rfl))
  | (with_reducible refine Xk.x_ipI ?_)
  | ((with_reducible refine' Xk.x_isiInt ?a1 ?_); (case a1 => first | exact Xk.kit_T (by decide +kernel) | exact Xk.kit_F (by decide +kernel)))
  | ((with_reducible refine' Xk.x_isiBl ?a1 ?_); (case a1 => first | exact Xk.kit_T (by decide +kernel) | exact Xk.kit_F (by decide +kernel)))
  | ((with_reducible refine' Xk.x_isiStr ?a1 ?_); (case a1 => first | exact Xk.kit_T (by decide +kernel) | exact Xk.kit_F (by decide +kernel)))
  | ((with_reducible refine' Xk.x_isiNon ?a1 ?_); (case a1 => first | exact Xk.kit_T (by decide +kernel) | exact Xk.kit_F (by decide +kernel)))
  | ((with_reducible refine' Xk.x_isiLst ?a1 ?a2 ?_); (case a1 => wtm_at "hx"); (case a2 => first | exact Xk.kit_T (by decide +kernel) | exact Xk.kit_F (by decide +kernel)))
  | ((with_reducible refine' Xk.x_isiTup ?a1 ?a2 ?_); (case a1 => wtm_at "hx"); (case a2 => first | exact Xk.kit_T (by decide +kernel) | exact Xk.kit_F (by decide +kernel)))
  | (with_reducible refine Xk.x_forR1 ?_)
  | (with_reducible refine Xk.x_forL1 ?_)
  | (with_reducible refine Xk.x_forT1 ?_)
  | (with_reducible refine Xk.x_brk ?_)
  | (with_reducible refine Xk.x_ct ?_)
  | (with_reducible refine Xk.x_retN ?_)
  | (with_reducible refine Xk.x_lcL1 ?_)
  | (with_reducible refine Xk.x_lcT1 ?_)
  | (with_reducible refine Xk.x_lcR1 ?_)
  | (with_reducible refine Xk.x_lcE1 ?_)
  | (with_reducible refine Xk.x_nocutW ?_)
  | (with_reducible refine Xk.x_nIsN ?_)
  | (with_reducible refine Xk.x_nNotN ?_)
  | (with_reducible refine Xk.x_and255 ?_)
  | (with_reducible refine Xk.x_wT ?_)
  | (with_reducible refine Xk.x_wF ?_)
  | (with_reducible refine Xk.x_lstRg ?_)
  | (with_reducible refine Xk.x_rg1 ?_)
  | ((with_reducible refine' Xk.x_nRg ?a1 ?_); (case a1 => omega))
  | (with_reducible refine L2.iteT ?_)
  | (with_reducible refine L2.iteF ?_)
  | (with_reducible refine Xk.x_nT ?_)
  | (with_reducible refine Xk.x_nF ?_)
  | ((with_reducible refine' Xk.x_dY ?a1 ?_); (case a1 => first | exact rfl | assumption | omega))
  | ((with_reducible refine' Xk.x_dN ?a1 ?_); (case a1 => first | assumption | omega | (intro z; cases z; done)))
  | ((with_reducible refine' Xk.x_ndY ?a1 ?_); (case a1 => first | exact rfl | assumption | omega))
  | ((with_reducible refine' Xk.x_ndN ?a1 ?_); (case a1 => first | assumption | omega | (intro z; cases z; done)))
  | (with_reducible refine Xk.x_lc2 ?_)
  | (with_reducible refine Xk.x_fld1 ?_)
  | ((with_reducible refine' Xk.x_rFld ?a1 ?a2 ?a3 ?a4 ?_); (case a1 => wtm_at "hx"); (case a2 => wtm_at "cls"); (case a3 => wtm_at "cls"); (case a4 => exact rfl))
  | (with_reducible refine Xk.x_ssfld ?_)
  | (with_reducible refine Xk.x_sfld ?_)
  | ((with_reducible refine' Xk.x_rSetF ?a1 ?a2 ?a3 ?a4 ?_); (case a1 => wtm_at "hx"); (case a2 => wtm_at "cls"); (case a3 => wtm_at "cls"); (case a4 => exact Nat.le_of_ble_eq_true rfl))
  | (with_reducible refine Xk.x_prop ?_)
  | ((with_reducible refine' Xk.x_rProp ?a1 ?_); (case a1 => wtm_at "hx"))
  | (with_reducible refine Xk.x_meth ?_)
  | ((with_reducible refine' Xk.x_rMeth ?a1 ?a2 ?_); (case a1 => wtm_at "hx"); (case a2 => exact rfl))
  | (with_reducible refine Xk.x_make ?_)
  | (with_reducible refine Xk.x_sdelT ?_)
  | (with_reducible refine Xk.x_delT ?_)
  | (with_reducible refine Xk.x_nMax2 ?_)
  | (with_reducible refine Xk.x_nMin2 ?_)
  | ((with_reducible refine' Xk.x_nRepS ?a1 ?a2 ?_); (case a1 => wtm_at "side"); (case a2 => decide))
  | (with_reducible refine Xk.x_inS ?_)
  | (with_reducible refine Xk.x_notInS ?_)
  | ((with_reducible refine' Xk.x_nAddS ?a1 ?_); (case a1 => wtm_at "len"))
  | ((with_reducible refine' Xk.x_nLenS ?a1 ?_); (case a1 => wtm_at "len"))
  | ((with_reducible refine' Xk.x_slS ?a1 ?_); (case a1 => wtm_at "len"))
  | (with_reducible refine Xk.x_lcS1 ?_)
  | (with_reducible refine Xk.x_forS1 ?_)
  | (with_reducible refine Xk.x_ord ?_)
  | (with_reducible refine Xk.x_dget1 ?_)
  | ((with_reducible refine' Xk.x_rGetD ?a1 ?_); (case a1 => wtm_at "hx"))
  | ((with_reducible refine' Xk.x_rGet1 ?a1 ?_); (case a1 => wtm_at "hx"))
  | (with_reducible refine Xk.x_dget2 ?_)
  | ((with_reducible refine' Xk.x_rGetE ?a1 ?_); (case a1 => wtm_at "hx"))
  | ((with_reducible refine' Xk.x_rGet2 ?a1 ?_); (case a1 => wtm_at "hx"))
  | (with_reducible refine Xk.x_dpop1 ?_)
  | ((with_reducible refine' Xk.x_rPopD ?a1 ?_); (case a1 => wtm_at "hx"))
  | (with_reducible refine Xk.x_dpop2 ?_)
  | ((with_reducible refine' Xk.x_rPopE ?a1 ?_); (case a1 => wtm_at "hx"))
  | (with_reducible refine Xk.x_din ?_)
  | ((with_reducible refine' Xk.x_rDInK ?a1 ?_); (case a1 => wtm_at "hx"))
  | (with_reducible refine Xk.x_dnew ?_)
  | (with_reducible refine Xk.x_notBl ?_)
  | (with_reducible refine Xk.x_isBl ?_)
  | (with_reducible refine Xk.x_dget ?_)
  | ((with_reducible refine' Xk.x_rDG ?a1 ?a2 ?_); (case a1 => wtm_at "hx"); (case a2 => wtm_at "key"))
  | (with_reducible refine Xk.x_sdput ?_)
  | (with_reducible refine Xk.x_dput ?_)
  | ((with_reducible refine' Xk.x_rDP ?a1 ?a2 ?a3 ?_); (case a1 => wtm_at "hx"); (case a2 => wtm_at "few"); (case a3 => wtm_at "key"))
  | (with_reducible refine Xk.x_pcons ?_)
  | (with_reducible refine Xk.x_pnil ?_)
  | (with_reducible refine Xk.x_forRev1 ?_)
  | (with_reducible refine Xk.x_forR2 ?_)
  | ((with_reducible refine' Xk.x_geP ?a1 ?a2 ?_); (case a1 => wtm_at "st"); (case a2 => wtm_at "st"))
  | ((with_reducible refine' Xk.x_ltP ?a1 ?a2 ?_); (case a1 => wtm_at "st"); (case a2 => wtm_at "st"))
  | (with_reducible refine Xk.x_lcZ1 ?_)
  | (with_reducible refine Xk.x_lcET1 ?_)
  | (with_reducible refine Xk.x_dcT1 ?_)
  | (with_reducible refine Xk.x_nLtS ?_)
  | (with_reducible refine Xk.x_nLeS ?_)
  | (with_reducible refine Xk.x_nGeS ?_)
  | (with_reducible refine Xk.x_spar ?_)
  | (with_reducible refine Xk.x_par ?_)
  | (with_reducible refine Xk.x_rPar ?_)
  | (with_reducible refine Xk.x_gSubSl ?_)
  | fail "x"))
local macro_rules | `(tactic| wtm_at "xs") => `(tactic| ((repeat wtm_at "x"); try dsimp only [L2.wipe, List.set, List.append_nil, List.cons_append, List.nil_append]))
local macro_rules | `(tactic| wtm_at "x0") => `(tactic| (dsimp only [L2.cxOf, L2.start, List.map, List.length, List.replicate, Nat.reduceAdd, Nat.reduceSub, List.cons_append, List.nil_append]))
local macro_rules | `(tactic| wtm_at "xc") => `(tactic| (dsimp only [L2.wipe, List.set, List.append_nil, List.cons_append, List.nil_append]))

namespace K32
open PySem PySem.Spec PyProof.Rows L2
def topS (i : Nat) : Stmt := PySem.Challenge.pw_crosskeep_k32_attempts.main.body.getD i (.Pass ⟨0, 0, 0, 0⟩)
abbrev s_more_than_half : Stmt := topS 1
abbrev N_more_than_half : List Str := ["members", "indexes", "member"]
theorem sc_more_than_half : FnScope ["members", "indexes", "member"] ["members", "indexes"] (defScope s_more_than_half) := ⟨rfl, rfl, rfl, by decide +kernel, rfl, by decide +kernel, by decide +kernel⟩
abbrev s_Attempt___init__ : Stmt := inClass (topS 6) 0
abbrev N_Attempt___init__ : List Str := ["self", "ballot", "entry", "members"]
theorem sc_Attempt___init__ : FnScope ["self", "ballot", "entry", "members"] ["self", "ballot", "entry", "members"] (defScope s_Attempt___init__) := ⟨rfl, rfl, rfl, by decide +kernel, rfl, by decide +kernel, by decide +kernel⟩
abbrev s_Attempt_hear_promise : Stmt := inClass (topS 6) 1
abbrev N_Attempt_hear_promise : List Str := ["self", "index", "accepted"]
theorem sc_Attempt_hear_promise : FnScope ["self", "index", "accepted"] ["self", "index", "accepted"] (defScope s_Attempt_hear_promise) := ⟨rfl, rfl, rfl, by decide +kernel, rfl, by decide +kernel, by decide +kernel⟩
abbrev s_Attempt_hear_vote : Stmt := inClass (topS 6) 2
abbrev N_Attempt_hear_vote : List Str := ["self", "index"]
theorem sc_Attempt_hear_vote : FnScope ["self", "index"] ["self", "index"] (defScope s_Attempt_hear_vote) := ⟨rfl, rfl, rfl, by decide +kernel, rfl, by decide +kernel, by decide +kernel⟩
abbrev s_Attempt__is_new : Stmt := inClass (topS 6) 3
abbrev N_Attempt__is_new : List Str := ["self", "index", "heard"]
theorem sc_Attempt__is_new : FnScope ["self", "index", "heard"] ["self", "index", "heard"] (defScope s_Attempt__is_new) := ⟨rfl, rfl, rfl, by decide +kernel, rfl, by decide +kernel, by decide +kernel⟩
abbrev s_Attempt_fork : Stmt := inClass (topS 6) 4
abbrev N_Attempt_fork : List Str := ["self", "twin"]
theorem sc_Attempt_fork : FnScope ["self", "twin"] ["self"] (defScope s_Attempt_fork) := ⟨rfl, rfl, rfl, by decide +kernel, rfl, by decide +kernel, by decide +kernel⟩
abbrev s__law_row : Stmt := topS 8
abbrev N__law_row : List Str := ["script", "k", "cell", "first", "second"]
theorem sc__law_row : FnScope ["script", "k", "cell", "first", "second"] ["script", "k"] (defScope s__law_row) := ⟨rfl, rfl, rfl, by decide +kernel, rfl, by decide +kernel, by decide +kernel⟩
abbrev s__law_take : Stmt := topS 9
abbrev N__law_take : List Str := ["box", "size", "digit"]
theorem sc__law_take : FnScope ["box", "size", "digit"] ["box", "size"] (defScope s__law_take) := ⟨rfl, rfl, rfl, by decide +kernel, rfl, by decide +kernel, by decide +kernel⟩
abbrev s__law_members : Stmt := topS 10
abbrev N__law_members : List Str := ["box", "size", "members", "index"]
theorem sc__law_members : FnScope ["box", "size", "members", "index"] ["box", "size"] (defScope s__law_members) := ⟨rfl, rfl, rfl, by decide +kernel, rfl, by decide +kernel, by decide +kernel⟩
abbrev s__law_entry : Stmt := topS 11
abbrev N__law_entry : List Str := ["ballot"]
theorem sc__law_entry : FnScope ["ballot"] ["ballot"] (defScope s__law_entry) := ⟨rfl, rfl, rfl, by decide +kernel, rfl, by decide +kernel, by decide +kernel⟩
abbrev s__law_new : Stmt := topS 12
abbrev N__law_new : List Str := ["members"]
theorem sc__law_new : FnScope ["members"] ["members"] (defScope s__law_new) := ⟨rfl, rfl, rfl, by decide +kernel, rfl, by decide +kernel, by decide +kernel⟩
abbrev s__law_half : Stmt := topS 13
abbrev N__law_half : List Str := ["model", "name"]
theorem sc__law_half : FnScope ["model", "name"] ["model", "name"] (defScope s__law_half) := ⟨rfl, rfl, rfl, by decide +kernel, rfl, by decide +kernel, by decide +kernel⟩
abbrev s__law_promise : Stmt := topS 14
abbrev N__law_promise : List Str := ["model", "index", "accepted", "bound"]
theorem sc__law_promise : FnScope ["model", "index", "accepted", "bound"] ["model", "index", "accepted"] (defScope s__law_promise) := ⟨rfl, rfl, rfl, by decide +kernel, rfl, by decide +kernel, by decide +kernel⟩
abbrev s__law_vote : Stmt := topS 15
abbrev N__law_vote : List Str := ["model", "index"]
theorem sc__law_vote : FnScope ["model", "index"] ["model", "index"] (defScope s__law_vote) := ⟨rfl, rfl, rfl, by decide +kernel, rfl, by decide +kernel, by decide +kernel⟩
abbrev s__law_agrees : Stmt := topS 16
abbrev N__law_agrees : List Str := ["attempt", "model"]
theorem sc__law_agrees : FnScope ["attempt", "model"] ["attempt", "model"] (defScope s__law_agrees) := ⟨rfl, rfl, rfl, by decide +kernel, rfl, by decide +kernel, by decide +kernel⟩
abbrev s__law_copy : Stmt := topS 17
abbrev N__law_copy : List Str := ["model", "twin"]
theorem sc__law_copy : FnScope ["model", "twin"] ["model"] (defScope s__law_copy) := ⟨rfl, rfl, rfl, by decide +kernel, rfl, by decide +kernel, by decide +kernel⟩
abbrev s_law : Stmt := topS 18
abbrev N_law : List Str := ["script", "box", "members", "attempt", "model", "early", "k", "index", "ballot", "accepted", "left", "known", "told", "due"]
theorem sc_law : FnScope ["script", "box", "members", "attempt", "model", "early", "k", "index", "ballot", "accepted", "left", "known", "told", "due"] ["script"] (defScope s_law) := ⟨rfl, rfl, rfl, by decide +kernel, rfl, by decide +kernel, by decide +kernel⟩
structure Txt (K : PySem.W.Frag) (mg : Str → Option Value) where
  C_Attempt : Addr
  Cls_Attempt : Cls K C_Attempt
  g_Attempt : mg "Attempt" = some (.ref C_Attempt)
  A_Attempt_ballot : NoAttr K C_Attempt "ballot"
  A_Attempt_entry : NoAttr K C_Attempt "entry"
  A_Attempt_members : NoAttr K C_Attempt "members"
  A_Attempt_stage : NoAttr K C_Attempt "stage"
  A_Attempt_promised_by : NoAttr K C_Attempt "promised_by"
  A_Attempt_voted_by : NoAttr K C_Attempt "voted_by"
  A_Attempt_bound : NoAttr K C_Attempt "bound"
  t_ASKING : Tok
  g_ASKING : mg "ASKING" = some (.str "asking" t_ASKING)
  t_TELLING : Tok
  g_TELLING : mg "TELLING" = some (.str "telling" t_TELLING)
  t_WON : Tok
  g_WON : mg "WON" = some (.str "won" t_WON)
  f_more_than_half : Addr
  d_more_than_half : FuncData
  F_more_than_half : Fun K "more_than_half" "more_than_half" s_more_than_half f_more_than_half d_more_than_half
  b_more_than_half : Binds K d_more_than_half ["members", "indexes"] []
  g_more_than_half : mg "more_than_half" = some (.ref f_more_than_half)
  f_Attempt___init__ : Addr
  d_Attempt___init__ : FuncData
  F_Attempt___init__ : Fun K "__init__" "Attempt.__init__" s_Attempt___init__ f_Attempt___init__ d_Attempt___init__
  b_Attempt___init__ : Binds K d_Attempt___init__ ["self", "ballot", "entry", "members"] []
  Mk_Attempt : Mk K C_Attempt f_Attempt___init__
  f_Attempt_hear_promise : Addr
  d_Attempt_hear_promise : FuncData
  F_Attempt_hear_promise : Fun K "hear_promise" "Attempt.hear_promise" s_Attempt_hear_promise f_Attempt_hear_promise d_Attempt_hear_promise
  b_Attempt_hear_promise : Binds K d_Attempt_hear_promise ["self", "index", "accepted"] []
  M_Attempt_hear_promise : Meth K C_Attempt "hear_promise" f_Attempt_hear_promise
  f_Attempt_hear_vote : Addr
  d_Attempt_hear_vote : FuncData
  F_Attempt_hear_vote : Fun K "hear_vote" "Attempt.hear_vote" s_Attempt_hear_vote f_Attempt_hear_vote d_Attempt_hear_vote
  b_Attempt_hear_vote : Binds K d_Attempt_hear_vote ["self", "index"] []
  M_Attempt_hear_vote : Meth K C_Attempt "hear_vote" f_Attempt_hear_vote
  f_Attempt__is_new : Addr
  d_Attempt__is_new : FuncData
  F_Attempt__is_new : Fun K "_is_new" "Attempt._is_new" s_Attempt__is_new f_Attempt__is_new d_Attempt__is_new
  b_Attempt__is_new : Binds K d_Attempt__is_new ["self", "index", "heard"] []
  M_Attempt__is_new : Meth K C_Attempt "_is_new" f_Attempt__is_new
  f_Attempt_fork : Addr
  d_Attempt_fork : FuncData
  F_Attempt_fork : Fun K "fork" "Attempt.fork" s_Attempt_fork f_Attempt_fork d_Attempt_fork
  b_Attempt_fork : Binds K d_Attempt_fork ["self"] []
  M_Attempt_fork : Meth K C_Attempt "fork" f_Attempt_fork
  f__law_row : Addr
  d__law_row : FuncData
  F__law_row : Fun K "_law_row" "_law_row" s__law_row f__law_row d__law_row
  b__law_row : Binds K d__law_row ["script", "k"] []
  g__law_row : mg "_law_row" = some (.ref f__law_row)
  f__law_take : Addr
  d__law_take : FuncData
  F__law_take : Fun K "_law_take" "_law_take" s__law_take f__law_take d__law_take
  b__law_take : Binds K d__law_take ["box", "size"] []
  g__law_take : mg "_law_take" = some (.ref f__law_take)
  f__law_members : Addr
  d__law_members : FuncData
  F__law_members : Fun K "_law_members" "_law_members" s__law_members f__law_members d__law_members
  b__law_members : Binds K d__law_members ["box", "size"] []
  g__law_members : mg "_law_members" = some (.ref f__law_members)
  f__law_entry : Addr
  d__law_entry : FuncData
  F__law_entry : Fun K "_law_entry" "_law_entry" s__law_entry f__law_entry d__law_entry
  b__law_entry : Binds K d__law_entry ["ballot"] []
  g__law_entry : mg "_law_entry" = some (.ref f__law_entry)
  f__law_new : Addr
  d__law_new : FuncData
  F__law_new : Fun K "_law_new" "_law_new" s__law_new f__law_new d__law_new
  b__law_new : Binds K d__law_new ["members"] []
  g__law_new : mg "_law_new" = some (.ref f__law_new)
  f__law_half : Addr
  d__law_half : FuncData
  F__law_half : Fun K "_law_half" "_law_half" s__law_half f__law_half d__law_half
  b__law_half : Binds K d__law_half ["model", "name"] []
  g__law_half : mg "_law_half" = some (.ref f__law_half)
  f__law_promise : Addr
  d__law_promise : FuncData
  F__law_promise : Fun K "_law_promise" "_law_promise" s__law_promise f__law_promise d__law_promise
  b__law_promise : Binds K d__law_promise ["model", "index", "accepted"] []
  g__law_promise : mg "_law_promise" = some (.ref f__law_promise)
  f__law_vote : Addr
  d__law_vote : FuncData
  F__law_vote : Fun K "_law_vote" "_law_vote" s__law_vote f__law_vote d__law_vote
  b__law_vote : Binds K d__law_vote ["model", "index"] []
  g__law_vote : mg "_law_vote" = some (.ref f__law_vote)
  f__law_agrees : Addr
  d__law_agrees : FuncData
  F__law_agrees : Fun K "_law_agrees" "_law_agrees" s__law_agrees f__law_agrees d__law_agrees
  b__law_agrees : Binds K d__law_agrees ["attempt", "model"] []
  g__law_agrees : mg "_law_agrees" = some (.ref f__law_agrees)
  f__law_copy : Addr
  d__law_copy : FuncData
  F__law_copy : Fun K "_law_copy" "_law_copy" s__law_copy f__law_copy d__law_copy
  b__law_copy : Binds K d__law_copy ["model"] []
  g__law_copy : mg "_law_copy" = some (.ref f__law_copy)
  f_law : Addr
  d_law : FuncData
  F_law : Fun K "law" "law" s_law f_law d_law
  b_law : Binds K d_law ["script"] []
  g_law : mg "law" = some (.ref f_law)
  m_bool : mg "bool" = none
  m_int : mg "int" = none
  m_isinstance : mg "isinstance" = none
  m_len : mg "len" = none
  m_list : mg "list" = none
  m_range : mg "range" = none
  m_sorted : mg "sorted" = none
  m_tuple : mg "tuple" = none
section
variable {P : Program} {w : World} {K : PySem.W.Frag} {mg : Str → Option Value} {base : Heap}
def sp__law_row (K : PySem.W.Frag) : Sp := fun vs H Q _ => ∃ (a : Addr) (k : Int) (ns : List Int), vs = [.ref a, .int k] ∧ SqL K H a (ns.map V.int) ∧ ns.length ≤ 63 ∧ 0 ≤ k ∧ k ≤ 1000 ∧ ∀ n : Int, 0 ≤ n → Q (.int n) H
theorem ok__law_row (T : Txt K mg) : FnOk P w K mg base CX0 1 T.f__law_row T.d__law_row ["script", "k"] (sp__law_row K) := by
  refine T.F__law_row.ok sc__law_row (fun vs H Q E h => ?_) (fun cdv A outer s H vs Q E hr h => ?_)
  · obtain ⟨a, k, ns, rfl, _⟩ := h
    rfl
  obtain ⟨a, k, ns, rfl, hS, hl, hk, hk2, q⟩ := h
  refine ⟨_, (pss_cons (ps_set (i := 2) sc__law_row.nd rfl (Or.inl rfl) (pe_int))
      (Evl.pss_cut (ps_if (pt_cmpR op_gt (pe_callB (Xk.k_len (K := K) (by rfl)) (by rfl) T.m_len PySem.boot_len (pa_cons (pv 0) pa_nil)) (pe_int) (nomark _)) (pss_one (ps_set (i := 2) sc__law_row.nd rfl (Or.inl rfl) (pe_ix (Xk.k_ixL (K := K) (by rfl)) (pv 0) (pe_op op_mod (pe_callTy Xk.call_nInt (by rfl) T.m_int (by decide +kernel) (pa_cons (pv 1) pa_nil)) (pe_callB (Xk.k_len (K := K) (by rfl)) (by rfl) T.m_len PySem.boot_len (pa_cons (pv 0) pa_nil))) (fun _ _ => rfl)))) pss_nil)
      (Evl.pss_cut (ps_if (pt_cmpR op_lt (pv 2) (pe_int) (nomark _)) (pss_one (ps_set (i := 2) sc__law_row.nd rfl (Or.inl rfl) (pe_op op_sub (pe_int) (pe_op op_mul (pe_int) (pv 2))))) pss_nil)
      (Evl.pss_cut (ps_if (PW.pt (pw_and (pt_cmpR op_ge (pv 2) (pe_op op_pow (pe_int) (pe_int)) (nomark _)) (pw_and1 (pt_cmpR op_lt (pv 1) (pe_callB (Xk.k_len (K := K) (by rfl)) (by rfl) T.m_len PySem.boot_len (pa_cons (pv 0) pa_nil)) (nomark _))))) (pss_one (ps_ret (pv 2))) pss_nil)
      (pss_cons (ps_set (i := 3) sc__law_row.nd rfl (Or.inl rfl) (pe_op op_mod (pe_callTy Xk.call_nInt (by rfl) T.m_int (by decide +kernel) (pa_cons (pe_op op_add (pe_op op_add (pe_op op_mul (pv 2) (pe_int)) (pe_op op_mul (pe_op op_add (pv 1) (pe_int)) (pe_int))) (pe_callB (Xk.k_len (K := K) (by rfl)) (by rfl) T.m_len PySem.boot_len (pa_cons (pv 0) pa_nil))) pa_nil)) (pe_int)))
      (pss_cons (ps_set (i := 4) sc__law_row.nd rfl (Or.inl rfl) (pe_op op_mod (pe_callTy Xk.call_nInt (by rfl) T.m_int (by decide +kernel) (pa_cons (pe_op op_add (pe_op op_add (pe_op op_mul (pv 3) (pv 3)) (pe_op op_mul (pv 2) (pe_int))) (pv 1)) pa_nil)) (pe_int)))
      (pss_one (ps_ret (pe_op op_add (pe_op op_mul (pv 4) (pe_int)) (pe_op op_mod (pe_callTy Xk.call_nInt (by rfl) T.m_int (by decide +kernel) (pa_cons (pe_op op_mul (pv 3) (pe_int)) pa_nil)) (pe_int))))))))))), ?_⟩
  wtm_at "x0"
  wtm_at "xs"
  refine Xk.x_cut (fun σ' H' => H = H' ∧ ∃ c : Int, σ' = [some (.ref a), some (.int k), some (.int c), none, none]) ?_ ?_
  · wtm_at "xs"
    refine Xk.x_itd (fun h => ?_) (fun h => ?_)
    · wtm_at "xs"
      rw [List.length_map] at h ⊢
      have h1 : k % (ns.length : Int) < ns.length := Int.emod_lt_of_pos _ h
      have h2 : 0 ≤ k % (ns.length : Int) := Int.emod_nonneg _ (by omega)
      obtain ⟨j, hj⟩ := Int.eq_ofNat_of_zero_le h2
      rw [hj] at h1 ⊢
      have h3 : j < ns.length := by omega
      refine Xk.x_ixL hS (atI_nat (j := j) (by rw [List.getElem?_map, List.getElem?_eq_getElem h3]; rfl)) ?_
      exact ⟨rfl, _, rfl⟩
    · wtm_at "xs"
      exact ⟨rfl, _, rfl⟩
  rintro σ' H' ⟨rfl, c, rfl⟩
  refine Xk.x_cut (fun σ' H' => H = H' ∧ ∃ c : Int, 0 ≤ c ∧ σ' = [some (.ref a), some (.int k), some (.int c), none, none]) ?_ ?_
  · wtm_at "xs"
    refine Xk.x_itd (fun h => ?_) (fun h => ?_)
    · wtm_at "xs"
      exact ⟨rfl, _, by omega, rfl⟩
    · wtm_at "xs"
      exact ⟨rfl, _, by omega, rfl⟩
  rintro σ' H' ⟨rfl, c, hc, rfl⟩
  refine Xk.x_cut (fun σ' H' => H = H' ∧ σ' = [some (.ref a), some (.int k), some (.int c), none, none]) ?_ ?_
  · wtm_at "xs"
    refine Xk.x_itd (fun h => ?_) (fun h => ?_)
    · wtm_at "xs"
      refine Xk.x_itd (fun h => ?_) (fun h => ?_)
      · wtm_at "xs"
        exact q _ hc
      · wtm_at "xs"
        exact ⟨rfl, rfl⟩
    · wtm_at "xs"
      exact ⟨rfl, rfl⟩
  rintro σ' H' ⟨rfl, rfl⟩
  wtm_at "xs"
  exact q _ (by omega)
def sp__law_take (K : PySem.W.Frag) : Sp := fun vs H Q _ => ∃ (a : Addr) (z n : Int), vs = [.ref a, .int z] ∧ H a = some (.lst [.int n]) ∧ 0 < z ∧ z < 1073741824 ∧ (0 ≤ n % z → n % z < z → Q (.int (n % z)) (upd H a (.lst [.int (n / z)])))
theorem ok__law_take (T : Txt K mg) : FnOk P w K mg base CX0 1 T.f__law_take T.d__law_take ["box", "size"] (sp__law_take K) := by
  refine T.F__law_take.ok sc__law_take (fun vs H Q E h => ?_) (fun cdv A outer s H vs Q E hr h => ?_)
  · obtain ⟨a, z, n, rfl, _⟩ := h
    rfl
  obtain ⟨a, z, n, rfl, hb, h0, h1, q⟩ := h
  refine ⟨_, (pss_cons (ps_set (i := 2) sc__law_take.nd rfl (Or.inl rfl) (pe_op op_mod (pe_callTy Xk.call_nInt (by rfl) T.m_int (by decide +kernel) (pa_cons (pe_ix (Xk.k_ixL (K := K) (by rfl)) (pv 0) (pe_int) (fun _ _ => rfl)) pa_nil)) (pv 1)))
      (pss_cons (ps_asg (pe_op op_fdiv (pe_ix (Xk.k_ixL (K := K) (by rfl)) (pv 0) (pe_int) (fun _ _ => rfl)) (pv 1)) (pg_sub (pv 0) (pe_int) set_list))
      (pss_one (ps_ret (pv 2))))), ?_⟩
  wtm_at "x0"
  wtm_at "xs"
  refine Xk.x_setL (j := 0) hb rfl ?_
  wtm_at "xs"
  exact q (Int.emod_nonneg _ (by omega)) (Int.emod_lt_of_pos _ h0)
def sp__law_members (K : PySem.W.Frag) : Sp := fun vs H Q _ => ∃ (b : Addr) (z n : Int), vs = [.ref b, .int z] ∧ H b = some (.lst [.int n]) ∧ 1 ≤ z ∧ z ≤ 7 ∧
  ∀ p H' (ms : List Int) m, Xk.Fr p H → Xk.But b H H' → H' b = some (.lst [.int m]) → H' p = some (.tup (ms.map V.int)) → ms.length ≤ 10 → 1 ≤ ms.length → ms.Nodup → Q (.ref p) H'
theorem ok__law_members (T : Txt K mg) : FnOk P w K mg base CX0 2 T.f__law_members T.d__law_members ["box", "size"] (sp__law_members K) := by
  refine T.F__law_members.ok sc__law_members (fun vs H Q E h => ?_) (fun cdv A outer s H vs Q E hr h => ?_)
  · obtain ⟨b, z, n, rfl, _⟩ := h
    rfl
  obtain ⟨b, z, n, rfl, hb, h0, h1, q⟩ := h
  refine ⟨_, (pss_cons (ps_set (i := 2) sc__law_members.nd rfl (Or.inl rfl) (pe_slice (Xk.k_slL (K := K) (by rfl)) (pe_lc (own := [("index", 3)]) (g := gName 3) rfl sc__law_members.nd  (pi_range1 (by rfl) T.m_range (pa_cons (pv 1) pa_nil)) (blkOk_by (N := N__law_members) (sc := defScope s__law_members) (own := [("index", 3)]) (by decide +kernel)) (fun _ _ _ _ _ => pg_name (i := 3) sc__law_members.nd rfl (Or.inl rfl)) (fun _ _ _ _ _ => pts_one (pt_cmpR op_gt (pe_call (ok__law_take T) (hr.mono (by decide)) (by rfl) T.g__law_take T.F__law_take.kp T.b__law_take .nil pass0 (pa_cons (pv 0) (pa_cons (pe_int) pa_nil))) (pe_int) (nomark _))) (fun _ _ _ _ _ => (pv 3))) po_none (po_some (pe_int))))
      (Evl.pss_cut (ps_if (pt_cmpR op_eq (pe_callB (Xk.k_len (K := K) (by rfl)) (by rfl) T.m_len PySem.boot_len (pa_cons (pv 2) pa_nil)) (pe_int) (nomark _)) (pss_one (ps_set (i := 2) sc__law_members.nd rfl (Or.inl rfl) (pe_lst (pa_cons (pe_call (ok__law_take T) (hr.mono (by decide)) (by rfl) T.g__law_take T.F__law_take.kp T.b__law_take .nil pass0 (pa_cons (pv 0) (pa_cons (pv 1) pa_nil))) pa_nil)))) pss_nil)
      (pss_one (ps_ret (pe_callTy (Xk.k_tuple (K := K) (by rfl)) (by rfl) T.m_tuple (by decide +kernel) (pa_cons (pv 2) pa_nil)))))), ?_⟩
  wtm_at "x0"
  wtm_at "xs"
  refine Xk.x_lcR (fun Dl i H' => Xk.But b H H' ∧ (∃ m : Int, H' b = some (.lst [.int m])) ∧ ∃ ys : List Int, H' Dl = some (.lst (ys.map V.int)) ∧ ys.length ≤ i ∧ ys.Nodup ∧ ∀ y ∈ ys, y < (i : Int)) ⟨by omega, by omega⟩ ?_ ?_ ?_
  · intro Dl hD
    exact ⟨Xk.but_same (Xk.same_fr hD), ⟨_, by wtm_at "hx"⟩, [], upd_same, Nat.le_refl _, .nil, fun y hy => by cases hy⟩
  · rintro Dl hD i H' hi ⟨s2, ⟨m, hm⟩, ys, h2, hy, hnd, hlt⟩
    wtm_at "xs"
    refine ⟨rfl, ?_⟩
    wtm_at "xs"
    refine ⟨_, 3, m, rfl, hm, by decide, by decide, fun e1 e2 => ?_⟩
    wtm_at "xs"
    refine Xk.x_itd (fun h => ?_) (fun h => ?_)
    · wtm_at "xs"
      refine ⟨_, by wtm_at "hx", Xk.size_lt (by wtm_at "len"), by wtm_at "bm", ⟨_, by wtm_at "hx"⟩, ys ++ [(i : Int)], ?_, by wtm_at "len", ?_, ?_⟩
      · rw [upd_same, Xk.snoc_map]
      · refine List.nodup_append.mpr ⟨hnd, by simp, fun x hx y hy => ?_⟩
        have h5 := hlt x hx
        rw [List.mem_singleton.mp hy]
        omega
      · intro y hy
        rcases List.mem_append.mp hy with hy | hy
        · have := hlt y hy
          omega
        · rw [List.mem_singleton.mp hy]
          omega
    · wtm_at "xs"
      exact ⟨by wtm_at "bm", ⟨_, by wtm_at "hx"⟩, ys, by wtm_at "hx", by omega, hnd, fun y hy => by have := hlt y hy; omega⟩
  · rintro Dl H1 hD ⟨s2, ⟨m, hm⟩, ys, h2, hy, hnd, hlt⟩
    wtm_at "xs"
    intro p H2 hp s3 h3
    have hne : b ≠ p := Xk.ne_new hp hm
    rw [Xk.cut_take (k := 5) (n := 5) rfl, ← List.map_take] at h3
    have hzl : (ys.take 5).length ≤ 10 := by rw [List.length_take]; omega
    have hzn : (ys.take 5).Nodup := hnd.sublist (List.take_sublist _ _)
    generalize ys.take 5 = zs at *
    wtm_at "xs"
    refine Xk.x_cut (fun σ' H' => ∃ (c : Addr) (ms : List Int) (m : Int), σ' = [some (.ref b), some (.int z), some (.ref c), none] ∧ Xk.But b H H' ∧ H' b = some (.lst [.int m]) ∧ H' c = some (.lst (ms.map V.int)) ∧ ms.length ≤ 10 ∧ 1 ≤ ms.length ∧ ms.Nodup) ?_ ?_
    · wtm_at "xs"
      refine Xk.x_itd (fun h => ?_) (fun h => ?_)
      · wtm_at "xs"
        refine ⟨_, _, m, rfl, by wtm_at "hx", by omega, by omega, fun e1 e2 => ?_⟩
        wtm_at "xs"
        intro c H3 hc s4 h4
        wtm_at "xs"
        exact ⟨_, [m % z], _, rfl, by wtm_at "bm", by wtm_at "hx", h4, by simp, by simp, by simp⟩
      · wtm_at "xs"
        have hz1 : 1 ≤ zs.length := by
          rcases Nat.eq_zero_or_pos zs.length with e | e
          · exact absurd (by rw [List.length_map, e]; rfl) h
          · exact e
        exact ⟨_, zs, _, rfl, by wtm_at "bm", by wtm_at "hx", h3, hzl, hz1, hzn⟩
    · rintro σ' H3 ⟨c, ms, m2, rfl, s4, h4, h5, hl, hl1, hl2⟩
      wtm_at "xs"
      intro t H4 ht s5 h6
      wtm_at "xs"
      exact q t H4 ms m2 (Xk.none_but hb s4 h4 ht) (by wtm_at "bm") (by wtm_at "hx") h6 hl hl1 hl2
def sp_more_than_half (K : PySem.W.Frag) : Sp := fun vs H Q _ => ∃ (a c : Addr) (ms is : List Int), vs = [.ref a, .ref c] ∧ SqT K H a (ms.map V.int) ∧ (SqL K H c (is.map V.int) ∨ SqT K H c (is.map V.int)) ∧ ms.length ≤ 50 ∧
  ∀ H', Same H H' → Q (.bl (decide ((ms.length : Int) < 2 * ((ms.filter fun m => decide (m ∈ is)).length : Int)))) H'
theorem ok_more_than_half (T : Txt K mg) : FnOk P w K mg base CX0 1 T.f_more_than_half T.d_more_than_half ["members", "indexes"] (sp_more_than_half K) := by
  refine T.F_more_than_half.ok sc_more_than_half (fun vs H Q E h => ?_) (fun cdv A outer s H vs Q E hr h => ?_)
  · obtain ⟨a, c, ms, is, rfl, _⟩ := h
    rfl
  obtain ⟨a, c, ms, is, rfl, hS, hI, hl, q⟩ := h
  refine ⟨_, (pss_one (ps_ret (pe_cmpR op_gt (pe_op op_mul (pe_int) (pe_callB (Xk.k_len (K := K) (by rfl)) (by rfl) T.m_len PySem.boot_len (pa_cons (pe_lc (own := [("member", 2)]) (g := gName 2) rfl sc_more_than_half.nd  (pi_tup (pv 0)) (blkOk_by (N := N_more_than_half) (sc := defScope s_more_than_half) (own := [("member", 2)]) (by decide +kernel)) (fun _ _ _ _ _ => pg_name (i := 2) sc_more_than_half.nd rfl (Or.inl rfl)) (fun _ _ _ _ _ => pts_one (pt_cmpR (Xk.k_in (K := K) (by rfl)) (pv 2) (pv 1) (by rfl))) (fun _ _ _ _ _ => (pv 2))) pa_nil))) (pe_callB (Xk.k_len (K := K) (by rfl)) (by rfl) T.m_len PySem.boot_len (pa_cons (pv 0) pa_nil)) (nomark _)))), ?_⟩
  wtm_at "x0"
  wtm_at "xs"
  refine Xk.x_lcT (xs := ms.map V.int) (fun Dl i H' => Same H H' ∧ H' Dl = some (.lst (((ms.take i).filter fun m => decide (m ∈ is)).map V.int))) hS ?_ ?_ ?_ ?_
  · intro Dl hD
    exact ⟨Xk.same_fr hD, upd_same⟩
  · rintro Dl i H' hD ⟨s2, _⟩
    wtm_at "st"
  · rintro Dl hD i x H' hi ⟨s2, h2⟩
    obtain ⟨m, hm, rfl⟩ := Xk.of_map_at hi
    have hi2 := Xk.at_lt hm
    wtm_at "xs"
    refine ⟨rfl, ?_⟩
    wtm_at "xs"
    have hin : ∀ R : VK, R (.bl (decide (m ∈ is))) H' → rIn K false (.int m) (.ref c) H' R := fun R r => by
      have r2 : R (.bl (inV (.int m) (is.map V.int))) H' := by
        rw [Xk.in_ints]
        exact r
      rcases hI with h | h
      · exact Xk.x_inL (Xk.sq_same h s2) rfl (Xk.flat_ints _) r2
      · exact Xk.x_inT (Xk.st_same h s2) rfl (Xk.flat_ints _) r2
    refine hin _ ?_
    wtm_at "xs"
    refine Xk.x_itd (fun h3 => ?_) (fun h3 => ?_)
    · wtm_at "xs"
      refine ⟨_, h2, Xk.size_lt ?_, by wtm_at "sm", ?_⟩
      · have := List.length_filter_le (fun m => decide (m ∈ is)) (ms.take i)
        have h5 := List.length_take_le i ms
        rw [List.length_map]
        omega
      · rw [upd_same, List.take_add_one, hm, List.filter_append, Xk.snoc_map]
        simp [h3]
    · wtm_at "xs"
      refine ⟨s2, ?_⟩
      rw [h2, List.take_add_one, hm, List.filter_append]
      simp [h3]
  · rintro Dl H' hD ⟨s2, h2⟩
    rw [List.length_map, List.take_length] at h2
    wtm_at "xs"
    rw [List.length_map, List.length_map]
    exact q _ s2
--CUT--
/-- what an attempt has heard: the stage, those that promised and voted, what binds it, its entry -/
structure Sa where
  st : Str
  pr : List Int
  vo : List Int
  bd : Option (Addr × Addr × V × Int × Int)
  en : V
def bdV : Option (Addr × Addr × V × Int × Int) → V
  | none => .non
  | some o => .ref o.1
def BdOk (K : PySem.W.Frag) (H : Hp) : Option (Addr × Addr × V × Int × Int) → Prop
  | none => True
  | some (t, b, e, r, i) => SqT K H t [.ref b, e] ∧ SqT K H b [.int r, .int i] ∧ ∃ d, Xk.Pk K H 10 e d
def mdl (st pr vo bd en me : V) : List (Key × V) := [(Sum.inr "stage", st), (Sum.inr "promised", pr), (Sum.inr "voted", vo), (Sum.inr "bound", bd), (Sum.inr "entry", en), (Sum.inr "members", me)]
/-- the state behind an answer -/
def srt (xs : List Int) : List Int := xs.mergeSort (fun a b => decide (a ≤ b))
theorem srt_perm (xs : List Int) : (srt xs).Perm xs := List.mergeSort_perm _ _
theorem srt_le (xs : List Int) : (srt xs).Pairwise (· ≤ ·) := by
  have h := List.pairwise_mergeSort (le := fun (a b : Int) => decide (a ≤ b)) (fun a b c => by simp only [decide_eq_true_eq]; omega) (fun a b => by simp only [Bool.or_eq_true, decide_eq_true_eq]; omega) xs
  exact h.imp fun h => of_decide_eq_true h
theorem srt_of {xs ys : List Int} (p : xs.Perm ys) (h : xs.Pairwise (· ≤ ·)) : xs = srt ys := Xk.srt_eq (p.trans (srt_perm ys).symm) h (srt_le ys)
theorem srt_len (xs : List Int) : (srt xs).length = xs.length := (srt_perm xs).length_eq
def half (ms is : List Int) : Bool := decide ((ms.length : Int) < 2 * (is.length : Int))
def bind (bd ac : Option (Addr × Addr × V × Int × Int)) : Option (Addr × Addr × V × Int × Int) :=
  match ac with
  | none => bd
  | some (t, b, e, r, i) => match bd with
    | none => some (t, b, e, r, i)
    | some (t', b', e', r', i') => if Xk.Bf r' i' r i then some (t, b, e, r, i) else some (t', b', e', r', i')
def enOf (en : V) : Option (Addr × Addr × V × Int × Int) → V
  | none => en
  | some (_, _, e, _, _) => e
def prom (ms : List Int) (S : Sa) (ix : Int) (ac : Option (Addr × Addr × V × Int × Int)) : Sa × Bool :=
  if S.st = "asking" ∧ ix ∈ ms ∧ ¬ ix ∈ S.pr then
    let pr := srt (S.pr ++ [ix])
    let bd := bind S.bd ac
    if half ms pr = true then (⟨"telling", pr, S.vo, bd, enOf S.en bd⟩, true) else (⟨S.st, pr, S.vo, bd, S.en⟩, false)
  else (S, false)
def voted (ms : List Int) (S : Sa) (ix : Int) : Sa × Bool :=
  if S.st = "telling" ∧ ix ∈ ms ∧ ¬ ix ∈ S.vo then
    let vo := srt (S.vo ++ [ix])
    if half ms vo = true then (⟨"won", S.pr, vo, S.bd, S.en⟩, true) else (⟨S.st, S.pr, vo, S.bd, S.en⟩, false)
  else (S, false)
/-- what always holds of a state -/
structure SaOk (K : PySem.W.Frag) (H : Hp) (ms : List Int) (S : Sa) : Prop where
  pr : S.pr.Nodup ∧ ∀ x ∈ S.pr, x ∈ ms
  vo : S.vo.Nodup ∧ ∀ x ∈ S.vo, x ∈ ms
  bd : BdOk K H S.bd
  en : ∃ d, Xk.Pk K H 10 S.en d
  st : S.st = "asking" ∨ S.st = "telling" ∨ S.st = "won"
theorem BdOk.st {H H' : Hp} (e : Xk.St K H H') : ∀ {o : Option (Addr × Addr × V × Int × Int)}, BdOk K H o → BdOk K H' o
  | none, _ => trivial
  | some (t, b, v, r, i), ⟨h1, h2, d, h3⟩ => ⟨e.t _ _ h1, e.t _ _ h2, d, h3.st e⟩
theorem SaOk.keep {H H' : Hp} {ms : List Int} {S : Sa} (h : SaOk K H ms S) (e : Xk.St K H H') : SaOk K H' ms S := ⟨h.pr, h.vo, h.bd.st e, h.en.imp fun _ h => h.st e, h.st⟩
theorem bind_ok {H : Hp} {bd ac : Option (Addr × Addr × V × Int × Int)} (h1 : BdOk K H bd) (h2 : BdOk K H ac) : BdOk K H (bind bd ac) := by
  cases ac with
  | none => exact h1
  | some o =>
    obtain ⟨t, b, e, r, i⟩ := o
    cases bd with
    | none => exact h2
    | some o' =>
      obtain ⟨t', b', e', r', i'⟩ := o'
      unfold bind
      dsimp only
      split
      · exact h2
      · exact h1
theorem srt_snoc_ok {ms xs : List Int} {x : Int} (h : xs.Nodup ∧ ∀ y ∈ xs, y ∈ ms) (hx : x ∈ ms) (hn : ¬ x ∈ xs) : (srt (xs ++ [x])).Nodup ∧ ∀ y ∈ srt (xs ++ [x]), y ∈ ms := by
  refine ⟨(srt_perm _).nodup_iff.mpr (List.nodup_append.mpr ⟨h.1, by simp, fun a ha b hb => ?_⟩), fun y hy => ?_⟩
  · rw [List.mem_singleton.mp hb]
    rintro rfl
    exact hn ha
  · rcases List.mem_append.mp ((srt_perm _).mem_iff.mp hy) with hy | hy
    · exact h.2 y hy
    · rw [List.mem_singleton.mp hy]
      exact hx
theorem prom_ok {H : Hp} {ms : List Int} {S : Sa} {ix : Int} {ac : Option (Addr × Addr × V × Int × Int)} (h : SaOk K H ms S) (ha : BdOk K H ac) : SaOk K H ms (prom ms S ix ac).1 := by
  unfold prom
  split
  · rename_i hc
    dsimp only
    have hb := bind_ok h.bd ha
    have hp := srt_snoc_ok h.pr hc.2.1 hc.2.2
    split
    · refine ⟨hp, h.vo, hb, ?_, .inr (.inl rfl)⟩
      show ∃ d, Xk.Pk K H 10 (enOf S.en (bind S.bd ac)) d
      cases e : bind S.bd ac with
      | none => exact h.en
      | some o =>
        rw [e] at hb
        exact hb.2.2
    · exact ⟨hp, h.vo, hb, h.en, h.st⟩
  · exact h
theorem voted_ok {H : Hp} {ms : List Int} {S : Sa} {ix : Int} (h : SaOk K H ms S) : SaOk K H ms (voted ms S ix).1 := by
  unfold voted
  split
  · rename_i hc
    dsimp only
    have hp := srt_snoc_ok h.vo hc.2.1 hc.2.2
    split
    · exact ⟨h.pr, hp, h.bd, h.en, .inr (.inr rfl)⟩
    · exact ⟨h.pr, hp, h.bd, h.en, h.st⟩
  · exact h
/-- of members the ones among indexes that are different members are as many as these -/
theorem half_len {ms is : List Int} (hm : ms.Nodup) (hi : is.Nodup) (hs : ∀ x ∈ is, x ∈ ms) : (ms.filter fun m => decide (m ∈ is)).length = is.length := by
  have p : (ms.filter fun m => decide (m ∈ is)).Perm is := by
    rw [List.perm_ext_iff_of_nodup (hm.filter _) hi]
    intro x
    rw [List.mem_filter, decide_eq_true_eq]
    exact ⟨fun h => h.2, fun h => ⟨hs x h, h⟩⟩
  exact p.length_eq
--CUT--
/-- all but three places stay -/
def B3 (a p v : Addr) (H H' : Hp) : Prop := ∀ x o, x ≠ a → x ≠ p → x ≠ v → H x = some o → H' x = some o
structure At (C : Addr) (H : Hp) (a dx b0 m p v : Addr) (S : Sa) : Prop where
  o : H a = some (.ins C dx [("ballot", .ref b0), ("entry", S.en), ("members", .ref m), ("stage", .str S.st), ("promised_by", .ref p), ("voted_by", .ref v), ("bound", bdV S.bd)])
  hp : H p = some (.lst (S.pr.map V.int))
  hv : H v = some (.lst (S.vo.map V.int))
  n : p ≠ v
theorem At.pa {C : Addr} {H : Hp} {a dx b0 m p v : Addr} {S : Sa} (g : At C H a dx b0 m p v S) : p ≠ a := fun z => by
  subst z
  have h := g.o
  rw [g.hp] at h
  cases h
theorem At.va {C : Addr} {H : Hp} {a dx b0 m p v : Addr} {S : Sa} (g : At C H a dx b0 m p v S) : v ≠ a := fun z => by
  subst z
  have h := g.o
  rw [g.hv] at h
  cases h
theorem At.st {C : Addr} {H H' : Hp} {a dx b0 m p v : Addr} {S : Sa} (g : At C H a dx b0 m p v S) (e : B3 a p v H H') : Xk.St K H H' := by
  have key : ∀ x o, H x = some o → (∀ C dx fs, o ≠ .ins C dx fs) → (∀ xs, o ≠ .lst xs) → H' x = some o := fun x o hx h1 h2 => e x o (fun z => by
    subst z
    exact h1 _ _ _ (Option.some.inj (hx.symm.trans g.o))) (fun z => by
    subst z
    exact h2 _ (Option.some.inj (hx.symm.trans g.hp))) (fun z => by
    subst z
    exact h2 _ (Option.some.inj (hx.symm.trans g.hv))) hx
  refine ⟨fun x xs h => ?_⟩
  rcases h with (h | ⟨o, h⟩) | h
  · exact .inl (.inl (key _ _ h (fun _ _ _ z => by cases z) fun _ z => by cases z))
  · exact .inl (.inr ⟨o, key _ _ h (fun _ _ _ z => by cases z) fun _ z => by cases z⟩)
  · exact .inr h
theorem At.same {C : Addr} {H H' : Hp} {a dx b0 m p v : Addr} {S : Sa} (g : At C H a dx b0 m p v S) (e : Same H H') : At C H' a dx b0 m p v S := ⟨e _ _ g.o, e _ _ g.hp, e _ _ g.hv, g.n⟩
def sp_Attempt___init__ (K : PySem.W.Frag) (C : Addr) : Sp := fun vs H Q _ => ∃ x dx b0 e m, vs = [.ref x, .ref b0, e, .ref m] ∧ H x = some (.ins C dx []) ∧
  ∀ H' p v, Xk.Fr p H → Xk.Fr v H → Xk.But x H H' → At C H' x dx b0 m p v ⟨"asking", [], [], none, e⟩ → Q .non H'
theorem ok_Attempt___init__ (T : Txt K mg) : FnOk P w K mg base CX0 1 T.f_Attempt___init__ T.d_Attempt___init__ ["self", "ballot", "entry", "members"] (sp_Attempt___init__ K T.C_Attempt) := by
  refine T.F_Attempt___init__.ok sc_Attempt___init__ (fun vs H Q E h => ?_) (fun cdv A outer s H vs Q E hr h => ?_)
  · obtain ⟨x, dx, b0, e, m, rfl, _⟩ := h
    rfl
  obtain ⟨x, dx, b0, e, m, rfl, j1, q⟩ := h
  have c0 := T.Cls_Attempt
  have c1 := T.A_Attempt_ballot
  have c2 := T.A_Attempt_entry
  have c3 := T.A_Attempt_members
  have c4 := T.A_Attempt_stage
  have c5 := T.A_Attempt_promised_by
  have c6 := T.A_Attempt_voted_by
  have c7 := T.A_Attempt_bound
  refine ⟨_, (pss_cons (ps_fld (pv 0) (pv 1) rfl)
      (pss_cons (ps_fld (pv 0) (pv 2) rfl)
      (pss_cons (ps_fld (pv 0) (pv 3) rfl)
      (pss_cons (ps_fld (pv 0) (pe_glob (by rfl) T.g_ASKING Xk.rel_str) rfl)
      (pss_cons (ps_fld (pv 0) (pe_lst pa_nil) rfl)
      (pss_cons (ps_fld (pv 0) (pe_lst pa_nil) rfl)
      (pss_one (ps_fld (pv 0) (pe_non) rfl)))))))), ?_⟩
  wtm_at "x0"
  wtm_at "xs"
  intro p H1 hp s1 h1
  have n1 : x ≠ p := Xk.ne_new hp upd_same
  have o1 := s1 _ _ upd_same
  have f1 : Xk.Fr p H := Xk.fr_upd (Xk.fr_upd (Xk.fr_upd (Xk.fr_upd hp)))
  have b1 : Xk.But x H H1 := by wtm_at "bm"
  clear hp s1
  wtm_at "xs"
  intro v H2 hv s2 h2
  have n2 : x ≠ v := Xk.ne_new hv upd_same
  have n3 : p ≠ v := Xk.ne_new hv ((upd_ne n1.symm).trans h1)
  wtm_at "xs"
  refine q _ p v f1 (Xk.none_but j1 b1 o1 (Xk.fr_upd hv)) ?_ ⟨?_, ?_, ?_, n3⟩
  · exact Xk.but_mut (Xk.but_mut (Xk.but_trans (Xk.but_mut b1) (Xk.but_same s2)))
  · exact upd_same
  · exact (upd_ne n1.symm).trans ((upd_ne n1.symm).trans (s2 _ _ ((upd_ne n1.symm).trans h1)))
  · exact (upd_ne n2.symm).trans ((upd_ne n2.symm).trans h2)
def sp_Attempt__is_new (K : PySem.W.Frag) (C : Addr) : Sp := fun vs H Q _ => ∃ (a dx b0 m p v : Addr) (S : Sa) (h : Addr) (hs ms : List Int) (ix : Int), vs = [.ref a, .int ix, .ref h] ∧ At C H a dx b0 m p v S ∧ SqT K H m (ms.map V.int) ∧ H h = some (.lst (hs.map V.int)) ∧
  Q (.bl (decide (ix ∈ ms) && !decide (ix ∈ hs))) H
theorem ok_Attempt__is_new (T : Txt K mg) : FnOk P w K mg base CX0 1 T.f_Attempt__is_new T.d_Attempt__is_new ["self", "index", "heard"] (sp_Attempt__is_new K T.C_Attempt) := by
  refine T.F_Attempt__is_new.ok sc_Attempt__is_new (fun vs H Q E h => ?_) (fun cdv A outer s H vs Q E hr h => ?_)
  · obtain ⟨a, dx, b0, m, p, v, S, h, hs, ms, ix, rfl, _⟩ := h
    rfl
  obtain ⟨a, dx, b0, m, p, v, S, h, hs, ms, ix, rfl, g, hm, hh, q⟩ := h
  have c0 := T.Cls_Attempt
  have c3 := T.A_Attempt_members
  have o1 := g.o
  refine ⟨_, (pss_one (ps_ret ((pe_and (pe_cmpR (Xk.k_in (K := K) (by rfl)) (pv 1) (Xk.k_fld (K := K) (by rfl) (pv 0) rfl) (by rfl)) (pe_one (pe_cmpR (Xk.k_nin (K := K) (by rfl)) (pv 1) (pv 2) (by rfl))))))), ?_⟩
  wtm_at "x0"
  wtm_at "xs"
  refine Xk.x_inT hm rfl (Xk.flat_ints _) ?_
  rw [Xk.in_ints]
  wtm_at "xs"
  refine Xk.x_itd (fun h4 => ?_) (fun h4 => ?_)
  · wtm_at "xs"
    refine Xk.x_niL (Xk.sq_of hh) rfl (Xk.flat_ints _) ?_
    rw [Xk.in_ints]
    rw [decide_eq_true h4] at q
    exact q
  · wtm_at "xs"
    rw [decide_eq_false h4] at q
    exact q
--CUT--
theorem half_of {ms is : List Int} (hm : ms.Nodup) (hi : is.Nodup) (hs : ∀ x ∈ is, x ∈ ms) : decide ((ms.length : Int) < 2 * ((ms.filter fun m => decide (m ∈ is)).length : Int)) = half ms is := by
  rw [half_len hm hi hs]
  rfl
def sp_Attempt_hear_promise (K : PySem.W.Frag) (C : Addr) : Sp := fun vs H Q _ => ∃ (a dx b0 m p v : Addr) (S : Sa) (ms : List Int) (ix : Int) (ac : Option (Addr × Addr × V × Int × Int)),
  vs = [.ref a, .int ix, bdV ac] ∧ At C H a dx b0 m p v S ∧ SqT K H m (ms.map V.int) ∧ ms.Nodup ∧ ms.length ≤ 10 ∧ SaOk K H ms S ∧ BdOk K H ac ∧
  ∀ H', B3 a p v H H' → At C H' a dx b0 m p v (prom ms S ix ac).1 → Q (.bl (prom ms S ix ac).2) H'
theorem ok_Attempt_hear_promise (T : Txt K mg) : FnOk P w K mg base CX0 2 T.f_Attempt_hear_promise T.d_Attempt_hear_promise ["self", "index", "accepted"] (sp_Attempt_hear_promise K T.C_Attempt) := by
  refine T.F_Attempt_hear_promise.ok sc_Attempt_hear_promise (fun vs H Q E h => ?_) (fun cdv A outer s H vs Q E hr h => ?_)
  · obtain ⟨a, dx, b0, m, p, v, S, ms, ix, ac, rfl, _⟩ := h
    rfl
  obtain ⟨a, dx, b0, m, p, v, S, ms, ix, ac, rfl, g, hm, hnd, hml, ok, oa, q⟩ := h
  have c0 := T.Cls_Attempt
  have c2 := T.A_Attempt_entry
  have c3 := T.A_Attempt_members
  have c4 := T.A_Attempt_stage
  have c5 := T.A_Attempt_promised_by
  have c7 := T.A_Attempt_bound
  have o1 := g.o
  have nap := g.pa
  have nav := g.va
  have npv := g.n
  refine ⟨_, (Evl.pss_cut (ps_if (PW.pt (pw_or (pt_cmpR op_ne (Xk.k_fld (K := K) (by rfl) (pv 0) rfl) (pe_glob (by rfl) T.g_ASKING Xk.rel_str) (nomark _)) (pw_or1 (pt_not (pt_val (pe_meth (pv 0) T.Cls_Attempt T.M_Attempt__is_new (ok_Attempt__is_new T) (hr.mono (by decide)) T.b_Attempt__is_new .nil pass0 (pa_cons (pv 1) (pa_cons (Xk.k_fld (K := K) (by rfl) (pv 0) rfl) pa_nil)))))))) (pss_one (ps_ret (pe_bl))) pss_nil)
      (pss_cons (ps_expr (pe_bm PySem.F.plainAttrs_list PySem.F.slot_list_append PySem.F.type_list_append mt_append (Xk.k_fld (K := K) (by rfl) (pv 0) rfl) (pa_cons (pv 1) pa_nil)))
      (pss_cons (ps_expr (pe_bm0 PySem.F.plainAttrs_list PySem.F.slot_list_sort PySem.F.type_list_sort mt_sortI (Xk.k_fld (K := K) (by rfl) (pv 0) rfl)))
      (Evl.pss_cut (ps_if (PW.pt (pw_and (pt_cmpR Xk.op_nNotN (pv 2) (pe_non) (nomark _)) (pw_and1 (PW.pt (pw_or (pt_cmpR Xk.op_nIsN (Xk.k_fld (K := K) (by rfl) (pv 0) rfl) (pe_non) (nomark _)) (pw_or1 (pt_cmpR (Xk.k_ltP (K := K) hr.units (by rfl)) (pe_ix (Xk.k_ixT (K := K) (by rfl)) (Xk.k_fld (K := K) (by rfl) (pv 0) rfl) (pe_int) (fun _ _ => rfl)) (pe_ix (Xk.k_ixT (K := K) (by rfl)) (pv 2) (pe_int) (fun _ _ => rfl)) (nomark _)))))))) (pss_one (ps_fld (pv 0) (pv 2) rfl)) pss_nil)
      (Evl.pss_cut (ps_if (pt_not (pt_val (pe_call (ok_more_than_half T) (hr.mono (by decide)) (by rfl) T.g_more_than_half T.F_more_than_half.kp T.b_more_than_half .nil pass0 (pa_cons (Xk.k_fld (K := K) (by rfl) (pv 0) rfl) (pa_cons (Xk.k_fld (K := K) (by rfl) (pv 0) rfl) pa_nil))))) (pss_one (ps_ret (pe_bl))) pss_nil)
      (pss_cons (ps_fld (pv 0) (pe_glob (by rfl) T.g_TELLING Xk.rel_str) rfl)
      (Evl.pss_cut (ps_if (pt_cmpR Xk.op_nNotN (Xk.k_fld (K := K) (by rfl) (pv 0) rfl) (pe_non) (nomark _)) (pss_one (ps_fld (pv 0) (pe_ix (Xk.k_ixT (K := K) (by rfl)) (Xk.k_fld (K := K) (by rfl) (pv 0) rfl) (pe_int) (fun _ _ => rfl)) rfl)) pss_nil)
      (pss_one (ps_ret (pe_bl)))))))))), ?_⟩
  wtm_at "x0"
  refine Xk.x_cut (fun σ' H' => H = H' ∧ (S.st = "asking" ∧ ix ∈ ms ∧ ¬ ix ∈ S.pr) ∧ σ' = [some (.ref a), some (.int ix), some (bdV ac)]) ?_ ?_
  · have no : ¬ (S.st = "asking" ∧ ix ∈ ms ∧ ¬ ix ∈ S.pr) → Q (.bl false) H := fun hn => by
      have e : prom ms S ix ac = (S, false) := if_neg hn
      have q2 := q H (fun x o _ _ _ h => h)
      rw [e] at q2
      exact q2 g
    wtm_at "xs"
    refine Xk.x_itn (fun h4 => ?_) (fun h4 => ?_)
    · wtm_at "xs"
      exact no fun z => h4 (congrArg V.str z.1)
    · wtm_at "xs"
      refine ⟨a, dx, b0, m, p, v, S, p, S.pr, ms, ix, rfl, g, hm, g.hp, ?_⟩
      wtm_at "xs"
      by_cases h5 : ix ∈ ms ∧ ¬ ix ∈ S.pr
      · rw [decide_eq_true h5.1, decide_eq_false h5.2]
        wtm_at "xs"
        exact ⟨rfl, ⟨V.str.inj h4, h5⟩, rfl⟩
      · have e : (decide (ix ∈ ms) && !decide (ix ∈ S.pr)) = false := by
          by_cases h6 : ix ∈ ms
          · have h7 : ix ∈ S.pr := Classical.byContradiction fun z => h5 ⟨h6, z⟩
            rw [decide_eq_true h6, decide_eq_true h7]
            rfl
          · rw [decide_eq_false h6]
            rfl
        rw [e]
        wtm_at "xs"
        exact no fun z => h5 z.2
  rintro σ' H' ⟨rfl, hc, rfl⟩
  have hp := g.hp
  have lpr : S.pr.length ≤ 10 := by
    have h8 := half_len hnd ok.pr.1 ok.pr.2
    have h9 := List.length_filter_le (fun m => decide (m ∈ S.pr)) ms
    omega
  wtm_at "xs"
  refine Xk.x_rSortI (ns := S.pr ++ [ix]) (by rw [List.map_append]; exact upd_same) fun ns' hp1 hp2 => ?_
  obtain rfl := srt_of hp1 hp2
  have e1 : B3 a p v H (upd (upd H p (.lst (S.pr.map V.int ++ [V.int ix]))) p (.lst ((srt (S.pr ++ [ix])).map V.int))) := fun x o h1 h2 h3 h => (upd_ne h2).trans ((upd_ne h2).trans h)
  have o2 := (upd_ne (o := .lst ((srt (S.pr ++ [ix])).map V.int)) nap.symm).trans ((upd_ne (o := .lst (S.pr.map V.int ++ [V.int ix])) nap.symm).trans o1)
  have p2 : upd (upd H p (.lst (S.pr.map V.int ++ [V.int ix]))) p (.lst ((srt (S.pr ++ [ix])).map V.int)) p = _ := upd_same
  have v2 := (upd_ne (o := .lst ((srt (S.pr ++ [ix])).map V.int)) npv.symm).trans ((upd_ne (o := .lst (S.pr.map V.int ++ [V.int ix])) npv.symm).trans g.hv)
  have st2 := g.st (K := K) e1
  generalize upd (upd H p (.lst (S.pr.map V.int ++ [V.int ix]))) p (.lst ((srt (S.pr ++ [ix])).map V.int)) = H2 at *
  clear hp hp1 hp2
  have hsr := srt_snoc_ok ok.pr hc.2.1 hc.2.2
  have e0 : prom ms S ix ac = if half ms (srt (S.pr ++ [ix])) = true then (⟨"telling", srt (S.pr ++ [ix]), S.vo, bind S.bd ac, enOf S.en (bind S.bd ac)⟩, true) else (⟨S.st, srt (S.pr ++ [ix]), S.vo, bind S.bd ac, S.en⟩, false) := if_pos hc
  rw [e0] at q
  have bo := bind_ok ok.bd oa
  have bo2 := ok.bd.st st2
  have ba2 := oa.st st2
  refine Xk.x_cut (fun σ' H' => B3 a p v H H' ∧ At T.C_Attempt H' a dx b0 m p v ⟨S.st, srt (S.pr ++ [ix]), S.vo, bind S.bd ac, S.en⟩ ∧ σ' = [some (.ref a), some (.int ix), some (bdV ac)]) ?_ ?_
  · have stay : bind S.bd ac = S.bd → B3 a p v H H2 ∧ At T.C_Attempt H2 a dx b0 m p v ⟨S.st, srt (S.pr ++ [ix]), S.vo, bind S.bd ac, S.en⟩ := fun z => by
      rw [z]
      exact ⟨e1, o2, p2, v2, npv⟩
    have take : ∀ o : HO, o = .ins T.C_Attempt dx [("ballot", .ref b0), ("entry", S.en), ("members", .ref m), ("stage", .str S.st), ("promised_by", .ref p), ("voted_by", .ref v), ("bound", bdV ac)] → bind S.bd ac = ac →
        B3 a p v H (upd H2 a o) ∧ At T.C_Attempt (upd H2 a o) a dx b0 m p v ⟨S.st, srt (S.pr ++ [ix]), S.vo, bind S.bd ac, S.en⟩ := fun o ho z => by
      rw [z]
      subst ho
      exact ⟨fun x o h1 h2 h3 h => (upd_ne h1).trans (e1 x o h1 h2 h3 h), upd_same, (upd_ne nap).trans p2, (upd_ne nav).trans v2, npv⟩
    cases ac with
    | none =>
      wtm_at "xs"
      exact ⟨(stay rfl).1, (stay rfl).2, rfl⟩
    | some o =>
      obtain ⟨t, b, e, r, i⟩ := o
      have u1 := ba2.1
      have u2 := ba2.2.1
      cases hb : S.bd with
      | none =>
        rw [hb] at o2 stay take
        wtm_at "xs"
        exact ⟨(take _ rfl rfl).1, (take _ rfl rfl).2, rfl⟩
      | some o' =>
        obtain ⟨t', b', e', r', i'⟩ := o'
        rw [hb] at bo2 o2 stay take
        have u3 := bo2.1
        have u4 := bo2.2.1
        wtm_at "xs"
        refine Xk.x_ixT (p := t') (v := .ref b') u3 rfl ?_
        wtm_at "xs"
        refine Xk.x_ixT (p := t) (v := .ref b) u1 rfl ?_
        refine Xk.x_ltP u4 u2 ?_
        wtm_at "xs"
        refine Xk.x_itd (fun h6 => ?_) (fun h6 => ?_)
        · wtm_at "xs"
          exact ⟨(take _ rfl (if_pos h6)).1, (take _ rfl (if_pos h6)).2, rfl⟩
        · wtm_at "xs"
          exact ⟨(stay (if_neg h6)).1, (stay (if_neg h6)).2, rfl⟩
  rintro σ' H3 ⟨e3, g3, rfl⟩
  have o3 := g3.o
  have st3 := g.st (K := K) e3
  have hm3 := st3.t _ _ hm
  refine Xk.x_cut (fun σ' H' => Same H3 H' ∧ half ms (srt (S.pr ++ [ix])) = true ∧ σ' = [some (.ref a), some (.int ix), some (bdV ac)]) ?_ ?_
  · wtm_at "xs"
    refine ⟨m, p, ms, _, rfl, hm3, .inl (Xk.sq_of g3.hp), by omega, fun H4 s4 => ?_⟩
    rw [half_of hnd hsr.1 hsr.2]
    have g4 := g3.same s4
    wtm_at "xs"
    cases hh : half ms (srt (S.pr ++ [ix]))
    · rw [hh] at q
      wtm_at "xs"
      exact q H4 (fun x o h1 h2 h3 h => s4 _ _ (e3 x o h1 h2 h3 h)) g4
    · wtm_at "xs"
      exact ⟨s4, rfl, rfl⟩
  rintro σ' H4 ⟨s4, hh, rfl⟩
  have e4 : B3 a p v H H4 := fun x o h1 h2 h3 h => s4 _ _ (e3 x o h1 h2 h3 h)
  have g4 := g3.same s4
  have o4 := g4.o
  rw [hh] at q
  clear s4 e3 g3 o3 st3 hm3
  wtm_at "xs"
  refine Xk.x_nocut ?_
  cases hb : bind S.bd ac with
  | none =>
    rw [hb] at q o4
    wtm_at "xs"
    exact q _ (fun x o h1 h2 h3 h => (upd_ne h1).trans (e4 x o h1 h2 h3 h)) ⟨upd_same, (upd_ne nap).trans g4.hp, (upd_ne nav).trans g4.hv, npv⟩
  | some o =>
    obtain ⟨t, b, e, r, i⟩ := o
    rw [hb] at q o4 bo
    have u5 := (g.st (K := K) e4).t _ _ bo.1
    have u6 := (Xk.tt_butO (K := K) (H' := upd H4 a (HO.ins T.C_Attempt dx (putF "stage" (V.str "telling") [("ballot", V.ref b0), ("entry", S.en), ("members", V.ref m), ("stage", V.str S.st), ("promised_by", V.ref p), ("voted_by", V.ref v), ("bound", bdV (some (t, b, e, r, i)))]))) o4 (Xk.but_mut (Xk.But.refl _ _))).t _ _ u5
    wtm_at "xs"
    refine Xk.x_ixT (p := t) (v := e) u6 rfl ?_
    wtm_at "xs"
    exact q _ (fun x o h1 h2 h3 h => (upd_ne h1).trans ((upd_ne h1).trans (e4 x o h1 h2 h3 h))) ⟨upd_same, (upd_ne nap).trans ((upd_ne nap).trans g4.hp), (upd_ne nav).trans ((upd_ne nav).trans g4.hv), npv⟩
def sp_Attempt_hear_vote (K : PySem.W.Frag) (C : Addr) : Sp := fun vs H Q _ => ∃ (a dx b0 m p v : Addr) (S : Sa) (ms : List Int) (ix : Int),
  vs = [.ref a, .int ix] ∧ At C H a dx b0 m p v S ∧ SqT K H m (ms.map V.int) ∧ ms.Nodup ∧ ms.length ≤ 10 ∧ SaOk K H ms S ∧
  ∀ H', B3 a p v H H' → At C H' a dx b0 m p v (voted ms S ix).1 → Q (.bl (voted ms S ix).2) H'
theorem ok_Attempt_hear_vote (T : Txt K mg) : FnOk P w K mg base CX0 2 T.f_Attempt_hear_vote T.d_Attempt_hear_vote ["self", "index"] (sp_Attempt_hear_vote K T.C_Attempt) := by
  refine T.F_Attempt_hear_vote.ok sc_Attempt_hear_vote (fun vs H Q E h => ?_) (fun cdv A outer s H vs Q E hr h => ?_)
  · obtain ⟨a, dx, b0, m, p, v, S, ms, ix, rfl, _⟩ := h
    rfl
  obtain ⟨a, dx, b0, m, p, v, S, ms, ix, rfl, g, hm, hnd, hml, ok, q⟩ := h
  have c0 := T.Cls_Attempt
  have c3 := T.A_Attempt_members
  have c4 := T.A_Attempt_stage
  have c6 := T.A_Attempt_voted_by
  have o1 := g.o
  have nap := g.pa
  have nav := g.va
  have npv := g.n
  refine ⟨_, (Evl.pss_cut (ps_if (PW.pt (pw_or (pt_cmpR op_ne (Xk.k_fld (K := K) (by rfl) (pv 0) rfl) (pe_glob (by rfl) T.g_TELLING Xk.rel_str) (nomark _)) (pw_or1 (pt_not (pt_val (pe_meth (pv 0) T.Cls_Attempt T.M_Attempt__is_new (ok_Attempt__is_new T) (hr.mono (by decide)) T.b_Attempt__is_new .nil pass0 (pa_cons (pv 1) (pa_cons (Xk.k_fld (K := K) (by rfl) (pv 0) rfl) pa_nil)))))))) (pss_one (ps_ret (pe_bl))) pss_nil)
      (pss_cons (ps_expr (pe_bm PySem.F.plainAttrs_list PySem.F.slot_list_append PySem.F.type_list_append mt_append (Xk.k_fld (K := K) (by rfl) (pv 0) rfl) (pa_cons (pv 1) pa_nil)))
      (pss_cons (ps_expr (pe_bm0 PySem.F.plainAttrs_list PySem.F.slot_list_sort PySem.F.type_list_sort mt_sortI (Xk.k_fld (K := K) (by rfl) (pv 0) rfl)))
      (Evl.pss_cut (ps_if (pt_not (pt_val (pe_call (ok_more_than_half T) (hr.mono (by decide)) (by rfl) T.g_more_than_half T.F_more_than_half.kp T.b_more_than_half .nil pass0 (pa_cons (Xk.k_fld (K := K) (by rfl) (pv 0) rfl) (pa_cons (Xk.k_fld (K := K) (by rfl) (pv 0) rfl) pa_nil))))) (pss_one (ps_ret (pe_bl))) pss_nil)
      (pss_cons (ps_fld (pv 0) (pe_glob (by rfl) T.g_WON Xk.rel_str) rfl)
      (pss_one (ps_ret (pe_bl)))))))), ?_⟩
  wtm_at "x0"
  refine Xk.x_cut (fun σ' H' => H = H' ∧ (S.st = "telling" ∧ ix ∈ ms ∧ ¬ ix ∈ S.vo) ∧ σ' = [some (.ref a), some (.int ix)]) ?_ ?_
  · have no : ¬ (S.st = "telling" ∧ ix ∈ ms ∧ ¬ ix ∈ S.vo) → Q (.bl false) H := fun hn => by
      have e : voted ms S ix = (S, false) := if_neg hn
      have q2 := q H (fun x o _ _ _ h => h)
      rw [e] at q2
      exact q2 g
    wtm_at "xs"
    refine Xk.x_itn (fun h4 => ?_) (fun h4 => ?_)
    · wtm_at "xs"
      exact no fun z => h4 (congrArg V.str z.1)
    · wtm_at "xs"
      refine ⟨a, dx, b0, m, p, v, S, v, S.vo, ms, ix, rfl, g, hm, g.hv, ?_⟩
      wtm_at "xs"
      by_cases h5 : ix ∈ ms ∧ ¬ ix ∈ S.vo
      · rw [decide_eq_true h5.1, decide_eq_false h5.2]
        wtm_at "xs"
        exact ⟨rfl, ⟨V.str.inj h4, h5⟩, rfl⟩
      · have e : (decide (ix ∈ ms) && !decide (ix ∈ S.vo)) = false := by
          by_cases h6 : ix ∈ ms
          · have h7 : ix ∈ S.vo := Classical.byContradiction fun z => h5 ⟨h6, z⟩
            rw [decide_eq_true h6, decide_eq_true h7]
            rfl
          · rw [decide_eq_false h6]
            rfl
        rw [e]
        wtm_at "xs"
        exact no fun z => h5 z.2
  rintro σ' H' ⟨rfl, hc, rfl⟩
  have hv := g.hv
  have lvo : S.vo.length ≤ 10 := by
    have h8 := half_len hnd ok.vo.1 ok.vo.2
    have h9 := List.length_filter_le (fun m => decide (m ∈ S.vo)) ms
    omega
  wtm_at "xs"
  refine Xk.x_rSortI (ns := S.vo ++ [ix]) (by rw [List.map_append]; exact upd_same) fun ns' hp1 hp2 => ?_
  obtain rfl := srt_of hp1 hp2
  have e1 : B3 a p v H (upd (upd H v (.lst (S.vo.map V.int ++ [V.int ix]))) v (.lst ((srt (S.vo ++ [ix])).map V.int))) := fun x o h1 h2 h3 h => (upd_ne h3).trans ((upd_ne h3).trans h)
  have o2 := (upd_ne (o := .lst ((srt (S.vo ++ [ix])).map V.int)) nav.symm).trans ((upd_ne (o := .lst (S.vo.map V.int ++ [V.int ix])) nav.symm).trans o1)
  have v2 : upd (upd H v (.lst (S.vo.map V.int ++ [V.int ix]))) v (.lst ((srt (S.vo ++ [ix])).map V.int)) v = _ := upd_same
  have p2 := (upd_ne (o := .lst ((srt (S.vo ++ [ix])).map V.int)) npv).trans ((upd_ne (o := .lst (S.vo.map V.int ++ [V.int ix])) npv).trans g.hp)
  have st2 := g.st (K := K) e1
  generalize upd (upd H v (.lst (S.vo.map V.int ++ [V.int ix]))) v (.lst ((srt (S.vo ++ [ix])).map V.int)) = H2 at *
  clear hv hp1 hp2
  have hsr := srt_snoc_ok ok.vo hc.2.1 hc.2.2
  have e0 : voted ms S ix = if half ms (srt (S.vo ++ [ix])) = true then (⟨"won", S.pr, srt (S.vo ++ [ix]), S.bd, S.en⟩, true) else (⟨S.st, S.pr, srt (S.vo ++ [ix]), S.bd, S.en⟩, false) := if_pos hc
  rw [e0] at q
  have g2 : At T.C_Attempt H2 a dx b0 m p v ⟨S.st, S.pr, srt (S.vo ++ [ix]), S.bd, S.en⟩ := ⟨o2, p2, v2, npv⟩
  have hm2 := st2.t _ _ hm
  refine Xk.x_cut (fun σ' H' => Same H2 H' ∧ half ms (srt (S.vo ++ [ix])) = true ∧ σ' = [some (.ref a), some (.int ix)]) ?_ ?_
  · wtm_at "xs"
    refine ⟨m, v, ms, _, rfl, hm2, .inl (Xk.sq_of v2), by omega, fun H4 s4 => ?_⟩
    rw [half_of hnd hsr.1 hsr.2]
    have g4 := g2.same s4
    wtm_at "xs"
    cases hh : half ms (srt (S.vo ++ [ix]))
    · rw [hh] at q
      wtm_at "xs"
      exact q H4 (fun x o h1 h2 h3 h => s4 _ _ (e1 x o h1 h2 h3 h)) g4
    · wtm_at "xs"
      exact ⟨s4, rfl, rfl⟩
  rintro σ' H4 ⟨s4, hh, rfl⟩
  have e4 : B3 a p v H H4 := fun x o h1 h2 h3 h => s4 _ _ (e1 x o h1 h2 h3 h)
  have g4 := g2.same s4
  have o4 := g4.o
  rw [hh] at q
  clear s4 e1 g2 o2 st2 hm2
  wtm_at "xs"
  exact q _ (fun x o h1 h2 h3 h => (upd_ne h1).trans (e4 x o h1 h2 h3 h)) ⟨upd_same, (upd_ne nap).trans g4.hp, (upd_ne nav).trans g4.hv, npv⟩
--CUT--
def sp_Attempt_fork (K : PySem.W.Frag) (C : Addr) : Sp := fun vs H Q _ => ∃ (a dx b0 m p v : Addr) (S : Sa), vs = [.ref a] ∧ At C H a dx b0 m p v S ∧ S.pr.length ≤ 10 ∧ S.vo.length ≤ 10 ∧
  ∀ H' f fx p' v', Xk.Fr f H → Xk.Fr p' H → Xk.Fr v' H → Same H H' → At C H' f fx b0 m p' v' S → Q (.ref f) H'
theorem ok_Attempt_fork (T : Txt K mg) : FnOk P w K mg base CX0 3 T.f_Attempt_fork T.d_Attempt_fork ["self"] (sp_Attempt_fork K T.C_Attempt) := by
  refine T.F_Attempt_fork.ok sc_Attempt_fork (fun vs H Q E h => ?_) (fun cdv A outer s H vs Q E hr h => ?_)
  · obtain ⟨a, dx, b0, m, p, v, S, rfl, _⟩ := h
    rfl
  obtain ⟨a, dx, b0, m, p, v, S, rfl, g, l1, l2, q⟩ := h
  have c0 := T.Cls_Attempt
  have c1 := T.A_Attempt_ballot
  have c2 := T.A_Attempt_entry
  have c3 := T.A_Attempt_members
  have c4 := T.A_Attempt_stage
  have c5 := T.A_Attempt_promised_by
  have c6 := T.A_Attempt_voted_by
  have c7 := T.A_Attempt_bound
  have o1 := g.o
  refine ⟨_, (pss_cons (ps_set (i := 1) sc_Attempt_fork.nd rfl (Or.inl rfl) (pe_make T.Mk_Attempt (ok_Attempt___init__ T) (hr.mono (by decide)) (by rfl) T.g_Attempt T.b_Attempt___init__ .nil pass0 (pa_cons (Xk.k_fld (K := K) (by rfl) (pv 0) rfl) (pa_cons (Xk.k_fld (K := K) (by rfl) (pv 0) rfl) (pa_cons (Xk.k_fld (K := K) (by rfl) (pv 0) rfl) pa_nil)))))
      (pss_cons (ps_fld (pv 1) (Xk.k_fld (K := K) (by rfl) (pv 0) rfl) rfl)
      (pss_cons (ps_fld (pv 1) (pe_callTy (Xk.k_list (K := K) (by rfl)) (by rfl) T.m_list (by decide +kernel) (pa_cons (Xk.k_fld (K := K) (by rfl) (pv 0) rfl) pa_nil)) rfl)
      (pss_cons (ps_fld (pv 1) (pe_callTy (Xk.k_list (K := K) (by rfl)) (by rfl) T.m_list (by decide +kernel) (pa_cons (Xk.k_fld (K := K) (by rfl) (pv 0) rfl) pa_nil)) rfl)
      (pss_cons (ps_fld (pv 1) (Xk.k_fld (K := K) (by rfl) (pv 0) rfl) rfl)
      (pss_one (ps_ret (pv 1)))))))), ?_⟩
  wtm_at "x0"
  wtm_at "xs"
  refine Xk.x_rMake fun x fx H1 hx hfx hn s1 h1 h2 => ?_
  refine ⟨x, fx, b0, S.en, m, rfl, h2, fun H2 p0 v0 hp0 hv0 b2 g2 => ⟨rfl, ?_⟩⟩
  have s2 : Same H H2 := Xk.same_but b2 hx s1
  have gH := g.same s2
  have oH := gH.o
  have pH := gH.hp
  have vH := gH.hv
  have o2 := g2.o
  have nxa : x ≠ a := (Xk.ne_new hx o1).symm
  have nxp : x ≠ p := (Xk.ne_new hx g.hp).symm
  have nxv : x ≠ v := (Xk.ne_new hx g.hv).symm
  wtm_at "xs"
  intro l H3 hl s3 h3
  have nl1 : x ≠ l := Xk.ne_new hl upd_same
  have nl2 : a ≠ l := Xk.ne_new hl ((upd_ne nxa.symm).trans oH)
  have o3 := s3 _ _ (show upd H2 x _ x = _ from upd_same)
  have a3 := s3 _ _ ((upd_ne nxa.symm).trans oH)
  have v3 := s3 _ _ ((upd_ne nxv.symm).trans vH)
  have f3 : Xk.Fr l H := Xk.free_back (Xk.fr_upd hl) s2
  have s13 : Same H H3 := (Xk.same_mut s2 hx).trans s3
  clear s3 hl oH pH vH gH o2
  wtm_at "xs"
  intro l4 H4 hl4 s4 h4
  have nl3 : x ≠ l4 := Xk.ne_new hl4 upd_same
  have nl4 : l ≠ l4 := Xk.ne_new hl4 ((upd_ne nl1.symm).trans h3)
  have nl5 : a ≠ l4 := Xk.ne_new hl4 ((upd_ne nxa.symm).trans a3)
  have o4 := s4 _ _ (show upd H3 x _ x = _ from upd_same)
  have a4 := s4 _ _ ((upd_ne nxa.symm).trans a3)
  have l44 := s4 _ _ ((upd_ne nl1.symm).trans h3)
  have f4 : Xk.Fr l4 H := Xk.free_back (Xk.fr_upd hl4) s13
  have s14 : Same H H4 := (Xk.same_mut s13 hx).trans s4
  clear s4 hl4 a3 o3
  wtm_at "xs"
  refine q _ x fx l l4 hx f3 f4 (Xk.same_mut (Xk.same_mut s14 hx) hx) ⟨upd_same, ?_, ?_, nl4⟩
  · exact (upd_ne nl1.symm).trans ((upd_ne nl1.symm).trans l44)
  · exact (upd_ne nl3.symm).trans ((upd_ne nl3.symm).trans h4)
--CUT--
def sp__law_entry (K : PySem.W.Frag) : Sp := fun vs H Q _ => ∃ (b : Addr) (r i : Int), vs = [.ref b] ∧ SqT K H b [.int r, .int i] ∧ -100000 ≤ r ∧ r ≤ 100000 ∧ ∀ H' v d, Same H H' → Xk.Pk K H' 9 v d → Q v H'
theorem ok__law_entry (T : Txt K mg) : FnOk P w K mg base CX0 1 T.f__law_entry T.d__law_entry ["ballot"] (sp__law_entry K) := by
  refine T.F__law_entry.ok sc__law_entry (fun vs H Q E h => ?_) (fun cdv A outer s H vs Q E hr h => ?_)
  · obtain ⟨b, r, i, rfl, _⟩ := h
    rfl
  obtain ⟨b, r, i, rfl, hb, h0, h1, q⟩ := h
  refine ⟨_, (pss_one (ps_ret (pe_ix (Xk.k_ixL (K := K) (by rfl)) (pe_lst (pa_cons (pe_tup (pa_cons (pe_str) (pa_cons (pe_tup (pa_cons (pe_tup (pa_cons (pe_str) (pa_cons (pe_int) pa_nil))) pa_nil)) pa_nil))) (pa_cons (pe_tup (pa_cons (pe_str) (pa_cons (pe_tup (pa_cons (pe_tup (pa_cons (pe_str) (pa_cons (pe_non) pa_nil))) pa_nil)) pa_nil))) (pa_cons (pe_str) (pa_cons (pe_tup (pa_cons (pe_str) (pa_cons (pe_tup (pa_cons (pe_int) (pa_cons (pe_int) pa_nil))) pa_nil))) pa_nil))))) (pe_op op_mod (pe_op op_add (pe_op op_mul (pe_int) (pe_ix (Xk.k_ixT (K := K) (by rfl)) (pv 0) (pe_int) (fun _ _ => rfl))) (pe_ix (Xk.k_ixT (K := K) (by rfl)) (pv 0) (pe_int) (fun _ _ => rfl))) (pe_int)) (fun _ _ => rfl)))), ?_⟩
  wtm_at "x0"
  wtm_at "xs"
  intro p1 H1 hp1 s1 h1
  wtm_at "xs"
  intro p2 H2 hp2 s2 h2
  wtm_at "xs"
  intro p3 H3 hp3 s3 h3
  wtm_at "xs"
  intro p4 H4 hp4 s4 h4
  wtm_at "xs"
  intro p5 H5 hp5 s5 h5
  wtm_at "xs"
  intro p6 H6 hp6 s6 h6
  wtm_at "xs"
  intro p7 H7 hp7 s7 h7
  wtm_at "xs"
  intro p8 H8 hp8 s8 h8
  wtm_at "xs"
  intro p9 H9 hp9 s9 h9
  have z1 := (s2.trans (s3.trans (s4.trans (s5.trans (s6.trans (s7.trans (s8.trans s9))))))) _ _ h1
  have z2 := (s3.trans (s4.trans (s5.trans (s6.trans (s7.trans (s8.trans s9)))))) _ _ h2
  have z3 := (s4.trans (s5.trans (s6.trans (s7.trans (s8.trans s9))))) _ _ h3
  have z4 := (s5.trans (s6.trans (s7.trans (s8.trans s9)))) _ _ h4
  have z5 := (s6.trans (s7.trans (s8.trans s9))) _ _ h5
  have z6 := (s7.trans (s8.trans s9)) _ _ h6
  have z7 := (s8.trans s9) _ _ h7
  have z8 := s9 _ _ h8
  have ss : Same H H9 := s1.trans (s2.trans (s3.trans (s4.trans (s5.trans (s6.trans (s7.trans (s8.trans s9)))))))
  clear s1 s2 s3 s4 s5 s6 s7 s8 s9 h1 h2 h3 h4 h5 h6 h7 h8
  wtm_at "xs"
  obtain ⟨j, hj⟩ := Int.eq_ofNat_of_zero_le (Int.emod_nonneg (3 * r + i) (show (4 : Int) ≠ 0 by decide))
  have hj4 := Int.emod_lt_of_pos (3 * r + i) (show (0 : Int) < 4 by decide)
  obtain ⟨v, hv⟩ := Xk.lt_at (xs := [V.ref p3, V.ref p6, V.str "c", V.ref p8]) (j := j) (by simp only [List.length_cons, List.length_nil]; omega)
  refine Xk.x_ixL (Xk.sq_of h9) (Xk.at_nat hj hv) ?_
  have hm := List.mem_of_getElem? hv
  simp only [List.mem_cons, List.not_mem_nil, or_false] at hm
  rcases hm with rfl | rfl | rfl | rfl
  · exact q _ _ _ ss ((Xk.pk_tup2 (n := 2) (Xk.st_of z3) Xk.pk_str (Xk.pk_tup1 (n := 1) (Xk.st_of z2) (Xk.pk_tup2 (n := 0) (Xk.st_of z1) Xk.pk_str Xk.pk_int))).mono (by decide))
  · exact q _ _ _ ss ((Xk.pk_tup2 (n := 2) (Xk.st_of z6) Xk.pk_str (Xk.pk_tup1 (n := 1) (Xk.st_of z5) (Xk.pk_tup2 (n := 0) (Xk.st_of z4) Xk.pk_str Xk.pk_non))).mono (by decide))
  · exact q _ _ _ ss Xk.pk_str
  · exact q _ _ _ ss ((Xk.pk_tup2 (n := 1) (Xk.st_of z8) Xk.pk_str (Xk.pk_tup2 (n := 0) (Xk.st_of z7) Xk.pk_int Xk.pk_int)).mono (by decide))
/-- the law's own attempt -/
structure Md (H : Hp) (a m p v : Addr) (S : Sa) : Prop where
  o : H a = some (.dK (mdl (.str S.st) (.ref p) (.ref v) (bdV S.bd) S.en (.ref m)))
  hp : H p = some (.lst (S.pr.map V.int))
  hv : H v = some (.lst (S.vo.map V.int))
theorem Md.same {H H' : Hp} {a m p v : Addr} {S : Sa} (g : Md H a m p v S) (e : Same H H') : Md H' a m p v S := ⟨e _ _ g.o, e _ _ g.hp, e _ _ g.hv⟩
theorem Md.pa {H : Hp} {a m p v : Addr} {S : Sa} (g : Md H a m p v S) : p ≠ a := fun z => by
  subst z
  have h := g.o
  rw [g.hp] at h
  cases h
theorem Md.va {H : Hp} {a m p v : Addr} {S : Sa} (g : Md H a m p v S) : v ≠ a := fun z => by
  subst z
  have h := g.o
  rw [g.hv] at h
  cases h
theorem Md.st {H H' : Hp} {a m p v : Addr} {S : Sa} (g : Md H a m p v S) (e : Xk.But a H H') : Xk.St K H H' := Xk.tt_but g.o (fun _ z => by cases z) (fun _ _ z => by cases z) e
def sp__law_new (K : PySem.W.Frag) : Sp := fun vs H Q _ => ∃ m : Addr, vs = [.ref m] ∧ ∀ H' a p v, Xk.Fr a H → Xk.Fr p H → Xk.Fr v H → Same H H' → Md H' a m p v ⟨"asking", [], [], none, .str "wish"⟩ → Q (.ref a) H'
theorem ok__law_new (T : Txt K mg) : FnOk P w K mg base CX0 1 T.f__law_new T.d__law_new ["members"] (sp__law_new K) := by
  refine T.F__law_new.ok sc__law_new (fun vs H Q E h => ?_) (fun cdv A outer s H vs Q E hr h => ?_)
  · obtain ⟨m, rfl, _⟩ := h
    rfl
  obtain ⟨m, rfl, q⟩ := h
  refine ⟨_, (pss_one (ps_ret (pe_disp (pps_cons (pe_str) (pe_str) (pps_cons (pe_str) (pe_lst pa_nil) (pps_cons (pe_str) (pe_lst pa_nil) (pps_cons (pe_str) (pe_non) (pps_cons (pe_str) (pe_str) (pps_cons (pe_str) (pv 0) pps_nil)))))) (by rfl) (by rfl) (fun z => by cases z) (by decide)))), ?_⟩
  wtm_at "x0"
  wtm_at "xs"
  refine Xk.x_disp fun a ha => ?_
  wtm_at "xs"
  intro p H1 hp s1 h1
  wtm_at "xs"
  intro v H2 hv s2 h2
  wtm_at "xs"
  have a2 : H2 a = some (.dK []) := s2 _ _ (s1 _ _ upd_same)
  have np : a ≠ p := Xk.ne_new hp upd_same
  have nv : a ≠ v := Xk.ne_new hv (s1 _ _ upd_same)
  refine ⟨a2, mdl (.str "asking") (.ref p) (.ref v) .non (.str "wish") (.ref m), rfl, Nat.le_of_ble_eq_true rfl, ?_⟩
  refine q _ a p v ha (Xk.fr_upd hp) (Xk.free_back hv ((Xk.same_fr ha).trans s1)) (Xk.same_mut ((Xk.same_fr ha).trans (s1.trans s2)) ha) ⟨upd_same, (upd_ne np.symm).trans (s2 _ _ h1), (upd_ne nv.symm).trans h2⟩
def sp__law_half (K : PySem.W.Frag) : Sp := fun vs H Q _ => ∃ (a m p v : Addr) (S : Sa) (ms is : List Int) (nm : Str) (l : Addr), vs = [.ref a, .str nm] ∧ Md H a m p v S ∧ SqT K H m (ms.map V.int) ∧
  valV (mdl (.str S.st) (.ref p) (.ref v) (bdV S.bd) S.en (.ref m)) (Sum.inr nm) = some (.ref l) ∧ H l = some (.lst (is.map V.int)) ∧ Q (.bl (half ms is)) H
theorem ok__law_half (T : Txt K mg) : FnOk P w K mg base CX0 1 T.f__law_half T.d__law_half ["model", "name"] (sp__law_half K) := by
  refine T.F__law_half.ok sc__law_half (fun vs H Q E h => ?_) (fun cdv A outer s H vs Q E hr h => ?_)
  · obtain ⟨a, m, p, v, S, ms, is, nm, l, rfl, _⟩ := h
    rfl
  obtain ⟨a, m, p, v, S, ms, is, nm, l, rfl, g, hm, hk, hl, q⟩ := h
  have o1 := g.o
  refine ⟨_, (pss_one (ps_ret (pe_cmpR op_gt (pe_op op_mul (pe_int) (pe_callB (Xk.k_len (K := K) (by rfl)) (by rfl) T.m_len PySem.boot_len (pa_cons (pe_dget (hu_of hr) (pv 0) (pv 1) (fun _ _ => rfl)) pa_nil))) (pe_callB (Xk.k_len (K := K) (by rfl)) (by rfl) T.m_len PySem.boot_len (pa_cons (pe_dget (hu_of hr) (pv 0) (pe_str) (fun _ _ => rfl)) pa_nil)) (nomark _)))), ?_⟩
  wtm_at "x0"
  wtm_at "xs"
  rw [List.length_map, List.length_map]
  exact q
def sp__law_promise (K : PySem.W.Frag) : Sp := fun vs H Q _ => ∃ (a m p v : Addr) (S : Sa) (ms : List Int) (ix : Int) (ac : Option (Addr × Addr × V × Int × Int)),
  vs = [.ref a, .int ix, bdV ac] ∧ Md H a m p v S ∧ SqT K H m (ms.map V.int) ∧ ms.Nodup ∧ ms.length ≤ 10 ∧ SaOk K H ms S ∧ BdOk K H ac ∧
  ∀ H' p', Xk.But a H H' → Md H' a m p' v (prom ms S ix ac).1 → (p' = p ∨ Xk.Fr p' H) → Q (.bl (prom ms S ix ac).2) H'
theorem ok__law_promise (T : Txt K mg) : FnOk P w K mg base CX0 2 T.f__law_promise T.d__law_promise ["model", "index", "accepted"] (sp__law_promise K) := by
  refine T.F__law_promise.ok sc__law_promise (fun vs H Q E h => ?_) (fun cdv A outer s H vs Q E hr h => ?_)
  · obtain ⟨a, m, p, v, S, ms, ix, ac, rfl, _⟩ := h
    rfl
  obtain ⟨a, m, p, v, S, ms, ix, ac, rfl, g, hm, hnd, hml, ok, oa, q⟩ := h
  have o1 := g.o
  have nap := g.pa
  have nav := g.va
  refine ⟨_, (Evl.pss_cut (ps_if (PW.pt (pw_or (pt_cmpR op_ne (pe_dget (hu_of hr) (pv 0) (pe_str) (fun _ _ => rfl)) (pe_str) (nomark _)) (pw_or (pt_cmpR (Xk.k_nin (K := K) (by rfl)) (pv 1) (pe_dget (hu_of hr) (pv 0) (pe_str) (fun _ _ => rfl)) (by rfl)) (pw_or1 (pt_cmpR (Xk.k_in (K := K) (by rfl)) (pv 1) (pe_dget (hu_of hr) (pv 0) (pe_str) (fun _ _ => rfl)) (by rfl)))))) (pss_one (ps_ret (pe_bl))) pss_nil)
      (pss_cons (ps_dput (hu_of hr) (pv 0) (pe_str) (pe_callB (Xk.k_sorted (K := K) (by rfl)) (by rfl) T.m_sorted (by decide +kernel) (pa_cons (pe_op op_cat (pe_dget (hu_of hr) (pv 0) (pe_str) (fun _ _ => rfl)) (pe_lst (pa_cons (pv 1) pa_nil))) pa_nil)) rfl)
      (Evl.pss_cut (ps_if (pt_cmpR Xk.op_nNotN (pv 2) (pe_non) (nomark _)) (pss_cons (ps_set (i := 3) sc__law_promise.nd rfl (Or.inl rfl) (pe_dget (hu_of hr) (pv 0) (pe_str) (fun _ _ => rfl)))
      (pss_one (ps_if (PW.pt (pw_or (pt_cmpR Xk.op_nIsN (pv 3) (pe_non) (nomark _)) (pw_or (pt_cmpR op_lt (pe_ix (Xk.k_ixT (K := K) (by rfl)) (pe_ix (Xk.k_ixT (K := K) (by rfl)) (pv 3) (pe_int) (fun _ _ => rfl)) (pe_int) (fun _ _ => rfl)) (pe_ix (Xk.k_ixT (K := K) (by rfl)) (pe_ix (Xk.k_ixT (K := K) (by rfl)) (pv 2) (pe_int) (fun _ _ => rfl)) (pe_int) (fun _ _ => rfl)) (nomark _)) (pw_or1 (PW.pt (pw_and (pt_cmpR op_eq (pe_ix (Xk.k_ixT (K := K) (by rfl)) (pe_ix (Xk.k_ixT (K := K) (by rfl)) (pv 3) (pe_int) (fun _ _ => rfl)) (pe_int) (fun _ _ => rfl)) (pe_ix (Xk.k_ixT (K := K) (by rfl)) (pe_ix (Xk.k_ixT (K := K) (by rfl)) (pv 2) (pe_int) (fun _ _ => rfl)) (pe_int) (fun _ _ => rfl)) (nomark _)) (pw_and1 (pt_cmpR op_lt (pe_ix (Xk.k_ixT (K := K) (by rfl)) (pe_ix (Xk.k_ixT (K := K) (by rfl)) (pv 3) (pe_int) (fun _ _ => rfl)) (pe_int) (fun _ _ => rfl)) (pe_ix (Xk.k_ixT (K := K) (by rfl)) (pe_ix (Xk.k_ixT (K := K) (by rfl)) (pv 2) (pe_int) (fun _ _ => rfl)) (pe_int) (fun _ _ => rfl)) (nomark _))))))))) (pss_one (ps_dput (hu_of hr) (pv 0) (pe_str) (pv 2) rfl)) pss_nil))) pss_nil)
      (Evl.pss_cut (ps_if (pt_not (pt_val (pe_call (ok__law_half T) (hr.mono (by decide)) (by rfl) T.g__law_half T.F__law_half.kp T.b__law_half .nil pass0 (pa_cons (pv 0) (pa_cons (pe_str) pa_nil))))) (pss_one (ps_ret (pe_bl))) pss_nil)
      (pss_cons (ps_dput (hu_of hr) (pv 0) (pe_str) (pe_str) rfl)
      (Evl.pss_cut (ps_if (pt_cmpR Xk.op_nNotN (pe_dget (hu_of hr) (pv 0) (pe_str) (fun _ _ => rfl)) (pe_non) (nomark _)) (pss_one (ps_dput (hu_of hr) (pv 0) (pe_str) (pe_ix (Xk.k_ixT (K := K) (by rfl)) (pe_dget (hu_of hr) (pv 0) (pe_str) (fun _ _ => rfl)) (pe_int) (fun _ _ => rfl)) rfl)) pss_nil)
      (pss_one (ps_ret (pe_bl))))))))), ?_⟩
  wtm_at "x0"
  refine Xk.x_cut (fun σ' H' => H = H' ∧ (S.st = "asking" ∧ ix ∈ ms ∧ ¬ ix ∈ S.pr) ∧ σ' = [some (.ref a), some (.int ix), some (bdV ac), none]) ?_ ?_
  · have no : ¬ (S.st = "asking" ∧ ix ∈ ms ∧ ¬ ix ∈ S.pr) → Q (.bl false) H := fun hn => by
      have e : prom ms S ix ac = (S, false) := if_neg hn
      have q2 := q H p (Xk.But.refl _ _)
      rw [e] at q2
      exact q2 g (.inl rfl)
    wtm_at "xs"
    refine Xk.x_itn (fun h4 => ?_) (fun h4 => ?_)
    · wtm_at "xs"
      exact no fun z => h4 (congrArg V.str z.1)
    · wtm_at "xs"
      refine Xk.x_niT hm rfl (Xk.flat_ints _) ?_
      rw [Xk.in_ints]
      wtm_at "xs"
      refine Xk.x_itn (fun h5 => ?_) (fun h5 => ?_)
      · wtm_at "xs"
        exact no fun z => h5 z.2.1
      · wtm_at "xs"
        refine Xk.x_inL (Xk.sq_of g.hp) rfl (Xk.flat_ints _) ?_
        rw [Xk.in_ints]
        wtm_at "xs"
        refine Xk.x_itd (fun h6 => ?_) (fun h6 => ?_)
        · wtm_at "xs"
          exact no fun z => z.2.2 h6
        · wtm_at "xs"
          exact ⟨rfl, ⟨V.str.inj h4, h5, h6⟩, rfl⟩
  rintro σ' H' ⟨rfl, hc, rfl⟩
  have hp := g.hp
  have lpr : S.pr.length ≤ 10 := by
    have h8 := half_len hnd ok.pr.1 ok.pr.2
    have h9 := List.length_filter_le (fun m => decide (m ∈ S.pr)) ms
    omega
  wtm_at "xs"
  intro l H1 hl s1 h1
  refine Xk.x_cat (by wtm_at "hx") (by wtm_at "hx") (by rw [List.length_map]; show S.pr.length + 1 ≤ _; omega) fun l2 H2 hl2 s2 h2 => ?_
  wtm_at "xs"
  refine Xk.x_sorted (ns := S.pr ++ [ix]) (by rw [List.map_append]; exact Xk.sq_of h2) (by rw [List.length_append]; show S.pr.length + 1 < 64; omega) fun p2 H3 ns' hp1 hp2 hp3 s3 h3 => ?_
  obtain rfl := srt_of hp1 hp2
  have s13 : Same H H3 := s1.trans (s2.trans s3)
  have o3 := s13 _ _ o1
  have np2 : p2 ≠ a := (Xk.ne_new hp3 ((s1.trans s2) _ _ o1)).symm
  have fp2 : Xk.Fr p2 H := Xk.free_back hp3 (s1.trans s2)
  have v3 := s13 _ _ g.hv
  clear hp1 hp2 hp3 s3 h2 hl2 s2 h1 hl s1 H1 H2
  have uk : putK (mdl (.str S.st) (.ref p) (.ref v) (bdV S.bd) S.en (.ref m)) (Sum.inr "promised") (.ref p2) = mdl (.str S.st) (.ref p2) (.ref v) (bdV S.bd) S.en (.ref m) := rfl
  wtm_at "xs"
  have e4 : Xk.But a H (upd H3 a (.dK (mdl (.str S.st) (.ref p2) (.ref v) (bdV S.bd) S.en (.ref m)))) := Xk.but_mut (Xk.but_same s13)
  have g4 : Md (upd H3 a (.dK (mdl (.str S.st) (.ref p2) (.ref v) (bdV S.bd) S.en (.ref m)))) a m p2 v ⟨S.st, srt (S.pr ++ [ix]), S.vo, S.bd, S.en⟩ := ⟨upd_same, (upd_ne np2).trans h3, (upd_ne nav).trans v3⟩
  generalize upd H3 a (.dK (mdl (.str S.st) (.ref p2) (.ref v) (bdV S.bd) S.en (.ref m))) = H4 at *
  clear uk v3 o3 s13 h3
  have hsr := srt_snoc_ok ok.pr hc.2.1 hc.2.2
  have e0 : prom ms S ix ac = if half ms (srt (S.pr ++ [ix])) = true then (⟨"telling", srt (S.pr ++ [ix]), S.vo, bind S.bd ac, enOf S.en (bind S.bd ac)⟩, true) else (⟨S.st, srt (S.pr ++ [ix]), S.vo, bind S.bd ac, S.en⟩, false) := if_pos hc
  rw [e0] at q
  have st4 := g.st (K := K) e4
  have bo := bind_ok ok.bd oa
  have bo4 := ok.bd.st st4
  have ba4 := oa.st st4
  have o4 := g4.o
  refine Xk.x_cut (fun σ' H' => ∃ y, Xk.But a H H' ∧ Md H' a m p2 v ⟨S.st, srt (S.pr ++ [ix]), S.vo, bind S.bd ac, S.en⟩ ∧ σ' = [some (.ref a), some (.int ix), some (bdV ac), y]) ?_ ?_
  · have stay : bind S.bd ac = S.bd → Md H4 a m p2 v ⟨S.st, srt (S.pr ++ [ix]), S.vo, bind S.bd ac, S.en⟩ := fun z => by
      rw [z]
      exact g4
    have uk : putK (mdl (.str S.st) (.ref p2) (.ref v) (bdV S.bd) S.en (.ref m)) (Sum.inr "bound") (bdV ac) = mdl (.str S.st) (.ref p2) (.ref v) (bdV ac) S.en (.ref m) := rfl
    have take : bind S.bd ac = ac → Xk.But a H (upd H4 a (.dK (mdl (.str S.st) (.ref p2) (.ref v) (bdV ac) S.en (.ref m)))) ∧ Md (upd H4 a (.dK (mdl (.str S.st) (.ref p2) (.ref v) (bdV ac) S.en (.ref m)))) a m p2 v ⟨S.st, srt (S.pr ++ [ix]), S.vo, bind S.bd ac, S.en⟩ := fun z => by
      rw [z]
      exact ⟨Xk.but_mut e4, upd_same, (upd_ne np2).trans g4.hp, (upd_ne nav).trans g4.hv⟩
    cases ac with
    | none =>
      wtm_at "xs"
      exact ⟨_, e4, stay rfl, rfl⟩
    | some o =>
      obtain ⟨t, b, e, r, i⟩ := o
      have u1 := ba4.1
      have u2 := ba4.2.1
      cases hb : S.bd with
      | none =>
        rw [hb] at o4 stay take uk
        wtm_at "xs"
        exact ⟨_, (take rfl).1, (take rfl).2, rfl⟩
      | some o' =>
        obtain ⟨t', b', e', r', i'⟩ := o'
        rw [hb] at bo4 o4 stay take uk
        have u3 := bo4.1
        have u4 := bo4.2.1
        wtm_at "xs"
        refine Xk.x_ixT (p := t') (v := .ref b') u3 rfl ?_
        wtm_at "xs"
        refine Xk.x_ixT (p := t) (v := .ref b) u1 rfl ?_
        wtm_at "xs"
        refine Xk.x_itd (fun h6 => ?_) (fun h6 => ?_)
        · wtm_at "xs"
          exact ⟨_, (take (if_pos (.inl h6))).1, (take (if_pos (.inl h6))).2, rfl⟩
        · wtm_at "xs"
          refine Xk.x_ixT (p := t') (v := .ref b') u3 rfl ?_
          wtm_at "xs"
          refine Xk.x_ixT (p := t) (v := .ref b) u1 rfl ?_
          wtm_at "xs"
          refine Xk.x_itd (fun h7 => ?_) (fun h7 => ?_)
          · have h7' : r' = r := V.int.inj h7
            wtm_at "xs"
            refine Xk.x_ixT (p := t') (v := .ref b') u3 rfl ?_
            wtm_at "xs"
            refine Xk.x_ixT (p := t) (v := .ref b) u1 rfl ?_
            wtm_at "xs"
            refine Xk.x_itd (fun h8 => ?_) (fun h8 => ?_)
            · wtm_at "xs"
              exact ⟨_, (take (if_pos (.inr ⟨h7', h8⟩))).1, (take (if_pos (.inr ⟨h7', h8⟩))).2, rfl⟩
            · wtm_at "xs"
              exact ⟨_, e4, stay (if_neg fun z => z.elim h6 fun z => h8 z.2), rfl⟩
          · wtm_at "xs"
            exact ⟨_, e4, stay (if_neg fun z => z.elim h6 fun z => h7 (congrArg V.int z.1)), rfl⟩
  rintro σ' H5 ⟨y, e5, g5, rfl⟩
  have o5 := g5.o
  have hm5 := (g.st (K := K) e5).t _ _ hm
  refine Xk.x_cut (fun σ' H' => H5 = H' ∧ half ms (srt (S.pr ++ [ix])) = true ∧ σ' = [some (.ref a), some (.int ix), some (bdV ac), y]) ?_ ?_
  · wtm_at "xs"
    refine ⟨a, m, p2, v, _, ms, _, _, p2, rfl, g5, hm5, rfl, g5.hp, ?_⟩
    cases hh : half ms (srt (S.pr ++ [ix]))
    · rw [hh] at q
      wtm_at "xs"
      exact q H5 p2 e5 g5 (.inr fp2)
    · wtm_at "xs"
      exact ⟨rfl, rfl, rfl⟩
  rintro σ' H' ⟨rfl, hh, rfl⟩
  rw [hh] at q
  have uk : putK (mdl (.str S.st) (.ref p2) (.ref v) (bdV (bind S.bd ac)) S.en (.ref m)) (Sum.inr "stage") (.str "telling") = mdl (.str "telling") (.ref p2) (.ref v) (bdV (bind S.bd ac)) S.en (.ref m) := rfl
  wtm_at "xs"
  refine Xk.x_nocut ?_
  cases hb : bind S.bd ac with
  | none =>
    rw [hb] at q
    wtm_at "xs"
    exact q _ p2 (Xk.but_mut e5) ⟨upd_same, (upd_ne np2).trans g5.hp, (upd_ne nav).trans g5.hv⟩ (.inr fp2)
  | some o =>
    obtain ⟨t, b, e, r, i⟩ := o
    rw [hb] at q bo o5
    have e6 : Xk.But a H (upd H5 a (.dK (mdl (.str "telling") (.ref p2) (.ref v) (bdV (some (t, b, e, r, i))) S.en (.ref m)))) := Xk.but_mut e5
    have u6 := (g.st (K := K) e6).t _ _ bo.1
    have uk : putK (mdl (.str "telling") (.ref p2) (.ref v) (bdV (some (t, b, e, r, i))) S.en (.ref m)) (Sum.inr "entry") e = mdl (.str "telling") (.ref p2) (.ref v) (bdV (some (t, b, e, r, i))) e (.ref m) := rfl
    wtm_at "xs"
    refine Xk.x_ixT (p := t) (v := e) u6 rfl ?_
    wtm_at "xs"
    exact q _ p2 (Xk.but_mut e6) ⟨upd_same, (upd_ne np2).trans ((upd_ne np2).trans g5.hp), (upd_ne nav).trans ((upd_ne nav).trans g5.hv)⟩ (.inr fp2)
def sp__law_vote (K : PySem.W.Frag) : Sp := fun vs H Q _ => ∃ (a m p v : Addr) (S : Sa) (ms : List Int) (ix : Int),
  vs = [.ref a, .int ix] ∧ Md H a m p v S ∧ SqT K H m (ms.map V.int) ∧ ms.Nodup ∧ ms.length ≤ 10 ∧ SaOk K H ms S ∧
  ∀ H' v', Xk.But a H H' → Md H' a m p v' (voted ms S ix).1 → (v' = v ∨ Xk.Fr v' H) → Q (.bl (voted ms S ix).2) H'
theorem ok__law_vote (T : Txt K mg) : FnOk P w K mg base CX0 2 T.f__law_vote T.d__law_vote ["model", "index"] (sp__law_vote K) := by
  refine T.F__law_vote.ok sc__law_vote (fun vs H Q E h => ?_) (fun cdv A outer s H vs Q E hr h => ?_)
  · obtain ⟨a, m, p, v, S, ms, ix, rfl, _⟩ := h
    rfl
  obtain ⟨a, m, p, v, S, ms, ix, rfl, g, hm, hnd, hml, ok, q⟩ := h
  have o1 := g.o
  have nap := g.pa
  have nav := g.va
  refine ⟨_, (Evl.pss_cut (ps_if (PW.pt (pw_or (pt_cmpR op_ne (pe_dget (hu_of hr) (pv 0) (pe_str) (fun _ _ => rfl)) (pe_str) (nomark _)) (pw_or (pt_cmpR (Xk.k_nin (K := K) (by rfl)) (pv 1) (pe_dget (hu_of hr) (pv 0) (pe_str) (fun _ _ => rfl)) (by rfl)) (pw_or1 (pt_cmpR (Xk.k_in (K := K) (by rfl)) (pv 1) (pe_dget (hu_of hr) (pv 0) (pe_str) (fun _ _ => rfl)) (by rfl)))))) (pss_one (ps_ret (pe_bl))) pss_nil)
      (pss_cons (ps_dput (hu_of hr) (pv 0) (pe_str) (pe_callB (Xk.k_sorted (K := K) (by rfl)) (by rfl) T.m_sorted (by decide +kernel) (pa_cons (pe_op op_cat (pe_dget (hu_of hr) (pv 0) (pe_str) (fun _ _ => rfl)) (pe_lst (pa_cons (pv 1) pa_nil))) pa_nil)) rfl)
      (Evl.pss_cut (ps_if (pt_not (pt_val (pe_call (ok__law_half T) (hr.mono (by decide)) (by rfl) T.g__law_half T.F__law_half.kp T.b__law_half .nil pass0 (pa_cons (pv 0) (pa_cons (pe_str) pa_nil))))) (pss_one (ps_ret (pe_bl))) pss_nil)
      (pss_cons (ps_dput (hu_of hr) (pv 0) (pe_str) (pe_str) rfl)
      (pss_one (ps_ret (pe_bl))))))), ?_⟩
  wtm_at "x0"
  refine Xk.x_cut (fun σ' H' => H = H' ∧ (S.st = "telling" ∧ ix ∈ ms ∧ ¬ ix ∈ S.vo) ∧ σ' = [some (.ref a), some (.int ix)]) ?_ ?_
  · have no : ¬ (S.st = "telling" ∧ ix ∈ ms ∧ ¬ ix ∈ S.vo) → Q (.bl false) H := fun hn => by
      have e : voted ms S ix = (S, false) := if_neg hn
      have q2 := q H v (Xk.But.refl _ _)
      rw [e] at q2
      exact q2 g (.inl rfl)
    wtm_at "xs"
    refine Xk.x_itn (fun h4 => ?_) (fun h4 => ?_)
    · wtm_at "xs"
      exact no fun z => h4 (congrArg V.str z.1)
    · wtm_at "xs"
      refine Xk.x_niT hm rfl (Xk.flat_ints _) ?_
      rw [Xk.in_ints]
      wtm_at "xs"
      refine Xk.x_itn (fun h5 => ?_) (fun h5 => ?_)
      · wtm_at "xs"
        exact no fun z => h5 z.2.1
      · wtm_at "xs"
        refine Xk.x_inL (Xk.sq_of g.hv) rfl (Xk.flat_ints _) ?_
        rw [Xk.in_ints]
        wtm_at "xs"
        refine Xk.x_itd (fun h6 => ?_) (fun h6 => ?_)
        · wtm_at "xs"
          exact no fun z => z.2.2 h6
        · wtm_at "xs"
          exact ⟨rfl, ⟨V.str.inj h4, h5, h6⟩, rfl⟩
  rintro σ' H' ⟨rfl, hc, rfl⟩
  have hv := g.hv
  have lvo : S.vo.length ≤ 10 := by
    have h8 := half_len hnd ok.vo.1 ok.vo.2
    have h9 := List.length_filter_le (fun m => decide (m ∈ S.vo)) ms
    omega
  wtm_at "xs"
  intro l H1 hl s1 h1
  refine Xk.x_cat (by wtm_at "hx") (by wtm_at "hx") (by rw [List.length_map]; show S.vo.length + 1 ≤ _; omega) fun l2 H2 hl2 s2 h2 => ?_
  wtm_at "xs"
  refine Xk.x_sorted (ns := S.vo ++ [ix]) (by rw [List.map_append]; exact Xk.sq_of h2) (by rw [List.length_append]; show S.vo.length + 1 < 64; omega) fun v2 H3 ns' hp1 hp2 hp3 s3 h3 => ?_
  obtain rfl := srt_of hp1 hp2
  have s13 : Same H H3 := s1.trans (s2.trans s3)
  have o3 := s13 _ _ o1
  have np2 : v2 ≠ a := (Xk.ne_new hp3 ((s1.trans s2) _ _ o1)).symm
  have fp2 : Xk.Fr v2 H := Xk.free_back hp3 (s1.trans s2)
  have p3 := s13 _ _ g.hp
  clear hp1 hp2 hp3 s3 h2 hl2 s2 h1 hl s1 H1 H2
  have uk : putK (mdl (.str S.st) (.ref p) (.ref v) (bdV S.bd) S.en (.ref m)) (Sum.inr "voted") (.ref v2) = mdl (.str S.st) (.ref p) (.ref v2) (bdV S.bd) S.en (.ref m) := rfl
  wtm_at "xs"
  have e4 : Xk.But a H (upd H3 a (.dK (mdl (.str S.st) (.ref p) (.ref v2) (bdV S.bd) S.en (.ref m)))) := Xk.but_mut (Xk.but_same s13)
  have g4 : Md (upd H3 a (.dK (mdl (.str S.st) (.ref p) (.ref v2) (bdV S.bd) S.en (.ref m)))) a m p v2 ⟨S.st, S.pr, srt (S.vo ++ [ix]), S.bd, S.en⟩ := ⟨upd_same, (upd_ne nap).trans p3, (upd_ne np2).trans h3⟩
  generalize upd H3 a (.dK (mdl (.str S.st) (.ref p) (.ref v2) (bdV S.bd) S.en (.ref m))) = H4 at *
  clear uk p3 o3 s13 h3
  have e0 : voted ms S ix = if half ms (srt (S.vo ++ [ix])) = true then (⟨"won", S.pr, srt (S.vo ++ [ix]), S.bd, S.en⟩, true) else (⟨S.st, S.pr, srt (S.vo ++ [ix]), S.bd, S.en⟩, false) := if_pos hc
  rw [e0] at q
  have o4 := g4.o
  have hm4 := (g.st (K := K) e4).t _ _ hm
  refine Xk.x_cut (fun σ' H' => H4 = H' ∧ half ms (srt (S.vo ++ [ix])) = true ∧ σ' = [some (.ref a), some (.int ix)]) ?_ ?_
  · wtm_at "xs"
    refine ⟨a, m, p, v2, _, ms, _, _, v2, rfl, g4, hm4, rfl, g4.hv, ?_⟩
    cases hh : half ms (srt (S.vo ++ [ix]))
    · rw [hh] at q
      wtm_at "xs"
      exact q H4 v2 e4 g4 (.inr fp2)
    · wtm_at "xs"
      exact ⟨rfl, rfl, rfl⟩
  rintro σ' H' ⟨rfl, hh, rfl⟩
  rw [hh] at q
  have uk : putK (mdl (.str S.st) (.ref p) (.ref v2) (bdV S.bd) S.en (.ref m)) (Sum.inr "stage") (.str "won") = mdl (.str "won") (.ref p) (.ref v2) (bdV S.bd) S.en (.ref m) := rfl
  wtm_at "xs"
  exact q _ v2 (Xk.but_mut e4) ⟨upd_same, (upd_ne nap).trans g4.hp, (upd_ne np2).trans g4.hv⟩ (.inr fp2)
--CUT--
def sp__law_copy (K : PySem.W.Frag) : Sp := fun vs H Q _ => ∃ (a m p v : Addr) (S : Sa), vs = [.ref a] ∧ Md H a m p v S ∧ S.pr.length ≤ 10 ∧ S.vo.length ≤ 10 ∧ ∀ H' a' p' v', Same H H' → Md H' a' m p' v' S → Xk.Fr a' H → Xk.Fr p' H → Xk.Fr v' H → Q (.ref a') H'
theorem ok__law_copy (T : Txt K mg) : FnOk P w K mg base CX0 1 T.f__law_copy T.d__law_copy ["model"] (sp__law_copy K) := by
  refine T.F__law_copy.ok sc__law_copy (fun vs H Q E h => ?_) (fun cdv A outer s H vs Q E hr h => ?_)
  · obtain ⟨a, m, p, v, S, rfl, _⟩ := h
    rfl
  obtain ⟨a, m, p, v, S, rfl, g, l1, l2, q⟩ := h
  have o1 := g.o
  have h1 := g.hp
  have h2 := g.hv
  refine ⟨_, (pss_cons (ps_set (i := 1) sc__law_copy.nd rfl (Or.inl rfl) (pe_disp (pps_cons (pe_str) (pe_dget (hu_of hr) (pv 0) (pe_str) (fun _ _ => rfl)) (pps_cons (pe_str) (pe_callTy (Xk.k_list (K := K) (by rfl)) (by rfl) T.m_list (by decide +kernel) (pa_cons (pe_dget (hu_of hr) (pv 0) (pe_str) (fun _ _ => rfl)) pa_nil)) (pps_cons (pe_str) (pe_callTy (Xk.k_list (K := K) (by rfl)) (by rfl) T.m_list (by decide +kernel) (pa_cons (pe_dget (hu_of hr) (pv 0) (pe_str) (fun _ _ => rfl)) pa_nil)) pps_nil))) (by rfl) (by rfl) (fun z => by cases z) (by decide)))
      (pss_cons (ps_dput (hu_of hr) (pv 1) (pe_str) (pe_dget (hu_of hr) (pv 0) (pe_str) (fun _ _ => rfl)) rfl)
      (pss_cons (ps_dput (hu_of hr) (pv 1) (pe_str) (pe_dget (hu_of hr) (pv 0) (pe_str) (fun _ _ => rfl)) rfl)
      (pss_cons (ps_dput (hu_of hr) (pv 1) (pe_str) (pe_dget (hu_of hr) (pv 0) (pe_str) (fun _ _ => rfl)) rfl)
      (pss_one (ps_ret (pv 1))))))), ?_⟩
  wtm_at "x0"
  wtm_at "xs"
  refine Xk.x_disp fun x hx => ?_
  have nxa : a ≠ x := Xk.ne_new hx o1
  have nxp : p ≠ x := Xk.ne_new hx h1
  have nxv : v ≠ x := Xk.ne_new hx h2
  wtm_at "xs"
  intro l H1 hl s1 h3
  have nxl : x ≠ l := Xk.ne_new hl upd_same
  have a1 := s1 _ _ ((upd_ne nxa).trans o1)
  have v1 := s1 _ _ ((upd_ne nxv).trans h2)
  have x1 := s1 _ _ (show upd H x (.dK []) x = _ from upd_same)
  have s11 : Same H H1 := (Xk.same_fr hx).trans s1
  have f1 : Xk.Fr l H := Xk.fr_upd hl
  clear s1 hl o1 h1 h2
  wtm_at "xs"
  intro l2 H2 hl2 s2 h4
  have nxl2 : x ≠ l2 := Xk.ne_new hl2 x1
  have nll2 : l ≠ l2 := Xk.ne_new hl2 h3
  have a2 := s2 _ _ a1
  have x2 := s2 _ _ x1
  have l22 := s2 _ _ h3
  have s12 : Same H H2 := s11.trans s2
  have f2 : Xk.Fr l2 H := Xk.free_back hl2 s11
  clear s2 hl2 a1 v1 x1 h3 s11
  refine ⟨x2, [(Sum.inr "stage", .str S.st), (Sum.inr "promised", .ref l), (Sum.inr "voted", .ref l2)], rfl, Nat.le_of_ble_eq_true rfl, ?_⟩
  wtm_at "xs"
  refine q _ x l l2 (Xk.same_mut (Xk.same_mut (Xk.same_mut (Xk.same_mut s12 hx) hx) hx) hx) ⟨upd_same, ?_, ?_⟩ hx f1 f2
  · exact (upd_ne nxl.symm).trans ((upd_ne nxl.symm).trans ((upd_ne nxl.symm).trans ((upd_ne nxl.symm).trans l22)))
  · exact (upd_ne nxl2.symm).trans ((upd_ne nxl2.symm).trans ((upd_ne nxl2.symm).trans ((upd_ne nxl2.symm).trans h4)))
def sp__law_agrees (K : PySem.W.Frag) (C : Addr) : Sp := fun vs H Q _ => ∃ (a dx b0 m p v c p2 v2 : Addr) (S : Sa) (ms : List Int), vs = [.ref a, .ref c] ∧ At C H a dx b0 m p v S ∧ SqT K H b0 [.int 9, .int 1] ∧ Md H c m p2 v2 S ∧ SqT K H m (ms.map V.int) ∧ SaOk K H ms S ∧ ∀ H', Same H H' → Q (.bl true) H'
theorem ok__law_agrees (T : Txt K mg) : FnOk P w K mg base CX0 1 T.f__law_agrees T.d__law_agrees ["attempt", "model"] (sp__law_agrees K T.C_Attempt) := by
  refine T.F__law_agrees.ok sc__law_agrees (fun vs H Q E h => ?_) (fun cdv A outer s H vs Q E hr h => ?_)
  · obtain ⟨a, dx, b0, m, p, v, c, p2, v2, S, ms, rfl, _⟩ := h
    rfl
  obtain ⟨a, dx, b0, m, p, v, c, p2, v2, S, ms, rfl, g, hb0, g2, hm, ok, q⟩ := h
  have c1 := T.A_Attempt_ballot
  have c0 := T.Cls_Attempt
  have c2 := T.A_Attempt_entry
  have c3 := T.A_Attempt_members
  have c4 := T.A_Attempt_stage
  have c5 := T.A_Attempt_promised_by
  have c6 := T.A_Attempt_voted_by
  have c7 := T.A_Attempt_bound
  have o1 := g.o
  have o2 := g2.o
  refine ⟨_, (Evl.pss_cut (ps_if (PW.pt (pw_or (pt_cmpR (Xk.k_neD (K := K) hr.units (by rfl)) (Xk.k_fld (K := K) (by rfl) (pv 0) rfl) (pe_tup (pa_cons (pe_int) (pa_cons (pe_int) pa_nil))) (nomark _)) (pw_or (pt_cmpR (Xk.k_neD (K := K) hr.units (by rfl)) (Xk.k_fld (K := K) (by rfl) (pv 0) rfl) (pe_dget (hu_of hr) (pv 1) (pe_str) (fun _ _ => rfl)) (nomark _)) (pw_or1 (pt_cmpR op_ne (Xk.k_fld (K := K) (by rfl) (pv 0) rfl) (pe_dget (hu_of hr) (pv 1) (pe_str) (fun _ _ => rfl)) (nomark _)))))) (pss_one (ps_ret (pe_bl))) pss_nil)
      (Evl.pss_cut (ps_if (PW.pt (pw_or (pt_cmpR (Xk.k_neD (K := K) hr.units (by rfl)) (Xk.k_fld (K := K) (by rfl) (pv 0) rfl) (pe_dget (hu_of hr) (pv 1) (pe_str) (fun _ _ => rfl)) (nomark _)) (pw_or1 (pt_cmpR (Xk.k_neD (K := K) hr.units (by rfl)) (Xk.k_fld (K := K) (by rfl) (pv 0) rfl) (pe_dget (hu_of hr) (pv 1) (pe_str) (fun _ _ => rfl)) (nomark _))))) (pss_one (ps_ret (pe_bl))) pss_nil)
      (pss_one (ps_ret ((pe_and (pe_cmpR (Xk.k_eqD (K := K) hr.units (by rfl)) (Xk.k_fld (K := K) (by rfl) (pv 0) rfl) (pe_dget (hu_of hr) (pv 1) (pe_str) (fun _ _ => rfl)) (nomark _)) (pe_one (pe_cmpR (Xk.k_eqD (K := K) hr.units (by rfl)) (Xk.k_fld (K := K) (by rfl) (pv 0) rfl) (pe_dget (hu_of hr) (pv 1) (pe_str) (fun _ _ => rfl)) (nomark _))))))))), ?_⟩
  wtm_at "x0"
  refine Xk.x_cut (fun σ' H' => Same H H' ∧ σ' = [some (.ref a), some (.ref c)]) ?_ ?_
  · wtm_at "xs"
    intro t H1 ht s1 h1
    refine Xk.x_neTInts (ns := [9, 1]) (ms := [9, 1]) (Xk.st_same hb0 s1) (Xk.st_of h1) ?_
    wtm_at "xs"
    have hm1 := Xk.st_same hm s1
    refine Xk.x_neTInts hm1 hm1 ?_
    wtm_at "xs"
    exact ⟨s1, rfl⟩
  rintro σ' H1 ⟨s1, rfl⟩
  have j1 := s1 _ _ o1
  have j2 := s1 _ _ o2
  have j3 := s1 _ _ g.hp
  have j4 := s1 _ _ g2.hp
  have j5 := s1 _ _ g.hv
  have j6 := s1 _ _ g2.hv
  refine Xk.x_cut (fun σ' H' => H1 = H' ∧ σ' = [some (.ref a), some (.ref c)]) ?_ ?_
  · wtm_at "xs"
    refine Xk.x_neInts (Xk.sq_of j3) (Xk.sq_of j4) ?_
    wtm_at "xs"
    refine Xk.x_neInts (Xk.sq_of j5) (Xk.sq_of j6) ?_
    wtm_at "xs"
    exact ⟨rfl, rfl⟩
  rintro σ' H' ⟨rfl, rfl⟩
  wtm_at "xs"
  have hbd : ∃ d, Xk.Pk K H1 12 (bdV S.bd) d := by
    have hb := ok.bd
    cases hz : S.bd with
    | none => exact ⟨_, Xk.pk_non⟩
    | some o =>
      obtain ⟨t, b, e, r, i⟩ := o
      rw [hz] at hb
      obtain ⟨h1, h2, d, h3⟩ := hb
      exact ⟨_, (Xk.pk_tup2 (n := 11) (Xk.st_same h1 s1) (Xk.pk_tup2 (n := 10) (Xk.st_same h2 s1) Xk.pk_int Xk.pk_int) ((h3.same s1).mono (by decide)))⟩
  obtain ⟨d, hd⟩ := hbd
  refine Xk.x_eqPk hd hd ?_
  obtain ⟨d2, hd2⟩ := ok.en
  have hd3 := hd2.same s1
  wtm_at "xs"
  exact Xk.x_eqPk hd3 hd3 (q _ s1)
--CUT--
--CUT--
theorem At.b3 {C : Addr} {H H' : Hp} {a dx b0 m p v a0 dx0 b1 m1 p0 v0 : Addr} {S S0 : Sa} (g : At C H a0 dx0 b1 m1 p0 v0 S0) (g2 : At C H a dx b0 m p v S) (e : B3 a p v H H') (h1 : a0 ≠ a) (h2 : p0 ≠ p) (h3 : p0 ≠ v) (h4 : v0 ≠ p) (h5 : v0 ≠ v) : At C H' a0 dx0 b1 m1 p0 v0 S0 := by
  have kl : ∀ x xs, H x = some (.lst xs) → x ≠ a := fun x xs hx z => by
    subst z
    rw [g2.o] at hx
    cases hx
  have ki : ∀ x, (∃ xs, H x = some (.lst xs)) → a0 ≠ x := fun x ⟨xs, hx⟩ z => by
    subst z
    rw [g.o] at hx
    cases hx
  exact ⟨e _ _ h1 (ki p ⟨_, g2.hp⟩) (ki v ⟨_, g2.hv⟩) g.o, e _ _ (kl _ _ g.hp) h2 h3 g.hp, e _ _ (kl _ _ g.hv) h4 h5 g.hv, g.n⟩
theorem Md.b3 {C : Addr} {H H' : Hp} {a dx b0 m p v a0 m1 p0 v0 : Addr} {S S0 : Sa} (g : Md H a0 m1 p0 v0 S0) (g2 : At C H a dx b0 m p v S) (e : B3 a p v H H') (h2 : p0 ≠ p) (h3 : p0 ≠ v) (h4 : v0 ≠ p) (h5 : v0 ≠ v) : Md H' a0 m1 p0 v0 S0 := by
  have kl : ∀ x xs, H x = some (.lst xs) → x ≠ a := fun x xs hx z => by
    subst z
    rw [g2.o] at hx
    cases hx
  have ki : ∀ x, (∃ xs, H x = some (.lst xs)) → a0 ≠ x := fun x ⟨xs, hx⟩ z => by
    subst z
    rw [g.o] at hx
    cases hx
  have ka : a0 ≠ a := fun z => by
    subst z
    have h := g.o
    rw [g2.o] at h
    cases h
  exact ⟨e _ _ ka (ki p ⟨_, g2.hp⟩) (ki v ⟨_, g2.hv⟩) g.o, e _ _ (kl _ _ g.hp) h2 h3 g.hp, e _ _ (kl _ _ g.hv) h4 h5 g.hv⟩
theorem At.md {C : Addr} {H H' : Hp} {a dx b0 m p v c m1 p0 v0 : Addr} {S S0 : Sa} (g : At C H a dx b0 m p v S) (g2 : Md H c m1 p0 v0 S0) (e : Xk.But c H H') : At C H' a dx b0 m p v S := by
  have k : ∀ x o, H x = some o → (∀ kvs, o ≠ .dK kvs) → H' x = some o := fun x o hx ho => e x o (fun z => by
    subst z
    exact ho _ (Option.some.inj (hx.symm.trans g2.o))) hx
  exact ⟨k _ _ g.o (fun _ z => by cases z), k _ _ g.hp (fun _ z => by cases z), k _ _ g.hv (fun _ z => by cases z), g.n⟩
theorem Md.md {H H' : Hp} {a m p v c m1 p0 v0 : Addr} {S S0 : Sa} (g : Md H a m p v S) (g2 : Md H c m1 p0 v0 S0) (n : a ≠ c) (e : Xk.But c H H') : Md H' a m p v S := by
  have k : ∀ x o, H x = some o → (∀ kvs, o ≠ .dK kvs) → H' x = some o := fun x o hx ho => e x o (fun z => by
    subst z
    exact ho _ (Option.some.inj (hx.symm.trans g2.o))) hx
  exact ⟨e _ _ n g.o, k _ _ g.hp (fun _ z => by cases z), k _ _ g.hv (fun _ z => by cases z)⟩
theorem lens {H : Hp} {ms : List Int} {S : Sa} (ok : SaOk K H ms S) (hnd : ms.Nodup) (hml : ms.length ≤ 10) : S.pr.length ≤ 10 ∧ S.vo.length ≤ 10 := by
  have h8 := half_len hnd ok.pr.1 ok.pr.2
  have h9 := List.length_filter_le (fun m => decide (m ∈ S.pr)) ms
  have h10 := half_len hnd ok.vo.1 ok.vo.2
  have h11 := List.length_filter_le (fun m => decide (m ∈ S.vo)) ms
  omega
theorem At.box {C : Addr} {H : Hp} {a dx b0 m p v b : Addr} {S : Sa} {xs : List V} {o : HO} (g : At C H a dx b0 m p v S) (hb : H b = some (.lst xs)) (h1 : p ≠ b) (h2 : v ≠ b) : At C (upd H b o) a dx b0 m p v S := by
  have h3 : a ≠ b := fun z => by
    subst z
    rw [g.o] at hb
    cases hb
  exact ⟨(upd_ne h3).trans g.o, (upd_ne h1).trans g.hp, (upd_ne h2).trans g.hv, g.n⟩
theorem Md.box {H : Hp} {a m p v b : Addr} {S : Sa} {xs : List V} {o : HO} (g : Md H a m p v S) (hb : H b = some (.lst xs)) (h1 : p ≠ b) (h2 : v ≠ b) : Md (upd H b o) a m p v S := by
  have h3 : a ≠ b := fun z => by
    subst z
    rw [g.o] at hb
    cases hb
  exact ⟨(upd_ne h3).trans g.o, (upd_ne h1).trans g.hp, (upd_ne h2).trans g.hv⟩
theorem b3_same {H H' H0 : Hp} {a p v : Addr} (e : B3 a p v H H') (s : Same H0 H) (h1 : Xk.Fr a H0) (h2 : Xk.Fr p H0) (h3 : Xk.Fr v H0) : Same H0 H' := fun x o h => e x o (ne_of_none h h1.is) (ne_of_none h h2.is) (ne_of_none h h3.is) (s x o h)
--CUT--
def sp_law (K : PySem.W.Frag) : Sp := fun vs H Q _ => ∃ (a : Addr) (ns : List Int), vs = [.ref a] ∧ SqL K H a (ns.map V.int) ∧ ns.length ≤ 63 ∧ ∀ H', Q (.bl true) H'
theorem ok_law (T : Txt K mg) : FnOk P w K mg base CX0 4 T.f_law T.d_law ["script"] (sp_law K) := by
  refine T.F_law.ok sc_law (fun vs H Q E h => ?_) (fun cdv A outer s H vs Q E hr h => ?_)
  · obtain ⟨a, ns, rfl, _⟩ := h
    rfl
  obtain ⟨a, ns, rfl, hS, hl, q⟩ := h
  refine ⟨_, (pss_cons (ps_set (i := 1) sc_law.nd rfl (Or.inl rfl) (pe_lst (pa_cons (pe_call (ok__law_row T) (hr.mono (by decide)) (by rfl) T.g__law_row T.F__law_row.kp T.b__law_row .nil pass0 (pa_cons (pv 0) (pa_cons (pe_int) pa_nil))) pa_nil)))
      (pss_cons (ps_set (i := 2) sc_law.nd rfl (Or.inl rfl) (pe_call (ok__law_members T) (hr.mono (by decide)) (by rfl) T.g__law_members T.F__law_members.kp T.b__law_members .nil pass0 (pa_cons (pv 1) (pa_cons (pe_int) pa_nil))))
      (pss_cons (ps_set (i := 3) sc_law.nd rfl (Or.inl rfl) (pe_make T.Mk_Attempt (ok_Attempt___init__ T) (hr.mono (by decide)) (by rfl) T.g_Attempt T.b_Attempt___init__ .nil pass0 (pa_cons (pe_tup (pa_cons (pe_int) (pa_cons (pe_int) pa_nil))) (pa_cons (pe_str) (pa_cons (pv 2) pa_nil)))))
      (pss_cons (ps_set (i := 4) sc_law.nd rfl (Or.inl rfl) (pe_call (ok__law_new T) (hr.mono (by decide)) (by rfl) T.g__law_new T.F__law_new.kp T.b__law_new .nil pass0 (pa_cons (pv 2) pa_nil)))
      (Evl.pss_cut (ps_if (pt_not (pt_val (pe_call (ok__law_agrees T) (hr.mono (by decide)) (by rfl) T.g__law_agrees T.F__law_agrees.kp T.b__law_agrees .nil pass0 (pa_cons (pv 3) (pa_cons (pv 4) pa_nil))))) (pss_one (ps_ret (pe_bl))) pss_nil)
      (pss_cons (ps_set (i := 5) sc_law.nd rfl (Or.inl rfl) (pe_call (ok__law_take T) (hr.mono (by decide)) (by rfl) T.g__law_take T.F__law_take.kp T.b__law_take .nil pass0 (pa_cons (pv 1) (pa_cons (pe_int) pa_nil))))
      (pss_cons (ps_for PassesOwn.never rfl (pi_range1 (by rfl) T.m_range (pa_cons (pe_int) pa_nil)) (pg_name (i := 6) sc_law.nd rfl (Or.inl rfl)) (pss_cons (ps_set (i := 1) sc_law.nd rfl (Or.inl rfl) (pe_lst (pa_cons (pe_call (ok__law_row T) (hr.mono (by decide)) (by rfl) T.g__law_row T.F__law_row.kp T.b__law_row .nil pass0 (pa_cons (pv 0) (pa_cons (pe_op op_add (pe_int) (pv 6)) pa_nil))) pa_nil)))
      (pss_cons (ps_set (i := 7) sc_law.nd rfl (Or.inl rfl) (pe_ix (Xk.k_ixT (K := K) (by rfl)) (pv 2) (pe_call (ok__law_take T) (hr.mono (by decide)) (by rfl) T.g__law_take T.F__law_take.kp T.b__law_take .nil pass0 (pa_cons (pv 1) (pa_cons (pe_callB (Xk.k_len (K := K) (by rfl)) (by rfl) T.m_len PySem.boot_len (pa_cons (pv 2) pa_nil)) pa_nil))) (fun _ _ => rfl)))
      (Evl.pss_cut (ps_if (pt_cmpR op_eq (pe_call (ok__law_take T) (hr.mono (by decide)) (by rfl) T.g__law_take T.F__law_take.kp T.b__law_take .nil pass0 (pa_cons (pv 1) (pa_cons (pe_int) pa_nil))) (pe_int) (nomark _)) (pss_one (ps_set (i := 7) sc_law.nd rfl (Or.inl rfl) (pe_call (ok__law_take T) (hr.mono (by decide)) (by rfl) T.g__law_take T.F__law_take.kp T.b__law_take .nil pass0 (pa_cons (pv 1) (pa_cons (pe_int) pa_nil))))) pss_nil)
      (pss_cons (ps_set (i := 8) sc_law.nd rfl (Or.inl rfl) (pe_tup (pa_cons (pe_op op_add (pe_int) (pe_call (ok__law_take T) (hr.mono (by decide)) (by rfl) T.g__law_take T.F__law_take.kp T.b__law_take .nil pass0 (pa_cons (pv 1) (pa_cons (pe_int) pa_nil)))) (pa_cons (pe_call (ok__law_take T) (hr.mono (by decide)) (by rfl) T.g__law_take T.F__law_take.kp T.b__law_take .nil pass0 (pa_cons (pv 1) (pa_cons (pe_int) pa_nil))) pa_nil))))
      (pss_cons (ps_set (i := 9) sc_law.nd rfl (Or.inl rfl) (pe_ix (Xk.k_ixL (K := K) (by rfl)) (pe_lst (pa_cons (pe_non) (pa_cons (pe_tup (pa_cons (pv 8) (pa_cons (pe_call (ok__law_entry T) (hr.mono (by decide)) (by rfl) T.g__law_entry T.F__law_entry.kp T.b__law_entry .nil pass0 (pa_cons (pv 8) pa_nil)) pa_nil))) pa_nil))) (pe_call (ok__law_take T) (hr.mono (by decide)) (by rfl) T.g__law_take T.F__law_take.kp T.b__law_take .nil pass0 (pa_cons (pv 1) (pa_cons (pe_int) pa_nil))) (fun _ _ => rfl)))
      (pss_cons (ps_set (i := 10) sc_law.nd rfl (Or.inl rfl) (pe_non))
      (pss_cons (ps_set (i := 11) sc_law.nd rfl (Or.inl rfl) (pe_call (ok__law_copy T) (hr.mono (by decide)) (by rfl) T.g__law_copy T.F__law_copy.kp T.b__law_copy .nil pass0 (pa_cons (pv 4) pa_nil)))
      (Evl.pss_cut (ps_if (pt_cmpR op_eq (pv 6) (pv 5) (nomark _)) (pss_cons (ps_set (i := 10) sc_law.nd rfl (Or.inl rfl) (pv 3))
      (pss_one (ps_set (i := 3) sc_law.nd rfl (Or.inl rfl) (pe_meth0 (pv 10) T.Cls_Attempt T.M_Attempt_fork (ok_Attempt_fork T) (hr.mono (by decide)) T.b_Attempt_fork .nil pass0)))) pss_nil)
      (Evl.pss_cut (ps_if (pt_cmpR op_eq (pe_call (ok__law_take T) (hr.mono (by decide)) (by rfl) T.g__law_take T.F__law_take.kp T.b__law_take .nil pass0 (pa_cons (pv 1) (pa_cons (pe_int) pa_nil))) (pe_int) (nomark _)) (pss_cons (ps_set (i := 12) sc_law.nd rfl (Or.inl rfl) (pe_meth (pv 3) T.Cls_Attempt T.M_Attempt_hear_promise (ok_Attempt_hear_promise T) (hr.mono (by decide)) T.b_Attempt_hear_promise .nil pass0 (pa_cons (pv 7) (pa_cons (pv 9) pa_nil))))
      (pss_one (ps_set (i := 13) sc_law.nd rfl (Or.inl rfl) (pe_call (ok__law_promise T) (hr.mono (by decide)) (by rfl) T.g__law_promise T.F__law_promise.kp T.b__law_promise .nil pass0 (pa_cons (pv 4) (pa_cons (pv 7) (pa_cons (pv 9) pa_nil))))))) (pss_cons (ps_set (i := 12) sc_law.nd rfl (Or.inl rfl) (pe_meth (pv 3) T.Cls_Attempt T.M_Attempt_hear_vote (ok_Attempt_hear_vote T) (hr.mono (by decide)) T.b_Attempt_hear_vote .nil pass0 (pa_cons (pv 7) pa_nil)))
      (pss_one (ps_set (i := 13) sc_law.nd rfl (Or.inl rfl) (pe_call (ok__law_vote T) (hr.mono (by decide)) (by rfl) T.g__law_vote T.F__law_vote.kp T.b__law_vote .nil pass0 (pa_cons (pv 4) (pa_cons (pv 7) pa_nil)))))))
      (Evl.pss_cut (ps_if (PW.pt (pw_or (pt_not (pt_val (pe_callB (Xk.k_isi (K := K) (by rfl)) (by rfl) T.m_isinstance (by decide +kernel) (pa_cons (pv 12) (pa_cons (pe_bltn (v := .ty "bool") (u := .type "bool") (by rfl) T.m_bool (by decide +kernel) Xk.rel_ty) pa_nil))))) (pw_or (pt_cmpR op_ne (pv 12) (pv 13) (nomark _)) (pw_or1 (pt_not (pt_val (pe_call (ok__law_agrees T) (hr.mono (by decide)) (by rfl) T.g__law_agrees T.F__law_agrees.kp T.b__law_agrees .nil pass0 (pa_cons (pv 3) (pa_cons (pv 4) pa_nil))))))))) (pss_one (ps_ret (pe_bl))) pss_nil)
      (pss_one (ps_if (PW.pt (pw_and (pt_cmpR Xk.op_nNotN (pv 10) (pe_non) (nomark _)) (pw_and1 (pt_not (pt_val (pe_call (ok__law_agrees T) (hr.mono (by decide)) (by rfl) T.g__law_agrees T.F__law_agrees.kp T.b__law_agrees .nil pass0 (pa_cons (pv 10) (pa_cons (pv 11) pa_nil)))))))) (pss_one (ps_ret (pe_bl))) pss_nil)))))))))))))
      (pss_one (ps_ret (pe_bl)))))))))), ?_⟩
  wtm_at "x0"
  wtm_at "xs"
  refine ⟨_, _, ns, rfl, hS, hl, by omega, by omega, fun n hn => ?_⟩
  wtm_at "xs"
  intro b H1 hb s1 h1
  wtm_at "xs"
  refine ⟨_, 7, n, rfl, h1, by decide, by decide, fun m H2 ms n2 hm b2 h2 h3 hml hml1 hnd => ?_⟩
  have s2 : Same H H2 := Xk.same_but b2 hb s1
  wtm_at "xs"
  intro b0 H3 hb0 s3 h4
  have s3' := s2.trans s3
  have h5 := s3 _ _ h2
  have h6 := s3 _ _ h3
  wtm_at "xs"
  refine Xk.x_rMake fun at1 dx H4 hat hdx hn1 s4 h7 h8 => ?_
  refine ⟨at1, dx, b0, .str "wish", m, rfl, h8, fun H5 p v hp hv b5 g5 => ⟨rfl, ?_⟩⟩
  have s5 : Same H3 H5 := Xk.same_but b5 hat s4
  have h9 := s5 _ _ h4
  have h10 := s5 _ _ h5
  have h11 := s5 _ _ h6
  have s05 := s3'.trans s5
  have fat : Xk.Fr at1 H := Xk.free_back hat s3'
  have fp : Xk.Fr p H := Xk.free_back hp (s3'.trans s4)
  have fv : Xk.Fr v H := Xk.free_back hv (s3'.trans s4)
  clear b5 h8 h7 s4 hdx hat hp hv hn1 h6 h5 h4 s3 s3' hb0 s2 h3 h2 b2 h1 s1 hm s5
  wtm_at "xs"
  refine ⟨m, rfl, fun H6 md p2 v2 hmd hp2 hv2 s6 g6 => ?_⟩
  have d1 : p2 ≠ p := (Xk.ne_new hp2 g5.hp).symm
  have d2 : p2 ≠ v := (Xk.ne_new hp2 g5.hv).symm
  have d3 : v2 ≠ p := (Xk.ne_new hv2 g5.hp).symm
  have d4 : v2 ≠ v := (Xk.ne_new hv2 g5.hv).symm
  have g56 := g5.same s6
  have h12 := s6 _ _ h9
  have h13 := s6 _ _ h10
  have h14 := s6 _ _ h11
  have s06 := s05.trans s6
  have fmd : Xk.Fr md H := Xk.free_back hmd s05
  have ok6 : SaOk K H6 ms ⟨"asking", [], [], none, .str "wish"⟩ := ⟨⟨.nil, fun x hx => by cases hx⟩, ⟨.nil, fun x hx => by cases hx⟩, trivial, ⟨_, Xk.pk_str⟩, .inl rfl⟩
  clear g5 s05 h9 h10 h11 s6 hmd hp2 hv2
  refine Xk.x_cut (fun σ' H' => Same H6 H' ∧ σ' = [some (.ref a), some (.ref b), some (.ref m), some (.ref at1), some (.ref md), none, none, none, none, none, none, none, none, none]) ?_ ?_
  · wtm_at "xs"
    refine ⟨at1, dx, b0, m, p, v, md, p2, v2, _, ms, rfl, g56, Xk.st_of h12, g6, Xk.st_of h14, ok6, fun H7 s7 => ?_⟩
    wtm_at "xs"
    exact ⟨s7, rfl⟩
  rintro σ' H7 ⟨s7, rfl⟩
  have s07 := s06.trans s7
  have h15 := s7 _ _ h13
  wtm_at "xs"
  refine ⟨_, 30, n2, rfl, h15, by decide, by decide, fun e1 e2 => ?_⟩
  have fb : Xk.Fr b H := hb
  have s08 : Same H (upd H7 b (.lst [.int (n2 / 30)])) := Xk.same_mut s07 fb
  have nb : ∀ x o, H7 x = some o → o ≠ .lst [.int n2] → upd H7 b (.lst [.int (n2 / 30)]) x = some o := fun x o hx ho => (upd_ne fun z => by
    subst z
    exact ho (Option.some.inj (hx.symm.trans h15))).trans hx
  have g57 := g56.same s7
  have g67 := g6.same s7
  have g58 : At T.C_Attempt (upd H7 b (.lst [.int (n2 / 30)])) at1 dx b0 m p v _ := ⟨nb _ _ g57.o fun z => (by cases z), nb _ _ g57.hp fun z => (by cases z), nb _ _ g57.hv fun z => (by cases z), g57.n⟩
  have g68 : Md (upd H7 b (.lst [.int (n2 / 30)])) md m p2 v2 _ := ⟨nb _ _ g67.o fun z => (by cases z), nb _ _ g67.hp fun z => (by cases z), nb _ _ g67.hv fun z => (by cases z)⟩
  have ok8 : SaOk K (upd H7 b (.lst [.int (n2 / 30)])) ms _ := (ok6.keep (Xk.tt_same s7)).keep (Xk.tt_mutL h15)
  have h16 := nb _ _ (s7 _ _ h12) fun z => (by cases z)
  have h17 := nb _ _ (s7 _ _ h14) fun z => (by cases z)
  generalize upd H7 b (.lst [.int (n2 / 30)]) = H8 at *
  generalize n2 % 30 = early at *
  clear nb g57 g67 h15 s07 s7 ok6 h14 h13 h12 g56 g6 s06
  wtm_at "xs"
  refine Xk.x_range (fun k σ' H' => ∃ at1 dx p v md p2 v2 S x1 x7 x8 x9 x10 x11 x12 x13 x6, σ' = [some (.ref a), x1, some (.ref m), some (.ref at1), some (.ref md), some (.int early), x6, x7, x8, x9, x10, x11, x12, x13] ∧
    Same H H' ∧ Xk.Fr at1 H ∧ Xk.Fr p H ∧ Xk.Fr v H ∧ Xk.Fr md H ∧ At T.C_Attempt H' at1 dx b0 m p v S ∧ Md H' md m p2 v2 S ∧ SaOk K H' ms S ∧ SqT K H' b0 [.int 9, .int 1] ∧ SqT K H' m (ms.map V.int) ∧ p2 ≠ p ∧ p2 ≠ v ∧ v2 ≠ p ∧ v2 ≠ v)
    ⟨by omega, by omega⟩ ⟨at1, dx, p, v, md, p2, v2, _, _, _, _, _, _, _, _, _, _, rfl, s08, fat, fp, fv, fmd, g58, g68, ok8, Xk.st_of h16, Xk.st_of h17, d1, d2, d3, d4⟩ ?_ ?_
  · clear h17 h16 ok8 g68 g58 s08 fmd fv fp fat d1 d2 d3 d4
    rintro k σ' H1 hk ⟨at1, dx, p, v, md, p2, v2, S, x1, x7, x8, x9, x10, x11, x12, x13, x6, rfl, s1, fat, fp, fv, fmd, g, gm, ok, hb0, hm, d1, d2, d3, d4⟩
    wtm_at "xs"
    refine ⟨_, _, ns, rfl, by wtm_at "sq", hl, by omega, by omega, fun n hn => ?_⟩
    wtm_at "xs"
    intro b2 H2 hb2 s2 h2
    have hm2 := Xk.st_same hm s2
    have hbH : Xk.Fr b2 H := Xk.free_back hb2 s1
    have r1 : p ≠ b2 := Xk.ne_new hb2 g.hp
    have r2 : v ≠ b2 := Xk.ne_new hb2 g.hv
    have r3 : p2 ≠ b2 := Xk.ne_new hb2 gm.hp
    have r4 : v2 ≠ b2 := Xk.ne_new hb2 gm.hv
    wtm_at "xs"
    rw [List.length_map]
    refine ⟨_, _, n, rfl, h2, by omega, by omega, fun e3 e4 => ?_⟩
    have s3 : Same H1 (upd H2 b2 (.lst [.int (n / (ms.length : Int))])) := Xk.same_mut s2 hb2
    have b3 : upd H2 b2 (.lst [.int (n / (ms.length : Int))]) b2 = _ := upd_same
    generalize upd H2 b2 (.lst [.int (n / (ms.length : Int))]) = H3 at *
    obtain ⟨j, hj⟩ := Int.eq_ofNat_of_zero_le e3
    obtain ⟨ix, hix⟩ := Xk.lt_at (xs := ms) (j := j) (by omega)
    clear hm2 h2 s2
    wtm_at "xs"
    refine Xk.x_ixT (Xk.st_same hm s3) (Xk.at_nat hj (Xk.map_at hix)) ?_
    refine Xk.x_cut (fun σ' H' => ∃ ix n', Same H1 H' ∧ H' b2 = some (.lst [.int n']) ∧ σ' = [some (.ref a), some (.ref b2), some (.ref m), some (.ref at1), some (.ref md), some (.int early), some (.int k), some (.int ix), x8, x9, x10, x11, x12, x13]) ?_ ?_
    · wtm_at "xs"
      refine ⟨_, _, _, rfl, b3, by decide, by decide, fun e5 e6 => ?_⟩
      wtm_at "xs"
      refine Xk.x_itd (fun h6 => ?_) (fun h6 => ?_)
      · wtm_at "xs"
        refine ⟨_, _, _, rfl, upd_same, by decide, by decide, fun e7 e8 => ?_⟩
        wtm_at "xs"
        exact ⟨_, _, Xk.same_mut (Xk.same_mut s3 hb2) hb2, upd_same, rfl⟩
      · wtm_at "xs"
        exact ⟨_, _, Xk.same_mut s3 hb2, upd_same, rfl⟩
    clear hix hj e3 e4 b3 s3 ix
    rintro σ' H4 ⟨ix, n4, s4, h4, rfl⟩
    wtm_at "xs"
    refine ⟨_, _, _, rfl, h4, by decide, by decide, fun e5 e6 => ?_⟩
    wtm_at "xs"
    refine ⟨_, _, _, rfl, upd_same, by decide, by decide, fun e7 e8 => ?_⟩
    have s5 := Xk.same_mut (o := .lst [.int (n4 / 4 / 4)]) (Xk.same_mut (o := .lst [.int (n4 / 4)]) s4 hb2) hb2
    have h5 : upd (upd H4 b2 (.lst [.int (n4 / 4)])) b2 (.lst [.int (n4 / 4 / 4)]) b2 = _ := upd_same
    generalize upd (upd H4 b2 (.lst [.int (n4 / 4)])) b2 (.lst [.int (n4 / 4 / 4)]) = H5 at *
    clear h4 s4
    wtm_at "xs"
    intro bl H6 hbl s6 h6
    wtm_at "xs"
    refine ⟨bl, _, _, rfl, Xk.st_of h6, by omega, by omega, fun H7 v3 dd3 s7 k7 => ?_⟩
    have h7 := s7 _ _ h6
    have b7 := (s6.trans s7) _ _ h5
    have s17 := s5.trans (s6.trans s7)
    clear h6 s7 s6 hbl h5 s5
    wtm_at "xs"
    intro t8 H8 ht8 s8 h8
    wtm_at "xs"
    intro t9 H9 ht9 s9 h9
    have s89 := s8.trans s9
    have h10 := s89 _ _ h7
    have b10 := s89 _ _ b7
    have h11 := s9 _ _ h8
    have k10 := k7.same s89
    have s19 := s17.trans s89
    clear s8 s9 s89 h7 b7 h8 k7 s17 ht8 ht9
    wtm_at "xs"
    refine ⟨_, _, _, rfl, b10, by decide, by decide, fun e9 e10 => ?_⟩
    have nb : ∀ x o, H9 x = some o → o ≠ .lst [.int (n4 / 4 / 4)] → upd H9 b2 (.lst [.int (n4 / 4 / 4 / 2)]) x = some o := fun x o hx ho => (upd_ne fun z => by
      subst z
      exact ho (Option.some.inj (hx.symm.trans b10))).trans hx
    have h12 := nb _ _ h10 fun z => (by cases z)
    have h13 := nb _ _ h11 fun z => (by cases z)
    have h14 := nb _ _ h9 fun z => (by cases z)
    have k11 := k10.st (Xk.tt_mutL (o := .lst [.int (n4 / 4 / 4 / 2)]) b10)
    have s110 := Xk.same_mut (o := .lst [.int (n4 / 4 / 4 / 2)]) s19 hb2
    have b11 : upd H9 b2 (.lst [.int (n4 / 4 / 4 / 2)]) b2 = _ := upd_same
    generalize upd H9 b2 (.lst [.int (n4 / 4 / 4 / 2)]) = H10 at *
    clear nb h10 h11 h9 k10 s19 b10
    obtain ⟨j, hj⟩ := Int.eq_ofNat_of_zero_le e9
    obtain ⟨vac, hvac⟩ := Xk.lt_at (xs := [V.non, V.ref t8]) (j := j) (by simp only [List.length_cons, List.length_nil]; omega)
    wtm_at "xs"
    refine Xk.x_ixL (Xk.sq_of h14) (Xk.at_nat hj hvac) ?_
    have hac : ∃ ac, vac = bdV ac ∧ BdOk K H10 ac := by
      have hm := List.mem_of_getElem? hvac
      simp only [List.mem_cons, List.not_mem_nil, or_false] at hm
      rcases hm with rfl | rfl
      · exact ⟨none, rfl, trivial⟩
      · exact ⟨some (t8, bl, v3, _, _), rfl, Xk.st_of h13, Xk.st_of h12, dd3, k11.mono (by decide)⟩
    obtain ⟨ac, rfl, oa⟩ := hac
    have g10 := g.same s110
    have gm10 := gm.same s110
    have ok10 := ok.keep (Xk.tt_same s110)
    have hm10 := Xk.st_same hm s110
    have hb10 := Xk.st_same hb0 s110
    have s010 := s1.trans s110
    generalize n4 / 4 / 4 / 2 = n5 at *
    clear h12 h13 h14 k11 hvac hj e9 e10 s110 e5 e6 e7 e8 hm hb0 ok gm g hb2 s1
    have ll := lens ok10 hnd hml
    wtm_at "xs"
    refine ⟨md, m, p2, v2, S, rfl, gm10, ll.1, ll.2, fun H11 kn pk vk s11 gk hkn hpk hvk => ?_⟩
    have g11 := g10.same s11
    have gm11 := gm10.same s11
    have ok11 := ok10.keep (Xk.tt_same s11)
    have hm11 := Xk.st_same hm10 s11
    have hb11 := Xk.st_same hb10 s11
    have oa11 := oa.st (Xk.tt_same s11)
    have s011 := s010.trans s11
    have b12 := s11 _ _ b11
    have c1 : pk ≠ p := (Xk.ne_new hpk g10.hp).symm
    have c2 : pk ≠ v := (Xk.ne_new hpk g10.hv).symm
    have c3 : vk ≠ p := (Xk.ne_new hvk g10.hp).symm
    have c4 : vk ≠ v := (Xk.ne_new hvk g10.hv).symm
    have c5 : kn ≠ md := (Xk.ne_new hkn gm10.o).symm
    have r5 : pk ≠ b2 := (Xk.ne_new hpk b11).symm
    have r6 : vk ≠ b2 := (Xk.ne_new hvk b11).symm
    clear b11 s010 hb10 hm10 ok10 gm10 g10 s11 oa hkn hpk hvk
    have o11 := g11.o
    refine Xk.x_cut (fun σ' H' => ∃ a' dx' p' v' lf, Same H11 H' ∧ At T.C_Attempt H' a' dx' b0 m p' v' S ∧ Xk.Fr a' H ∧ Xk.Fr p' H ∧ Xk.Fr v' H ∧ (p2 ≠ p' ∧ p2 ≠ v' ∧ v2 ≠ p' ∧ v2 ≠ v') ∧ (pk ≠ p' ∧ pk ≠ v' ∧ vk ≠ p' ∧ vk ≠ v') ∧ (p' ≠ b2 ∧ v' ≠ b2) ∧
      (lf = .non ∨ (lf = .ref at1 ∧ at1 ≠ a' ∧ p ≠ p' ∧ p ≠ v' ∧ v ≠ p' ∧ v ≠ v')) ∧
      σ' = [some (.ref a), some (.ref b2), some (.ref m), some (.ref a'), some (.ref md), some (.int early), some (.int k), some (.int ix), some (.ref bl), some (bdV ac), some lf, some (.ref kn), x12, x13]) ?_ ?_
    · wtm_at "xs"
      refine Xk.x_itd (fun h6 => ?_) (fun h6 => ?_)
      · wtm_at "xs"
        refine ⟨at1, dx, b0, m, p, v, S, rfl, g11, ll.1, ll.2, fun H12 f fx p' v' hf hp' hv' s12 g12 => ?_⟩
        wtm_at "xs"
        exact ⟨f, fx, p', v', _, s12, g12, Xk.free_back hf s011, Xk.free_back hp' s011, Xk.free_back hv' s011,
          ⟨Xk.ne_new hp' gm11.hp, Xk.ne_new hv' gm11.hp, Xk.ne_new hp' gm11.hv, Xk.ne_new hv' gm11.hv⟩,
          ⟨Xk.ne_new hp' gk.hp, Xk.ne_new hv' gk.hp, Xk.ne_new hp' gk.hv, Xk.ne_new hv' gk.hv⟩, ⟨(Xk.ne_new hp' b12).symm, (Xk.ne_new hv' b12).symm⟩,
          .inr ⟨rfl, Xk.ne_new hf g11.o, Xk.ne_new hp' g11.hp, Xk.ne_new hv' g11.hp, Xk.ne_new hp' g11.hv, Xk.ne_new hv' g11.hv⟩, rfl⟩
      · wtm_at "xs"
        exact ⟨at1, dx, p, v, _, Same.refl _, g11, fat, fp, fv, ⟨d1, d2, d3, d4⟩, ⟨c1, c2, c3, c4⟩, ⟨r1, r2⟩, .inl rfl, rfl⟩
    clear d1 d2 d3 d4 c1 c2 c3 c4 fat fp fv
    rintro σ' H12 ⟨a', dx', p', v', lf, s12, g12, fat, fp, fv, ⟨d1, d2, d3, d4⟩, ⟨c1, c2, c3, c4⟩, ⟨r7, r8⟩, hlf, rfl⟩
    have gm12 := gm11.same s12
    have gk12 := gk.same s12
    have ok12 := ok11.keep (Xk.tt_same s12)
    have hm12 := Xk.st_same hm11 s12
    have hb12 := Xk.st_same hb11 s12
    have oa12 := oa11.st (Xk.tt_same s12)
    have s012 := s011.trans s12
    have b13 := s12 _ _ b12
    have hl12 : lf = .non ∨ (lf = .ref at1 ∧ At T.C_Attempt H12 at1 dx b0 m p v S ∧ at1 ≠ a' ∧ p ≠ p' ∧ p ≠ v' ∧ v ≠ p' ∧ v ≠ v') := by
      rcases hlf with h | ⟨h, h2⟩
      · exact .inl h
      · exact .inr ⟨h, g11.same s12, h2⟩
    clear hlf b12 s011 oa11 hb11 hm11 ok11 gk gm11 s12 g11 o11
    refine Xk.x_cut (fun σ' H' => ∃ p3 v3 S' tl, Same H H' ∧ At T.C_Attempt H' a' dx' b0 m p' v' S' ∧ Md H' md m p3 v3 S' ∧ SaOk K H' ms S' ∧ SqT K H' b0 [.int 9, .int 1] ∧ SqT K H' m (ms.map V.int) ∧ (p3 ≠ p' ∧ p3 ≠ v' ∧ v3 ≠ p' ∧ v3 ≠ v') ∧
      Md H' kn m pk vk S ∧ SaOk K H' ms S ∧ (lf = .non ∨ (lf = .ref at1 ∧ At T.C_Attempt H' at1 dx b0 m p v S)) ∧
      σ' = [some (.ref a), some (.ref b2), some (.ref m), some (.ref a'), some (.ref md), some (.int early), some (.int k), some (.int ix), some (.ref bl), some (bdV ac), some lf, some (.ref kn), some (.bl tl), some (.bl tl)]) ?_ ?_
    · wtm_at "xs"
      refine ⟨_, _, _, rfl, b13, by decide, by decide, fun e3 e4 => ?_⟩
      have fb2 : Xk.Fr b2 H := hbH
      have g13 := g12.box (o := .lst [.int (n5 / 2)]) b13 r7 r8
      have gm13 := gm12.box (o := .lst [.int (n5 / 2)]) b13 r3 r4
      have gk13 := gk12.box (o := .lst [.int (n5 / 2)]) b13 r5 r6
      have hl13 : lf = .non ∨ (lf = .ref at1 ∧ At T.C_Attempt (upd H12 b2 (.lst [.int (n5 / 2)])) at1 dx b0 m p v S ∧ at1 ≠ a' ∧ p ≠ p' ∧ p ≠ v' ∧ v ≠ p' ∧ v ≠ v') := hl12.imp_right fun ⟨h, h2, h3⟩ => ⟨h, h2.box b13 r1 r2, h3⟩
      have t13 : Xk.St K H12 (upd H12 b2 (.lst [.int (n5 / 2)])) := Xk.tt_mutL b13
      have ok13 := ok12.keep t13
      have hm13 := t13.t _ _ hm12
      have hb13 := t13.t _ _ hb12
      have oa13 := oa12.st t13
      have s013 := Xk.same_mut (o := .lst [.int (n5 / 2)]) s012 fb2
      generalize upd H12 b2 (.lst [.int (n5 / 2)]) = H13 at *
      clear t13 b13 s012 oa12 hb12 hm12 ok12 gk12 gm12 g12 hl12
      have o13 := g13.o
      wtm_at "xs"
      refine Xk.x_itd (fun h6 => ?_) (fun h6 => ?_)
      · wtm_at "xs"
        refine ⟨a', dx', b0, m, p', v', S, ms, ix, ac, rfl, g13, hm13, hnd, hml, ok13, oa13, fun H14 b14 g14 => ?_⟩
        have t14 := g13.st (K := K) b14
        have gm14 := gm13.b3 g13 b14 d1 d2 d3 d4
        have gk14 := gk13.b3 g13 b14 c1 c2 c3 c4
        have ok14 := ok13.keep t14
        have oa14 := oa13.st t14
        have hm14 := t14.t _ _ hm13
        have s014 := b3_same b14 s013 fat fp fv
        wtm_at "xs"
        refine ⟨md, m, p2, v2, S, ms, ix, ac, rfl, gm14, hm14, hnd, hml, ok14, oa14, fun H15 p3 b15 g15 hp3 => ?_⟩
        have t15 := gm14.st (K := K) b15
        have u3 : p3 ≠ p' ∧ p3 ≠ v' := by
          rcases hp3 with rfl | hp3
          · exact ⟨d1, d2⟩
          · exact ⟨(Xk.ne_new hp3 g14.hp).symm, (Xk.ne_new hp3 g14.hv).symm⟩
        wtm_at "xs"
        refine ⟨p3, v2, _, _, Xk.same_but b15 fmd s014, g14.md gm14 b15, g15, (prom_ok ok14 oa14).keep t15, t15.t _ _ (t14.t _ _ hb13), t15.t _ _ hm14, ⟨u3.1, u3.2, d3, d4⟩, gk14.md gm14 c5 b15, ok14.keep t15, ?_, rfl⟩
        exact hl13.imp_right fun ⟨h, h2, h3, h4, h5, h6, h7⟩ => ⟨h, (h2.b3 g13 b14 h3 h4 h5 h6 h7).md gm14 b15⟩
      · wtm_at "xs"
        refine ⟨a', dx', b0, m, p', v', S, ms, ix, rfl, g13, hm13, hnd, hml, ok13, fun H14 b14 g14 => ?_⟩
        have t14 := g13.st (K := K) b14
        have gm14 := gm13.b3 g13 b14 d1 d2 d3 d4
        have gk14 := gk13.b3 g13 b14 c1 c2 c3 c4
        have ok14 := ok13.keep t14
        have hm14 := t14.t _ _ hm13
        have s014 := b3_same b14 s013 fat fp fv
        wtm_at "xs"
        refine ⟨md, m, p2, v2, S, ms, ix, rfl, gm14, hm14, hnd, hml, ok14, fun H15 v3 b15 g15 hv3 => ?_⟩
        have t15 := gm14.st (K := K) b15
        have u3 : v3 ≠ p' ∧ v3 ≠ v' := by
          rcases hv3 with rfl | hv3
          · exact ⟨d3, d4⟩
          · exact ⟨(Xk.ne_new hv3 g14.hp).symm, (Xk.ne_new hv3 g14.hv).symm⟩
        wtm_at "xs"
        refine ⟨p2, v3, _, _, Xk.same_but b15 fmd s014, g14.md gm14 b15, g15, (voted_ok ok14).keep t15, t15.t _ _ (t14.t _ _ hb13), t15.t _ _ hm14, ⟨d1, d2, u3.1, u3.2⟩, gk14.md gm14 c5 b15, ok14.keep t15, ?_, rfl⟩
        exact hl13.imp_right fun ⟨h, h2, h3, h4, h5, h6, h7⟩ => ⟨h, (h2.b3 g13 b14 h3 h4 h5 h6 h7).md gm14 b15⟩
    rintro σ' H16 ⟨p3, v3, S', tl, s16, g16, gm16, ok16, hb16, hm16, ⟨d1', d2', d3', d4'⟩, gk16, okS, hl16, rfl⟩
    refine Xk.x_cut (fun σ' H' => Same H16 H' ∧ σ' = [some (.ref a), some (.ref b2), some (.ref m), some (.ref a'), some (.ref md), some (.int early), some (.int k), some (.int ix), some (.ref bl), some (bdV ac), some lf, some (.ref kn), some (.bl tl), some (.bl tl)]) ?_ ?_
    · wtm_at "xs"
      refine ⟨a', dx', b0, m, p', v', md, p3, v3, S', ms, rfl, g16, hb16, gm16, hm16, ok16, fun H17 s17 => ?_⟩
      wtm_at "xs"
      exact ⟨s17, rfl⟩
    rintro σ' H17 ⟨s17, rfl⟩
    rcases hl16 with rfl | ⟨rfl, gl⟩
    · wtm_at "xs"
      exact ⟨a', dx', p', v', md, p3, v3, S', _, _, _, _, _, _, _, _, _, rfl, s16.trans s17, fat, fp, fv, fmd, g16.same s17, gm16.same s17, ok16.keep (Xk.tt_same s17), Xk.st_same hb16 s17, Xk.st_same hm16 s17, d1', d2', d3', d4'⟩
    · wtm_at "xs"
      refine ⟨at1, dx, b0, m, p, v, kn, pk, vk, S, ms, rfl, gl.same s17, Xk.st_same hb16 s17, gk16.same s17, Xk.st_same hm16 s17, okS.keep (Xk.tt_same s17), fun H18 s18 => ?_⟩
      wtm_at "xs"
      have ss := s17.trans s18
      exact ⟨a', dx', p', v', md, p3, v3, S', _, _, _, _, _, _, _, _, _, rfl, s16.trans ss, fat, fp, fv, fmd, g16.same ss, gm16.same ss, ok16.keep (Xk.tt_same ss), Xk.st_same hb16 ss, Xk.st_same hm16 ss, d1', d2', d3', d4'⟩
  · rintro σ' H1 ⟨at1, dx, p, v, md, p2, v2, S, x1, x7, x8, x9, x10, x11, x12, x13, x6, rfl, _⟩
    wtm_at "xs"
    exact q _
end
theorem all_mk {l : PySem.W.OpenLaw} {w : World} {K : PySem.W.Frag} {h : Heap} {mg : Str → Option Value} {fa C_Attempt f_more_than_half f_Attempt___init__ f_Attempt_hear_promise f_Attempt_hear_vote f_Attempt__is_new f_Attempt_fork f__law_row f__law_take f__law_members f__law_entry f__law_new f__law_half f__law_promise f__law_vote f__law_agrees f__law_copy f_law : Addr} (X : K.In h) (G : h.Ns mainGlobals mg) (hfa : mg "law" = some (.ref fa))
    {od_more_than_half an_more_than_half od_Attempt___init__ an_Attempt___init__ od_Attempt_hear_promise an_Attempt_hear_promise od_Attempt_hear_vote an_Attempt_hear_vote od_Attempt__is_new an_Attempt__is_new od_Attempt_fork an_Attempt_fork od__law_row an__law_row od__law_take an__law_take od__law_members an__law_members od__law_entry an__law_entry od__law_new an__law_new od__law_half an__law_half od__law_promise an__law_promise od__law_vote an__law_vote od__law_agrees an__law_agrees od__law_copy an__law_copy od_law an_law : Option Addr} {sl_more_than_half sl_Attempt___init__ sl_Attempt_hear_promise sl_Attempt_hear_vote sl_Attempt__is_new sl_Attempt_fork sl__law_row sl__law_take sl__law_members sl__law_entry sl__law_new sl__law_half sl__law_promise sl__law_vote sl__law_agrees sl__law_copy sl_law : Array (Option Value)} {oc_more_than_half kV_more_than_half dc_more_than_half pm_more_than_half cd_more_than_half ct_more_than_half oc_Attempt___init__ kV_Attempt___init__ dc_Attempt___init__ pm_Attempt___init__ cd_Attempt___init__ ct_Attempt___init__ oc_Attempt_hear_promise kV_Attempt_hear_promise dc_Attempt_hear_promise pm_Attempt_hear_promise cd_Attempt_hear_promise ct_Attempt_hear_promise oc_Attempt_hear_vote kV_Attempt_hear_vote dc_Attempt_hear_vote pm_Attempt_hear_vote cd_Attempt_hear_vote ct_Attempt_hear_vote oc_Attempt__is_new kV_Attempt__is_new dc_Attempt__is_new pm_Attempt__is_new cd_Attempt__is_new ct_Attempt__is_new oc_Attempt_fork kV_Attempt_fork dc_Attempt_fork pm_Attempt_fork cd_Attempt_fork ct_Attempt_fork oc__law_row kV__law_row dc__law_row pm__law_row cd__law_row ct__law_row oc__law_take kV__law_take dc__law_take pm__law_take cd__law_take ct__law_take oc__law_members kV__law_members dc__law_members pm__law_members cd__law_members ct__law_members oc__law_entry kV__law_entry dc__law_entry pm__law_entry cd__law_entry ct__law_entry oc__law_new kV__law_new dc__law_new pm__law_new cd__law_new ct__law_new oc__law_half kV__law_half dc__law_half pm__law_half cd__law_half ct__law_half oc__law_promise kV__law_promise dc__law_promise pm__law_promise cd__law_promise ct__law_promise oc__law_vote kV__law_vote dc__law_vote pm__law_vote cd__law_vote ct__law_vote oc__law_agrees kV__law_agrees dc__law_agrees pm__law_agrees cd__law_agrees ct__law_agrees oc__law_copy kV__law_copy dc__law_copy pm__law_copy cd__law_copy ct__law_copy oc_law kV_law dc_law pm_law cd_law ct_law : Value} {t_ASKING t_TELLING t_WON : Tok}
    (aC_Attempt : PySem.W.nsIn K mainGlobals "Attempt" = some (some (.ref C_Attempt)))
    (pg_Attempt : PySem.W.plainGet K C_Attempt Str.empty = true)
    (hd_Attempt : PySem.W.hasDictIn K C_Attempt = true)
    (po_Attempt : PySem.W.plainOver K C_Attempt = true)
    (sa_Attempt : PySem.W.findIn K (.ref C_Attempt) "__setattr__" = some (some (.builtin "object.__setattr__")))
    (mk_Attempt : PySem.W.makesIn K C_Attempt = true)
    (kc_Attempt : PySem.W.keepIn K (.ref C_Attempt) = true)
    (na_Attempt_ballot : PySem.W.findIn K (.ref C_Attempt) "ballot" = some none)
    (na_Attempt_entry : PySem.W.findIn K (.ref C_Attempt) "entry" = some none)
    (na_Attempt_members : PySem.W.findIn K (.ref C_Attempt) "members" = some none)
    (na_Attempt_stage : PySem.W.findIn K (.ref C_Attempt) "stage" = some none)
    (na_Attempt_promised_by : PySem.W.findIn K (.ref C_Attempt) "promised_by" = some none)
    (na_Attempt_voted_by : PySem.W.findIn K (.ref C_Attempt) "voted_by" = some none)
    (na_Attempt_bound : PySem.W.findIn K (.ref C_Attempt) "bound" = some none)
    (a_more_than_half : PySem.W.nsIn K mainGlobals "more_than_half" = some (some (.ref f_more_than_half)))
    (l_more_than_half : K.lookup f_more_than_half = some ⟨oc_more_than_half, od_more_than_half, .func (PySem.W.fnOf "more_than_half" "more_than_half" (defArgs s_more_than_half) (defBody s_more_than_half) (defScope s_more_than_half) .none kV_more_than_half dc_more_than_half pm_more_than_half an_more_than_half cd_more_than_half ct_more_than_half), sl_more_than_half⟩)
    (c_more_than_half : PySem.W.codeIn K cd_more_than_half "more_than_half" = true)
    (k_more_than_half : PySem.W.keepIn K (.ref f_more_than_half) = true)
    (a_Attempt___init__ : PySem.W.findIn K (.ref C_Attempt) "__init__" = some (some (.ref f_Attempt___init__)))
    (i_Attempt___init__ : PySem.W.isFn K (.ref f_Attempt___init__) = true)
    (l_Attempt___init__ : K.lookup f_Attempt___init__ = some ⟨oc_Attempt___init__, od_Attempt___init__, .func (PySem.W.fnOf "__init__" "Attempt.__init__" (defArgs s_Attempt___init__) (defBody s_Attempt___init__) (defScope s_Attempt___init__) .none kV_Attempt___init__ dc_Attempt___init__ pm_Attempt___init__ an_Attempt___init__ cd_Attempt___init__ ct_Attempt___init__), sl_Attempt___init__⟩)
    (c_Attempt___init__ : PySem.W.codeIn K cd_Attempt___init__ "Attempt.__init__" = true)
    (k_Attempt___init__ : PySem.W.keepIn K (.ref f_Attempt___init__) = true)
    (a_Attempt_hear_promise : PySem.W.findIn K (.ref C_Attempt) "hear_promise" = some (some (.ref f_Attempt_hear_promise)))
    (i_Attempt_hear_promise : PySem.W.isFn K (.ref f_Attempt_hear_promise) = true)
    (l_Attempt_hear_promise : K.lookup f_Attempt_hear_promise = some ⟨oc_Attempt_hear_promise, od_Attempt_hear_promise, .func (PySem.W.fnOf "hear_promise" "Attempt.hear_promise" (defArgs s_Attempt_hear_promise) (defBody s_Attempt_hear_promise) (defScope s_Attempt_hear_promise) .none kV_Attempt_hear_promise dc_Attempt_hear_promise pm_Attempt_hear_promise an_Attempt_hear_promise cd_Attempt_hear_promise ct_Attempt_hear_promise), sl_Attempt_hear_promise⟩)
    (c_Attempt_hear_promise : PySem.W.codeIn K cd_Attempt_hear_promise "Attempt.hear_promise" = true)
    (k_Attempt_hear_promise : PySem.W.keepIn K (.ref f_Attempt_hear_promise) = true)
    (a_Attempt_hear_vote : PySem.W.findIn K (.ref C_Attempt) "hear_vote" = some (some (.ref f_Attempt_hear_vote)))
    (i_Attempt_hear_vote : PySem.W.isFn K (.ref f_Attempt_hear_vote) = true)
    (l_Attempt_hear_vote : K.lookup f_Attempt_hear_vote = some ⟨oc_Attempt_hear_vote, od_Attempt_hear_vote, .func (PySem.W.fnOf "hear_vote" "Attempt.hear_vote" (defArgs s_Attempt_hear_vote) (defBody s_Attempt_hear_vote) (defScope s_Attempt_hear_vote) .none kV_Attempt_hear_vote dc_Attempt_hear_vote pm_Attempt_hear_vote an_Attempt_hear_vote cd_Attempt_hear_vote ct_Attempt_hear_vote), sl_Attempt_hear_vote⟩)
    (c_Attempt_hear_vote : PySem.W.codeIn K cd_Attempt_hear_vote "Attempt.hear_vote" = true)
    (k_Attempt_hear_vote : PySem.W.keepIn K (.ref f_Attempt_hear_vote) = true)
    (a_Attempt__is_new : PySem.W.findIn K (.ref C_Attempt) "_is_new" = some (some (.ref f_Attempt__is_new)))
    (i_Attempt__is_new : PySem.W.isFn K (.ref f_Attempt__is_new) = true)
    (l_Attempt__is_new : K.lookup f_Attempt__is_new = some ⟨oc_Attempt__is_new, od_Attempt__is_new, .func (PySem.W.fnOf "_is_new" "Attempt._is_new" (defArgs s_Attempt__is_new) (defBody s_Attempt__is_new) (defScope s_Attempt__is_new) .none kV_Attempt__is_new dc_Attempt__is_new pm_Attempt__is_new an_Attempt__is_new cd_Attempt__is_new ct_Attempt__is_new), sl_Attempt__is_new⟩)
    (c_Attempt__is_new : PySem.W.codeIn K cd_Attempt__is_new "Attempt._is_new" = true)
    (k_Attempt__is_new : PySem.W.keepIn K (.ref f_Attempt__is_new) = true)
    (a_Attempt_fork : PySem.W.findIn K (.ref C_Attempt) "fork" = some (some (.ref f_Attempt_fork)))
    (i_Attempt_fork : PySem.W.isFn K (.ref f_Attempt_fork) = true)
    (l_Attempt_fork : K.lookup f_Attempt_fork = some ⟨oc_Attempt_fork, od_Attempt_fork, .func (PySem.W.fnOf "fork" "Attempt.fork" (defArgs s_Attempt_fork) (defBody s_Attempt_fork) (defScope s_Attempt_fork) .none kV_Attempt_fork dc_Attempt_fork pm_Attempt_fork an_Attempt_fork cd_Attempt_fork ct_Attempt_fork), sl_Attempt_fork⟩)
    (c_Attempt_fork : PySem.W.codeIn K cd_Attempt_fork "Attempt.fork" = true)
    (k_Attempt_fork : PySem.W.keepIn K (.ref f_Attempt_fork) = true)
    (a__law_row : PySem.W.nsIn K mainGlobals "_law_row" = some (some (.ref f__law_row)))
    (l__law_row : K.lookup f__law_row = some ⟨oc__law_row, od__law_row, .func (PySem.W.fnOf "_law_row" "_law_row" (defArgs s__law_row) (defBody s__law_row) (defScope s__law_row) .none kV__law_row dc__law_row pm__law_row an__law_row cd__law_row ct__law_row), sl__law_row⟩)
    (c__law_row : PySem.W.codeIn K cd__law_row "_law_row" = true)
    (k__law_row : PySem.W.keepIn K (.ref f__law_row) = true)
    (a__law_take : PySem.W.nsIn K mainGlobals "_law_take" = some (some (.ref f__law_take)))
    (l__law_take : K.lookup f__law_take = some ⟨oc__law_take, od__law_take, .func (PySem.W.fnOf "_law_take" "_law_take" (defArgs s__law_take) (defBody s__law_take) (defScope s__law_take) .none kV__law_take dc__law_take pm__law_take an__law_take cd__law_take ct__law_take), sl__law_take⟩)
    (c__law_take : PySem.W.codeIn K cd__law_take "_law_take" = true)
    (k__law_take : PySem.W.keepIn K (.ref f__law_take) = true)
    (a__law_members : PySem.W.nsIn K mainGlobals "_law_members" = some (some (.ref f__law_members)))
    (l__law_members : K.lookup f__law_members = some ⟨oc__law_members, od__law_members, .func (PySem.W.fnOf "_law_members" "_law_members" (defArgs s__law_members) (defBody s__law_members) (defScope s__law_members) .none kV__law_members dc__law_members pm__law_members an__law_members cd__law_members ct__law_members), sl__law_members⟩)
    (c__law_members : PySem.W.codeIn K cd__law_members "_law_members" = true)
    (k__law_members : PySem.W.keepIn K (.ref f__law_members) = true)
    (a__law_entry : PySem.W.nsIn K mainGlobals "_law_entry" = some (some (.ref f__law_entry)))
    (l__law_entry : K.lookup f__law_entry = some ⟨oc__law_entry, od__law_entry, .func (PySem.W.fnOf "_law_entry" "_law_entry" (defArgs s__law_entry) (defBody s__law_entry) (defScope s__law_entry) .none kV__law_entry dc__law_entry pm__law_entry an__law_entry cd__law_entry ct__law_entry), sl__law_entry⟩)
    (c__law_entry : PySem.W.codeIn K cd__law_entry "_law_entry" = true)
    (k__law_entry : PySem.W.keepIn K (.ref f__law_entry) = true)
    (a__law_new : PySem.W.nsIn K mainGlobals "_law_new" = some (some (.ref f__law_new)))
    (l__law_new : K.lookup f__law_new = some ⟨oc__law_new, od__law_new, .func (PySem.W.fnOf "_law_new" "_law_new" (defArgs s__law_new) (defBody s__law_new) (defScope s__law_new) .none kV__law_new dc__law_new pm__law_new an__law_new cd__law_new ct__law_new), sl__law_new⟩)
    (c__law_new : PySem.W.codeIn K cd__law_new "_law_new" = true)
    (k__law_new : PySem.W.keepIn K (.ref f__law_new) = true)
    (a__law_half : PySem.W.nsIn K mainGlobals "_law_half" = some (some (.ref f__law_half)))
    (l__law_half : K.lookup f__law_half = some ⟨oc__law_half, od__law_half, .func (PySem.W.fnOf "_law_half" "_law_half" (defArgs s__law_half) (defBody s__law_half) (defScope s__law_half) .none kV__law_half dc__law_half pm__law_half an__law_half cd__law_half ct__law_half), sl__law_half⟩)
    (c__law_half : PySem.W.codeIn K cd__law_half "_law_half" = true)
    (k__law_half : PySem.W.keepIn K (.ref f__law_half) = true)
    (a__law_promise : PySem.W.nsIn K mainGlobals "_law_promise" = some (some (.ref f__law_promise)))
    (l__law_promise : K.lookup f__law_promise = some ⟨oc__law_promise, od__law_promise, .func (PySem.W.fnOf "_law_promise" "_law_promise" (defArgs s__law_promise) (defBody s__law_promise) (defScope s__law_promise) .none kV__law_promise dc__law_promise pm__law_promise an__law_promise cd__law_promise ct__law_promise), sl__law_promise⟩)
    (c__law_promise : PySem.W.codeIn K cd__law_promise "_law_promise" = true)
    (k__law_promise : PySem.W.keepIn K (.ref f__law_promise) = true)
    (a__law_vote : PySem.W.nsIn K mainGlobals "_law_vote" = some (some (.ref f__law_vote)))
    (l__law_vote : K.lookup f__law_vote = some ⟨oc__law_vote, od__law_vote, .func (PySem.W.fnOf "_law_vote" "_law_vote" (defArgs s__law_vote) (defBody s__law_vote) (defScope s__law_vote) .none kV__law_vote dc__law_vote pm__law_vote an__law_vote cd__law_vote ct__law_vote), sl__law_vote⟩)
    (c__law_vote : PySem.W.codeIn K cd__law_vote "_law_vote" = true)
    (k__law_vote : PySem.W.keepIn K (.ref f__law_vote) = true)
    (a__law_agrees : PySem.W.nsIn K mainGlobals "_law_agrees" = some (some (.ref f__law_agrees)))
    (l__law_agrees : K.lookup f__law_agrees = some ⟨oc__law_agrees, od__law_agrees, .func (PySem.W.fnOf "_law_agrees" "_law_agrees" (defArgs s__law_agrees) (defBody s__law_agrees) (defScope s__law_agrees) .none kV__law_agrees dc__law_agrees pm__law_agrees an__law_agrees cd__law_agrees ct__law_agrees), sl__law_agrees⟩)
    (c__law_agrees : PySem.W.codeIn K cd__law_agrees "_law_agrees" = true)
    (k__law_agrees : PySem.W.keepIn K (.ref f__law_agrees) = true)
    (a__law_copy : PySem.W.nsIn K mainGlobals "_law_copy" = some (some (.ref f__law_copy)))
    (l__law_copy : K.lookup f__law_copy = some ⟨oc__law_copy, od__law_copy, .func (PySem.W.fnOf "_law_copy" "_law_copy" (defArgs s__law_copy) (defBody s__law_copy) (defScope s__law_copy) .none kV__law_copy dc__law_copy pm__law_copy an__law_copy cd__law_copy ct__law_copy), sl__law_copy⟩)
    (c__law_copy : PySem.W.codeIn K cd__law_copy "_law_copy" = true)
    (k__law_copy : PySem.W.keepIn K (.ref f__law_copy) = true)
    (a_law : PySem.W.nsIn K mainGlobals "law" = some (some (.ref f_law)))
    (l_law : K.lookup f_law = some ⟨oc_law, od_law, .func (PySem.W.fnOf "law" "law" (defArgs s_law) (defBody s_law) (defScope s_law) .none kV_law dc_law pm_law an_law cd_law ct_law), sl_law⟩)
    (c_law : PySem.W.codeIn K cd_law "law" = true)
    (k_law : PySem.W.keepIn K (.ref f_law) = true)
    (z_ASKING : PySem.W.nsIn K mainGlobals "ASKING" = some (some (.str "asking" t_ASKING)))
    (z_TELLING : PySem.W.nsIn K mainGlobals "TELLING" = some (some (.str "telling" t_TELLING)))
    (z_WON : PySem.W.nsIn K mainGlobals "WON" = some (some (.str "won" t_WON)))
    (z_bool : PySem.W.nsIn K mainGlobals "bool" = some none)
    (z_int : PySem.W.nsIn K mainGlobals "int" = some none)
    (z_isinstance : PySem.W.nsIn K mainGlobals "isinstance" = some none)
    (z_len : PySem.W.nsIn K mainGlobals "len" = some none)
    (z_list : PySem.W.nsIn K mainGlobals "list" = some none)
    (z_range : PySem.W.nsIn K mainGlobals "range" = some none)
    (z_sorted : PySem.W.nsIn K mainGlobals "sorted" = some none)
    (z_tuple : PySem.W.nsIn K mainGlobals "tuple" = some none)
    : ∃ fd : FuncData, (∀ (s : Shared) (v : Value), BindsTo s fd ⟨[v], []⟩ [("script", v)]) ∧ ∀ base : Heap, K.In base → base.Ns mainGlobals mg → FnOk l.prog w K mg base CX0 4 fa fd ["script"] (sp_law K) := by
  have e := hfa.symm.trans (PySem.W.mg_of X G a_law)
  cases e
  have F_more_than_half := fun_mk (st := s_more_than_half) l_more_than_half c_more_than_half k_more_than_half
  have b_more_than_half := F_more_than_half.binds (ps := ["members", "indexes"]) fun _ _ _ _ _ _ us hl => match us, hl with | [_, _], _ => rfl
  have F_Attempt___init__ := fun_mk (st := s_Attempt___init__) l_Attempt___init__ c_Attempt___init__ k_Attempt___init__
  have b_Attempt___init__ := F_Attempt___init__.binds (ps := ["self", "ballot", "entry", "members"]) fun _ _ _ _ _ _ us hl => match us, hl with | [_, _, _, _], _ => rfl
  have F_Attempt_hear_promise := fun_mk (st := s_Attempt_hear_promise) l_Attempt_hear_promise c_Attempt_hear_promise k_Attempt_hear_promise
  have b_Attempt_hear_promise := F_Attempt_hear_promise.binds (ps := ["self", "index", "accepted"]) fun _ _ _ _ _ _ us hl => match us, hl with | [_, _, _], _ => rfl
  have F_Attempt_hear_vote := fun_mk (st := s_Attempt_hear_vote) l_Attempt_hear_vote c_Attempt_hear_vote k_Attempt_hear_vote
  have b_Attempt_hear_vote := F_Attempt_hear_vote.binds (ps := ["self", "index"]) fun _ _ _ _ _ _ us hl => match us, hl with | [_, _], _ => rfl
  have F_Attempt__is_new := fun_mk (st := s_Attempt__is_new) l_Attempt__is_new c_Attempt__is_new k_Attempt__is_new
  have b_Attempt__is_new := F_Attempt__is_new.binds (ps := ["self", "index", "heard"]) fun _ _ _ _ _ _ us hl => match us, hl with | [_, _, _], _ => rfl
  have F_Attempt_fork := fun_mk (st := s_Attempt_fork) l_Attempt_fork c_Attempt_fork k_Attempt_fork
  have b_Attempt_fork := F_Attempt_fork.binds (ps := ["self"]) fun _ _ _ _ _ _ us hl => match us, hl with | [_], _ => rfl
  have F__law_row := fun_mk (st := s__law_row) l__law_row c__law_row k__law_row
  have b__law_row := F__law_row.binds (ps := ["script", "k"]) fun _ _ _ _ _ _ us hl => match us, hl with | [_, _], _ => rfl
  have F__law_take := fun_mk (st := s__law_take) l__law_take c__law_take k__law_take
  have b__law_take := F__law_take.binds (ps := ["box", "size"]) fun _ _ _ _ _ _ us hl => match us, hl with | [_, _], _ => rfl
  have F__law_members := fun_mk (st := s__law_members) l__law_members c__law_members k__law_members
  have b__law_members := F__law_members.binds (ps := ["box", "size"]) fun _ _ _ _ _ _ us hl => match us, hl with | [_, _], _ => rfl
  have F__law_entry := fun_mk (st := s__law_entry) l__law_entry c__law_entry k__law_entry
  have b__law_entry := F__law_entry.binds (ps := ["ballot"]) fun _ _ _ _ _ _ us hl => match us, hl with | [_], _ => rfl
  have F__law_new := fun_mk (st := s__law_new) l__law_new c__law_new k__law_new
  have b__law_new := F__law_new.binds (ps := ["members"]) fun _ _ _ _ _ _ us hl => match us, hl with | [_], _ => rfl
  have F__law_half := fun_mk (st := s__law_half) l__law_half c__law_half k__law_half
  have b__law_half := F__law_half.binds (ps := ["model", "name"]) fun _ _ _ _ _ _ us hl => match us, hl with | [_, _], _ => rfl
  have F__law_promise := fun_mk (st := s__law_promise) l__law_promise c__law_promise k__law_promise
  have b__law_promise := F__law_promise.binds (ps := ["model", "index", "accepted"]) fun _ _ _ _ _ _ us hl => match us, hl with | [_, _, _], _ => rfl
  have F__law_vote := fun_mk (st := s__law_vote) l__law_vote c__law_vote k__law_vote
  have b__law_vote := F__law_vote.binds (ps := ["model", "index"]) fun _ _ _ _ _ _ us hl => match us, hl with | [_, _], _ => rfl
  have F__law_agrees := fun_mk (st := s__law_agrees) l__law_agrees c__law_agrees k__law_agrees
  have b__law_agrees := F__law_agrees.binds (ps := ["attempt", "model"]) fun _ _ _ _ _ _ us hl => match us, hl with | [_, _], _ => rfl
  have F__law_copy := fun_mk (st := s__law_copy) l__law_copy c__law_copy k__law_copy
  have b__law_copy := F__law_copy.binds (ps := ["model"]) fun _ _ _ _ _ _ us hl => match us, hl with | [_], _ => rfl
  have F_law := fun_mk (st := s_law) l_law c_law k_law
  have b_law := F_law.binds (ps := ["script"]) fun _ _ _ _ _ _ us hl => match us, hl with | [_], _ => rfl
  let T : Txt K mg := ⟨C_Attempt, ⟨pg_Attempt, hd_Attempt, po_Attempt, sa_Attempt⟩, PySem.W.mg_of X G aC_Attempt, na_Attempt_ballot, na_Attempt_entry, na_Attempt_members, na_Attempt_stage, na_Attempt_promised_by, na_Attempt_voted_by, na_Attempt_bound, t_ASKING, PySem.W.mg_of X G z_ASKING, t_TELLING, PySem.W.mg_of X G z_TELLING, t_WON, PySem.W.mg_of X G z_WON, f_more_than_half, _, F_more_than_half, b_more_than_half, PySem.W.mg_of X G a_more_than_half, f_Attempt___init__, _, F_Attempt___init__, b_Attempt___init__, ⟨mk_Attempt, a_Attempt___init__, i_Attempt___init__, kc_Attempt⟩, f_Attempt_hear_promise, _, F_Attempt_hear_promise, b_Attempt_hear_promise, ⟨a_Attempt_hear_promise, i_Attempt_hear_promise, k_Attempt_hear_promise⟩, f_Attempt_hear_vote, _, F_Attempt_hear_vote, b_Attempt_hear_vote, ⟨a_Attempt_hear_vote, i_Attempt_hear_vote, k_Attempt_hear_vote⟩, f_Attempt__is_new, _, F_Attempt__is_new, b_Attempt__is_new, ⟨a_Attempt__is_new, i_Attempt__is_new, k_Attempt__is_new⟩, f_Attempt_fork, _, F_Attempt_fork, b_Attempt_fork, ⟨a_Attempt_fork, i_Attempt_fork, k_Attempt_fork⟩, f__law_row, _, F__law_row, b__law_row, PySem.W.mg_of X G a__law_row, f__law_take, _, F__law_take, b__law_take, PySem.W.mg_of X G a__law_take, f__law_members, _, F__law_members, b__law_members, PySem.W.mg_of X G a__law_members, f__law_entry, _, F__law_entry, b__law_entry, PySem.W.mg_of X G a__law_entry, f__law_new, _, F__law_new, b__law_new, PySem.W.mg_of X G a__law_new, f__law_half, _, F__law_half, b__law_half, PySem.W.mg_of X G a__law_half, f__law_promise, _, F__law_promise, b__law_promise, PySem.W.mg_of X G a__law_promise, f__law_vote, _, F__law_vote, b__law_vote, PySem.W.mg_of X G a__law_vote, f__law_agrees, _, F__law_agrees, b__law_agrees, PySem.W.mg_of X G a__law_agrees, f__law_copy, _, F__law_copy, b__law_copy, PySem.W.mg_of X G a__law_copy, fa, _, F_law, b_law, PySem.W.mg_of X G a_law, PySem.W.mg_none_of X G z_bool, PySem.W.mg_none_of X G z_int, PySem.W.mg_none_of X G z_isinstance, PySem.W.mg_none_of X G z_len, PySem.W.mg_none_of X G z_list, PySem.W.mg_none_of X G z_range, PySem.W.mg_none_of X G z_sorted, PySem.W.mg_none_of X G z_tuple⟩
  exact ⟨PySem.W.fnOf "law" "law" (defArgs s_law) (defBody s_law) (defScope s_law) .none kV_law dc_law pm_law an_law cd_law ct_law, fun s v => .of_eq rfl, fun base _ _ => ok_law T⟩
end K32
open PySem PySem.W PyProof.Rows
set_option maxRecDepth 100000 in
set_option maxHeartbeats 0 in
theorem PySem.Challenge.cw_crosskeep_k32_attempts_holds : PySem.Challenge.rw_crosskeep_k32_attempts.Holds := by
  w_on; o_law; k_head; (case hw => w_witness2)
  k_fill
  refine L2.walk_of (l := PySem.Challenge.rw_crosskeep_k32_attempts) (n := 63) (k := 4) (x := "script") (CX := fun _ => L2.CX0) (sp := fun w => K32.sp_law _) rfl (by decide) rfl ⟨rfl, by decide, by decide⟩ (fun w h Y => PySem.W.kIn_of Y) ?F (fun _ _ a ns hl _ hS => ⟨a, ns, rfl, hS, hl, fun _ => rfl⟩) (fun _ _ _ _ _ h => h)
  case F =>
    intro w mg fa h KX G hmg
    refine' K32.all_mk KX G hmg ?aC_Attempt ?pg_Attempt ?hd_Attempt ?po_Attempt ?sa_Attempt ?mk_Attempt ?kc_Attempt ?na_Attempt_ballot ?na_Attempt_entry ?na_Attempt_members ?na_Attempt_stage ?na_Attempt_promised_by ?na_Attempt_voted_by ?na_Attempt_bound ?a_more_than_half ?l_more_than_half ?c_more_than_half ?k_more_than_half ?a_Attempt___init__ ?i_Attempt___init__ ?l_Attempt___init__ ?c_Attempt___init__ ?k_Attempt___init__ ?a_Attempt_hear_promise ?i_Attempt_hear_promise ?l_Attempt_hear_promise ?c_Attempt_hear_promise ?k_Attempt_hear_promise ?a_Attempt_hear_vote ?i_Attempt_hear_vote ?l_Attempt_hear_vote ?c_Attempt_hear_vote ?k_Attempt_hear_vote ?a_Attempt__is_new ?i_Attempt__is_new ?l_Attempt__is_new ?c_Attempt__is_new ?k_Attempt__is_new ?a_Attempt_fork ?i_Attempt_fork ?l_Attempt_fork ?c_Attempt_fork ?k_Attempt_fork ?a__law_row ?l__law_row ?c__law_row ?k__law_row ?a__law_take ?l__law_take ?c__law_take ?k__law_take ?a__law_members ?l__law_members ?c__law_members ?k__law_members ?a__law_entry ?l__law_entry ?c__law_entry ?k__law_entry ?a__law_new ?l__law_new ?c__law_new ?k__law_new ?a__law_half ?l__law_half ?c__law_half ?k__law_half ?a__law_promise ?l__law_promise ?c__law_promise ?k__law_promise ?a__law_vote ?l__law_vote ?c__law_vote ?k__law_vote ?a__law_agrees ?l__law_agrees ?c__law_agrees ?k__law_agrees ?a__law_copy ?l__law_copy ?c__law_copy ?k__law_copy ?a_law ?l_law ?c_law ?k_law ?z_ASKING ?z_TELLING ?z_WON ?z_bool ?z_int ?z_isinstance ?z_len ?z_list ?z_range ?z_sorted ?z_tuple
    (case aC_Attempt => k_is)
    (case pg_Attempt => k_is)
    (case hd_Attempt => k_is)
    (case po_Attempt => k_is)
    (case sa_Attempt => k_is)
    (case mk_Attempt => k_is)
    (case kc_Attempt => k_is)
    (case na_Attempt_ballot => k_is)
    (case na_Attempt_entry => k_is)
    (case na_Attempt_members => k_is)
    (case na_Attempt_stage => k_is)
    (case na_Attempt_promised_by => k_is)
    (case na_Attempt_voted_by => k_is)
    (case na_Attempt_bound => k_is)
    (case a_more_than_half => k_is)
    (case l_more_than_half => k_is)
    (case c_more_than_half => k_is)
    (case k_more_than_half => k_is)
    (case a_Attempt___init__ => k_is)
    (case i_Attempt___init__ => k_is)
    (case l_Attempt___init__ => k_is)
    (case c_Attempt___init__ => k_is)
    (case k_Attempt___init__ => k_is)
    (case a_Attempt_hear_promise => k_is)
    (case i_Attempt_hear_promise => k_is)
    (case l_Attempt_hear_promise => k_is)
    (case c_Attempt_hear_promise => k_is)
    (case k_Attempt_hear_promise => k_is)
    (case a_Attempt_hear_vote => k_is)
    (case i_Attempt_hear_vote => k_is)
    (case l_Attempt_hear_vote => k_is)
    (case c_Attempt_hear_vote => k_is)
    (case k_Attempt_hear_vote => k_is)
    (case a_Attempt__is_new => k_is)
    (case i_Attempt__is_new => k_is)
    (case l_Attempt__is_new => k_is)
    (case c_Attempt__is_new => k_is)
    (case k_Attempt__is_new => k_is)
    (case a_Attempt_fork => k_is)
    (case i_Attempt_fork => k_is)
    (case l_Attempt_fork => k_is)
    (case c_Attempt_fork => k_is)
    (case k_Attempt_fork => k_is)
    (case a__law_row => k_is)
    (case l__law_row => k_is)
    (case c__law_row => k_is)
    (case k__law_row => k_is)
    (case a__law_take => k_is)
    (case l__law_take => k_is)
    (case c__law_take => k_is)
    (case k__law_take => k_is)
    (case a__law_members => k_is)
    (case l__law_members => k_is)
    (case c__law_members => k_is)
    (case k__law_members => k_is)
    (case a__law_entry => k_is)
    (case l__law_entry => k_is)
    (case c__law_entry => k_is)
    (case k__law_entry => k_is)
    (case a__law_new => k_is)
    (case l__law_new => k_is)
    (case c__law_new => k_is)
    (case k__law_new => k_is)
    (case a__law_half => k_is)
    (case l__law_half => k_is)
    (case c__law_half => k_is)
    (case k__law_half => k_is)
    (case a__law_promise => k_is)
    (case l__law_promise => k_is)
    (case c__law_promise => k_is)
    (case k__law_promise => k_is)
    (case a__law_vote => k_is)
    (case l__law_vote => k_is)
    (case c__law_vote => k_is)
    (case k__law_vote => k_is)
    (case a__law_agrees => k_is)
    (case l__law_agrees => k_is)
    (case c__law_agrees => k_is)
    (case k__law_agrees => k_is)
    (case a__law_copy => k_is)
    (case l__law_copy => k_is)
    (case c__law_copy => k_is)
    (case k__law_copy => k_is)
    (case a_law => k_is)
    (case l_law => k_is)
    (case c_law => k_is)
    (case k_law => k_is)
    (case z_ASKING => k_is)
    (case z_TELLING => k_is)
    (case z_WON => k_is)
    (case z_bool => k_is)
    (case z_int => k_is)
    (case z_isinstance => k_is)
    (case z_len => k_is)
    (case z_list => k_is)
    (case z_range => k_is)
    (case z_sorted => k_is)
    (case z_tuple => k_is)
#print axioms PySem.Challenge.cw_crosskeep_k32_attempts_holds

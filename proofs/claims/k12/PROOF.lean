import PyProof.Rows.All
import Wide.All
import OpenK.AllK
import Wide.FinOn
import HandS.ForMost
import HandS.TryOnly
import HandS.IsInst
import HandS.Evl
import HandS.Wide
import HandS.TupAny
import HandS.SortInts
import HandS.Style
import HandS.Strs
import HandS.SetFor
import HandS.Conv
import HandS.More
import HandS.Walk
import HandS.WideBits
import HandS.Property
import HandS.TupLe
import HandS.Defaults
import HandS.Deep
import HandS.RevRange
import PyProof.StrOps2
import HandS.TupMul
import HandS.DictComp
import KE.GoesMore
import PySem.Challenge.RW_crosskeep_k12_a_disk_is_read
set_option Elab.async false
set_option linter.all false
set_option maxRecDepth 100000
set_option maxHeartbeats 4000000

/-! ## readings, one step at a time (a layer of our own over the hand layer) -/
namespace Xk
open PySem PySem.Spec PyProof.Rows L2

section
variable {K : PySem.W.Frag} {σ : L2.St} {H H0 H1 H2 : Hp} {Q : VK} {ta tb tc te : TE} {t u : TT} {D : Ends} {tz tu tw : TS} {g : TG} {x y z v : V} {i j : Int} {b : Bool}

/-! ### values -/
theorem rel_ref {a : Addr} : RelV (.ref a) (.ref a) := rfl
theorem rel_ty {T : String} : RelV (.ty T) (.type T) := rfl
theorem rel_int {tk : Tok} : RelV (.int i) (.int i tk) := ⟨tk, rfl⟩
theorem rel_str {s : Str} {tk : Tok} : RelV (.str s) (.str s tk) := ⟨tk, rfl⟩

/-! ### heaps -/
/-- nothing stands at p -/
structure Fr (p : Addr) (H : Hp) : Prop where
  is : H p = none
theorem same_fr {p : Addr} {o : HO} (h : Fr p H) : Same H (upd H p o) := fun c x e => by
  rw [upd_ne (ne_of_none e h.is)]
  exact e
theorem same_new {p : Addr} {o : HO} (h : H p = none) : Same H (upd H p o) := fun c x e => by
  rw [upd_ne (ne_of_none e h)]
  exact e
theorem same_mut {p : Addr} {o : HO} (e : Same H H1) (h : Fr p H) : Same H (upd H1 p o) := fun c x ha => by
  rw [upd_ne (ne_of_none ha h.is)]
  exact e c x ha
theorem same_at {a : Addr} {o : HO} (e : Same H H1) (h : H a = some o) : H1 a = some o := e a o h
theorem free_back {p : Addr} (h : Fr p H1) (e : Same H H1) : Fr p H := ⟨Same.free e h.is⟩
theorem ne_new {a p : Addr} {o : HO} (h' : Fr p H) (h : H a = some o) : a ≠ p := ne_of_none h h'.is
theorem sq_of {a : Addr} {xs : List V} (h : H a = some (.lst xs)) : SqL K H a xs := Or.inl (Or.inl h)
theorem st_of {a : Addr} {xs : List V} (h : H a = some (.tup xs)) : SqT K H a xs := Or.inl (Or.inl h)
theorem sq_same {a : Addr} {xs : List V} (h : SqL K H a xs) (e : Same H H1) : SqL K H1 a xs := e.seq h
theorem st_same {a : Addr} {xs : List V} (h : SqT K H a xs) (e : Same H H1) : SqT K H1 a xs := by
  rcases h with (h | ⟨o, h⟩) | h
  · exact .inl (.inl (e _ _ h))
  · exact .inl (.inr ⟨o, e _ _ h⟩)
  · exact .inr h
theorem size_ok {n : Nat} (h : n ≤ 100000) : n ≤ sizeLine := Nat.le_trans h (by decide)
theorem size_lt {n : Nat} (h : n < 100000) : n < sizeLine := Nat.lt_of_lt_of_le h (by decide)

/-- all that was tracked but at p is as it was -/
def But (p : Addr) (H H' : Hp) : Prop := ∀ b o, b ≠ p → H b = some o → H' b = some o
theorem But.refl (p : Addr) (H : Hp) : But p H H := fun _ _ _ h => h
theorem but_same {p : Addr} (e : Same H H1) : But p H H1 := fun b o _ h => e b o h
theorem but_trans {p : Addr} (e : But p H H1) (e' : But p H1 H2) : But p H H2 := fun b o n h => e' b o n (e b o n h)
theorem but_mut {p : Addr} {o : HO} (e : But p H H1) : But p H (upd H1 p o) := fun b u n h => by
  rw [upd_ne n]
  exact e b u n h
theorem but_new {p q : Addr} {o : HO} (e : But p H H1) (h : Fr q H) : But p H (upd H1 q o) := fun b u n g => by
  rw [upd_ne (ne_of_none g h.is)]
  exact e b u n g
theorem but_at {p a : Addr} {o : HO} (e : But p H H1) (n : a ≠ p) (h : H a = some o) : H1 a = some o := e a o n h
theorem none_but {p a : Addr} {o u : HO} (h : H p = some o) (e : But p H H1) (h1 : H1 p = some u) (ha : Fr a H1) : Fr a H := by
  refine ⟨?_⟩
  cases q : H a with
  | none => rfl
  | some v =>
    by_cases n : a = p
    · subst n
      rw [ha.is] at h1
      cases h1
    · have := e a v n q
      rw [ha.is] at this
      cases this
theorem fr_upd {p q : Addr} {o : HO} (h : Fr p (upd H q o)) : Fr p H := by
  refine ⟨?_⟩
  have h1 := h.is
  unfold upd at h1
  split at h1
  · cases h1
  · exact h1
theorem same_but {p : Addr} (e : But p H H1) (h : Fr p H0) (e0 : Same H0 H) : Same H0 H1 := fun b o g => e b o (ne_of_none g h.is) (e0 b o g)

/-! ### expressions -/
theorem x_var {n : Nat} (h : σ[n]? = some (some v)) (q : Q v H) : tVar n σ H Q := ⟨v, h, q⟩
theorem x_c (q : Q v H) : tC v σ H Q := q
theorem x_op {r : R2} (q : ta σ H fun x H1 => tb σ H1 fun y H2 => r x y H2 Q) : tOp r ta tb σ H Q := q
theorem x_un {r : V → Hp → VK → Prop} (q : ta σ H fun x H1 => r x H1 Q) : tUn r ta σ H Q := q
theorem x_I0 {f : Int → Int → V} (q : Q (f i j) H) : rI0 f (.int i) (.int j) H Q := ⟨i, j, rfl, rfl, q⟩
theorem x_I {C : Int → Int → Prop} {f : Int → Int → V} (hc : C i j) (q : Q (f i j) H) : rI C f (.int i) (.int j) H Q := ⟨i, j, rfl, rfl, hc, q⟩
theorem x_U {f : Int → V} (q : Q (f i) H) : rU f (.int i) H Q := ⟨i, rfl, q⟩
theorem x_eq (h : scal x y = true) (q : Q (.bl (decide (x = y))) H) : rEq x y H Q := ⟨h, q⟩
theorem x_ne (h : scal x y = true) (q : Q (.bl (!decide (x = y))) H) : rNe x y H Q := ⟨h, q⟩
theorem x_ixL {p : Addr} {xs : List V} (h : SqL K H p xs) (ha : atI xs i = some v) (q : Q v H) : rIxL K (.ref p) (.int i) H Q := ⟨p, xs, i, v, rfl, rfl, h, ha, q⟩
theorem x_ixT {p : Addr} {xs : List V} (h : SqT K H p xs) (ha : atI xs i = some v) (q : Q v H) : rIxT K (.ref p) (.int i) H Q := ⟨p, xs, i, v, rfl, rfl, h, ha, q⟩
theorem x_ixS {w : Str} {c : Nat} (h : w.length ≤ 100000) (ha : atI w.cps.toList i = some c) (q : Q (.str ⟨#[c]⟩) H) : rIxS (.str w) (.int i) H Q := ⟨w, i, c, rfl, rfl, size_ok h, ha, q⟩
theorem x_nil {R : List V → Hp → Prop} (q : R [] H) : tNil σ H R := q
theorem x_cons {tr : TA} {R : List V → Hp → Prop} (q : ta σ H fun x H1 => tr σ H1 fun xs H2 => R (x :: xs) H2) : tCons ta tr σ H R := q
def New (Q : VK) (o : HO) (n : Nat) (H : Hp) : Prop := n ≤ sizeLine ∧ ∀ p, H p = none → Q (.ref p) (upd H p o)
theorem x_lst {tr : TA} (q : tr σ H fun xs H1 => New Q (.lst xs) xs.length H1) : tLst tr σ H Q := q
theorem x_tup {tr : TA} (q : tr σ H fun xs H1 => New Q (.tup xs) xs.length H1) : tTup tr σ H Q := q
/-- what is new is told by what it holds; the heap gets a name -/
theorem x_new {n : Nat} {o : HO} (hl : n ≤ 100000) (k : ∀ p H2, Fr p H → Same H H2 → H2 p = some o → Q (.ref p) H2) : New Q o n H :=
  ⟨size_ok hl, fun p hp => k p _ ⟨hp⟩ (same_new hp) upd_same⟩
theorem x_new1 {o : HO} (k : ∀ p H2, Fr p H → Same H H2 → H2 p = some o → Q (.ref p) H2) : ∀ p, H p = none → Q (.ref p) (upd H p o) :=
  fun p hp => k p _ ⟨hp⟩ (same_new hp) upd_same
theorem x_cb {r : List V → Hp → VK → Prop} {tr : TA} (q : tr σ H fun vs H1 => r vs H1 Q) : tCB r tr σ H Q := q
theorem x_call {sp : Sp} {dvs : List V} {E : XK} {tr : TA} (q : tr σ H fun vs H1 => sp (vs ++ dvs) H1 Q E) : tCall sp dvs E tr σ H Q := q
theorem x_sl {r : V → Option Int → Option Int → Hp → VK → Prop} {tl th : TO} (q : te σ H fun x H1 => tl σ H1 fun l H2 => th σ H2 fun u H3 => r x l u H3 Q) : tSl r te tl th σ H Q := q
theorem x_nopart {R : Option Int → Hp → Prop} (q : R none H) : tNoPart σ H R := q
theorem x_part {R : Option Int → Hp → Prop} (q : te σ H fun x H1 => ∃ i, x = .int i ∧ R (some i) H1) : tPart te σ H R := q
theorem x_if (q : t σ H fun c H1 => if c = true then ta σ H1 Q else tb σ H1 Q) : tIf t ta tb σ H Q := q
theorem x_andV (q : ta σ H fun x H1 => ∃ c, x = .bl c ∧ if c = true then tb σ H1 Q else Q (.bl false) H1) : tAndV ta tb σ H Q := q
theorem x_orV (q : ta σ H fun x H1 => ∃ c, x = .bl c ∧ if c = true then Q (.bl true) H1 else tb σ H1 Q) : tOrV ta tb σ H Q := q
theorem x_notV (q : ta σ H fun x H1 => ∃ c, x = .bl c ∧ Q (.bl (!c)) H1) : tNotV ta σ H Q := q
theorem x_bl {R : Bool → Prop} (q : R b) : ∃ c, V.bl b = .bl c ∧ R c := ⟨b, rfl, q⟩
theorem x_isI {R : Int → Prop} (q : R i) : ∃ c, V.int i = .int c ∧ R c := ⟨i, rfl, q⟩

/-! ### built-ins by names -/
def nInt : List V → Hp → VK → Prop := fun xs H Q => (∃ i, xs = [.int i] ∧ Q (.int i) H) ∨ ∃ k, xs = [.bl k] ∧ Q (.int (if k then 1 else 0)) H
theorem call_nInt {X : Cx} : CallR X (.type "int") nInt := call_int1
theorem x_nInt (q : Q (.int i) H) : nInt [.int i] H Q := .inl ⟨i, rfl, q⟩
theorem x_nIntB (q : Q (.int (if b then 1 else 0)) H) : nInt [.bl b] H Q := .inr ⟨b, rfl, q⟩
def nLen (K : PySem.W.Frag) : List V → Hp → VK → Prop := fun xs H Q => ∃ p ys, xs = [.ref p] ∧ (SqL K H p ys ∨ SqT K H p ys) ∧ Q (.int ys.length) H
theorem call_nLen {X : Cx} : CallR X (.builtin "len") (nLen X.K) := call_len_seq
theorem x_lenL {p : Addr} {ys : List V} (h : SqL K H p ys) (q : Q (.int ys.length) H) : nLen K [.ref p] H Q := ⟨p, ys, rfl, .inl h, q⟩
theorem x_lenT {p : Addr} {ys : List V} (h : SqT K H p ys) (q : Q (.int ys.length) H) : nLen K [.ref p] H Q := ⟨p, ys, rfl, .inr h, q⟩
def nListOf (K : PySem.W.Frag) : List V → Hp → VK → Prop := fun xs H Q => ∃ p ys, xs = [.ref p] ∧ (SqL K H p ys ∨ SqT K H p ys) ∧ ∀ l, H l = none → Q (.ref l) (upd H l (.lst ys))
theorem call_nListOf {X : Cx} : CallR X (.type "list") (nListOf X.K) := call_list_of
theorem x_listL {p : Addr} {ys : List V} (h : SqL K H p ys) (k : ∀ l H2, Fr l H → Same H H2 → H2 l = some (.lst ys) → Q (.ref l) H2) : nListOf K [.ref p] H Q := ⟨p, ys, rfl, .inl h, x_new1 k⟩
theorem x_listT {p : Addr} {ys : List V} (h : SqT K H p ys) (k : ∀ l H2, Fr l H → Same H H2 → H2 l = some (.lst ys) → Q (.ref l) H2) : nListOf K [.ref p] H Q := ⟨p, ys, rfl, .inr h, x_new1 k⟩
def nTupleOf (K : PySem.W.Frag) : List V → Hp → VK → Prop := fun xs H Q => ∃ p ys, xs = [.ref p] ∧ ((SqL K H p ys ∧ ∀ l, H l = none → Q (.ref l) (upd H l (.tup ys))) ∨ (SqT K H p ys ∧ Q (.ref p) H))
theorem call_nTupleOf {X : Cx} : CallR X (.type "tuple") (nTupleOf X.K) := call_tuple_of
theorem x_tupleL {p : Addr} {ys : List V} (h : SqL K H p ys) (k : ∀ l H2, Fr l H → Same H H2 → H2 l = some (.tup ys) → Q (.ref l) H2) : nTupleOf K [.ref p] H Q := ⟨p, ys, rfl, .inl ⟨h, x_new1 k⟩⟩
theorem x_tupleT {p : Addr} {ys : List V} (h : SqT K H p ys) (q : Q (.ref p) H) : nTupleOf K [.ref p] H Q := ⟨p, ys, rfl, .inr ⟨h, q⟩⟩
theorem kit_T {a c : String} (h : kitB a c = some true) : kitB a c = some true := h
theorem kit_F {a c : String} (h : kitB a c = some false) : kitB a c = some false := h
theorem x_isi {c : String} {tt : String} {k : Bool} (ty : TyX K H x (.type tt)) (e : kitB tt c = some k) (q : Q (.bl k) H) : rIsi K [x, .ty c] H Q := ⟨x, .ty c, .type tt, .type c, k, rfl, .ty _, ty, kit_ty e, q⟩
theorem x_isiInt {c : String} {k : Bool} (e : kitB "int" c = some k) (q : Q (.bl k) H) : rIsi K [.int i, .ty c] H Q := x_isi (.base (.int i)) e q
theorem x_isiBl {c : String} {k b : Bool} (e : kitB "bool" c = some k) (q : Q (.bl k) H) : rIsi K [.bl b, .ty c] H Q := x_isi (.base (.bl b)) e q
theorem x_isiStr {c : String} {k : Bool} {s : Str} (e : kitB "str" c = some k) (q : Q (.bl k) H) : rIsi K [.str s, .ty c] H Q := x_isi (.base (.str s)) e q
theorem x_isiNon {c : String} {k : Bool} (e : kitB "NoneType" c = some k) (q : Q (.bl k) H) : rIsi K [.non, .ty c] H Q := x_isi (.base .non) e q
theorem x_isiLst {c : String} {k : Bool} {a : Addr} {xs : List V} (h : H a = some (.lst xs)) (e : kitB "list" c = some k) (q : Q (.bl k) H) : rIsi K [.ref a, .ty c] H Q := x_isi (.base (.lst h)) e q
theorem x_isiTup {c : String} {k : Bool} {a : Addr} {xs : List V} (h : H a = some (.tup xs)) (e : kitB "tuple" c = some k) (q : Q (.bl k) H) : rIsi K [.ref a, .ty c] H Q := x_isi (.base (.tup h)) e q

def nSorted (K : PySem.W.Frag) : List V → Hp → VK → Prop := fun vs H Q => ∃ (a : Addr) (ns : List Int), vs = [V.ref a] ∧ SqL K H a (ns.map V.int) ∧ ns.length < 64 ∧
  ∀ (ns' : List Int) (p : Addr), ns'.Perm ns → ns'.Pairwise (· ≤ ·) → H p = none → Q (.ref p) (upd H p (.lst (ns'.map V.int)))
theorem x_sorted {a : Addr} {ns : List Int} (h : SqL K H a (ns.map V.int)) (hl : ns.length < 64) (k : ∀ p H2 (ns' : List Int), ns'.Perm ns → ns'.Pairwise (· ≤ ·) → Fr p H → Same H H2 → H2 p = some (.lst (ns'.map V.int)) → Q (.ref p) H2) : rSorted K [.ref a] H Q :=
  ⟨a, ns, rfl, h, hl, fun ns' p h1 h2 h3 => k p _ ns' h1 h2 ⟨h3⟩ (same_new h3) upd_same⟩
/-- set(t), t a tuple of ints -/
def rSetOfI (K : PySem.W.Frag) (w : World) : List V → Hp → VK → Prop := fun vs H Q => ∃ (p : Addr) (ns : List Int), vs = [V.ref p] ∧ SqT K H p (ns.map V.int) ∧ ns.length ≤ 1000 ∧ ∀ a n, H a = none → n ≤ ns.length → Q (.ref a) (upd H a (SetO w a (fun j => decide (j ∈ ns)) n))
theorem cr_setOfI {X : Cx} (hc : X.calm = true) : CallR X (.type "set") (rSetOfI X.K X.w) := by
  intro pins s σ H xs us Q I r h
  obtain ⟨p0, ns, rfl, hq, hl, q⟩ := h
  cases r with
  | cons r rr =>
    cases rr
    cases r
    obtain ⟨its, rv, pt, hz⟩ := I.tuple hq
    have hi : IntsAre its.toArray.toList ns := ints_of_vals rv
    have hd := I.ok.hd hc
    refine call_set_tupI ns hd (show s.heap.IsTuple p0 its.toArray from pt) hi (by unfold scanBound; omega) fun h' tk c R1 hcn k => ?_
    exact ⟨.ref _, upd H s.heap.objs.size (SetO X.w s.heap.objs.size (fun j => decide (j ∈ ns)) c), I.laid (t' := tk) k (Nat.le_refl _) (setO_new R1), rfl, q _ _ (I.hok.fresh (Nat.le_refl _)) hcn⟩
theorem x_setOfI {w : World} {p : Addr} {ns : List Int} (h : SqT K H p (ns.map V.int)) (hl : ns.length ≤ 1000) (k : ∀ a H2 n, Fr a H → Same H H2 → H2 a = some (SetO w a (fun j => decide (j ∈ ns)) n) → n ≤ ns.length → Q (.ref a) H2) : rSetOfI K w [.ref p] H Q :=
  ⟨p, ns, rfl, h, hl, fun a n h1 h2 => k a _ n ⟨h1⟩ (same_new h1) upd_same h2⟩
theorem x_sortedSet {w : World} {a : Addr} {S : Int → Bool} {n : Nat} (h : H a = some (SetO w a S n)) (hl : n < 64) (k : ∀ p H2 (ns : List Int), ns.Pairwise (· < ·) → (∀ k : Int, k ∈ ns ↔ S k = true) → ns.length = n → Fr p H → Same H H2 → H2 p = some (.lst (ns.map V.int)) → Q (.ref p) H2) : rSortedSet w [.ref a] H Q :=
  ⟨a, S, n, rfl, h, hl, fun ns p h1 h2 h3 h4 => k p _ ns h1 h2 h3 ⟨h4⟩ (same_new h4) upd_same⟩
theorem x_all {a : Addr} {bs : List Bool} (h : SqL K H a (bs.map V.bl)) (q : Q (.bl (bs.all id)) H) : rAll K [.ref a] H Q := ⟨a, bs, rfl, h, q⟩
theorem x_any {a : Addr} {bs : List Bool} (h : SqL K H a (bs.map V.bl)) (q : Q (.bl (bs.any id)) H) : rAny K [.ref a] H Q := ⟨a, bs, rfl, h, q⟩
theorem x_sum {a : Addr} {ns : List Int} (h : SqL K H a (ns.map V.int)) (q : Q (.int ns.sum) H) : rSum K [.ref a] H Q := ⟨a, ns, rfl, h, q⟩
theorem x_inL {p : Addr} {xs : List V} (h : SqL K H p xs) (hx : flatV x = true) (ha : xs.all flatV = true) (q : Q (.bl (inV x xs)) H) : rIn K false x (.ref p) H Q := ⟨p, xs, rfl, .inl h, hx, ha, q⟩
theorem x_inT {p : Addr} {xs : List V} (h : SqT K H p xs) (hx : flatV x = true) (ha : xs.all flatV = true) (q : Q (.bl (inV x xs)) H) : rIn K false x (.ref p) H Q := ⟨p, xs, rfl, .inr h, hx, ha, q⟩
theorem x_niL {p : Addr} {xs : List V} (h : SqL K H p xs) (hx : flatV x = true) (ha : xs.all flatV = true) (q : Q (.bl (!inV x xs)) H) : rIn K true x (.ref p) H Q := ⟨p, xs, rfl, .inl h, hx, ha, q⟩
theorem x_niT {p : Addr} {xs : List V} (h : SqT K H p xs) (hx : flatV x = true) (ha : xs.all flatV = true) (q : Q (.bl (!inV x xs)) H) : rIn K true x (.ref p) H Q := ⟨p, xs, rfl, .inr h, hx, ha, q⟩
theorem flat_ints : ∀ ns : List Int, (ns.map V.int).all flatV = true
  | [] => rfl
  | n :: r => by
    rw [List.map_cons, List.all_cons, flat_ints r]
    rfl
theorem in_ints (i : Int) : ∀ ns : List Int, inV (.int i) (ns.map V.int) = decide (i ∈ ns)
  | [] => by simp [inV]
  | n :: r => by
    have h := in_ints i r
    unfold inV at h ⊢
    rw [List.map_cons, List.any_cons, h]
    by_cases e : n = i
    · subst e
      simp [eqV]
    · have e' : ¬ i = n := fun z => e z.symm
      simp [eqV, e, e']

def nIsN : R2 := fun x y H Q => y = .non ∧ Q (.bl (decide (x = .non))) H
def nNotN : R2 := fun x y H Q => y = .non ∧ Q (.bl (!decide (x = .non))) H
theorem op_nIsN {X : Cx} : OpR X (compareOp .Is) nIsN := op_isN
theorem op_nNotN {X : Cx} : OpR X (compareOp .IsNot) nNotN := op_notN
theorem x_nIsN (q : Q (.bl (decide (x = .non))) H) : nIsN x .non H Q := ⟨rfl, q⟩
theorem x_nNotN (q : Q (.bl (!decide (x = .non))) H) : nNotN x .non H Q := ⟨rfl, q⟩
def nAndM : R2 := fun x y H Q => ∃ (i : Int) (k : Nat), x = .int i ∧ y = .int (2 ^ k - 1) ∧ Q (.int (i % 2 ^ k)) H
theorem op_nAndM {X : Cx} : OpR X (binaryOp .BitAnd) nAndM := op_andM
theorem x_and255 (q : Q (.int (i % 256)) H) : nAndM (.int i) (.int 255) H Q := ⟨i, 8, rfl, rfl, q⟩

/-! ### the same rules, K told: within a comprehension's block too -/
section
variable {X : Cx} {w : World}
theorem k_in (e : X.K = K) : OpR X (compareOp .In) (rIn K false) := e ▸ op_in_seq
theorem k_enum {e : Expr} {ta : TA} {p pos tpos : Pos} {elts : List Expr} {kk : Nat} (hk : X.K = K) (hg : Gl X "enumerate") (hm : X.mg "enumerate" = none) (ha : PA X [e] ta) (hs : starEach [e] X.env = [(false, eval e X.env)] := by rfl) :
    PI X (.Tuple elts kk tpos) (.Call (.Name "enumerate" p) [e] [] pos) (iEnum K ta) := hk ▸ pi_enum hg hm ha hs
theorem k_gtup {es : List Expr} {k : Nat} {pos : Pos} {gs : TGs} {n : Nat} (hk : X.K = K) (hc : X.calm = true) (h : PGs X es gs)
    (hn : (assignEach es X.env).length = n := by rfl) (hst : (assignEach es X.env).findIdx? (·.1) = none := by rfl) : PG X (.Tuple es k pos) (gTup K n gs) := hk ▸ pg_tup hc h hn hst
theorem k_nin (e : X.K = K) : OpR X (compareOp .NotIn) (rIn K true) := e ▸ op_notIn_seq
theorem k_ixL (e : X.K = K) : IxR X (rIxL K) := e ▸ ix_list
theorem k_ixT (e : X.K = K) : IxR X (rIxT K) := e ▸ ix_tup
theorem k_slL (e : X.K = K) : SlR X (rSlL K) := e ▸ sl_list
theorem k_len (e : X.K = K) : CallR X (.builtin "len") (nLen K) := e ▸ call_nLen
theorem k_list (e : X.K = K) : CallR X (.type "list") (nListOf K) := e ▸ call_nListOf
theorem k_tuple (e : X.K = K) : CallR X (.type "tuple") (nTupleOf K) := e ▸ call_nTupleOf
theorem k_isi (e : X.K = K) : CallR X (.builtin "isinstance") (rIsi K) := e ▸ call_isi
theorem k_all (hc : X.calm = true) (e : X.K = K) : CallR X (.builtin "all") (rAll K) := e ▸ cr_all hc
theorem k_any (hc : X.calm = true) (e : X.K = K) : CallR X (.builtin "any") (rAny K) := e ▸ cr_any hc
theorem k_sum (hc : X.calm = true) (e : X.K = K) : CallR X (.builtin "sum") (rSum K) := e ▸ cr_sum hc
theorem k_sorted (e : X.K = K) : CallR X (.builtin "sorted") (rSorted K) := e ▸ cr_sorted
theorem k_sortedS (e : X.K = K) : CallR X (.builtin "sorted") (rSortedS K) := e ▸ cr_sortedS
theorem k_sortedSet (hc : X.calm = true) (e : X.w = w) : CallR X (.builtin "sorted") (rSortedSet w) := e ▸ cr_sortedSet hc
theorem k_setOfI (hc : X.calm = true) (e : X.K = K) (e' : X.w = w) : CallR X (.type "set") (rSetOfI K w) := e ▸ e' ▸ cr_setOfI hc
theorem k_eqD (hu : X.A.units + 64 < cLine) (e : X.K = K) : OpR X (compareOp .Eq) (rEqD K) := e ▸ op_eqD hu
theorem k_neD (hu : X.A.units + 64 < cLine) (e : X.K = K) : OpR X (compareOp .NotEq) (rNeD K) := e ▸ op_neD hu
end

/-! ### tests -/
theorem x_test {R : Bool → Hp → Prop} (q : te σ H fun x H1 => ∃ k, x = .bl k ∧ R k H1) : tTest te σ H R := q
theorem x_B {R : Bool → Hp → Prop} (q : te σ H fun x H1 => ∃ k, x = .bl k ∧ R k H1) : tB te σ H R := q
theorem x_and {R : Bool → Hp → Prop} (q : t σ H fun c H1 => if c = true then u σ H1 R else R false H1) : tAnd t u σ H R := q
theorem x_or {R : Bool → Hp → Prop} (q : t σ H fun c H1 => if c = true then R true H1 else u σ H1 R) : tOr t u σ H R := q
theorem x_not {R : Bool → Hp → Prop} (q : t σ H fun c H1 => R (!c) H1) : tNot t σ H R := q
theorem x_yes {R : Bool → Hp → Prop} (q : R true H) : tYes σ H R := q
theorem x_chain {r r' : R2} (q : ta σ H fun x H1 => tb σ H1 fun y H2 => r x y H2 fun z H3 => ∃ k, z = .bl k ∧ (if k = true then tc σ H3 fun w' H4 => r' y w' H4 Q else Q (.bl false) H3)) : tChain r r' ta tb tc σ H Q := q
theorem x_itd {p A B : Prop} [Decidable p] (h1 : p → A) (h2 : ¬p → B) : if decide p = true then A else B := by
  by_cases h : p
  · rw [if_pos (decide_eq_true h)]
    exact h1 h
  · rw [if_neg (by rw [decide_eq_false h]; decide)]
    exact h2 h
theorem x_itn {p A B : Prop} [Decidable p] (h1 : ¬p → A) (h2 : p → B) : if (!decide p) = true then A else B := by
  by_cases h : p
  · rw [decide_eq_true h, if_neg (by decide)]
    exact h2 h
  · rw [decide_eq_false h, if_pos (by decide)]
    exact h1 h
theorem x_itb {A B : Prop} (h1 : b = true → A) (h2 : b = false → B) : if b = true then A else B := by
  cases b with
  | true => rw [if_pos rfl]; exact h1 rfl
  | false => rw [if_neg (by decide)]; exact h2 rfl
theorem x_itnb {A B : Prop} (h1 : b = false → A) (h2 : b = true → B) : if (!b) = true then A else B := by
  cases b with
  | true => exact h2 rfl
  | false => exact h1 rfl

theorem x_nT {A B : Prop} (h : B) : if (!true) = true then A else B := h
theorem x_nF {A B : Prop} (h : A) : if (!false) = true then A else B := h
theorem x_dY {p A B : Prop} [Decidable p] (hp : p) (h : A) : if decide p = true then A else B := x_itd (fun _ => h) fun z => absurd hp z
theorem x_dN {p A B : Prop} [Decidable p] (hp : ¬p) (h : B) : if decide p = true then A else B := x_itd (fun z => absurd z hp) fun _ => h
theorem x_ndY {p A B : Prop} [Decidable p] (hp : p) (h : B) : if (!decide p) = true then A else B := x_itn (fun z => absurd hp z) fun _ => h
theorem x_ndN {p A B : Prop} [Decidable p] (hp : ¬p) (h : A) : if (!decide p) = true then A else B := x_itn (fun _ => h) fun z => absurd z hp

/-! ### statements -/
theorem x_seq (q : tu { D with nx := tz D } σ H) : tSeq tu tz D σ H := q
theorem x_sasg {n : Nat} (q : te σ H fun v H1 => tz D (σ.set n (some v)) H1) : tSeq (tAsg te (gName n)) tz D σ H := q
theorem x_asg {n : Nat} (q : te σ H fun v H1 => D.nx (σ.set n (some v)) H1) : tAsg te (gName n) D σ H := q
theorem x_sasgG (q : te σ H fun v H1 => g v σ H1 (tz D)) : tSeq (tAsg te g) tz D σ H := q
theorem x_asgG (q : te σ H fun v H1 => g v σ H1 D.nx) : tAsg te g D σ H := q
theorem x_ret (q : te σ H D.rt) : tRet te D σ H := q
theorem x_retN (q : D.rt .non H) : tRetN D σ H := q
theorem x_next (q : D.nx σ H) : tNext D σ H := q
theorem x_brk (q : D.bk σ H) : tBreak D σ H := q
theorem x_ct (q : D.ct σ H) : tCont D σ H := q
theorem x_sif (q : t σ H fun b H1 => if b = true then tu { D with nx := tz D } σ H1 else tw { D with nx := tz D } σ H1) : tSeq (tIfS t tu tw) tz D σ H := q
theorem x_ifS (q : t σ H fun b H1 => if b = true then tu D σ H1 else tw D σ H1) : tIfS t tu tw D σ H := q
theorem x_sdrop (q : te σ H fun _ H1 => tz D σ H1) : tSeq (tDrop te) tz D σ H := q
theorem x_drop (q : te σ H fun _ H1 => D.nx σ H1) : tDrop te D σ H := q
theorem x_saug {n : Nat} {ti : TIp} (h : σ[n]? = some (some x)) (q : te σ H fun y H1 => ti x y H1 fun z H2 => tz D (σ.set n (some z)) H2) : tSeq (tAug n te ti) tz D σ H := ⟨x, h, q⟩
theorem x_aug {n : Nat} {ti : TIp} (h : σ[n]? = some (some x)) (q : te σ H fun y H1 => ti x y H1 fun z H2 => D.nx (σ.set n (some z)) H2) : tAug n te ti D σ H := ⟨x, h, q⟩
theorem x_ipI {f : Int → Int → Int} (q : Q (.int (f i j)) H) : ipI f (.int i) (.int j) H Q := ⟨i, j, rfl, rfl, q⟩
/-- an if, then the rest: what follows is shown once -/
theorem x_cut (M : L2.St → Hp → Prop) (h : tu { D with nx := M } σ H) (k : ∀ σ' H', M σ' H' → tz D σ' H') : Evl.tCut tu tz D σ H := ⟨M, h, k⟩
theorem x_nocut (h : tu { D with nx := tz D } σ H) : Evl.tCut tu tz D σ H := ⟨_, h, fun _ _ q => q⟩

theorem x_nocutW (h : tSeq (tWhile t tu) tz D σ H) : Evl.tCut (tWhile t tu) tz D σ H := ⟨_, h, fun _ _ q => q⟩

/-! ### targets -/
theorem x_gName {n : Nat} {R : L2.St → Hp → Prop} (q : R (σ.set n (some v)) H) : gName n v σ H R := q
theorem x_gTup {n : Nat} {gs : TGs} {R : L2.St → Hp → Prop} {a : Addr} {xs : List V} (h : SqT K H a xs) (hn : xs.length = n) (q : gs xs σ H R) : gTup K n gs (.ref a) σ H R := ⟨a, xs, rfl, h, hn, q⟩
theorem x_gLst {n : Nat} {gs : TGs} {R : L2.St → Hp → Prop} {a : Addr} {xs : List V} (h : SqL K H a xs) (hn : xs.length = n) (q : gs xs σ H R) : gLst K n gs (.ref a) σ H R := ⟨a, xs, rfl, h, hn, q⟩
theorem x_gCons {gs : TGs} {R : L2.St → Hp → Prop} {vs : List V} (q : g v σ H fun σ' H' => gs vs σ' H' R) : gCons g gs (v :: vs) σ H R := ⟨v, vs, rfl, q⟩
theorem x_gNil {R : L2.St → Hp → Prop} (q : R σ H) : gNil [] σ H R := ⟨rfl, q⟩
theorem x_gSub {to ti : TE} {ts : TSet} {R : L2.St → Hp → Prop} (q : to σ H fun o H1 => ti σ H1 fun i H2 => ts o i v H2 fun H3 => R σ H3) : gSub to ti ts v σ H R := q
theorem ixN_nat {n j : Nat} (hj : j < n) : ixN n (j : Int) = some j := by
  unfold ixN
  rw [if_pos (by omega), if_pos (by omega)]
  simp
theorem ixN_of {n j : Nat} {k : Int} (e : k = (j : Int)) (hj : j < n) : ixN n k = some j := by
  rw [e]
  exact ixN_nat hj
theorem at_nat {α : Type} {xs : List α} {k : Int} {j : Nat} {v : α} (e : k = (j : Int)) (h : xs[j]? = some v) : atI xs k = some v := by
  rw [e]
  exact atI_nat h
theorem at_neg {α : Type} {xs : List α} {k : Int} {j : Nat} {v : α} (hk : k < 0) (e : k + (xs.length : Int) = (j : Int)) (h : xs[j]? = some v) : atI xs k = some v := by
  unfold atI ixN
  rw [if_neg (by omega), if_pos (by omega)]
  have e2 : (k + (xs.length : Int)).toNat = j := by omega
  rw [e2]
  exact h
theorem x_setL {p : Addr} {xs : List V} {k : Int} {j : Nat} {R : Hp → Prop} (h : H p = some (.lst xs)) (hj : ixN xs.length k = some j) (q : R (upd H p (.lst (xs.set j v)))) : rSetL (.ref p) (.int k) v H R := ⟨p, xs, k, j, rfl, rfl, h, hj, q⟩
/-- xs.append(e) -/
theorem x_bm {T : String} {r : V → List V → Hp → VK → Prop} {tr : TA} (q : te σ H fun x H1 => tyV K T x H1 ∧ tr σ H1 fun xs H2 => r x xs H2 Q) : tBM K T r te tr σ H Q := q
theorem x_bm0 {T : String} {r : V → List V → Hp → VK → Prop} (q : te σ H fun x H1 => tyV K T x H1 ∧ r x [] H1 Q) : tBM0 K T r te σ H Q := q
theorem x_tyL {a : Addr} {xs : List V} {P : Prop} (h : SqL K H a xs) (q : P) : tyV K "list" (.ref a) H ∧ P := ⟨.inl ⟨rfl, xs, h⟩, q⟩
theorem x_app {l : Addr} {xs : List V} (h : H l = some (.lst xs)) (hz : xs.length < 100000) (q : Q .non (upd H l (.lst (xs ++ [v])))) : rAppend (.ref l) [v] H Q := ⟨l, xs, v, rfl, rfl, h, size_lt hz, q⟩
theorem x_cat {a c : Addr} {xs ys : List V} (h : H a = some (.lst xs)) (h' : H c = some (.lst ys)) (hz : xs.length + ys.length ≤ 100000) (k : ∀ p H2, Fr p H → Same H H2 → H2 p = some (.lst (xs ++ ys)) → Q (.ref p) H2) : rCat (.ref a) (.ref c) H Q :=
  ⟨a, c, xs, ys, rfl, rfl, h, h', size_ok hz, x_new1 k⟩
theorem x_slL {a : Addr} {xs : List V} {lo hi : Option Int} (h : SqL K H a xs) (k : ∀ p H2, Fr p H → Same H H2 → H2 p = some (.lst (cutV xs lo hi)) → Q (.ref p) H2) : rSlL K (.ref a) lo hi H Q := ⟨a, xs, rfl, h, x_new1 k⟩

/-! ### loops -/
theorem x_forR {n : Nat} (q : te σ H fun x H1 => ∃ m : Int, x = .int m ∧ 0 ≤ m ∧ m ≤ 100000 ∧ ∃ Pv : Nat → L2.St → Hp → Prop, Pv 0 σ H1 ∧
      (∀ (i : Nat) σ' H', (i : Int) < m → Pv i σ' H' → tu { D with nx := Pv (i + 1), ct := Pv (i + 1), bk := D.nx } (σ'.set n (some (.int (i : Int)))) H') ∧ (∀ σ' H', Pv m.toNat σ' H' → D.nx σ' H'))
    (mono : ∀ Q Q' : VK, (∀ v H1, Q v H1 → Q' v H1) → te σ H Q → te σ H Q') : tFor (iRng1 (tCons te tNil)) (gName n) tu D σ H := by
  refine mono _ _ (fun v H1 h => ?_) q
  obtain ⟨m, rfl, h0, h1, Pv, p0, ps, pd⟩ := h
  refine ⟨m, rfl, by omega, by omega, for_range (lo := 0) (n := m.toNat) Pv p0 (fun i σ' H' hi p => ?_) pd⟩
  have e0 : (0 : Int) + (i : Int) = (i : Int) := Int.zero_add _
  show tu { D with nx := Pv (i + 1), ct := Pv (i + 1), bk := D.nx } (σ'.set n (some (.int ((0 : Int) + (i : Int))))) H'
  rw [e0]
  exact ps i σ' H' (by omega) p
def RRange (n : Nat) (m : Int) (tu : TS) (D : Ends) (σ : L2.St) (H : Hp) : Prop := ∃ Pv : Nat → L2.St → Hp → Prop, Pv 0 σ H ∧
      (∀ (i : Nat) σ' H', (i : Int) < m → Pv i σ' H' → tu { D with nx := Pv (i + 1), ct := Pv (i + 1), bk := D.nx } (σ'.set n (some (.int (i : Int)))) H') ∧ (∀ σ' H', Pv m.toNat σ' H' → D.nx σ' H')
def rRange (n : Nat) (tu : TS) (D : Ends) (σ : L2.St) : List V → Hp → Prop := fun vs H => ∃ j : Int, vs = [.int j] ∧ -(2 ^ 62) ≤ j ∧ j < 2 ^ 62 ∧ ∃ W : Nat → Nat → L2.St → Hp → Prop, (∃ m, W 0 m σ H) ∧ ∀ i m σ H, W i m σ H →
  ((Itr 0 j.toNat).stop i H ∧ D.nx σ H) ∨ ((Itr 0 j.toNat).go i H ∧ ∃ N : L2.St → Hp → Prop, (∀ σ' H', N σ' H' → ∃ m', m' < m ∧ W (i + 1) m' σ' H') ∧ ∀ x H', (Itr 0 j.toNat).yld i H x H' → gName n x σ H' fun σ2 H2 => tu { D with nx := N, ct := N, bk := D.nx } σ2 H2)
theorem x_forR1 {n : Nat} {tr : TA} (q : tr σ H (rRange n tu D σ)) : tFor (iRng1 tr) (gName n) tu D σ H := q
theorem x_range {n : Nat} {m : Int} (Pv : Nat → L2.St → Hp → Prop) (hm : 0 ≤ m ∧ m ≤ 100000) (p0 : Pv 0 σ H)
    (ps : ∀ (i : Nat) σ' H', (i : Int) < m → Pv i σ' H' → tu { D with nx := Pv (i + 1), ct := Pv (i + 1), bk := D.nx } (σ'.set n (some (.int (i : Int)))) H') (pd : ∀ σ' H', Pv m.toNat σ' H' → D.nx σ' H') : rRange n tu D σ [.int m] H := by
  refine ⟨m, rfl, by omega, by omega, for_range (lo := 0) (n := m.toNat) Pv p0 (fun i σ' H' hi p => ?_) pd⟩
  have e0 : (0 : Int) + (i : Int) = (i : Int) := Int.zero_add _
  show tu { D with nx := Pv (i + 1), ct := Pv (i + 1), bk := D.nx } (σ'.set n (some (.int ((0 : Int) + (i : Int))))) H'
  rw [e0]
  exact ps i σ' H' (by omega) p
def rForL (K : PySem.W.Frag) (g : TG) (tu : TS) (D : Ends) (σ : L2.St) : VK := fun x H => ∃ a, x = .ref a ∧ (∃ xs, SqL K H a xs) ∧ ∃ W : Nat → Nat → L2.St → Hp → Prop, (∃ m, W 0 m σ H) ∧ ∀ i m σ H, W i m σ H →
  ((Itl K a).stop i H ∧ D.nx σ H) ∨ ((Itl K a).go i H ∧ ∃ N : L2.St → Hp → Prop, (∀ σ' H', N σ' H' → ∃ m', m' < m ∧ W (i + 1) m' σ' H') ∧ ∀ x H', (Itl K a).yld i H x H' → g x σ H' fun σ2 H2 => tu { D with nx := N, ct := N, bk := D.nx } σ2 H2)
theorem x_forL1 (q : te σ H (rForL K g tu D σ)) : tFor (iList K te) g tu D σ H := q
theorem x_forL {a : Addr} {xs : List V} (Pv : Nat → L2.St → Hp → Prop) (hx : SqL K H a xs) (p0 : Pv 0 σ H) (hl : ∀ i σ' H', i ≤ xs.length → Pv i σ' H' → SqL K H' a xs)
    (ps : ∀ i x σ' H', xs[i]? = some x → Pv i σ' H' → g x σ' H' fun σ2 H2 => tu { D with nx := Pv (i + 1), ct := Pv (i + 1), bk := D.nx } σ2 H2) (pd : ∀ σ' H', Pv xs.length σ' H' → D.nx σ' H') : rForL K g tu D σ (.ref a) H :=
  ⟨a, rfl, ⟨xs, hx⟩, for_list Pv p0 hl ps pd⟩
def rForT (K : PySem.W.Frag) (g : TG) (tu : TS) (D : Ends) (σ : L2.St) : VK := fun x H => ∃ a, x = .ref a ∧ (∃ xs, SqT K H a xs) ∧ ∃ W : Nat → Nat → L2.St → Hp → Prop, (∃ m, W 0 m σ H) ∧ ∀ i m σ H, W i m σ H →
  ((Itt K a).stop i H ∧ D.nx σ H) ∨ ((Itt K a).go i H ∧ ∃ N : L2.St → Hp → Prop, (∀ σ' H', N σ' H' → ∃ m', m' < m ∧ W (i + 1) m' σ' H') ∧ ∀ x H', (Itt K a).yld i H x H' → g x σ H' fun σ2 H2 => tu { D with nx := N, ct := N, bk := D.nx } σ2 H2)
theorem x_forT1 (q : te σ H (rForT K g tu D σ)) : tFor (iTup K te) g tu D σ H := q
theorem x_forT {a : Addr} {xs : List V} (Pv : Nat → L2.St → Hp → Prop) (hx : SqT K H a xs) (p0 : Pv 0 σ H) (hl : ∀ i σ' H', i ≤ xs.length → Pv i σ' H' → SqT K H' a xs)
    (ps : ∀ i x σ' H', xs[i]? = some x → Pv i σ' H' → g x σ' H' fun σ2 H2 => tu { D with nx := Pv (i + 1), ct := Pv (i + 1), bk := D.nx } σ2 H2) (pd : ∀ σ' H', Pv xs.length σ' H' → D.nx σ' H') : rForT K g tu D σ (.ref a) H :=
  ⟨a, rfl, ⟨xs, hx⟩, for_tup Pv p0 hl ps pd⟩
/-- while: W by a number that falls -/
def Falls (W : Nat → L2.St → Hp → Prop) (m : Nat) : L2.St → Hp → Prop := fun σ' H' => ∃ m', m' < m ∧ W m' σ' H'
theorem x_while (W : Nat → L2.St → Hp → Prop) (m0 : Nat) (h0 : W m0 σ H) (hs : ∀ m σ' H', W m σ' H' → t σ' H' fun b H1 => if b = true then tu { D with nx := Falls W m, ct := Falls W m, bk := D.nx } σ' H1 else D.nx σ' H1)
    (mono : ∀ (σ' : L2.St) (H' : Hp) (R R' : Bool → Hp → Prop), (∀ y H4, R y H4 → R' y H4) → t σ' H' R → t σ' H' R') : tWhile t tu D σ H :=
  ⟨W, ⟨m0, h0⟩, fun m σ' H' hw => mono _ _ _ _ (fun b H1 q => by
    cases b with
    | true =>
      rw [if_pos rfl] at q ⊢
      exact ⟨Falls W m, fun _ _ h => h, q⟩
    | false =>
      rw [if_neg (by decide)] at q ⊢
      exact q) (hs m σ' H' hw)⟩
def WTurn (W : Nat → L2.St → Hp → Prop) (m : Nat) (tu : TS) (D : Ends) (σ : L2.St) : Bool → Hp → Prop := fun b H1 => if b = true then ∃ N : L2.St → Hp → Prop, (∀ σ' H', N σ' H' → ∃ m', m' < m ∧ W m' σ' H') ∧ tu { D with nx := N, ct := N, bk := D.nx } σ H1 else D.nx σ H1
theorem x_while1 (W : Nat → L2.St → Hp → Prop) (m0 : Nat) (h0 : W m0 σ H) (hs : ∀ m σ' H', W m σ' H' → t σ' H' (WTurn W m tu D σ')) : tWhile t tu D σ H := ⟨W, ⟨m0, h0⟩, hs⟩
theorem x_wT {W : Nat → L2.St → Hp → Prop} {m : Nat} (q : tu { D with nx := Falls W m, ct := Falls W m, bk := D.nx } σ H) : WTurn W m tu D σ true H := by
  unfold WTurn
  rw [if_pos rfl]
  exact ⟨Falls W m, fun _ _ h => h, q⟩
theorem x_wF {W : Nat → L2.St → Hp → Prop} {m : Nat} (q : D.nx σ H) : WTurn W m tu D σ false H := by
  unfold WTurn
  rw [if_neg (by decide)]
  exact q
theorem x_wd {W : Nat → L2.St → Hp → Prop} {m : Nat} {p : Prop} [Decidable p] (h1 : p → WTurn W m tu D σ true H) (h2 : ¬p → WTurn W m tu D σ false H) : WTurn W m tu D σ (decide p) H := by
  by_cases h : p
  · rw [decide_eq_true h]
    exact h1 h
  · rw [decide_eq_false h]
    exact h2 h
theorem x_wn {W : Nat → L2.St → Hp → Prop} {m : Nat} {p : Prop} [Decidable p] (h1 : ¬p → WTurn W m tu D σ true H) (h2 : p → WTurn W m tu D σ false H) : WTurn W m tu D σ (!decide p) H := by
  by_cases h : p
  · rw [decide_eq_true h]
    exact h2 h
  · rw [decide_eq_false h]
    exact h1 h

/-! ### comprehensions -/
def RLc (J : It) (g : TG) (tt : TT) (te : TE) (vs : List Nat) (σ : L2.St) (Q : VK) : Hp → Prop := fun H1 => ∀ D, H1 D = none → ∃ W : Nat → Nat → Hp → Prop, (∃ m, W 0 m (upd H1 D (.lst []))) ∧ ∀ i m H, W i m H →
  (J.stop i H ∧ Q (.ref D) H) ∨ (J.go i H ∧ ∃ Nx : Hp → Prop, (∀ H', Nx H' → ∃ m', m' < m ∧ W (i + 1) m' H') ∧ ∀ x H', J.yld i H x H' → g x (wipe σ vs) H' fun σ2 H2 => wipe σ2 vs = wipe σ vs ∧ tt σ2 H2 fun b H3 =>
    if b = true then te σ2 H3 fun y H4 => ∃ acc, H4 D = some (.lst acc) ∧ acc.length < sizeLine ∧ Nx (upd H4 D (.lst (acc ++ [y]))) else Nx H3)
def rLcL (K : PySem.W.Frag) (g : TG) (tt : TT) (te : TE) (vs : List Nat) (σ : L2.St) (Q : VK) : VK := fun x H1 => ∃ a, x = .ref a ∧ (∃ xs, SqL K H1 a xs) ∧ RLc (Itl K a) g tt te vs σ Q H1
def rLcT (K : PySem.W.Frag) (g : TG) (tt : TT) (te : TE) (vs : List Nat) (σ : L2.St) (Q : VK) : VK := fun x H1 => ∃ a, x = .ref a ∧ (∃ xs, SqT K H1 a xs) ∧ RLc (Itt K a) g tt te vs σ Q H1
def rLcR (g : TG) (tt : TT) (te : TE) (vs : List Nat) (σ : L2.St) (Q : VK) : List V → Hp → Prop := fun xs H1 => ∃ j : Int, xs = [.int j] ∧ -(2 ^ 62) ≤ j ∧ j < 2 ^ 62 ∧ RLc (Itr 0 j.toNat) g tt te vs σ Q H1
theorem x_lcL1 {tx : TE} {vs : List Nat} (q : tx σ H (rLcL K g t te vs σ Q)) : tLc (iList K tx) g t te vs σ H Q := q
theorem x_lcT1 {tx : TE} {vs : List Nat} (q : tx σ H (rLcT K g t te vs σ Q)) : tLc (iTup K tx) g t te vs σ H Q := q
theorem x_lcR1 {tr : TA} {vs : List Nat} (q : tr σ H (rLcR g t te vs σ Q)) : tLc (iRng1 tr) g t te vs σ H Q := q
/-- a list comprehension: Pv of the new list's place, the turn and the heap -/
theorem x_lcL {a : Addr} {xs : List V} {vs : List Nat} (Pv : Addr → Nat → Hp → Prop) (hx : SqL K H a xs) (h0 : ∀ Dl, Fr Dl H → Pv Dl 0 (upd H Dl (.lst []))) (hl : ∀ Dl i H', Fr Dl H → Pv Dl i H' → SqL K H' a xs)
    (hs : ∀ Dl, Fr Dl H → ∀ i x H', xs[i]? = some x → Pv Dl i H' → g x (wipe σ vs) H' fun σ2 H2 => wipe σ2 vs = wipe σ vs ∧ t σ2 H2 fun b H3 =>
      if b = true then te σ2 H3 fun y H4 => ∃ acc, H4 Dl = some (.lst acc) ∧ acc.length < sizeLine ∧ Pv Dl (i + 1) (upd H4 Dl (.lst (acc ++ [y]))) else Pv Dl (i + 1) H3)
    (hd : ∀ Dl H', Fr Dl H → Pv Dl xs.length H' → Q (.ref Dl) H') : rLcL K g t te vs σ Q (.ref a) H := ⟨a, rfl, ⟨xs, hx⟩, fun Dl hD =>
  lc_list (xs := xs) (Pv Dl) (h0 Dl ⟨hD⟩) (fun i H' _ p => hl Dl i H' ⟨hD⟩ p) (fun i x H' hi p => hs Dl ⟨hD⟩ i x H' hi p) (fun H' p => hd Dl H' ⟨hD⟩ p)⟩
theorem x_lcT {a : Addr} {xs : List V} {vs : List Nat} (Pv : Addr → Nat → Hp → Prop) (hx : SqT K H a xs) (h0 : ∀ Dl, Fr Dl H → Pv Dl 0 (upd H Dl (.lst []))) (hl : ∀ Dl i H', Fr Dl H → Pv Dl i H' → SqT K H' a xs)
    (hs : ∀ Dl, Fr Dl H → ∀ i x H', xs[i]? = some x → Pv Dl i H' → g x (wipe σ vs) H' fun σ2 H2 => wipe σ2 vs = wipe σ vs ∧ t σ2 H2 fun b H3 =>
      if b = true then te σ2 H3 fun y H4 => ∃ acc, H4 Dl = some (.lst acc) ∧ acc.length < sizeLine ∧ Pv Dl (i + 1) (upd H4 Dl (.lst (acc ++ [y]))) else Pv Dl (i + 1) H3)
    (hd : ∀ Dl H', Fr Dl H → Pv Dl xs.length H' → Q (.ref Dl) H') : rLcT K g t te vs σ Q (.ref a) H := ⟨a, rfl, ⟨xs, hx⟩, fun Dl hD =>
  lc_tup (xs := xs) (Pv Dl) (h0 Dl ⟨hD⟩) (fun i H' _ p => hl Dl i H' ⟨hD⟩ p) (fun i x H' hi p => hs Dl ⟨hD⟩ i x H' hi p) (fun H' p => hd Dl H' ⟨hD⟩ p)⟩
theorem x_lcR {m : Int} {vs : List Nat} (Pv : Addr → Nat → Hp → Prop) (hm : 0 ≤ m ∧ m ≤ 100000) (h0 : ∀ Dl, Fr Dl H → Pv Dl 0 (upd H Dl (.lst [])))
    (hs : ∀ Dl, Fr Dl H → ∀ (i : Nat) H', (i : Int) < m → Pv Dl i H' → g (.int (i : Int)) (wipe σ vs) H' fun σ2 H2 => wipe σ2 vs = wipe σ vs ∧ t σ2 H2 fun b H3 =>
      if b = true then te σ2 H3 fun y H4 => ∃ acc, H4 Dl = some (.lst acc) ∧ acc.length < sizeLine ∧ Pv Dl (i + 1) (upd H4 Dl (.lst (acc ++ [y]))) else Pv Dl (i + 1) H3)
    (hd : ∀ Dl H', Fr Dl H → Pv Dl m.toNat H' → Q (.ref Dl) H') : rLcR g t te vs σ Q [.int m] H := ⟨m, rfl, by omega, by omega, fun Dl hD =>
  lc_range (lo := 0) (n := m.toNat) (Pv Dl) (h0 Dl ⟨hD⟩) (fun i H' hi p => by
    have e0 : (0 : Int) + (i : Int) = (i : Int) := Int.zero_add _
    rw [e0]
    exact hs Dl ⟨hD⟩ i H' (by omega) p) (fun H' p => hd Dl H' ⟨hD⟩ p)⟩
def rLcE (K : PySem.W.Frag) (g : TG) (tt : TT) (te : TE) (vs : List Nat) (σ : L2.St) (Q : VK) : List V → Hp → Prop := fun vs' H1 => ∃ a xs, vs' = [.ref a] ∧ SqL K H1 a xs ∧ RLc (Ite K a) g tt te vs σ Q H1
theorem x_lcE1 {tr : TA} {vs : List Nat} (q : tr σ H (rLcE K g t te vs σ Q)) : tLc (iEnum K tr) g t te vs σ H Q := q
theorem x_lcE {a : Addr} {xs : List V} {vs : List Nat} (Pv : Addr → Nat → Hp → Prop) (hx : SqL K H a xs) (h0 : ∀ Dl, Fr Dl H → Pv Dl 0 (upd H Dl (.lst []))) (hl : ∀ Dl i H', Fr Dl H → Pv Dl i H' → SqL K H' a xs)
    (hs : ∀ Dl, Fr Dl H → ∀ i x H1 T H', xs[i]? = some x → Pv Dl i H1 → Fr T H1 → Same H1 H' → H' T = some (.tup [.int (i : Nat), x]) → g (.ref T) (wipe σ vs) H' fun σ2 H2 => wipe σ2 vs = wipe σ vs ∧ t σ2 H2 fun b H3 =>
      if b = true then te σ2 H3 fun y H4 => ∃ acc, H4 Dl = some (.lst acc) ∧ acc.length < sizeLine ∧ Pv Dl (i + 1) (upd H4 Dl (.lst (acc ++ [y]))) else Pv Dl (i + 1) H3)
    (hd : ∀ Dl H', Fr Dl H → Pv Dl xs.length H' → Q (.ref Dl) H') : rLcE K g t te vs σ Q [.ref a] H := ⟨a, xs, rfl, hx, fun Dl hD =>
  lc_it walk_enum (Pv Dl) (h0 Dl ⟨hD⟩) (fun i H' _ p => hl Dl i H' ⟨hD⟩ p) (fun i x H1 H' hi p y => by
    obtain ⟨T, u, v, rfl, hT, rfl, e1, e2⟩ := y
    cases Option.some.inj e1
    exact hs Dl ⟨hD⟩ i v H1 T _ e2 p ⟨hT⟩ (same_new hT) upd_same) (fun H' p => hd Dl H' ⟨hD⟩ p)⟩
/-- the end of a turn: what is kept goes into the list -/
def Keep (Dl : Addr) (N : Hp → Prop) : VK := fun y H => ∃ acc, H Dl = some (.lst acc) ∧ acc.length < sizeLine ∧ N (upd H Dl (.lst (acc ++ [y])))
theorem x_keep {Dl : Addr} {N : Hp → Prop} {acc : List V} (h : H Dl = some (.lst acc)) (hz : acc.length < 100000) (q : N (upd H Dl (.lst (acc ++ [y])))) : ∃ acc, H Dl = some (.lst acc) ∧ acc.length < sizeLine ∧ N (upd H Dl (.lst (acc ++ [y]))) := ⟨acc, h, size_lt hz, q⟩
theorem x_wiped {A : Prop} {a b : L2.St} (h : a = b) (q : A) : a = b ∧ A := ⟨h, q⟩
end

/-! ### lists -/
theorem map_at {α β : Type} {f : α → β} {xs : List α} {j : Nat} {x : α} (h : xs[j]? = some x) : (xs.map f)[j]? = some (f x) := by
  rw [List.getElem?_map, h]
  rfl
theorem of_map_at {α β : Type} {f : α → β} {xs : List α} {j : Nat} {y : β} (h : (xs.map f)[j]? = some y) : ∃ x, xs[j]? = some x ∧ y = f x := by
  rw [List.getElem?_map] at h
  obtain ⟨x, hx, rfl⟩ := Option.map_eq_some_iff.mp h
  exact ⟨x, hx, rfl⟩
theorem at_lt {α : Type} {xs : List α} {j : Nat} {x : α} (h : xs[j]? = some x) : j < xs.length := (List.getElem?_eq_some_iff.mp h).1
theorem lt_at {α : Type} {xs : List α} {j : Nat} (h : j < xs.length) : ∃ x, xs[j]? = some x := ⟨xs[j], List.getElem?_eq_getElem h⟩
theorem drop_at {α : Type} {xs : List α} {j : Nat} {x : α} (h : xs[j]? = some x) : xs.drop j = x :: xs.drop (j + 1) := by
  obtain ⟨h1, h2⟩ := List.getElem?_eq_some_iff.mp h
  rw [List.drop_eq_getElem_cons h1, h2]
theorem snoc_map {α β : Type} {f : α → β} {xs : List α} {x : α} : xs.map f ++ [f x] = (xs ++ [x]).map f := by
  rw [List.map_append]
  rfl
theorem mem_snoc {α : Type} {P : α → Prop} {xs : List α} {x : α} (h : ∀ y ∈ xs, P y) (hx : P x) : ∀ y ∈ xs ++ [x], P y := fun y hy => by
  rcases List.mem_append.mp hy with hy | hy
  · exact h y hy
  · rw [List.mem_singleton.mp hy]
    exact hx

def upto (a b : Int) : List Int := (List.range (b - a).toNat).map fun i => a + (i : Nat)
theorem rgV_ints (a b : Int) : rgV a b = (upto a b).map V.int := by
  unfold rgV upto
  rw [List.map_map]
  rfl
theorem upto_len (a b : Int) : (upto a b).length = (b - a).toNat := by
  unfold upto
  rw [List.length_map, List.length_range]
def nRg (Q : VK) : Int → Int → Hp → Prop := fun a b H1 => RgOk a b ∧ ∀ q, H1 q = none → Q (.ref q) (upd H1 q (.lst (rgV a b)))
theorem x_lstRg {σ : L2.St} {H : Hp} {Q : VK} {te : L2.St → Hp → (Int → Int → Hp → Prop) → Prop} (q : te σ H (nRg Q)) : tLstRg te σ H Q := q
theorem x_rg1 {σ : L2.St} {H : Hp} {ta : TE} {R : Int → Int → Hp → Prop} (q : ta σ H fun x H1 => ∃ n, x = .int n ∧ R 0 n H1) : tRg1 ta σ H R := q
theorem x_nRg {H : Hp} {Q : VK} {a b : Int} (h : 0 ≤ a ∧ a ≤ 100000 ∧ 0 ≤ b ∧ b ≤ 100000) (k : ∀ p H2, Fr p H → Same H H2 → H2 p = some (.lst ((upto a b).map V.int)) → Q (.ref p) H2) : nRg Q a b H :=
  ⟨RgOk.of_le (by omega) (by omega) (by omega) (by omega), fun p hp => k p _ ⟨hp⟩ (same_new hp) (by rw [upd_same, rgV_ints])⟩
theorem upto_at {a b : Int} {j : Nat} (h : (j : Int) < b - a) : (upto a b)[j]? = some (a + j) := by
  unfold upto
  rw [List.getElem?_map, List.getElem?_range (by omega)]
  rfl

/-! ### lists of lists of ints -/
/-- at a stands a list of lists of ints: L their places and what they hold -/
def LL (H : Hp) (a : Addr) (L : List (Addr × List Int)) : Prop := H a = some (.lst (L.map fun e => V.ref e.1)) ∧ ∀ e ∈ L, H e.1 = some (.lst (e.2.map V.int))
theorem ll_same {H H' : Hp} {a : Addr} {L : List (Addr × List Int)} (e : Same H H') (h : LL H a L) : LL H' a L := ⟨e _ _ h.1, fun p hp => e _ _ (h.2 p hp)⟩
theorem ll_nil {H : Hp} {a : Addr} (h : H a = some (.lst [])) : LL H a [] := ⟨h, fun _ z => absurd z List.not_mem_nil⟩
theorem ll_snoc {H H' : Hp} {a p : Addr} {ns : List Int} {L : List (Addr × List Int)} (h : LL H a L) (h1 : H' a = some (.lst ((L.map fun e => V.ref e.1) ++ [V.ref p]))) (h2 : H' p = some (.lst (ns.map V.int))) (k : ∀ e ∈ L, H' e.1 = H e.1) : LL H' a (L ++ [(p, ns)]) := by
  refine ⟨?_, fun e he => ?_⟩
  · rw [h1, List.map_append]
    rfl
  · rcases List.mem_append.mp he with he | he
    · rw [k e he]
      exact h.2 e he
    · rw [List.mem_singleton.mp he]
      exact h2

/-! ### data -/
def dInts (ns : List Int) : List PyData := ns.map PyData.int
theorem dp_ints {K : PySem.W.Frag} {H : Hp} : ∀ ns : List Int, DpAll K H (ns.map V.int) (dInts ns)
  | [] => .nil
  | n :: r => .cons (.int n) (dp_ints r)
theorem canLay_ints : ∀ ns : List Int, PyData.canLayAll0 (dInts ns) = true
  | [] => by simp [dInts, PyData.canLayAll0]
  | n :: r => by
    have h := canLay_ints r
    unfold dInts at h ⊢
    rw [List.map_cons]
    simp only [PyData.canLayAll0, PyData.canLay0, h, Bool.and_self]
theorem eqv_ints : ∀ ns ms : List Int, PyData.eqvAll (dInts ns) (dInts ms) = decide (ns = ms)
  | [], [] => by simp [dInts, PyData.eqvAll]
  | [], m :: r => by simp [dInts, PyData.eqvAll]
  | n :: r, [] => by simp [dInts, PyData.eqvAll]
  | n :: r, m :: q => by
    have h := eqv_ints r q
    unfold dInts at h ⊢
    rw [List.map_cons, List.map_cons, PyData.eqvAll, h, PyData.eqv]
    by_cases h1 : n = m <;> by_cases h2 : r = q <;> simp [h1, h2]
theorem canLayAll_map {α : Type} {f : α → PyData} : ∀ (xs : List α), (∀ x ∈ xs, (f x).canLay0 = true) → PyData.canLayAll0 (xs.map f) = true
  | [], _ => by simp [PyData.canLayAll0]
  | x :: r, h => by
    have h1 := h x List.mem_cons_self
    have h2 := canLayAll_map r fun y hy => h y (List.mem_cons_of_mem _ hy)
    rw [List.map_cons]
    simp only [PyData.canLayAll0, h1, h2, Bool.and_self]
theorem depthAll_map {α : Type} {f : α → PyData} {n : Nat} : ∀ (xs : List α), (∀ x ∈ xs, (f x).depth ≤ n) → PyData.depthAll (xs.map f) ≤ n
  | [], _ => by simp [PyData.depthAll]
  | x :: r, h => by
    have h1 := h x List.mem_cons_self
    have h2 := depthAll_map r fun y hy => h y (List.mem_cons_of_mem _ hy)
    rw [List.map_cons, PyData.depthAll]
    omega
theorem depth_ints : ∀ ns : List Int, PyData.depthAll (dInts ns) = 0
  | [] => by simp [dInts, PyData.depthAll]
  | n :: r => by
    have h := depth_ints r
    unfold dInts at h ⊢
    rw [List.map_cons, PyData.depthAll, h, PyData.depth]
    rfl
theorem shaped_lints (ns : List Int) : SeqAt.shaped (.list (dInts ns)) = true := by
  unfold SeqAt.shaped
  rw [PyData.canLay0, canLay_ints, PyData.depth, depth_ints]
  rfl
theorem shaped_tints (ns : List Int) : SeqAt.shaped (.tuple (dInts ns)) = true := by
  unfold SeqAt.shaped
  rw [PyData.canLay0, canLay_ints, PyData.depth, depth_ints]
  rfl
theorem eqv_lints (ns ms : List Int) : PyData.eqv (.list (dInts ns)) (.list (dInts ms)) = decide (ns = ms) := by
  rw [PyData.eqv]
  exact eqv_ints ns ms
theorem eqv_tints (ns ms : List Int) : PyData.eqv (.tuple (dInts ns)) (.tuple (dInts ms)) = decide (ns = ms) := by
  rw [PyData.eqv]
  exact eqv_ints ns ms
theorem shaped_of {d : PyData} (h1 : d.canLay0 = true) (h2 : d.depth ≤ 64) : SeqAt.shaped d = true := by
  unfold SeqAt.shaped
  rw [h1, decide_eq_true h2]
  rfl
theorem canLay_lints (ns : List Int) : PyData.canLay0 (.list (dInts ns)) = true := by
  rw [PyData.canLay0, canLay_ints]
theorem depth_lints (ns : List Int) : PyData.depth (.list (dInts ns)) = 1 := by
  rw [PyData.depth, depth_ints]
/-- lists of lists of ints as data -/
def dLists (ps : List (List Int)) : List PyData := ps.map fun p => .list (dInts p)
theorem canLay_lists (ps : List (List Int)) : PyData.canLayAll0 (dLists ps) = true := canLayAll_map ps fun p _ => canLay_lints p
theorem depth_lists (ps : List (List Int)) : PyData.depthAll (dLists ps) ≤ 1 := depthAll_map ps fun p _ => Nat.le_of_eq (depth_lints p)
theorem dp_list {K : PySem.W.Frag} {H : Hp} : ∀ (L : List (Addr × List Int)), (∀ e ∈ L, H e.1 = some (.lst (e.2.map V.int))) → DpAll K H (L.map fun e => V.ref e.1) (dLists (L.map (·.2)))
  | [], _ => .nil
  | e :: r, h => .cons (.lst (sq_of (h e List.mem_cons_self)) (dp_ints _)) (dp_list r fun x hx => h x (List.mem_cons_of_mem _ hx))
theorem dp_LL {K : PySem.W.Frag} {H : Hp} {a : Addr} {L : List (Addr × List Int)} (h : LL H a L) : Dp K H (.ref a) (.list (dLists (L.map (·.2)))) := .lst (sq_of h.1) (dp_list L h.2)
mutual
theorem dp_same {K : PySem.W.Frag} {H H' : Hp} (e : Same H H') : ∀ (d : PyData) (v : V), Dp K H v d → Dp K H' v d
  | .none, _, h => by cases h; exact .non
  | .bool b, _, h => by cases h; exact .bl b
  | .int i, _, h => by cases h; exact .int i
  | .str x, _, h => by cases h; exact .str x
  | .list ds, _, h => by
    cases h with
    | lst hs ha => exact .lst (sq_same hs e) (dpAll_same e ds _ ha)
  | .tuple ds, _, h => by
    cases h with
    | tup hs ha => exact .tup (st_same hs e) (dpAll_same e ds _ ha)
  | .dict _, _, h => by cases h
theorem dpAll_same {K : PySem.W.Frag} {H H' : Hp} (e : Same H H') : ∀ (ds : List PyData) (vs : List V), DpAll K H vs ds → DpAll K H' vs ds
  | [], _, h => by cases h; exact .nil
  | d :: ds, _, h => by
    cases h with
    | cons h1 h2 => exact .cons (dp_same e d _ h1) (dpAll_same e ds _ h2)
end
/-- equal data -/
theorem x_neSame {K : PySem.W.Frag} {H : Hp} {Q : VK} {x y : V} {d : PyData} (h : Dp K H x d) (h' : Dp K H y d) (c : d.canLay0 = true) (n : d.depth ≤ 64) (q : Q (.bl false) H) : rNeD K x y H Q :=
  ⟨d, d, h, h', shaped_of c n, shaped_of c n, by rw [SeqAt.eqv_refl d c]; exact q⟩
theorem x_eqSame {K : PySem.W.Frag} {H : Hp} {Q : VK} {x y : V} {d : PyData} (h : Dp K H x d) (h' : Dp K H y d) (c : d.canLay0 = true) (n : d.depth ≤ 64) (q : Q (.bl true) H) : rEqD K x y H Q :=
  ⟨d, d, h, h', shaped_of c n, shaped_of c n, by rw [SeqAt.eqv_refl d c]; exact q⟩
section
variable {K : PySem.W.Frag} {H : Hp} {Q : VK} {a c : Addr} {ns ms : List Int}
theorem x_neInts (h : SqL K H a (ns.map V.int)) (h' : SqL K H c (ms.map V.int)) (q : Q (.bl (!decide (ns = ms))) H) : rNeD K (.ref a) (.ref c) H Q :=
  ⟨.list (dInts ns), .list (dInts ms), .lst h (dp_ints ns), .lst h' (dp_ints ms), shaped_lints ns, shaped_lints ms, by rw [eqv_lints]; exact q⟩
theorem x_eqInts (h : SqL K H a (ns.map V.int)) (h' : SqL K H c (ms.map V.int)) (q : Q (.bl (decide (ns = ms))) H) : rEqD K (.ref a) (.ref c) H Q :=
  ⟨.list (dInts ns), .list (dInts ms), .lst h (dp_ints ns), .lst h' (dp_ints ms), shaped_lints ns, shaped_lints ms, by rw [eqv_lints]; exact q⟩
theorem x_neTInts (h : SqT K H a (ns.map V.int)) (h' : SqT K H c (ms.map V.int)) (q : Q (.bl (!decide (ns = ms))) H) : rNeD K (.ref a) (.ref c) H Q :=
  ⟨.tuple (dInts ns), .tuple (dInts ms), .tup h (dp_ints ns), .tup h' (dp_ints ms), shaped_tints ns, shaped_tints ms, by rw [eqv_tints]; exact q⟩
theorem x_eqTInts (h : SqT K H a (ns.map V.int)) (h' : SqT K H c (ms.map V.int)) (q : Q (.bl (decide (ns = ms))) H) : rEqD K (.ref a) (.ref c) H Q :=
  ⟨.tuple (dInts ns), .tuple (dInts ms), .tup h (dp_ints ns), .tup h' (dp_ints ms), shaped_tints ns, shaped_tints ms, by rw [eqv_tints]; exact q⟩
end
end Xk
/-! ## slices stored and deleted, properties, own objects -/
namespace Xk
open PySem PySem.Spec PyProof.Rows L2
section
variable {X : Cx} {o : Expr} {lo hi : Option Expr} {to : TE} {tl th : TO} {pos p2 tpos : Pos}
/-- o[lo:hi] = another list -/
def gSubSl (to : TE) (tl th : TO) : TG := fun v σ H R => to σ H fun x H1 => tl σ H1 fun l H2 => th σ H2 fun u H3 => ∃ (a b : Addr) (xs ys : List V) (i j : Int), x = .ref a ∧ v = .ref b ∧ l = some i ∧ u = some j ∧
  H3 a = some (.lst xs) ∧ H3 b = some (.lst ys) ∧ a ≠ b ∧ 0 ≤ i ∧ i ≤ j ∧ j ≤ xs.length ∧ xs.length + ys.length ≤ sizeLine ∧ R σ (upd H3 a (.lst (xs.take i.toNat ++ ys ++ xs.drop j.toNat)))
theorem pg_subSl (ho : PE X o to) (hl : PO X lo tl) (hu : PO X hi th)
    (ha : ∀ v, assign (.Subscript o (.Slice lo hi none p2) pos) X.env v = (do
      let ov ← holding [v] (eval o X.env)
      let iv ← holding [v, ov] (eval (.Slice lo hi none p2) X.env)
      standAt pos
      holding [v, ov, iv] (setItem ov iv v)
      release [iv, v, ov] []) := by intro _; rfl) : PG X (.Subscript o (.Slice lo hi none p2) pos) (gSubSl to tl th) := by
  refine ⟨fun pins s σ H v u Q I r h => ?_⟩
  rw [ha]
  refine wpAny_bind (wpAny_holding (thn (ho.run pins s σ H _ I h) fun ov s1 ⟨x, H1, I1, r1, q1⟩ => ?_))
  refine wpAny_bind (wpAny_holding ?_)
  refine wpAny_Slice (thn (hl.run pins s1 σ H1 _ I1 q1) fun vl s2 ⟨l, H2, I2, pl, q2⟩ => thn (hu.run pins s2 σ H2 _ I2 q2) fun vu s3 ⟨w, H3, I3, pu, q3⟩ => ?_)
  rw [evalPart_none]
  refine wpAny_pure ?_
  have I4 : Inv X pins σ H3 { s3 with heap := s3.heap.push { cls := .type "slice", data := .fields #[vl, vu, .none] } } := I3.kept (t' := s3.toks) fun b ob q => Heap.get?_push_of_some _ q
  obtain ⟨a, b, xs, ys, i, j, rfl, rfl, rfl, rfl, hA, hB, hne, h0, hij, hj, hz, q⟩ := q3
  cases r1
  cases r
  cases pl with
  | int _ ti =>
  cases pu with
  | int _ tj =>
  refine wpAny_bind (wpAny_standAt (wpAny_bind (wpAny_holding ?_)))
  exact set_slice I4 hA hB hne (Heap.IsSliceOf.new ..) ⟨_, rfl⟩ ⟨_, rfl⟩ h0 hij hj hz fun s' I5 => wpAny_release ⟨σ, _, I5, q⟩

theorem sel_take (f : Nat → Bool) (i n : Nat) (h : ∀ k : Nat, f k = (decide ((i : Int) ≤ (k : Int)) && decide ((k : Int) < (n : Int)) && (((k : Int) - (i : Int)) % 1 == 0))) :
    ∀ (xs : List Value) (m : Nat), m + xs.length ≤ n → (xs.zipIdx m).filterMap (fun (x, k) => if f k then none else some x) = xs.take (i - m)
  | [], m, hm => by simp
  | x :: r, m, hm => by
    rw [List.length_cons] at hm
    have ih := sel_take f i n h r (m + 1) (by omega)
    rw [List.zipIdx_cons, List.filterMap_cons]
    have hf : f m = decide (i ≤ m) := by
      rw [h m]
      by_cases h1 : i ≤ m
      · have h2 : (i : Int) ≤ (m : Int) := by omega
        have h3 : (m : Int) < (n : Int) := by omega
        have h4 : ((m : Int) - (i : Int)) % 1 = 0 := by omega
        rw [h4, decide_eq_true h1, decide_eq_true h2, decide_eq_true h3]
        rfl
      · have h2 : ¬ (i : Int) ≤ (m : Int) := by omega
        rw [decide_eq_false h1, decide_eq_false h2]
        rfl
    by_cases h1 : i ≤ m
    · have e : f m = true := by rw [hf, decide_eq_true h1]
      simp only [e, if_true]
      rw [ih, show i - (m + 1) = 0 by omega, show i - m = 0 by omega]
      rfl
    · have e : f m = false := by rw [hf, decide_eq_false h1]
      simp only [e]
      show x :: _ = _
      rw [ih, show i - m = (i - (m + 1)) + 1 by omega]
      rfl
theorem bounds_from {i n : Nat} (hi : i ≤ n) : sliceBounds (some (i : Int)) none none n = ((i : Int), (n : Int), 1) := by
  simp only [sliceBounds, Option.getD_none]
  have h1 : ¬ ((i : Int) < 0) := by omega
  simp only [h1, if_false, show (1 : Int) > 0 by decide, if_true]
  congr 1
  omega
section
variable {prog : Program} {w : World} {A : Around} {E : Value → Shared → Prop} {s : Shared}
open PySem.P PySem.F in
theorem delItem_tail {l sl : Addr} {items : Array Value} {n : Nat} {vl : Value} {i : Nat} {Q : Unit → Shared → Prop}
    (e : s.heap.get? l = some { cls := .type "list", data := .seq items n }) (hs : s.heap.IsSliceOf sl vl .none .none) (pl : IsPart vl (some (i : Int))) (hi : i ≤ items.size) (hsz : items.size ≤ sizeLine)
    (h : ∀ f : Array Value → Array Value, f items = (items.toList.take i).toArray → Q () { s with heap := s.heap.update l (Obj.mapSeq f) }) :
    wpAny (model prog w) A (delItem (.ref l) (.ref sl)) Q E s := by
  have hl : s.heap.IsList l items := PySem.IsL.isList e
  obtain ⟨os, hos, hcs, hds⟩ := id hs
  have hTs : s.TypeIs (.ref sl) "slice" := ⟨os, hos, hcs⟩
  have hstep : ¬ ((rawPart none == rawInt 0) = true) := Bool.false_ne_true
  unfold delItem
  refine wpAny_holding ?_
  refine wpAny_bind (wpAny_sequenceKey hl.typeIs (by decide) ?_)
  refine wpAny_bind (wpAny_callSpecial?_slot (name := Str.ofString "__delitem__") hl.typeIs PySem.F.slot_list_delitem
    (wpAny_call_entry PySem.F.slot_list_delitem hl.typeIs PySem.F.entry_list_delitem ?_ (PySem.F.args_list_delitem_2 _ _)))
  show wpAny _ _ (Builtin.List.listSubscript? (.ref sl) >>= _) _ _ s
  refine wpAny_bind ?_
  unfold Builtin.List.listSubscript?
  refine wpAny_bind (wpAny_specialOf hTs slice_no_index ?_)
  simp only [Option.isNone_none, if_true]
  refine wpAny_pure ?_
  show wpAny _ _ (typeOf (.ref sl) >>= _) _ _ s
  refine wpAny_bind (wpAny_typeOf hTs ?_)
  first
    | rw [if_neg (by decide)]
    | refine PySem.W.KFB.if_not (by decide) ?_
  rw [listSliceParts_eq]
  refine wpAny_bind (wpAny_bind (wpAny_field hos hds (x := .none) rfl (wpAny_bind (wpAny_listPart .none ?_))))
  rw [if_neg hstep]
  refine wpAny_bind (wpAny_field hos hds (x := vl) rfl (wpAny_bind (wpAny_listPart pl ?_)))
  refine wpAny_bind (wpAny_field hos hds (x := .none) rfl (wpAny_bind (wpAny_listPart .none (wpAny_pure ?_))))
  refine wpAny_bind (m := Builtin.List.listItems (.ref l)) ?_
  unfold Builtin.List.listItems
  refine wpAny_bind (wpAny_seqItems e rfl (wpAny_pure ?_))
  refine wpAny_bind (wpAny_of_eq ((sliceIndices_raw (some (i : Int)) none none items.size (by simp)).trans (congrArg (pure : Int × Int × Int → Sem (Int × Int × Int)) (bounds_from hi))) ?_)
  refine wpAny_bind (wpAny_rule ?_)
  show wpAny _ _ (updateSeq l _ >>= _) _ _ s
  have hf := sel_take _ i items.size (fun k => rfl) items.toList 0 (by simp)
  refine wpAny_bind (wpAny_updateSeq (hz := hsz) (_hz' := ?_) e rfl ?_)
  refine wpAny_bind (wpAny_letGo ?_)
  · exact wpAny_pure ⟨.none, rfl, wpAny_pure (h _ (congrArg List.toArray hf))⟩
  · refine Nat.le_trans (Nat.le_of_eq (congrArg Array.size (congrArg List.toArray hf))) ?_
    rw [List.size_toArray, List.length_take, Array.length_toList]
    omega
end
variable {pins : List (Addr × Obj)}
theorem del_tail {s : Shared} {σ : L2.St} {H : Hp} {l sl : Addr} {xs : List V} {i : Nat} {vl : Value} {Q : Unit → Shared → Prop} (I : Inv X pins σ H s) (hH : H l = some (.lst xs))
    (hs : s.heap.IsSliceOf sl vl .none .none) (pl : IsPart vl (some (i : Int))) (hi : i ≤ xs.length) (h : ∀ s', Inv X pins σ (upd H l (.lst (xs.take i))) s' → Q () s') :
    wpAny (model X.prog X.w) X.A (delItem (.ref l) (.ref sl)) Q X.xe s := by
  obtain ⟨z, its, n, r, hl, e⟩ := I.lstM hH
  refine delItem_tail e hs pl (by rw [List.size_toArray]; omega) (by rw [List.size_toArray]; omega) fun f hf => h _ ?_
  refine I.lset (its' := its.take i) (t' := s.toks) hH e ?_ (r.take i) ?_
  · rw [hf]
  · rw [List.length_take]
    omega
/-- del o[i:] -/
def tDelT (to : TE) (tl : TO) : TS := fun D σ H => to σ H fun x H1 => tl σ H1 fun u H2 => ∃ (l : Addr) (xs : List V) (i : Nat), x = .ref l ∧ u = some (i : Int) ∧ H2 l = some (.lst xs) ∧ i ≤ xs.length ∧ D.nx σ (upd H2 l (.lst (xs.take i)))
theorem ps_delT (ho : PE X o to) (hl : PO X lo tl) : PS X (.Delete [.Subscript o (.Slice lo none none p2) tpos] pos) (tDelT to tl) := by
  refine ⟨fun pins s σ H D I h => ?_⟩
  refine wpAny_Delete (wpAny_deleteEach_cons (wpAny_delete_Subscript (thn (ho.run pins s σ H _ I h) fun u s1 ⟨x, H1, I1, rx, q1⟩ => ?_)))
  refine wpAny_Slice (thn (hl.run pins s1 σ H1 _ I1 q1) fun vl s2 ⟨w, H2, I2, pl, q2⟩ => ?_)
  rw [evalPart_none]
  refine wpAny_pure (wpAny_pure ?_)
  have I4 : Inv X pins σ H2 { s2 with heap := s2.heap.push { cls := .type "slice", data := .fields #[vl, .none, .none] } } := I2.kept (t' := s2.toks) fun b ob q => Heap.get?_push_of_some _ q
  obtain ⟨l, xs, i, rfl, rfl, hA, hi, q⟩ := q2
  cases rx
  exact del_tail I4 hA (Heap.IsSliceOf.new ..) pl hi fun s3 I3 => wpAny_deleteEach_nil ⟨σ, _, I3, q⟩
end
section
variable {K : PySem.W.Frag} {σ σ2 : L2.St} {H H1 H2 : Hp} {Q : VK} {ta tv te te1 : TE} {D : Ends} {tz : TS} {g g1 : TG} {t tt1 : TT} {x v : V}
theorem k_pil {X : Cx} {tg l : Expr} {tl : TE} (e : X.K = K) (h : PE X l tl) : PI X tg l (iList K tl) := e ▸ pi_list h
/-- the inner for of a comprehension -/
def RIn (J : It) (g1 : TG) (tt1 : TT) (te : TE) (vs1 : List Nat) (σ2 : L2.St) (Dl : Addr) (N : Hp → Prop) : Hp → Prop := fun H4 => ∃ W1 : Nat → Nat → Hp → Prop, (∃ m, W1 0 m H4) ∧ ∀ j k H, W1 j k H →
  (J.stop j H ∧ N H) ∨ (J.go j H ∧ ∃ Nx1 : Hp → Prop, (∀ H', Nx1 H' → ∃ k', k' < k ∧ W1 (j + 1) k' H') ∧ ∀ x H', J.yld j H x H' → g1 x (wipe σ2 vs1) H' fun σ3 H5 => wipe σ3 vs1 = wipe σ2 vs1 ∧ tt1 σ3 H5 fun b H6 =>
    if b = true then te σ3 H6 fun y H7 => ∃ acc, H7 Dl = some (.lst acc) ∧ acc.length < sizeLine ∧ Nx1 (upd H7 Dl (.lst (acc ++ [y]))) else Nx1 H6)
def rInL (K : PySem.W.Frag) (g1 : TG) (tt1 : TT) (te : TE) (vs1 : List Nat) (σ2 : L2.St) (Dl : Addr) (N : Hp → Prop) : VK := fun x H4 => ∃ a, x = .ref a ∧ (∃ xs, SqL K H4 a xs) ∧ RIn (Itl K a) g1 tt1 te vs1 σ2 Dl N H4
theorem x_infL {a Dl : Addr} {xs : List V} {vs1 : List Nat} {N : Hp → Prop} (Pv : Nat → Hp → Prop) (hx : SqL K H a xs) (p0 : Pv 0 H) (hl : ∀ i H', Pv i H' → SqL K H' a xs)
    (hs : ∀ i x H', xs[i]? = some x → Pv i H' → g1 x (wipe σ2 vs1) H' fun σ3 H5 => wipe σ3 vs1 = wipe σ2 vs1 ∧ tt1 σ3 H5 fun b H6 => if b = true then te σ3 H6 (fun y H7 => ∃ acc, H7 Dl = some (.lst acc) ∧ acc.length < sizeLine ∧ Pv (i + 1) (upd H7 Dl (.lst (acc ++ [y])))) else Pv (i + 1) H6)
    (hd : ∀ H', Pv xs.length H' → N H') : rInL K g1 tt1 te vs1 σ2 Dl N (.ref a) H := by
  refine ⟨a, rfl, ⟨xs, hx⟩, fun i m H => m = xs.length - i ∧ i ≤ xs.length ∧ Pv i H, ⟨xs.length, by simp, Nat.zero_le _, p0⟩, ?_⟩
  rintro i m H' ⟨rfl, hi, p⟩
  have q := hl i H' p
  by_cases hlt : i < xs.length
  · refine .inr ⟨⟨xs, xs[i], q, by simp [hlt]⟩, Pv (i + 1), fun H' p' => ⟨xs.length - (i + 1), by omega, rfl, hlt, p'⟩, fun x H2 y => ?_⟩
    obtain ⟨e, y⟩ := y
    subst e
    exact hs i x _ (y xs q) p
  · have e : i = xs.length := by omega
    subst e
    exact .inl ⟨⟨xs, q, Nat.le_refl _⟩, hd H' p⟩
/-- the outer for -/
def rLc2L (K : PySem.W.Frag) (g : TG) (te1 : TE) (g1 : TG) (tt1 : TT) (te : TE) (vs vs1 : List Nat) (σ : L2.St) (Q : VK) : VK := fun x H1 => ∃ a, x = .ref a ∧ (∃ xs, SqL K H1 a xs) ∧ ∀ D, H1 D = none → ∃ W : Nat → Nat → Hp → Prop, (∃ m, W 0 m (upd H1 D (.lst []))) ∧ ∀ i m H, W i m H →
  ((Itl K a).stop i H ∧ Q (.ref D) H) ∨ ((Itl K a).go i H ∧ ∃ Nx : Hp → Prop, (∀ H', Nx H' → ∃ m', m' < m ∧ W (i + 1) m' H') ∧ ∀ x H', (Itl K a).yld i H x H' → g x (wipe σ vs) H' fun σ2 H2 => wipe σ2 vs = wipe σ vs ∧
    te1 σ2 H2 (rInL K g1 tt1 te vs1 σ2 D Nx))
theorem x_lc2 {tx : TE} {vs vs1 : List Nat} (q : tx σ H (rLc2L K g te1 g1 tt1 te vs vs1 σ Q)) : tLc2 (iList K tx) g tYes (iList K te1) g1 tt1 te vs vs1 σ H Q := q
theorem x_lc2L {a : Addr} {xs : List V} {vs vs1 : List Nat} (Pv : Addr → Nat → Hp → Prop) (hx : SqL K H a xs) (h0 : ∀ Dl, Fr Dl H → Pv Dl 0 (upd H Dl (.lst []))) (hl : ∀ Dl i H', Fr Dl H → Pv Dl i H' → SqL K H' a xs)
    (hs : ∀ Dl, Fr Dl H → ∀ i x H', xs[i]? = some x → Pv Dl i H' → g x (wipe σ vs) H' fun σ2 H2 => wipe σ2 vs = wipe σ vs ∧ te1 σ2 H2 (rInL K g1 tt1 te vs1 σ2 Dl (Pv Dl (i + 1))))
    (hd : ∀ Dl H', Fr Dl H → Pv Dl xs.length H' → Q (.ref Dl) H') : rLc2L K g te1 g1 tt1 te vs vs1 σ Q (.ref a) H := by
  refine ⟨a, rfl, ⟨xs, hx⟩, fun Dl hD => ⟨fun i m H => m = xs.length - i ∧ i ≤ xs.length ∧ Pv Dl i H, ⟨xs.length, by simp, Nat.zero_le _, h0 Dl ⟨hD⟩⟩, ?_⟩⟩
  rintro i m H' ⟨rfl, hi, p⟩
  have q := hl Dl i H' ⟨hD⟩ p
  by_cases hlt : i < xs.length
  · refine .inr ⟨⟨xs, xs[i], q, by simp [hlt]⟩, Pv Dl (i + 1), fun H' p' => ⟨xs.length - (i + 1), by omega, rfl, hlt, p'⟩, fun x H2 y => ?_⟩
    obtain ⟨e, y⟩ := y
    subst e
    exact hs Dl ⟨hD⟩ i x _ (y xs q) p
  · have e : i = xs.length := by omega
    subst e
    exact .inl ⟨⟨xs, q, Nat.le_refl _⟩, hd Dl H' ⟨hD⟩ p⟩
/-- attributes -/
theorem x_fld {a C dx : Addr} {fs : List (Str × V)} {f : Str} (h : H a = some (.ins C dx fs)) (c : Cls K C) (n : NoAttr K C f) (l : fs.lookup f = some v) (q : Q v H) : (∃ a' C dx fs v, V.ref a = .ref a' ∧ H a' = some (.ins C dx fs) ∧ Cls K C ∧ NoAttr K C f ∧ fs.lookup f = some v ∧ Q v H) :=
  ⟨a, C, dx, fs, v, rfl, h, c, n, l, q⟩
/-- what is read from an instance -/
def rFld (K : PySem.W.Frag) (f : Str) (Q : VK) : VK := fun x H1 => ∃ a C dx fs v, x = .ref a ∧ H1 a = some (.ins C dx fs) ∧ Cls K C ∧ NoAttr K C f ∧ fs.lookup f = some v ∧ Q v H1
theorem x_fld1 {f : Str} (q : ta σ H (rFld K f Q)) : tFld K ta f σ H Q := q
theorem x_rFld {a C dx : Addr} {fs : List (Str × V)} {f : Str} (h : H a = some (.ins C dx fs)) (c : Cls K C) (n : NoAttr K C f) (l : fs.lookup f = some v) (q : Q v H) : rFld K f Q (.ref a) H := ⟨a, C, dx, fs, v, rfl, h, c, n, l, q⟩
def rSetF (K : PySem.W.Frag) (f : Str) (y : V) (R : Hp → Prop) : VK := fun x H2 => ∃ a C dx fs, x = .ref a ∧ H2 a = some (.ins C dx fs) ∧ Cls K C ∧ NoAttr K C f ∧ fs.length < 1000 ∧ R (upd H2 a (.ins C dx (putF f y fs)))
theorem x_sfld {f : Str} (q : tv σ H fun y H1 => ta σ H1 (rSetF K f y (D.nx σ))) : sFld K ta tv f D σ H := q
theorem x_ssfld {f : Str} (q : tv σ H fun y H1 => ta σ H1 (rSetF K f y fun H2 => tz D σ H2)) : tSeq (sFld K ta tv f) tz D σ H := q
theorem x_rSetF {a C dx : Addr} {fs : List (Str × V)} {f : Str} {R : Hp → Prop} (h : H a = some (.ins C dx fs)) (c : Cls K C) (n : NoAttr K C f) (l : fs.length < 1000) (q : R (upd H a (.ins C dx (putF f x fs)))) : rSetF K f x R (.ref a) H := ⟨a, C, dx, fs, rfl, h, c, n, l, q⟩
def rProp (C : Addr) (sp : Sp) (dvs : List V) (E : XK) (Q : VK) : VK := fun x H1 => ∃ a dx fs, x = .ref a ∧ H1 a = some (.ins C dx fs) ∧ sp (.ref a :: dvs) H1 Q E
theorem x_prop {C : Addr} {sp : Sp} {dvs : List V} {E : XK} (q : ta σ H (rProp C sp dvs E Q)) : tProp C sp dvs E ta σ H Q := q
theorem x_rProp {a C dx : Addr} {fs : List (Str × V)} {sp : Sp} {dvs : List V} {E : XK} (h : H a = some (.ins C dx fs)) (q : sp (.ref a :: dvs) H Q E) : rProp C sp dvs E Q (.ref a) H := ⟨a, dx, fs, rfl, h, q⟩
def rMeth (C : Addr) (m : Str) (tr : TA) (sp : Sp) (dvs : List V) (E : XK) (σ : L2.St) (Q : VK) : VK := fun x H1 => ∃ a dx fs, x = .ref a ∧ H1 a = some (.ins C dx fs) ∧ fs.lookup m = none ∧ tr σ H1 fun vs H2 => sp (x :: (vs ++ dvs)) H2 Q E
theorem x_meth {C : Addr} {m : Str} {tr : TA} {sp : Sp} {dvs : List V} {E : XK} (q : ta σ H (rMeth C m tr sp dvs E σ Q)) : tMeth C m sp dvs E ta tr σ H Q := q
theorem x_rMeth {a C dx : Addr} {fs : List (Str × V)} {m : Str} {tr : TA} {sp : Sp} {dvs : List V} {E : XK} (h : H a = some (.ins C dx fs)) (l : fs.lookup m = none) (q : tr σ H fun vs H2 => sp (.ref a :: (vs ++ dvs)) H2 Q E) : rMeth C m tr sp dvs E σ Q (.ref a) H := ⟨a, dx, fs, rfl, h, l, q⟩
def rMake (C : Addr) (sp : Sp) (dvs : List V) (E : XK) (Q : VK) : List V → Hp → Prop := fun vs H1 => ∀ x dx, H1 x = none → H1 dx = none → dx ≠ x → sp (.ref x :: (vs ++ dvs)) (upd (upd H1 dx (.own x)) x (.ins C dx [])) (fun v H2 => v = .non ∧ Q (.ref x) H2) E
theorem x_make {C : Addr} {tr : TA} {sp : Sp} {dvs : List V} {E : XK} (q : tr σ H (rMake C sp dvs E Q)) : tMake C sp dvs E tr σ H Q := q
theorem x_rMake {C : Addr} {sp : Sp} {dvs vs : List V} {E : XK} (k : ∀ x dx H2, Fr x H → Fr dx H → dx ≠ x → Same H H2 → H2 dx = some (.own x) → H2 x = some (.ins C dx []) → sp (.ref x :: (vs ++ dvs)) H2 (fun v H3 => v = .non ∧ Q (.ref x) H3) E) : rMake C sp dvs E Q vs H :=
  fun x dx hx hd hn => k x dx _ ⟨hx⟩ ⟨hd⟩ hn (same_mut (same_fr ⟨hd⟩) ⟨hx⟩) ((upd_ne hn).trans upd_same) upd_same
/-- slices stored and deleted -/
def rDelT (R : Hp → Prop) (l : Addr) (xs : List V) (i : Nat) (u : Option Int) (H2 : Hp) : Prop := u = some (i : Int) ∧ H2 l = some (.lst xs) ∧ i ≤ xs.length ∧ R (upd H2 l (.lst (xs.take i)))
theorem x_delT {to : TE} {tl : TO} (q : to σ H fun x H1 => tl σ H1 fun u H2 => ∃ l xs i, x = .ref l ∧ rDelT (D.nx σ) l xs i u H2) : tDelT to tl D σ H := q
theorem x_sdelT {to : TE} {tl : TO} (q : to σ H fun x H1 => tl σ H1 fun u H2 => ∃ l xs i, x = .ref l ∧ rDelT (fun H3 => tz D σ H3) l xs i u H2) : tSeq (tDelT to tl) tz D σ H := q
theorem x_rDelT {l : Addr} {xs : List V} {i : Nat} {k : Int} {R : Hp → Prop} (e : k = (i : Int)) (h : H l = some (.lst xs)) (hi : i ≤ xs.length) (q : R (upd H l (.lst (xs.take i)))) : ∃ l' xs i', V.ref l = .ref l' ∧ rDelT R l' xs i' (some k) H := ⟨l, xs, i, rfl, by rw [e], h, hi, q⟩
end
end Xk
/-! ## pairs in order, defs with defaults -/
namespace Xk
open PySem PySem.Spec PyProof.Rows L2
/-- the pair (p, q) stands below (r, s) -/
def Bf (p q r s : Int) : Prop := p < r ∨ (p = r ∧ q < s)
instance {p q r s : Int} : Decidable (Bf p q r s) := by unfold Bf; infer_instance
section
variable {X : Cx} {K : PySem.W.Frag} {H : Hp} {Q : VK} {a b : Addr} {p q r s : Int}
theorem pair_in {pins : List (Addr × Obj)} {σ : L2.St} {z : Shared} (I : Inv X pins σ H z) (h : SqT X.K H a [.int p, .int q]) : ∃ t u, z.heap.IsTuple a #[.int p t, .int q u] := by
  obtain ⟨vs, rv, it, _⟩ := I.tuple h
  cases rv with
  | cons x y =>
    cases y with
    | cons y w =>
      cases w
      obtain ⟨t, rfl⟩ := x
      obtain ⟨u, rfl⟩ := y
      exact ⟨t, u, it⟩
theorem eq_ints {A : Around} {z : Shared} (i j : Int) (t u : Tok) : SeqAt.EqAt A z (.int i t) (.int j u) (decide (i = j)) := by
  have h : (i == j) = decide (i = j) := by
    by_cases e : i = j
    · subst e
      simp
    · simp [e]
  rw [← h]
  exact SeqAt.EqAt.int_int _ _ _ _
def rGeP (K : PySem.W.Frag) : R2 := fun x y H Q => ∃ a b p q r s, x = .ref a ∧ y = .ref b ∧ SqT K H a [.int p, .int q] ∧ SqT K H b [.int r, .int s] ∧ Q (.bl (!decide (Bf p q r s))) H
def rLtP (K : PySem.W.Frag) : R2 := fun x y H Q => ∃ a b p q r s, x = .ref a ∧ y = .ref b ∧ SqT K H a [.int p, .int q] ∧ SqT K H b [.int r, .int s] ∧ Q (.bl (decide (Bf p q r s))) H
theorem op_geP (hu : X.A.units < cLine) : OpR X (compareOp .GtE) (rGeP X.K) := by
  intro pins σ0 σ H x y v u Q I rx ry h
  obtain ⟨a, b, p, q, r, s, rfl, rfl, ha, hb, k⟩ := h
  cases rx
  cases ry
  obtain ⟨t1, t2, ia⟩ := pair_in I ha
  obtain ⟨t3, t4, ib⟩ := pair_in I hb
  have R := Ob.RcOp.tuples_ge (e := fun j => if j = 0 then decide (p = r) else decide (q = s)) (r := fun j => if j = 0 then decide (r ≤ p) else decide (s ≤ q)) ia ib hu
    (fun j h1 h2 => match j, h1, h2 with | 0, _, _ => eq_ints _ _ _ _ | 1, _, _ => eq_ints _ _ _ _ | j + 2, z, _ => absurd (show j + 2 < 2 from z) (by omega))
    (fun j h1 h2 _ => match j, h1, h2 with | 0, _, _ => Ob.RcOp.ge_int _ _ _ _ | 1, _, _ => Ob.RcOp.ge_int _ _ _ _ | j + 2, z, _ => absurd (show j + 2 < 2 from z) (by omega))
  refine R X.prog X.w X.xe _ ?_
  have e : Ob.lexAt (fun j => if j = 0 then decide (p = r) else decide (q = s)) (fun j => if j = 0 then decide (r ≤ p) else decide (s ≤ q)) (decide (2 ≥ 2)) 0 2 = !decide (Bf p q r s) := by
    simp only [Ob.lexAt_succ, Ob.lexAt_zero, Bf]
    by_cases h1 : p = r
    · by_cases h2 : q = s
      · simp [h1, h2]
      · by_cases h3 : s ≤ q
        · have h4 : ¬ q < s := by omega
          simp [h1, h2, h3, h4]
        · have h4 : q < s := by omega
          simp [h1, h2, h3, h4]
    · by_cases h3 : r ≤ p
      · have h4 : ¬ p < r := by omega
        simp [h1, h3, h4]
      · have h4 : p < r := by omega
        simp [h1, h3, h4]
  exact ⟨.bl _, H, I, rfl, (congrArg (fun z => Q (.bl z) H) e).mpr k⟩
theorem op_ltP (hu : X.A.units < cLine) : OpR X (compareOp .Lt) (rLtP X.K) := by
  intro pins σ0 σ H x y v u Q I rx ry h
  obtain ⟨a, b, p, q, r, s, rfl, rfl, ha, hb, k⟩ := h
  cases rx
  cases ry
  obtain ⟨t1, t2, ia⟩ := pair_in I ha
  obtain ⟨t3, t4, ib⟩ := pair_in I hb
  have R := Ob.RcOp.tuples_lt (e := fun j => if j = 0 then decide (p = r) else decide (q = s)) (r := fun j => if j = 0 then decide (p < r) else decide (q < s)) ia ib hu
    (fun j h1 h2 => match j, h1, h2 with | 0, _, _ => eq_ints _ _ _ _ | 1, _, _ => eq_ints _ _ _ _ | j + 2, z, _ => absurd (show j + 2 < 2 from z) (by omega))
    (fun j h1 h2 _ => match j, h1, h2 with | 0, _, _ => Ob.RcOp.lt_int _ _ _ _ | 1, _, _ => Ob.RcOp.lt_int _ _ _ _ | j + 2, z, _ => absurd (show j + 2 < 2 from z) (by omega))
  refine R X.prog X.w X.xe _ ?_
  have e : Ob.lexAt (fun j => if j = 0 then decide (p = r) else decide (q = s)) (fun j => if j = 0 then decide (p < r) else decide (q < s)) (decide (2 < 2)) 0 2 = decide (Bf p q r s) := by
    simp only [Ob.lexAt_succ, Ob.lexAt_zero, Bf]
    by_cases h1 : p = r
    · by_cases h2 : q = s
      · simp [h1, h2]
      · by_cases h3 : q < s
        · simp [h1, h2, h3]
        · simp [h1, h2, h3]
    · by_cases h3 : p < r
      · simp [h1, h3]
      · simp [h1, h3]
  exact ⟨.bl _, H, I, rfl, (congrArg (fun z => Q (.bl z) H) e).mpr k⟩
theorem k_geP (hu : X.A.units + 64 < cLine) (e : X.K = K) : OpR X (compareOp .GtE) (rGeP K) := e ▸ op_geP (by omega)
theorem k_ltP (hu : X.A.units + 64 < cLine) (e : X.K = K) : OpR X (compareOp .Lt) (rLtP K) := e ▸ op_ltP (by omega)
theorem x_geP (h : SqT K H a [.int p, .int q]) (h' : SqT K H b [.int r, .int s]) (k : Q (.bl (!decide (Bf p q r s))) H) : rGeP K (.ref a) (.ref b) H Q := ⟨a, b, p, q, r, s, rfl, rfl, h, h', k⟩
theorem x_ltP (h : SqT K H a [.int p, .int q]) (h' : SqT K H b [.int r, .int s]) (k : Q (.bl (decide (Bf p q r s))) H) : rLtP K (.ref a) (.ref b) H Q := ⟨a, b, p, q, r, s, rfl, rfl, h, h', k⟩
def nMax2 : List V → Hp → VK → Prop := fun xs H Q => ∃ i j : Int, xs = [.int i, .int j] ∧ Q (.int (max i j)) H
def nMin2 : List V → Hp → VK → Prop := fun xs H Q => ∃ i j : Int, xs = [.int i, .int j] ∧ Q (.int (min i j)) H
theorem call_nMax2 (hc : X.calm = true) : CallR X (.builtin "max") nMax2 := by
  intro pins s σ H xs us Q I r h
  obtain ⟨i, j, e, q⟩ := h
  refine call_max2 hc pins s σ H xs us Q I r ⟨i, j, e, ?_⟩
  have z : (if j > i then j else i) = max i j := by
    by_cases h : i < j
    · rw [if_pos h]
      omega
    · rw [if_neg h]
      omega
  rw [z]
  exact q
theorem call_nMin2 (hc : X.calm = true) : CallR X (.builtin "min") nMin2 := by
  intro pins s σ H xs us Q I r h
  obtain ⟨i, j, e, q⟩ := h
  refine call_min2 hc pins s σ H xs us Q I r ⟨i, j, e, ?_⟩
  have z : (if j < i then j else i) = min i j := by
    by_cases h : j < i
    · rw [if_pos h]
      omega
    · rw [if_neg h]
      omega
  rw [z]
  exact q
theorem x_nMax2 {i j : Int} (k : Q (.int (max i j)) H) : nMax2 [.int i, .int j] H Q := ⟨i, j, rfl, k⟩
theorem x_nMin2 {i j : Int} (k : Q (.int (min i j)) H) : nMin2 [.int i, .int j] H Q := ⟨i, j, rfl, k⟩
/-- lists and tuples stay, though an own object changes -/
structure Sk (K : PySem.W.Frag) (H H' : Hp) : Prop where
  l : ∀ a xs, SqL K H a xs → SqL K H' a xs
  t : ∀ a xs, SqT K H a xs → SqT K H' a xs
theorem sk_same {H' : Hp} (e : Same H H') : Sk K H H' := ⟨fun _ _ h => sq_same h e, fun _ _ h => st_same h e⟩
theorem Sk.refl (H : Hp) : Sk K H H := ⟨fun _ _ h => h, fun _ _ h => h⟩
theorem Sk.trans {H' H'' : Hp} (e : Sk K H H') (e' : Sk K H' H'') : Sk K H H'' := ⟨fun a xs h => e'.l a xs (e.l a xs h), fun a xs h => e'.t a xs (e.t a xs h)⟩
theorem sk_but {H' : Hp} {C dx : Addr} {fs : List (Str × V)} (hi : H a = some (.ins C dx fs)) (e : But a H H') : Sk K H H' := by
  have key : ∀ b o, H b = some o → (∀ C dx fs, o ≠ .ins C dx fs) → H' b = some o := fun b o hb hn => e b o (fun z => by
    subst z
    exact hn _ _ _ (Option.some.inj (hb.symm.trans hi))) hb
  constructor
  · intro b xs h
    rcases h with (h | ⟨o, h⟩) | h
    · exact .inl (.inl (key _ _ h fun _ _ _ z => by cases z))
    · exact .inl (.inr ⟨o, key _ _ h fun _ _ _ z => by cases z⟩)
    · exact .inr h
  · intro b xs h
    rcases h with (h | ⟨o, h⟩) | h
    · exact .inl (.inl (key _ _ h fun _ _ _ z => by cases z))
    · exact .inl (.inr ⟨o, key _ _ h fun _ _ _ z => by cases z⟩)
    · exact .inr h
mutual
theorem dp_sk {H' : Hp} (e : Sk K H H') : ∀ (d : PyData) (v : V), Dp K H v d → Dp K H' v d
  | .none, _, h => by cases h; exact .non
  | .bool b, _, h => by cases h; exact .bl b
  | .int i, _, h => by cases h; exact .int i
  | .str x, _, h => by cases h; exact .str x
  | .list ds, _, h => by
    cases h with
    | lst hs ha => exact .lst (e.l _ _ hs) (dps_sk e ds _ ha)
  | .tuple ds, _, h => by
    cases h with
    | tup hs ha => exact .tup (e.t _ _ hs) (dps_sk e ds _ ha)
  | .dict _, _, h => by cases h
theorem dps_sk {H' : Hp} (e : Sk K H H') : ∀ (ds : List PyData) (vs : List V), DpAll K H vs ds → DpAll K H' vs ds
  | [], _, h => by cases h; exact .nil
  | d :: ds, _, h => by
    cases h with
    | cons h1 h2 => exact .cons (dp_sk e d _ h1) (dps_sk e ds _ h2)
end
/-- tuples stay -/
structure St (K : PySem.W.Frag) (H H' : Hp) : Prop where
  t : ∀ a xs, SqT K H a xs → SqT K H' a xs
theorem Sk.st {H' : Hp} (e : Sk K H H') : St K H H' := ⟨e.t⟩
theorem St.refl (H : Hp) : St K H H := ⟨fun _ _ h => h⟩
theorem St.trans {H' H'' : Hp} (e : St K H H') (e' : St K H' H'') : St K H H'' := ⟨fun a xs h => e'.t a xs (e.t a xs h)⟩
theorem tt_same {H' : Hp} (e : Same H H') : St K H H' := ⟨fun _ _ h => st_same h e⟩
theorem tt_but {H' : Hp} {o : HO} (hi : H a = some o) (h1 : ∀ xs, o ≠ .tup xs) (h2 : ∀ u xs, o ≠ .frz u (.tup xs)) (e : But a H H') : St K H H' := by
  refine ⟨fun b xs h => ?_⟩
  rcases h with (h | ⟨u, h⟩) | h
  · exact .inl (.inl (e b _ (fun z => by subst z; exact h1 xs (Option.some.inj (hi.symm.trans h))) h))
  · exact .inl (.inr ⟨u, e b _ (fun z => by subst z; exact h2 u xs (Option.some.inj (hi.symm.trans h))) h⟩)
  · exact .inr h
theorem tt_butL {H' : Hp} {ys : List V} (hi : H a = some (.lst ys)) (e : But a H H') : St K H H' := tt_but hi (fun _ z => by cases z) (fun _ _ z => by cases z) e
theorem tt_butO {H' : Hp} {C dx : Addr} {fs : List (Str × V)} (hi : H a = some (.ins C dx fs)) (e : But a H H') : St K H H' := tt_but hi (fun _ z => by cases z) (fun _ _ z => by cases z) e
theorem tt_mutL {o : HO} {ys : List V} (hi : H a = some (.lst ys)) : St K H (upd H a o) := tt_butL hi (but_mut (But.refl _ _))
mutual
/-- none, ints, truth values, texts, and tuples of such -/
def tupD : PyData → Bool
  | .none | .bool _ | .int _ => true
  | .str x => PyData.canLay0 (.str x)
  | .tuple xs => tupDs xs
  | .list _ | .dict _ => false
def tupDs : List PyData → Bool
  | [] => true
  | x :: xs => tupD x && tupDs xs
end
mutual
theorem tupD_lay : ∀ (d : PyData), tupD d = true → d.canLay0 = true
  | .none, _ => rfl
  | .bool _, _ => rfl
  | .int _, _ => rfl
  | .str x, h => h
  | .tuple xs, h => tupDs_lay xs h
  | .list _, h => by cases h
  | .dict _, h => by cases h
theorem tupDs_lay : ∀ (ds : List PyData), tupDs ds = true → PyData.canLayAll0 ds = true
  | [], _ => rfl
  | x :: xs, h => by
    have h2 : (tupD x && tupDs xs) = true := h
    rw [Bool.and_eq_true] at h2
    show (x.canLay0 && PyData.canLayAll0 xs) = true
    rw [tupD_lay x h2.1, tupDs_lay xs h2.2]
    rfl
end
mutual
theorem dp_st {H' : Hp} (e : St K H H') : ∀ (d : PyData) (v : V), tupD d = true → Dp K H v d → Dp K H' v d
  | .none, _, _, h => by cases h; exact .non
  | .bool b, _, _, h => by cases h; exact .bl b
  | .int i, _, _, h => by cases h; exact .int i
  | .str x, _, _, h => by cases h; exact .str x
  | .list ds, _, c, _ => by cases c
  | .tuple ds, _, c, h => by
    cases h with
    | tup hs ha => exact .tup (e.t _ _ hs) (dps_st e ds _ c ha)
  | .dict _, _, _, h => by cases h
theorem dps_st {H' : Hp} (e : St K H H') : ∀ (ds : List PyData) (vs : List V), tupDs ds = true → DpAll K H vs ds → DpAll K H' vs ds
  | [], _, _, h => by cases h; exact .nil
  | d :: ds, _, c, h => by
    have h2 : (tupD d && tupDs ds) = true := c
    rw [Bool.and_eq_true] at h2
    cases h with
    | cons h3 h4 => exact .cons (dp_st e d _ h2.1 h3) (dps_st e ds _ h2.2 h4)
end
/-- packable data at v, not deep -/
def Pk (K : PySem.W.Frag) (H : Hp) (n : Nat) (v : V) (d : PyData) : Prop := Dp K H v d ∧ tupD d = true ∧ d.depth ≤ n
theorem Pk.st {H' : Hp} {n : Nat} {v : V} {d : PyData} (h : Pk K H n v d) (e : St K H H') : Pk K H' n v d := ⟨dp_st e d v h.2.1 h.1, h.2⟩
theorem Pk.sk {H' : Hp} {n : Nat} {v : V} {d : PyData} (h : Pk K H n v d) (e : Sk K H H') : Pk K H' n v d := h.st e.st
theorem Pk.same {H' : Hp} {n : Nat} {v : V} {d : PyData} (h : Pk K H n v d) (e : Same H H') : Pk K H' n v d := h.st (tt_same e)
theorem Pk.mono {n m : Nat} {v : V} {d : PyData} (h : Pk K H n v d) (l : n ≤ m) : Pk K H m v d := ⟨h.1, h.2.1, Nat.le_trans h.2.2 l⟩
theorem Pk.lay {n : Nat} {v : V} {d : PyData} (h : Pk K H n v d) : d.canLay0 = true := tupD_lay d h.2.1
theorem pk_non {n : Nat} : Pk K H n .non .none := ⟨.non, rfl, Nat.zero_le _⟩
theorem pk_int {n : Nat} {i : Int} : Pk K H n (.int i) (.int i) := ⟨.int i, rfl, Nat.zero_le _⟩
theorem pk_str {n : Nat} {x : Str} (h : PyData.canLay0 (.str x) = true := by decide +kernel) : Pk K H n (.str x) (.str x) := ⟨.str x, h, Nat.zero_le _⟩
/-- packable data, one behind another -/
def PkAll (K : PySem.W.Frag) (H : Hp) (n : Nat) (vs : List V) (ds : List PyData) : Prop := DpAll K H vs ds ∧ tupDs ds = true ∧ PyData.depthAll ds ≤ n
theorem PkAll.st {H' : Hp} {n : Nat} {vs : List V} {ds : List PyData} (h : PkAll K H n vs ds) (e : St K H H') : PkAll K H' n vs ds := ⟨dps_st e ds vs h.2.1 h.1, h.2⟩
theorem PkAll.same {H' : Hp} {n : Nat} {vs : List V} {ds : List PyData} (h : PkAll K H n vs ds) (e : Same H H') : PkAll K H' n vs ds := h.st (tt_same e)
theorem PkAll.mono {n m : Nat} {vs : List V} {ds : List PyData} (h : PkAll K H n vs ds) (l : n ≤ m) : PkAll K H m vs ds := ⟨h.1, h.2.1, Nat.le_trans h.2.2 l⟩
theorem PkAll.lay {n : Nat} {vs : List V} {ds : List PyData} (h : PkAll K H n vs ds) : PyData.canLayAll0 ds = true := tupDs_lay ds h.2.1
theorem pk_nil {n : Nat} : PkAll K H n [] [] := ⟨.nil, rfl, Nat.zero_le _⟩
theorem pk_cons {n : Nat} {v : V} {vs : List V} {d : PyData} {ds : List PyData} (h : Pk K H n v d) (h' : PkAll K H n vs ds) : PkAll K H n (v :: vs) (d :: ds) :=
  ⟨.cons h.1 h'.1, by show (tupD d && tupDs ds) = true; rw [h.2.1, h'.2.1]; rfl, by show max _ _ ≤ n; have := h.2.2; have := h'.2.2; omega⟩
theorem PkAll.uncons {n : Nat} {v : V} {vs : List V} {ds : List PyData} (h : PkAll K H n (v :: vs) ds) : ∃ d es, ds = d :: es ∧ Pk K H n v d ∧ PkAll K H n vs es := by
  obtain ⟨h1, h2, h3⟩ := h
  cases h1 with
  | cons a b =>
    rename_i d es
    have h4 : (tupD d && tupDs es) = true := h2
    rw [Bool.and_eq_true] at h4
    have h5 : max d.depth (PyData.depthAll es) ≤ n := h3
    exact ⟨d, es, rfl, ⟨a, h4.1, by omega⟩, ⟨b, h4.2, by omega⟩⟩
theorem pk_snoc {n : Nat} : ∀ {vs : List V} {ds : List PyData} {v : V} {d : PyData}, PkAll K H n vs ds → Pk K H n v d → PkAll K H n (vs ++ [v]) (ds ++ [d])
  | [], ds, v, d, h, h' => by
    obtain ⟨h1, _, _⟩ := h
    cases h1
    exact pk_cons h' pk_nil
  | w :: vs, ds, v, d, h, h' => by
    obtain ⟨e, es, rfl, h1, h2⟩ := h.uncons
    exact pk_cons h1 (pk_snoc h2 h')
theorem PkAll.len {n : Nat} : ∀ {vs : List V} {ds : List PyData}, PkAll K H n vs ds → vs.length = ds.length
  | [], ds, h => by
    obtain ⟨h1, _, _⟩ := h
    cases h1
    rfl
  | w :: vs, ds, h => by
    obtain ⟨e, es, rfl, h1, h2⟩ := h.uncons
    show vs.length + 1 = es.length + 1
    rw [h2.len]
theorem PkAll.take {n : Nat} : ∀ {vs : List V} {ds : List PyData} (k : Nat), PkAll K H n vs ds → PkAll K H n (vs.take k) (ds.take k)
  | vs, ds, 0, h => pk_nil
  | [], ds, k + 1, h => by
    obtain ⟨h1, _, _⟩ := h
    cases h1
    exact pk_nil
  | w :: vs, ds, k + 1, h => by
    obtain ⟨e, es, rfl, h1, h2⟩ := h.uncons
    exact pk_cons h1 (h2.take k)
theorem PkAll.at {n : Nat} : ∀ {vs : List V} {ds : List PyData} {i : Nat} {v : V}, PkAll K H n vs ds → vs[i]? = some v → ∃ d, ds[i]? = some d ∧ Pk K H n v d
  | [], ds, i, v, h, e => by simp at e
  | w :: vs, ds, 0, v, h, e => by
    obtain ⟨d, es, rfl, h1, h2⟩ := h.uncons
    cases (show w = v from Option.some.inj e)
    exact ⟨d, rfl, h1⟩
  | w :: vs, ds, i + 1, v, h, e => by
    obtain ⟨d, es, rfl, h1, h2⟩ := h.uncons
    exact h2.at e
theorem pk_tup {n : Nat} {a : Addr} {vs : List V} {ds : List PyData} (h : SqT K H a vs) (h1 : PkAll K H n vs ds) : Pk K H (n + 1) (.ref a) (.tuple ds) :=
  ⟨.tup h h1.1, h1.2.1, Nat.add_le_add_right h1.2.2 1⟩
theorem pk_tup1 {n : Nat} {a : Addr} {v : V} {d : PyData} (h : SqT K H a [v]) (h1 : Pk K H n v d) : Pk K H (n + 1) (.ref a) (.tuple [d]) := pk_tup h (pk_cons h1 pk_nil)
theorem pk_tup2 {n : Nat} {a : Addr} {v w : V} {d e : PyData} (h : SqT K H a [v, w]) (h1 : Pk K H n v d) (h2 : Pk K H n w e) : Pk K H (n + 1) (.ref a) (.tuple [d, e]) := pk_tup h (pk_cons h1 (pk_cons h2 pk_nil))
theorem pk_tup3 {n : Nat} {a : Addr} {u v w : V} {c d e : PyData} (h : SqT K H a [u, v, w]) (h0 : Pk K H n u c) (h1 : Pk K H n v d) (h2 : Pk K H n w e) : Pk K H (n + 1) (.ref a) (.tuple [c, d, e]) := pk_tup h (pk_cons h0 (pk_cons h1 (pk_cons h2 pk_nil)))
/-- equal data, one way or the other -/
theorem x_nePk {n m : Nat} {x y : V} {d : PyData} (h : Pk K H n x d) (h' : Pk K H m y d) (q : Q (.bl false) H) (l : n ≤ 64 := by decide) : rNeD K x y H Q := x_neSame h.1 h'.1 h.lay (Nat.le_trans h.2.2 l) q
theorem x_eqPk {n m : Nat} {x y : V} {d : PyData} (h : Pk K H n x d) (h' : Pk K H m y d) (q : Q (.bl true) H) (l : n ≤ 64 := by decide) : rEqD K x y H Q := x_eqSame h.1 h'.1 h.lay (Nat.le_trans h.2.2 l) q
theorem lay_list {ds : List PyData} (h : PyData.canLayAll0 ds = true) : PyData.canLay0 (.list ds) = true := h
theorem x_nePkL {n m : Nat} {p q' : Addr} {xs ys : List V} {ds : List PyData} (hp : SqL K H p xs) (hq : SqL K H q' ys) (h : PkAll K H n xs ds) (h' : PkAll K H m ys ds) (q : Q (.bl false) H) (l : n ≤ 63 := by decide) : rNeD K (.ref p) (.ref q') H Q :=
  x_neSame (.lst hp h.1) (.lst hq h'.1) (lay_list h.lay) (Nat.add_le_add_right (Nat.le_trans h.2.2 l) 1) q
theorem x_eqPkL {n m : Nat} {p q' : Addr} {xs ys : List V} {ds : List PyData} (hp : SqL K H p xs) (hq : SqL K H q' ys) (h : PkAll K H n xs ds) (h' : PkAll K H m ys ds) (q : Q (.bl true) H) (l : n ≤ 63 := by decide) : rEqD K (.ref p) (.ref q') H Q :=
  x_eqSame (.lst hp h.1) (.lst hq h'.1) (lay_list h.lay) (Nat.add_le_add_right (Nat.le_trans h.2.2 l) 1) q
theorem u65 {k : Nat} {A : Around} (r : Room k A) : A.units + 65 < cLine := by
  have := r.un
  omega
theorem k_inD (hu : X.A.units + 65 < cLine) (e : X.K = K) : OpR X (compareOp .In) (rInD K) := e ▸ op_inD hu
theorem k_ninD (hu : X.A.units + 65 < cLine) (e : X.K = K) : OpR X (compareOp .NotIn) (rNotInD K) := e ▸ op_notInD hu
/-- whether d is among ds -/
def inD (d : PyData) (ds : List PyData) : Bool := ds.any fun z => PyData.eqv z d
theorem x_inPk {n m : Nat} {x : V} {d : PyData} {xs : List V} {ds : List PyData} (h : Pk K H n x d) (hp : SqL K H a xs) (h' : PkAll K H m xs ds) (k : Q (.bl (inD d ds)) H) (l : n ≤ 64 := by decide) (l' : m ≤ 63 := by decide) : rInD K x (.ref a) H Q :=
  ⟨d, ds, h.1, .lst hp h'.1, shaped_of h.lay (Nat.le_trans h.2.2 l), shaped_of (lay_list h'.lay) (Nat.add_le_add_right (Nat.le_trans h'.2.2 l') 1), k⟩
theorem x_ninPk {n m : Nat} {x : V} {d : PyData} {xs : List V} {ds : List PyData} (h : Pk K H n x d) (hp : SqL K H a xs) (h' : PkAll K H m xs ds) (k : Q (.bl (!inD d ds)) H) (l : n ≤ 64 := by decide) (l' : m ≤ 63 := by decide) : rNotInD K x (.ref a) H Q :=
  ⟨d, ds, h.1, .lst hp h'.1, shaped_of h.lay (Nat.le_trans h.2.2 l), shaped_of (lay_list h'.lay) (Nat.add_le_add_right (Nat.le_trans h'.2.2 l') 1), k⟩
theorem x_inD {x : V} {d : PyData} {ds : List PyData} (h : Dp K H x d) (h' : Dp K H (.ref a) (.list ds)) (c : d.canLay0 = true) (n : d.depth ≤ 64) (c' : PyData.canLay0 (.list ds) = true) (n' : PyData.depth (.list ds) ≤ 64) (k : Q (.bl (inD d ds)) H) : rInD K x (.ref a) H Q :=
  ⟨d, ds, h, h', shaped_of c n, shaped_of c' n', k⟩
theorem x_ninD {x : V} {d : PyData} {ds : List PyData} (h : Dp K H x d) (h' : Dp K H (.ref a) (.list ds)) (c : d.canLay0 = true) (n : d.depth ≤ 64) (c' : PyData.canLay0 (.list ds) = true) (n' : PyData.depth (.list ds) ≤ 64) (k : Q (.bl (!inD d ds)) H) : rNotInD K x (.ref a) H Q :=
  ⟨d, ds, h, h', shaped_of c n, shaped_of c' n', k⟩
/-- a sign some times over -/
def repS (x : Str) (n : Int) : Str := if n < 1 then Str.empty else if (n == 1 || x.length == 0) = true then x else ⟨(List.replicate n.toNat x.cps).foldl (· ++ ·) #[]⟩
def nRepS : R2 := fun x y H Q => ∃ (z : Str) (n : Int), x = .str z ∧ y = .int n ∧ 0 ≤ n ∧ n ≤ 1000 ∧ z.length ≤ 100 ∧ Q (.str (repS z n)) H
theorem op_nRepS : OpR X (binaryOp .Mult) nRepS := by
  intro pins s σ H x y v u Q I rx ry h
  obtain ⟨z, n, rfl, rfl, h0, h1, h2, q⟩ := h
  obtain ⟨t, rfl⟩ := rx
  obtain ⟨t', rfl⟩ := ry
  have hlen : z.length * n.toNat ≤ 100000 := by
    have h3 : n.toNat ≤ 1000 := by omega
    calc z.length * n.toNat ≤ 100 * n.toNat := Nat.mul_le_mul_right _ h2
      _ ≤ 100000 := by omega
  refine PySem.P.mul_str ?_ ?_ ?_ ?_
  · rw [decide_eq_false (by omega), decide_eq_false (by omega)]
    rfl
  · intro h3 _ h4
    have h5 : (1000 : Int) ≤ (2 ^ 63 - 1) / n := by
      rw [Int.le_ediv_iff_mul_le (by omega)]
      omega
    omega
  · intro _ _
    exact decide_eq_false (by unfold sizeLine; omega)
  · unfold repS at q
    by_cases h3 : n < 1
    · rw [if_pos h3] at q ⊢
      exact ⟨by decide, .str Str.empty, H, I.tok _, ⟨_, rfl⟩, q⟩
    · rw [if_neg h3] at q ⊢
      by_cases h4 : (n == 1 || z.length == 0) = true
      · rw [if_pos h4] at q ⊢
        exact ⟨.str z, H, I, ⟨_, rfl⟩, q⟩
      · rw [if_neg h4] at q ⊢
        exact ⟨PySem.fits_reps (decide_eq_false (by unfold sizeLine; omega)), .str _, H, I.tok _, ⟨_, rfl⟩, q⟩
theorem x_nRepS {z : Str} {n : Int} (h : 0 ≤ n ∧ n ≤ 1000) (hz : z.length ≤ 100) (k : Q (.str (repS z n)) H) : nRepS (.str z) (.int n) H Q := ⟨z, n, rfl, rfl, h.1, h.2, hz, k⟩
/-- a range from its end -/
def rRevR (i : Nat) (tu : TS) (D : Ends) (σ : L2.St) : Int → Int → Hp → Prop := fun lo hi H => -(2 ^ 62) ≤ lo ∧ lo < 2 ^ 62 ∧ -(2 ^ 62) ≤ hi ∧ hi < 2 ^ 62 ∧ ∃ W : Nat → Nat → L2.St → Hp → Prop, (∃ m, W 0 m σ H) ∧ ∀ j m σ H, W j m σ H →
  ((Itc (lo + (((hi - lo).toNat : Nat) : Int) - 1) (-1) (hi - lo).toNat).stop j H ∧ D.nx σ H) ∨ ((Itc (lo + (((hi - lo).toNat : Nat) : Int) - 1) (-1) (hi - lo).toNat).go j H ∧ ∃ N : L2.St → Hp → Prop, (∀ σ' H', N σ' H' → ∃ m', m' < m ∧ W (j + 1) m' σ' H') ∧
    ∀ x H', (Itc (lo + (((hi - lo).toNat : Nat) : Int) - 1) (-1) (hi - lo).toNat).yld j H x H' → gName i x σ H' fun σ2 H2 => tu { D with nx := N, ct := N, bk := D.nx } σ2 H2)
theorem x_forRev1 {i : Nat} {tu : TS} {D : Ends} {σ : L2.St} {tr : L2.St → Hp → (Int → Int → Hp → Prop) → Prop} (q : tr σ H (rRevR i tu D σ)) : tFor (iRevR tr) (gName i) tu D σ H := q
theorem x_forRev {i : Nat} {tu : TS} {D : Ends} {σ : L2.St} {m : Int} (Pv : Nat → L2.St → Hp → Prop) (hm : 0 ≤ m ∧ m ≤ 100000) (p0 : Pv 0 σ H)
    (ps : ∀ (j : Nat) σ' H', (j : Int) < m → Pv j σ' H' → tu { D with nx := Pv (j + 1), ct := Pv (j + 1), bk := D.nx } (σ'.set i (some (.int (m - 1 - j)))) H') (pd : ∀ σ' H', Pv m.toNat σ' H' → D.nx σ' H') : rRevR i tu D σ 0 m H := by
  have e : (m - 0).toNat = m.toNat := by omega
  refine ⟨by omega, by omega, by omega, by omega, ?_⟩
  rw [e]
  refine for_rangeC (n := m.toNat) Pv p0 (fun j σ' H' hj p => ?_) pd
  have e0 : (0 : Int) + ((m.toNat : Nat) : Int) - 1 + (j : Nat) * (-1) = m - 1 - j := by omega
  show tu { D with nx := Pv (j + 1), ct := Pv (j + 1), bk := D.nx } (σ'.set i (some (.int ((0 : Int) + ((m.toNat : Nat) : Int) - 1 + (j : Nat) * (-1))))) H'
  rw [e0]
  exact ps j σ' H' (by omega) p
theorem cut_take {xs : List V} {k : Int} {n : Nat} (e : k = (n : Int)) : cutV xs none (some k) = xs.take n := by
  subst e
  unfold cutV
  rw [HT.sIx_nat, HT.sIx_none, List.drop_zero, Nat.sub_zero]
  by_cases h : n ≤ xs.length
  · rw [show min n xs.length = n by omega]
  · rw [show min n xs.length = xs.length by omega, List.take_length, List.take_of_length_le (by omega)]
theorem cut_drop {xs : List V} {k : Int} {n : Nat} (e : k = (n : Int)) : cutV xs (some k) none = xs.drop n := by
  subst e
  unfold cutV
  rw [HT.sIx_nat, HT.sIx_none]
  by_cases h : n ≤ xs.length
  · rw [show min n xs.length = n by omega, List.take_of_length_le (by rw [List.length_drop]; omega)]
  · rw [show min n xs.length = xs.length by omega, List.drop_length, List.drop_of_length_le (by omega)]
    simp
/-- range(lo, hi) -/
def rRange2 (n : Nat) (tu : TS) (D : Ends) (σ : L2.St) : List V → Hp → Prop := fun vs H => ∃ i j : Int, vs = [.int i, .int j] ∧ (-(2 ^ 62) ≤ i ∧ i < 2 ^ 62 ∧ -(2 ^ 62) ≤ j ∧ j < 2 ^ 62) ∧ ∃ W : Nat → Nat → L2.St → Hp → Prop, (∃ m, W 0 m σ H) ∧ ∀ k m σ H, W k m σ H →
  ((Itr i (j - i).toNat).stop k H ∧ D.nx σ H) ∨ ((Itr i (j - i).toNat).go k H ∧ ∃ N : L2.St → Hp → Prop, (∀ σ' H', N σ' H' → ∃ m', m' < m ∧ W (k + 1) m' σ' H') ∧ ∀ x H', (Itr i (j - i).toNat).yld k H x H' → gName n x σ H' fun σ2 H2 => tu { D with nx := N, ct := N, bk := D.nx } σ2 H2)
theorem x_forR2 {n : Nat} {tu : TS} {D : Ends} {σ : L2.St} {tr : TA} (q : tr σ H (rRange2 n tu D σ)) : tFor (iRng2 tr) (gName n) tu D σ H := q
theorem x_range2 {n : Nat} {tu : TS} {D : Ends} {σ : L2.St} {lo hi : Int} (Pv : Nat → L2.St → Hp → Prop) (hm : -1000000 ≤ lo ∧ lo ≤ 1000000 ∧ -1000000 ≤ hi ∧ hi ≤ 1000000) (p0 : Pv 0 σ H)
    (ps : ∀ (k : Nat) σ' H', lo + (k : Int) < hi → Pv k σ' H' → tu { D with nx := Pv (k + 1), ct := Pv (k + 1), bk := D.nx } (σ'.set n (some (.int (lo + (k : Int))))) H') (pd : ∀ σ' H', Pv (hi - lo).toNat σ' H' → D.nx σ' H') : rRange2 n tu D σ [.int lo, .int hi] H :=
  ⟨lo, hi, rfl, ⟨by omega, by omega, by omega, by omega⟩, for_range (lo := lo) (n := (hi - lo).toNat) Pv p0 (fun k σ' H' hk p => ps k σ' H' (by omega) p) pd⟩
theorem pk_ints {n : Nat} : ∀ ns : List Int, PkAll K H n (ns.map V.int) (ns.map PyData.int)
  | [] => pk_nil
  | m :: r => pk_cons pk_int (pk_ints r)
/-! dicts whose keys are texts -/
def rDG (x : V) (Q : VK) : VK := fun y H2 => ∃ (a : Addr) (v : V), x = .ref a ∧ DGet H2 a y (some v) ∧ Q v H2
theorem x_dget {td ty : TE} {σ : L2.St} (q : td σ H fun x H1 => ty σ H1 (rDG x Q)) : tDGet td ty σ H Q := q
theorem x_rDG {kvs : List (Key × V)} {k : Str} {v : V} (h : H a = some (.dK kvs)) (e : valV kvs (Sum.inr k) = some v) (q : Q v H) : rDG (.ref a) Q (.str k) H := ⟨a, v, rfl, by rw [← e]; exact (DGet.k (k := Sum.inr k) h : DGet H a (kV (Sum.inr k)) (valV kvs (Sum.inr k))), q⟩
def rDP (x v : V) (R : Hp → Prop) : VK := fun y H3 => ∃ (a : Addr) (H4 : Hp), x = .ref a ∧ DPut H3 a y v H4 ∧ R H4
theorem x_sdput {td ty tv : TE} {D : Ends} {σ : L2.St} {tz : TS} (q : tv σ H fun v H1 => td σ H1 fun x H2 => ty σ H2 (rDP x v fun H4 => tz D σ H4)) : tSeq (sDPut td ty tv) tz D σ H := q
theorem x_dput {td ty tv : TE} {D : Ends} {σ : L2.St} (q : tv σ H fun v H1 => td σ H1 fun x H2 => ty σ H2 (rDP x v fun H4 => D.nx σ H4)) : sDPut td ty tv D σ H := q
theorem x_rDP {kvs kvs' : List (Key × V)} {k : Str} {v : V} {R : Hp → Prop} (h : H a = some (.dK kvs)) (hl : kvs.length < 1000) (e : putK kvs (Sum.inr k) v = kvs') (q : R (upd H a (.dK kvs'))) : rDP (.ref a) v R (.str k) H :=
  ⟨a, upd H a (.dK (putK kvs (Sum.inr k) v)), rfl, (DPut.k (k := Sum.inr k) h (small1000 (Nat.le_of_lt hl)) : DPut H a (kV (Sum.inr k)) v _), by rw [e]; exact q⟩
theorem x_disp {trs : List (TE × TE)} {σ : L2.St} (q : ∀ p, Fr p H → tPairs trs σ (upd H p (.dK [])) fun ps H2 => H2 p = some (.dK []) ∧ ∃ kvs : List (Key × V), ps = kvs.map (fun kv => (kV kv.1, kv.2)) ∧ kvs.length ≤ 15 ∧ Q (.ref p) (upd H2 p (.dK (mergeK [] kvs)))) : tDisp trs σ H Q := fun p hp => q p ⟨hp⟩
theorem x_pcons {tk tv : TE} {r : List (TE × TE)} {σ : L2.St} {R : List (V × V) → Hp → Prop} (q : tk σ H fun x H1 => tv σ H1 fun y H2 => tPairs r σ H2 fun ps H3 => R ((x, y) :: ps) H3) : tPairs ((tk, tv) :: r) σ H R := q
theorem x_pnil {σ : L2.St} {R : List (V × V) → Hp → Prop} (q : R [] H) : tPairs [] σ H R := q
/-! lists of ints sorted where they stand -/
theorem x_rSortI {ns : List Int} (h : H a = some (.lst (ns.map V.int))) (k : ∀ ns' : List Int, ns'.Perm ns → ns'.Pairwise (· ≤ ·) → Q .non (upd H a (.lst (ns'.map V.int)))) : rSortI (.ref a) [] H Q := ⟨a, ns, rfl, rfl, h, k⟩
theorem srt_eq {xs ys : List Int} (p : xs.Perm ys) (h1 : xs.Pairwise (· ≤ ·)) (h2 : ys.Pairwise (· ≤ ·)) : xs = ys := p.eq_of_pairwise (fun x y _ _ h h' => Int.le_antisymm h h') h1 h2
/-! texts -/
def nInS : R2 := fun x y H Q => ∃ (c : Nat) (z : Str), x = .str ⟨#[c]⟩ ∧ y = .str z ∧ Q (.bl (decide (c ∈ z.cps.toList))) H
def nNotInS : R2 := fun x y H Q => ∃ (c : Nat) (z : Str), x = .str ⟨#[c]⟩ ∧ y = .str z ∧ Q (.bl (!decide (c ∈ z.cps.toList))) H
theorem op_nInS : OpR X (compareOp .In) nInS := op_in_sign
theorem op_nNotInS : OpR X (compareOp .NotIn) nNotInS := op_notIn_sign
theorem x_inS {c : Nat} {z : Str} (q : Q (.bl (decide (c ∈ z.cps.toList))) H) : nInS (.str ⟨#[c]⟩) (.str z) H Q := ⟨c, z, rfl, rfl, q⟩
theorem x_notInS {c : Nat} {z : Str} (q : Q (.bl (!decide (c ∈ z.cps.toList))) H) : nNotInS (.str ⟨#[c]⟩) (.str z) H Q := ⟨c, z, rfl, rfl, q⟩
def nAddS : R2 := fun x y H Q => ∃ i j : Str, x = .str i ∧ y = .str j ∧ i.length + j.length ≤ sizeLine ∧ Q (.str (i ++ j)) H
theorem op_nAddS : OpR X (binaryOp .Add) nAddS := op_add_str
theorem x_nAddS {i j : Str} (h : i.length + j.length ≤ 100000) (q : Q (.str (i ++ j)) H) : nAddS (.str i) (.str j) H Q := ⟨i, j, rfl, rfl, size_ok h, q⟩
def nLenS : List V → Hp → VK → Prop := fun xs H Q => ∃ z : Str, xs = [.str z] ∧ z.length ≤ sizeLine ∧ Q (.int z.length) H
theorem call_nLenS : CallR X (.builtin "len") nLenS := call_len_str
theorem x_nLenS {z : Str} (h : z.length ≤ 100000) (q : Q (.int z.length) H) : nLenS [.str z] H Q := ⟨z, rfl, size_ok h, q⟩
theorem x_slS {z : Str} {lo hi : Option Int} (h : z.length ≤ 100000) (q : Q (.str (cutS z lo hi)) H) : rSlS (.str z) lo hi H Q := ⟨z, rfl, size_ok h, q⟩
def rLcS (g : TG) (tt : TT) (te : TE) (vs : List Nat) (σ : L2.St) (Q : VK) : VK := fun x H1 => ∃ z, x = .str z ∧ RLc (Its z) g tt te vs σ Q H1
theorem x_lcS1 {g : TG} {t : TT} {te tx : TE} {vs : List Nat} {σ : L2.St} (q : tx σ H (rLcS g t te vs σ Q)) : tLc (iStr tx) g t te vs σ H Q := q
theorem x_lcS {g : TG} {t : TT} {te : TE} {vs : List Nat} {σ : L2.St} {z : Str} (Pv : Addr → Nat → Hp → Prop) (h0 : ∀ Dl, Fr Dl H → Pv Dl 0 (upd H Dl (.lst [])))
    (hs : ∀ Dl, Fr Dl H → ∀ i c H', z.cps.toList[i]? = some c → Pv Dl i H' → g (.str ⟨#[c]⟩) (wipe σ vs) H' fun σ2 H2 => wipe σ2 vs = wipe σ vs ∧ t σ2 H2 fun b H3 =>
      if b = true then te σ2 H3 fun y H4 => ∃ acc, H4 Dl = some (.lst acc) ∧ acc.length < sizeLine ∧ Pv Dl (i + 1) (upd H4 Dl (.lst (acc ++ [y]))) else Pv Dl (i + 1) H3)
    (hd : ∀ Dl H', Fr Dl H → Pv Dl z.length H' → Q (.ref Dl) H') : rLcS g t te vs σ Q (.str z) H := ⟨z, rfl, fun Dl hD =>
  lc_it walk_str (Pv Dl) (h0 Dl ⟨hD⟩) (fun _ _ _ _ => trivial) (fun i x H1 H' _ p y => by
    obtain ⟨rfl, c, hc, rfl⟩ := y
    exact hs Dl ⟨hD⟩ i c _ (by rw [← hc]; simp) p) (fun H' p => hd Dl H' ⟨hD⟩ p)⟩
/-- all signs of a text are so -/
def AllC (p : Nat → Bool) (s : Str) : Bool := s.cps.toList.all p
theorem toList_add (i j : Str) : (i ++ j).cps.toList = i.cps.toList ++ j.cps.toList := by
  show (i.cps ++ j.cps).toList = _
  simp
theorem len_add (i j : Str) : (i ++ j).length = i.length + j.length := by
  show (i.cps ++ j.cps).size = i.cps.size + j.cps.size
  simp
theorem allC_add {p : Nat → Bool} {i j : Str} (h : AllC p i = true) (h' : AllC p j = true) : AllC p (i ++ j) = true := by
  unfold AllC at *
  rw [toList_add, List.all_append, h, h']
  rfl
theorem allC_add_inv {p : Nat → Bool} {i j : Str} (h : AllC p (i ++ j) = true) : AllC p i = true ∧ AllC p j = true := by
  unfold AllC at *
  rw [toList_add, List.all_append, Bool.and_eq_true] at h
  exact h
theorem allC_cut {p : Nat → Bool} {z : Str} {lo hi : Option Int} (h : AllC p z = true) : AllC p (cutS z lo hi) = true := by
  unfold AllC at *
  rw [List.all_eq_true] at h ⊢
  intro c hc
  refine h c ?_
  unfold cutS at hc
  simp only at hc
  exact List.mem_of_mem_drop (List.mem_of_mem_take hc)
theorem len_cut (z : Str) (lo hi : Option Int) : (cutS z lo hi).length ≤ z.length := by
  show (cutS z lo hi).cps.size ≤ z.cps.size
  unfold cutS
  simp only [List.size_toArray, List.length_take, List.length_drop, Array.length_toList]
  have : z.length = z.cps.size := rfl
  omega
theorem allC_at {p : Nat → Bool} {z : Str} {i : Nat} {c : Nat} (h : AllC p z = true) (e : z.cps.toList[i]? = some c) : AllC p ⟨#[c]⟩ = true := by
  unfold AllC at *
  rw [List.all_eq_true] at h
  have := h c (List.mem_of_getElem? e)
  simp [this]
theorem allC_mono {p q : Nat → Bool} {s : Str} (h : AllC p s = true) (f : ∀ c, p c = true → q c = true) : AllC q s = true := by
  unfold AllC at *
  rw [List.all_eq_true] at h ⊢
  exact fun c hc => f c (h c hc)
def okC : Nat → Bool := fun c => decide (c < 0x110000)
theorem lay_str {s : Str} (h : AllC okC s = true) : PyData.canLay0 (.str s) = true := by
  have h2 : s.cps.all (fun c => decide (c < 0x110000)) = true := by
    rw [← Array.all_toList]
    exact h
  simpa only [PyData.canLay0, PyData.strOk] using h2
/-! tuples some times over -/
theorem tup_times1 (l : Addr) (items : Array Value) (n : Nat) (dd : Option Addr) (sl : Array (Option Value)) (u : Tok) :
    Meets (Builtin.«tuple.__mul__» ⟨[.ref l, .int 1 u], []⟩) (fun _ R s => s.heap.get? l = some { cls := .type "tuple", dict := dd, data := .seq items n, slots := sl } ∧ R (.ok (.ret (.ref l))) s) :=
  .of_wp fun prog w A R s h => by
    obtain ⟨hp, g, d, tk, os⟩ := s
    obtain ⟨hl, h⟩ := h
    have f1 := AutoSeq1.idx_int
    wp_walk using wpAny_loadPart' hl
    exact ⟨_, rfl, h⟩
def nRepT (K : PySem.W.Frag) : R2 := fun x y H Q => ∃ (l : Addr) (k : Int) (xs : List V), x = .ref l ∧ y = .int k ∧ SqT K H l xs ∧ xs ≠ [] ∧ xs.length ≤ 1000 ∧ ((k = 1 ∧ Q (.ref l) H) ∨ (2 ≤ k ∧ k ≤ 1000 ∧ ∀ p, H p = none → Q (.ref p) (upd H p (.tup (List.replicate k.toNat xs).flatten))))
theorem op_nRepT : OpR X (binaryOp .Mult) (nRepT X.K) := by
  intro pins s σ H x y v u Q I rx ry h
  obtain ⟨l, k, xs, rfl, rfl, hT, hne, hz, q⟩ := h
  rcases q with ⟨rfl, q⟩ | ⟨h1, h2, q⟩
  · cases rx
    obtain ⟨t, rfl⟩ := ry
    obtain ⟨its, r, ⟨⟨cls, dd, data, sl⟩, ho, hc, n, hd⟩, hs⟩ := I.tuple hT
    simp only at hc hd
    subst hc hd
    exact wpAny_binaryOp_repeat_ref (T := "tuple") (U := "int") (by decide) ⟨_, ho, rfl⟩ (fun s' => typeIs_int s' 1 t) noFill_tuple_mul PySem.F.fills_int_mul PySem.F.slot_int_rmul repeat_tuple PySem.F.slot_int_index.lookup
      (call_meets PySem.F.slot_int_rmul (typeIs_int s 1 t) PySem.F.entry_int_rmul (PySem.F.args_int_rmul_2 _ _) (int_rmul_tuple 1 t l its.toArray n dd sl)
        ⟨ho, rfl, ⟨_, ho, rfl⟩, call_meets PySem.F.slot_tuple_mul ⟨_, ho, rfl⟩ PySem.F.entry_tuple_mul (PySem.F.args_tuple_mul_2 _ _) (tup_times1 l its.toArray n dd sl t) ⟨ho, ⟨.ref l, H, I, rfl, q⟩⟩⟩)
  · exact op_repT pins s σ H _ _ v u Q I rx ry ⟨l, k, xs, rfl, rfl, hT, hne, h1, h2, hz, q⟩
theorem k_repT (e : X.K = K) : OpR X (binaryOp .Mult) (nRepT K) := e ▸ op_nRepT
/-! more of dicts -/
def rGet1 (R : VK) (a : Addr) : VK := fun y H2 => ∃ o, DGet H2 a y o ∧ R (o.getD .non) H2
def rGetD (x : V) (ty : TE) (σ : L2.St) (Q : VK) : Hp → Prop := fun H1 => ∃ a, x = .ref a ∧ IsD H1 a ∧ ty σ H1 (rGet1 Q a)
theorem x_dget1 {td ty : TE} {σ : L2.St} (q : td σ H fun x H1 => rGetD x ty σ Q H1) : tDGet1 td ty σ H Q := q
theorem x_rGetD {ty : TE} {σ : L2.St} {kvs : List (Key × V)} (h : H a = some (.dK kvs)) (q : ty σ H (rGet1 Q a)) : rGetD (.ref a) ty σ Q H := ⟨a, rfl, .inl ⟨kvs, .inl h⟩, q⟩
theorem x_rGet1 {kvs : List (Key × V)} {k : Str} (h : H a = some (.dK kvs)) (q : Q ((valV kvs (Sum.inr k)).getD .non) H) : rGet1 Q a (.str k) H := ⟨_, (DGet.k (k := Sum.inr k) h : DGet H a (kV (Sum.inr k)) (valV kvs (Sum.inr k))), q⟩
def rGet2 (R : VK) (a : Addr) (y z : V) : Hp → Prop := fun H3 => ∃ o, DGet H3 a y o ∧ R (o.getD z) H3
def rGetE (x : V) (ty tx : TE) (σ : L2.St) (Q : VK) : Hp → Prop := fun H1 => ∃ a, x = .ref a ∧ IsD H1 a ∧ ty σ H1 fun y H2 => tx σ H2 fun z H3 => rGet2 Q a y z H3
theorem x_dget2 {td ty tx : TE} {σ : L2.St} (q : td σ H fun x H1 => rGetE x ty tx σ Q H1) : tDGet2 td ty tx σ H Q := q
theorem x_rGetE {ty tx : TE} {σ : L2.St} {kvs : List (Key × V)} (h : H a = some (.dK kvs)) (q : ty σ H fun y H2 => tx σ H2 fun z H3 => rGet2 Q a y z H3) : rGetE (.ref a) ty tx σ Q H := ⟨a, rfl, .inl ⟨kvs, .inl h⟩, q⟩
theorem x_rGet2 {kvs : List (Key × V)} {k : Str} {z : V} (h : H a = some (.dK kvs)) (q : Q ((valV kvs (Sum.inr k)).getD z) H) : rGet2 Q a (.str k) z H := ⟨_, (DGet.k (k := Sum.inr k) h : DGet H a (kV (Sum.inr k)) (valV kvs (Sum.inr k))), q⟩
def rPop1 (R : VK) (a : Addr) : VK := fun y H2 => ∃ (kvs : List (Key × V)) (k : Key) (v : V), H2 a = some (.dK kvs) ∧ y = kV k ∧ valV kvs k = some v ∧ R v (upd H2 a (.dK (dropK kvs k)))
def rPopD (x : V) (ty : TE) (σ : L2.St) (Q : VK) : Hp → Prop := fun H1 => ∃ a, x = .ref a ∧ IsD H1 a ∧ ty σ H1 (rPop1 Q a)
theorem x_dpop1 {td ty : TE} {σ : L2.St} (q : td σ H fun x H1 => rPopD x ty σ Q H1) : tDPop1 td ty σ H Q := q
theorem x_rPopD {ty : TE} {σ : L2.St} {kvs : List (Key × V)} (h : H a = some (.dK kvs)) (q : ty σ H (rPop1 Q a)) : rPopD (.ref a) ty σ Q H := ⟨a, rfl, .inl ⟨kvs, .inl h⟩, q⟩
theorem x_rPop1 {kvs : List (Key × V)} {k : Str} {v : V} (h : H a = some (.dK kvs)) (e : valV kvs (Sum.inr k) = some v) (q : Q v (upd H a (.dK (dropK kvs (Sum.inr k))))) : rPop1 Q a (.str k) H := ⟨kvs, Sum.inr k, v, h, rfl, e, q⟩
def rPop2 (R : VK) (a : Addr) (y z : V) : Hp → Prop := fun H3 => ∃ (kvs : List (Key × V)) (k : Key), H3 a = some (.dK kvs) ∧ y = kV k ∧ (∀ v, valV kvs k = some v → R v (upd H3 a (.dK (dropK kvs k)))) ∧ (valV kvs k = none → R z H3)
def rPopE (x : V) (ty tx : TE) (σ : L2.St) (Q : VK) : Hp → Prop := fun H1 => ∃ a, x = .ref a ∧ IsD H1 a ∧ ty σ H1 fun y H2 => tx σ H2 fun z H3 => rPop2 Q a y z H3
theorem x_dpop2 {td ty tx : TE} {σ : L2.St} (q : td σ H fun x H1 => rPopE x ty tx σ Q H1) : tDPop2 td ty tx σ H Q := q
theorem x_rPopE {ty tx : TE} {σ : L2.St} {kvs : List (Key × V)} (h : H a = some (.dK kvs)) (q : ty σ H fun y H2 => tx σ H2 fun z H3 => rPop2 Q a y z H3) : rPopE (.ref a) ty tx σ Q H := ⟨a, rfl, .inl ⟨kvs, .inl h⟩, q⟩
theorem x_rPop2 {kvs : List (Key × V)} {k : Str} {z : V} (h : H a = some (.dK kvs)) (q1 : ∀ v, valV kvs (Sum.inr k) = some v → Q v (upd H a (.dK (dropK kvs (Sum.inr k))))) (q2 : valV kvs (Sum.inr k) = none → Q z H) : rPop2 Q a (.str k) z H := ⟨kvs, Sum.inr k, h, rfl, q1, q2⟩
def rDInK (y : V) (Q : VK) : VK := fun x H2 => ∃ a o, x = .ref a ∧ DGet H2 a y o ∧ Q (.bl o.isSome) H2
theorem x_din {ty td : TE} {σ : L2.St} (q : ty σ H fun y H1 => td σ H1 (rDInK y Q)) : tDIn ty td σ H Q := q
theorem x_rDInK {kvs : List (Key × V)} {k : Str} (h : H a = some (.dK kvs)) (q : Q (.bl (valV kvs (Sum.inr k)).isSome) H) : rDInK (.str k) Q (.ref a) H := ⟨a, _, rfl, (DGet.k (k := Sum.inr k) h : DGet H a (kV (Sum.inr k)) (valV kvs (Sum.inr k))), q⟩
theorem x_dnew {σ : L2.St} (k : ∀ p H2, Fr p H → Same H H2 → H2 p = some (.dK []) → Q (.ref p) H2) : tDNewK σ H Q := fun p hp => k p _ ⟨hp⟩ (same_new hp) upd_same
theorem x_notBl {b c : Bool} (q : Q (.bl (!decide (b = c))) H) : rNotB (.bl b) (.bl c) H Q := ⟨b, c, rfl, rfl, q⟩
theorem x_isBl {b c : Bool} (q : Q (.bl (decide (b = c))) H) : rIsB (.bl b) (.bl c) H Q := ⟨b, c, rfl, rfl, q⟩
theorem cut_whole {xs : List V} {lo hi : Option Int} (h : HT.sIx xs.length 0 lo = 0 ∧ HT.sIx xs.length xs.length hi = xs.length) : cutV xs lo hi = xs := by
  unfold cutV
  rw [h.1, h.2]
  simp
theorem x_slA {xs : List V} {lo hi : Option Int} (h : H a = some (.tup xs)) (k : ∀ p H', Same H H' → H' p = some (.tup (cutV xs lo hi)) → Q (.ref p) H') : rSlA K (.ref a) lo hi H Q :=
  ⟨a, xs, rfl, st_of h, fun e => k a H (Same.refl _) (by rw [cut_whole e]; exact h), fun _ p hp => k p _ (same_new hp) upd_same⟩
theorem x_catB {xs ys : List V} (h : H a = some (.tup xs)) (h' : H b = some (.tup ys)) (hz : xs.length + ys.length ≤ 100000) (k : ∀ p H', Same H H' → H' p = some (.tup (xs ++ ys)) → Q (.ref p) H') : rCatA K (.ref a) (.ref b) H Q :=
  ⟨a, b, xs, ys, rfl, rfl, st_of h, st_of h', size_ok hz, fun e => k b H (Same.refl _) (by rw [e]; exact h'), fun _ e => k a H (Same.refl _) (by rw [e, List.append_nil]; exact h), fun _ _ p hp => k p _ (same_new hp) upd_same⟩
theorem x_repB {xs : List V} {n : Int} (h : H a = some (.tup xs)) (hne : xs ≠ []) (hz : xs.length ≤ 1000) (hn : 1 ≤ n ∧ n ≤ 1000) (k : ∀ p H', Same H H' → H' p = some (.tup (List.replicate n.toNat xs).flatten) → Q (.ref p) H') : nRepT K (.ref a) (.int n) H Q := by
  refine ⟨a, n, xs, rfl, rfl, st_of h, hne, hz, ?_⟩
  by_cases e : n = 1
  · subst e
    refine .inl ⟨rfl, k a H (Same.refl _) ?_⟩
    rw [h]
    simp
  · exact .inr ⟨by omega, hn.2, fun p hp => k p _ (same_new hp) upd_same⟩
theorem repS_len {z : Str} {n : Int} (h : 2 ≤ n) (hz : 1 ≤ z.length) : (repS z n).length = n.toNat * z.length := by
  unfold repS
  rw [if_neg (by omega), if_neg]
  · show ((List.replicate n.toNat z.cps).foldl (· ++ ·) #[]).size = _
    rw [PySem.size_reps]
    show 0 + n.toNat * z.cps.size = n.toNat * z.length
    rw [Nat.zero_add]
    rfl
  · rw [Bool.or_eq_true, beq_iff_eq, beq_iff_eq]
    omega
end
/-- a def with defaults that lets nothing out -/
theorem okD {P : Program} {w : World} {K : PySem.W.Frag} {mg : Str → Option Value} {base : Heap} {x qual : Str} {pr : Arguments} {body : List Stmt} {sc : Scope} {dvs : List V} {kws : List (Str × V)} {f : Addr} {fd : FuncData} {N ps : List Str} {k : Nat} {sp : Sp}
    (F : FunD K x qual pr body sc dvs kws f fd) (S : FnScope N ps sc) (len : ∀ vs H Q E, sp vs H Q E → vs.length = ps.length)
    (hb : ∀ (cdv : Value) (A : Around) (outer : List Env) (s : Shared) (H : Hp) (vs : List V) (Q : VK) (E : XK), Room k (A.deeper (envOfC qual sc s.heap.objs.size f cdv)) → sp vs H Q E →
      ∃ t, PSs (cxOf CX0 P w K mg base N qual sc f cdv A outer s H E).nox body t ∧ t { nx := fun _ H' => Q .non H', rt := Q } (start N vs) H) : FnOk P w K mg base CX0 (k + 1) f fd ps sp :=
  F.ok S len fun cdv A outer s H vs Q E hr h => by
    obtain ⟨t, h1, q⟩ := hb cdv A outer s H vs Q E hr h
    exact ⟨t, h1.nox, q⟩
theorem funD_mk {K : PySem.W.Frag} {x qual : Str} {st : Stmt} {f dT : Addr} {oc : Value} {od an : Option Addr} {osl : Array (Option Value)} {kV doc pm cdv ct : Value} {dvs : List V} {o : Obj} {its : List Value} {n : Nat}
    (l : K.lookup f = some ⟨oc, od, .func (PySem.W.fnOf x qual (defArgs st) (defBody st) (defScope st) (.ref dT) kV doc pm an cdv ct), osl⟩) (c : PySem.W.codeIn K cdv qual = true) (k : PySem.W.keepIn K (.ref f) = true)
    (hd : dvs ≠ []) (lT : K.lookup dT = some o) (oT : o.data = .seq its.toArray n) (r : Vals dvs its) :
    FunD K x qual (defArgs st) (defBody st) (defScope st) dvs [] f (PySem.W.fnOf x qual (defArgs st) (defBody st) (defScope st) (.ref dT) kV doc pm an cdv ct) :=
  ⟨⟨oc, od, .ref dT, kV, doc, pm, an, cdv, ct, osl, rfl, l, c, .inr ⟨hd, dT, o, its, n, rfl, lT, oT, r⟩, .inl rfl⟩, k⟩
/-- dict(d) -/
def rDictD (xs : List V) (H : Hp) (Q : VK) : Prop := ∃ (a : Addr) (kvs : List (Key × V)), xs = [.ref a] ∧ Rd H a (.dK kvs) ∧ ∀ p, H p = none → Q (.ref p) (upd H p (.dK kvs))
theorem k_dictD {X : Cx} : CallR X (.type "dict") rDictD := call_dictD
theorem x_rDictD {a : Addr} {H : Hp} {Q : VK} {kvs : List (Key × V)} (h : H a = some (.dK kvs)) (k : ∀ p H2, Fr p H → Same H H2 → H2 p = some (.dK kvs) → Q (.ref p) H2) : rDictD [.ref a] H Q := ⟨a, kvs, rfl, .inl h, x_new1 k⟩
end Xk
/-! zip of a tuple and a list -/
namespace Xk
open PySem PySem.Spec PyProof.Rows L2
/-- a tuple at p and a list at q, side by side -/
def ItTL (K : PySem.W.Frag) (p q : Addr) : It where
  go := fun n H => ∃ (us vs : List V) (u v : V), SqT K H p us ∧ SqL K H q vs ∧ us[n]? = some u ∧ vs[n]? = some v
  yld := fun n H r H' => ∃ T u v, r = .ref T ∧ H T = none ∧ H' = upd H T (.tup [u, v]) ∧ (∀ us, SqT K H p us → us[n]? = some u) ∧ ∀ vs, SqL K H q vs → vs[n]? = some v
  stop := fun n H => ∃ us vs : List V, SqT K H p us ∧ SqL K H q vs ∧ n ≤ us.length ∧ n ≤ vs.length ∧ (n = us.length ∨ n = vs.length)
/-- what stands behind such an iterator -/
def AtTL (z t o i j p q : Addr) (n : Nat) (h : Heap) : Prop :=
  IsZip h z t o .none ∧ IsPair h t (.ref i) (.ref j) ∧ (∃ u v, IsPair h o u v) ∧ h.IsTupleIter i p n ∧ h.IsListIter j q n
theorem sepTL {z t o i j p q : Addr} (D : ZipApart z t o i j p q) : ZipSep2 z t o i j [i, p] [j, q] where
  TIz := D.TIz
  TOz := D.TOz
  TITO := D.TITO
  TIi1 := D.TIi1
  mem1 := List.mem_cons_self
  zf1 := by simp [D.i1z.symm, D.l1z.symm]
  Tf1 := by simp [D.TOi1, D.l1TO.symm]
  TIi2 := D.TIi2
  mem2 := List.mem_cons_self
  zf2 := by simp [D.i2z.symm, D.l2z.symm]
  Tf2 := by simp [D.TOi2, D.l2TO.symm]
  sep1_2 := by simp [D.i12, D.l2i1.symm]
  sep2_1 := by simp [D.i12.symm, D.l1i2.symm]
theorem five {c z t o i j : Addr} {P : Addr → Prop} (h : c ∈ [z, t, o, i, j]) (h1 : P z) (h2 : P t) (h3 : P o) (h4 : P i) (h5 : P j) : P c := by
  simp only [List.mem_cons, List.not_mem_nil, or_false] at h
  rcases h with rfl | rfl | rfl | rfl | rfl <;> assumption
theorem turnTL {P : Program} {w : World} {K : PySem.W.Frag} {es : List Expr} {k : Nat} {pos : Pos} {z t o i j p q : Addr} (D : ZipApart z t o i j p q) :
    Turn P w K (.Tuple es k pos) (ItTL K p q) [z, t, o, i, j] z (AtTL z t o i j p q) where
  mem := List.mem_cons_self
  obj := fun n h st c hc => by
    obtain ⟨g1, g2, ⟨u, v, g3⟩, ⟨o1, e1, _, d1⟩, ⟨o2, e2, _, d2⟩⟩ := st
    refine five (P := fun c => ∃ ob, h.get? c = some ob ∧ ∀ v, ob.data ≠ .cell v) hc ⟨_, g1, fun _ e => nomatch e⟩ ⟨_, g2, fun _ e => nomatch e⟩ ⟨_, g3, fun _ e => nomatch e⟩ ⟨o1, e1, fun x e => ?_⟩ ⟨o2, e2, fun x e => ?_⟩
    · rw [d1] at e
      cases e
    · rw [d2] at e
      cases e
  keep := fun n h h' st g => by
    obtain ⟨g1, g2, ⟨u, v, g3⟩, g4, g5⟩ := st
    exact ⟨g z (by simp) _ g1, g t (by simp) _ g2, ⟨u, v, g o (by simp) _ g3⟩, g4.at fun ob e => g i (by simp) ob e, g5.at fun ob e => g j (by simp) ob e⟩
  item := by
    intro X hP hw hK hc n pins s σ H E I hf st hg
    subst hP hw hK
    obtain ⟨g1, g2, ⟨u0, v0, g3⟩, g4, g5⟩ := st
    obtain ⟨us, vs, u, v, hus, hvs, hu, hv⟩ := hg
    obtain ⟨its, r1, p1, _⟩ := I.tuple hus
    obtain ⟨its2, r2, p2, _⟩ := I.list hvs
    obtain ⟨x, hx, rx⟩ := r1.get hu
    obtain ⟨y, hy, ry⟩ := r2.get hv
    have lt1 : n < its.toArray.size := by
      obtain ⟨b, _⟩ := List.getElem?_eq_some_iff.mp hx
      simpa using b
    have lt2 : n < its2.toArray.size := by
      obtain ⟨b, _⟩ := List.getElem?_eq_some_iff.mp hy
      simpa using b
    have hzl : z < s.heap.objs.size := Heap.lt_size g1
    have hh : X.A.in1.handled = none := I.ok.hd hc
    refine wpAny_pyNext_zipD2_item (sepTL D) (Draws.tuple hh i p D.l1i1 its.toArray) (Draws.list hh j q D.l2i2 its2.toArray) g1 g2 g3 ⟨g4, p1⟩ ⟨g5, p2.isList⟩ lt1 lt2 fun x1 y1 h' tk q1 q2 z' o' st1 st2 hT hsz hk => ?_
    have ex : x1 = x := by
      have e2 : its[n]? = some x1 := by simpa using q1
      exact Option.some.inj (e2.symm.trans hx)
    have ey : y1 = y := by
      have e2 : its2[n]? = some y1 := by simpa using q2
      exact Option.some.inj (e2.symm.trans hy)
    subst ex ey
    refine ⟨_, rfl, wpAny_letOwnedTupleGo_zip (s := { s with heap := h', toks := tk }) z' fun h2 z2 sb => ?_⟩
    have hT2 : h2.get? s.heap.objs.size = some { cls := .type "tuple", data := .seq #[x1, y1] } := (sb.2 _ (Nat.ne_of_gt hzl)).trans hT
    have new : ObjOk X.prog X.w (upd H s.heap.objs.size (.tup [u, v])) h2 s.heap.objs.size (.tup [u, v]) :=
      ⟨by show 2 ≤ sizeLine; decide, [x1, y1], .cons rx (.cons ry .nil), ⟨_, hT2, rfl, _, rfl⟩⟩
    have kept : ∀ c ob, c ∉ [z, t, o, i, j] → s.heap.get? c = some ob → h2.get? c = some ob := fun c ob nc e => by
      simp only [List.mem_cons, List.not_mem_nil, or_false, not_or] at nc
      exact (sb.2 c nc.1).trans (hk c ob nc.1 nc.2.2.1 nc.2.2.2.1 nc.2.2.2.2 e)
    have I1 : Inv X pins σ (upd H s.heap.objs.size (.tup [u, v])) { s with heap := h2, toks := tk } :=
      I.turnedNew (t' := tk) (ch := [z, t, o, i, j]) kept hf (Nat.le_refl _) new
    refine ⟨.ref s.heap.objs.size, _, I1, rfl, ⟨_, u, v, rfl, I.hok.fresh (Nat.le_refl _), rfl, fun l hl => ?_, fun l hl => ?_⟩, ⟨z2, ?_, ⟨x1, y1, ?_⟩, ?_, ?_⟩, fun c hcm => ?_⟩
    · rw [I.tuple_inj hl hus]
      exact hu
    · rw [I.list_inj hl hvs]
      exact hv
    · exact (sb.2 _ D.TIz).trans (hk t _ D.TIz D.TITO D.TIi1 D.TIi2 g2)
    · exact (sb.2 _ D.TOz).trans o'
    · exact st1.1.at fun ob e => (sb.2 _ D.i1z).trans e
    · exact st2.1.at fun ob e => (sb.2 _ D.i2z).trans e
    · have lt : c < s.heap.objs.size := by
        refine five (P := fun c => c < s.heap.objs.size) hcm hzl (Heap.lt_size g2) (Heap.lt_size g3) ?_ ?_
        · obtain ⟨_, e1, _⟩ := g4
          exact Heap.lt_size e1
        · obtain ⟨_, e1, _⟩ := g5
          exact Heap.lt_size e1
      rw [upd_ne (Nat.ne_of_lt lt)]
      exact (hf c hcm).1
  done := by
    intro X hP hw hK hc n pins s σ H E I hf st hg
    subst hP hw hK
    obtain ⟨g1, g2, ⟨u0, v0, g3⟩, g4, g5⟩ := st
    obtain ⟨us, vs, hus, hvs, le1, le2, hend⟩ := hg
    obtain ⟨its, r1, p1, _⟩ := I.tuple hus
    obtain ⟨its2, r2, p2, _⟩ := I.list hvs
    have l1 : its.toArray.size = us.length := by rw [List.size_toArray, r1.length]
    have l2 : its2.toArray.size = vs.length := by rw [List.size_toArray, r2.length]
    have hh : X.A.in1.handled = none := I.ok.hd hc
    exact wpAny_pyNext_zipD2_end (sepTL D) (Draws.tuple hh i p D.l1i1 its.toArray) (Draws.list hh j q D.l2i2 its2.toArray) g1 g2 g3 ⟨g4, p1⟩ ⟨g5, p2.isList⟩ (by omega) (by omega) (by omega) fun h' tk hk =>
      ⟨rfl, I.turnedL (t' := tk) (ch := [z, t, o, i, j]) (fun c ob nc e => by
        simp only [List.mem_cons, List.not_mem_nil, or_false, not_or] at nc
        exact hk c ob nc.1 nc.2.2.1 nc.2.2.2.1 nc.2.2.2.2 e) hf⟩
  self := fun A n s Q E st h => wpAny_pyIter_zip st.1 h
/-- zip(e, e2), e a tuple and e2 a list -/
def iTL (K : PySem.W.Frag) (ta : TA) : TI := fun σ H R => ta σ H fun vs H1 => ∃ p q us ws, vs = [.ref p, .ref q] ∧ SqT K H1 p us ∧ SqL K H1 q ws ∧ R (ItTL K p q) H1
theorem pi_TL {X : Cx} {e e2 : Expr} {ta : TA} {p1 pos tpos : Pos} {es : List Expr} {k : Nat} (hg : Gl X "zip") (hm : X.mg "zip" = none) (ha : PA X [e, e2] ta)
    (hs : starEach [e, e2] X.env = (false, eval e X.env) :: starEach [e2] X.env := by rfl) (hpl : (backTo pos (starEach [e2] X.env)).any (·.1) = false := by rfl) :
    PI X (.Tuple es k tpos) (.Call (.Name "zip" p1) [e, e2] [] pos) (iTL X.K ta) := by
  refine ⟨fun pins s σ H R I h => Call_ (ld_blt I hg hm PyProof.Rows.boot_zip (PyProof.Rows.callWith_type1 (thn (ha.run pos pins s σ H _ I h) fun us s1 ⟨vs, H1, I1, r1, q1⟩ => ?_) hs hpl))⟩
  obtain ⟨p, q, xs, ys, rfl, hx, hy, g⟩ := q1
  have e3 : us = [.ref p, .ref q] := by
    cases r1 with
    | cons a b =>
      cases b with
      | cons c d =>
        cases d
        cases a
        cases c
        rfl
  subst e3
  obtain ⟨its, rx, px, _⟩ := I1.tuple hx
  obtain ⟨its2, ry, py, _⟩ := I1.list hy
  have lp : p < s1.heap.objs.size := by
    obtain ⟨_, e1, _⟩ := id px
    exact Heap.lt_size e1
  refine zip_begins2 (begins_tuple p its.toArray) (begins_list q its2.toArray) px py.isList fun h' hz hTI hTO h1 h2 hsz hk => wpAny_pyIter_zip hz ?_
  have I2 : Inv X pins σ H1 { s1 with heap := h' } := I1.kept (t' := s1.toks) hk
  refine ⟨s1.heap.objs.size + 4, [s1.heap.objs.size + 4, s1.heap.objs.size + 2, s1.heap.objs.size + 3, s1.heap.objs.size, s1.heap.objs.size + 1], _, _, H1, rfl, I2,
    turnTL (PySem.W.ktu_apart s1.heap.objs.size p q lp py.lt), ⟨hz, hTI, ⟨_, _, hTO⟩, ⟨_, h1, rfl, rfl⟩, ⟨_, h2, rfl, rfl⟩⟩, fun c hcm => ?_, g⟩
  have le : s1.heap.objs.size ≤ c := five (P := fun c => s1.heap.objs.size ≤ c) hcm (Nat.le_add_right _ _) (Nat.le_add_right _ _) (Nat.le_add_right _ _) (Nat.le_refl _) (Nat.le_add_right _ _)
  exact I1.fpOk le (I1.hok.fresh le)
/-- a comprehension over it -/
theorem walkTL {K : PySem.W.Frag} {p q : Addr} {us vs : List V} (e : us.length = vs.length) : Walk (ItTL K p q) us.length (fun H => SqT K H p us ∧ SqL K H q vs) (YPair (fun n => us[n]?) (fun n => vs[n]?)) := by
  refine ⟨fun n _ hn g => ?_, fun _ g => ⟨us, vs, g.1, g.2, Nat.le_refl _, by omega, .inl rfl⟩, fun n H v H' _ g y => ?_⟩
  · have h2 : n < vs.length := by omega
    exact ⟨us, vs, us[n], vs[n], g.1, g.2, List.getElem?_eq_getElem hn, List.getElem?_eq_getElem h2⟩
  · obtain ⟨T, x, z, h1, h2, h3, h4, h5⟩ := y
    exact ⟨T, x, z, h1, h2, h3, h4 us g.1, h5 vs g.2⟩
end Xk
section
open PySem PySem.Spec PyProof.Rows L2
namespace Xk
variable {K : PySem.W.Frag} {σ : L2.St} {H : Hp} {Q : VK} {te : TE} {g : TG} {t : TT} {X : Cx}
theorem k_TL {e e2 : Expr} {ta : TA} {p1 pos tpos : Pos} {es : List Expr} {k : Nat} (hk : X.K = K) (hg : Gl X "zip") (hm : X.mg "zip" = none) (ha : PA X [e, e2] ta)
    (hs : starEach [e, e2] X.env = (false, eval e X.env) :: starEach [e2] X.env := by rfl) (hpl : (backTo pos (starEach [e2] X.env)).any (·.1) = false := by rfl) :
    PI X (.Tuple es k tpos) (.Call (.Name "zip" p1) [e, e2] [] pos) (iTL K ta) := hk ▸ pi_TL hg hm ha hs hpl
def rLcZ (K : PySem.W.Frag) (g : TG) (tt : TT) (te : TE) (vs : List Nat) (σ : L2.St) (Q : VK) : List V → Hp → Prop := fun zs H1 => ∃ p q us ws, zs = [.ref p, .ref q] ∧ SqT K H1 p us ∧ SqL K H1 q ws ∧ RLc (ItTL K p q) g tt te vs σ Q H1
theorem x_lcZ1 {tr : TA} {vs : List Nat} (q : tr σ H (rLcZ K g t te vs σ Q)) : tLc (iTL K tr) g t te vs σ H Q := q
theorem x_lcZ {a b : Addr} {us ws : List V} {vs : List Nat} (Pv : Addr → Nat → Hp → Prop) (e : us.length = ws.length) (hx : SqT K H a us) (hy : SqL K H b ws) (h0 : ∀ Dl, Fr Dl H → Pv Dl 0 (upd H Dl (.lst [])))
    (hl : ∀ Dl i H', Fr Dl H → Pv Dl i H' → SqT K H' a us ∧ SqL K H' b ws)
    (hs : ∀ Dl, Fr Dl H → ∀ i x y H1 T H', us[i]? = some x → ws[i]? = some y → Pv Dl i H1 → Fr T H1 → Same H1 H' → H' T = some (.tup [x, y]) → g (.ref T) (wipe σ vs) H' fun σ2 H2 => wipe σ2 vs = wipe σ vs ∧ t σ2 H2 fun c H3 =>
      if c = true then te σ2 H3 fun y H4 => ∃ acc, H4 Dl = some (.lst acc) ∧ acc.length < sizeLine ∧ Pv Dl (i + 1) (upd H4 Dl (.lst (acc ++ [y]))) else Pv Dl (i + 1) H3)
    (hd : ∀ Dl H', Fr Dl H → Pv Dl us.length H' → Q (.ref Dl) H') : rLcZ K g t te vs σ Q [.ref a, .ref b] H := ⟨a, b, us, ws, rfl, hx, hy, fun Dl hD =>
  lc_it (walkTL e) (Pv Dl) (h0 Dl ⟨hD⟩) (fun i H' _ p => hl Dl i H' ⟨hD⟩ p) (fun i x H1 H' hi p y => by
    obtain ⟨T, u, v, rfl, hT, rfl, e1, e2⟩ := y
    exact hs Dl ⟨hD⟩ i u v H1 T _ e1 e2 p ⟨hT⟩ (same_new hT) upd_same) (fun H' p => hd Dl H' ⟨hD⟩ p)⟩
/-- texts in order -/
def nLtS : R2 := fun x y H Q => ∃ i j, x = .str i ∧ y = .str j ∧ Q (.bl (decide (i.cps.toList < j.cps.toList))) H
def nLeS : R2 := fun x y H Q => ∃ i j, x = .str i ∧ y = .str j ∧ Q (.bl (!decide (j.cps.toList < i.cps.toList))) H
theorem op_nLtS : OpR X (compareOp .Lt) nLtS := op_lt_str
theorem op_nLeS : OpR X (compareOp .LtE) nLeS := op_le_str
def rPar (i j : Nat) (σ : L2.St) (R : L2.St → Hp → Prop) : List V → Hp → Prop := fun vs H1 => ∃ v w, vs = [v, w] ∧ R ((σ.set i (some v)).set j (some w)) H1
theorem x_spar {i j : Nat} {ta : TA} {tz : TS} {D : Ends} (q : ta σ H (rPar i j σ (tz D))) : tSeq (tPar i j ta) tz D σ H := q
theorem x_par {i j : Nat} {ta : TA} {D : Ends} (q : ta σ H (rPar i j σ D.nx)) : tPar i j ta D σ H := q
theorem x_rPar {i j : Nat} {R : L2.St → Hp → Prop} {v u : V} (q : R ((σ.set i (some v)).set j (some u)) H) : rPar i j σ R [v, u] H := ⟨v, u, rfl, q⟩
def nGeS : R2 := fun x y H Q => ∃ i j, x = .str i ∧ y = .str j ∧ Q (.bl (!decide (i.cps.toList < j.cps.toList))) H
theorem op_nGeS : OpR X (compareOp .GtE) nGeS := op_ge_str
theorem x_nGeS {i j : Str} (q : Q (.bl (!decide (i.cps.toList < j.cps.toList))) H) : nGeS (.str i) (.str j) H Q := ⟨i, j, rfl, rfl, q⟩
theorem x_nLtS {i j : Str} (q : Q (.bl (decide (i.cps.toList < j.cps.toList))) H) : nLtS (.str i) (.str j) H Q := ⟨i, j, rfl, rfl, q⟩
theorem x_nLeS {i j : Str} (q : Q (.bl (!decide (j.cps.toList < i.cps.toList))) H) : nLeS (.str i) (.str j) H Q := ⟨i, j, rfl, rfl, q⟩
theorem x_ext {l b : Addr} {xs zs : List V} (h : H l = some (.lst xs)) (h' : H b = some (.lst zs)) (hz : xs.length + zs.length ≤ 100000) (q : Q .non (upd H l (.lst (xs ++ zs)))) : rExtend (.ref l) [.ref b] H Q := ⟨l, b, xs, zs, rfl, rfl, h, h', size_ok hz, q⟩
theorem x_sortS {a : Addr} {xs : List Str} (h : SqL K H a (xs.map V.str)) (hl : xs.length < 64) (k : ∀ p H2 (ys : List Str), ys.Perm xs → sortedS ys = true → Fr p H → Same H H2 → H2 p = some (.lst (ys.map V.str)) → Q (.ref p) H2) : rSortedS K [.ref a] H Q :=
  ⟨a, xs, rfl, h, hl, fun ys p h1 h2 hp => k p _ ys h1 h2 ⟨hp⟩ (same_new hp) upd_same⟩
end Xk
end
namespace Xk
open PySem PySem.Spec PyProof.Rows L2
theorem k_fld {X : Cx} {K : PySem.W.Frag} {e : Expr} {f : Str} {pos : Pos} {ta : TE} (hk : X.K = K) (he : PE X e ta) (hb : attributeBase e f X.env (eval e X.env) = eval e X.env) : PE X (.Attribute e f pos) (tFld K ta f) := hk ▸ pe_fld he hb
end Xk
namespace Xk
open PySem PySem.Spec PyProof.Rows L2
def rSubSl (x v : V) (l u : Option Int) (σ : L2.St) (R : L2.St → Hp → Prop) : Hp → Prop := fun H3 => ∃ (a b : Addr) (xs ys : List V) (i j : Int), x = .ref a ∧ v = .ref b ∧ l = some i ∧ u = some j ∧
  H3 a = some (.lst xs) ∧ H3 b = some (.lst ys) ∧ a ≠ b ∧ 0 ≤ i ∧ i ≤ j ∧ j ≤ xs.length ∧ xs.length + ys.length ≤ sizeLine ∧ R σ (upd H3 a (.lst (xs.take i.toNat ++ ys ++ xs.drop j.toNat)))
theorem x_gSubSl {to : TE} {tl th : TO} {v : V} {σ : L2.St} {H : Hp} {R : L2.St → Hp → Prop} (q : to σ H fun x H1 => tl σ H1 fun l H2 => th σ H2 fun u H3 => rSubSl x v l u σ R H3) : gSubSl to tl th v σ H R := q
theorem x_rSubSl {a b : Addr} {xs ys : List V} {i j : Int} {n m : Nat} {σ : L2.St} {H : Hp} {R : L2.St → Hp → Prop} (h : H a = some (.lst xs)) (h' : H b = some (.lst ys)) (ne : a ≠ b) (hi : i = (n : Int)) (hj : j = (m : Int)) (nm : n ≤ m) (hm : m ≤ xs.length) (hz : xs.length + ys.length ≤ 100000)
    (q : R σ (upd H a (.lst (xs.take n ++ ys ++ xs.drop m)))) : rSubSl (.ref a) (.ref b) (some i) (some j) σ R H := by
  refine ⟨a, b, xs, ys, i, j, rfl, rfl, rfl, rfl, h, h', ne, by omega, by omega, by omega, size_ok hz, ?_⟩
  rw [hi, hj, Int.toNat_natCast, Int.toNat_natCast]
  exact q
end Xk
/-! enumerate of a tuple -/
namespace Xk
open PySem PySem.Spec PyProof.Rows L2
theorem wp_ite {M : Model} {A : Around} {E : Value → Shared → Prop} {s : Shared} {α : Type} {c : Prop} [Decidable c] {a b : Sem α} {Q : α → Shared → Prop} (h1 : wpAny M A a Q E s) (h2 : wpAny M A b Q E s) : wpAny M A (if c then a else b) Q E s := by
  by_cases h : c
  · exact wpAny_ite_true (decide_eq_true h) h1
  · exact wpAny_ite_false (decide_eq_false h) h2
theorem enumT0 {prog : Program} {w : World} {A : Around} {E : Value → Shared → Prop} {R : Fin → Shared → Prop} {s : Shared} {v : Value} {o : Obj} {H : Heap → Prop} (b : Begins v o H) (h1 : H s.heap)
  (h2 : R (Fin.done (Flow.ret (Value.ref (s.heap.push o).objs.size)))
        { heap := (s.heap.push o).push { cls := Value.type "enumerate", data := Data.fields #[Value.none, Value.bool false, Value.ref s.heap.objs.size, rawInt 0, Value.none, Value.none] },
          gens := s.gens, drawn := s.drawn, toks := s.toks, os := s.os }) :
  wpAny (model prog w) A (do
      let it ← pyIter v
      let r ← Builtin.SmallTypes.newRecord (Value.type "enumerate") (Builtin.SmallTypes.ownedTupleFields ++ [it, rawInt 0, Value.none, Value.none])
      ret r) R E s := by
  refine wpAny_bind (b.iter prog w A _ s _ h1 ?_)
  refine wpAny_bind ?_
  refine wpAny_bind (wpAny_alloc' ?_)
  refine wpAny_pure ?_
  exact wpAny_pure h2
theorem enumT1 {v : Value} {o : Obj} {H : Heap → Prop} (b : Begins v o H) : Meets (Builtin.«enumerate.__new__» { pos := [.type "enumerate", v] }) fun A R s => H s.heap ∧
   R (Except.ok (Flow.ret (Value.ref (s.heap.push o).objs.size)))
        { heap := (s.heap.push o).push { cls := Value.type "enumerate", data := Data.fields #[Value.none, Value.bool false, Value.ref s.heap.objs.size, rawInt 0, Value.none, Value.none] },
          gens := s.gens, drawn := s.drawn, toks := s.toks, os := s.os } := by
  intro prog w A R s hs
  obtain ⟨h1, h2⟩ := hs
  refine wpAny_bind ?_
  refine wpAny_bind ?_
  refine wpAny_of_eq (a := true) rfl ?_
  refine wpAny_ite_false rfl ?_
  refine wpAny_bind ?_
  refine wpAny_of_eq sub_enumerate ?_
  refine wpAny_ite_false rfl ?_
  refine wpAny_pure ?_
  refine wpAny_ite_true (by decide) ?_
  refine wpAny_bind ?_
  refine wpAny_bind (wpAny_stack_any fun st => wpAny_pure ?_)
  refine wp_ite ?_ ?_
  · refine wpAny_bind ?_
    refine wpAny_of_eq (a := (v, none)) rfl ?_
    exact enumT0 b h1 h2
  · refine wpAny_bind ?_
    refine wpAny_of_eq (a := (v, none)) rfl ?_
    exact enumT0 b h1 h2
theorem enum_one {prog : Program} {w : World} {A : Around} {E : Value → Shared → Prop} {s : Shared} {v : Value} {o : Obj} {H : Heap → Prop} {Q : Value → Shared → Prop} (b : Begins v o H) (h1 : H s.heap)
  (q : ∀ h' : Heap, IsEnum h' (s.heap.objs.size + 1) s.heap.objs.size 0 Value.none → h'.get? s.heap.objs.size = some o → h'.objs.size = s.heap.objs.size + 2 → (∀ (b : Addr) (o : Obj), s.heap.get? b = some o → h'.get? b = some o) →
     Q (Value.ref (s.heap.objs.size + 1)) { heap := h', gens := s.gens, drawn := s.drawn, toks := s.toks, os := s.os }) :
  wpAny (model prog w) A (call (Value.type "enumerate") [v]) Q E s := by
  refine callType_new F.called_enumerate (by decide) (F.typeCall_enumerate_1 v) (F.newCall_enumerate_1 v) (fun obj => F.args_object_init_2 obj v) F.entry_enumerate_new (enumT1 b) ⟨h1, ?_⟩
  have e1 : (s.heap.push o).objs.size = s.heap.objs.size + 1 := by rw [Heap.size_push]
  have g : ((s.heap.push o).push { cls := Value.type "enumerate", data := Data.fields #[Value.none, Value.bool false, Value.ref s.heap.objs.size, rawInt 0, Value.none, Value.none] }).get? (s.heap.push o).objs.size = some { cls := Value.type "enumerate", data := Data.fields #[Value.none, Value.bool false, Value.ref s.heap.objs.size, rawInt 0, Value.none, Value.none] } := Heap.get?_push_size _ rfl
  refine ⟨?_, ?_⟩
  · rw [e1] at g ⊢
    exact ⟨_, g, rfl⟩
  · rw [e1] at g ⊢
    refine q _ g ?_ (by rw [Heap.size_push, Heap.size_push]) fun b' o' e => Heap.get?_push_of_some _ (Heap.get?_push_of_some _ e)
    exact Heap.get?_push_of_some _ (Heap.get?_push_size _ b.free)
/-- a tuple at a, each item with its number -/
def ItET (K : PySem.W.Frag) (a : Addr) : It where
  go := fun i H => ∃ (xs : List V) (x : V), SqT K H a xs ∧ xs[i]? = some x
  yld := fun i H v H' => ∃ T x, v = .ref T ∧ H T = none ∧ H' = upd H T (.tup [.int (i : Nat), x]) ∧ ∀ xs : List V, SqT K H a xs → xs[i]? = some x
  stop := fun i H => ∃ xs : List V, SqT K H a xs ∧ i = xs.length
theorem turnET {P : Program} {w : World} {K : PySem.W.Frag} {es : List Expr} {k : Nat} {pos : Pos} {a e it : Addr} (d1 : e ≠ it) (d2 : a ≠ it) (d3 : e ≠ a) :
    Turn P w K (.Tuple es k pos) (ItET K a) [e, it] e (fun i h => (∃ old, IsEnum h e it (i : Nat) old) ∧ h.IsTupleIter it a i) where
  mem := List.mem_cons_self
  obj := fun n h st c hc => by
    obtain ⟨⟨old, g1⟩, ⟨o1, e1, _, dd1⟩⟩ := st
    simp only [List.mem_cons, List.not_mem_nil, or_false] at hc
    rcases hc with rfl | rfl
    · exact ⟨_, g1, fun _ e => nomatch e⟩
    · refine ⟨o1, e1, fun x e => ?_⟩
      rw [dd1] at e
      cases e
  keep := fun n h h' st g => by
    obtain ⟨⟨old, g1⟩, g2⟩ := st
    exact ⟨⟨old, g e (by simp) _ g1⟩, g2.at fun ob e => g it (by simp) ob e⟩
  item := by
    intro X hP hw hK hc n pins s σ H E I hf st hg
    subst hP hw hK
    obtain ⟨⟨old, g1⟩, g2⟩ := st
    obtain ⟨us, u, hus, hu⟩ := hg
    obtain ⟨its, r1, p1, _⟩ := I.tuple hus
    obtain ⟨x, hx, rx⟩ := r1.get hu
    have lt1 : n < its.toArray.size := by
      obtain ⟨b, _⟩ := List.getElem?_eq_some_iff.mp hx
      simpa using b
    have hzl : e < s.heap.objs.size := Heap.lt_size g1
    have hil : it < s.heap.objs.size := by
      obtain ⟨_, e1, _⟩ := id g2
      exact Heap.lt_size e1
    have hh : X.A.in1.handled = none := I.ok.hd hc
    refine wpAny_pyNext_enum_itemD (Draws.tuple hh it a d2 its.toArray) g1 ⟨g2, p1⟩ lt1 d1 (by simp [d1, d3]) fun x1 h' tk q1 eo st1 hT hsz hk => ?_
    have ex : x1 = x := by
      have e2 : its[n]? = some x1 := by simpa using q1
      exact Option.some.inj (e2.symm.trans hx)
    subst ex
    refine ⟨_, rfl, wpAny_letOwnedTupleGo_enum (s := { s with heap := h', toks := tk + 1 }) eo fun h2 z2 sb => ?_⟩
    have hT2 : h2.get? s.heap.objs.size = some { cls := .type "tuple", data := .seq #[Value.int (n : Nat) tk, x1] } := (sb.2 _ (Nat.ne_of_gt hzl)).trans hT
    have new : ObjOk X.prog X.w (upd H s.heap.objs.size (.tup [.int (n : Nat), u])) h2 s.heap.objs.size (.tup [.int (n : Nat), u]) :=
      ⟨by show 2 ≤ sizeLine; decide, [Value.int (n : Nat) tk, x1], .cons (by first | exact ⟨tk, rfl⟩ | exact rfl | constructor) (.cons rx .nil), ⟨_, hT2, rfl, _, rfl⟩⟩
    have kept : ∀ c ob, c ∉ [e, it] → s.heap.get? c = some ob → h2.get? c = some ob := fun c ob nc e => by
      simp only [List.mem_cons, List.not_mem_nil, or_false, not_or] at nc
      exact (sb.2 c nc.1).trans (hk c ob nc.1 nc.2 e)
    have I1 : Inv X pins σ (upd H s.heap.objs.size (.tup [.int (n : Nat), u])) { s with heap := h2, toks := tk + 1 } :=
      I.turnedNew (t' := tk + 1) (ch := [e, it]) kept hf (Nat.le_refl _) new
    refine ⟨.ref s.heap.objs.size, _, I1, rfl, ⟨_, u, rfl, I.hok.fresh (Nat.le_refl _), rfl, fun l hl => ?_⟩, ⟨⟨_, z2⟩, ?_⟩, fun c hcm => ?_⟩
    · rw [I.tuple_inj hl hus]
      exact hu
    · exact st1.1.at fun ob e => (sb.2 _ d1.symm).trans e
    · have lt : c < s.heap.objs.size := by
        simp only [List.mem_cons, List.not_mem_nil, or_false] at hcm
        rcases hcm with rfl | rfl
        · exact hzl
        · exact hil
      rw [upd_ne (Nat.ne_of_lt lt)]
      exact (hf c hcm).1
  done := by
    intro X hP hw hK hc n pins s σ H E I hf st hg
    subst hP hw hK
    obtain ⟨⟨old, g1⟩, g2⟩ := st
    obtain ⟨us, hus, rfl⟩ := hg
    obtain ⟨its, r1, p1, _⟩ := I.tuple hus
    have l1 : its.toArray.size = us.length := by rw [List.size_toArray, r1.length]
    have hh : X.A.in1.handled = none := I.ok.hd hc
    refine wpAny_pyNext_enum_endD (Draws.tuple hh it a d2 its.toArray) g1 (by rw [l1]; exact ⟨g2, p1⟩) fun h' hk => ?_
    exact ⟨rfl, I.turnedL (t' := s.toks) (ch := [e, it]) (fun c ob nc e => by
      simp only [List.mem_cons, List.not_mem_nil, or_false, not_or] at nc
      exact hk c ob nc.2 e) hf⟩
  self := fun A n s Q E st h => wpAny_pyIter_enum st.1.choose_spec h
/-- enumerate(e), e a tuple -/
def iET (K : PySem.W.Frag) (ta : TA) : TI := fun σ H R => ta σ H fun vs H1 => ∃ p us, vs = [.ref p] ∧ SqT K H1 p us ∧ R (ItET K p) H1
theorem pi_ET {X : Cx} {e : Expr} {ta : TA} {p1 pos tpos : Pos} {es : List Expr} {k : Nat} (hg : Gl X "enumerate") (hm : X.mg "enumerate" = none) (ha : PA X [e] ta)
    (hs : starEach [e] X.env = [(false, eval e X.env)] := by rfl) (hpl : (backTo pos (starEach [] X.env)).any (·.1) = false := by rfl) :
    PI X (.Tuple es k tpos) (.Call (.Name "enumerate" p1) [e] [] pos) (iET X.K ta) := by
  refine ⟨fun pins s σ H R I h => Call_ (ld_blt I hg hm PyProof.Rows.boot_enumerate (PyProof.Rows.callWith_type1 (thn (ha.run pos pins s σ H _ I h) fun us s1 ⟨vs, H1, I1, r1, q1⟩ => ?_) hs hpl))⟩
  obtain ⟨p, xs, rfl, hx, g⟩ := q1
  have e3 : us = [.ref p] := by
    cases r1 with
    | cons a b =>
      cases b
      cases a
      rfl
  subst e3
  obtain ⟨its, rx, px, _⟩ := I1.tuple hx
  have lp : p < s1.heap.objs.size := by
    obtain ⟨_, e1, _⟩ := id px
    exact Heap.lt_size e1
  refine enum_one (begins_tuple p its.toArray) px fun h' hz h1 hsz hk => wpAny_pyIter_enum hz ?_
  have I2 : Inv X pins σ H1 { s1 with heap := h' } := I1.kept (t' := s1.toks) hk
  refine ⟨s1.heap.objs.size + 1, [s1.heap.objs.size + 1, s1.heap.objs.size], _, _, H1, rfl, I2,
    turnET (Nat.succ_ne_self _) (Nat.ne_of_lt lp) (Nat.ne_of_gt (Nat.lt_succ_of_lt lp)), ⟨⟨_, hz⟩, ⟨_, h1, rfl, rfl⟩⟩, fun c hcm => ?_, g⟩
  have le : s1.heap.objs.size ≤ c := by
    simp only [List.mem_cons, List.not_mem_nil, or_false] at hcm
    rcases hcm with rfl | rfl
    · exact Nat.le_add_right _ _
    · exact Nat.le_refl _
  exact I1.fpOk le (I1.hok.fresh le)
/-- a comprehension over it -/
theorem walkET {K : PySem.W.Frag} {p : Addr} {us : List V} : Walk (ItET K p) us.length (fun H => SqT K H p us) (YPair (fun n => some (.int (n : Nat))) (fun n => us[n]?)) := by
  refine ⟨fun n _ hn g => ?_, fun _ g => ⟨us, g, rfl⟩, fun n H v H' _ g y => ?_⟩
  · exact ⟨us, us[n], g, List.getElem?_eq_getElem hn⟩
  · obtain ⟨T, x, h1, h2, h3, h4⟩ := y
    exact ⟨T, _, x, h1, h2, h3, rfl, h4 us g⟩
end Xk
section
open PySem PySem.Spec PyProof.Rows L2
namespace Xk
variable {K : PySem.W.Frag} {σ : L2.St} {H : Hp} {Q : VK} {te : TE} {g : TG} {t : TT} {X : Cx}
theorem k_ET {e : Expr} {ta : TA} {p1 pos tpos : Pos} {es : List Expr} {k : Nat} (hk : X.K = K) (hg : Gl X "enumerate") (hm : X.mg "enumerate" = none) (ha : PA X [e] ta)
    (hs : starEach [e] X.env = [(false, eval e X.env)] := by rfl) (hpl : (backTo pos (starEach [] X.env)).any (·.1) = false := by rfl) :
    PI X (.Tuple es k tpos) (.Call (.Name "enumerate" p1) [e] [] pos) (iET K ta) := hk ▸ pi_ET hg hm ha hs hpl
def rLcET (K : PySem.W.Frag) (g : TG) (tt : TT) (te : TE) (vs : List Nat) (σ : L2.St) (Q : VK) : List V → Hp → Prop := fun zs H1 => ∃ p us, zs = [.ref p] ∧ SqT K H1 p us ∧ RLc (ItET K p) g tt te vs σ Q H1
theorem x_lcET1 {tr : TA} {vs : List Nat} (q : tr σ H (rLcET K g t te vs σ Q)) : tLc (iET K tr) g t te vs σ H Q := q
theorem x_lcET {a : Addr} {us : List V} {vs : List Nat} (Pv : Addr → Nat → Hp → Prop) (hx : SqT K H a us) (h0 : ∀ Dl, Fr Dl H → Pv Dl 0 (upd H Dl (.lst [])))
    (hl : ∀ Dl i H', Fr Dl H → Pv Dl i H' → SqT K H' a us)
    (hs : ∀ Dl, Fr Dl H → ∀ i x H1 T H', us[i]? = some x → Pv Dl i H1 → Fr T H1 → Same H1 H' → H' T = some (.tup [.int (i : Nat), x]) → g (.ref T) (wipe σ vs) H' fun σ2 H2 => wipe σ2 vs = wipe σ vs ∧ t σ2 H2 fun c H3 =>
      if c = true then te σ2 H3 fun y H4 => ∃ acc, H4 Dl = some (.lst acc) ∧ acc.length < sizeLine ∧ Pv Dl (i + 1) (upd H4 Dl (.lst (acc ++ [y]))) else Pv Dl (i + 1) H3)
    (hd : ∀ Dl H', Fr Dl H → Pv Dl us.length H' → Q (.ref Dl) H') : rLcET K g t te vs σ Q [.ref a] H := ⟨a, us, rfl, hx, fun Dl hD =>
  lc_it walkET (Pv Dl) (h0 Dl ⟨hD⟩) (fun i H' _ p => hl Dl i H' ⟨hD⟩ p) (fun i x H1 H' hi p y => by
    obtain ⟨T, u, v, rfl, hT, rfl, e1, e2⟩ := y
    cases Option.some.inj e1
    exact hs Dl ⟨hD⟩ i v H1 T _ e2 p ⟨hT⟩ (same_new hT) upd_same) (fun H' p => hd Dl H' ⟨hD⟩ p)⟩
end Xk
end
/-! dict comprehensions over a tuple -/
section
open PySem PySem.Spec PyProof.Rows L2
namespace Xk
variable {K : PySem.W.Frag} {σ : L2.St} {H : Hp} {Q : VK} {tk tv : TE} {g : TG} {t : TT}
def RDc (J : It) (g : TG) (tt : TT) (tk tv : TE) (vs : List Nat) (σ : L2.St) (Q : VK) : Hp → Prop := fun H1 => ∀ D, H1 D = none → ∃ W : Nat → Nat → Hp → Prop, (∃ m, W 0 m (upd H1 D (.dK []))) ∧ ∀ i m H, W i m H →
  (J.stop i H ∧ Q (.ref D) H) ∨ (J.go i H ∧ ∃ Nx : Hp → Prop, (∀ H', Nx H' → ∃ m', m' < m ∧ W (i + 1) m' H') ∧ ∀ x H', J.yld i H x H' → g x (wipe σ vs) H' fun σ2 H2 => wipe σ2 vs = wipe σ vs ∧ tt σ2 H2 fun b H3 =>
    if b = true then tk σ2 H3 fun y H4 => tv σ2 H4 fun z H5 => ∃ kvs k, y = kV k ∧ H5 D = some (.dK kvs) ∧ kvs.length < sizeLine ∧ Nx (upd H5 D (.dK (putK kvs k z))) else Nx H3)
def rDcT (K : PySem.W.Frag) (g : TG) (tt : TT) (tk tv : TE) (vs : List Nat) (σ : L2.St) (Q : VK) : VK := fun x H1 => ∃ a, x = .ref a ∧ (∃ xs, SqT K H1 a xs) ∧ RDc (Itt K a) g tt tk tv vs σ Q H1
theorem x_dcT1 {tx : TE} {vs : List Nat} (q : tx σ H (rDcT K g t tk tv vs σ Q)) : tDc (iTup K tx) g t tk tv vs σ H Q := q
theorem x_dcT {a : Addr} {xs : List V} {vs : List Nat} (Pv : Addr → Nat → Hp → Prop) (hx : SqT K H a xs) (h0 : ∀ Dl, Fr Dl H → Pv Dl 0 (upd H Dl (.dK []))) (hl : ∀ Dl i H', Fr Dl H → Pv Dl i H' → SqT K H' a xs)
    (hs : ∀ Dl, Fr Dl H → ∀ i x H', xs[i]? = some x → Pv Dl i H' → g x (wipe σ vs) H' fun σ2 H2 => wipe σ2 vs = wipe σ vs ∧ t σ2 H2 fun b H3 =>
      if b = true then tk σ2 H3 fun y H4 => tv σ2 H4 fun z H5 => ∃ kvs k, y = kV k ∧ H5 Dl = some (.dK kvs) ∧ kvs.length < sizeLine ∧ Pv Dl (i + 1) (upd H5 Dl (.dK (putK kvs k z))) else Pv Dl (i + 1) H3)
    (hd : ∀ Dl H', Fr Dl H → Pv Dl xs.length H' → Q (.ref Dl) H') : rDcT K g t tk tv vs σ Q (.ref a) H := ⟨a, rfl, ⟨xs, hx⟩, fun Dl hD =>
  dc_tup (xs := xs) (Pv Dl) (h0 Dl ⟨hD⟩) (fun i H' _ p => hl Dl i H' ⟨hD⟩ p) (fun i x H' hi p => hs Dl ⟨hD⟩ i x H' hi p) (fun H' p => hd Dl H' ⟨hD⟩ p)⟩
end Xk
end

local macro_rules | `(tactic| wtm_at "key") => `(tactic| (first | assumption | exact rfl | fail "key"))
local macro_rules | `(tactic| wtm_at "few") => `(tactic| (first | assumption | exact Nat.le_of_ble_eq_true rfl | fail "few"))
local macro_rules | `(tactic| wtm_at "cls") => `(tactic| (first | assumption | fail "cls"))
local macro_rules | `(tactic| wtm_at "neq") => `(tactic| (first | assumption | exact Ne.symm (by assumption) | exact Xk.ne_new (by assumption) (by wtm_at "hx") | exact (Xk.ne_new (by assumption) (by wtm_at "hx")).symm | fail "neq"))
local macro_rules | `(tactic| wtm_at "hx") => `(tactic| (first | assumption | exact L2.upd_same | ((refine' (L2.upd_ne ?un).trans ?uh); (case un => wtm_at "neq"); (case uh => wtm_at "hx")) | ((refine' Xk.same_at ?ue ?uh); (case ue => assumption); (case uh => wtm_at "hx")) | ((refine' Xk.but_at ?ue ?un ?uh); (case ue => assumption); (case un => wtm_at "neq"); (case uh => wtm_at "hx")) | fail "hx"))
local macro_rules | `(tactic| wtm_at "free") => `(tactic| (first | assumption | ((refine' Xk.free_back ?uh ?ue); (case uh => assumption); (case ue => wtm_at "sm")) | ((refine' Xk.free_back ?uh ?ue); (case uh => (refine' Xk.fr_upd ?uf; case uf => assumption)); (case ue => wtm_at "sm")) | fail "free"))
local macro_rules | `(tactic| wtm_at "sm") => `(tactic| (first | assumption | exact L2.Same.refl _ | ((refine' Xk.same_mut ?ue ?uh); (case ue => wtm_at "sm"); (case uh => wtm_at "free")) | ((refine' L2.Same.trans ?ue ?uh); (case uh => assumption); (case ue => wtm_at "sm")) | ((refine' Xk.same_but ?ue ?uh ?us); (case ue => assumption); (case uh => wtm_at "free"); (case us => wtm_at "sm")) | fail "sm"))
local macro_rules | `(tactic| wtm_at "bm") => `(tactic| (first | assumption | exact Xk.But.refl _ _ | ((refine' Xk.but_mut ?ue); (case ue => wtm_at "bm")) | ((refine' Xk.but_new ?ue ?uh); (case ue => wtm_at "bm"); (case uh => wtm_at "free")) | ((refine' Xk.but_trans ?ue ?uh); (case uh => assumption); (case ue => wtm_at "bm")) | ((refine' Xk.but_trans ?ue (Xk.but_same ?uh)); (case uh => assumption); (case ue => wtm_at "bm")) | fail "bm"))
local macro_rules | `(tactic| wtm_at "sq") => `(tactic| (first | assumption | exact Xk.sq_of (by wtm_at "hx") | ((refine' Xk.sq_same ?uh ?ue); (case uh => assumption); (case ue => wtm_at "sm")) | fail "sq"))
local macro_rules | `(tactic| wtm_at "st") => `(tactic| (first | assumption | exact Xk.st_of (by wtm_at "hx") | ((refine' Xk.st_same ?uh ?ue); (case uh => assumption); (case ue => wtm_at "sm")) | fail "st"))
local macro_rules | `(tactic| wtm_at "side") => `(tactic| (first | assumption | decide | omega | (refine Or.inr ?_; omega) | (refine Or.inl ?_; omega) | (refine ⟨?_, ?_⟩ <;> omega) | (refine ⟨?_, ?_, ?_⟩ <;> first | omega | decide) | fail "side"))
local macro_rules | `(tactic| wtm_at "len") => `(tactic| (first | omega | (simp only [List.length_map, List.length_append, List.length_cons, List.length_nil, List.length_set, List.length_replicate] at *; omega) | fail "len"))
local macro_rules | `(tactic| wtm_at "x") => `(tactic| (first
  | ((with_reducible refine' Xk.x_var ?a1 ?_); (case a1 => exact rfl))
  | (with_reducible refine Xk.x_c ?_)
  | (with_reducible refine Xk.x_op ?_)
  | (with_reducible refine Xk.x_I0 ?_)
  | ((with_reducible refine' Xk.x_I ?a1 ?_); (case a1 => wtm_at "side"))
  | (with_reducible refine Xk.x_cons ?_)
  | (with_reducible refine Xk.x_nil ?_)
  | (with_reducible refine Xk.x_cb ?_)
  | (with_reducible refine Xk.x_call ?_)
  | (with_reducible refine Xk.x_sasg ?_)
  | (with_reducible refine Xk.x_asg ?_)
  | (with_reducible refine Xk.x_ret ?_)
  | (with_reducible refine Xk.x_test ?_)
  | (with_reducible refine Xk.x_bl ?_)
  | (with_reducible refine Xk.x_isI ?_)
  | (with_reducible refine Xk.x_sif ?_)
  | (with_reducible refine Xk.x_ifS ?_)
  | (with_reducible refine Xk.x_and ?_)
  | (with_reducible refine Xk.x_or ?_)
  | (with_reducible refine Xk.x_not ?_)
  | (with_reducible refine Xk.x_B ?_)
  | (with_reducible refine Xk.x_nInt ?_)
  | (with_reducible refine Xk.x_nIntB ?_)
  | ((with_reducible refine' Xk.x_lenL ?a1 ?_); (case a1 => wtm_at "sq"))
  | ((with_reducible refine' Xk.x_lenT ?a1 ?_); (case a1 => wtm_at "st"))
  | (with_reducible refine Xk.x_un ?_)
  | (with_reducible refine Xk.x_U ?_)
  | ((with_reducible refine' Xk.x_eq ?a1 ?_); (case a1 => exact rfl))
  | ((with_reducible refine' Xk.x_ne ?a1 ?_); (case a1 => exact rfl))
  | ((with_reducible refine' Xk.x_ixL ?a1 ?a2 ?_); (case a1 => wtm_at "sq"); (case a2 => first | exact rfl | assumption | exact Xk.at_nat rfl (Xk.map_at (by assumption)) | exact Xk.at_nat rfl (by assumption)))
  | ((with_reducible refine' Xk.x_ixT ?a1 ?a2 ?_); (case a1 => wtm_at "st"); (case a2 => first | exact rfl | assumption | exact Xk.at_nat rfl (Xk.map_at (by assumption)) | exact Xk.at_nat rfl (by assumption)))
  | (with_reducible refine Xk.x_lst ?_)
  | (with_reducible refine Xk.x_tup ?_)
  | ((with_reducible refine' Xk.x_new ?a1 ?_); (case a1 => wtm_at "len"))
  | ((with_reducible refine' Xk.x_listL ?a1 ?_); (case a1 => wtm_at "sq"))
  | ((with_reducible refine' Xk.x_listT ?a1 ?_); (case a1 => wtm_at "st"))
  | ((with_reducible refine' Xk.x_tupleL ?a1 ?_); (case a1 => wtm_at "sq"))
  | ((with_reducible refine' Xk.x_tupleT ?a1 ?_); (case a1 => wtm_at "st"))
  | (with_reducible refine Xk.x_seq ?_)
  | (with_reducible refine Xk.x_next ?_)
  | (with_reducible refine Xk.x_sdrop ?_)
  | (with_reducible refine Xk.x_drop ?_)
  | (with_reducible refine Xk.x_bm ?_)
  | (with_reducible refine Xk.x_bm0 ?_)
  | ((with_reducible refine' Xk.x_tyL ?a1 ?_); (case a1 => wtm_at "sq"))
  | ((with_reducible refine' Xk.x_app ?a1 ?a2 ?_); (case a1 => wtm_at "hx"); (case a2 => wtm_at "len"))
  | (with_reducible refine Xk.x_sasgG ?_)
  | (with_reducible refine Xk.x_asgG ?_)
  | (with_reducible refine Xk.x_gName ?_)
  | ((with_reducible refine' Xk.x_gTup ?a1 ?a2 ?_); (case a1 => wtm_at "st"); (case a2 => exact rfl))
  | ((with_reducible refine' Xk.x_gLst ?a1 ?a2 ?_); (case a1 => wtm_at "sq"); (case a2 => exact rfl))
  | (with_reducible refine Xk.x_gCons ?_)
  | (with_reducible refine Xk.x_gNil ?_)
  | (with_reducible refine Xk.x_gSub ?_)
  | (with_reducible refine Xk.x_if ?_)
  | (with_reducible refine Xk.x_andV ?_)
  | (with_reducible refine Xk.x_orV ?_)
  | (with_reducible refine Xk.x_notV ?_)
  | (with_reducible refine Xk.x_chain ?_)
  | (with_reducible refine Xk.x_yes ?_)
  | (with_reducible refine Xk.x_sl ?_)
  | (with_reducible refine Xk.x_nopart ?_)
  | (with_reducible refine Xk.x_part ?_)
  | ((with_reducible refine' Xk.x_slL ?a1 ?_); (case a1 => wtm_at "sq"))
  | ((with_reducible refine' Xk.x_saug ?a1 ?_); (case a1 => exact rfl))
  | ((with_reducible refine' Xk.x_aug ?a1 ?_); (case a1 => exact rfl))
  | (with_reducible refine Xk.x_ipI ?_)
  | ((with_reducible refine' Xk.x_isiInt ?a1 ?_); (case a1 => first | exact Xk.kit_T (by decide +kernel) | exact Xk.kit_F (by decide +kernel)))
  | ((with_reducible refine' Xk.x_isiBl ?a1 ?_); (case a1 => first | exact Xk.kit_T (by decide +kernel) | exact Xk.kit_F (by decide +kernel)))
  | ((with_reducible refine' Xk.x_isiStr ?a1 ?_); (case a1 => first | exact Xk.kit_T (by decide +kernel) | exact Xk.kit_F (by decide +kernel)))
  | ((with_reducible refine' Xk.x_isiNon ?a1 ?_); (case a1 => first | exact Xk.kit_T (by decide +kernel) | exact Xk.kit_F (by decide +kernel)))
  | ((with_reducible refine' Xk.x_isiLst ?a1 ?a2 ?_); (case a1 => wtm_at "hx"); (case a2 => first | exact Xk.kit_T (by decide +kernel) | exact Xk.kit_F (by decide +kernel)))
  | ((with_reducible refine' Xk.x_isiTup ?a1 ?a2 ?_); (case a1 => wtm_at "hx"); (case a2 => first | exact Xk.kit_T (by decide +kernel) | exact Xk.kit_F (by decide +kernel)))
  | (with_reducible refine Xk.x_forR1 ?_)
  | (with_reducible refine Xk.x_forL1 ?_)
  | (with_reducible refine Xk.x_forT1 ?_)
  | (with_reducible refine Xk.x_brk ?_)
  | (with_reducible refine Xk.x_ct ?_)
  | (with_reducible refine Xk.x_retN ?_)
  | (with_reducible refine Xk.x_lcL1 ?_)
  | (with_reducible refine Xk.x_lcT1 ?_)
  | (with_reducible refine Xk.x_lcR1 ?_)
  | (with_reducible refine Xk.x_lcE1 ?_)
  | (with_reducible refine Xk.x_nocutW ?_)
  | (with_reducible refine Xk.x_nIsN ?_)
  | (with_reducible refine Xk.x_nNotN ?_)
  | (with_reducible refine Xk.x_and255 ?_)
  | (with_reducible refine Xk.x_wT ?_)
  | (with_reducible refine Xk.x_wF ?_)
  | (with_reducible refine Xk.x_lstRg ?_)
  | (with_reducible refine Xk.x_rg1 ?_)
  | ((with_reducible refine' Xk.x_nRg ?a1 ?_); (case a1 => omega))
  | (with_reducible refine L2.iteT ?_)
  | (with_reducible refine L2.iteF ?_)
  | (with_reducible refine Xk.x_nT ?_)
  | (with_reducible refine Xk.x_nF ?_)
  | ((with_reducible refine' Xk.x_dY ?a1 ?_); (case a1 => first | exact rfl | assumption | omega))
  | ((with_reducible refine' Xk.x_dN ?a1 ?_); (case a1 => first | assumption | omega | (intro z; cases z; done)))
  | ((with_reducible refine' Xk.x_ndY ?a1 ?_); (case a1 => first | exact rfl | assumption | omega))
  | ((with_reducible refine' Xk.x_ndN ?a1 ?_); (case a1 => first | assumption | omega | (intro z; cases z; done)))
  | (with_reducible refine Xk.x_lc2 ?_)
  | (with_reducible refine Xk.x_fld1 ?_)
  | ((with_reducible refine' Xk.x_rFld ?a1 ?a2 ?a3 ?a4 ?_); (case a1 => wtm_at "hx"); (case a2 => wtm_at "cls"); (case a3 => wtm_at "cls"); (case a4 => exact rfl))
  | (with_reducible refine Xk.x_ssfld ?_)
  | (with_reducible refine Xk.x_sfld ?_)
  | ((with_reducible refine' Xk.x_rSetF ?a1 ?a2 ?a3 ?a4 ?_); (case a1 => wtm_at "hx"); (case a2 => wtm_at "cls"); (case a3 => wtm_at "cls"); (case a4 => exact Nat.le_of_ble_eq_true rfl))
  | (with_reducible refine Xk.x_prop ?_)
  | ((with_reducible refine' Xk.x_rProp ?a1 ?_); (case a1 => wtm_at "hx"))
  | (with_reducible refine Xk.x_meth ?_)
  | ((with_reducible refine' Xk.x_rMeth ?a1 ?a2 ?_); (case a1 => wtm_at "hx"); (case a2 => exact rfl))
  | (with_reducible refine Xk.x_make ?_)
  | (with_reducible refine Xk.x_sdelT ?_)
  | (with_reducible refine Xk.x_delT ?_)
  | (with_reducible refine Xk.x_nMax2 ?_)
  | (with_reducible refine Xk.x_nMin2 ?_)
  | ((with_reducible refine' Xk.x_nRepS ?a1 ?a2 ?_); (case a1 => wtm_at "side"); (case a2 => decide))
  | (with_reducible refine Xk.x_inS ?_)
  | (with_reducible refine Xk.x_notInS ?_)
  | ((with_reducible refine' Xk.x_nAddS ?a1 ?_); (case a1 => wtm_at "len"))
  | ((with_reducible refine' Xk.x_nLenS ?a1 ?_); (case a1 => wtm_at "len"))
  | ((with_reducible refine' Xk.x_slS ?a1 ?_); (case a1 => wtm_at "len"))
  | (with_reducible refine Xk.x_lcS1 ?_)
  | (with_reducible refine Xk.x_dget1 ?_)
  | ((with_reducible refine' Xk.x_rGetD ?a1 ?_); (case a1 => wtm_at "hx"))
  | ((with_reducible refine' Xk.x_rGet1 ?a1 ?_); (case a1 => wtm_at "hx"))
  | (with_reducible refine Xk.x_dget2 ?_)
  | ((with_reducible refine' Xk.x_rGetE ?a1 ?_); (case a1 => wtm_at "hx"))
  | ((with_reducible refine' Xk.x_rGet2 ?a1 ?_); (case a1 => wtm_at "hx"))
  | (with_reducible refine Xk.x_dpop1 ?_)
  | ((with_reducible refine' Xk.x_rPopD ?a1 ?_); (case a1 => wtm_at "hx"))
  | (with_reducible refine Xk.x_dpop2 ?_)
  | ((with_reducible refine' Xk.x_rPopE ?a1 ?_); (case a1 => wtm_at "hx"))
  | (with_reducible refine Xk.x_din ?_)
  | ((with_reducible refine' Xk.x_rDInK ?a1 ?_); (case a1 => wtm_at "hx"))
  | (with_reducible refine Xk.x_dnew ?_)
  | (with_reducible refine Xk.x_notBl ?_)
  | (with_reducible refine Xk.x_isBl ?_)
  | (with_reducible refine Xk.x_dget ?_)
  | ((with_reducible refine' Xk.x_rDG ?a1 ?a2 ?_); (case a1 => wtm_at "hx"); (case a2 => wtm_at "key"))
  | (with_reducible refine Xk.x_sdput ?_)
  | (with_reducible refine Xk.x_dput ?_)
  | ((with_reducible refine' Xk.x_rDP ?a1 ?a2 ?a3 ?_); (case a1 => wtm_at "hx"); (case a2 => wtm_at "few"); (case a3 => wtm_at "key"))
  | (with_reducible refine Xk.x_pcons ?_)
  | (with_reducible refine Xk.x_pnil ?_)
  | (with_reducible refine Xk.x_forRev1 ?_)
  | (with_reducible refine Xk.x_forR2 ?_)
  | ((with_reducible refine' Xk.x_geP ?a1 ?a2 ?_); (case a1 => wtm_at "st"); (case a2 => wtm_at "st"))
  | ((with_reducible refine' Xk.x_ltP ?a1 ?a2 ?_); (case a1 => wtm_at "st"); (case a2 => wtm_at "st"))
  | (with_reducible refine Xk.x_lcZ1 ?_)
  | (with_reducible refine Xk.x_lcET1 ?_)
  | (with_reducible refine Xk.x_dcT1 ?_)
  | (with_reducible refine Xk.x_nLtS ?_)
  | (with_reducible refine Xk.x_nLeS ?_)
  | (with_reducible refine Xk.x_nGeS ?_)
  | (with_reducible refine Xk.x_spar ?_)
  | (with_reducible refine Xk.x_par ?_)
  | (with_reducible refine Xk.x_rPar ?_)
  | (with_reducible refine Xk.x_gSubSl ?_)
  | fail "x"))
local macro_rules | `(tactic| wtm_at "xs") => `(tactic| ((repeat wtm_at "x"); try dsimp only [L2.wipe, List.set, List.append_nil, List.cons_append, List.nil_append]))
local macro_rules | `(tactic| wtm_at "x0") => `(tactic| (dsimp only [L2.cxOf, L2.start, List.map, List.length, List.replicate, Nat.reduceAdd, Nat.reduceSub, List.cons_append, List.nil_append]))
local macro_rules | `(tactic| wtm_at "xc") => `(tactic| (dsimp only [L2.wipe, List.set, List.append_nil, List.cons_append, List.nil_append]))

namespace K12
open PySem PySem.Spec PyProof.Rows L2
def topS (i : Nat) : Stmt := PySem.Challenge.pw_crosskeep_k12_a_disk_is_read.main.body.getD i (.Pass ⟨0, 0, 0, 0⟩)
abbrev s_checksum : Stmt := topS 5
abbrev N_checksum : List Str := ["octets", "total", "octet"]
theorem sc_checksum : FnScope ["octets", "total", "octet"] ["octets"] (defScope s_checksum) := ⟨rfl, rfl, rfl, by decide +kernel, rfl, by decide +kernel, by decide +kernel⟩
abbrev s_frame : Stmt := topS 6
abbrev N_frame : List Str := ["payload"]
theorem sc_frame : FnScope ["payload"] ["payload"] (defScope s_frame) := ⟨rfl, rfl, rfl, by decide +kernel, rfl, by decide +kernel, by decide +kernel⟩
abbrev s_read_frames : Stmt := topS 7
abbrev N_read_frames : List Str := ["octets", "payloads", "taken", "payload"]
theorem sc_read_frames : FnScope ["octets", "payloads", "taken", "payload"] ["octets"] (defScope s_read_frames) := ⟨rfl, rfl, rfl, by decide +kernel, rfl, by decide +kernel, by decide +kernel⟩
abbrev s__payload_at : Stmt := topS 8
abbrev N__payload_at : List Str := ["octets", "at", "start", "length", "payload"]
theorem sc__payload_at : FnScope ["octets", "at", "start", "length", "payload"] ["octets", "at"] (defScope s__payload_at) := ⟨rfl, rfl, rfl, by decide +kernel, rfl, by decide +kernel, by decide +kernel⟩
abbrev s__in_octets : Stmt := topS 9
abbrev N__in_octets : List Str := ["number", "count", "place"]
theorem sc__in_octets : FnScope ["number", "count", "place"] ["number", "count"] (defScope s__in_octets) := ⟨rfl, rfl, rfl, by decide +kernel, rfl, by decide +kernel, by decide +kernel⟩
abbrev s__from_octets : Stmt := topS 10
abbrev N__from_octets : List Str := ["octets", "place", "octet"]
theorem sc__from_octets : FnScope ["octets", "place", "octet"] ["octets"] (defScope s__from_octets) := ⟨rfl, rfl, rfl, by decide +kernel, rfl, by decide +kernel, by decide +kernel⟩
abbrev s_Journal___init__ : Stmt := inClass (topS 12) 0
abbrev N_Journal___init__ : List Str := ["self"]
theorem sc_Journal___init__ : FnScope ["self"] ["self"] (defScope s_Journal___init__) := ⟨rfl, rfl, rfl, by decide +kernel, rfl, by decide +kernel, by decide +kernel⟩
abbrev s_Journal_frame_count : Stmt := inClass (topS 12) 1
abbrev N_Journal_frame_count : List Str := ["self"]
theorem sc_Journal_frame_count : FnScope ["self"] ["self"] (defScope s_Journal_frame_count) := ⟨rfl, rfl, rfl, by decide +kernel, rfl, by decide +kernel, by decide +kernel⟩
abbrev s_Journal_synced_frames : Stmt := inClass (topS 12) 2
abbrev N_Journal_synced_frames : List Str := ["self"]
theorem sc_Journal_synced_frames : FnScope ["self"] ["self"] (defScope s_Journal_synced_frames) := ⟨rfl, rfl, rfl, by decide +kernel, rfl, by decide +kernel, by decide +kernel⟩
abbrev s_Journal_octet_count : Stmt := inClass (topS 12) 3
abbrev N_Journal_octet_count : List Str := ["self"]
theorem sc_Journal_octet_count : FnScope ["self"] ["self"] (defScope s_Journal_octet_count) := ⟨rfl, rfl, rfl, by decide +kernel, rfl, by decide +kernel, by decide +kernel⟩
abbrev s_Journal_synced_octets : Stmt := inClass (topS 12) 4
abbrev N_Journal_synced_octets : List Str := ["self"]
theorem sc_Journal_synced_octets : FnScope ["self"] ["self"] (defScope s_Journal_synced_octets) := ⟨rfl, rfl, rfl, by decide +kernel, rfl, by decide +kernel, by decide +kernel⟩
abbrev s_Journal_append : Stmt := inClass (topS 12) 5
abbrev N_Journal_append : List Str := ["self", "payload"]
theorem sc_Journal_append : FnScope ["self", "payload"] ["self", "payload"] (defScope s_Journal_append) := ⟨rfl, rfl, rfl, by decide +kernel, rfl, by decide +kernel, by decide +kernel⟩
abbrev s_Journal_sync : Stmt := inClass (topS 12) 6
abbrev N_Journal_sync : List Str := ["self"]
theorem sc_Journal_sync : FnScope ["self"] ["self"] (defScope s_Journal_sync) := ⟨rfl, rfl, rfl, by decide +kernel, rfl, by decide +kernel, by decide +kernel⟩
abbrev s_Journal_crash : Stmt := inClass (topS 12) 7
abbrev N_Journal_crash : List Str := ["self", "count", "left", "whole", "size"]
theorem sc_Journal_crash : FnScope ["self", "count", "left", "whole", "size"] ["self", "count"] (defScope s_Journal_crash) := ⟨rfl, rfl, rfl, by decide +kernel, rfl, by decide +kernel, by decide +kernel⟩
abbrev s_Journal_payloads : Stmt := inClass (topS 12) 8
abbrev N_Journal_payloads : List Str := ["self", "payload"]
theorem sc_Journal_payloads : FnScope ["self", "payload"] ["self"] (defScope s_Journal_payloads) := ⟨rfl, rfl, rfl, by decide +kernel, rfl, by decide +kernel, by decide +kernel⟩
abbrev s_Journal_image : Stmt := inClass (topS 12) 9
abbrev N_Journal_image : List Str := ["self", "payload", "octet"]
theorem sc_Journal_image : FnScope ["self", "payload", "octet"] ["self"] (defScope s_Journal_image) := ⟨rfl, rfl, rfl, by decide +kernel, rfl, by decide +kernel, by decide +kernel⟩
abbrev s_Journal_fork : Stmt := inClass (topS 12) 10
abbrev N_Journal_fork : List Str := ["self", "twin"]
theorem sc_Journal_fork : FnScope ["self", "twin"] ["self"] (defScope s_Journal_fork) := ⟨rfl, rfl, rfl, by decide +kernel, rfl, by decide +kernel, by decide +kernel⟩
abbrev s_read_journal : Stmt := topS 13
abbrev N_read_journal : List Str := ["octets", "payloads", "_", "journal", "payload"]
theorem sc_read_journal : FnScope ["octets", "payloads", "_", "journal", "payload"] ["octets"] (defScope s_read_journal) := ⟨rfl, rfl, rfl, by decide +kernel, rfl, by decide +kernel, by decide +kernel⟩
abbrev s__law_row : Stmt := topS 15
abbrev N__law_row : List Str := ["script", "k", "cell", "first", "second"]
theorem sc__law_row : FnScope ["script", "k", "cell", "first", "second"] ["script", "k"] (defScope s__law_row) := ⟨rfl, rfl, rfl, by decide +kernel, rfl, by decide +kernel, by decide +kernel⟩
abbrev s__law_digits : Stmt := topS 16
abbrev N__law_digits : List Str := ["row", "sizes", "digits", "size"]
theorem sc__law_digits : FnScope ["row", "sizes", "digits", "size"] ["row", "sizes"] (defScope s__law_digits) := ⟨rfl, rfl, rfl, by decide +kernel, rfl, by decide +kernel, by decide +kernel⟩
abbrev s__law_payload : Stmt := topS 20
abbrev N__law_payload : List Str := ["row", "kind", "count", "first", "step", "k"]
theorem sc__law_payload : FnScope ["row", "kind", "count", "first", "step", "k"] ["row"] (defScope s__law_payload) := ⟨rfl, rfl, rfl, by decide +kernel, rfl, by decide +kernel, by decide +kernel⟩
abbrev s__law_told : Stmt := topS 21
abbrev N__law_told : List Str := ["journal"]
theorem sc__law_told : FnScope ["journal"] ["journal"] (defScope s__law_told) := ⟨rfl, rfl, rfl, by decide +kernel, rfl, by decide +kernel, by decide +kernel⟩
abbrev s_law : Stmt := topS 22
abbrev N_law : List Str := ["script", "many", "safe", "step", "place", "journal", "payloads", "k", "synced", "image", "count", "twin", "disk", "at", "octets", "passed", "again"]
theorem sc_law : FnScope ["script", "many", "safe", "step", "place", "journal", "payloads", "k", "synced", "image", "count", "twin", "disk", "at", "octets", "passed", "again"] ["script"] (defScope s_law) := ⟨rfl, rfl, rfl, by decide +kernel, rfl, by decide +kernel, by decide +kernel⟩
structure Txt (K : PySem.W.Frag) (mg : Str → Option Value) where
  C_Journal : Addr
  Cls_Journal : Cls K C_Journal
  g_Journal : mg "Journal" = some (.ref C_Journal)
  A_Journal__payloads : NoAttr K C_Journal "_payloads"
  A_Journal__sizes : NoAttr K C_Journal "_sizes"
  A_Journal__synced : NoAttr K C_Journal "_synced"
  t_CHECKSUM_OCTETS : Tok
  g_CHECKSUM_OCTETS : mg "CHECKSUM_OCTETS" = some (.int 4 t_CHECKSUM_OCTETS)
  t_CHECKSUM_PRIME : Tok
  g_CHECKSUM_PRIME : mg "CHECKSUM_PRIME" = some (.int 4294967291 t_CHECKSUM_PRIME)
  t_FRAME_HEAD : Tok
  g_FRAME_HEAD : mg "FRAME_HEAD" = some (.int 6 t_FRAME_HEAD)
  t_LENGTH_OCTETS : Tok
  g_LENGTH_OCTETS : mg "LENGTH_OCTETS" = some (.int 2 t_LENGTH_OCTETS)
  f_checksum : Addr
  d_checksum : FuncData
  F_checksum : Fun K "checksum" "checksum" s_checksum f_checksum d_checksum
  b_checksum : Binds K d_checksum ["octets"] []
  g_checksum : mg "checksum" = some (.ref f_checksum)
  f_frame : Addr
  d_frame : FuncData
  F_frame : Fun K "frame" "frame" s_frame f_frame d_frame
  b_frame : Binds K d_frame ["payload"] []
  g_frame : mg "frame" = some (.ref f_frame)
  f_read_frames : Addr
  d_read_frames : FuncData
  F_read_frames : Fun K "read_frames" "read_frames" s_read_frames f_read_frames d_read_frames
  b_read_frames : Binds K d_read_frames ["octets"] []
  g_read_frames : mg "read_frames" = some (.ref f_read_frames)
  f__payload_at : Addr
  d__payload_at : FuncData
  F__payload_at : Fun K "_payload_at" "_payload_at" s__payload_at f__payload_at d__payload_at
  b__payload_at : Binds K d__payload_at ["octets", "at"] []
  g__payload_at : mg "_payload_at" = some (.ref f__payload_at)
  f__in_octets : Addr
  d__in_octets : FuncData
  F__in_octets : Fun K "_in_octets" "_in_octets" s__in_octets f__in_octets d__in_octets
  b__in_octets : Binds K d__in_octets ["number", "count"] []
  g__in_octets : mg "_in_octets" = some (.ref f__in_octets)
  f__from_octets : Addr
  d__from_octets : FuncData
  F__from_octets : Fun K "_from_octets" "_from_octets" s__from_octets f__from_octets d__from_octets
  b__from_octets : Binds K d__from_octets ["octets"] []
  g__from_octets : mg "_from_octets" = some (.ref f__from_octets)
  f_Journal___init__ : Addr
  d_Journal___init__ : FuncData
  F_Journal___init__ : Fun K "__init__" "Journal.__init__" s_Journal___init__ f_Journal___init__ d_Journal___init__
  b_Journal___init__ : Binds K d_Journal___init__ ["self"] []
  Mk_Journal : Mk K C_Journal f_Journal___init__
  f_Journal_frame_count : Addr
  d_Journal_frame_count : FuncData
  F_Journal_frame_count : Fun K "frame_count" "Journal.frame_count" s_Journal_frame_count f_Journal_frame_count d_Journal_frame_count
  b_Journal_frame_count : Binds K d_Journal_frame_count ["self"] []
  p_Journal_frame_count : Addr
  P_Journal_frame_count : PropOf K C_Journal "frame_count" p_Journal_frame_count f_Journal_frame_count
  f_Journal_synced_frames : Addr
  d_Journal_synced_frames : FuncData
  F_Journal_synced_frames : Fun K "synced_frames" "Journal.synced_frames" s_Journal_synced_frames f_Journal_synced_frames d_Journal_synced_frames
  b_Journal_synced_frames : Binds K d_Journal_synced_frames ["self"] []
  p_Journal_synced_frames : Addr
  P_Journal_synced_frames : PropOf K C_Journal "synced_frames" p_Journal_synced_frames f_Journal_synced_frames
  f_Journal_octet_count : Addr
  d_Journal_octet_count : FuncData
  F_Journal_octet_count : Fun K "octet_count" "Journal.octet_count" s_Journal_octet_count f_Journal_octet_count d_Journal_octet_count
  b_Journal_octet_count : Binds K d_Journal_octet_count ["self"] []
  p_Journal_octet_count : Addr
  P_Journal_octet_count : PropOf K C_Journal "octet_count" p_Journal_octet_count f_Journal_octet_count
  f_Journal_synced_octets : Addr
  d_Journal_synced_octets : FuncData
  F_Journal_synced_octets : Fun K "synced_octets" "Journal.synced_octets" s_Journal_synced_octets f_Journal_synced_octets d_Journal_synced_octets
  b_Journal_synced_octets : Binds K d_Journal_synced_octets ["self"] []
  p_Journal_synced_octets : Addr
  P_Journal_synced_octets : PropOf K C_Journal "synced_octets" p_Journal_synced_octets f_Journal_synced_octets
  f_Journal_append : Addr
  d_Journal_append : FuncData
  F_Journal_append : Fun K "append" "Journal.append" s_Journal_append f_Journal_append d_Journal_append
  b_Journal_append : Binds K d_Journal_append ["self", "payload"] []
  M_Journal_append : Meth K C_Journal "append" f_Journal_append
  f_Journal_sync : Addr
  d_Journal_sync : FuncData
  F_Journal_sync : Fun K "sync" "Journal.sync" s_Journal_sync f_Journal_sync d_Journal_sync
  b_Journal_sync : Binds K d_Journal_sync ["self"] []
  M_Journal_sync : Meth K C_Journal "sync" f_Journal_sync
  f_Journal_crash : Addr
  d_Journal_crash : FuncData
  F_Journal_crash : Fun K "crash" "Journal.crash" s_Journal_crash f_Journal_crash d_Journal_crash
  b_Journal_crash : Binds K d_Journal_crash ["self", "count"] []
  M_Journal_crash : Meth K C_Journal "crash" f_Journal_crash
  f_Journal_payloads : Addr
  d_Journal_payloads : FuncData
  F_Journal_payloads : Fun K "payloads" "Journal.payloads" s_Journal_payloads f_Journal_payloads d_Journal_payloads
  b_Journal_payloads : Binds K d_Journal_payloads ["self"] []
  M_Journal_payloads : Meth K C_Journal "payloads" f_Journal_payloads
  f_Journal_image : Addr
  d_Journal_image : FuncData
  F_Journal_image : Fun K "image" "Journal.image" s_Journal_image f_Journal_image d_Journal_image
  b_Journal_image : Binds K d_Journal_image ["self"] []
  M_Journal_image : Meth K C_Journal "image" f_Journal_image
  f_Journal_fork : Addr
  d_Journal_fork : FuncData
  F_Journal_fork : Fun K "fork" "Journal.fork" s_Journal_fork f_Journal_fork d_Journal_fork
  b_Journal_fork : Binds K d_Journal_fork ["self"] []
  M_Journal_fork : Meth K C_Journal "fork" f_Journal_fork
  f_read_journal : Addr
  d_read_journal : FuncData
  F_read_journal : Fun K "read_journal" "read_journal" s_read_journal f_read_journal d_read_journal
  b_read_journal : Binds K d_read_journal ["octets"] []
  g_read_journal : mg "read_journal" = some (.ref f_read_journal)
  f__law_row : Addr
  d__law_row : FuncData
  F__law_row : Fun K "_law_row" "_law_row" s__law_row f__law_row d__law_row
  b__law_row : Binds K d__law_row ["script", "k"] []
  g__law_row : mg "_law_row" = some (.ref f__law_row)
  f__law_digits : Addr
  d__law_digits : FuncData
  F__law_digits : Fun K "_law_digits" "_law_digits" s__law_digits f__law_digits d__law_digits
  b__law_digits : Binds K d__law_digits ["row", "sizes"] []
  g__law_digits : mg "_law_digits" = some (.ref f__law_digits)
  f__law_payload : Addr
  d__law_payload : FuncData
  F__law_payload : Fun K "_law_payload" "_law_payload" s__law_payload f__law_payload d__law_payload
  b__law_payload : Binds K d__law_payload ["row"] []
  g__law_payload : mg "_law_payload" = some (.ref f__law_payload)
  f__law_told : Addr
  d__law_told : FuncData
  F__law_told : Fun K "_law_told" "_law_told" s__law_told f__law_told d__law_told
  b__law_told : Binds K d__law_told ["journal"] []
  g__law_told : mg "_law_told" = some (.ref f__law_told)
  f_law : Addr
  d_law : FuncData
  F_law : Fun K "law" "law" s_law f_law d_law
  b_law : Binds K d_law ["script"] []
  g_law : mg "law" = some (.ref f_law)
  m_enumerate : mg "enumerate" = none
  m_int : mg "int" = none
  m_len : mg "len" = none
  m_list : mg "list" = none
  m_range : mg "range" = none
  m_sum : mg "sum" = none
/-! ### the mathematics -/
def prime : Int := 4294967291
def stp (t o : Int) : Int := (t * 257 + o + 1) % 4294967291
def ck (os : List Int) : Int := os.foldl stp 1
def hn (t : Int) (os : List Int) : Int := os.foldl (fun t o => t * 257 + o + 1) t
theorem stp_mod (t o : Int) : stp (t % 4294967291) o = stp t o := by
  unfold stp
  omega
theorem fold_mod : ∀ (os : List Int) (t u : Int), t % 4294967291 = u % 4294967291 → (os.foldl stp t) % 4294967291 = (hn u os) % 4294967291
  | [], t, u, h => h
  | o :: r, t, u, h => by
    show (r.foldl stp (stp t o)) % 4294967291 = (hn (u * 257 + o + 1) r) % 4294967291
    refine fold_mod r _ _ ?_
    unfold stp
    omega
theorem fold_in : ∀ (os : List Int) (t : Int), 0 ≤ t ∧ t < 4294967291 → 0 ≤ os.foldl stp t ∧ os.foldl stp t < 4294967291
  | [], t, h => h
  | o :: r, t, h => by
    refine fold_in r _ ?_
    unfold stp
    omega
theorem ck_in (os : List Int) : 0 ≤ ck os ∧ ck os < 4294967291 := fold_in os 1 (by omega)
theorem ck_hn (os : List Int) : ck os = (hn 1 os) % 4294967291 := by
  have h := fold_mod os 1 1 rfl
  have h1 := ck_in os
  unfold ck at h1 ⊢
  omega
theorem stp_inj {t u o : Int} (ht : 0 ≤ t ∧ t < 4294967291) (hu : 0 ≤ u ∧ u < 4294967291) (h : stp t o = stp u o) : t = u := by
  unfold stp at h
  -- 257 * 2540485460 = 1 + 152016 * 4294967291, by an inverse of 257
  omega
theorem fold_inj : ∀ (os : List Int) (t u : Int), 0 ≤ t ∧ t < 4294967291 → 0 ≤ u ∧ u < 4294967291 → os.foldl stp t = os.foldl stp u → t = u
  | [], t, u, _, _, h => h
  | o :: r, t, u, ht, hu, h => by
    have h1 := fold_inj r (stp t o) (stp u o) (by unfold stp; omega) (by unfold stp; omega) h
    exact stp_inj ht hu h1
theorem ck_set {os : List Int} {j : Nat} {o z : Int} (hj : os[j]? = some o) (ho : 0 ≤ o ∧ o ≤ 255) (hz : 0 ≤ z ∧ z ≤ 255) (hne : z ≠ o) : ck (os.set j z) ≠ ck os := by
  intro h
  have key : ∀ (os : List Int) (j : Nat) (t : Int), 0 ≤ t ∧ t < 4294967291 → os[j]? = some o → (os.set j z).foldl stp t = os.foldl stp t → False := by
    intro os
    induction os with
    | nil => intro j t _ hj; simp at hj
    | cons x r ih =>
      intro j t ht hj h
      cases j with
      | zero =>
        have e : x = o := Option.some.inj hj
        subst e
        have h1 := fold_inj r (stp t z) (stp t x) (by unfold stp; omega) (by unfold stp; omega) h
        unfold stp at h1
        omega
      | succ j => exact ih j (stp t x) (by unfold stp; omega) hj h
  exact key os j 1 (by omega) hj h
/-- the octets of a number, the lowest first -/
def low (n : Int) (c : Nat) : List Int := (List.range c).map fun i => n / 2 ^ (8 * i) % 256
theorem low_len (n : Int) (c : Nat) : (low n c).length = c := by
  unfold low
  rw [List.length_map, List.length_range]
theorem low_at {n : Int} {c i : Nat} (h : i < c) : (low n c)[i]? = some (n / 2 ^ (8 * i) % 256) := by
  unfold low
  rw [List.getElem?_map, List.getElem?_range h]
  rfl
theorem low_succ (n : Int) (c : Nat) : low n (c + 1) = low n c ++ [n / 2 ^ (8 * c) % 256] := by
  unfold low
  rw [List.range_succ, List.map_append]
  rfl
theorem low_in (n : Int) (c : Nat) : ∀ o ∈ low n c, 0 ≤ o ∧ o ≤ 255 := by
  intro o ho
  unfold low at ho
  obtain ⟨i, _, rfl⟩ := List.mem_map.mp ho
  omega
theorem low2 (n : Int) : low n 2 = [n % 256, n / 256 % 256] := by
  show [n / 2 ^ 0 % 256, n / 2 ^ 8 % 256] = _
  rw [show ((2 : Int) ^ 0) = 1 from rfl, Int.ediv_one, show ((2 : Int) ^ 8) = 256 from rfl]
theorem low4 (n : Int) : low n 4 = [n % 256, n / 256 % 256, n / 65536 % 256, n / 16777216 % 256] := by
  show [n / 2 ^ 0 % 256, n / 2 ^ 8 % 256, n / 2 ^ 16 % 256, n / 2 ^ 24 % 256] = _
  rw [show ((2 : Int) ^ 0) = 1 from rfl, Int.ediv_one, show ((2 : Int) ^ 8) = 256 from rfl, show ((2 : Int) ^ 16) = 65536 from rfl, show ((2 : Int) ^ 24) = 16777216 from rfl]
def Oct (os : List Int) : Prop := ∀ o ∈ os, 0 ≤ o ∧ o ≤ 255
/-- what octets tell -/
def val : List Int → Int
  | [] => 0
  | o :: r => o + 256 * val r
def shl (k : Nat) : List Int → List Int
  | [] => []
  | o :: r => o * 2 ^ (8 * k) :: shl (k + 1) r
theorem shl_sum : ∀ (os : List Int) (k : Nat), (shl k os).sum = 2 ^ (8 * k) * val os
  | [], k => by simp [shl, val]
  | o :: r, k => by
    have h := shl_sum r (k + 1)
    show (o * 2 ^ (8 * k) :: shl (k + 1) r).sum = 2 ^ (8 * k) * (o + 256 * val r)
    rw [List.sum_cons, h, Int.mul_add, show 8 * (k + 1) = 8 * k + 8 from rfl, Int.pow_add, Int.mul_comm o, Int.mul_assoc]
    rfl
theorem shl_at : ∀ (os : List Int) (k i : Nat) (o : Int), os[i]? = some o → (shl k os)[i]? = some (o * 2 ^ (8 * (k + i)))
  | [], k, i, o, h => by simp at h
  | x :: r, k, 0, o, h => by
    have e : x = o := Option.some.inj h
    subst e
    rfl
  | x :: r, k, i + 1, o, h => by
    have h2 := shl_at r (k + 1) i o h
    show (shl (k + 1) r)[i]? = _
    rw [h2, show k + 1 + i = k + (i + 1) by omega]
theorem shl_len : ∀ (os : List Int) (k : Nat), (shl k os).length = os.length
  | [], k => rfl
  | o :: r, k => by
    show (shl (k + 1) r).length + 1 = r.length + 1
    rw [shl_len r]
def frm (p : List Int) : List Int := low p.length 2 ++ low (ck p) 4 ++ p
/-- the payload of the frame that stands whole at the beginning -/
def pX (x : List Int) : Option (List Int) :=
  if x.length < 6 then none else
  let q := (x.drop 6).take (val (x.take 2)).toNat
  if q.length < (val (x.take 2)).toNat ∨ ck q ≠ val ((x.drop 2).take 4) then none else some q
theorem pX_short {x : List Int} (h : x.length < 6) : pX x = none := by
  unfold pX
  rw [if_pos h]
/-! ### promises -/
section
variable {P : Program} {w : World} {K : PySem.W.Frag} {mg : Str → Option Value} {base : Heap}
def sp_checksum (K : PySem.W.Frag) : Sp := fun vs H Q _ => ∃ (a : Addr) (os : List Int), vs = [.ref a] ∧ SqL K H a (os.map V.int) ∧ Q (.int (ck os)) H
theorem ok_checksum (T : Txt K mg) : FnOk P w K mg base CX0 1 T.f_checksum T.d_checksum ["octets"] (sp_checksum K) := by
  refine T.F_checksum.ok sc_checksum (fun vs H Q E h => ?_) (fun cdv A outer s H vs Q E hr h => ?_)
  · obtain ⟨a, os, rfl, _⟩ := h
    rfl
  obtain ⟨a, os, rfl, hS, q⟩ := h
  refine ⟨_, (pss_cons (ps_set (i := 1) sc_checksum.nd rfl (Or.inl rfl) (pe_int))
      (pss_cons (ps_for PassesOwn.never rfl (pi_list (pv 0)) (pg_name (i := 2) sc_checksum.nd rfl (Or.inl rfl)) (pss_one (ps_set (i := 1) sc_checksum.nd rfl (Or.inl rfl) (pe_op op_mod (pe_op op_add (pe_op op_add (pe_op op_mul (pv 1) (pe_int)) (pv 2)) (pe_int)) (pe_glob (by rfl) T.g_CHECKSUM_PRIME Xk.rel_int)))))
      (pss_one (ps_ret (pv 1))))), ?_⟩
  wtm_at "x0"
  wtm_at "xs"
  refine Xk.x_forL (fun i σ' H' => ∃ y t, σ' = [some (.ref a), some (.int t), y] ∧ H = H' ∧ t = (os.take i).foldl stp 1) hS ⟨_, _, rfl, rfl, rfl⟩ ?_ ?_ ?_
  · rintro i σ' H' hi ⟨y, t, rfl, rfl, ht⟩
    exact hS
  · rintro i x σ' H' hi ⟨y, t, rfl, rfl, ht⟩
    rw [List.getElem?_map] at hi
    obtain ⟨o, ho, rfl⟩ := Option.map_eq_some_iff.mp hi
    wtm_at "xs"
    refine ⟨_, _, rfl, rfl, ?_⟩
    rw [List.take_add_one, ho, List.foldl_append, ht]
    rfl
  · rintro σ' H' ⟨y, t, rfl, rfl, ht⟩
    wtm_at "xs"
    rw [List.length_map, List.take_length] at ht
    subst ht
    exact q
def sp__law_row (K : PySem.W.Frag) : Sp := fun vs H Q _ => ∃ (a : Addr) (k : Int) (ns : List Int), vs = [.ref a, .int k] ∧ SqL K H a (ns.map V.int) ∧ ns.length ≤ 63 ∧ 0 ≤ k ∧ k ≤ 1000 ∧ ∀ n : Int, 0 ≤ n → Q (.int n) H
theorem ok__law_row (T : Txt K mg) : FnOk P w K mg base CX0 1 T.f__law_row T.d__law_row ["script", "k"] (sp__law_row K) := by
  refine T.F__law_row.ok sc__law_row (fun vs H Q E h => ?_) (fun cdv A outer s H vs Q E hr h => ?_)
  · obtain ⟨a, k, ns, rfl, _⟩ := h
    rfl
  obtain ⟨a, k, ns, rfl, hS, hl, hk, hk2, q⟩ := h
  refine ⟨_, (pss_cons (ps_set (i := 2) sc__law_row.nd rfl (Or.inl rfl) (pe_int))
      (Evl.pss_cut (ps_if (pt_cmpR op_gt (pe_callB (Xk.k_len (K := K) (by rfl)) (by rfl) T.m_len PySem.boot_len (pa_cons (pv 0) pa_nil)) (pe_int) (nomark _)) (pss_one (ps_set (i := 2) sc__law_row.nd rfl (Or.inl rfl) (pe_ix (Xk.k_ixL (K := K) (by rfl)) (pv 0) (pe_op op_mod (pe_callTy Xk.call_nInt (by rfl) T.m_int (by decide +kernel) (pa_cons (pv 1) pa_nil)) (pe_callB (Xk.k_len (K := K) (by rfl)) (by rfl) T.m_len PySem.boot_len (pa_cons (pv 0) pa_nil))) (fun _ _ => rfl)))) pss_nil)
      (Evl.pss_cut (ps_if (pt_cmpR op_lt (pv 2) (pe_int) (nomark _)) (pss_one (ps_set (i := 2) sc__law_row.nd rfl (Or.inl rfl) (pe_op op_sub (pe_int) (pe_op op_mul (pe_int) (pv 2))))) pss_nil)
      (Evl.pss_cut (ps_if (PW.pt (pw_and (pt_cmpR op_ge (pv 2) (pe_op op_pow (pe_int) (pe_int)) (nomark _)) (pw_and1 (pt_cmpR op_lt (pv 1) (pe_callB (Xk.k_len (K := K) (by rfl)) (by rfl) T.m_len PySem.boot_len (pa_cons (pv 0) pa_nil)) (nomark _))))) (pss_one (ps_ret (pv 2))) pss_nil)
      (pss_cons (ps_set (i := 3) sc__law_row.nd rfl (Or.inl rfl) (pe_op op_mod (pe_callTy Xk.call_nInt (by rfl) T.m_int (by decide +kernel) (pa_cons (pe_op op_add (pe_op op_add (pe_op op_mul (pv 2) (pe_int)) (pe_op op_mul (pe_op op_add (pv 1) (pe_int)) (pe_int))) (pe_callB (Xk.k_len (K := K) (by rfl)) (by rfl) T.m_len PySem.boot_len (pa_cons (pv 0) pa_nil))) pa_nil)) (pe_int)))
      (pss_cons (ps_set (i := 4) sc__law_row.nd rfl (Or.inl rfl) (pe_op op_mod (pe_callTy Xk.call_nInt (by rfl) T.m_int (by decide +kernel) (pa_cons (pe_op op_add (pe_op op_add (pe_op op_mul (pv 3) (pv 3)) (pe_op op_mul (pv 2) (pe_int))) (pv 1)) pa_nil)) (pe_int)))
      (pss_one (ps_ret (pe_op op_add (pe_op op_mul (pv 4) (pe_int)) (pe_op op_mod (pe_callTy Xk.call_nInt (by rfl) T.m_int (by decide +kernel) (pa_cons (pe_op op_mul (pv 3) (pe_int)) pa_nil)) (pe_int))))))))))), ?_⟩
  wtm_at "x0"
  wtm_at "xs"
  refine Xk.x_cut (fun σ' H' => H = H' ∧ ∃ c : Int, σ' = [some (.ref a), some (.int k), some (.int c), none, none]) ?_ ?_
  · wtm_at "xs"
    refine Xk.x_itd (fun h => ?_) (fun h => ?_)
    · wtm_at "xs"
      rw [List.length_map] at h ⊢
      have h1 : k % (ns.length : Int) < ns.length := Int.emod_lt_of_pos _ h
      have h2 : 0 ≤ k % (ns.length : Int) := Int.emod_nonneg _ (by omega)
      obtain ⟨j, hj⟩ := Int.eq_ofNat_of_zero_le h2
      rw [hj] at h1 ⊢
      have h3 : j < ns.length := by omega
      refine Xk.x_ixL hS (atI_nat (j := j) (by rw [List.getElem?_map, List.getElem?_eq_getElem h3]; rfl)) ?_
      exact ⟨rfl, _, rfl⟩
    · wtm_at "xs"
      exact ⟨rfl, _, rfl⟩
  rintro σ' H' ⟨rfl, c, rfl⟩
  refine Xk.x_cut (fun σ' H' => H = H' ∧ ∃ c : Int, 0 ≤ c ∧ σ' = [some (.ref a), some (.int k), some (.int c), none, none]) ?_ ?_
  · wtm_at "xs"
    refine Xk.x_itd (fun h => ?_) (fun h => ?_)
    · wtm_at "xs"
      exact ⟨rfl, _, by omega, rfl⟩
    · wtm_at "xs"
      exact ⟨rfl, _, by omega, rfl⟩
  rintro σ' H' ⟨rfl, c, hc, rfl⟩
  refine Xk.x_cut (fun σ' H' => H = H' ∧ σ' = [some (.ref a), some (.int k), some (.int c), none, none]) ?_ ?_
  · wtm_at "xs"
    refine Xk.x_itd (fun h => ?_) (fun h => ?_)
    · wtm_at "xs"
      refine Xk.x_itd (fun h => ?_) (fun h => ?_)
      · wtm_at "xs"
        exact q _ hc
      · wtm_at "xs"
        exact ⟨rfl, rfl⟩
    · wtm_at "xs"
      exact ⟨rfl, rfl⟩
  rintro σ' H' ⟨rfl, rfl⟩
  wtm_at "xs"
  exact q _ (by omega)
def sp__law_digits (K : PySem.W.Frag) : Sp := fun vs H Q _ => ∃ (n : Int) (a : Addr) (zs : List Int), vs = [.int n, .ref a] ∧ SqL K H a (zs.map V.int) ∧ zs.length ≤ 20 ∧ (∀ z ∈ zs, 0 < z ∧ z < 1073741824) ∧
  ∀ (p : Addr) (H2 : Hp) (ds : List Int), Xk.Fr p H → Same H H2 → H2 p = some (.lst (ds.map V.int)) → ds.length = zs.length → (∀ (i : Nat) d z, ds[i]? = some d → zs[i]? = some z → 0 ≤ d ∧ d < z) → Q (.ref p) H2
theorem ok__law_digits (T : Txt K mg) : FnOk P w K mg base CX0 1 T.f__law_digits T.d__law_digits ["row", "sizes"] (sp__law_digits K) := by
  refine T.F__law_digits.ok sc__law_digits (fun vs H Q E h => ?_) (fun cdv A outer s H vs Q E hr h => ?_)
  · obtain ⟨n, a, zs, rfl, _⟩ := h
    rfl
  obtain ⟨n, a, zs, rfl, hS, hl, hz, q⟩ := h
  refine ⟨_, (pss_cons (ps_set (i := 2) sc__law_digits.nd rfl (Or.inl rfl) (pe_lst pa_nil))
      (pss_cons (ps_for PassesOwn.never rfl (pi_list (pv 1)) (pg_name (i := 3) sc__law_digits.nd rfl (Or.inl rfl)) (pss_cons (ps_expr (pe_bm PySem.F.plainAttrs_list PySem.F.slot_list_append PySem.F.type_list_append mt_append (pv 2) (pa_cons (pe_op op_mod (pe_callTy Xk.call_nInt (by rfl) T.m_int (by decide +kernel) (pa_cons (pv 0) pa_nil)) (pv 3)) pa_nil)))
      (pss_one (ps_set (i := 0) sc__law_digits.nd rfl (Or.inl rfl) (pe_op op_fdiv (pv 0) (pv 3))))))
      (pss_one (ps_ret (pv 2))))), ?_⟩
  wtm_at "x0"
  wtm_at "xs"
  intro p H1 hp s1 h1
  wtm_at "xs"
  refine Xk.x_forL (fun i σ' H' => ∃ y n ds, σ' = [some (.int n), some (.ref a), some (.ref p), y] ∧ Same H H' ∧ H' p = some (.lst (ds.map V.int)) ∧ ds.length = i ∧ (∀ (i : Nat) d z, ds[i]? = some d → zs[i]? = some z → 0 ≤ d ∧ d < z)) (by wtm_at "sq") ⟨_, _, [], rfl, s1, h1, rfl, by simp⟩ ?_ ?_ ?_
  · rintro i σ' H' hi ⟨y, n, ds, rfl, s2, h2, hd, hw⟩
    wtm_at "sq"
  · rintro i x σ' H' hi ⟨y, n, ds, rfl, s2, h2, hd, hw⟩
    rw [List.getElem?_map] at hi
    obtain ⟨z, ho, rfl⟩ := Option.map_eq_some_iff.mp hi
    have hz1 := hz z (List.mem_of_getElem? ho)
    have hi2 := (List.getElem?_eq_some_iff.mp ho).1
    wtm_at "xs"
    refine ⟨_, _, ds ++ [n % z], rfl, by wtm_at "sm", ?_, by rw [List.length_append]; simp [hd], ?_⟩
    · rw [upd_same, List.map_append]
      rfl
    · intro j d z' h3 h4
      by_cases hj : j < ds.length
      · rw [List.getElem?_append_left hj] at h3
        exact hw j d z' h3 h4
      · have hj2 : j = i := by
          have h5 := (List.getElem?_eq_some_iff.mp h3).1
          simp at h5
          omega
        subst hj2
        rw [List.getElem?_append_right (by omega), hd, Nat.sub_self] at h3
        have e1 : n % z = d := Option.some.inj h3
        have e2 : z = z' := Option.some.inj (ho.symm.trans h4)
        subst e2 e1
        exact ⟨Int.emod_nonneg _ (by omega), Int.emod_lt_of_pos _ (by omega)⟩
  · rintro σ' H' ⟨y, n, ds, rfl, s2, h2, hd, hw⟩
    wtm_at "xs"
    rw [List.length_map] at hd
    exact q p _ ds hp s2 h2 hd hw
def sp__in_octets (K : PySem.W.Frag) : Sp := fun vs H Q _ => ∃ (n : Int) (c : Nat), vs = [.int n, .int c] ∧ c ≤ 10 ∧ ∀ p H', Xk.Fr p H → Same H H' → H' p = some (.lst ((low n c).map V.int)) → Q (.ref p) H'
theorem ok__in_octets (T : Txt K mg) : FnOk P w K mg base CX0 1 T.f__in_octets T.d__in_octets ["number", "count"] (sp__in_octets K) := by
  refine T.F__in_octets.ok sc__in_octets (fun vs H Q E h => ?_) (fun cdv A outer s H vs Q E hr h => ?_)
  · obtain ⟨n, c, rfl, _⟩ := h
    rfl
  obtain ⟨n, c, rfl, hc, q⟩ := h
  refine ⟨_, (pss_one (ps_ret (pe_lc (own := [("place", 2)]) (g := gName 2) (tt := tYes) rfl sc__in_octets.nd  (pi_range1 (by rfl) T.m_range (pa_cons (pv 1) pa_nil)) (blkOk_by (N := N__in_octets) (sc := defScope s__in_octets) (own := [("place", 2)]) (by decide +kernel)) (fun _ _ _ _ _ => pg_name (i := 2) sc__in_octets.nd rfl (Or.inl rfl)) (fun _ _ _ _ _ => pts_nil) (fun _ _ _ _ _ => (pe_op Xk.op_nAndM (pe_op op_shr (pv 0) (pe_op op_mul (pe_int) (pv 2))) (pe_int)))))), ?_⟩
  wtm_at "x0"
  wtm_at "xs"
  refine Xk.x_lcR (fun Dl i H' => Same H H' ∧ H' Dl = some (.lst ((low n i).map V.int))) ⟨by omega, by omega⟩ ?_ ?_ ?_
  · intro Dl hD
    exact ⟨Xk.same_fr hD, upd_same⟩
  · rintro Dl hD i H' hi ⟨s2, h2⟩
    wtm_at "xs"
    refine ⟨rfl, ?_⟩
    wtm_at "xs"
    refine ⟨_, h2, Xk.size_lt (by rw [List.length_map, low_len]; omega), by wtm_at "sm", ?_⟩
    rw [upd_same, Xk.snoc_map, low_succ]
    rfl
  · rintro Dl H' hD ⟨s2, h2⟩
    wtm_at "xs"
    rw [Int.toNat_natCast] at h2
    exact q Dl H' hD s2 h2
def sp__from_octets (K : PySem.W.Frag) : Sp := fun vs H Q _ => ∃ (a : Addr) (os : List Int), vs = [.ref a] ∧ SqL K H a (os.map V.int) ∧ os.length ≤ 10 ∧ (∀ o ∈ os, 0 ≤ o ∧ o ≤ 255) ∧ ∀ H', Same H H' → Q (.int (val os)) H'
theorem ok__from_octets (T : Txt K mg) : FnOk P w K mg base CX0 1 T.f__from_octets T.d__from_octets ["octets"] (sp__from_octets K) := by
  refine T.F__from_octets.ok sc__from_octets (fun vs H Q E h => ?_) (fun cdv A outer s H vs Q E hr h => ?_)
  · obtain ⟨a, os, rfl, _⟩ := h
    rfl
  obtain ⟨a, os, rfl, hS, hl, ho, q⟩ := h
  refine ⟨_, (pss_one (ps_ret (pe_callB (Xk.k_sum (K := K) rfl (by rfl)) (by rfl) T.m_sum (by decide +kernel) (pa_cons (pe_lc (own := [("place", 1), ("octet", 2)]) (g := gTup K 2 (gCons (gName 1) (gCons (gName 2) gNil))) (tt := tYes) rfl sc__from_octets.nd  (Xk.k_enum (K := K) (by rfl) (by rfl) T.m_enumerate (pa_cons (pv 0) pa_nil)) (blkOk_by (N := N__from_octets) (sc := defScope s__from_octets) (own := [("place", 1), ("octet", 2)]) (by decide +kernel)) (fun _ _ _ _ _ => Xk.k_gtup (K := K) (by rfl) rfl (pgs_cons (pg_name (i := 1) sc__from_octets.nd rfl (Or.inl rfl)) (pgs_cons (pg_name (i := 2) sc__from_octets.nd rfl (Or.inl rfl)) pgs_nil))) (fun _ _ _ _ _ => pts_nil) (fun _ _ _ _ _ => (pe_op op_shl (pv 2) (pe_op op_mul (pe_int) (pv 1))))) pa_nil)))), ?_⟩
  wtm_at "x0"
  wtm_at "xs"
  refine Xk.x_lcE (xs := os.map V.int) (fun Dl i H' => Same H H' ∧ H' Dl = some (.lst (((shl 0 os).take i).map V.int))) hS ?_ ?_ ?_ ?_
  · intro Dl hD
    exact ⟨Xk.same_fr hD, upd_same⟩
  · rintro Dl i H' hD ⟨s2, h2⟩
    wtm_at "sq"
  · rintro Dl hD i x H1 T H' hi ⟨s2, h2⟩ hT s3 h3
    obtain ⟨o, hoi, rfl⟩ := Xk.of_map_at hi
    have hi2 := Xk.at_lt hoi
    have ho2 := ho o (List.mem_of_getElem? hoi)
    wtm_at "xs"
    refine ⟨rfl, ?_⟩
    wtm_at "xs"
    have e8 : (8 * (i : Int)).toNat = 8 * (0 + i) := by omega
    refine ⟨_, by wtm_at "hx", Xk.size_lt (by simp only [List.length_map, List.length_take]; omega), by wtm_at "sm", ?_⟩
    rw [upd_same, Xk.snoc_map, List.take_add_one, shl_at os 0 i o hoi, e8]
    rfl
  · rintro Dl H' hD ⟨s2, h2⟩
    wtm_at "xs"
    rw [List.length_map, ← shl_len os 0, List.take_length] at h2
    refine Xk.x_sum (by wtm_at "sq") ?_
    rw [shl_sum]
    rw [show (2 : Int) ^ (8 * 0) = 1 from rfl, Int.one_mul]
    wtm_at "xs"
    exact q _ s2
def sp_frame (K : PySem.W.Frag) : Sp := fun vs H Q _ => ∃ (a : Addr) (p : List Int), vs = [.ref a] ∧ H a = some (.lst (p.map V.int)) ∧ p.length ≤ 1000 ∧ ∀ t H', Xk.Fr t H → Same H H' → H' t = some (.lst ((frm p).map V.int)) → Q (.ref t) H'
theorem ok_frame (T : Txt K mg) : FnOk P w K mg base CX0 2 T.f_frame T.d_frame ["payload"] (sp_frame K) := by
  refine T.F_frame.ok sc_frame (fun vs H Q E h => ?_) (fun cdv A outer s H vs Q E hr h => ?_)
  · obtain ⟨a, p, rfl, _⟩ := h
    rfl
  obtain ⟨a, p, rfl, hS, hl, q⟩ := h
  refine ⟨_, (pss_one (ps_ret (pe_op op_cat (pe_op op_cat (pe_call (ok__in_octets T) (hr.mono (by decide)) (by rfl) T.g__in_octets T.F__in_octets.kp T.b__in_octets .nil pass0 (pa_cons (pe_callB (Xk.k_len (K := K) (by rfl)) (by rfl) T.m_len PySem.boot_len (pa_cons (pv 0) pa_nil)) (pa_cons (pe_glob (by rfl) T.g_LENGTH_OCTETS Xk.rel_int) pa_nil))) (pe_call (ok__in_octets T) (hr.mono (by decide)) (by rfl) T.g__in_octets T.F__in_octets.kp T.b__in_octets .nil pass0 (pa_cons (pe_call (ok_checksum T) (hr.mono (by decide)) (by rfl) T.g_checksum T.F_checksum.kp T.b_checksum .nil pass0 (pa_cons (pv 0) pa_nil)) (pa_cons (pe_glob (by rfl) T.g_CHECKSUM_OCTETS Xk.rel_int) pa_nil)))) (pv 0)))), ?_⟩
  wtm_at "x0"
  wtm_at "xs"
  rw [List.length_map]
  refine ⟨_, 2, rfl, by decide, fun p1 H1 hp1 s1 h1 => ?_⟩
  wtm_at "xs"
  refine ⟨_, p, rfl, by wtm_at "sq", ?_⟩
  wtm_at "xs"
  refine ⟨_, 4, rfl, by decide, fun p2 H2 hp2 s2 h2 => ?_⟩
  refine Xk.x_cat (by wtm_at "hx") (by wtm_at "hx") (by simp only [List.length_map, low_len]; decide) fun p3 H3 hp3 s3 h3 => ?_
  wtm_at "xs"
  refine Xk.x_cat (by wtm_at "hx") (by wtm_at "hx") (by simp only [List.length_append, List.length_map, low_len]; omega) fun p4 H4 hp4 s4 h4 => ?_
  refine q p4 H4 (by wtm_at "free") (by wtm_at "sm") ?_
  rw [h4, ← List.map_append, ← List.map_append]
  rfl
/-- the slice as a list of ints -/
theorem cut_ints (xs : List Int) (i j : Nat) : cutV (xs.map V.int) (some (i : Int)) (some (j : Int)) = ((xs.drop i).take (j - i)).map V.int := by
  unfold cutV
  rw [HT.sIx_nat, HT.sIx_nat, List.length_map, ← List.map_drop, ← List.map_take]
  congr 1
  by_cases h : i ≤ xs.length
  · rw [show min i xs.length = i by omega]
    by_cases h2 : j ≤ xs.length
    · rw [show min j xs.length = j by omega]
    · rw [show min j xs.length = xs.length by omega, List.take_of_length_le (by rw [List.length_drop]; omega), List.take_of_length_le (by rw [List.length_drop]; omega)]
  · rw [List.drop_eq_nil_of_le (show xs.length ≤ min i xs.length by omega), List.drop_eq_nil_of_le (show xs.length ≤ i by omega)]
    simp
theorem cut_by {xs : List Int} {x y : Int} {i j : Nat} (hx : x = (i : Int)) (hy : y = (j : Int)) : cutV (xs.map V.int) (some x) (some y) = ((xs.drop i).take (j - i)).map V.int := by
  rw [hx, hy]
  exact cut_ints xs i j
theorem cut_to (xs : List Int) (j : Nat) : cutV (xs.map V.int) none (some (OfNat.ofNat j)) = (xs.take j).map V.int := by
  unfold cutV
  show List.take (HT.sIx (xs.map V.int).length (xs.map V.int).length (some (j : Int)) - HT.sIx (xs.map V.int).length 0 none) (List.drop (HT.sIx (xs.map V.int).length 0 none) (xs.map V.int)) = _
  rw [HT.sIx_none, HT.sIx_nat, List.length_map, List.drop_zero, Nat.sub_zero, ← List.map_take]
  congr 1
  by_cases h : j ≤ xs.length
  · rw [show min j xs.length = j by omega]
  · rw [show min j xs.length = xs.length by omega, List.take_of_length_le (Nat.le_refl _), List.take_of_length_le (by omega)]
theorem val_nat : ∀ {os : List Int}, Oct os → 0 ≤ val os
  | [], _ => Int.le_refl 0
  | o :: r, h => by
    have h1 := h o List.mem_cons_self
    have h2 := val_nat (os := r) fun x hx => h x (List.mem_cons_of_mem _ hx)
    show 0 ≤ o + 256 * val r
    omega
theorem val2_le {os : List Int} (h : Oct os) : val (os.take 2) ≤ 65535 := by
  match os with
  | [] => show (0 : Int) ≤ 65535; decide
  | [a] =>
    have h1 := h a (by simp)
    show a + 256 * 0 ≤ 65535
    omega
  | a :: b :: r =>
    have h1 := h a (by simp)
    have h2 := h b (by simp)
    show a + 256 * (b + 256 * 0) ≤ 65535
    omega
theorem nat_of {n : Int} (h : 0 ≤ n) : ∃ m : Nat, n = (m : Int) := Int.eq_ofNat_of_zero_le h
theorem Oct.drop {os : List Int} (h : Oct os) (n : Nat) : Oct (os.drop n) := fun o ho => h o (List.mem_of_mem_drop ho)
theorem Oct.take {os : List Int} (h : Oct os) (n : Nat) : Oct (os.take n) := fun o ho => h o (List.mem_of_mem_take ho)
/-- what _payload_at hands back: None, or a new list -/
def PV (H H' : Hp) (v : V) : Option (List Int) → Prop
  | none => v = .non
  | some p => ∃ t, v = .ref t ∧ Xk.Fr t H ∧ H' t = some (.lst (p.map V.int))
def sp__payload_at (K : PySem.W.Frag) : Sp := fun vs H Q _ => ∃ (a : Addr) (os : List Int) (n : Nat), vs = [.ref a, .int n] ∧ SqL K H a (os.map V.int) ∧ Oct os ∧ os.length ≤ 10000 ∧ n ≤ 10000 ∧
  ∀ H' v, Same H H' → PV H H' v (pX (os.drop n)) → Q v H'
theorem ok__payload_at (T : Txt K mg) : FnOk P w K mg base CX0 2 T.f__payload_at T.d__payload_at ["octets", "at"] (sp__payload_at K) := by
  refine T.F__payload_at.ok sc__payload_at (fun vs H Q E h => ?_) (fun cdv A outer s H vs Q E hr h => ?_)
  · obtain ⟨a, os, n, rfl, _⟩ := h
    rfl
  obtain ⟨a, os, n, rfl, hS, ho, hl, hn, q⟩ := h
  refine ⟨_, (pss_cons (ps_set (i := 2) sc__payload_at.nd rfl (Or.inl rfl) (pe_op op_add (pv 1) (pe_glob (by rfl) T.g_FRAME_HEAD Xk.rel_int)))
      (Evl.pss_cut (ps_if (pt_cmpR op_gt (pv 2) (pe_callB (Xk.k_len (K := K) (by rfl)) (by rfl) T.m_len PySem.boot_len (pa_cons (pv 0) pa_nil)) (nomark _)) (pss_one (ps_ret (pe_non))) pss_nil)
      (pss_cons (ps_set (i := 3) sc__payload_at.nd rfl (Or.inl rfl) (pe_call (ok__from_octets T) (hr.mono (by decide)) (by rfl) T.g__from_octets T.F__from_octets.kp T.b__from_octets .nil pass0 (pa_cons (pe_slice (Xk.k_slL (K := K) (by rfl)) (pv 0) (po_some (pv 1)) (po_some (pe_op op_add (pv 1) (pe_glob (by rfl) T.g_LENGTH_OCTETS Xk.rel_int)))) pa_nil)))
      (pss_cons (ps_set (i := 4) sc__payload_at.nd rfl (Or.inl rfl) (pe_slice (Xk.k_slL (K := K) (by rfl)) (pv 0) (po_some (pv 2)) (po_some (pe_op op_add (pv 2) (pv 3)))))
      (Evl.pss_cut (ps_if (PW.pt (pw_or (pt_cmpR op_lt (pe_callB (Xk.k_len (K := K) (by rfl)) (by rfl) T.m_len PySem.boot_len (pa_cons (pv 4) pa_nil)) (pv 3) (nomark _)) (pw_or1 (pt_cmpR op_ne (pe_call (ok_checksum T) (hr.mono (by decide)) (by rfl) T.g_checksum T.F_checksum.kp T.b_checksum .nil pass0 (pa_cons (pv 4) pa_nil)) (pe_call (ok__from_octets T) (hr.mono (by decide)) (by rfl) T.g__from_octets T.F__from_octets.kp T.b__from_octets .nil pass0 (pa_cons (pe_slice (Xk.k_slL (K := K) (by rfl)) (pv 0) (po_some (pe_op op_add (pv 1) (pe_glob (by rfl) T.g_LENGTH_OCTETS Xk.rel_int))) (po_some (pv 2))) pa_nil)) (nomark _))))) (pss_one (ps_ret (pe_non))) pss_nil)
      (pss_one (ps_ret (pv 4)))))))), ?_⟩
  wtm_at "x0"
  wtm_at "xs"
  refine Xk.x_cut (fun σ' H' => H = H' ∧ σ' = [some (V.ref a), some (V.int n), some (V.int ((n : Int) + 6)), none, none] ∧ n + 6 ≤ os.length) ?_ ?_
  · wtm_at "xs"
    rw [List.length_map]
    refine Xk.x_itd (fun h => ?_) (fun h => ?_)
    · wtm_at "xs"
      refine q _ _ (Same.refl _) ?_
      rw [pX_short (by rw [List.length_drop]; omega)]
      rfl
    · wtm_at "xs"
      exact ⟨rfl, rfl, by omega⟩
  rintro σ' H' ⟨rfl, rfl, h6⟩
  wtm_at "xs"
  intro p1 H1 hp1 s1 h1
  rw [cut_by (i := n) (j := n + 2) rfl (by omega), show n + 2 - n = 2 by omega] at h1
  wtm_at "xs"
  refine ⟨_, _, rfl, by wtm_at "sq", by rw [List.length_take]; omega, (ho.drop n).take 2, fun H2 s2 => ?_⟩
  wtm_at "xs"
  have hc0 : 0 ≤ val ((os.drop n).take 2) := val_nat ((ho.drop n).take 2)
  have hc1 := val2_le (ho.drop n)
  obtain ⟨c, hc⟩ := nat_of hc0
  rw [hc]
  intro p3 H3 hp3 s3 h3
  rw [cut_by (i := n + 6) (j := n + 6 + c) (by omega) (by omega), show n + 6 + c - (n + 6) = c by omega] at h3
  have hpx : pX (os.drop n) = if ((os.drop (n + 6)).take c).length < c ∨ ck ((os.drop (n + 6)).take c) ≠ val (((os.drop (n + 2))).take 4) then none else some ((os.drop (n + 6)).take c) := by
    unfold pX
    rw [if_neg (by rw [List.length_drop]; omega), hc, Int.toNat_natCast, List.drop_drop, List.drop_drop]
  wtm_at "xs"
  refine Xk.x_cut (fun σ' H' => Same H H' ∧ σ' = [some (V.ref a), some (V.int n), some (V.int ((n : Int) + 6)), some (V.int c), some (V.ref p3)] ∧ H' p3 = some (.lst (((os.drop (n + 6)).take c).map V.int)) ∧ pX (os.drop n) = some ((os.drop (n + 6)).take c)) ?_ ?_
  · wtm_at "xs"
    rw [List.length_map]
    refine Xk.x_itd (fun h => ?_) (fun h => ?_)
    · wtm_at "xs"
      refine q _ _ (by wtm_at "sm") ?_
      rw [hpx, if_pos (.inl (by omega))]
      rfl
    · wtm_at "xs"
      refine ⟨_, _, rfl, by wtm_at "sq", ?_⟩
      wtm_at "xs"
      intro p4 H4 hp4 s4 h4
      rw [cut_by (i := n + 2) (j := n + 6) (by omega) (by omega), show n + 6 - (n + 2) = 4 by omega] at h4
      wtm_at "xs"
      refine ⟨_, _, rfl, by wtm_at "sq", by rw [List.length_take]; omega, (ho.drop (n + 2)).take 4, fun H5 s5 => ?_⟩
      wtm_at "xs"
      refine Xk.x_itn (fun h2 => ?_) (fun h2 => ?_)
      · wtm_at "xs"
        refine q _ _ (by wtm_at "sm") ?_
        rw [hpx, if_pos (.inr fun z => h2 (by rw [z]))]
        rfl
      · wtm_at "xs"
        refine ⟨by wtm_at "sm", rfl, by wtm_at "hx", ?_⟩
        rw [hpx, if_neg]
        rintro (z | z)
        · omega
        · exact z (V.int.inj h2)
  · rintro σ' H' ⟨s4, rfl, h4, h5⟩
    wtm_at "xs"
    refine q _ _ s4 ?_
    rw [h5]
    exact ⟨p3, rfl, by wtm_at "free", h4⟩
/-- ps are the payloads of the first whole frames, which take t octets -/
inductive Pre (os : List Int) : List (List Int) → Nat → Prop where
  | nil : Pre os [] 0
  | snoc {ps : List (List Int)} {t : Nat} {p : List Int} (h : Pre os ps t) (hp : pX (os.drop t) = some p) : Pre os (ps ++ [p]) (t + 6 + p.length)
def Full (os : List Int) (ps : List (List Int)) (t : Nat) : Prop := Pre os ps t ∧ pX (os.drop t) = none
theorem pX_len {x p : List Int} (h : pX x = some p) : 6 + p.length ≤ x.length := by
  unfold pX at h
  split at h
  · cases h
  · dsimp only at h
    split at h
    · cases h
    · have e := Option.some.inj h
      rw [← e, List.length_take, List.length_drop]
      omega
theorem Pre.le {os : List Int} {ps : List (List Int)} {t : Nat} (h : Pre os ps t) : t ≤ os.length := by
  induction h with
  | nil => exact Nat.zero_le _
  | snoc h hp ih =>
    have := pX_len hp
    rw [List.length_drop] at this
    omega
theorem Pre.count {os : List Int} {ps : List (List Int)} {t : Nat} (h : Pre os ps t) : 6 * ps.length ≤ t := by
  induction h with
  | nil => exact Nat.zero_le _
  | snoc h hp ih =>
    rw [List.length_append]
    simp only [List.length_singleton]
    omega
theorem snoc_inv {α : Type} {xs ys : List α} {x y : α} (h : xs ++ [x] = ys ++ [y]) : xs = ys ∧ x = y := by
  have h1 := congrArg List.dropLast h
  rw [List.dropLast_concat, List.dropLast_concat] at h1
  subst h1
  have h2 := List.append_cancel_left h
  exact ⟨rfl, (List.cons.inj h2).1⟩
theorem Pre.same {os : List Int} {ps : List (List Int)} {t : Nat} (h : Pre os ps t) : ∀ {qs : List (List Int)} {u : Nat}, Pre os qs u → ps.length = qs.length → ps = qs ∧ t = u := by
  induction h with
  | nil =>
    intro qs u h2 hl
    cases h2 with
    | nil => exact ⟨rfl, rfl⟩
    | snoc h2 hp2 => simp at hl
  | snoc h hp ih =>
    intro qs u h2 hl
    cases h2 with
    | nil => simp at hl
    | snoc h2 hp2 =>
      rw [List.length_append, List.length_append] at hl
      obtain ⟨rfl, rfl⟩ := ih h2 (by simpa using hl)
      rw [hp] at hp2
      cases hp2
      exact ⟨rfl, rfl⟩
theorem Pre.cut {os : List Int} {ps : List (List Int)} {t : Nat} (h : Pre os ps t) : ∀ n, n < ps.length → ∃ qs u p, Pre os qs u ∧ qs.length = n ∧ pX (os.drop u) = some p := by
  induction h with
  | nil => intro n hn; simp at hn
  | @snoc ps t p h hp ih =>
    intro n hn
    rw [List.length_append] at hn
    by_cases e : n = ps.length
    · exact ⟨_, _, _, h, e.symm, hp⟩
    · exact ih n (by simp at hn; omega)
theorem Full.same {os : List Int} {ps qs : List (List Int)} {t u : Nat} (h : Full os ps t) (h2 : Full os qs u) : ps = qs ∧ t = u := by
  rcases Nat.lt_trichotomy ps.length qs.length with hl | hl | hl
  · obtain ⟨rs, v, p, h3, h4, h5⟩ := h2.1.cut _ hl
    obtain ⟨rfl, rfl⟩ := h3.same h.1 h4
    rw [h.2] at h5
    cases h5
  · exact h.1.same h2.1 hl
  · obtain ⟨rs, v, p, h3, h4, h5⟩ := h.1.cut _ hl
    obtain ⟨rfl, rfl⟩ := h3.same h2.1 h4
    rw [h2.2] at h5
    cases h5
/-- what reading tells: a new pair of a new list of new lists, and a number -/
def Told (H H' : Hp) (r : Addr) (l : Addr) (L : List (Addr × List Int)) (t : Nat) : Prop := Same H H' ∧ Xk.Fr r H ∧ Xk.Fr l H ∧ H' r = some (.tup [.ref l, .int t]) ∧ Xk.LL H' l L
def sp_read_frames (K : PySem.W.Frag) : Sp := fun vs H Q _ => ∃ (a : Addr) (os : List Int), vs = [.ref a] ∧ SqL K H a (os.map V.int) ∧ Oct os ∧ os.length ≤ 5000 ∧
  ∀ H' r l L t, Told H H' r l L t → Full os (L.map (·.2)) t → Q (.ref r) H'
theorem ok_read_frames (T : Txt K mg) : FnOk P w K mg base CX0 3 T.f_read_frames T.d_read_frames ["octets"] (sp_read_frames K) := by
  refine T.F_read_frames.ok sc_read_frames (fun vs H Q E h => ?_) (fun cdv A outer s H vs Q E hr h => ?_)
  · obtain ⟨a, os, rfl, _⟩ := h
    rfl
  obtain ⟨a, os, rfl, hS, ho, hl, q⟩ := h
  refine ⟨_, (pss_cons (ps_set (i := 1) sc_read_frames.nd rfl (Or.inl rfl) (pe_lst pa_nil))
      (pss_cons (ps_set (i := 2) sc_read_frames.nd rfl (Or.inl rfl) (pe_int))
      (pss_cons (ps_set (i := 3) sc_read_frames.nd rfl (Or.inl rfl) (pe_call (ok__payload_at T) (hr.mono (by decide)) (by rfl) T.g__payload_at T.F__payload_at.kp T.b__payload_at .nil pass0 (pa_cons (pv 0) (pa_cons (pv 2) pa_nil))))
      (Evl.pss_cut (ps_while PassesOwn.never (pt_cmpR Xk.op_nNotN (pv 3) (pe_non) (nomark _)) (pss_cons (ps_expr (pe_bm PySem.F.plainAttrs_list PySem.F.slot_list_append PySem.F.type_list_append mt_append (pv 1) (pa_cons (pv 3) pa_nil)))
      (pss_cons (ps_aug (i := 2) sc_read_frames.nd rfl (Or.inl rfl) (pe_op op_add (pe_glob (by rfl) T.g_FRAME_HEAD Xk.rel_int) (pe_callB (Xk.k_len (K := K) (by rfl)) (by rfl) T.m_len PySem.boot_len (pa_cons (pv 3) pa_nil))) ip_add)
      (pss_one (ps_set (i := 3) sc_read_frames.nd rfl (Or.inl rfl) (pe_call (ok__payload_at T) (hr.mono (by decide)) (by rfl) T.g__payload_at T.F__payload_at.kp T.b__payload_at .nil pass0 (pa_cons (pv 0) (pa_cons (pv 2) pa_nil))))))))
      (pss_one (ps_ret (pe_tup (pa_cons (pv 1) (pa_cons (pv 2) pa_nil))))))))), ?_⟩
  wtm_at "x0"
  wtm_at "xs"
  intro p H1 hp s1 h1
  wtm_at "xs"
  refine ⟨_, os, 0, rfl, by wtm_at "sq", ho, by omega, by omega, fun H2 v s2 hv => ?_⟩
  wtm_at "xs"
  refine Xk.x_while1 (fun m σ' H' => ∃ L t v, σ' = [some (V.ref a), some (V.ref p), some (V.int (t : Nat)), some v] ∧ Same H H' ∧ Xk.LL H' p L ∧ Pre os (L.map (·.2)) t ∧ m = os.length - t ∧ (∀ e ∈ L, e.1 ≠ p) ∧
    ((v = .non ∧ pX (os.drop t) = none) ∨ ∃ c x, v = .ref c ∧ H' c = some (.lst (x.map V.int)) ∧ pX (os.drop t) = some x ∧ c ≠ p)) (os.length - 0) ⟨[], 0, v, rfl, by wtm_at "sm", Xk.ll_nil (by wtm_at "hx"), .nil, rfl, by simp, ?_⟩ ?_
  · cases e : pX (os.drop 0) with
    | none =>
      rw [e] at hv
      exact .inl ⟨hv, rfl⟩
    | some x =>
      rw [e] at hv
      obtain ⟨c, rfl, hc, hc2⟩ := hv
      exact .inr ⟨c, x, rfl, hc2, rfl, by wtm_at "neq"⟩
  rintro m σ' H' ⟨L, t, v, rfl, s3, hL, hP, rfl, hne, hv⟩
  wtm_at "xs"
  rcases hv with ⟨rfl, hv⟩ | ⟨c, x, rfl, hc, hv, hcp⟩
  · refine Xk.x_wn (fun z => absurd rfl z) fun _ => ?_
    wtm_at "xs"
    intro r H4 hr s4 h4
    wtm_at "xs"
    exact q H4 r p L t ⟨by wtm_at "sm", by wtm_at "free", by wtm_at "free", h4, Xk.ll_same s4 hL⟩ ⟨hP, hv⟩
  · refine Xk.x_wn (fun _ => ?_) fun z => (by cases z)
    have hx := pX_len hv
    rw [List.length_drop] at hx
    have ht := hP.le
    have hLp := hL.1
    have hLl := hP.count
    rw [List.length_map] at hLl
    wtm_at "xs"
    have e : ((t : Int) + (6 + ((x.map V.int).length : Int))) = ((t + 6 + x.length : Nat) : Int) := by
      rw [List.length_map]
      omega
    rw [e]
    refine ⟨_, os, t + 6 + x.length, rfl, by wtm_at "sq", ho, by omega, by omega, fun H4 v s4 hv4 => ?_⟩
    wtm_at "xs"
    refine ⟨os.length - (t + 6 + x.length), by omega, L ++ [(c, x)], t + 6 + x.length, v, rfl, by wtm_at "sm", ?_, ?_, rfl, ?_, ?_⟩
    · refine Xk.ll_same s4 (Xk.ll_snoc hL upd_same (by wtm_at "hx") fun e he => upd_ne (hne e he))
    · rw [List.map_append]
      exact .snoc hP hv
    · intro e he
      rcases List.mem_append.mp he with he | he
      · exact hne e he
      · rw [List.mem_singleton.mp he]
        exact hcp
    · cases e : pX (os.drop (t + 6 + x.length)) with
      | none =>
        rw [e] at hv4
        exact .inl ⟨hv4, rfl⟩
      | some y =>
        rw [e] at hv4
        obtain ⟨c2, rfl, hc2, hc3⟩ := hv4
        exact .inr ⟨c2, y, rfl, hc3, rfl, (Xk.ne_new hc2 upd_same).symm⟩
def sp__law_payload (K : PySem.W.Frag) : Sp := fun vs H Q _ => ∃ (n : Int), vs = [.int n] ∧ ∀ p H' (os : List Int), Xk.Fr p H → Same H H' → H' p = some (.lst (os.map V.int)) → Oct os → os.length ≤ 360 → Q (.ref p) H'
theorem ok__law_payload (T : Txt K mg) : FnOk P w K mg base CX0 2 T.f__law_payload T.d__law_payload ["row"] (sp__law_payload K) := by
  refine T.F__law_payload.ok sc__law_payload (fun vs H Q E h => ?_) (fun cdv A outer s H vs Q E hr h => ?_)
  · obtain ⟨n, rfl, _⟩ := h
    rfl
  obtain ⟨n, rfl, q⟩ := h
  refine ⟨_, (pss_cons (ps_asg (pe_call (ok__law_digits T) (hr.mono (by decide)) (by rfl) T.g__law_digits T.F__law_digits.kp T.b__law_digits .nil pass0 (pa_cons (pv 0) (pa_cons (pe_lst (pa_cons (pe_int) (pa_cons (pe_int) (pa_cons (pe_int) (pa_cons (pe_int) pa_nil))))) pa_nil))) (pg_lst rfl (pgs_cons (pg_name (i := 1) sc__law_payload.nd rfl (Or.inl rfl)) (pgs_cons (pg_name (i := 2) sc__law_payload.nd rfl (Or.inl rfl)) (pgs_cons (pg_name (i := 3) sc__law_payload.nd rfl (Or.inr rfl)) (pgs_cons (pg_name (i := 4) sc__law_payload.nd rfl (Or.inr rfl)) pgs_nil))))))
      (Evl.pss_cut (ps_if (pt_cmpR op_eq (pv 1) (pe_int) (nomark _)) (pss_one (ps_set (i := 2) sc__law_payload.nd rfl (Or.inl rfl) (pe_op op_mul (pv 2) (pe_int)))) pss_nil)
      (Evl.pss_cut (ps_if (pt_cmpR op_eq (pv 1) (pe_int) (nomark _)) (pss_one (ps_set (i := 2) sc__law_payload.nd rfl (Or.inl rfl) (pe_int))) pss_nil)
      (pss_one (ps_ret (pe_lc (own := [("k", 5)]) (g := gName 5) (tt := tYes) rfl sc__law_payload.nd  (pi_range1 (by rfl) T.m_range (pa_cons (pv 2) pa_nil)) (blkOk_by (N := N__law_payload) (sc := defScope s__law_payload) (own := [("k", 5)]) (by decide +kernel)) (fun _ _ _ _ _ => pg_name (i := 5) sc__law_payload.nd rfl (Or.inl rfl)) (fun _ _ _ _ _ => pts_nil) (fun _ _ _ _ _ => (pe_op op_mod (pe_callTy Xk.call_nInt (by rfl) T.m_int (by decide +kernel) (pa_cons (pe_op op_add (pv 3) (pe_op op_mul (pv 5) (pv 4))) pa_nil)) (pe_int))))))))), ?_⟩
  wtm_at "x0"
  wtm_at "xs"
  intro p1 H1 hp1 s1 h1
  wtm_at "xs"
  refine ⟨_, _, [12, 40, 256, 256], rfl, Xk.sq_of h1, by decide, by decide, fun p2 H2 ds hp2 s2 h2 hd hw => ?_⟩
  obtain ⟨kd, co, fi, st, rfl⟩ : ∃ a b c d, ds = [a, b, c, d] := by
    match ds, hd with
    | [a, b, c, d], _ => exact ⟨a, b, c, d, rfl⟩
  have b1 := hw 1 _ _ rfl rfl
  replace h2 : H2 p2 = some (.lst [.int kd, .int co, .int fi, .int st]) := h2
  wtm_at "xs"
  refine Xk.x_cut (fun σ' H' => H2 = H' ∧ ∃ c : Int, σ' = [some (V.int n), some (V.int kd), some (V.int c), some (V.int fi), some (V.int st), none] ∧ 0 ≤ c ∧ c ≤ 360) ?_ ?_
  · wtm_at "xs"
    refine Xk.x_itd (fun h => ?_) (fun h => ?_)
    · wtm_at "xs"
      exact ⟨rfl, _, rfl, by omega, by omega⟩
    · wtm_at "xs"
      exact ⟨rfl, _, rfl, by omega, by omega⟩
  rintro σ' H' ⟨rfl, c, rfl, hc0, hc1⟩
  refine Xk.x_cut (fun σ' H' => H2 = H' ∧ ∃ c : Int, σ' = [some (V.int n), some (V.int kd), some (V.int c), some (V.int fi), some (V.int st), none] ∧ 0 ≤ c ∧ c ≤ 360) ?_ ?_
  · wtm_at "xs"
    refine Xk.x_itd (fun h => ?_) (fun h => ?_)
    · wtm_at "xs"
      exact ⟨rfl, _, rfl, by omega, by omega⟩
    · wtm_at "xs"
      exact ⟨rfl, _, rfl, by omega, by omega⟩
  rintro σ' H' ⟨rfl, c, rfl, hc0, hc1⟩
  wtm_at "xs"
  refine Xk.x_lcR (fun Dl i H' => Same H H' ∧ ∃ os : List Int, H' Dl = some (.lst (os.map V.int)) ∧ os.length = i ∧ Oct os) ⟨by omega, by omega⟩ ?_ ?_ ?_
  · intro Dl hD
    exact ⟨by wtm_at "sm", [], upd_same, rfl, fun _ z => absurd z List.not_mem_nil⟩
  · rintro Dl hD i H' hi ⟨s3, os, h3, ho, ho2⟩
    wtm_at "xs"
    refine ⟨rfl, ?_⟩
    wtm_at "xs"
    exact ⟨_, h3, Xk.size_lt (by wtm_at "len"), by wtm_at "sm", os ++ [(fi + ↑i * st) % 256], by rw [upd_same, Xk.snoc_map], by simp [ho], Xk.mem_snoc ho2 (by omega)⟩
  · rintro Dl H' hD ⟨s3, os, h3, ho, ho2⟩
    exact q Dl H' os (by wtm_at "free") s3 h3 ho2 (by omega)
theorem frm_eq (p : List Int) : frm p = [(p.length : Int) % 256, (p.length : Int) / 256 % 256, ck p % 256, ck p / 256 % 256, ck p / 65536 % 256, ck p / 16777216 % 256] ++ p := by
  unfold frm
  rw [low2, low4]
  rfl
theorem frm_len (p : List Int) : (frm p).length = 6 + p.length := by
  rw [frm_eq, List.length_append]
  rfl
theorem frm_oct {p : List Int} (h : Oct p) : Oct (frm p) := by
  intro o ho
  unfold frm at ho
  rcases List.mem_append.mp ho with ho | ho
  · rcases List.mem_append.mp ho with ho | ho
    · exact low_in _ _ o ho
    · exact low_in _ _ o ho
  · exact h o ho
theorem pX6 (a b c d e f : Int) (r : List Int) : pX ([a, b, c, d, e, f] ++ r) = if (r.take (a + 256 * b).toNat).length < (a + 256 * b).toNat ∨ ck (r.take (a + 256 * b).toNat) ≠ val [c, d, e, f] then none else some (r.take (a + 256 * b).toNat) := by
  have hv : val (([a, b, c, d, e, f] ++ r).take 2) = a + 256 * b := by
    show a + 256 * (b + 256 * 0) = a + 256 * b
    omega
  unfold pX
  rw [if_neg (by simp)]
  dsimp only
  rw [hv]
  rfl
theorem ck_val (p : List Int) : val [ck p % 256, ck p / 256 % 256, ck p / 65536 % 256, ck p / 16777216 % 256] = ck p := by
  have h := ck_in p
  show ck p % 256 + 256 * (ck p / 256 % 256 + 256 * (ck p / 65536 % 256 + 256 * (ck p / 16777216 % 256 + 256 * 0))) = ck p
  omega
theorem pX_frm {p : List Int} (hl : p.length ≤ 65535) (y : List Int) : pX (frm p ++ y) = some p := by
  rw [frm_eq, List.append_assoc, pX6]
  have e : ((p.length : Int) % 256 + 256 * ((p.length : Int) / 256 % 256)).toNat = p.length := by omega
  rw [e, List.take_left', if_neg]
  · rw [ck_val]
    omega
  · rfl
/-- a frame of which octets behind its length were changed -/
def Sf (p fr : List Int) : Prop := ∃ c d e f p', fr = [(p.length : Int) % 256, (p.length : Int) / 256 % 256, c, d, e, f] ++ p' ∧ p'.length = p.length
theorem Sf.frm (p : List Int) : Sf p (frm p) := ⟨_, _, _, _, p, frm_eq p, rfl⟩
theorem Sf.len {p fr : List Int} (h : Sf p fr) : fr.length = 6 + p.length := by
  obtain ⟨c, d, e, f, p', rfl, hl⟩ := h
  rw [List.length_append, hl]
  rfl
theorem Sf.cut {p fr : List Int} (h : Sf p fr) (hl : p.length ≤ 65535) {m : Nat} (hm : m < fr.length) : pX (fr.take m) = none := by
  have hlen := h.len
  obtain ⟨c, d, e, f, p', rfl, hp⟩ := h
  by_cases h6 : m < 6
  · refine pX_short ?_
    rw [List.length_take]
    omega
  · rw [List.take_append, List.take_of_length_le (by simp; omega), pX6]
    have e : ((p.length : Int) % 256 + 256 * ((p.length : Int) / 256 % 256)).toNat = p.length := by omega
    rw [e, if_pos]
    left
    rw [List.length_take, List.length_take]
    simp only [List.length_cons, List.length_nil]
    omega
/-- a spoiled frame -/
def Bad (fr : List Int) : Prop := ∀ y, pX (fr ++ y) = none
theorem frm_set {p : List Int} (ho : Oct p) (hl : p.length ≤ 65535) {j : Nat} {o z : Int} (hj : (frm p)[j]? = some o) (h2 : 2 ≤ j) (hz : 0 ≤ z ∧ z ≤ 255) (hne : z ≠ o) : Sf p ((frm p).set j z) ∧ Bad ((frm p).set j z) := by
  have hj2 := Xk.at_lt hj
  rw [frm_len] at hj2
  have e : ((p.length : Int) % 256 + 256 * ((p.length : Int) / 256 % 256)).toNat = p.length := by omega
  have ckv := ck_val p
  have hck := ck_in p
  rw [frm_eq] at hj ⊢
  have bad4 : ∀ c d e f : Int, val [c, d, e, f] ≠ ck p → Bad ([(p.length : Int) % 256, (p.length : Int) / 256 % 256, c, d, e, f] ++ p) := fun c d e' f hv y => by
    rw [List.append_assoc, pX6, e, List.take_left', if_pos]
    · exact .inr fun w => hv w.symm
    · rfl
  have v4 : ∀ c d e f : Int, val [c, d, e, f] = c + 256 * (d + 256 * (e + 256 * (f + 256 * 0))) := fun _ _ _ _ => rfl
  rw [v4] at ckv
  match j, h2 with
  | 2, _ =>
    have e2 := Option.some.inj hj
    exact ⟨⟨_, _, _, _, p, rfl, rfl⟩, bad4 _ _ _ _ (by rw [v4]; omega)⟩
  | 3, _ =>
    have e2 := Option.some.inj hj
    exact ⟨⟨_, _, _, _, p, rfl, rfl⟩, bad4 _ _ _ _ (by rw [v4]; omega)⟩
  | 4, _ =>
    have e2 := Option.some.inj hj
    exact ⟨⟨_, _, _, _, p, rfl, rfl⟩, bad4 _ _ _ _ (by rw [v4]; omega)⟩
  | 5, _ =>
    have e2 := Option.some.inj hj
    exact ⟨⟨_, _, _, _, p, rfl, rfl⟩, bad4 _ _ _ _ (by rw [v4]; omega)⟩
  | j + 6, _ =>
    have hj3 : p[j]? = some o := hj
    refine ⟨⟨_, _, _, _, p.set j z, rfl, List.length_set⟩, fun y => ?_⟩
    show pX (([(p.length : Int) % 256, (p.length : Int) / 256 % 256, ck p % 256, ck p / 256 % 256, ck p / 65536 % 256, ck p / 16777216 % 256] ++ p.set j z) ++ y) = none
    rw [List.append_assoc, pX6, e, List.take_left', if_pos]
    · right
      rw [ck_val]
      exact ck_set hj3 (ho o (List.mem_of_getElem? hj3)) hz hne
    · exact List.length_set
def frs (ps : List (List Int)) : List Int := (ps.map frm).flatten
theorem frs_snoc (ps : List (List Int)) (p : List Int) : frs (ps ++ [p]) = frs ps ++ frm p := by
  unfold frs
  rw [List.map_append, List.flatten_append]
  simp
def st (ps : List (List Int)) (i : Nat) : Nat := (frs (ps.take i)).length
theorem st_succ {ps : List (List Int)} {i : Nat} {p : List Int} (h : ps[i]? = some p) : st ps (i + 1) = st ps i + (6 + p.length) := by
  unfold st
  rw [List.take_add_one, h]
  show (frs (ps.take i ++ [p])).length = _
  rw [frs_snoc, List.length_append, frm_len]
theorem frs_oct : ∀ {ps : List (List Int)}, (∀ p ∈ ps, Oct p) → Oct (frs ps)
  | [], _ => fun o ho => absurd ho List.not_mem_nil
  | p :: r, h => fun o ho => by
    rcases List.mem_append.mp (show o ∈ frm p ++ frs r from ho) with ho | ho
    · exact frm_oct (h p List.mem_cons_self) o ho
    · exact frs_oct (fun q hq => h q (List.mem_cons_of_mem _ hq)) o ho
theorem frs_split {ps : List (List Int)} {i : Nat} {p : List Int} (h : ps[i]? = some p) : frs ps = frs (ps.take i) ++ (frm p ++ frs (ps.drop (i + 1))) := by
  have e : ps = ps.take i ++ p :: ps.drop (i + 1) := by
    rw [← Xk.drop_at h, List.take_append_drop]
  have e2 : frs ps = frs (ps.take i ++ p :: ps.drop (i + 1)) := by rw [← e]
  rw [e2]
  unfold frs
  rw [List.map_append, List.flatten_append]
  rfl
theorem pre_frs (ps : List (List Int)) (h : ∀ p ∈ ps, p.length ≤ 65535) : ∀ n, n ≤ ps.length → ∀ R, Pre (frs (ps.take n) ++ R) (ps.take n) (frs (ps.take n)).length
  | 0, _, R => by simpa [frs] using Pre.nil
  | n + 1, hn, R => by
    obtain ⟨p, hp⟩ := Xk.lt_at (xs := ps) (j := n) (by omega)
    have e : ps.take (n + 1) = ps.take n ++ [p] := by
      rw [List.take_add_one, hp]
      rfl
    rw [e, frs_snoc, List.append_assoc, List.length_append, frm_len, ← Nat.add_assoc]
    refine .snoc (pre_frs ps h n (by omega) (frm p ++ R)) ?_
    rw [List.drop_left', pX_frm (h p (List.mem_of_getElem? hp))]
    rfl
theorem cut_toV (xs : List V) (j : Nat) : cutV xs none (some (j : Int)) = xs.take j := by
  unfold cutV
  rw [HT.sIx_none, HT.sIx_nat, List.drop_zero, Nat.sub_zero]
  by_cases h : j ≤ xs.length
  · rw [show min j xs.length = j by omega]
  · rw [show min j xs.length = xs.length by omega, List.take_of_length_le (Nat.le_refl _), List.take_of_length_le (by omega)]
--CUT--
/-! ### the journal -/
def szs (ps : List (List Int)) : List Int := (List.range (ps.length + 1)).map fun i => (st ps i : Int)
theorem szs_len (ps : List (List Int)) : (szs ps).length = ps.length + 1 := by
  unfold szs
  rw [List.length_map, List.length_range]
theorem szs_at {ps : List (List Int)} {i : Nat} (h : i ≤ ps.length) : (szs ps)[i]? = some (st ps i : Int) := by
  unfold szs
  rw [List.getElem?_map, List.getElem?_range (by omega)]
  rfl
theorem st_app {ps qs : List (List Int)} {i : Nat} (h : i ≤ ps.length) : st (ps ++ qs) i = st ps i := by
  unfold st
  rw [List.take_append_of_le_length h]
theorem szs_snoc (ps : List (List Int)) (p : List Int) : szs (ps ++ [p]) = szs ps ++ [(st ps ps.length : Int) + 6 + (p.length : Int)] := by
  unfold szs
  rw [List.length_append, show ps.length + [p].length + 1 = (ps.length + 1) + 1 from rfl, List.range_succ, List.map_append]
  congr 1
  · refine List.map_congr_left fun i hi => ?_
    rw [st_app (by have := List.mem_range.mp hi; omega)]
  · show [(st (ps ++ [p]) (ps.length + 1) : Int)] = _
    rw [st_succ (p := p) (by simp), st_app (Nat.le_refl _)]
    congr 1
    omega
theorem st_mono {ps : List (List Int)} : ∀ {j : Nat}, j ≤ ps.length → ∀ {i : Nat}, i ≤ j → st ps i + 6 * (j - i) ≤ st ps j
  | 0, _, i, hi => by
    have e : i = 0 := by omega
    rw [e]
    omega
  | j + 1, hj, i, hi => by
    by_cases h : i = j + 1
    · rw [h]; omega
    · have h1 := st_mono (ps := ps) (j := j) (by omega) (i := i) (by omega)
      obtain ⟨x, hx⟩ := Xk.lt_at (xs := ps) (j := j) (by omega)
      rw [st_succ hx]
      omega
theorem st_zero (ps : List (List Int)) : st ps 0 = 0 := rfl
theorem st_take {ps : List (List Int)} {i w : Nat} (h : i ≤ w) : st (ps.take w) i = st ps i := by
  unfold st
  rw [List.take_take, Nat.min_eq_left h]
theorem szs_take {ps : List (List Int)} {w : Nat} (h : w ≤ ps.length) : szs (ps.take w) = (szs ps).take (w + 1) := by
  unfold szs
  rw [List.length_take, Nat.min_eq_left h, ← List.map_take, List.take_range, Nat.min_eq_left (by omega)]
  refine List.map_congr_left fun i hi => ?_
  rw [st_take (by have := List.mem_range.mp hi; omega)]
/-- how many frames stand wholly in the first octets -/
def wh (ps : List (List Int)) (n : Int) : Nat := ((szs ps).filter fun z => decide (z ≤ n)).length - 1
theorem filter_pre (f : Nat → Int) (n : Int) : ∀ m : Nat, (∀ i j, i ≤ j → j < m → f i ≤ f j) → ∃ w, w ≤ m ∧ ((List.range m).map f).filter (fun z => decide (z ≤ n)) = (List.range w).map f ∧ ∀ i, i < m → (f i ≤ n ↔ i < w)
  | 0, _ => ⟨0, Nat.le_refl _, rfl, fun i hi => by omega⟩
  | m + 1, hm => by
    obtain ⟨w, h1, h2, h3⟩ := filter_pre f n m fun i j hij hj => hm i j hij (by omega)
    by_cases hf : f m ≤ n
    · refine ⟨m + 1, Nat.le_refl _, ?_, fun i hi => ⟨fun _ => hi, fun _ => Int.le_trans (hm i m (by omega) (by omega)) hf⟩⟩
      have hw : w = m := by
        by_cases hw : w = m
        · exact hw
        · exact absurd ((h3 w (by omega)).mp (Int.le_trans (hm w m (by omega) (by omega)) hf)) (by omega)
      rw [List.range_succ, List.map_append, List.filter_append, h2, hw]
      simp [hf]
    · refine ⟨w, by omega, ?_, fun i hi => ?_⟩
      · rw [List.range_succ, List.map_append, List.filter_append, h2]
        simp [hf]
      · by_cases him : i = m
        · rw [him]
          exact ⟨fun z => absurd z hf, fun z => by omega⟩
        · exact h3 i (by omega)
theorem wh_spec {ps : List (List Int)} {n : Int} (h : 0 ≤ n) : wh ps n ≤ ps.length ∧ ∀ g, g ≤ ps.length → ((st ps g : Int) ≤ n ↔ g ≤ wh ps n) := by
  obtain ⟨w, h1, h2, h3⟩ := filter_pre (fun i => (st ps i : Int)) n (ps.length + 1) fun i j hij hj => by
    have := st_mono (ps := ps) (j := j) (by omega) hij
    show (st ps i : Int) ≤ (st ps j : Int)
    omega
  have hw : wh ps n = w - 1 := by
    unfold wh szs
    rw [h2, List.length_map, List.length_range]
  have h0 : 0 < w := (h3 0 (by omega)).mp (by show (st ps 0 : Int) ≤ n; rw [st_zero]; exact h)
  rw [hw]
  refine ⟨by omega, fun g hg => ?_⟩
  rw [h3 g (by omega)]
  omega
/-- a journal's places, and what they hold -/
structure En where
  a : Addr
  dx : Addr
  p : Addr
  s : Addr
  L : List (Addr × List Int)
  y : Nat
def En.ps (E : En) : List (List Int) := E.L.map (·.2)
theorem En.len (E : En) : E.ps.length = E.L.length := List.length_map ..
structure JO (C : Addr) (H : Hp) (E : En) : Prop where
  ins : H E.a = some (.ins C E.dx [("_payloads", .ref E.p), ("_sizes", .ref E.s), ("_synced", .int E.y)])
  pl : H E.p = some (.lst (E.L.map fun e => V.ref e.1))
  it : ∀ e ∈ E.L, H e.1 = some (.lst (e.2.map V.int))
  sz : H E.s = some (.lst ((szs E.ps).map V.int))
  hy : E.y ≤ E.L.length
  dp : ∀ e ∈ E.L, e.1 ≠ E.p ∧ e.1 ≠ E.s
  sh : ∀ e ∈ E.L, e.2.length ≤ 400
  few : E.L.length ≤ 30
theorem JO.sp {C : Addr} {H : Hp} {E : En} (j : JO C H E) : E.s ≠ E.p := fun e => by
  have h1 := j.sz
  rw [e, j.pl] at h1
  have h2 : E.L.map (fun e => V.ref e.1) = (szs E.ps).map V.int := HO.lst.inj (Option.some.inj h1)
  have h3 : ((szs E.ps).map V.int)[0]? = some (V.int 0) := Xk.map_at (szs_at (Nat.zero_le _))
  rw [← h2] at h3
  obtain ⟨x, _, hx⟩ := Xk.of_map_at h3
  cases hx
theorem JO.ap {C : Addr} {H : Hp} {E : En} (j : JO C H E) : E.a ≠ E.p := fun e => by
  have h1 := j.pl
  rw [← e, j.ins] at h1
  cases h1
theorem JO.as {C : Addr} {H : Hp} {E : En} (j : JO C H E) : E.a ≠ E.s := fun e => by
  have h1 := j.sz
  rw [← e, j.ins] at h1
  cases h1
theorem JO.ea {C : Addr} {H : Hp} {E : En} (j : JO C H E) : ∀ e ∈ E.L, e.1 ≠ E.a := fun e he z => by
  have h1 := j.it e he
  rw [z, j.ins] at h1
  cases h1
theorem JO.same {C : Addr} {H H' : Hp} {E : En} (j : JO C H E) (s : Same H H') : JO C H' E := ⟨s _ _ j.ins, s _ _ j.pl, fun e he => s _ _ (j.it e he), s _ _ j.sz, j.hy, j.dp, j.sh, j.few⟩
/-- all but the journal's own three places stay -/
def Ex (E : En) (H H' : Hp) : Prop := ∀ b o, b ≠ E.a → b ≠ E.p → b ≠ E.s → H b = some o → H' b = some o
/-! its reads -/
def sp_Journal_frame_count (K : PySem.W.Frag) (C : Addr) : Sp := fun vs H Q _ => ∃ E : En, vs = [.ref E.a] ∧ JO C H E ∧ Q (.int E.L.length) H
theorem ok_Journal_frame_count (T : Txt K mg) : FnOk P w K mg base CX0 1 T.f_Journal_frame_count T.d_Journal_frame_count ["self"] (sp_Journal_frame_count K T.C_Journal) := by
  refine T.F_Journal_frame_count.ok sc_Journal_frame_count (fun vs H Q E h => ?_) (fun cdv A outer s H vs Q E hr h => ?_)
  · obtain ⟨E, rfl, _⟩ := h
    rfl
  obtain ⟨E, rfl, j, q⟩ := h
  have c0 := T.Cls_Journal
  have c1 := T.A_Journal__payloads
  have j1 := j.ins
  have j2 := j.pl
  refine ⟨_, (pss_one (ps_ret (pe_callB (Xk.k_len (K := K) (by rfl)) (by rfl) T.m_len PySem.boot_len (pa_cons (Xk.k_fld (K := K) (by rfl) (pv 0) rfl) pa_nil)))), ?_⟩
  wtm_at "x0"
  wtm_at "xs"
  rw [List.length_map]
  exact q
def sp_Journal_synced_frames (K : PySem.W.Frag) (C : Addr) : Sp := fun vs H Q _ => ∃ E : En, vs = [.ref E.a] ∧ JO C H E ∧ Q (.int E.y) H
theorem ok_Journal_synced_frames (T : Txt K mg) : FnOk P w K mg base CX0 1 T.f_Journal_synced_frames T.d_Journal_synced_frames ["self"] (sp_Journal_synced_frames K T.C_Journal) := by
  refine T.F_Journal_synced_frames.ok sc_Journal_synced_frames (fun vs H Q E h => ?_) (fun cdv A outer s H vs Q E hr h => ?_)
  · obtain ⟨E, rfl, _⟩ := h
    rfl
  obtain ⟨E, rfl, j, q⟩ := h
  have c0 := T.Cls_Journal
  have c1 := T.A_Journal__synced
  have j1 := j.ins
  refine ⟨_, (pss_one (ps_ret (Xk.k_fld (K := K) (by rfl) (pv 0) rfl))), ?_⟩
  wtm_at "x0"
  wtm_at "xs"
  exact q
def sp_Journal_octet_count (K : PySem.W.Frag) (C : Addr) : Sp := fun vs H Q _ => ∃ E : En, vs = [.ref E.a] ∧ JO C H E ∧ Q (.int (st E.ps E.L.length)) H
theorem ok_Journal_octet_count (T : Txt K mg) : FnOk P w K mg base CX0 1 T.f_Journal_octet_count T.d_Journal_octet_count ["self"] (sp_Journal_octet_count K T.C_Journal) := by
  refine T.F_Journal_octet_count.ok sc_Journal_octet_count (fun vs H Q E h => ?_) (fun cdv A outer s H vs Q E hr h => ?_)
  · obtain ⟨E, rfl, _⟩ := h
    rfl
  obtain ⟨E, rfl, j, q⟩ := h
  have c0 := T.Cls_Journal
  have c1 := T.A_Journal__sizes
  have j1 := j.ins
  have j2 := j.sz
  refine ⟨_, (pss_one (ps_ret (pe_ix (Xk.k_ixL (K := K) (by rfl)) (Xk.k_fld (K := K) (by rfl) (pv 0) rfl) (pe_un un_neg (pe_int)) (fun _ _ => rfl)))), ?_⟩
  wtm_at "x0"
  wtm_at "xs"
  have hj : ((szs E.ps).map V.int)[E.L.length]? = some (V.int (st E.ps E.L.length)) := Xk.map_at (szs_at (Nat.le_of_eq E.len.symm))
  refine Xk.x_ixL (by wtm_at "sq") (Xk.at_neg (by omega) (j := E.L.length) (by rw [List.length_map, szs_len, E.len]; omega) hj) ?_
  exact q
def sp_Journal_synced_octets (K : PySem.W.Frag) (C : Addr) : Sp := fun vs H Q _ => ∃ E : En, vs = [.ref E.a] ∧ JO C H E ∧ Q (.int (st E.ps E.y)) H
theorem ok_Journal_synced_octets (T : Txt K mg) : FnOk P w K mg base CX0 1 T.f_Journal_synced_octets T.d_Journal_synced_octets ["self"] (sp_Journal_synced_octets K T.C_Journal) := by
  refine T.F_Journal_synced_octets.ok sc_Journal_synced_octets (fun vs H Q E h => ?_) (fun cdv A outer s H vs Q E hr h => ?_)
  · obtain ⟨E, rfl, _⟩ := h
    rfl
  obtain ⟨E, rfl, j, q⟩ := h
  have c0 := T.Cls_Journal
  have c1 := T.A_Journal__sizes
  have c2 := T.A_Journal__synced
  have j1 := j.ins
  have j2 := j.sz
  refine ⟨_, (pss_one (ps_ret (pe_ix (Xk.k_ixL (K := K) (by rfl)) (Xk.k_fld (K := K) (by rfl) (pv 0) rfl) (Xk.k_fld (K := K) (by rfl) (pv 0) rfl) (fun _ _ => rfl)))), ?_⟩
  wtm_at "x0"
  wtm_at "xs"
  have hj : ((szs E.ps).map V.int)[E.y]? = some (V.int (st E.ps E.y)) := Xk.map_at (szs_at (by rw [E.len]; exact j.hy))
  refine Xk.x_ixL (by wtm_at "sq") (Xk.at_nat rfl hj) ?_
  exact q
--CUT--
/-! its deeds -/
def sp_Journal___init__ (K : PySem.W.Frag) (C : Addr) : Sp := fun vs H Q _ => ∃ x dx, vs = [.ref x] ∧ H x = some (.ins C dx []) ∧ ∀ H' p s, Xk.Fr p H → Xk.Fr s H → p ≠ s → Xk.But x H H' →
  H' x = some (.ins C dx [("_payloads", .ref p), ("_sizes", .ref s), ("_synced", .int 0)]) → H' p = some (.lst []) → H' s = some (.lst [V.int 0]) → Q .non H'
theorem ok_Journal___init__ (T : Txt K mg) : FnOk P w K mg base CX0 1 T.f_Journal___init__ T.d_Journal___init__ ["self"] (sp_Journal___init__ K T.C_Journal) := by
  refine T.F_Journal___init__.ok sc_Journal___init__ (fun vs H Q E h => ?_) (fun cdv A outer s H vs Q E hr h => ?_)
  · obtain ⟨x, dx, rfl, _⟩ := h
    rfl
  obtain ⟨x, dx, rfl, j1, q⟩ := h
  have c0 := T.Cls_Journal
  have c1 := T.A_Journal__payloads
  have c2 := T.A_Journal__sizes
  have c3 := T.A_Journal__synced
  refine ⟨_, (pss_cons (ps_fld (pv 0) (pe_lst pa_nil) rfl)
      (pss_cons (ps_fld (pv 0) (pe_lst (pa_cons (pe_int) pa_nil)) rfl)
      (pss_one (ps_fld (pv 0) (pe_int) rfl)))), ?_⟩
  wtm_at "x0"
  wtm_at "xs"
  intro p H1 hp s1 h1
  wtm_at "xs"
  have n1 : x ≠ p := Xk.ne_new hp j1
  intro s H2 hs s2 h2
  have n2 : x ≠ s := Xk.ne_new hs (by wtm_at "hx")
  have n3 : p ≠ s := Xk.ne_new hs (by wtm_at "hx")
  wtm_at "xs"
  exact q _ p s hp (by wtm_at "free") n3 (by wtm_at "bm") upd_same (by wtm_at "hx") (by wtm_at "hx")
def sp_Journal_sync (K : PySem.W.Frag) (C : Addr) : Sp := fun vs H Q _ => ∃ E : En, vs = [.ref E.a] ∧ JO C H E ∧ ∀ H', Ex E H H' → JO C H' { E with y := E.L.length } → Q .non H'
theorem ok_Journal_sync (T : Txt K mg) : FnOk P w K mg base CX0 1 T.f_Journal_sync T.d_Journal_sync ["self"] (sp_Journal_sync K T.C_Journal) := by
  refine T.F_Journal_sync.ok sc_Journal_sync (fun vs H Q E h => ?_) (fun cdv A outer s H vs Q E hr h => ?_)
  · obtain ⟨E, rfl, _⟩ := h
    rfl
  obtain ⟨E, rfl, j, q⟩ := h
  have c0 := T.Cls_Journal
  have c1 := T.A_Journal__payloads
  have c3 := T.A_Journal__synced
  have j1 := j.ins
  have j2 := j.pl
  refine ⟨_, (pss_one (ps_fld (pv 0) (pe_callB (Xk.k_len (K := K) (by rfl)) (by rfl) T.m_len PySem.boot_len (pa_cons (Xk.k_fld (K := K) (by rfl) (pv 0) rfl) pa_nil)) rfl)), ?_⟩
  wtm_at "x0"
  wtm_at "xs"
  rw [List.length_map]
  refine q _ (fun b o n1 n2 n3 hb => (upd_ne n1).trans hb) ⟨upd_same, (upd_ne j.ap.symm).trans j.pl, fun e he => (upd_ne (j.ea e he)).trans (j.it e he), (upd_ne j.as.symm).trans j.sz, Nat.le_refl _, j.dp, j.sh, j.few⟩
def En.app (E : En) (t : Addr) (os : List Int) : En := { E with L := E.L ++ [(t, os)] }
theorem En.app_ps (E : En) (t : Addr) (os : List Int) : (E.app t os).ps = E.ps ++ [os] := by
  show (E.L ++ [(t, os)]).map (·.2) = _
  rw [List.map_append]
  rfl
def sp_Journal_append (K : PySem.W.Frag) (C : Addr) : Sp := fun vs H Q _ => ∃ (E : En) (a : Addr) (os : List Int), vs = [.ref E.a, .ref a] ∧ JO C H E ∧ H a = some (.lst (os.map V.int)) ∧ a ≠ E.p ∧ os.length ≤ 400 ∧ E.L.length < 30 ∧
  ∀ H' t, Xk.Fr t H → Ex E H H' → JO C H' (E.app t os) → Q .non H'
theorem ok_Journal_append (T : Txt K mg) : FnOk P w K mg base CX0 1 T.f_Journal_append T.d_Journal_append ["self", "payload"] (sp_Journal_append K T.C_Journal) := by
  refine T.F_Journal_append.ok sc_Journal_append (fun vs H Q E h => ?_) (fun cdv A outer s H vs Q E hr h => ?_)
  · obtain ⟨E, a, os, rfl, _⟩ := h
    rfl
  obtain ⟨E, a, os, rfl, j, ha, hap, hl, hf, q⟩ := h
  have c0 := T.Cls_Journal
  have c1 := T.A_Journal__payloads
  have c2 := T.A_Journal__sizes
  have j1 := j.ins
  have j2 := j.pl
  have j3 := j.sz
  have n1 := j.sp
  have n2 := j.ap
  have n3 := j.as
  refine ⟨_, (pss_cons (ps_expr (pe_bm PySem.F.plainAttrs_list PySem.F.slot_list_append PySem.F.type_list_append mt_append (Xk.k_fld (K := K) (by rfl) (pv 0) rfl) (pa_cons (pe_callTy (Xk.k_list (K := K) (by rfl)) (by rfl) T.m_list (by decide +kernel) (pa_cons (pv 1) pa_nil)) pa_nil)))
      (pss_one (ps_expr (pe_bm PySem.F.plainAttrs_list PySem.F.slot_list_append PySem.F.type_list_append mt_append (Xk.k_fld (K := K) (by rfl) (pv 0) rfl) (pa_cons (pe_op op_add (pe_op op_add (pe_ix (Xk.k_ixL (K := K) (by rfl)) (Xk.k_fld (K := K) (by rfl) (pv 0) rfl) (pe_un un_neg (pe_int)) (fun _ _ => rfl)) (pe_glob (by rfl) T.g_FRAME_HEAD Xk.rel_int)) (pe_callB (Xk.k_len (K := K) (by rfl)) (by rfl) T.m_len PySem.boot_len (pa_cons (pv 1) pa_nil))) pa_nil))))), ?_⟩
  wtm_at "x0"
  wtm_at "xs"
  intro t H1 ht s1 h1
  have hpt : E.p ≠ t := Xk.ne_new ht j2
  have hst : E.s ≠ t := Xk.ne_new ht j3
  have hat : E.a ≠ t := Xk.ne_new ht j1
  wtm_at "xs"
  have hj : ((szs E.ps).map V.int)[E.L.length]? = some (V.int (st E.ps E.L.length)) := Xk.map_at (szs_at (Nat.le_of_eq E.len.symm))
  refine Xk.x_ixL (by wtm_at "sq") (Xk.at_neg (by omega) (j := E.L.length) (by rw [List.length_map, szs_len, E.len]; omega) hj) ?_
  wtm_at "xs"
  refine Xk.x_app (by wtm_at "hx") (by rw [List.length_map, szs_len, E.len]; omega) ?_
  refine q _ t ht (fun b o m1 m2 m3 hb => (upd_ne m3).trans ((upd_ne m2).trans (s1 _ _ hb))) ⟨by show _ = some (HO.ins T.C_Journal E.dx _); wtm_at "hx", ?_, ?_, ?_, ?_, ?_, ?_, ?_⟩
  · show _ = some (HO.lst ((E.L ++ [(t, os)]).map fun e => V.ref e.1))
    rw [List.map_append]
    exact (upd_ne n1.symm).trans upd_same
  · intro e he
    rcases List.mem_append.mp he with he | he
    · exact (upd_ne (j.dp e he).2).trans ((upd_ne (j.dp e he).1).trans (s1 _ _ (j.it e he)))
    · rw [List.mem_singleton.mp he]
      show _ = some (HO.lst (os.map V.int))
      wtm_at "hx"
  · rw [En.app_ps, szs_snoc, List.map_append, List.length_map, E.len]
    exact upd_same
  · show E.y ≤ (E.L ++ [(t, os)]).length
    have := j.hy
    rw [List.length_append]
    omega
  · intro e he
    rcases List.mem_append.mp he with he | he
    · exact j.dp e he
    · rw [List.mem_singleton.mp he]
      exact ⟨hpt.symm, hst.symm⟩
  · intro e he
    rcases List.mem_append.mp he with he | he
    · exact j.sh e he
    · rw [List.mem_singleton.mp he]
      exact hl
  · show (E.L ++ [(t, os)]).length ≤ 30
    rw [List.length_append]
    show E.L.length + 1 ≤ 30
    omega
def sp_Journal_payloads (K : PySem.W.Frag) (C : Addr) : Sp := fun vs H Q _ => ∃ E : En, vs = [.ref E.a] ∧ JO C H E ∧
  ∀ H' l (L' : List (Addr × List Int)), Same H H' → Xk.Fr l H → H' l = some (.lst (L'.map fun e => V.ref e.1)) → (∀ e ∈ L', H' e.1 = some (.lst (e.2.map V.int)) ∧ Xk.Fr e.1 H ∧ e.1 ≠ l) → L'.map (·.2) = E.ps → Q (.ref l) H'
theorem ok_Journal_payloads (T : Txt K mg) : FnOk P w K mg base CX0 1 T.f_Journal_payloads T.d_Journal_payloads ["self"] (sp_Journal_payloads K T.C_Journal) := by
  refine T.F_Journal_payloads.ok sc_Journal_payloads (fun vs H Q E h => ?_) (fun cdv A outer s H vs Q E hr h => ?_)
  · obtain ⟨E, rfl, _⟩ := h
    rfl
  obtain ⟨E, rfl, j, q⟩ := h
  have c0 := T.Cls_Journal
  have c1 := T.A_Journal__payloads
  have j1 := j.ins
  have j2 := j.pl
  refine ⟨_, (pss_one (ps_ret (pe_lc (own := [("payload", 1)]) (g := gName 1) (tt := tYes) rfl sc_Journal_payloads.nd  (pi_list (Xk.k_fld (K := K) (by rfl) (pv 0) rfl)) (blkOk_by (N := N_Journal_payloads) (sc := defScope s_Journal_payloads) (own := [("payload", 1)]) (by decide +kernel)) (fun _ _ _ _ _ => pg_name (i := 1) sc_Journal_payloads.nd rfl (Or.inl rfl)) (fun _ _ _ _ _ => pts_nil) (fun _ _ _ _ _ => (pe_callTy (Xk.k_list (K := K) (by rfl)) (by rfl) T.m_list (by decide +kernel) (pa_cons (pv 1) pa_nil)))))), ?_⟩
  wtm_at "x0"
  wtm_at "xs"
  refine Xk.x_lcL (fun Dl i H' => Same H H' ∧ ∃ L' : List (Addr × List Int), H' Dl = some (.lst (L'.map fun e => V.ref e.1)) ∧ (∀ e ∈ L', H' e.1 = some (.lst (e.2.map V.int)) ∧ Xk.Fr e.1 H ∧ e.1 ≠ Dl) ∧ L'.map (·.2) = E.ps.take i) (by wtm_at "sq") ?_ ?_ ?_ ?_
  · intro Dl hD
    exact ⟨Xk.same_fr hD, [], upd_same, fun e he => absurd he List.not_mem_nil, rfl⟩
  · rintro Dl i H' hD ⟨s2, _⟩
    wtm_at "sq"
  · rintro Dl hD i x H' hi ⟨s2, L', h2, h3, h4⟩
    obtain ⟨e, hei, rfl⟩ := Xk.of_map_at hi
    have hj : H' e.1 = some (.lst (e.2.map V.int)) := s2 _ _ (j.it e (List.mem_of_getElem? hei))
    wtm_at "xs"
    refine ⟨rfl, ?_⟩
    wtm_at "xs"
    intro t H3 ht s3 h5
    have hlen : L'.length ≤ 30 := by
      have := congrArg List.length h4
      rw [List.length_map, List.length_take] at this
      have := j.few
      have := E.len
      omega
    have hDt : Dl ≠ t := Xk.ne_new ht h2
    refine ⟨_, by wtm_at "hx", Xk.size_lt (by rw [List.length_map]; omega), by wtm_at "sm", L' ++ [(t, e.2)], ?_, ?_, ?_⟩
    · rw [upd_same, List.map_append]
      rfl
    · intro f hf
      rcases List.mem_append.mp hf with hf | hf
      · obtain ⟨g1, g2, g3⟩ := h3 f hf
        exact ⟨(upd_ne g3).trans (s3 _ _ g1), g2, g3⟩
      · rw [List.mem_singleton.mp hf]
        exact ⟨(upd_ne hDt.symm).trans h5, by wtm_at "free", hDt.symm⟩
    · rw [List.map_append, h4, List.take_add_one, show E.ps[i]? = some e.2 from Xk.map_at hei]
      rfl
  · rintro Dl H' hD ⟨s2, L', h2, h3, h4⟩
    wtm_at "xs"
    rw [List.length_map, ← E.len, List.take_length] at h4
    exact q H' Dl L' s2 hD h2 h3 h4
theorem frs_take {ps : List (List Int)} {i : Nat} {p : List Int} (h : ps[i]? = some p) : frs (ps.take (i + 1)) = frs (ps.take i) ++ frm p := by
  rw [List.take_add_one, h]
  exact frs_snoc _ _
theorem frs_len {ps : List (List Int)} (h : ∀ p ∈ ps, p.length ≤ 400) : (frs ps).length ≤ 406 * ps.length := by
  induction ps with
  | nil => exact Nat.le_refl _
  | cons p r ih =>
    have h1 := ih fun x hx => h x (List.mem_cons_of_mem _ hx)
    have h2 := h p List.mem_cons_self
    show (frm p ++ frs r).length ≤ 406 * (r.length + 1)
    rw [List.length_append, frm_len]
    omega
theorem En.sh {C : Addr} {H : Hp} {E : En} (j : JO C H E) : ∀ p ∈ E.ps, p.length ≤ 400 := fun p hp => by
  obtain ⟨e, he, rfl⟩ := List.mem_map.mp hp
  exact j.sh e he
def sp_Journal_image (K : PySem.W.Frag) (C : Addr) : Sp := fun vs H Q _ => ∃ E : En, vs = [.ref E.a] ∧ JO C H E ∧ ∀ H' l, Same H H' → Xk.Fr l H → H' l = some (.lst ((frs E.ps).map V.int)) → Q (.ref l) H'
theorem ok_Journal_image (T : Txt K mg) : FnOk P w K mg base CX0 3 T.f_Journal_image T.d_Journal_image ["self"] (sp_Journal_image K T.C_Journal) := by
  refine T.F_Journal_image.ok sc_Journal_image (fun vs H Q E h => ?_) (fun cdv A outer s H vs Q E hr h => ?_)
  · obtain ⟨E, rfl, _⟩ := h
    rfl
  obtain ⟨E, rfl, j, q⟩ := h
  have c0 := T.Cls_Journal
  have c1 := T.A_Journal__payloads
  have j1 := j.ins
  have j2 := j.pl
  refine ⟨_, (pss_one (ps_ret (pe_lc2 (own := [("payload", 1), ("octet", 2)]) (vs1 := [2]) (g := gName 1) (tt := tYes) (g1 := gName 2) (tt1 := tYes) rfl sc_Journal_image.nd (pi_list (Xk.k_fld (K := K) (by rfl) (pv 0) rfl)) (blkOk_by (N := N_Journal_image) (sc := defScope s_Journal_image) (own := [("payload", 1), ("octet", 2)]) (by decide +kernel)) (by decide) (fun _ _ _ _ _ => pg_name (i := 1) sc_Journal_image.nd rfl (Or.inl rfl)) (fun _ _ _ _ _ => pts_nil) (fun _ _ _ _ _ => (Xk.k_pil (K := K) (by rfl) (pe_call (ok_frame T) (hr.mono (by decide)) (by rfl) T.g_frame T.F_frame.kp T.b_frame .nil pass0 (pa_cons (pv 1) pa_nil)))) (fun _ _ _ _ _ => pg_name (i := 2) sc_Journal_image.nd rfl (Or.inl rfl)) (fun _ _ _ _ _ => pts_nil) (fun _ _ _ _ _ => (pv 2))))), ?_⟩
  wtm_at "x0"
  wtm_at "xs"
  refine Xk.x_lc2L (fun Dl i H' => Same H H' ∧ H' Dl = some (.lst ((frs (E.ps.take i)).map V.int))) (by wtm_at "sq") ?_ ?_ ?_ ?_
  · intro Dl hD
    exact ⟨Xk.same_fr hD, upd_same⟩
  · rintro Dl i H' hD ⟨s2, _⟩
    wtm_at "sq"
  · rintro Dl hD i x H' hi ⟨s2, h2⟩
    obtain ⟨e, hei, rfl⟩ := Xk.of_map_at hi
    have hei2 : E.ps[i]? = some e.2 := Xk.map_at hei
    have hj : H' e.1 = some (.lst (e.2.map V.int)) := s2 _ _ (j.it e (List.mem_of_getElem? hei))
    have hs := j.sh e (List.mem_of_getElem? hei)
    wtm_at "xs"
    refine ⟨rfl, ?_⟩
    wtm_at "xs"
    refine ⟨_, e.2, rfl, hj, by omega, fun t H3 ht s3 h5 => ?_⟩
    have hDt : Dl ≠ t := Xk.ne_new ht h2
    refine Xk.x_infL (fun k H' => Same H H' ∧ H' t = some (.lst ((frm e.2).map V.int)) ∧ H' Dl = some (.lst ((frs (E.ps.take i) ++ (frm e.2).take k).map V.int))) (by wtm_at "sq") ⟨by wtm_at "sm", h5, ?_⟩ ?_ ?_ ?_
    · rw [List.take_zero, List.append_nil]
      exact s3 _ _ h2
    · rintro k H4 ⟨s4, g1, g2⟩
      wtm_at "sq"
    · rintro k x H4 hk ⟨s4, g1, g2⟩
      obtain ⟨o, ho, rfl⟩ := Xk.of_map_at hk
      wtm_at "xs"
      refine ⟨rfl, ?_⟩
      wtm_at "xs"
      refine ⟨_, g2, Xk.size_lt ?_, by wtm_at "sm", (upd_ne hDt.symm).trans g1, ?_⟩
      · have a1 := frs_len (ps := E.ps.take i) fun p hp => En.sh j p (List.mem_of_mem_take hp)
        have a2 : (E.ps.take i).length ≤ E.ps.length := by rw [List.length_take]; omega
        have a3 := E.len
        have a4 := j.few
        have a5 : ((frm e.2).take k).length ≤ 406 := by rw [List.length_take, frm_len]; omega
        rw [List.length_map, List.length_append]
        omega
      · rw [upd_same, Xk.snoc_map, List.append_assoc, List.take_add_one (i := k), ho]
        rfl
    · rintro H4 ⟨s4, g1, g2⟩
      refine ⟨s4, ?_⟩
      rw [List.length_map, List.take_length] at g2
      rw [g2, frs_take hei2]
  · rintro Dl H' hD ⟨s2, h2⟩
    wtm_at "xs"
    rw [List.length_map, ← E.len, List.take_length] at h2
    exact q H' Dl s2 hD h2
--CUT--
def sp_Journal_fork (K : PySem.W.Frag) (C : Addr) : Sp := fun vs H Q _ => ∃ E : En, vs = [.ref E.a] ∧ JO C H E ∧ ∀ H' F, Same H H' → JO C H' F → F.ps = E.ps → F.y = E.y → Xk.Fr F.a H → Xk.Fr F.p H → Xk.Fr F.s H → (∀ e ∈ F.L, Xk.Fr e.1 H) → Q (.ref F.a) H'
theorem ok_Journal_fork (T : Txt K mg) : FnOk P w K mg base CX0 3 T.f_Journal_fork T.d_Journal_fork ["self"] (sp_Journal_fork K T.C_Journal) := by
  refine T.F_Journal_fork.ok sc_Journal_fork (fun vs H Q E h => ?_) (fun cdv A outer s H vs Q E hr h => ?_)
  · obtain ⟨E, rfl, _⟩ := h
    rfl
  obtain ⟨E, rfl, j, q⟩ := h
  have c0 := T.Cls_Journal
  have c1 := T.A_Journal__payloads
  have c2 := T.A_Journal__sizes
  have c3 := T.A_Journal__synced
  have j1 := j.ins
  have j3 := j.sz
  refine ⟨_, (pss_cons (ps_set (i := 1) sc_Journal_fork.nd rfl (Or.inl rfl) (pe_make0 T.Mk_Journal (ok_Journal___init__ T) (hr.mono (by decide)) (by rfl) T.g_Journal T.b_Journal___init__ .nil pass0))
      (pss_cons (ps_fld (pv 1) (pe_meth0 (pv 0) T.Cls_Journal T.M_Journal_payloads (ok_Journal_payloads T) (hr.mono (by decide)) T.b_Journal_payloads .nil pass0) rfl)
      (pss_cons (ps_fld (pv 1) (pe_callTy (Xk.k_list (K := K) (by rfl)) (by rfl) T.m_list (by decide +kernel) (pa_cons (Xk.k_fld (K := K) (by rfl) (pv 0) rfl) pa_nil)) rfl)
      (pss_cons (ps_fld (pv 1) (Xk.k_fld (K := K) (by rfl) (pv 0) rfl) rfl)
      (pss_one (ps_ret (pv 1))))))), ?_⟩
  wtm_at "x0"
  wtm_at "xs"
  refine Xk.x_rMake fun x dx H1 hx hdx hn s1 hd h1 => ?_
  refine ⟨x, dx, rfl, h1, fun H2 p s hp hs hps b2 h2 h3 h4 => ⟨rfl, ?_⟩⟩
  have s2 : Same H H2 := Xk.same_but b2 hx s1
  have j2 := j.same s2
  wtm_at "xs"
  refine ⟨E, rfl, j2, fun H3 l L' s3 hl h5 h6 h7 => ?_⟩
  have m1 : E.s ≠ x := Xk.ne_new hx j3
  have m2 : E.a ≠ x := Xk.ne_new hx j1
  have m3 : x ≠ l := Xk.ne_new hl h2
  have h9 : H3 E.s = some (.lst ((szs E.ps).map V.int)) := s3 _ _ j2.sz
  have h10 : H3 E.a = _ := s3 _ _ j2.ins
  have h11 : H3 x = _ := s3 _ _ h2
  wtm_at "xs"
  intro t H4 ht s4 h8
  have m4 : x ≠ t := Xk.ne_new ht upd_same
  have m5 : ∀ e ∈ L', e.1 ≠ x := fun e he z => absurd (h6 e he).2.1.is (by rw [z, h2]; exact fun z => by cases z)
  have m6 : ∀ e ∈ L', H4 e.1 = some (.lst (e.2.map V.int)) := fun e he => s4 _ _ ((upd_ne (m5 e he)).trans (h6 e he).1)
  wtm_at "xs"
  refine q _ { a := x, dx := dx, p := l, s := t, L := L', y := E.y } (by wtm_at "sm") ⟨upd_same, ?_, ?_, ?_, ?_, ?_, ?_, ?_⟩ h7 rfl hx ⟨Same.free s2 hl.is⟩ ?_ ?_
  · show _ = some (HO.lst (L'.map fun e => V.ref e.1))
    wtm_at "hx"
  · intro e he
    exact (upd_ne (m5 e he)).trans ((upd_ne (m5 e he)).trans (m6 e he))
  · show _ = some (HO.lst ((szs (L'.map (·.2))).map V.int))
    rw [h7]
    wtm_at "hx"
  · show E.y ≤ L'.length
    have h12 := congrArg List.length h7
    rw [List.length_map, E.len] at h12
    have := j.hy
    omega
  · intro e he
    exact ⟨(h6 e he).2.2, fun z => absurd ht.is (by rw [show t = e.1 from z.symm, upd_ne (m5 e he), (h6 e he).1]; exact fun z => by cases z)⟩
  · intro e he
    refine En.sh j e.2 ?_
    rw [← h7]
    exact List.mem_map_of_mem he
  · show L'.length ≤ 30
    have h12 := congrArg List.length h7
    rw [List.length_map, E.len] at h12
    have := j.few
    omega
  · show Xk.Fr t H
    exact ⟨Same.free (s2.trans s3) (Xk.fr_upd ht).is⟩
  · intro e he
    exact ⟨Same.free s2 (h6 e he).2.1.is⟩
def sp_Journal_crash (K : PySem.W.Frag) (C : Addr) : Sp := fun vs H Q _ => ∃ (E : En) (c : Int), vs = [.ref E.a, .int c] ∧ JO C H E ∧ 0 ≤ c ∧
  ∀ H', Ex E H H' → JO C H' { E with L := E.L.take (wh E.ps (st E.ps E.y + c)), y := wh E.ps (st E.ps E.y + c) } → Q .non H'
theorem ok_Journal_crash (T : Txt K mg) : FnOk P w K mg base CX0 3 T.f_Journal_crash T.d_Journal_crash ["self", "count"] (sp_Journal_crash K T.C_Journal) := by
  refine T.F_Journal_crash.ok sc_Journal_crash (fun vs H Q E h => ?_) (fun cdv A outer s H vs Q E hr h => ?_)
  · obtain ⟨E, c, rfl, _⟩ := h
    rfl
  obtain ⟨E, c, rfl, j, hc, q⟩ := h
  have c0 := T.Cls_Journal
  have c1 := T.A_Journal__payloads
  have c2 := T.A_Journal__sizes
  have j1 := j.ins
  have j3 := j.sz
  refine ⟨_, (pss_cons (ps_set (i := 2) sc_Journal_crash.nd rfl (Or.inr rfl) (pe_op op_add (pe_prop (pv 0) T.Cls_Journal T.P_Journal_synced_octets (ok_Journal_synced_octets T) (hr.mono (by decide)) T.b_Journal_synced_octets .nil pass0 rfl) (pv 1)))
      (pss_cons (ps_set (i := 3) sc_Journal_crash.nd rfl (Or.inl rfl) (pe_op op_sub (pe_callB (Xk.k_len (K := K) (by rfl)) (by rfl) T.m_len PySem.boot_len (pa_cons (pe_lc (own := [("size", 4)]) (g := gName 4) rfl sc_Journal_crash.nd  (pi_list (Xk.k_fld (K := K) (by rfl) (pv 0) rfl)) (blkOk_by (N := N_Journal_crash) (sc := defScope s_Journal_crash) (own := [("size", 4)]) (by decide +kernel)) (fun _ _ _ _ _ => pg_name (i := 4) sc_Journal_crash.nd rfl (Or.inl rfl)) (fun _ _ _ _ _ => pts_one (pt_cmpR op_le (pv 4) (pv 2) (nomark _))) (fun _ _ _ _ _ => (pv 4))) pa_nil)) (pe_int)))
      (pss_cons (Xk.ps_delT (Xk.k_fld (K := K) (by rfl) (pv 0) rfl) (po_some (pv 3)))
      (pss_cons (Xk.ps_delT (Xk.k_fld (K := K) (by rfl) (pv 0) rfl) (po_some (pe_op op_add (pv 3) (pe_int))))
      (pss_one (ps_expr (pe_meth0 (pv 0) T.Cls_Journal T.M_Journal_sync (ok_Journal_sync T) (hr.mono (by decide)) T.b_Journal_sync .nil pass0))))))), ?_⟩
  wtm_at "x0"
  wtm_at "xs"
  refine ⟨E, rfl, j, ?_⟩
  wtm_at "xs"
  obtain ⟨w1, w2⟩ := wh_spec (ps := E.ps) (n := (st E.ps E.y : Int) + c) (by omega)
  have hlen : ((szs E.ps).filter fun z => decide (z ≤ (st E.ps E.y : Int) + c)).length = wh E.ps ((st E.ps E.y : Int) + c) + 1 := by
    have hpos : 0 < ((szs E.ps).filter fun z => decide (z ≤ (st E.ps E.y : Int) + c)).length := by
      refine List.length_pos_of_mem (a := (st E.ps 0 : Int)) (List.mem_filter.mpr ⟨List.mem_of_getElem? (szs_at (Nat.zero_le _)), decide_eq_true ?_⟩)
      rw [st_zero]
      omega
    unfold wh
    omega
  have hyw : E.y ≤ wh E.ps ((st E.ps E.y : Int) + c) := (w2 E.y (by rw [E.len]; exact j.hy)).mp (by omega)
  have hel := E.len
  generalize wh E.ps ((st E.ps E.y : Int) + c) = W at *
  refine Xk.x_lcL (fun Dl i H' => Same H H' ∧ H' Dl = some (.lst ((((szs E.ps).take i).filter fun z => decide (z ≤ (st E.ps E.y : Int) + c)).map V.int))) (by wtm_at "sq") ?_ ?_ ?_ ?_
  · intro Dl hD
    exact ⟨Xk.same_fr hD, upd_same⟩
  · rintro Dl i H' hD ⟨s2, _⟩
    wtm_at "sq"
  · rintro Dl hD i x H' hi ⟨s2, h2⟩
    obtain ⟨o, ho, rfl⟩ := Xk.of_map_at hi
    wtm_at "xs"
    refine ⟨rfl, ?_⟩
    wtm_at "xs"
    rw [List.take_add_one, ho, List.filter_append]
    by_cases ho2 : o ≤ (st E.ps E.y : Int) + c
    · rw [if_pos (decide_eq_true ho2)]
      wtm_at "xs"
      refine ⟨_, h2, Xk.size_lt ?_, by wtm_at "sm", ?_⟩
      · have a1 := List.length_filter_le (fun z => decide (z ≤ (st E.ps E.y : Int) + c)) ((szs E.ps).take i)
        have a2 := szs_len E.ps
        have a4 := j.few
        rw [List.length_take] at a1
        rw [List.length_map]
        omega
      · rw [upd_same, Xk.snoc_map]
        simp [ho2]
    · rw [if_neg (by rw [decide_eq_false ho2]; exact Bool.false_ne_true)]
      refine ⟨s2, ?_⟩
      rw [h2]
      simp [ho2]
  · rintro Dl H' hD ⟨s2, h2⟩
    rw [List.length_map, List.take_length] at h2
    have j2 := j.same s2
    have h3 := j2.ins
    have h4 := j2.pl
    have h5 := j2.sz
    have n1 := j2.sp
    have n2 := j2.ap
    have n3 := j2.as
    wtm_at "xs"
    refine Xk.x_rDelT (i := W) (by rw [List.length_map, hlen]; omega) (by wtm_at "hx") (by rw [List.length_map]; omega) ?_
    wtm_at "xs"
    refine Xk.x_rDelT (i := W + 1) (by rw [List.length_map, hlen]; omega) (by wtm_at "hx") (by rw [List.length_map, szs_len]; omega) ?_
    wtm_at "xs"
    have hps : ({ E with L := E.L.take W } : En).ps = E.ps.take W := by
      show (E.L.take W).map (·.2) = _
      rw [List.map_take]
      rfl
    refine ⟨{ E with L := E.L.take W }, rfl, ⟨?_, ?_, ?_, ?_, ?_, ?_, ?_, ?_⟩, fun H5 x5 j5 => ?_⟩
    · show _ = some (HO.ins T.C_Journal E.dx _)
      wtm_at "hx"
    · show _ = some (HO.lst ((E.L.take W).map fun e => V.ref e.1))
      rw [List.map_take]
      exact (upd_ne n1.symm).trans upd_same
    · intro e he
      have he2 := List.mem_of_mem_take he
      exact (upd_ne (j.dp e he2).2).trans ((upd_ne (j.dp e he2).1).trans (j2.it e he2))
    · rw [hps, szs_take (by omega), List.map_take]
      exact upd_same
    · show E.y ≤ (E.L.take W).length
      rw [List.length_take]
      omega
    · exact fun e he => j.dp e (List.mem_of_mem_take he)
    · exact fun e he => j.sh e (List.mem_of_mem_take he)
    · show (E.L.take W).length ≤ 30
      have := j.few
      rw [List.length_take]
      omega
    · wtm_at "xs"
      have e2 : (E.L.take W).length = W := by rw [List.length_take]; omega
      have j6 : JO T.C_Journal H5 { E with L := E.L.take W, y := W } := by
        have j7 := j5
        simp only [e2] at j7
        exact j7
      refine q H5 (fun b o m1 m2 m3 hb => x5 b o m1 m2 m3 ((upd_ne m3).trans ((upd_ne m2).trans (s2 _ _ hb)))) j6
--CUT--
theorem cut_last (xs : List V) (h : 0 < xs.length) : cutV xs none (some (-1)) = xs.take (xs.length - 1) := by
  unfold cutV
  have h1 : HT.sIx xs.length 0 none = 0 := HT.sIx_none ..
  have h2 : HT.sIx xs.length xs.length (some (-1)) = xs.length - 1 := by
    show (if (-1 : Int) < 0 then ((-1 : Int) + (xs.length : Int)).toNat else min (-1 : Int).toNat xs.length) = _
    rw [if_pos (by decide)]
    omega
  rw [h1, h2, List.drop_zero, Nat.sub_zero]
theorem cut_fromV (xs : List V) (j : Nat) : cutV xs (some (j : Int)) none = xs.drop j := by
  unfold cutV
  rw [HT.sIx_nat, HT.sIx_none]
  by_cases h : j ≤ xs.length
  · rw [show min j xs.length = j by omega, List.take_of_length_le (by rw [List.length_drop]; omega)]
  · rw [show min j xs.length = xs.length by omega, List.drop_eq_nil_of_le (show xs.length ≤ j by omega), List.drop_eq_nil_of_le (Nat.le_refl _)]
    simp
theorem ll_cl (ps : List (List Int)) : (PyData.list (Xk.dLists ps)).canLay0 = true := by
  rw [PyData.canLay0, Xk.canLay_lists]
theorem ll_dpt (ps : List (List Int)) : (PyData.list (Xk.dLists ps)).depth ≤ 64 := by
  have := Xk.depth_lists ps
  rw [PyData.depth]
  omega
theorem ne_at {H : Hp} {a b : Addr} {o : HO} (h : Xk.Fr b H) (h' : H a = some o) : a ≠ b := Xk.ne_new h h'
theorem fr_ex {C : Addr} {H1 H2 : Hp} {E E' : En} {b : Addr} (x : Ex E H1 H2) (j : JO C H2 E') (ea : E'.a = E.a) (ep : E'.p = E.p) (es : E'.s = E.s) (h : Xk.Fr b H2) : Xk.Fr b H1 := by
  constructor
  cases hb : H1 b with
  | none => rfl
  | some o =>
    exfalso
    have n1 : b ≠ E.a := by rw [← ea]; exact (ne_at h j.ins).symm
    have n2 : b ≠ E.p := by rw [← ep]; exact (ne_at h j.pl).symm
    have n3 : b ≠ E.s := by rw [← es]; exact (ne_at h j.sz).symm
    have h2 := x b o n1 n2 n3 hb
    rw [h.is] at h2
    cases h2
theorem ex_same {H0 H H' : Hp} {E : En} (fa : Xk.Fr E.a H0) (fp : Xk.Fr E.p H0) (fs : Xk.Fr E.s H0) (s : Same H0 H) (x : Ex E H H') : Same H0 H' := fun b o h => x b o (ne_at fa h) (ne_at fp h) (ne_at fs h) (s b o h)
theorem full_cut {ps : List (List Int)} (hp : ∀ p ∈ ps, p.length ≤ 400) (n : Nat) : Full ((frs ps).take n) (ps.take (wh ps n)) (st ps (wh ps n)) := by
  obtain ⟨w1, w2⟩ := wh_spec (ps := ps) (n := (n : Int)) (by omega)
  have w3 := (w2 _ w1).mpr (Nat.le_refl _)
  have w4 := w2 (wh ps n + 1)
  generalize wh ps n = w at *
  have e1 : frs ps = frs (ps.take w) ++ frs (ps.drop w) := by
    unfold frs
    rw [← List.flatten_append, ← List.map_append, List.take_append_drop]
  have e2 : (frs ps).take n = frs (ps.take w) ++ (frs (ps.drop w)).take (n - st ps w) := by
    rw [e1, List.take_append, List.take_of_length_le (by show st ps w ≤ n; omega)]
    rfl
  have e3 : ((frs ps).take n).drop (st ps w) = (frs (ps.drop w)).take (n - st ps w) := by
    rw [e2]
    exact List.drop_left' rfl
  refine ⟨?_, ?_⟩
  · rw [e2]
    exact pre_frs ps (fun p h => by have := hp p h; omega) w w1 _
  · rw [e3]
    by_cases hw : w < ps.length
    · obtain ⟨p, hpw⟩ := Xk.lt_at (xs := ps) (j := w) hw
      have h5 : ¬ (st ps (w + 1) : Int) ≤ n := fun h => by have := (w4 (by omega)).mp h; omega
      rw [st_succ hpw] at h5
      have h6 := frm_len p
      rw [Xk.drop_at hpw, show frs (p :: ps.drop (w + 1)) = frm p ++ frs (ps.drop (w + 1)) from rfl, List.take_append_of_le_length (by omega)]
      exact (Sf.frm p).cut (by have := hp p (List.mem_of_getElem? hpw); omega) (by omega)
    · rw [List.drop_eq_nil_of_le (by omega)]
      exact pX_short (by simp [frs])
theorem Pre.mem {os : List Int} {ps : List (List Int)} {t : Nat} (h : Pre os ps t) : ∀ p ∈ ps, p.length ≤ os.length := by
  induction h with
  | nil => exact fun p hp => absurd hp List.not_mem_nil
  | snoc h hp ih =>
    intro x hx
    rcases List.mem_append.mp hx with hx | hx
    · exact ih x hx
    · have h1 := pX_len hp
      rw [List.length_drop] at h1
      rw [List.mem_singleton.mp hx]
      omega
theorem full_set {ps : List (List Int)} {p : List Int} {m k : Nat} {o z : Int} (hp : ∀ p ∈ ps, p.length ≤ 400) (hop : Oct p) (hm : ps.length = m + 1) (hpm : ps[m]? = some p) (hk : st ps m + 2 ≤ k) (ho : (frs ps)[k]? = some o) (hz : 0 ≤ z ∧ z ≤ 255) (hne : z ≠ o) :
    Full ((frs ps).set k z) (ps.take m) (st ps m) := by
  have e1 : frs ps = frs (ps.take m) ++ frm p := by
    rw [frs_split hpm, List.drop_eq_nil_of_le (by omega), show frs [] = [] from rfl, List.append_nil]
  have e0 : (frs (ps.take m)).length = st ps m := rfl
  have h1 : (frm p)[k - st ps m]? = some o := by
    rw [e1, List.getElem?_append_right (by omega), e0] at ho
    exact ho
  have h2 := (frm_set hop (by have := hp p (List.mem_of_getElem? hpm); omega) h1 (by omega) hz hne).2 []
  have e2 : (frs ps).set k z = frs (ps.take m) ++ (frm p).set (k - st ps m) z := by
    rw [e1, List.set_append_right _ _ (by omega), e0]
  refine ⟨?_, ?_⟩
  · rw [e2]
    exact pre_frs ps (fun p h => by have := hp p h; omega) m (by omega) _
  · have e3 : ((frs ps).set k z).drop (st ps m) = (frm p).set (k - st ps m) z := by
      rw [e2]
      exact List.drop_left' rfl
    rw [List.append_nil] at h2
    rw [e3]
    exact h2
theorem full_all {ps : List (List Int)} (hp : ∀ p ∈ ps, p.length ≤ 400) : Full (frs ps) ps (st ps ps.length) := by
  have h := full_cut hp (frs ps).length
  have e1 : st ps ps.length = (frs ps).length := by
    unfold st
    rw [List.take_length]
  obtain ⟨w1, w2⟩ := wh_spec (ps := ps) (n := ((frs ps).length : Int)) (by omega)
  have w3 := (w2 ps.length (Nat.le_refl _)).mp (by omega)
  rw [show wh ps ((frs ps).length : Int) = ps.length by omega, List.take_length, List.take_length] at h
  exact h
theorem list6 {x : List Int} (h : 6 ≤ x.length) : ∃ a b c d e f r, x = a :: b :: c :: d :: e :: f :: r := by
  match x, h with
  | a :: b :: c :: d :: e :: f :: r, _ => exact ⟨a, b, c, d, e, f, r, rfl⟩
theorem pX_take {x p : List Int} (ho : Oct x) (h : pX x = some p) : x.take (6 + p.length) = frm p := by
  have h6 : 6 ≤ x.length := by have := pX_len h; omega
  obtain ⟨a, b, c, d, e, f, r, rfl⟩ := list6 h6
  have ha := ho a (by simp)
  have hb := ho b (by simp)
  have hc := ho c (by simp)
  have hd := ho d (by simp)
  have he := ho e (by simp)
  have hf := ho f (by simp)
  have e6 := pX6 a b c d e f r
  rw [show [a, b, c, d, e, f] ++ r = a :: b :: c :: d :: e :: f :: r from rfl, h] at e6
  split at e6
  · cases e6
  rename_i hn
  have hp := Option.some.inj e6
  have h1 : ¬ (r.take (a + 256 * b).toNat).length < (a + 256 * b).toNat := fun z => hn (.inl z)
  rw [← hp] at h1
  have hpl : p.length = (a + 256 * b).toNat := by
    have : p.length ≤ (a + 256 * b).toNat := by rw [hp, List.length_take]; omega
    omega
  have h2 : ck p = val [c, d, e, f] := by
    rw [hp]
    exact Decidable.byContradiction fun z => hn (.inr z)
  have h3 : val [c, d, e, f] = c + 256 * (d + 256 * (e + 256 * (f + 256 * 0))) := rfl
  rw [frm_eq, h2, h3]
  have h4 : (a :: b :: c :: d :: e :: f :: r).take (6 + p.length) = [a, b, c, d, e, f] ++ r.take p.length := by
    rw [show a :: b :: c :: d :: e :: f :: r = [a, b, c, d, e, f] ++ r from rfl, List.take_append, List.take_of_length_le (by show 6 ≤ _; omega)]
    congr 2
    show 6 + p.length - 6 = _
    omega
  rw [h4, hpl, ← hp]
  congr 1
  congr 1
  · omega
  congr 1
  · omega
  congr 1
  · omega
  congr 1
  · omega
  congr 1
  · omega
  congr 1
  omega
theorem full_take {os : List Int} {ps : List (List Int)} {t : Nat} (ho : Oct os) (h : Full os ps t) : os.take t = frs ps ∧ t = (frs ps).length ∧ t ≤ os.length := by
  have key : ∀ {ps t}, Pre os ps t → os.take t = frs ps := by
    intro ps t h
    induction h with
    | nil => rfl
    | snoc h hp ih =>
      rw [frs_snoc, ← ih, ← pX_take (ho.drop _) hp, Nat.add_assoc, List.take_add]
  have h1 := key h.1
  have h2 := h.1.le
  refine ⟨h1, ?_, h2⟩
  rw [← h1, List.length_take]
  omega
def sp_read_journal (K : PySem.W.Frag) (C : Addr) : Sp := fun vs H Q _ => ∃ (a : Addr) (os : List Int), vs = [.ref a] ∧ SqL K H a (os.map V.int) ∧ Oct os ∧ os.length ≤ 5000 ∧ (∀ ps t, Full os ps t → ps.length < 30 ∧ ∀ p ∈ ps, p.length ≤ 400) ∧
  ∀ H' F t, Same H H' → JO C H' F → Full os F.ps t → F.y = F.L.length → Xk.Fr F.a H → Xk.Fr F.p H → Xk.Fr F.s H → Q (.ref F.a) H'
theorem ok_read_journal (T : Txt K mg) : FnOk P w K mg base CX0 4 T.f_read_journal T.d_read_journal ["octets"] (sp_read_journal K T.C_Journal) := by
  refine T.F_read_journal.ok sc_read_journal (fun vs H Q E h => ?_) (fun cdv A outer s H vs Q E hr h => ?_)
  · obtain ⟨a, os, rfl, _⟩ := h
    rfl
  obtain ⟨a, os, rfl, hS, ho, hl, hb, q⟩ := h
  refine ⟨_, (pss_cons (ps_asg (pe_call (ok_read_frames T) (hr.mono (by decide)) (by rfl) T.g_read_frames T.F_read_frames.kp T.b_read_frames .nil pass0 (pa_cons (pv 0) pa_nil)) (pg_tup rfl (pgs_cons (pg_name (i := 1) sc_read_journal.nd rfl (Or.inl rfl)) (pgs_cons (pg_name (i := 2) sc_read_journal.nd rfl (Or.inl rfl)) pgs_nil))))
      (pss_cons (ps_set (i := 3) sc_read_journal.nd rfl (Or.inl rfl) (pe_make0 T.Mk_Journal (ok_Journal___init__ T) (hr.mono (by decide)) (by rfl) T.g_Journal T.b_Journal___init__ .nil pass0))
      (pss_cons (ps_for PassesOwn.never rfl (pi_list (pv 1)) (pg_name (i := 4) sc_read_journal.nd rfl (Or.inl rfl)) (pss_one (ps_expr (pe_meth (pv 3) T.Cls_Journal T.M_Journal_append (ok_Journal_append T) (hr.mono (by decide)) T.b_Journal_append .nil pass0 (pa_cons (pv 4) pa_nil)))))
      (pss_cons (ps_expr (pe_meth0 (pv 3) T.Cls_Journal T.M_Journal_sync (ok_Journal_sync T) (hr.mono (by decide)) T.b_Journal_sync .nil pass0))
      (pss_one (ps_ret (pv 3))))))), ?_⟩
  wtm_at "x0"
  wtm_at "xs"
  refine ⟨_, os, rfl, hS, ho, hl, fun H1 r l L t ⟨s1, hr, hpl, h1, h2⟩ hF => ?_⟩
  obtain ⟨b1, b2⟩ := hb _ _ hF
  rw [List.length_map] at b1
  have h2a := h2.1
  wtm_at "xs"
  refine Xk.x_rMake fun x dx H2 hx hdx hn s2 hd h3 => ?_
  refine ⟨x, dx, rfl, h3, fun H3 p s hp hs hps b3 h4 h5 h6 => ⟨rfl, ?_⟩⟩
  have s3 : Same H1 H3 := Xk.same_but b3 hx s2
  have h2b : H3 l = some (.lst (L.map fun e => V.ref e.1)) := s3 _ _ h2a
  wtm_at "xs"
  refine Xk.x_forL (fun i σ' H' => ∃ F x4, σ' = [some (.ref a), some (.ref l), some (.int t), some (.ref x), x4] ∧ Same H1 H' ∧ JO T.C_Journal H' F ∧ F.ps = (L.map (·.2)).take i ∧ F.a = x ∧ Xk.Fr F.a H1 ∧ Xk.Fr F.p H1 ∧ Xk.Fr F.s H1) (Xk.sq_of h2b)
    ⟨⟨x, dx, p, s, [], 0⟩, _, rfl, s3, ⟨h4, h5, fun e he => absurd he List.not_mem_nil, h6, Nat.le_refl _, fun e he => absurd he List.not_mem_nil, fun e he => absurd he List.not_mem_nil, Nat.zero_le _⟩, rfl, rfl, hx, ⟨Same.free s2 hp.is⟩, ⟨Same.free s2 hs.is⟩⟩ ?_ ?_ ?_
  · rintro i σ' H' hi ⟨F, x4, rfl, s4, _⟩
    exact Xk.sq_of (s4 _ _ h2a)
  · rintro i v σ' H' hi ⟨F, x4, rfl, s4, jF, eF, rfl, fa, fp, fs⟩
    obtain ⟨e, he, rfl⟩ := Xk.of_map_at hi
    have hil := Xk.at_lt he
    have ji := jF.ins
    have hlen : F.L.length = i := by
      rw [← F.len, eF, List.length_take, List.length_map]
      omega
    have he1 := h2.2 e (List.mem_of_getElem? he)
    wtm_at "xs"
    refine ⟨F, e.1, e.2, rfl, jF, s4 _ _ he1, ne_at fp he1, b2 _ (List.mem_map_of_mem (List.mem_of_getElem? he)), by omega, fun H5 t' ht' x5 j5 => ?_⟩
    wtm_at "xs"
    refine ⟨F.app t' e.2, _, rfl, ex_same fa fp fs s4 x5, j5, ?_, rfl, fa, fp, fs⟩
    rw [En.app_ps, eF, List.take_add_one, show (L.map (·.2))[i]? = some e.2 from Xk.map_at he]
    rfl
  rintro σ' H' ⟨F, x4, rfl, s4, jF, eF, rfl, fa, fp, fs⟩
  rw [List.length_map, ← List.length_map (f := fun e : Addr × List Int => e.2), List.take_length] at eF
  have ji := jF.ins
  wtm_at "xs"
  refine ⟨F, rfl, jF, fun H5 x5 j5 => ?_⟩
  wtm_at "xs"
  exact q H5 { F with y := F.L.length } t (s1.trans (ex_same fa fp fs s4 x5)) j5 (by rw [show ({ F with y := F.L.length } : En).ps = F.ps from rfl, eF]; exact hF) rfl ⟨Same.free s1 fa.is⟩ ⟨Same.free s1 fp.is⟩ ⟨Same.free s1 fs.is⟩
/-- what is told of a journal -/
def told (ps : List (List Int)) : PyData := .list [.list (Xk.dLists ps), .list (Xk.dInts (frs ps)), .int ps.length, .int (st ps ps.length)]
theorem told_cl (ps : List (List Int)) : (told ps).canLay0 = true := by
  simp only [told, PyData.canLay0, PyData.canLayAll0, Xk.canLay_lists, Xk.canLay_ints, Bool.and_self]
theorem told_dp (ps : List (List Int)) : (told ps).depth ≤ 64 := by
  have := Xk.depth_lists ps
  simp only [told, PyData.depth, PyData.depthAll, Xk.depth_ints]
  omega
def sp__law_told (K : PySem.W.Frag) (C : Addr) : Sp := fun vs H Q _ => ∃ E : En, vs = [.ref E.a] ∧ JO C H E ∧ ∀ H' l, Same H H' → Dp K H' (.ref l) (told E.ps) → Q (.ref l) H'
theorem ok__law_told (T : Txt K mg) : FnOk P w K mg base CX0 4 T.f__law_told T.d__law_told ["journal"] (sp__law_told K T.C_Journal) := by
  refine T.F__law_told.ok sc__law_told (fun vs H Q E h => ?_) (fun cdv A outer s H vs Q E hr h => ?_)
  · obtain ⟨E, rfl, _⟩ := h
    rfl
  obtain ⟨E, rfl, j, q⟩ := h
  have ji := j.ins
  refine ⟨_, (pss_one (ps_ret (pe_lst (pa_cons (pe_meth0 (pv 0) T.Cls_Journal T.M_Journal_payloads (ok_Journal_payloads T) (hr.mono (by decide)) T.b_Journal_payloads .nil pass0) (pa_cons (pe_meth0 (pv 0) T.Cls_Journal T.M_Journal_image (ok_Journal_image T) (hr.mono (by decide)) T.b_Journal_image .nil pass0) (pa_cons (pe_prop (pv 0) T.Cls_Journal T.P_Journal_frame_count (ok_Journal_frame_count T) (hr.mono (by decide)) T.b_Journal_frame_count .nil pass0 rfl) (pa_cons (pe_prop (pv 0) T.Cls_Journal T.P_Journal_octet_count (ok_Journal_octet_count T) (hr.mono (by decide)) T.b_Journal_octet_count .nil pass0 rfl) pa_nil))))))), ?_⟩
  wtm_at "x0"
  wtm_at "xs"
  refine ⟨E, rfl, j, fun H1 l L' s1 hl h1 h2 h3 => ?_⟩
  wtm_at "xs"
  refine ⟨E, rfl, j.same s1, fun H2 li s2 hli h4 => ?_⟩
  wtm_at "xs"
  refine ⟨E, rfl, j.same (s1.trans s2), ?_⟩
  wtm_at "xs"
  refine ⟨E, rfl, j.same (s1.trans s2), ?_⟩
  wtm_at "xs"
  intro p3 H3 hp3 s3 h5
  refine q H3 p3 (by wtm_at "sm") ?_
  have hLL : Xk.LL H1 l L' := ⟨h1, fun e he => (h2 e he).1⟩
  rw [← E.len] at h5
  refine .lst (Xk.sq_of h5) (.cons ?_ (.cons (.lst (Xk.sq_of (s3 _ _ h4)) (Xk.dp_ints _)) (.cons (.int _) (.cons (.int _) .nil))))
  rw [← h3]
  exact Xk.dp_LL (Xk.ll_same (s2.trans s3) hLL)
--CUT--
def sp_law (K : PySem.W.Frag) : Sp := fun vs H Q _ => ∃ (a : Addr) (ns : List Int), vs = [.ref a] ∧ SqL K H a (ns.map V.int) ∧ ns.length ≤ 63 ∧ ∀ H', Q (.bl true) H'
theorem ok_law (T : Txt K mg) : FnOk P w K mg base CX0 5 T.f_law T.d_law ["script"] (sp_law K) := by
  refine T.F_law.ok sc_law (fun vs H Q E h => ?_) (fun cdv A outer s H vs Q E hr h => ?_)
  · obtain ⟨a, ns, rfl, _⟩ := h
    rfl
  obtain ⟨a, ns, rfl, hS, hl, q⟩ := h
  refine ⟨_, (pss_cons (ps_asg (pe_call (ok__law_digits T) (hr.mono (by decide)) (by rfl) T.g__law_digits T.F__law_digits.kp T.b__law_digits .nil pass0 (pa_cons (pe_call (ok__law_row T) (hr.mono (by decide)) (by rfl) T.g__law_row T.F__law_row.kp T.b__law_row .nil pass0 (pa_cons (pv 0) (pa_cons (pe_int) pa_nil))) (pa_cons (pe_lst (pa_cons (pe_int) (pa_cons (pe_int) (pa_cons (pe_int) (pa_cons (pe_int) pa_nil))))) pa_nil))) (pg_lst rfl (pgs_cons (pg_name (i := 1) sc_law.nd rfl (Or.inl rfl)) (pgs_cons (pg_name (i := 2) sc_law.nd rfl (Or.inl rfl)) (pgs_cons (pg_name (i := 3) sc_law.nd rfl (Or.inl rfl)) (pgs_cons (pg_name (i := 4) sc_law.nd rfl (Or.inl rfl)) pgs_nil))))))
      (pss_cons (ps_set (i := 5) sc_law.nd rfl (Or.inl rfl) (pe_make0 T.Mk_Journal (ok_Journal___init__ T) (hr.mono (by decide)) (by rfl) T.g_Journal T.b_Journal___init__ .nil pass0))
      (pss_cons (ps_setLc (i := 6) (own := [("k", 7)]) (g := gName 7) (tt := tYes) rfl sc_law.nd rfl rfl (sw_true rfl rfl rfl (by decide +kernel)) (pi_range1 (by rfl) T.m_range (pa_cons (pv 1) pa_nil)) (blkOk_by (N := N_law) (sc := defScope s_law) (own := [("k", 7)]) (by decide +kernel)) (fun _ _ _ _ _ => pg_name (i := 7) sc_law.nd rfl (Or.inl rfl)) (fun _ _ _ _ _ => pts_nil) (fun _ _ _ _ _ => (pe_call (ok__law_payload T) (hr.mono (by decide)) (by rfl) T.g__law_payload T.F__law_payload.kp T.b__law_payload .nil pass0 (pa_cons (pe_call (ok__law_row T) (hr.mono (by decide)) (by rfl) T.g__law_row T.F__law_row.kp T.b__law_row .nil pass0 (pa_cons (pv 0) (pa_cons (pe_op op_add (pe_int) (pv 7)) pa_nil))) pa_nil))))
      (pss_cons (ps_for PassesOwn.never rfl (pi_range1 (by rfl) T.m_range (pa_cons (pv 1) pa_nil)) (pg_name (i := 7) sc_law.nd rfl (Or.inl rfl)) (pss_cons (ps_expr (pe_meth (pv 5) T.Cls_Journal T.M_Journal_append (ok_Journal_append T) (hr.mono (by decide)) T.b_Journal_append .nil pass0 (pa_cons (pe_callTy (Xk.k_list (K := K) (by rfl)) (by rfl) T.m_list (by decide +kernel) (pa_cons (pe_ix (Xk.k_ixL (K := K) (by rfl)) (pv 6) (pv 7) (fun _ _ => rfl)) pa_nil)) pa_nil)))
      (pss_one (ps_if (pt_cmpR op_eq (pv 7) (pv 2) (nomark _)) (pss_one (ps_expr (pe_meth0 (pv 5) T.Cls_Journal T.M_Journal_sync (ok_Journal_sync T) (hr.mono (by decide)) T.b_Journal_sync .nil pass0))) pss_nil))))
      (pss_cons (ps_set (i := 8) sc_law.nd rfl (Or.inl rfl) (pe_prop (pv 5) T.Cls_Journal T.P_Journal_synced_octets (ok_Journal_synced_octets T) (hr.mono (by decide)) T.b_Journal_synced_octets .nil pass0 rfl))
      (pss_cons (ps_set (i := 9) sc_law.nd rfl (Or.inl rfl) (pe_meth0 (pv 5) T.Cls_Journal T.M_Journal_image (ok_Journal_image T) (hr.mono (by decide)) T.b_Journal_image .nil pass0))
      (pss_cons (ps_set (i := 10) sc_law.nd rfl (Or.inl rfl) (pe_int))
      (pss_cons (ps_for PassesOwn.never rfl (pi_range1 (by rfl) T.m_range (pa_cons (pe_int) pa_nil)) (pg_name (i := 7) sc_law.nd rfl (Or.inl rfl)) (pss_cons (ps_set (i := 11) sc_law.nd rfl (Or.inl rfl) (pe_meth0 (pv 5) T.Cls_Journal T.M_Journal_fork (ok_Journal_fork T) (hr.mono (by decide)) T.b_Journal_fork .nil pass0))
      (pss_cons (ps_expr (pe_meth (pv 11) T.Cls_Journal T.M_Journal_crash (ok_Journal_crash T) (hr.mono (by decide)) T.b_Journal_crash .nil pass0 (pa_cons (pv 10) pa_nil)))
      (pss_cons (ps_set (i := 12) sc_law.nd rfl (Or.inl rfl) (pe_call (ok_read_journal T) (hr.mono (by decide)) (by rfl) T.g_read_journal T.F_read_journal.kp T.b_read_journal .nil pass0 (pa_cons (pe_slice (Xk.k_slL (K := K) (by rfl)) (pv 9) po_none (po_some (pe_op op_add (pv 8) (pv 10)))) pa_nil)))
      (Evl.pss_cut (ps_if (PW.pt (pw_or (pt_cmpR (Xk.k_neD (K := K) hr.units (by rfl)) (pe_call (ok__law_told T) (hr.mono (by decide)) (by rfl) T.g__law_told T.F__law_told.kp T.b__law_told .nil pass0 (pa_cons (pv 12) pa_nil)) (pe_call (ok__law_told T) (hr.mono (by decide)) (by rfl) T.g__law_told T.F__law_told.kp T.b__law_told .nil pass0 (pa_cons (pv 11) pa_nil)) (nomark _)) (pw_or1 (pt_cmpR op_ne (pe_prop (pv 12) T.Cls_Journal T.P_Journal_synced_frames (ok_Journal_synced_frames T) (hr.mono (by decide)) T.b_Journal_synced_frames .nil pass0 rfl) (pe_prop (pv 12) T.Cls_Journal T.P_Journal_frame_count (ok_Journal_frame_count T) (hr.mono (by decide)) T.b_Journal_frame_count .nil pass0 rfl) (nomark _))))) (pss_one (ps_ret (pe_bl))) pss_nil)
      (Evl.pss_cut (ps_if (PW.pt (pw_or (pt_cmpR op_ne (pe_prop (pv 12) T.Cls_Journal T.P_Journal_synced_octets (ok_Journal_synced_octets T) (hr.mono (by decide)) T.b_Journal_synced_octets .nil pass0 rfl) (pe_prop (pv 12) T.Cls_Journal T.P_Journal_octet_count (ok_Journal_octet_count T) (hr.mono (by decide)) T.b_Journal_octet_count .nil pass0 rfl) (nomark _)) (pw_or1 (pt_cmpR op_ne (pe_prop (pv 11) T.Cls_Journal T.P_Journal_synced_octets (ok_Journal_synced_octets T) (hr.mono (by decide)) T.b_Journal_synced_octets .nil pass0 rfl) (pe_prop (pv 11) T.Cls_Journal T.P_Journal_octet_count (ok_Journal_octet_count T) (hr.mono (by decide)) T.b_Journal_octet_count .nil pass0 rfl) (nomark _))))) (pss_one (ps_ret (pe_bl))) pss_nil)
      (pss_one (ps_set (i := 10) sc_law.nd rfl (Or.inl rfl) (pe_op op_add (pe_op op_add (pv 10) (pe_int)) (pv 3))))))))))
      (Evl.pss_cut (ps_if (PW.pt (pw_and (pt_cmpR op_gt (pv 1) (pe_int) (nomark _)) (pw_and1 (pt_cmpR op_gt (pe_callB (Xk.k_len (K := K) (by rfl)) (by rfl) T.m_len PySem.boot_len (pa_cons (pe_ix (Xk.k_ixL (K := K) (by rfl)) (pv 6) (pe_un un_neg (pe_int)) (fun _ _ => rfl)) pa_nil)) (pe_int) (nomark _))))) (pss_cons (ps_set (i := 13) sc_law.nd rfl (Or.inl rfl) (pe_op op_sub (pe_op op_sub (pe_callB (Xk.k_len (K := K) (by rfl)) (by rfl) T.m_len PySem.boot_len (pa_cons (pv 9) pa_nil)) (pe_int)) (pe_op op_mod (pv 4) (pe_callB (Xk.k_len (K := K) (by rfl)) (by rfl) T.m_len PySem.boot_len (pa_cons (pe_ix (Xk.k_ixL (K := K) (by rfl)) (pv 6) (pe_un un_neg (pe_int)) (fun _ _ => rfl)) pa_nil)))))
      (pss_cons (ps_asg (pe_op op_sub (pe_int) (pe_ix (Xk.k_ixL (K := K) (by rfl)) (pv 9) (pv 13) (fun _ _ => rfl))) (pg_sub (pv 9) (pv 13) set_list))
      (pss_one (ps_if (pt_cmpR (Xk.k_neD (K := K) hr.units (by rfl)) (pe_meth0 (pe_call (ok_read_journal T) (hr.mono (by decide)) (by rfl) T.g_read_journal T.F_read_journal.kp T.b_read_journal .nil pass0 (pa_cons (pv 9) pa_nil)) T.Cls_Journal T.M_Journal_payloads (ok_Journal_payloads T) (hr.mono (by decide)) T.b_Journal_payloads .nil pass0) (pe_slice (Xk.k_slL (K := K) (by rfl)) (pv 6) po_none (po_some (pe_un un_neg (pe_int)))) (nomark _)) (pss_one (ps_ret (pe_bl))) pss_nil)))) pss_nil)
      (pss_cons (ps_set (i := 14) sc_law.nd rfl (Or.inl rfl) (pe_lst pa_nil))
      (pss_cons (ps_for PassesOwn.never rfl (pi_range1 (by rfl) T.m_range (pa_cons (pe_op op_mod (pe_callTy Xk.call_nInt (by rfl) T.m_int (by decide +kernel) (pa_cons (pe_call (ok__law_row T) (hr.mono (by decide)) (by rfl) T.g__law_row T.F__law_row.kp T.b__law_row .nil pass0 (pa_cons (pv 0) (pa_cons (pe_int) pa_nil))) pa_nil)) (pe_int)) pa_nil)) (pg_name (i := 7) sc_law.nd rfl (Or.inl rfl)) (pss_one (ps_expr (pe_bm PySem.F.plainAttrs_list PySem.F.slot_list_append PySem.F.type_list_append mt_append (pv 14) (pa_cons (pe_op op_mod (pe_op op_fdiv (pe_callTy Xk.call_nInt (by rfl) T.m_int (by decide +kernel) (pa_cons (pe_call (ok__law_row T) (hr.mono (by decide)) (by rfl) T.g__law_row T.F__law_row.kp T.b__law_row .nil pass0 (pa_cons (pv 0) (pa_cons (pe_int) pa_nil))) pa_nil)) (pe_op op_add (pv 7) (pe_int))) (pe_int)) pa_nil)))))
      (pss_cons (ps_set (i := 15) sc_law.nd rfl (Or.inl rfl) (pe_callTy (Xk.k_list (K := K) (by rfl)) (by rfl) T.m_list (by decide +kernel) (pa_cons (pv 14) pa_nil)))
      (pss_cons (ps_set (i := 12) sc_law.nd rfl (Or.inl rfl) (pe_call (ok_read_journal T) (hr.mono (by decide)) (by rfl) T.g_read_journal T.F_read_journal.kp T.b_read_journal .nil pass0 (pa_cons (pv 15) pa_nil)))
      (Evl.pss_cut (ps_if (PW.pt (pw_or (pt_cmpR (Xk.k_neD (K := K) hr.units (by rfl)) (pv 15) (pv 14) (nomark _)) (pw_or1 (pt_cmpR (Xk.k_neD (K := K) hr.units (by rfl)) (pe_meth0 (pv 12) T.Cls_Journal T.M_Journal_image (ok_Journal_image T) (hr.mono (by decide)) T.b_Journal_image .nil pass0) (pe_slice (Xk.k_slL (K := K) (by rfl)) (pv 14) po_none (po_some (pe_prop (pv 12) T.Cls_Journal T.P_Journal_octet_count (ok_Journal_octet_count T) (hr.mono (by decide)) T.b_Journal_octet_count .nil pass0 rfl))) (nomark _))))) (pss_one (ps_ret (pe_bl))) pss_nil)
      (pss_cons (ps_expr (pe_meth (pv 12) T.Cls_Journal T.M_Journal_append (ok_Journal_append T) (hr.mono (by decide)) T.b_Journal_append .nil pass0 (pa_cons (pe_lst (pa_cons (pe_op op_mod (pv 4) (pe_int)) pa_nil)) pa_nil)))
      (pss_cons (ps_set (i := 16) sc_law.nd rfl (Or.inl rfl) (pe_call (ok_read_journal T) (hr.mono (by decide)) (by rfl) T.g_read_journal T.F_read_journal.kp T.b_read_journal .nil pass0 (pa_cons (pe_meth0 (pv 12) T.Cls_Journal T.M_Journal_image (ok_Journal_image T) (hr.mono (by decide)) T.b_Journal_image .nil pass0) pa_nil)))
      (pss_one (ps_ret ((pe_and (pe_cmpR (Xk.k_eqD (K := K) hr.units (by rfl)) (pe_meth0 (pv 16) T.Cls_Journal T.M_Journal_payloads (ok_Journal_payloads T) (hr.mono (by decide)) T.b_Journal_payloads .nil pass0) (pe_meth0 (pv 12) T.Cls_Journal T.M_Journal_payloads (ok_Journal_payloads T) (hr.mono (by decide)) T.b_Journal_payloads .nil pass0) (nomark _)) (pe_one (pe_cmpR op_eq (pe_prop (pv 16) T.Cls_Journal T.P_Journal_synced_frames (ok_Journal_synced_frames T) (hr.mono (by decide)) T.b_Journal_synced_frames .nil pass0 rfl) (pe_op op_add (pe_prop (pv 12) T.Cls_Journal T.P_Journal_synced_frames (ok_Journal_synced_frames T) (hr.mono (by decide)) T.b_Journal_synced_frames .nil pass0 rfl) (pe_int)) (nomark _))))))))))))))))))))))), ?_⟩
  wtm_at "x0"
  wtm_at "xs"
  refine ⟨_, _, ns, rfl, by wtm_at "sq", hl, by omega, by omega, fun n hn => ?_⟩
  wtm_at "xs"
  intro p1 H1 hp1 s1 h1
  wtm_at "xs"
  refine ⟨_, _, [10, 10, 30, 300], rfl, by wtm_at "sq", by decide, by decide, fun p2 H2 ds hp2 s2 h2 hd hw => ?_⟩
  obtain ⟨many, safe, step, place, rfl⟩ : ∃ a b c d, ds = [a, b, c, d] := by
    match ds, hd with
    | [a, b, c, d], _ => exact ⟨a, b, c, d, rfl⟩
  have d0 := hw 0 _ _ rfl rfl
  have d1 := hw 1 _ _ rfl rfl
  have d2 := hw 2 _ _ rfl rfl
  have d3 := hw 3 _ _ rfl rfl
  replace h2 : H2 p2 = some (.lst [.int many, .int safe, .int step, .int place]) := h2
  have s02 : Same H H2 := s1.trans s2
  obtain ⟨mn, rfl⟩ := nat_of d0.1
  obtain ⟨sn, rfl⟩ := nat_of d2.1
  clear h1 hp1 hp2 hd hw s1 hn
  wtm_at "xs"
  refine Xk.x_rMake fun x dx H3 hx hdx hn s3 hd h3 => ?_
  refine ⟨x, dx, rfl, h3, fun H4 p s hp hs hps b4 h4 h5 h6 => ⟨rfl, ?_⟩⟩
  have s4 : Same H2 H4 := Xk.same_but b4 hx s3
  have jE : JO T.C_Journal H4 ⟨x, dx, p, s, [], 0⟩ := ⟨h4, h5, fun e he => absurd he List.not_mem_nil, h6, Nat.le_refl _, fun e he => absurd he List.not_mem_nil, fun e he => absurd he List.not_mem_nil, Nat.zero_le _⟩
  have hx2 : Xk.Fr x H2 := hx
  have fp : Xk.Fr p H2 := ⟨Same.free s3 hp.is⟩
  have fs : Xk.Fr s H2 := ⟨Same.free s3 hs.is⟩
  clear h3 h4 h5 h6 hp hs b4 hd hdx hn s3
  wtm_at "xs"
  refine Xk.x_lcR (fun Dl i H' => Same H4 H' ∧ ∃ L : List (Addr × List Int), H' Dl = some (.lst (L.map fun e => V.ref e.1)) ∧ L.length = i ∧ (∀ e ∈ L, H' e.1 = some (.lst (e.2.map V.int)) ∧ e.1 ≠ Dl ∧ Xk.Fr e.1 H4 ∧ Oct e.2 ∧ e.2.length ≤ 360)) ⟨by omega, by omega⟩ ?_ ?_ ?_
  · intro Dl hD
    exact ⟨Xk.same_fr hD, [], upd_same, rfl, fun e he => absurd he List.not_mem_nil⟩
  · rintro Dl hD i H' hi ⟨s5, L, h5, hL, h6⟩
    wtm_at "xs"
    refine ⟨rfl, ?_⟩
    wtm_at "xs"
    refine ⟨_, _, ns, rfl, by wtm_at "sq", hl, by omega, by omega, fun n2 hn2 => ?_⟩
    wtm_at "xs"
    refine ⟨_, rfl, fun pp H6 os hpp s6 h7 hos hol => ?_⟩
    have nD : Dl ≠ pp := ne_at hpp h5
    refine ⟨_, s6 _ _ h5, Xk.size_lt (by rw [List.length_map]; omega), by wtm_at "sm", L ++ [(pp, os)], by rw [upd_same, List.map_append]; rfl, by rw [List.length_append, hL]; rfl, fun e he => ?_⟩
    rcases List.mem_append.mp he with he | he
    · obtain ⟨g1, g2, g3, g4⟩ := h6 e he
      exact ⟨(upd_ne g2).trans (s6 _ _ g1), g2, g3, g4⟩
    · rw [List.mem_singleton.mp he]
      exact ⟨(upd_ne nD.symm).trans h7, nD.symm, by wtm_at "free", hos, hol⟩
  rintro pl H5 hpl ⟨s5, L, hL1, hLn, hL2⟩
  rw [Int.toNat_natCast] at hLn
  wtm_at "xs"
  have nl : pl ≠ x ∧ pl ≠ p ∧ pl ≠ s := ⟨(ne_at hpl jE.ins).symm, (ne_at hpl jE.pl).symm, (ne_at hpl jE.sz).symm⟩
  have ne : ∀ e ∈ L, e.1 ≠ x ∧ e.1 ≠ p ∧ e.1 ≠ s := fun e he => ⟨(ne_at (hL2 e he).2.2.1 jE.ins).symm, (ne_at (hL2 e he).2.2.1 jE.pl).symm, (ne_at (hL2 e he).2.2.1 jE.sz).symm⟩
  refine Xk.x_range (fun i σ' H' => ∃ F x7, σ' = [some (.ref a), some (.int mn), some (.int safe), some (.int sn), some (.int place), some (.ref x), some (.ref pl), x7, none, none, none, none, none, none, none, none, none] ∧ Same H2 H' ∧ JO T.C_Journal H' F ∧ F.ps = (L.map (·.2)).take i ∧ F.a = x ∧ F.p = p ∧ F.s = s ∧ H' pl = some (.lst (L.map fun e => V.ref e.1)) ∧ (∀ e ∈ L, H' e.1 = some (.lst (e.2.map V.int)))) ⟨by omega, by omega⟩ ⟨⟨x, dx, p, s, [], 0⟩, _, rfl, s4.trans s5, jE.same s5, rfl, rfl, rfl, rfl, hL1, fun e he => (hL2 e he).1⟩ ?_ ?_
  · rintro i σ' H6 hi ⟨F, x7, rfl, s6, jF, eF, ea, ep, es, h6, h7⟩
    obtain ⟨e, he⟩ := Xk.lt_at (xs := L) (j := i) (by omega)
    have heL := List.mem_of_getElem? he
    have he6 := h7 e heL
    have ji := jF.ins
    rw [ea] at ji
    have hFl : F.L.length = i := by
      rw [← F.len, eF, List.length_take, List.length_map]
      omega
    wtm_at "xs"
    intro t0 H7 ht0 s7 h8
    have ji7 := s7 _ _ ji
    wtm_at "xs"
    refine ⟨F, t0, e.2, by rw [ea], jF.same s7, h8, (ne_at ht0 jF.pl).symm, by have := (hL2 e heL).2.2.2.2; omega, by omega, fun H8 t ht x8 j8 => ?_⟩
    have k8 : ∀ b o, b ≠ x → b ≠ p → b ≠ s → H6 b = some o → H8 b = some o := fun b o n1 n2 n3 h => x8 b o (by rw [ea]; exact n1) (by rw [ep]; exact n2) (by rw [es]; exact n3) (s7 _ _ h)
    have s8 : Same H2 H8 := fun b o h => k8 b o (ne_at hx2 h) (ne_at fp h) (ne_at fs h) (s6 _ _ h)
    have e8 : (F.app t e.2).ps = (L.map (·.2)).take (i + 1) := by
      rw [En.app_ps, eF, List.take_add_one, show (L.map (·.2))[i]? = some e.2 from Xk.map_at he]
      rfl
    have ji8 := j8.ins
    rw [show (F.app t e.2).a = x from ea] at ji8
    wtm_at "xs"
    refine Xk.x_itd (fun hc => ?_) (fun hc => ?_)
    · wtm_at "xs"
      refine ⟨F.app t e.2, by rw [show (F.app t e.2).a = x from ea], j8, fun H9 x9 j9 => ?_⟩
      wtm_at "xs"
      have k9 : ∀ b o, b ≠ x → b ≠ p → b ≠ s → H8 b = some o → H9 b = some o := fun b o n1 n2 n3 h => x9 b o (by rw [show (F.app t e.2).a = x from ea]; exact n1) (by rw [show (F.app t e.2).p = p from ep]; exact n2) (by rw [show (F.app t e.2).s = s from es]; exact n3) h
      exact ⟨{ F.app t e.2 with y := (F.app t e.2).L.length }, _, rfl, fun b o h => k9 b o (ne_at hx2 h) (ne_at fp h) (ne_at fs h) (s8 _ _ h), j9, e8, ea, ep, es, k9 _ _ nl.1 nl.2.1 nl.2.2 (k8 _ _ nl.1 nl.2.1 nl.2.2 h6), fun y hy => k9 _ _ (ne y hy).1 (ne y hy).2.1 (ne y hy).2.2 (k8 _ _ (ne y hy).1 (ne y hy).2.1 (ne y hy).2.2 (h7 y hy))⟩
    · wtm_at "xs"
      exact ⟨F.app t e.2, _, rfl, s8, j8, e8, ea, ep, es, k8 _ _ nl.1 nl.2.1 nl.2.2 h6, fun y hy => k8 _ _ (ne y hy).1 (ne y hy).2.1 (ne y hy).2.2 (h7 y hy)⟩
  rintro σ' H6 ⟨F, x7, rfl, s6, jF, eF, ea, ep, es, h6, h7⟩
  subst ea ep es
  rw [Int.toNat_natCast, ← hLn, ← List.length_map (f := fun e : Addr × List Int => e.2), List.take_length] at eF
  have ji := jF.ins
  wtm_at "xs"
  refine ⟨F, rfl, jF, ?_⟩
  wtm_at "xs"
  refine ⟨F, rfl, jF, fun H7 li s7 hli h8 => ?_⟩
  wtm_at "xs"
  have hFn : F.ps.length = mn := by rw [eF, List.length_map, hLn]
  have hF4 : ∀ p ∈ F.ps, p.length ≤ 400 := En.sh jF
  have hFo : Oct (frs F.ps) := frs_oct fun p hp => by
    rw [eF] at hp
    obtain ⟨e, he, rfl⟩ := List.mem_map.mp hp
    exact (hL2 e he).2.2.2.1
  have hFl := frs_len hF4
  have hFy : F.y ≤ F.L.length := jF.hy
  have j7 := jF.same s7
  clear nl ne hpl hL1 s4 s5 jE
  refine Xk.x_range (fun k σ' H' => ∃ c : Nat, ∃ x7 x11 x12, σ' = [some (.ref a), some (.int mn), some (.int safe), some (.int sn), some (.int place), some (.ref F.a), some (.ref pl), x7, some (.int (st F.ps F.y)), some (.ref li), some (.int c), x11, x12, none, none, none, none] ∧ Same H7 H') ⟨by omega, by omega⟩ ⟨0, _, _, _, rfl, Same.refl _⟩ ?_ ?_
  · rintro k σ' H8 hk ⟨c, x7', x11, x12, rfl, s8⟩
    have j8 := j7.same s8
    have ji8 := j8.ins
    wtm_at "xs"
    refine ⟨F, rfl, j8, fun H9 G s9 jG ep ey ga gp gs gL => ?_⟩
    have jgi := jG.ins
    wtm_at "xs"
    refine ⟨G, c, rfl, jG, by omega, fun H10 x10 j10 => ?_⟩
    have s10 : Same H7 H10 := ex_same ⟨Same.free s8 ga.is⟩ ⟨Same.free s8 gp.is⟩ ⟨Same.free s8 gs.is⟩ (s8.trans s9) x10
    obtain ⟨G', hG'⟩ : ∃ G' : En, G' = { G with L := G.L.take (wh G.ps (st G.ps G.y + c)), y := wh G.ps (st G.ps G.y + c) } := ⟨_, rfl⟩
    rw [← hG'] at j10
    have hwc : (st G.ps G.y : Int) + (c : Int) = ((st F.ps F.y + c : Nat) : Int) := by rw [ep, ey]; rfl
    rw [hwc] at hG'
    have eG : G'.ps = F.ps.take (wh F.ps ((st F.ps F.y + c : Nat) : Int)) := by
      rw [hG', ← ep]
      show (G.L.take _).map (·.2) = _
      rw [List.map_take]
      rfl
    have eGa : G'.a = G.a := by rw [hG']
    have yG : G'.y = G'.L.length := by
      have h1 := (wh_spec (ps := G.ps) (n := ((st F.ps F.y + c : Nat) : Int)) (by omega)).1
      rw [hG']
      show wh G.ps _ = (G.L.take _).length
      rw [List.length_take, ← G.len]
      omega
    have l10 : H10 li = some (.lst ((frs F.ps).map V.int)) := s10 _ _ h8
    wtm_at "xs"
    intro p11 H11 hp11 s11 h11
    rw [← Int.natCast_add, cut_toV, ← List.map_take] at h11
    wtm_at "xs"
    have hcut := full_cut hF4 (st F.ps F.y + c)
    refine ⟨p11, (frs F.ps).take (st F.ps F.y + c), rfl, Xk.sq_of h11, hFo.take _, by rw [List.length_take]; omega, fun qs u hq => ?_, fun H12 D t s12 jD hD dy da dp ds => ?_⟩
    · rw [(hq.same hcut).1]
      exact ⟨by rw [List.length_take]; omega, fun p hp => hF4 p (List.mem_of_mem_take hp)⟩
    have eD : D.ps = G'.ps := by rw [eG]; exact (hD.same hcut).1
    have jG12 := j10.same (s11.trans s12)
    have s712 : Same H7 H12 := s10.trans (s11.trans s12)
    wtm_at "xs"
    rw [← eGa]
    refine Xk.x_cut (fun σ' H' => σ' = [some (.ref a), some (.int mn), some (.int safe), some (.int sn), some (.int place), some (.ref F.a), some (.ref pl), some (.int k), some (.int (st F.ps F.y)), some (.ref li), some (.int c), some (.ref G'.a), some (.ref D.a), none, none, none, none] ∧ Same H12 H') ?_ ?_
    · wtm_at "xs"
      refine ⟨D, rfl, jD, fun H13 l13 s13 d13 => ?_⟩
      wtm_at "xs"
      refine ⟨G', rfl, jG12.same s13, fun H14 l14 s14 d14 => ?_⟩
      rw [eD] at d13
      have jD14 := jD.same (s13.trans s14)
      have iD14 := jD14.ins
      refine Xk.x_neSame (Xk.dp_same s14 _ _ d13) d14 (told_cl _) (told_dp _) ?_
      wtm_at "xs"
      refine ⟨D, rfl, jD14, ?_⟩
      wtm_at "xs"
      refine ⟨D, rfl, jD14, ?_⟩
      rw [dy]
      wtm_at "xs"
      exact ⟨rfl, s13.trans s14⟩
    rintro σ' H13 ⟨rfl, s13⟩
    have jD13 := jD.same s13
    have iD13 := jD13.ins
    have jG13 := jG12.same s13
    have iG13 := jG13.ins
    refine Xk.x_cut (fun σ' H' => σ' = [some (.ref a), some (.int mn), some (.int safe), some (.int sn), some (.int place), some (.ref F.a), some (.ref pl), some (.int k), some (.int (st F.ps F.y)), some (.ref li), some (.int c), some (.ref G'.a), some (.ref D.a), none, none, none, none] ∧ H13 = H') ?_ ?_
    · wtm_at "xs"
      refine ⟨D, rfl, jD13, ?_⟩
      wtm_at "xs"
      refine ⟨D, rfl, jD13, ?_⟩
      rw [dy]
      wtm_at "xs"
      refine ⟨G', rfl, jG13, ?_⟩
      wtm_at "xs"
      refine ⟨G', rfl, jG13, ?_⟩
      rw [yG]
      wtm_at "xs"
      exact ⟨rfl, rfl⟩
    rintro σ' H14 ⟨rfl, rfl⟩
    wtm_at "xs"
    exact ⟨c + 1 + sn, _, _, _, rfl, s712.trans s13⟩
  rintro σ' H8 ⟨c, x7', x11, x12, rfl, s8⟩
  have s28 : Same H2 H8 := s6.trans (s7.trans s8)
  refine Xk.x_cut (fun σ' H' => ∃ x13, σ' = [some (.ref a), some (.int mn), some (.int safe), some (.int sn), some (.int place), some (.ref F.a), some (.ref pl), x7', some (.int (st F.ps F.y)), some (.ref li), some (.int c), x11, x12, x13, none, none, none] ∧ Same H2 H') ?_ ?_
  · wtm_at "xs"
    refine Xk.x_itd (fun hc1 => ?_) (fun hc1 => ?_)
    · wtm_at "xs"
      obtain ⟨e, he⟩ := Xk.lt_at (xs := L) (j := mn - 1) (by omega)
      have k6 : H8 pl = some (.lst (L.map fun e => V.ref e.1)) := s8 _ _ (s7 _ _ h6)
      have k7 : H8 e.1 = some (.lst (e.2.map V.int)) := s8 _ _ (s7 _ _ (h7 e (List.mem_of_getElem? he)))
      have l8 : H8 li = some (.lst ((frs F.ps).map V.int)) := s8 _ _ h8
      have hpe : F.ps[mn - 1]? = some e.2 := by rw [eF]; exact Xk.map_at he
      have hst := st_succ hpe
      refine Xk.x_ixL (Xk.sq_of k6) (Xk.at_neg (by omega) (j := mn - 1) (by rw [List.length_map]; omega) (Xk.map_at he)) ?_
      wtm_at "xs"
      rw [List.length_map]
      refine Xk.x_itd (fun hc2 => ?_) (fun hc2 => ?_)
      · wtm_at "xs"
        refine Xk.x_ixL (Xk.sq_of k6) (Xk.at_neg (by omega) (j := mn - 1) (by rw [List.length_map]; omega) (Xk.map_at he)) ?_
        wtm_at "xs"
        rw [List.length_map, List.length_map]
        have hfr : (frs F.ps).length = st F.ps (mn - 1) + (6 + e.2.length) := by
          rw [← hst, show mn - 1 + 1 = F.ps.length by omega]
          unfold st
          rw [List.take_length]
        obtain ⟨pd, hpd⟩ := nat_of (Int.emod_nonneg place (show (e.2.length : Int) ≠ 0 by omega))
        have hpd2 := Int.emod_lt_of_pos place (show (0 : Int) < (e.2.length : Int) by omega)
        refine Xk.x_I (by omega) ?_
        rw [hpd] at hpd2 ⊢
        obtain ⟨o, ho⟩ := Xk.lt_at (xs := frs F.ps) (j := (frs F.ps).length - 1 - pd) (by omega)
        have ho2 := hFo o (List.mem_of_getElem? ho)
        wtm_at "xs"
        refine Xk.x_ixL (Xk.sq_of l8) (Xk.at_nat (j := (frs F.ps).length - 1 - pd) (by omega) (Xk.map_at ho)) ?_
        wtm_at "xs"
        refine Xk.x_setL l8 (Xk.ixN_of (j := (frs F.ps).length - 1 - pd) (by omega) (by rw [List.length_map]; omega)) ?_
        rw [← List.map_set (f := V.int)]
        have hF9 : F.ps.length = (mn - 1) + 1 := by omega
        have heo := (hL2 e (List.mem_of_getElem? he)).2.2.2.1
        have hfs := full_set (z := 255 - o) hF4 heo hF9 hpe (by omega) ho (by omega) (by omega)
        have hos : Oct ((frs F.ps).set ((frs F.ps).length - 1 - pd) (255 - o)) := fun q hq => by
          rcases List.mem_or_eq_of_mem_set hq with h | h
          · exact hFo q h
          · omega
        have fli : Xk.Fr li H2 := ⟨Same.free s6 hli.is⟩
        have npl : pl ≠ li := ne_at hli h6
        have s29 := Xk.same_mut (o := HO.lst (((frs F.ps).set ((frs F.ps).length - 1 - pd) (255 - o)).map V.int)) s28 fli
        have k69 := (upd_ne (o := HO.lst (((frs F.ps).set ((frs F.ps).length - 1 - pd) (255 - o)).map V.int)) npl).trans k6
        have k79 : ∀ x ∈ L, upd H8 li (HO.lst (((frs F.ps).set ((frs F.ps).length - 1 - pd) (255 - o)).map V.int)) x.1 = some (.lst (x.2.map V.int)) := fun x hx => (upd_ne (ne_at hli (h7 x hx))).trans (s8 _ _ (s7 _ _ (h7 x hx)))
        have l9 : upd H8 li (HO.lst (((frs F.ps).set ((frs F.ps).length - 1 - pd) (255 - o)).map V.int)) li = _ := upd_same
        generalize upd H8 li (HO.lst (((frs F.ps).set ((frs F.ps).length - 1 - pd) (255 - o)).map V.int)) = H9 at *
        wtm_at "xs"
        refine ⟨li, _, rfl, Xk.sq_of l9, hos, by rw [List.length_set]; omega, fun qs u hq => ?_, fun H10 D t s10 jD hD dy da dp ds => ?_⟩
        · rw [(hq.same hfs).1]
          exact ⟨by rw [List.length_take]; omega, fun p hp => hF4 p (List.mem_of_mem_take hp)⟩
        have eD := (hD.same hfs).1
        have jDi := jD.ins
        wtm_at "xs"
        refine ⟨D, rfl, jD, fun H11 l11 L11 s11 hl11 h11 h11b h11c => ?_⟩
        wtm_at "xs"
        intro p12 H12 hp12 s12 h12
        rw [cut_last _ (by rw [List.length_map]; omega), List.length_map, ← List.map_take] at h12
        have dp1 := Xk.dp_same s12 _ _ (Xk.dp_LL (K := K) (H := H11) (a := l11) (L := L11) ⟨h11, fun e he => (h11b e he).1⟩)
        have dp2 := Xk.dp_LL (K := K) (H := H12) (a := p12) (L := L.take (L.length - 1)) ⟨h12, fun x hx => s12 _ _ (s11 _ _ (s10 _ _ (k79 x (List.mem_of_mem_take hx))))⟩
        rw [h11c, eD, eF, ← List.map_take, ← hLn] at dp1
        refine Xk.x_neSame dp1 dp2 (ll_cl _) (ll_dpt _) ?_
        wtm_at "xs"
        exact ⟨_, rfl, s29.trans (s10.trans (s11.trans s12))⟩
      · wtm_at "xs"
        exact ⟨_, rfl, s28⟩
    · wtm_at "xs"
      exact ⟨_, rfl, s28⟩
  clear s8 s28 h8 hli jF h6 h7 s6 s7 j7 ji
  rintro σ' H9 ⟨x13, rfl, s9⟩
  wtm_at "xs"
  intro po H10 hpo s10 h10
  have fpo : Xk.Fr po H2 := ⟨Same.free s9 hpo.is⟩
  wtm_at "xs"
  refine ⟨_, _, ns, rfl, by wtm_at "sq", hl, by omega, by omega, fun n3 hn3 => ?_⟩
  wtm_at "xs"
  refine Xk.x_range (fun i σ' H' => ∃ x7, ∃ os : List Int, σ' = [some (.ref a), some (.int mn), some (.int safe), some (.int sn), some (.int place), some (.ref F.a), some (.ref pl), x7, some (.int (st F.ps F.y)), some (.ref li), some (.int c), x11, x12, x13, some (.ref po), none, none] ∧ Same H2 H' ∧ H' po = some (.lst (os.map V.int)) ∧ os.length = i ∧ Oct os) ⟨by omega, by omega⟩ ⟨_, [], rfl, s9.trans s10, h10, rfl, fun o h => absurd h List.not_mem_nil⟩ ?_ ?_
  · rintro i σ' H11 hi ⟨x7, os, rfl, s11, h11, hos, hoc⟩
    wtm_at "xs"
    refine ⟨_, _, ns, rfl, by wtm_at "sq", hl, by omega, by omega, fun n4 hn4 => ?_⟩
    wtm_at "xs"
    refine ⟨_, os ++ [n4 / ((i : Int) + 1) % 256], rfl, Xk.same_mut s11 fpo, by rw [upd_same, List.map_append]; rfl, by rw [List.length_append, hos]; rfl, Xk.mem_snoc hoc (by omega)⟩
  rintro σ' H11 ⟨x7, os, rfl, s11, h11, hos, hoc⟩
  have hol : os.length ≤ 20 := by omega
  clear hos
  wtm_at "xs"
  intro pq H12 hpq s12 h12
  wtm_at "xs"
  refine ⟨pq, os, rfl, Xk.sq_of h12, hoc, by omega, fun qs u hq => ?_, fun H13 D t s13 jD hD dy da dp ds => ?_⟩
  · have c1 := hq.1.count
    have c2 := hq.1.le
    exact ⟨by omega, fun p hp => by have := hq.1.mem p hp; omega⟩
  obtain ⟨f1, f2, f3⟩ := full_take hoc hD
  have c1 := hD.1.count
  have c3 := D.len
  have jDi := jD.ins
  have h13 : H13 pq = some (.lst (os.map V.int)) := s13 _ _ h12
  have h13o : H13 po = some (.lst (os.map V.int)) := s13 _ _ (s12 _ _ h11)
  have eSt : st D.ps D.L.length = t := by
    unfold st
    rw [← c3, List.take_length, f2]
  wtm_at "xs"
  refine Xk.x_cut (fun σ' H' => σ' = [some (.ref a), some (.int mn), some (.int safe), some (.int sn), some (.int place), some (.ref F.a), some (.ref pl), x7, some (.int (st F.ps F.y)), some (.ref li), some (.int c), x11, some (.ref D.a), x13, some (.ref po), some (.ref pq), none] ∧ Same H13 H') ?_ ?_
  · wtm_at "xs"
    refine Xk.x_neInts (ns := os) (ms := os) (Xk.sq_of h13) (Xk.sq_of h13o) ?_
    rw [decide_eq_true rfl]
    wtm_at "xs"
    refine ⟨D, rfl, jD, fun H14 l2 s14 hl2 h14 => ?_⟩
    have jD14 := (jD.same s14).ins
    wtm_at "xs"
    refine ⟨D, rfl, jD.same s14, ?_⟩
    wtm_at "xs"
    intro p15 H15 hp15 s15 h15
    rw [cut_toV, ← List.map_take, eSt, f1] at h15
    refine Xk.x_neInts (ns := frs D.ps) (ms := frs D.ps) (Xk.sq_of (s15 _ _ h14)) (Xk.sq_of h15) ?_
    rw [decide_eq_true rfl]
    wtm_at "xs"
    exact ⟨rfl, s14.trans s15⟩
  rintro σ' H14 ⟨rfl, s14⟩
  have jD14 := jD.same s14
  have iD14 := jD14.ins
  wtm_at "xs"
  intro p15 H15 hp15 s15 h15
  have j15 := jD14.same s15
  refine ⟨D, p15, [place % 256], rfl, j15, h15, (ne_at hp15 jD14.pl).symm, by show 1 ≤ 400; decide, by omega, fun H16 t2 ht2 x16 j16 => ?_⟩
  have i16 := j16.ins
  have e16 : (D.app t2 [place % 256]).ps = D.ps ++ [[place % 256]] := En.app_ps _ _ _
  have hsh := En.sh j16
  have iD16 : H16 D.a = _ := i16
  wtm_at "xs"
  refine ⟨D.app t2 [place % 256], rfl, j16, fun H17 l3 s17 hl3 h17 => ?_⟩
  have hoc2 : Oct (frs (D.app t2 [place % 256]).ps) := by
    rw [e16, frs_snoc, ← f1]
    intro o ho
    rcases List.mem_append.mp ho with ho | ho
    · exact hoc.take _ o ho
    · exact frm_oct (fun o ho => by rw [List.mem_singleton.mp ho]; omega) o ho
  have hal := full_all hsh
  have hfl := frs_len hsh
  have hel := (D.app t2 [place % 256]).len
  have hdl : (D.app t2 [place % 256]).L.length = D.L.length + 1 := List.length_append
  wtm_at "xs"
  refine ⟨l3, _, rfl, Xk.sq_of h17, hoc2, by omega, fun qs u hq => ?_, fun H18 D2 t3 s18 jD2 hD2 dy2 da2 dp2 ds2 => ?_⟩
  · rw [(hq.same hal).1]
    exact ⟨by omega, hsh⟩
  have eD2 := (hD2.same hal).1
  have i18 := jD2.ins
  have j18 := (j16.same s17).same s18
  have k18 : H18 D.a = _ := j18.ins
  wtm_at "xs"
  refine ⟨D2, rfl, jD2, fun H19 l4 L4 s19 hl4 h19 h19b h19c => ?_⟩
  have k19 : H19 D.a = _ := (j18.same s19).ins
  wtm_at "xs"
  refine ⟨D.app t2 [place % 256], rfl, j18.same s19, fun H20 l5 L5 s20 hl5 h20 h20b h20c => ?_⟩
  have dp4 := Xk.dp_same s20 _ _ (Xk.dp_LL (K := K) (H := H19) (a := l4) (L := L4) ⟨h19, fun e he => (h19b e he).1⟩)
  have dp5 := Xk.dp_LL (K := K) (H := H20) (a := l5) (L := L5) ⟨h20, fun e he => (h20b e he).1⟩
  rw [h19c, eD2] at dp4
  rw [h20c] at dp5
  refine Xk.x_eqSame dp4 dp5 (ll_cl _) (ll_dpt _) ?_
  have j20 := (j18.same s19).same s20
  have k20 : H20 D.a = _ := j20.ins
  have jD20 := (jD2.same s19).same s20
  have i20 := jD20.ins
  wtm_at "xs"
  refine ⟨D2, rfl, jD20, ?_⟩
  wtm_at "xs"
  refine ⟨D.app t2 [place % 256], rfl, j20, ?_⟩
  wtm_at "xs"
  have hy : D2.y = (D.app t2 [place % 256]).y + 1 := by
    rw [dy2, ← D2.len, eD2, hel, hdl]
    show _ = D.y + 1
    rw [dy]
  rw [hy, decide_eq_true (show V.int (((D.app t2 [place % 256]).y + 1 : Nat) : Int) = V.int (((D.app t2 [place % 256]).y : Int) + 1) from rfl)]
  exact q _
--CUT--
end
theorem all_mk {l : PySem.W.OpenLaw} {w : World} {K : PySem.W.Frag} {h : Heap} {mg : Str → Option Value} {fa C_Journal f_checksum f_frame f_read_frames f__payload_at f__in_octets f__from_octets f_Journal___init__ f_Journal_frame_count p_Journal_frame_count f_Journal_synced_frames p_Journal_synced_frames f_Journal_octet_count p_Journal_octet_count f_Journal_synced_octets p_Journal_synced_octets f_Journal_append f_Journal_sync f_Journal_crash f_Journal_payloads f_Journal_image f_Journal_fork f_read_journal f__law_row f__law_digits f__law_payload f__law_told f_law : Addr} (X : K.In h) (G : h.Ns mainGlobals mg) (hfa : mg "law" = some (.ref fa))
    {od_checksum an_checksum od_frame an_frame od_read_frames an_read_frames od__payload_at an__payload_at od__in_octets an__in_octets od__from_octets an__from_octets od_Journal___init__ an_Journal___init__ od_Journal_frame_count an_Journal_frame_count od_Journal_synced_frames an_Journal_synced_frames od_Journal_octet_count an_Journal_octet_count od_Journal_synced_octets an_Journal_synced_octets od_Journal_append an_Journal_append od_Journal_sync an_Journal_sync od_Journal_crash an_Journal_crash od_Journal_payloads an_Journal_payloads od_Journal_image an_Journal_image od_Journal_fork an_Journal_fork od_read_journal an_read_journal od__law_row an__law_row od__law_digits an__law_digits od__law_payload an__law_payload od__law_told an__law_told od_law an_law : Option Addr} {sl_checksum sl_frame sl_read_frames sl__payload_at sl__in_octets sl__from_octets sl_Journal___init__ sl_Journal_frame_count sl_Journal_synced_frames sl_Journal_octet_count sl_Journal_synced_octets sl_Journal_append sl_Journal_sync sl_Journal_crash sl_Journal_payloads sl_Journal_image sl_Journal_fork sl_read_journal sl__law_row sl__law_digits sl__law_payload sl__law_told sl_law : Array (Option Value)} {oc_checksum kV_checksum dc_checksum pm_checksum cd_checksum ct_checksum oc_frame kV_frame dc_frame pm_frame cd_frame ct_frame oc_read_frames kV_read_frames dc_read_frames pm_read_frames cd_read_frames ct_read_frames oc__payload_at kV__payload_at dc__payload_at pm__payload_at cd__payload_at ct__payload_at oc__in_octets kV__in_octets dc__in_octets pm__in_octets cd__in_octets ct__in_octets oc__from_octets kV__from_octets dc__from_octets pm__from_octets cd__from_octets ct__from_octets oc_Journal___init__ kV_Journal___init__ dc_Journal___init__ pm_Journal___init__ cd_Journal___init__ ct_Journal___init__ oc_Journal_frame_count kV_Journal_frame_count dc_Journal_frame_count pm_Journal_frame_count cd_Journal_frame_count ct_Journal_frame_count oc_Journal_synced_frames kV_Journal_synced_frames dc_Journal_synced_frames pm_Journal_synced_frames cd_Journal_synced_frames ct_Journal_synced_frames oc_Journal_octet_count kV_Journal_octet_count dc_Journal_octet_count pm_Journal_octet_count cd_Journal_octet_count ct_Journal_octet_count oc_Journal_synced_octets kV_Journal_synced_octets dc_Journal_synced_octets pm_Journal_synced_octets cd_Journal_synced_octets ct_Journal_synced_octets oc_Journal_append kV_Journal_append dc_Journal_append pm_Journal_append cd_Journal_append ct_Journal_append oc_Journal_sync kV_Journal_sync dc_Journal_sync pm_Journal_sync cd_Journal_sync ct_Journal_sync oc_Journal_crash kV_Journal_crash dc_Journal_crash pm_Journal_crash cd_Journal_crash ct_Journal_crash oc_Journal_payloads kV_Journal_payloads dc_Journal_payloads pm_Journal_payloads cd_Journal_payloads ct_Journal_payloads oc_Journal_image kV_Journal_image dc_Journal_image pm_Journal_image cd_Journal_image ct_Journal_image oc_Journal_fork kV_Journal_fork dc_Journal_fork pm_Journal_fork cd_Journal_fork ct_Journal_fork oc_read_journal kV_read_journal dc_read_journal pm_read_journal cd_read_journal ct_read_journal oc__law_row kV__law_row dc__law_row pm__law_row cd__law_row ct__law_row oc__law_digits kV__law_digits dc__law_digits pm__law_digits cd__law_digits ct__law_digits oc__law_payload kV__law_payload dc__law_payload pm__law_payload cd__law_payload ct__law_payload oc__law_told kV__law_told dc__law_told pm__law_told cd__law_told ct__law_told oc_law kV_law dc_law pm_law cd_law ct_law : Value} {t_CHECKSUM_OCTETS t_CHECKSUM_PRIME t_FRAME_HEAD t_LENGTH_OCTETS : Tok} {pz_Journal_frame_count pz_Journal_synced_frames pz_Journal_octet_count pz_Journal_synced_octets : List Value}
    (aC_Journal : PySem.W.nsIn K mainGlobals "Journal" = some (some (.ref C_Journal)))
    (pg_Journal : PySem.W.plainGet K C_Journal Str.empty = true)
    (hd_Journal : PySem.W.hasDictIn K C_Journal = true)
    (po_Journal : PySem.W.plainOver K C_Journal = true)
    (sa_Journal : PySem.W.findIn K (.ref C_Journal) "__setattr__" = some (some (.builtin "object.__setattr__")))
    (mk_Journal : PySem.W.makesIn K C_Journal = true)
    (kc_Journal : PySem.W.keepIn K (.ref C_Journal) = true)
    (na_Journal__payloads : PySem.W.findIn K (.ref C_Journal) "_payloads" = some none)
    (na_Journal__sizes : PySem.W.findIn K (.ref C_Journal) "_sizes" = some none)
    (na_Journal__synced : PySem.W.findIn K (.ref C_Journal) "_synced" = some none)
    (a_checksum : PySem.W.nsIn K mainGlobals "checksum" = some (some (.ref f_checksum)))
    (l_checksum : K.lookup f_checksum = some ⟨oc_checksum, od_checksum, .func (PySem.W.fnOf "checksum" "checksum" (defArgs s_checksum) (defBody s_checksum) (defScope s_checksum) .none kV_checksum dc_checksum pm_checksum an_checksum cd_checksum ct_checksum), sl_checksum⟩)
    (c_checksum : PySem.W.codeIn K cd_checksum "checksum" = true)
    (k_checksum : PySem.W.keepIn K (.ref f_checksum) = true)
    (a_frame : PySem.W.nsIn K mainGlobals "frame" = some (some (.ref f_frame)))
    (l_frame : K.lookup f_frame = some ⟨oc_frame, od_frame, .func (PySem.W.fnOf "frame" "frame" (defArgs s_frame) (defBody s_frame) (defScope s_frame) .none kV_frame dc_frame pm_frame an_frame cd_frame ct_frame), sl_frame⟩)
    (c_frame : PySem.W.codeIn K cd_frame "frame" = true)
    (k_frame : PySem.W.keepIn K (.ref f_frame) = true)
    (a_read_frames : PySem.W.nsIn K mainGlobals "read_frames" = some (some (.ref f_read_frames)))
    (l_read_frames : K.lookup f_read_frames = some ⟨oc_read_frames, od_read_frames, .func (PySem.W.fnOf "read_frames" "read_frames" (defArgs s_read_frames) (defBody s_read_frames) (defScope s_read_frames) .none kV_read_frames dc_read_frames pm_read_frames an_read_frames cd_read_frames ct_read_frames), sl_read_frames⟩)
    (c_read_frames : PySem.W.codeIn K cd_read_frames "read_frames" = true)
    (k_read_frames : PySem.W.keepIn K (.ref f_read_frames) = true)
    (a__payload_at : PySem.W.nsIn K mainGlobals "_payload_at" = some (some (.ref f__payload_at)))
    (l__payload_at : K.lookup f__payload_at = some ⟨oc__payload_at, od__payload_at, .func (PySem.W.fnOf "_payload_at" "_payload_at" (defArgs s__payload_at) (defBody s__payload_at) (defScope s__payload_at) .none kV__payload_at dc__payload_at pm__payload_at an__payload_at cd__payload_at ct__payload_at), sl__payload_at⟩)
    (c__payload_at : PySem.W.codeIn K cd__payload_at "_payload_at" = true)
    (k__payload_at : PySem.W.keepIn K (.ref f__payload_at) = true)
    (a__in_octets : PySem.W.nsIn K mainGlobals "_in_octets" = some (some (.ref f__in_octets)))
    (l__in_octets : K.lookup f__in_octets = some ⟨oc__in_octets, od__in_octets, .func (PySem.W.fnOf "_in_octets" "_in_octets" (defArgs s__in_octets) (defBody s__in_octets) (defScope s__in_octets) .none kV__in_octets dc__in_octets pm__in_octets an__in_octets cd__in_octets ct__in_octets), sl__in_octets⟩)
    (c__in_octets : PySem.W.codeIn K cd__in_octets "_in_octets" = true)
    (k__in_octets : PySem.W.keepIn K (.ref f__in_octets) = true)
    (a__from_octets : PySem.W.nsIn K mainGlobals "_from_octets" = some (some (.ref f__from_octets)))
    (l__from_octets : K.lookup f__from_octets = some ⟨oc__from_octets, od__from_octets, .func (PySem.W.fnOf "_from_octets" "_from_octets" (defArgs s__from_octets) (defBody s__from_octets) (defScope s__from_octets) .none kV__from_octets dc__from_octets pm__from_octets an__from_octets cd__from_octets ct__from_octets), sl__from_octets⟩)
    (c__from_octets : PySem.W.codeIn K cd__from_octets "_from_octets" = true)
    (k__from_octets : PySem.W.keepIn K (.ref f__from_octets) = true)
    (a_Journal___init__ : PySem.W.findIn K (.ref C_Journal) "__init__" = some (some (.ref f_Journal___init__)))
    (i_Journal___init__ : PySem.W.isFn K (.ref f_Journal___init__) = true)
    (l_Journal___init__ : K.lookup f_Journal___init__ = some ⟨oc_Journal___init__, od_Journal___init__, .func (PySem.W.fnOf "__init__" "Journal.__init__" (defArgs s_Journal___init__) (defBody s_Journal___init__) (defScope s_Journal___init__) .none kV_Journal___init__ dc_Journal___init__ pm_Journal___init__ an_Journal___init__ cd_Journal___init__ ct_Journal___init__), sl_Journal___init__⟩)
    (c_Journal___init__ : PySem.W.codeIn K cd_Journal___init__ "Journal.__init__" = true)
    (k_Journal___init__ : PySem.W.keepIn K (.ref f_Journal___init__) = true)
    (a_Journal_frame_count : PySem.W.findIn K (.ref C_Journal) "frame_count" = some (some (.ref p_Journal_frame_count)))
    (pg_Journal_frame_count : PySem.W.specialIn K (.ref p_Journal_frame_count) "__get__" = some (some (.builtin "property.__get__")))
    (pt_Journal_frame_count : PySem.W.takesIn K (.ref p_Journal_frame_count) = some true)
    (pr_Journal_frame_count : PySem.W.recIn K p_Journal_frame_count "property" = some (.ref f_Journal_frame_count :: pz_Journal_frame_count))
    (l_Journal_frame_count : K.lookup f_Journal_frame_count = some ⟨oc_Journal_frame_count, od_Journal_frame_count, .func (PySem.W.fnOf "frame_count" "Journal.frame_count" (defArgs s_Journal_frame_count) (defBody s_Journal_frame_count) (defScope s_Journal_frame_count) .none kV_Journal_frame_count dc_Journal_frame_count pm_Journal_frame_count an_Journal_frame_count cd_Journal_frame_count ct_Journal_frame_count), sl_Journal_frame_count⟩)
    (c_Journal_frame_count : PySem.W.codeIn K cd_Journal_frame_count "Journal.frame_count" = true)
    (k_Journal_frame_count : PySem.W.keepIn K (.ref f_Journal_frame_count) = true)
    (a_Journal_synced_frames : PySem.W.findIn K (.ref C_Journal) "synced_frames" = some (some (.ref p_Journal_synced_frames)))
    (pg_Journal_synced_frames : PySem.W.specialIn K (.ref p_Journal_synced_frames) "__get__" = some (some (.builtin "property.__get__")))
    (pt_Journal_synced_frames : PySem.W.takesIn K (.ref p_Journal_synced_frames) = some true)
    (pr_Journal_synced_frames : PySem.W.recIn K p_Journal_synced_frames "property" = some (.ref f_Journal_synced_frames :: pz_Journal_synced_frames))
    (l_Journal_synced_frames : K.lookup f_Journal_synced_frames = some ⟨oc_Journal_synced_frames, od_Journal_synced_frames, .func (PySem.W.fnOf "synced_frames" "Journal.synced_frames" (defArgs s_Journal_synced_frames) (defBody s_Journal_synced_frames) (defScope s_Journal_synced_frames) .none kV_Journal_synced_frames dc_Journal_synced_frames pm_Journal_synced_frames an_Journal_synced_frames cd_Journal_synced_frames ct_Journal_synced_frames), sl_Journal_synced_frames⟩)
    (c_Journal_synced_frames : PySem.W.codeIn K cd_Journal_synced_frames "Journal.synced_frames" = true)
    (k_Journal_synced_frames : PySem.W.keepIn K (.ref f_Journal_synced_frames) = true)
    (a_Journal_octet_count : PySem.W.findIn K (.ref C_Journal) "octet_count" = some (some (.ref p_Journal_octet_count)))
    (pg_Journal_octet_count : PySem.W.specialIn K (.ref p_Journal_octet_count) "__get__" = some (some (.builtin "property.__get__")))
    (pt_Journal_octet_count : PySem.W.takesIn K (.ref p_Journal_octet_count) = some true)
    (pr_Journal_octet_count : PySem.W.recIn K p_Journal_octet_count "property" = some (.ref f_Journal_octet_count :: pz_Journal_octet_count))
    (l_Journal_octet_count : K.lookup f_Journal_octet_count = some ⟨oc_Journal_octet_count, od_Journal_octet_count, .func (PySem.W.fnOf "octet_count" "Journal.octet_count" (defArgs s_Journal_octet_count) (defBody s_Journal_octet_count) (defScope s_Journal_octet_count) .none kV_Journal_octet_count dc_Journal_octet_count pm_Journal_octet_count an_Journal_octet_count cd_Journal_octet_count ct_Journal_octet_count), sl_Journal_octet_count⟩)
    (c_Journal_octet_count : PySem.W.codeIn K cd_Journal_octet_count "Journal.octet_count" = true)
    (k_Journal_octet_count : PySem.W.keepIn K (.ref f_Journal_octet_count) = true)
    (a_Journal_synced_octets : PySem.W.findIn K (.ref C_Journal) "synced_octets" = some (some (.ref p_Journal_synced_octets)))
    (pg_Journal_synced_octets : PySem.W.specialIn K (.ref p_Journal_synced_octets) "__get__" = some (some (.builtin "property.__get__")))
    (pt_Journal_synced_octets : PySem.W.takesIn K (.ref p_Journal_synced_octets) = some true)
    (pr_Journal_synced_octets : PySem.W.recIn K p_Journal_synced_octets "property" = some (.ref f_Journal_synced_octets :: pz_Journal_synced_octets))
    (l_Journal_synced_octets : K.lookup f_Journal_synced_octets = some ⟨oc_Journal_synced_octets, od_Journal_synced_octets, .func (PySem.W.fnOf "synced_octets" "Journal.synced_octets" (defArgs s_Journal_synced_octets) (defBody s_Journal_synced_octets) (defScope s_Journal_synced_octets) .none kV_Journal_synced_octets dc_Journal_synced_octets pm_Journal_synced_octets an_Journal_synced_octets cd_Journal_synced_octets ct_Journal_synced_octets), sl_Journal_synced_octets⟩)
    (c_Journal_synced_octets : PySem.W.codeIn K cd_Journal_synced_octets "Journal.synced_octets" = true)
    (k_Journal_synced_octets : PySem.W.keepIn K (.ref f_Journal_synced_octets) = true)
    (a_Journal_append : PySem.W.findIn K (.ref C_Journal) "append" = some (some (.ref f_Journal_append)))
    (i_Journal_append : PySem.W.isFn K (.ref f_Journal_append) = true)
    (l_Journal_append : K.lookup f_Journal_append = some ⟨oc_Journal_append, od_Journal_append, .func (PySem.W.fnOf "append" "Journal.append" (defArgs s_Journal_append) (defBody s_Journal_append) (defScope s_Journal_append) .none kV_Journal_append dc_Journal_append pm_Journal_append an_Journal_append cd_Journal_append ct_Journal_append), sl_Journal_append⟩)
    (c_Journal_append : PySem.W.codeIn K cd_Journal_append "Journal.append" = true)
    (k_Journal_append : PySem.W.keepIn K (.ref f_Journal_append) = true)
    (a_Journal_sync : PySem.W.findIn K (.ref C_Journal) "sync" = some (some (.ref f_Journal_sync)))
    (i_Journal_sync : PySem.W.isFn K (.ref f_Journal_sync) = true)
    (l_Journal_sync : K.lookup f_Journal_sync = some ⟨oc_Journal_sync, od_Journal_sync, .func (PySem.W.fnOf "sync" "Journal.sync" (defArgs s_Journal_sync) (defBody s_Journal_sync) (defScope s_Journal_sync) .none kV_Journal_sync dc_Journal_sync pm_Journal_sync an_Journal_sync cd_Journal_sync ct_Journal_sync), sl_Journal_sync⟩)
    (c_Journal_sync : PySem.W.codeIn K cd_Journal_sync "Journal.sync" = true)
    (k_Journal_sync : PySem.W.keepIn K (.ref f_Journal_sync) = true)
    (a_Journal_crash : PySem.W.findIn K (.ref C_Journal) "crash" = some (some (.ref f_Journal_crash)))
    (i_Journal_crash : PySem.W.isFn K (.ref f_Journal_crash) = true)
    (l_Journal_crash : K.lookup f_Journal_crash = some ⟨oc_Journal_crash, od_Journal_crash, .func (PySem.W.fnOf "crash" "Journal.crash" (defArgs s_Journal_crash) (defBody s_Journal_crash) (defScope s_Journal_crash) .none kV_Journal_crash dc_Journal_crash pm_Journal_crash an_Journal_crash cd_Journal_crash ct_Journal_crash), sl_Journal_crash⟩)
    (c_Journal_crash : PySem.W.codeIn K cd_Journal_crash "Journal.crash" = true)
    (k_Journal_crash : PySem.W.keepIn K (.ref f_Journal_crash) = true)
    (a_Journal_payloads : PySem.W.findIn K (.ref C_Journal) "payloads" = some (some (.ref f_Journal_payloads)))
    (i_Journal_payloads : PySem.W.isFn K (.ref f_Journal_payloads) = true)
    (l_Journal_payloads : K.lookup f_Journal_payloads = some ⟨oc_Journal_payloads, od_Journal_payloads, .func (PySem.W.fnOf "payloads" "Journal.payloads" (defArgs s_Journal_payloads) (defBody s_Journal_payloads) (defScope s_Journal_payloads) .none kV_Journal_payloads dc_Journal_payloads pm_Journal_payloads an_Journal_payloads cd_Journal_payloads ct_Journal_payloads), sl_Journal_payloads⟩)
    (c_Journal_payloads : PySem.W.codeIn K cd_Journal_payloads "Journal.payloads" = true)
    (k_Journal_payloads : PySem.W.keepIn K (.ref f_Journal_payloads) = true)
    (a_Journal_image : PySem.W.findIn K (.ref C_Journal) "image" = some (some (.ref f_Journal_image)))
    (i_Journal_image : PySem.W.isFn K (.ref f_Journal_image) = true)
    (l_Journal_image : K.lookup f_Journal_image = some ⟨oc_Journal_image, od_Journal_image, .func (PySem.W.fnOf "image" "Journal.image" (defArgs s_Journal_image) (defBody s_Journal_image) (defScope s_Journal_image) .none kV_Journal_image dc_Journal_image pm_Journal_image an_Journal_image cd_Journal_image ct_Journal_image), sl_Journal_image⟩)
    (c_Journal_image : PySem.W.codeIn K cd_Journal_image "Journal.image" = true)
    (k_Journal_image : PySem.W.keepIn K (.ref f_Journal_image) = true)
    (a_Journal_fork : PySem.W.findIn K (.ref C_Journal) "fork" = some (some (.ref f_Journal_fork)))
    (i_Journal_fork : PySem.W.isFn K (.ref f_Journal_fork) = true)
    (l_Journal_fork : K.lookup f_Journal_fork = some ⟨oc_Journal_fork, od_Journal_fork, .func (PySem.W.fnOf "fork" "Journal.fork" (defArgs s_Journal_fork) (defBody s_Journal_fork) (defScope s_Journal_fork) .none kV_Journal_fork dc_Journal_fork pm_Journal_fork an_Journal_fork cd_Journal_fork ct_Journal_fork), sl_Journal_fork⟩)
    (c_Journal_fork : PySem.W.codeIn K cd_Journal_fork "Journal.fork" = true)
    (k_Journal_fork : PySem.W.keepIn K (.ref f_Journal_fork) = true)
    (a_read_journal : PySem.W.nsIn K mainGlobals "read_journal" = some (some (.ref f_read_journal)))
    (l_read_journal : K.lookup f_read_journal = some ⟨oc_read_journal, od_read_journal, .func (PySem.W.fnOf "read_journal" "read_journal" (defArgs s_read_journal) (defBody s_read_journal) (defScope s_read_journal) .none kV_read_journal dc_read_journal pm_read_journal an_read_journal cd_read_journal ct_read_journal), sl_read_journal⟩)
    (c_read_journal : PySem.W.codeIn K cd_read_journal "read_journal" = true)
    (k_read_journal : PySem.W.keepIn K (.ref f_read_journal) = true)
    (a__law_row : PySem.W.nsIn K mainGlobals "_law_row" = some (some (.ref f__law_row)))
    (l__law_row : K.lookup f__law_row = some ⟨oc__law_row, od__law_row, .func (PySem.W.fnOf "_law_row" "_law_row" (defArgs s__law_row) (defBody s__law_row) (defScope s__law_row) .none kV__law_row dc__law_row pm__law_row an__law_row cd__law_row ct__law_row), sl__law_row⟩)
    (c__law_row : PySem.W.codeIn K cd__law_row "_law_row" = true)
    (k__law_row : PySem.W.keepIn K (.ref f__law_row) = true)
    (a__law_digits : PySem.W.nsIn K mainGlobals "_law_digits" = some (some (.ref f__law_digits)))
    (l__law_digits : K.lookup f__law_digits = some ⟨oc__law_digits, od__law_digits, .func (PySem.W.fnOf "_law_digits" "_law_digits" (defArgs s__law_digits) (defBody s__law_digits) (defScope s__law_digits) .none kV__law_digits dc__law_digits pm__law_digits an__law_digits cd__law_digits ct__law_digits), sl__law_digits⟩)
    (c__law_digits : PySem.W.codeIn K cd__law_digits "_law_digits" = true)
    (k__law_digits : PySem.W.keepIn K (.ref f__law_digits) = true)
    (a__law_payload : PySem.W.nsIn K mainGlobals "_law_payload" = some (some (.ref f__law_payload)))
    (l__law_payload : K.lookup f__law_payload = some ⟨oc__law_payload, od__law_payload, .func (PySem.W.fnOf "_law_payload" "_law_payload" (defArgs s__law_payload) (defBody s__law_payload) (defScope s__law_payload) .none kV__law_payload dc__law_payload pm__law_payload an__law_payload cd__law_payload ct__law_payload), sl__law_payload⟩)
    (c__law_payload : PySem.W.codeIn K cd__law_payload "_law_payload" = true)
    (k__law_payload : PySem.W.keepIn K (.ref f__law_payload) = true)
    (a__law_told : PySem.W.nsIn K mainGlobals "_law_told" = some (some (.ref f__law_told)))
    (l__law_told : K.lookup f__law_told = some ⟨oc__law_told, od__law_told, .func (PySem.W.fnOf "_law_told" "_law_told" (defArgs s__law_told) (defBody s__law_told) (defScope s__law_told) .none kV__law_told dc__law_told pm__law_told an__law_told cd__law_told ct__law_told), sl__law_told⟩)
    (c__law_told : PySem.W.codeIn K cd__law_told "_law_told" = true)
    (k__law_told : PySem.W.keepIn K (.ref f__law_told) = true)
    (a_law : PySem.W.nsIn K mainGlobals "law" = some (some (.ref f_law)))
    (l_law : K.lookup f_law = some ⟨oc_law, od_law, .func (PySem.W.fnOf "law" "law" (defArgs s_law) (defBody s_law) (defScope s_law) .none kV_law dc_law pm_law an_law cd_law ct_law), sl_law⟩)
    (c_law : PySem.W.codeIn K cd_law "law" = true)
    (k_law : PySem.W.keepIn K (.ref f_law) = true)
    (z_CHECKSUM_OCTETS : PySem.W.nsIn K mainGlobals "CHECKSUM_OCTETS" = some (some (.int 4 t_CHECKSUM_OCTETS)))
    (z_CHECKSUM_PRIME : PySem.W.nsIn K mainGlobals "CHECKSUM_PRIME" = some (some (.int 4294967291 t_CHECKSUM_PRIME)))
    (z_FRAME_HEAD : PySem.W.nsIn K mainGlobals "FRAME_HEAD" = some (some (.int 6 t_FRAME_HEAD)))
    (z_LENGTH_OCTETS : PySem.W.nsIn K mainGlobals "LENGTH_OCTETS" = some (some (.int 2 t_LENGTH_OCTETS)))
    (z_enumerate : PySem.W.nsIn K mainGlobals "enumerate" = some none)
    (z_int : PySem.W.nsIn K mainGlobals "int" = some none)
    (z_len : PySem.W.nsIn K mainGlobals "len" = some none)
    (z_list : PySem.W.nsIn K mainGlobals "list" = some none)
    (z_range : PySem.W.nsIn K mainGlobals "range" = some none)
    (z_sum : PySem.W.nsIn K mainGlobals "sum" = some none)
    : ∃ fd : FuncData, (∀ (s : Shared) (v : Value), BindsTo s fd ⟨[v], []⟩ [("script", v)]) ∧ ∀ base : Heap, K.In base → base.Ns mainGlobals mg → FnOk l.prog w K mg base CX0 5 fa fd ["script"] (sp_law K) := by
  have e := hfa.symm.trans (PySem.W.mg_of X G a_law)
  cases e
  have F_checksum := fun_mk (st := s_checksum) l_checksum c_checksum k_checksum
  have b_checksum := F_checksum.binds (ps := ["octets"]) fun _ _ _ _ _ _ us hl => match us, hl with | [_], _ => rfl
  have F_frame := fun_mk (st := s_frame) l_frame c_frame k_frame
  have b_frame := F_frame.binds (ps := ["payload"]) fun _ _ _ _ _ _ us hl => match us, hl with | [_], _ => rfl
  have F_read_frames := fun_mk (st := s_read_frames) l_read_frames c_read_frames k_read_frames
  have b_read_frames := F_read_frames.binds (ps := ["octets"]) fun _ _ _ _ _ _ us hl => match us, hl with | [_], _ => rfl
  have F__payload_at := fun_mk (st := s__payload_at) l__payload_at c__payload_at k__payload_at
  have b__payload_at := F__payload_at.binds (ps := ["octets", "at"]) fun _ _ _ _ _ _ us hl => match us, hl with | [_, _], _ => rfl
  have F__in_octets := fun_mk (st := s__in_octets) l__in_octets c__in_octets k__in_octets
  have b__in_octets := F__in_octets.binds (ps := ["number", "count"]) fun _ _ _ _ _ _ us hl => match us, hl with | [_, _], _ => rfl
  have F__from_octets := fun_mk (st := s__from_octets) l__from_octets c__from_octets k__from_octets
  have b__from_octets := F__from_octets.binds (ps := ["octets"]) fun _ _ _ _ _ _ us hl => match us, hl with | [_], _ => rfl
  have F_Journal___init__ := fun_mk (st := s_Journal___init__) l_Journal___init__ c_Journal___init__ k_Journal___init__
  have b_Journal___init__ := F_Journal___init__.binds (ps := ["self"]) fun _ _ _ _ _ _ us hl => match us, hl with | [_], _ => rfl
  have F_Journal_frame_count := fun_mk (st := s_Journal_frame_count) l_Journal_frame_count c_Journal_frame_count k_Journal_frame_count
  have b_Journal_frame_count := F_Journal_frame_count.binds (ps := ["self"]) fun _ _ _ _ _ _ us hl => match us, hl with | [_], _ => rfl
  have F_Journal_synced_frames := fun_mk (st := s_Journal_synced_frames) l_Journal_synced_frames c_Journal_synced_frames k_Journal_synced_frames
  have b_Journal_synced_frames := F_Journal_synced_frames.binds (ps := ["self"]) fun _ _ _ _ _ _ us hl => match us, hl with | [_], _ => rfl
  have F_Journal_octet_count := fun_mk (st := s_Journal_octet_count) l_Journal_octet_count c_Journal_octet_count k_Journal_octet_count
  have b_Journal_octet_count := F_Journal_octet_count.binds (ps := ["self"]) fun _ _ _ _ _ _ us hl => match us, hl with | [_], _ => rfl
  have F_Journal_synced_octets := fun_mk (st := s_Journal_synced_octets) l_Journal_synced_octets c_Journal_synced_octets k_Journal_synced_octets
  have b_Journal_synced_octets := F_Journal_synced_octets.binds (ps := ["self"]) fun _ _ _ _ _ _ us hl => match us, hl with | [_], _ => rfl
  have F_Journal_append := fun_mk (st := s_Journal_append) l_Journal_append c_Journal_append k_Journal_append
  have b_Journal_append := F_Journal_append.binds (ps := ["self", "payload"]) fun _ _ _ _ _ _ us hl => match us, hl with | [_, _], _ => rfl
  have F_Journal_sync := fun_mk (st := s_Journal_sync) l_Journal_sync c_Journal_sync k_Journal_sync
  have b_Journal_sync := F_Journal_sync.binds (ps := ["self"]) fun _ _ _ _ _ _ us hl => match us, hl with | [_], _ => rfl
  have F_Journal_crash := fun_mk (st := s_Journal_crash) l_Journal_crash c_Journal_crash k_Journal_crash
  have b_Journal_crash := F_Journal_crash.binds (ps := ["self", "count"]) fun _ _ _ _ _ _ us hl => match us, hl with | [_, _], _ => rfl
  have F_Journal_payloads := fun_mk (st := s_Journal_payloads) l_Journal_payloads c_Journal_payloads k_Journal_payloads
  have b_Journal_payloads := F_Journal_payloads.binds (ps := ["self"]) fun _ _ _ _ _ _ us hl => match us, hl with | [_], _ => rfl
  have F_Journal_image := fun_mk (st := s_Journal_image) l_Journal_image c_Journal_image k_Journal_image
  have b_Journal_image := F_Journal_image.binds (ps := ["self"]) fun _ _ _ _ _ _ us hl => match us, hl with | [_], _ => rfl
  have F_Journal_fork := fun_mk (st := s_Journal_fork) l_Journal_fork c_Journal_fork k_Journal_fork
  have b_Journal_fork := F_Journal_fork.binds (ps := ["self"]) fun _ _ _ _ _ _ us hl => match us, hl with | [_], _ => rfl
  have F_read_journal := fun_mk (st := s_read_journal) l_read_journal c_read_journal k_read_journal
  have b_read_journal := F_read_journal.binds (ps := ["octets"]) fun _ _ _ _ _ _ us hl => match us, hl with | [_], _ => rfl
  have F__law_row := fun_mk (st := s__law_row) l__law_row c__law_row k__law_row
  have b__law_row := F__law_row.binds (ps := ["script", "k"]) fun _ _ _ _ _ _ us hl => match us, hl with | [_, _], _ => rfl
  have F__law_digits := fun_mk (st := s__law_digits) l__law_digits c__law_digits k__law_digits
  have b__law_digits := F__law_digits.binds (ps := ["row", "sizes"]) fun _ _ _ _ _ _ us hl => match us, hl with | [_, _], _ => rfl
  have F__law_payload := fun_mk (st := s__law_payload) l__law_payload c__law_payload k__law_payload
  have b__law_payload := F__law_payload.binds (ps := ["row"]) fun _ _ _ _ _ _ us hl => match us, hl with | [_], _ => rfl
  have F__law_told := fun_mk (st := s__law_told) l__law_told c__law_told k__law_told
  have b__law_told := F__law_told.binds (ps := ["journal"]) fun _ _ _ _ _ _ us hl => match us, hl with | [_], _ => rfl
  have F_law := fun_mk (st := s_law) l_law c_law k_law
  have b_law := F_law.binds (ps := ["script"]) fun _ _ _ _ _ _ us hl => match us, hl with | [_], _ => rfl
  let T : Txt K mg := ⟨C_Journal, ⟨pg_Journal, hd_Journal, po_Journal, sa_Journal⟩, PySem.W.mg_of X G aC_Journal, na_Journal__payloads, na_Journal__sizes, na_Journal__synced, t_CHECKSUM_OCTETS, PySem.W.mg_of X G z_CHECKSUM_OCTETS, t_CHECKSUM_PRIME, PySem.W.mg_of X G z_CHECKSUM_PRIME, t_FRAME_HEAD, PySem.W.mg_of X G z_FRAME_HEAD, t_LENGTH_OCTETS, PySem.W.mg_of X G z_LENGTH_OCTETS, f_checksum, _, F_checksum, b_checksum, PySem.W.mg_of X G a_checksum, f_frame, _, F_frame, b_frame, PySem.W.mg_of X G a_frame, f_read_frames, _, F_read_frames, b_read_frames, PySem.W.mg_of X G a_read_frames, f__payload_at, _, F__payload_at, b__payload_at, PySem.W.mg_of X G a__payload_at, f__in_octets, _, F__in_octets, b__in_octets, PySem.W.mg_of X G a__in_octets, f__from_octets, _, F__from_octets, b__from_octets, PySem.W.mg_of X G a__from_octets, f_Journal___init__, _, F_Journal___init__, b_Journal___init__, ⟨mk_Journal, a_Journal___init__, i_Journal___init__, kc_Journal⟩, f_Journal_frame_count, _, F_Journal_frame_count, b_Journal_frame_count, p_Journal_frame_count, ⟨a_Journal_frame_count, pg_Journal_frame_count, pt_Journal_frame_count, pz_Journal_frame_count, pr_Journal_frame_count⟩, f_Journal_synced_frames, _, F_Journal_synced_frames, b_Journal_synced_frames, p_Journal_synced_frames, ⟨a_Journal_synced_frames, pg_Journal_synced_frames, pt_Journal_synced_frames, pz_Journal_synced_frames, pr_Journal_synced_frames⟩, f_Journal_octet_count, _, F_Journal_octet_count, b_Journal_octet_count, p_Journal_octet_count, ⟨a_Journal_octet_count, pg_Journal_octet_count, pt_Journal_octet_count, pz_Journal_octet_count, pr_Journal_octet_count⟩, f_Journal_synced_octets, _, F_Journal_synced_octets, b_Journal_synced_octets, p_Journal_synced_octets, ⟨a_Journal_synced_octets, pg_Journal_synced_octets, pt_Journal_synced_octets, pz_Journal_synced_octets, pr_Journal_synced_octets⟩, f_Journal_append, _, F_Journal_append, b_Journal_append, ⟨a_Journal_append, i_Journal_append, k_Journal_append⟩, f_Journal_sync, _, F_Journal_sync, b_Journal_sync, ⟨a_Journal_sync, i_Journal_sync, k_Journal_sync⟩, f_Journal_crash, _, F_Journal_crash, b_Journal_crash, ⟨a_Journal_crash, i_Journal_crash, k_Journal_crash⟩, f_Journal_payloads, _, F_Journal_payloads, b_Journal_payloads, ⟨a_Journal_payloads, i_Journal_payloads, k_Journal_payloads⟩, f_Journal_image, _, F_Journal_image, b_Journal_image, ⟨a_Journal_image, i_Journal_image, k_Journal_image⟩, f_Journal_fork, _, F_Journal_fork, b_Journal_fork, ⟨a_Journal_fork, i_Journal_fork, k_Journal_fork⟩, f_read_journal, _, F_read_journal, b_read_journal, PySem.W.mg_of X G a_read_journal, f__law_row, _, F__law_row, b__law_row, PySem.W.mg_of X G a__law_row, f__law_digits, _, F__law_digits, b__law_digits, PySem.W.mg_of X G a__law_digits, f__law_payload, _, F__law_payload, b__law_payload, PySem.W.mg_of X G a__law_payload, f__law_told, _, F__law_told, b__law_told, PySem.W.mg_of X G a__law_told, fa, _, F_law, b_law, PySem.W.mg_of X G a_law, PySem.W.mg_none_of X G z_enumerate, PySem.W.mg_none_of X G z_int, PySem.W.mg_none_of X G z_len, PySem.W.mg_none_of X G z_list, PySem.W.mg_none_of X G z_range, PySem.W.mg_none_of X G z_sum⟩
  exact ⟨PySem.W.fnOf "law" "law" (defArgs s_law) (defBody s_law) (defScope s_law) .none kV_law dc_law pm_law an_law cd_law ct_law, fun s v => .of_eq rfl, fun base _ _ => ok_law T⟩
end K12
open PySem PySem.W PyProof.Rows
set_option maxRecDepth 100000 in
set_option maxHeartbeats 0 in
theorem PySem.Challenge.cw_crosskeep_k12_a_disk_is_read_holds : PySem.Challenge.rw_crosskeep_k12_a_disk_is_read.Holds := by
  w_on; o_law; k_head; (case hw => w_witness2)
  k_fill
  refine L2.walk_of (l := PySem.Challenge.rw_crosskeep_k12_a_disk_is_read) (n := 63) (k := 5) (x := "script") (CX := fun _ => L2.CX0) (sp := fun w => K12.sp_law _) rfl (by decide) rfl ⟨rfl, by decide, by decide⟩ (fun w h Y => PySem.W.kIn_of Y) ?F (fun _ _ a ns hl _ hS => ⟨a, ns, rfl, hS, hl, fun _ => rfl⟩) (fun _ _ _ _ _ h => h)
  case F =>
    intro w mg fa h KX G hmg
    refine' K12.all_mk KX G hmg ?aC_Journal ?pg_Journal ?hd_Journal ?po_Journal ?sa_Journal ?mk_Journal ?kc_Journal ?na_Journal__payloads ?na_Journal__sizes ?na_Journal__synced ?a_checksum ?l_checksum ?c_checksum ?k_checksum ?a_frame ?l_frame ?c_frame ?k_frame ?a_read_frames ?l_read_frames ?c_read_frames ?k_read_frames ?a__payload_at ?l__payload_at ?c__payload_at ?k__payload_at ?a__in_octets ?l__in_octets ?c__in_octets ?k__in_octets ?a__from_octets ?l__from_octets ?c__from_octets ?k__from_octets ?a_Journal___init__ ?i_Journal___init__ ?l_Journal___init__ ?c_Journal___init__ ?k_Journal___init__ ?a_Journal_frame_count ?pg_Journal_frame_count ?pt_Journal_frame_count ?pr_Journal_frame_count ?l_Journal_frame_count ?c_Journal_frame_count ?k_Journal_frame_count ?a_Journal_synced_frames ?pg_Journal_synced_frames ?pt_Journal_synced_frames ?pr_Journal_synced_frames ?l_Journal_synced_frames ?c_Journal_synced_frames ?k_Journal_synced_frames ?a_Journal_octet_count ?pg_Journal_octet_count ?pt_Journal_octet_count ?pr_Journal_octet_count ?l_Journal_octet_count ?c_Journal_octet_count ?k_Journal_octet_count ?a_Journal_synced_octets ?pg_Journal_synced_octets ?pt_Journal_synced_octets ?pr_Journal_synced_octets ?l_Journal_synced_octets ?c_Journal_synced_octets ?k_Journal_synced_octets ?a_Journal_append ?i_Journal_append ?l_Journal_append ?c_Journal_append ?k_Journal_append ?a_Journal_sync ?i_Journal_sync ?l_Journal_sync ?c_Journal_sync ?k_Journal_sync ?a_Journal_crash ?i_Journal_crash ?l_Journal_crash ?c_Journal_crash ?k_Journal_crash ?a_Journal_payloads ?i_Journal_payloads ?l_Journal_payloads ?c_Journal_payloads ?k_Journal_payloads ?a_Journal_image ?i_Journal_image ?l_Journal_image ?c_Journal_image ?k_Journal_image ?a_Journal_fork ?i_Journal_fork ?l_Journal_fork ?c_Journal_fork ?k_Journal_fork ?a_read_journal ?l_read_journal ?c_read_journal ?k_read_journal ?a__law_row ?l__law_row ?c__law_row ?k__law_row ?a__law_digits ?l__law_digits ?c__law_digits ?k__law_digits ?a__law_payload ?l__law_payload ?c__law_payload ?k__law_payload ?a__law_told ?l__law_told ?c__law_told ?k__law_told ?a_law ?l_law ?c_law ?k_law ?z_CHECKSUM_OCTETS ?z_CHECKSUM_PRIME ?z_FRAME_HEAD ?z_LENGTH_OCTETS ?z_enumerate ?z_int ?z_len ?z_list ?z_range ?z_sum
    (case aC_Journal => k_is)
    (case pg_Journal => k_is)
    (case hd_Journal => k_is)
    (case po_Journal => k_is)
    (case sa_Journal => k_is)
    (case mk_Journal => k_is)
    (case kc_Journal => k_is)
    (case na_Journal__payloads => k_is)
    (case na_Journal__sizes => k_is)
    (case na_Journal__synced => k_is)
    (case a_checksum => k_is)
    (case l_checksum => k_is)
    (case c_checksum => k_is)
    (case k_checksum => k_is)
    (case a_frame => k_is)
    (case l_frame => k_is)
    (case c_frame => k_is)
    (case k_frame => k_is)
    (case a_read_frames => k_is)
    (case l_read_frames => k_is)
    (case c_read_frames => k_is)
    (case k_read_frames => k_is)
    (case a__payload_at => k_is)
    (case l__payload_at => k_is)
    (case c__payload_at => k_is)
    (case k__payload_at => k_is)
    (case a__in_octets => k_is)
    (case l__in_octets => k_is)
    (case c__in_octets => k_is)
    (case k__in_octets => k_is)
    (case a__from_octets => k_is)
    (case l__from_octets => k_is)
    (case c__from_octets => k_is)
    (case k__from_octets => k_is)
    (case a_Journal___init__ => k_is)
    (case i_Journal___init__ => k_is)
    (case l_Journal___init__ => k_is)
    (case c_Journal___init__ => k_is)
    (case k_Journal___init__ => k_is)
    (case a_Journal_frame_count => k_is)
    (case pg_Journal_frame_count => k_is)
    (case pt_Journal_frame_count => k_is)
    (case pr_Journal_frame_count => k_is)
    (case l_Journal_frame_count => k_is)
    (case c_Journal_frame_count => k_is)
    (case k_Journal_frame_count => k_is)
    (case a_Journal_synced_frames => k_is)
    (case pg_Journal_synced_frames => k_is)
    (case pt_Journal_synced_frames => k_is)
    (case pr_Journal_synced_frames => k_is)
    (case l_Journal_synced_frames => k_is)
    (case c_Journal_synced_frames => k_is)
    (case k_Journal_synced_frames => k_is)
    (case a_Journal_octet_count => k_is)
    (case pg_Journal_octet_count => k_is)
    (case pt_Journal_octet_count => k_is)
    (case pr_Journal_octet_count => k_is)
    (case l_Journal_octet_count => k_is)
    (case c_Journal_octet_count => k_is)
    (case k_Journal_octet_count => k_is)
    (case a_Journal_synced_octets => k_is)
    (case pg_Journal_synced_octets => k_is)
    (case pt_Journal_synced_octets => k_is)
    (case pr_Journal_synced_octets => k_is)
    (case l_Journal_synced_octets => k_is)
    (case c_Journal_synced_octets => k_is)
    (case k_Journal_synced_octets => k_is)
    (case a_Journal_append => k_is)
    (case i_Journal_append => k_is)
    (case l_Journal_append => k_is)
    (case c_Journal_append => k_is)
    (case k_Journal_append => k_is)
    (case a_Journal_sync => k_is)
    (case i_Journal_sync => k_is)
    (case l_Journal_sync => k_is)
    (case c_Journal_sync => k_is)
    (case k_Journal_sync => k_is)
    (case a_Journal_crash => k_is)
    (case i_Journal_crash => k_is)
    (case l_Journal_crash => k_is)
    (case c_Journal_crash => k_is)
    (case k_Journal_crash => k_is)
    (case a_Journal_payloads => k_is)
    (case i_Journal_payloads => k_is)
    (case l_Journal_payloads => k_is)
    (case c_Journal_payloads => k_is)
    (case k_Journal_payloads => k_is)
    (case a_Journal_image => k_is)
    (case i_Journal_image => k_is)
    (case l_Journal_image => k_is)
    (case c_Journal_image => k_is)
    (case k_Journal_image => k_is)
    (case a_Journal_fork => k_is)
    (case i_Journal_fork => k_is)
    (case l_Journal_fork => k_is)
    (case c_Journal_fork => k_is)
    (case k_Journal_fork => k_is)
    (case a_read_journal => k_is)
    (case l_read_journal => k_is)
    (case c_read_journal => k_is)
    (case k_read_journal => k_is)
    (case a__law_row => k_is)
    (case l__law_row => k_is)
    (case c__law_row => k_is)
    (case k__law_row => k_is)
    (case a__law_digits => k_is)
    (case l__law_digits => k_is)
    (case c__law_digits => k_is)
    (case k__law_digits => k_is)
    (case a__law_payload => k_is)
    (case l__law_payload => k_is)
    (case c__law_payload => k_is)
    (case k__law_payload => k_is)
    (case a__law_told => k_is)
    (case l__law_told => k_is)
    (case c__law_told => k_is)
    (case k__law_told => k_is)
    (case a_law => k_is)
    (case l_law => k_is)
    (case c_law => k_is)
    (case k_law => k_is)
    (case z_CHECKSUM_OCTETS => k_is)
    (case z_CHECKSUM_PRIME => k_is)
    (case z_FRAME_HEAD => k_is)
    (case z_LENGTH_OCTETS => k_is)
    (case z_enumerate => k_is)
    (case z_int => k_is)
    (case z_len => k_is)
    (case z_list => k_is)
    (case z_range => k_is)
    (case z_sum => k_is)
#print axioms PySem.Challenge.cw_crosskeep_k12_a_disk_is_read_holds

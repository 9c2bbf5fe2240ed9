import PyProof.Rows.All
import Wide.All
import OpenK.AllK
import Wide.FinOn
import HandS.ForMost
import HandS.TryOnly
import HandS.IsInst
import HandS.Evl
import HandS.Wide
import HandS.TupAny
import HandS.SortInts
import HandS.Style
import HandS.Strs
import HandS.SetFor
import HandS.Conv
import HandS.More
import PySem.Challenge.RW_crosskeep_k30_ballots_and_members
set_option Elab.async false
set_option linter.all false
set_option maxRecDepth 100000
set_option maxHeartbeats 4000000

/-! ## readings, one step at a time (a layer of our own over the hand layer) -/
namespace Xk
open PySem PySem.Spec PyProof.Rows L2

section
variable {K : PySem.W.Frag} {σ : L2.St} {H H0 H1 H2 : Hp} {Q : VK} {ta tb tc te : TE} {t u : TT} {D : Ends} {tz tu tw : TS} {g : TG} {x y z v : V} {i j : Int} {b : Bool}

/-! ### values -/
theorem rel_ref {a : Addr} : RelV (.ref a) (.ref a) := rfl
theorem rel_ty {T : String} : RelV (.ty T) (.type T) := rfl
theorem rel_int {tk : Tok} : RelV (.int i) (.int i tk) := ⟨tk, rfl⟩
theorem rel_str {s : Str} {tk : Tok} : RelV (.str s) (.str s tk) := ⟨tk, rfl⟩

/-! ### heaps -/
/-- nothing stands at p -/
structure Fr (p : Addr) (H : Hp) : Prop where
  is : H p = none
theorem same_fr {p : Addr} {o : HO} (h : Fr p H) : Same H (upd H p o) := fun c x e => by
  rw [upd_ne (ne_of_none e h.is)]
  exact e
theorem same_new {p : Addr} {o : HO} (h : H p = none) : Same H (upd H p o) := fun c x e => by
  rw [upd_ne (ne_of_none e h)]
  exact e
theorem same_mut {p : Addr} {o : HO} (e : Same H H1) (h : Fr p H) : Same H (upd H1 p o) := fun c x ha => by
  rw [upd_ne (ne_of_none ha h.is)]
  exact e c x ha
theorem same_at {a : Addr} {o : HO} (e : Same H H1) (h : H a = some o) : H1 a = some o := e a o h
theorem free_back {p : Addr} (h : Fr p H1) (e : Same H H1) : Fr p H := ⟨Same.free e h.is⟩
theorem ne_new {a p : Addr} {o : HO} (h' : Fr p H) (h : H a = some o) : a ≠ p := ne_of_none h h'.is
theorem sq_of {a : Addr} {xs : List V} (h : H a = some (.lst xs)) : SqL K H a xs := Or.inl (Or.inl h)
theorem st_of {a : Addr} {xs : List V} (h : H a = some (.tup xs)) : SqT K H a xs := Or.inl (Or.inl h)
theorem sq_same {a : Addr} {xs : List V} (h : SqL K H a xs) (e : Same H H1) : SqL K H1 a xs := e.seq h
theorem st_same {a : Addr} {xs : List V} (h : SqT K H a xs) (e : Same H H1) : SqT K H1 a xs := by
  rcases h with (h | ⟨o, h⟩) | h
  · exact .inl (.inl (e _ _ h))
  · exact .inl (.inr ⟨o, e _ _ h⟩)
  · exact .inr h
theorem size_ok {n : Nat} (h : n ≤ 100000) : n ≤ sizeLine := Nat.le_trans h (by decide)
theorem size_lt {n : Nat} (h : n < 100000) : n < sizeLine := Nat.lt_of_lt_of_le h (by decide)

/-- all that was tracked but at p is as it was -/
def But (p : Addr) (H H' : Hp) : Prop := ∀ b o, b ≠ p → H b = some o → H' b = some o
theorem But.refl (p : Addr) (H : Hp) : But p H H := fun _ _ _ h => h
theorem but_same {p : Addr} (e : Same H H1) : But p H H1 := fun b o _ h => e b o h
theorem but_trans {p : Addr} (e : But p H H1) (e' : But p H1 H2) : But p H H2 := fun b o n h => e' b o n (e b o n h)
theorem but_mut {p : Addr} {o : HO} (e : But p H H1) : But p H (upd H1 p o) := fun b u n h => by
  rw [upd_ne n]
  exact e b u n h
theorem but_new {p q : Addr} {o : HO} (e : But p H H1) (h : Fr q H) : But p H (upd H1 q o) := fun b u n g => by
  rw [upd_ne (ne_of_none g h.is)]
  exact e b u n g
theorem but_at {p a : Addr} {o : HO} (e : But p H H1) (n : a ≠ p) (h : H a = some o) : H1 a = some o := e a o n h
theorem none_but {p a : Addr} {o u : HO} (h : H p = some o) (e : But p H H1) (h1 : H1 p = some u) (ha : Fr a H1) : Fr a H := by
  refine ⟨?_⟩
  cases q : H a with
  | none => rfl
  | some v =>
    by_cases n : a = p
    · subst n
      rw [ha.is] at h1
      cases h1
    · have := e a v n q
      rw [ha.is] at this
      cases this
theorem fr_upd {p q : Addr} {o : HO} (h : Fr p (upd H q o)) : Fr p H := by
  refine ⟨?_⟩
  have h1 := h.is
  unfold upd at h1
  split at h1
  · cases h1
  · exact h1
theorem same_but {p : Addr} (e : But p H H1) (h : Fr p H0) (e0 : Same H0 H) : Same H0 H1 := fun b o g => e b o (ne_of_none g h.is) (e0 b o g)

/-! ### expressions -/
theorem x_var {n : Nat} (h : σ[n]? = some (some v)) (q : Q v H) : tVar n σ H Q := ⟨v, h, q⟩
theorem x_c (q : Q v H) : tC v σ H Q := q
theorem x_op {r : R2} (q : ta σ H fun x H1 => tb σ H1 fun y H2 => r x y H2 Q) : tOp r ta tb σ H Q := q
theorem x_un {r : V → Hp → VK → Prop} (q : ta σ H fun x H1 => r x H1 Q) : tUn r ta σ H Q := q
theorem x_I0 {f : Int → Int → V} (q : Q (f i j) H) : rI0 f (.int i) (.int j) H Q := ⟨i, j, rfl, rfl, q⟩
theorem x_I {C : Int → Int → Prop} {f : Int → Int → V} (hc : C i j) (q : Q (f i j) H) : rI C f (.int i) (.int j) H Q := ⟨i, j, rfl, rfl, hc, q⟩
theorem x_U {f : Int → V} (q : Q (f i) H) : rU f (.int i) H Q := ⟨i, rfl, q⟩
theorem x_eq (h : scal x y = true) (q : Q (.bl (decide (x = y))) H) : rEq x y H Q := ⟨h, q⟩
theorem x_ne (h : scal x y = true) (q : Q (.bl (!decide (x = y))) H) : rNe x y H Q := ⟨h, q⟩
theorem x_ixL {p : Addr} {xs : List V} (h : SqL K H p xs) (ha : atI xs i = some v) (q : Q v H) : rIxL K (.ref p) (.int i) H Q := ⟨p, xs, i, v, rfl, rfl, h, ha, q⟩
theorem x_ixT {p : Addr} {xs : List V} (h : SqT K H p xs) (ha : atI xs i = some v) (q : Q v H) : rIxT K (.ref p) (.int i) H Q := ⟨p, xs, i, v, rfl, rfl, h, ha, q⟩
theorem x_ixS {w : Str} {c : Nat} (h : w.length ≤ 100000) (ha : atI w.cps.toList i = some c) (q : Q (.str ⟨#[c]⟩) H) : rIxS (.str w) (.int i) H Q := ⟨w, i, c, rfl, rfl, size_ok h, ha, q⟩
theorem x_nil {R : List V → Hp → Prop} (q : R [] H) : tNil σ H R := q
theorem x_cons {tr : TA} {R : List V → Hp → Prop} (q : ta σ H fun x H1 => tr σ H1 fun xs H2 => R (x :: xs) H2) : tCons ta tr σ H R := q
def New (Q : VK) (o : HO) (n : Nat) (H : Hp) : Prop := n ≤ sizeLine ∧ ∀ p, H p = none → Q (.ref p) (upd H p o)
theorem x_lst {tr : TA} (q : tr σ H fun xs H1 => New Q (.lst xs) xs.length H1) : tLst tr σ H Q := q
theorem x_tup {tr : TA} (q : tr σ H fun xs H1 => New Q (.tup xs) xs.length H1) : tTup tr σ H Q := q
/-- what is new is told by what it holds; the heap gets a name -/
theorem x_new {n : Nat} {o : HO} (hl : n ≤ 100000) (k : ∀ p H2, Fr p H → Same H H2 → H2 p = some o → Q (.ref p) H2) : New Q o n H :=
  ⟨size_ok hl, fun p hp => k p _ ⟨hp⟩ (same_new hp) upd_same⟩
theorem x_new1 {o : HO} (k : ∀ p H2, Fr p H → Same H H2 → H2 p = some o → Q (.ref p) H2) : ∀ p, H p = none → Q (.ref p) (upd H p o) :=
  fun p hp => k p _ ⟨hp⟩ (same_new hp) upd_same
theorem x_cb {r : List V → Hp → VK → Prop} {tr : TA} (q : tr σ H fun vs H1 => r vs H1 Q) : tCB r tr σ H Q := q
theorem x_call {sp : Sp} {dvs : List V} {E : XK} {tr : TA} (q : tr σ H fun vs H1 => sp (vs ++ dvs) H1 Q E) : tCall sp dvs E tr σ H Q := q
theorem x_sl {r : V → Option Int → Option Int → Hp → VK → Prop} {tl th : TO} (q : te σ H fun x H1 => tl σ H1 fun l H2 => th σ H2 fun u H3 => r x l u H3 Q) : tSl r te tl th σ H Q := q
theorem x_nopart {R : Option Int → Hp → Prop} (q : R none H) : tNoPart σ H R := q
theorem x_part {R : Option Int → Hp → Prop} (q : te σ H fun x H1 => ∃ i, x = .int i ∧ R (some i) H1) : tPart te σ H R := q
theorem x_if (q : t σ H fun c H1 => if c = true then ta σ H1 Q else tb σ H1 Q) : tIf t ta tb σ H Q := q
theorem x_andV (q : ta σ H fun x H1 => ∃ c, x = .bl c ∧ if c = true then tb σ H1 Q else Q (.bl false) H1) : tAndV ta tb σ H Q := q
theorem x_orV (q : ta σ H fun x H1 => ∃ c, x = .bl c ∧ if c = true then Q (.bl true) H1 else tb σ H1 Q) : tOrV ta tb σ H Q := q
theorem x_notV (q : ta σ H fun x H1 => ∃ c, x = .bl c ∧ Q (.bl (!c)) H1) : tNotV ta σ H Q := q
theorem x_bl {R : Bool → Prop} (q : R b) : ∃ c, V.bl b = .bl c ∧ R c := ⟨b, rfl, q⟩
theorem x_isI {R : Int → Prop} (q : R i) : ∃ c, V.int i = .int c ∧ R c := ⟨i, rfl, q⟩

/-! ### built-ins by names -/
def nInt : List V → Hp → VK → Prop := fun xs H Q => (∃ i, xs = [.int i] ∧ Q (.int i) H) ∨ ∃ k, xs = [.bl k] ∧ Q (.int (if k then 1 else 0)) H
theorem call_nInt {X : Cx} : CallR X (.type "int") nInt := call_int1
theorem x_nInt (q : Q (.int i) H) : nInt [.int i] H Q := .inl ⟨i, rfl, q⟩
theorem x_nIntB (q : Q (.int (if b then 1 else 0)) H) : nInt [.bl b] H Q := .inr ⟨b, rfl, q⟩
def nLen (K : PySem.W.Frag) : List V → Hp → VK → Prop := fun xs H Q => ∃ p ys, xs = [.ref p] ∧ (SqL K H p ys ∨ SqT K H p ys) ∧ Q (.int ys.length) H
theorem call_nLen {X : Cx} : CallR X (.builtin "len") (nLen X.K) := call_len_seq
theorem x_lenL {p : Addr} {ys : List V} (h : SqL K H p ys) (q : Q (.int ys.length) H) : nLen K [.ref p] H Q := ⟨p, ys, rfl, .inl h, q⟩
theorem x_lenT {p : Addr} {ys : List V} (h : SqT K H p ys) (q : Q (.int ys.length) H) : nLen K [.ref p] H Q := ⟨p, ys, rfl, .inr h, q⟩
def nListOf (K : PySem.W.Frag) : List V → Hp → VK → Prop := fun xs H Q => ∃ p ys, xs = [.ref p] ∧ (SqL K H p ys ∨ SqT K H p ys) ∧ ∀ l, H l = none → Q (.ref l) (upd H l (.lst ys))
theorem call_nListOf {X : Cx} : CallR X (.type "list") (nListOf X.K) := call_list_of
theorem x_listL {p : Addr} {ys : List V} (h : SqL K H p ys) (k : ∀ l H2, Fr l H → Same H H2 → H2 l = some (.lst ys) → Q (.ref l) H2) : nListOf K [.ref p] H Q := ⟨p, ys, rfl, .inl h, x_new1 k⟩
theorem x_listT {p : Addr} {ys : List V} (h : SqT K H p ys) (k : ∀ l H2, Fr l H → Same H H2 → H2 l = some (.lst ys) → Q (.ref l) H2) : nListOf K [.ref p] H Q := ⟨p, ys, rfl, .inr h, x_new1 k⟩
def nTupleOf (K : PySem.W.Frag) : List V → Hp → VK → Prop := fun xs H Q => ∃ p ys, xs = [.ref p] ∧ ((SqL K H p ys ∧ ∀ l, H l = none → Q (.ref l) (upd H l (.tup ys))) ∨ (SqT K H p ys ∧ Q (.ref p) H))
theorem call_nTupleOf {X : Cx} : CallR X (.type "tuple") (nTupleOf X.K) := call_tuple_of
theorem x_tupleL {p : Addr} {ys : List V} (h : SqL K H p ys) (k : ∀ l H2, Fr l H → Same H H2 → H2 l = some (.tup ys) → Q (.ref l) H2) : nTupleOf K [.ref p] H Q := ⟨p, ys, rfl, .inl ⟨h, x_new1 k⟩⟩
theorem x_tupleT {p : Addr} {ys : List V} (h : SqT K H p ys) (q : Q (.ref p) H) : nTupleOf K [.ref p] H Q := ⟨p, ys, rfl, .inr ⟨h, q⟩⟩
theorem kit_T {a c : String} (h : kitB a c = some true) : kitB a c = some true := h
theorem kit_F {a c : String} (h : kitB a c = some false) : kitB a c = some false := h
theorem x_isi {c : String} {tt : String} {k : Bool} (ty : TyX K H x (.type tt)) (e : kitB tt c = some k) (q : Q (.bl k) H) : rIsi K [x, .ty c] H Q := ⟨x, .ty c, .type tt, .type c, k, rfl, .ty _, ty, kit_ty e, q⟩
theorem x_isiInt {c : String} {k : Bool} (e : kitB "int" c = some k) (q : Q (.bl k) H) : rIsi K [.int i, .ty c] H Q := x_isi (.base (.int i)) e q
theorem x_isiBl {c : String} {k b : Bool} (e : kitB "bool" c = some k) (q : Q (.bl k) H) : rIsi K [.bl b, .ty c] H Q := x_isi (.base (.bl b)) e q
theorem x_isiStr {c : String} {k : Bool} {s : Str} (e : kitB "str" c = some k) (q : Q (.bl k) H) : rIsi K [.str s, .ty c] H Q := x_isi (.base (.str s)) e q
theorem x_isiNon {c : String} {k : Bool} (e : kitB "NoneType" c = some k) (q : Q (.bl k) H) : rIsi K [.non, .ty c] H Q := x_isi (.base .non) e q
theorem x_isiLst {c : String} {k : Bool} {a : Addr} {xs : List V} (h : H a = some (.lst xs)) (e : kitB "list" c = some k) (q : Q (.bl k) H) : rIsi K [.ref a, .ty c] H Q := x_isi (.base (.lst h)) e q
theorem x_isiTup {c : String} {k : Bool} {a : Addr} {xs : List V} (h : H a = some (.tup xs)) (e : kitB "tuple" c = some k) (q : Q (.bl k) H) : rIsi K [.ref a, .ty c] H Q := x_isi (.base (.tup h)) e q

def nSorted (K : PySem.W.Frag) : List V → Hp → VK → Prop := fun vs H Q => ∃ (a : Addr) (ns : List Int), vs = [V.ref a] ∧ SqL K H a (ns.map V.int) ∧ ns.length < 64 ∧
  ∀ (ns' : List Int) (p : Addr), ns'.Perm ns → ns'.Pairwise (· ≤ ·) → H p = none → Q (.ref p) (upd H p (.lst (ns'.map V.int)))
theorem x_sorted {a : Addr} {ns : List Int} (h : SqL K H a (ns.map V.int)) (hl : ns.length < 64) (k : ∀ p H2 (ns' : List Int), ns'.Perm ns → ns'.Pairwise (· ≤ ·) → Fr p H → Same H H2 → H2 p = some (.lst (ns'.map V.int)) → Q (.ref p) H2) : rSorted K [.ref a] H Q :=
  ⟨a, ns, rfl, h, hl, fun ns' p h1 h2 h3 => k p _ ns' h1 h2 ⟨h3⟩ (same_new h3) upd_same⟩
/-- set(t), t a tuple of ints -/
def rSetOfI (K : PySem.W.Frag) (w : World) : List V → Hp → VK → Prop := fun vs H Q => ∃ (p : Addr) (ns : List Int), vs = [V.ref p] ∧ SqT K H p (ns.map V.int) ∧ ns.length ≤ 1000 ∧ ∀ a n, H a = none → n ≤ ns.length → Q (.ref a) (upd H a (SetO w a (fun j => decide (j ∈ ns)) n))
theorem cr_setOfI {X : Cx} (hc : X.calm = true) : CallR X (.type "set") (rSetOfI X.K X.w) := by
  intro pins s σ H xs us Q I r h
  obtain ⟨p0, ns, rfl, hq, hl, q⟩ := h
  cases r with
  | cons r rr =>
    cases rr
    cases r
    obtain ⟨its, rv, pt, hz⟩ := I.tuple hq
    have hi : IntsAre its.toArray.toList ns := ints_of_vals rv
    have hd := I.ok.hd hc
    refine call_set_tupI ns hd (show s.heap.IsTuple p0 its.toArray from pt) hi (by unfold scanBound; omega) fun h' tk c R1 hcn k => ?_
    exact ⟨.ref _, upd H s.heap.objs.size (SetO X.w s.heap.objs.size (fun j => decide (j ∈ ns)) c), I.laid (t' := tk) k (Nat.le_refl _) (setO_new R1), rfl, q _ _ (I.hok.fresh (Nat.le_refl _)) hcn⟩
theorem x_setOfI {w : World} {p : Addr} {ns : List Int} (h : SqT K H p (ns.map V.int)) (hl : ns.length ≤ 1000) (k : ∀ a H2 n, Fr a H → Same H H2 → H2 a = some (SetO w a (fun j => decide (j ∈ ns)) n) → n ≤ ns.length → Q (.ref a) H2) : rSetOfI K w [.ref p] H Q :=
  ⟨p, ns, rfl, h, hl, fun a n h1 h2 => k a _ n ⟨h1⟩ (same_new h1) upd_same h2⟩
theorem x_sortedSet {w : World} {a : Addr} {S : Int → Bool} {n : Nat} (h : H a = some (SetO w a S n)) (hl : n < 64) (k : ∀ p H2 (ns : List Int), ns.Pairwise (· < ·) → (∀ k : Int, k ∈ ns ↔ S k = true) → ns.length = n → Fr p H → Same H H2 → H2 p = some (.lst (ns.map V.int)) → Q (.ref p) H2) : rSortedSet w [.ref a] H Q :=
  ⟨a, S, n, rfl, h, hl, fun ns p h1 h2 h3 h4 => k p _ ns h1 h2 h3 ⟨h4⟩ (same_new h4) upd_same⟩
theorem x_all {a : Addr} {bs : List Bool} (h : SqL K H a (bs.map V.bl)) (q : Q (.bl (bs.all id)) H) : rAll K [.ref a] H Q := ⟨a, bs, rfl, h, q⟩
theorem x_any {a : Addr} {bs : List Bool} (h : SqL K H a (bs.map V.bl)) (q : Q (.bl (bs.any id)) H) : rAny K [.ref a] H Q := ⟨a, bs, rfl, h, q⟩
theorem x_sum {a : Addr} {ns : List Int} (h : SqL K H a (ns.map V.int)) (q : Q (.int ns.sum) H) : rSum K [.ref a] H Q := ⟨a, ns, rfl, h, q⟩
theorem x_inL {p : Addr} {xs : List V} (h : SqL K H p xs) (hx : flatV x = true) (ha : xs.all flatV = true) (q : Q (.bl (inV x xs)) H) : rIn K false x (.ref p) H Q := ⟨p, xs, rfl, .inl h, hx, ha, q⟩
theorem x_inT {p : Addr} {xs : List V} (h : SqT K H p xs) (hx : flatV x = true) (ha : xs.all flatV = true) (q : Q (.bl (inV x xs)) H) : rIn K false x (.ref p) H Q := ⟨p, xs, rfl, .inr h, hx, ha, q⟩
theorem x_niL {p : Addr} {xs : List V} (h : SqL K H p xs) (hx : flatV x = true) (ha : xs.all flatV = true) (q : Q (.bl (!inV x xs)) H) : rIn K true x (.ref p) H Q := ⟨p, xs, rfl, .inl h, hx, ha, q⟩
theorem x_niT {p : Addr} {xs : List V} (h : SqT K H p xs) (hx : flatV x = true) (ha : xs.all flatV = true) (q : Q (.bl (!inV x xs)) H) : rIn K true x (.ref p) H Q := ⟨p, xs, rfl, .inr h, hx, ha, q⟩
theorem flat_ints : ∀ ns : List Int, (ns.map V.int).all flatV = true
  | [] => rfl
  | n :: r => by
    rw [List.map_cons, List.all_cons, flat_ints r]
    rfl
theorem in_ints (i : Int) : ∀ ns : List Int, inV (.int i) (ns.map V.int) = decide (i ∈ ns)
  | [] => by simp [inV]
  | n :: r => by
    have h := in_ints i r
    unfold inV at h ⊢
    rw [List.map_cons, List.any_cons, h]
    by_cases e : n = i
    · subst e
      simp [eqV]
    · have e' : ¬ i = n := fun z => e z.symm
      simp [eqV, e, e']

/-! ### the same rules, K told: within a comprehension's block too -/
section
variable {X : Cx} {w : World}
theorem k_in (e : X.K = K) : OpR X (compareOp .In) (rIn K false) := e ▸ op_in_seq
theorem k_nin (e : X.K = K) : OpR X (compareOp .NotIn) (rIn K true) := e ▸ op_notIn_seq
theorem k_ixL (e : X.K = K) : IxR X (rIxL K) := e ▸ ix_list
theorem k_ixT (e : X.K = K) : IxR X (rIxT K) := e ▸ ix_tup
theorem k_slL (e : X.K = K) : SlR X (rSlL K) := e ▸ sl_list
theorem k_len (e : X.K = K) : CallR X (.builtin "len") (nLen K) := e ▸ call_nLen
theorem k_list (e : X.K = K) : CallR X (.type "list") (nListOf K) := e ▸ call_nListOf
theorem k_tuple (e : X.K = K) : CallR X (.type "tuple") (nTupleOf K) := e ▸ call_nTupleOf
theorem k_isi (e : X.K = K) : CallR X (.builtin "isinstance") (rIsi K) := e ▸ call_isi
theorem k_all (hc : X.calm = true) (e : X.K = K) : CallR X (.builtin "all") (rAll K) := e ▸ cr_all hc
theorem k_any (hc : X.calm = true) (e : X.K = K) : CallR X (.builtin "any") (rAny K) := e ▸ cr_any hc
theorem k_sum (hc : X.calm = true) (e : X.K = K) : CallR X (.builtin "sum") (rSum K) := e ▸ cr_sum hc
theorem k_sorted (e : X.K = K) : CallR X (.builtin "sorted") (rSorted K) := e ▸ cr_sorted
theorem k_sortedS (e : X.K = K) : CallR X (.builtin "sorted") (rSortedS K) := e ▸ cr_sortedS
theorem k_sortedSet (hc : X.calm = true) (e : X.w = w) : CallR X (.builtin "sorted") (rSortedSet w) := e ▸ cr_sortedSet hc
theorem k_setOfI (hc : X.calm = true) (e : X.K = K) (e' : X.w = w) : CallR X (.type "set") (rSetOfI K w) := e ▸ e' ▸ cr_setOfI hc
theorem k_eqD (hu : X.A.units + 64 < cLine) (e : X.K = K) : OpR X (compareOp .Eq) (rEqD K) := e ▸ op_eqD hu
theorem k_neD (hu : X.A.units + 64 < cLine) (e : X.K = K) : OpR X (compareOp .NotEq) (rNeD K) := e ▸ op_neD hu
end

/-! ### tests -/
theorem x_test {R : Bool → Hp → Prop} (q : te σ H fun x H1 => ∃ k, x = .bl k ∧ R k H1) : tTest te σ H R := q
theorem x_B {R : Bool → Hp → Prop} (q : te σ H fun x H1 => ∃ k, x = .bl k ∧ R k H1) : tB te σ H R := q
theorem x_and {R : Bool → Hp → Prop} (q : t σ H fun c H1 => if c = true then u σ H1 R else R false H1) : tAnd t u σ H R := q
theorem x_or {R : Bool → Hp → Prop} (q : t σ H fun c H1 => if c = true then R true H1 else u σ H1 R) : tOr t u σ H R := q
theorem x_not {R : Bool → Hp → Prop} (q : t σ H fun c H1 => R (!c) H1) : tNot t σ H R := q
theorem x_yes {R : Bool → Hp → Prop} (q : R true H) : tYes σ H R := q
theorem x_chain {r r' : R2} (q : ta σ H fun x H1 => tb σ H1 fun y H2 => r x y H2 fun z H3 => ∃ k, z = .bl k ∧ (if k = true then tc σ H3 fun w' H4 => r' y w' H4 Q else Q (.bl false) H3)) : tChain r r' ta tb tc σ H Q := q
theorem x_itd {p A B : Prop} [Decidable p] (h1 : p → A) (h2 : ¬p → B) : if decide p = true then A else B := by
  by_cases h : p
  · rw [if_pos (decide_eq_true h)]
    exact h1 h
  · rw [if_neg (by rw [decide_eq_false h]; decide)]
    exact h2 h
theorem x_itn {p A B : Prop} [Decidable p] (h1 : ¬p → A) (h2 : p → B) : if (!decide p) = true then A else B := by
  by_cases h : p
  · rw [decide_eq_true h, if_neg (by decide)]
    exact h2 h
  · rw [decide_eq_false h, if_pos (by decide)]
    exact h1 h
theorem x_itb {A B : Prop} (h1 : b = true → A) (h2 : b = false → B) : if b = true then A else B := by
  cases b with
  | true => rw [if_pos rfl]; exact h1 rfl
  | false => rw [if_neg (by decide)]; exact h2 rfl
theorem x_itnb {A B : Prop} (h1 : b = false → A) (h2 : b = true → B) : if (!b) = true then A else B := by
  cases b with
  | true => exact h2 rfl
  | false => exact h1 rfl

theorem x_nT {A B : Prop} (h : B) : if (!true) = true then A else B := h
theorem x_nF {A B : Prop} (h : A) : if (!false) = true then A else B := h
theorem x_dY {p A B : Prop} [Decidable p] (hp : p) (h : A) : if decide p = true then A else B := x_itd (fun _ => h) fun z => absurd hp z
theorem x_dN {p A B : Prop} [Decidable p] (hp : ¬p) (h : B) : if decide p = true then A else B := x_itd (fun z => absurd z hp) fun _ => h
theorem x_ndY {p A B : Prop} [Decidable p] (hp : p) (h : B) : if (!decide p) = true then A else B := x_itn (fun z => absurd hp z) fun _ => h
theorem x_ndN {p A B : Prop} [Decidable p] (hp : ¬p) (h : A) : if (!decide p) = true then A else B := x_itn (fun _ => h) fun z => absurd z hp

/-! ### statements -/
theorem x_seq (q : tu { D with nx := tz D } σ H) : tSeq tu tz D σ H := q
theorem x_sasg {n : Nat} (q : te σ H fun v H1 => tz D (σ.set n (some v)) H1) : tSeq (tAsg te (gName n)) tz D σ H := q
theorem x_asg {n : Nat} (q : te σ H fun v H1 => D.nx (σ.set n (some v)) H1) : tAsg te (gName n) D σ H := q
theorem x_sasgG (q : te σ H fun v H1 => g v σ H1 (tz D)) : tSeq (tAsg te g) tz D σ H := q
theorem x_asgG (q : te σ H fun v H1 => g v σ H1 D.nx) : tAsg te g D σ H := q
theorem x_ret (q : te σ H D.rt) : tRet te D σ H := q
theorem x_retN (q : D.rt .non H) : tRetN D σ H := q
theorem x_next (q : D.nx σ H) : tNext D σ H := q
theorem x_brk (q : D.bk σ H) : tBreak D σ H := q
theorem x_ct (q : D.ct σ H) : tCont D σ H := q
theorem x_sif (q : t σ H fun b H1 => if b = true then tu { D with nx := tz D } σ H1 else tw { D with nx := tz D } σ H1) : tSeq (tIfS t tu tw) tz D σ H := q
theorem x_ifS (q : t σ H fun b H1 => if b = true then tu D σ H1 else tw D σ H1) : tIfS t tu tw D σ H := q
theorem x_sdrop (q : te σ H fun _ H1 => tz D σ H1) : tSeq (tDrop te) tz D σ H := q
theorem x_drop (q : te σ H fun _ H1 => D.nx σ H1) : tDrop te D σ H := q
theorem x_saug {n : Nat} {ti : TIp} (h : σ[n]? = some (some x)) (q : te σ H fun y H1 => ti x y H1 fun z H2 => tz D (σ.set n (some z)) H2) : tSeq (tAug n te ti) tz D σ H := ⟨x, h, q⟩
theorem x_aug {n : Nat} {ti : TIp} (h : σ[n]? = some (some x)) (q : te σ H fun y H1 => ti x y H1 fun z H2 => D.nx (σ.set n (some z)) H2) : tAug n te ti D σ H := ⟨x, h, q⟩
theorem x_ipI {f : Int → Int → Int} (q : Q (.int (f i j)) H) : ipI f (.int i) (.int j) H Q := ⟨i, j, rfl, rfl, q⟩
/-- an if, then the rest: what follows is shown once -/
theorem x_cut (M : L2.St → Hp → Prop) (h : tu { D with nx := M } σ H) (k : ∀ σ' H', M σ' H' → tz D σ' H') : Evl.tCut tu tz D σ H := ⟨M, h, k⟩
theorem x_nocut (h : tu { D with nx := tz D } σ H) : Evl.tCut tu tz D σ H := ⟨_, h, fun _ _ q => q⟩

/-! ### targets -/
theorem x_gName {n : Nat} {R : L2.St → Hp → Prop} (q : R (σ.set n (some v)) H) : gName n v σ H R := q
theorem x_gTup {n : Nat} {gs : TGs} {R : L2.St → Hp → Prop} {a : Addr} {xs : List V} (h : SqT K H a xs) (hn : xs.length = n) (q : gs xs σ H R) : gTup K n gs (.ref a) σ H R := ⟨a, xs, rfl, h, hn, q⟩
theorem x_gLst {n : Nat} {gs : TGs} {R : L2.St → Hp → Prop} {a : Addr} {xs : List V} (h : SqL K H a xs) (hn : xs.length = n) (q : gs xs σ H R) : gLst K n gs (.ref a) σ H R := ⟨a, xs, rfl, h, hn, q⟩
theorem x_gCons {gs : TGs} {R : L2.St → Hp → Prop} {vs : List V} (q : g v σ H fun σ' H' => gs vs σ' H' R) : gCons g gs (v :: vs) σ H R := ⟨v, vs, rfl, q⟩
theorem x_gNil {R : L2.St → Hp → Prop} (q : R σ H) : gNil [] σ H R := ⟨rfl, q⟩
theorem x_gSub {to ti : TE} {ts : TSet} {R : L2.St → Hp → Prop} (q : to σ H fun o H1 => ti σ H1 fun i H2 => ts o i v H2 fun H3 => R σ H3) : gSub to ti ts v σ H R := q
theorem ixN_nat {n j : Nat} (hj : j < n) : ixN n (j : Int) = some j := by
  unfold ixN
  rw [if_pos (by omega), if_pos (by omega)]
  simp
theorem ixN_of {n j : Nat} {k : Int} (e : k = (j : Int)) (hj : j < n) : ixN n k = some j := by
  rw [e]
  exact ixN_nat hj
theorem at_nat {α : Type} {xs : List α} {k : Int} {j : Nat} {v : α} (e : k = (j : Int)) (h : xs[j]? = some v) : atI xs k = some v := by
  rw [e]
  exact atI_nat h
theorem at_neg {α : Type} {xs : List α} {k : Int} {j : Nat} {v : α} (hk : k < 0) (e : k + (xs.length : Int) = (j : Int)) (h : xs[j]? = some v) : atI xs k = some v := by
  unfold atI ixN
  rw [if_neg (by omega), if_pos (by omega)]
  have e2 : (k + (xs.length : Int)).toNat = j := by omega
  rw [e2]
  exact h
theorem x_setL {p : Addr} {xs : List V} {k : Int} {j : Nat} {R : Hp → Prop} (h : H p = some (.lst xs)) (hj : ixN xs.length k = some j) (q : R (upd H p (.lst (xs.set j v)))) : rSetL (.ref p) (.int k) v H R := ⟨p, xs, k, j, rfl, rfl, h, hj, q⟩
/-- xs.append(e) -/
theorem x_bm {T : String} {r : V → List V → Hp → VK → Prop} {tr : TA} (q : te σ H fun x H1 => tyV K T x H1 ∧ tr σ H1 fun xs H2 => r x xs H2 Q) : tBM K T r te tr σ H Q := q
theorem x_bm0 {T : String} {r : V → List V → Hp → VK → Prop} (q : te σ H fun x H1 => tyV K T x H1 ∧ r x [] H1 Q) : tBM0 K T r te σ H Q := q
theorem x_tyL {a : Addr} {xs : List V} {P : Prop} (h : SqL K H a xs) (q : P) : tyV K "list" (.ref a) H ∧ P := ⟨.inl ⟨rfl, xs, h⟩, q⟩
theorem x_app {l : Addr} {xs : List V} (h : H l = some (.lst xs)) (hz : xs.length < 100000) (q : Q .non (upd H l (.lst (xs ++ [v])))) : rAppend (.ref l) [v] H Q := ⟨l, xs, v, rfl, rfl, h, size_lt hz, q⟩
theorem x_cat {a c : Addr} {xs ys : List V} (h : H a = some (.lst xs)) (h' : H c = some (.lst ys)) (hz : xs.length + ys.length ≤ 100000) (k : ∀ p H2, Fr p H → Same H H2 → H2 p = some (.lst (xs ++ ys)) → Q (.ref p) H2) : rCat (.ref a) (.ref c) H Q :=
  ⟨a, c, xs, ys, rfl, rfl, h, h', size_ok hz, x_new1 k⟩
theorem x_slL {a : Addr} {xs : List V} {lo hi : Option Int} (h : SqL K H a xs) (k : ∀ p H2, Fr p H → Same H H2 → H2 p = some (.lst (cutV xs lo hi)) → Q (.ref p) H2) : rSlL K (.ref a) lo hi H Q := ⟨a, xs, rfl, h, x_new1 k⟩

/-! ### loops -/
theorem x_forR {n : Nat} (q : te σ H fun x H1 => ∃ m : Int, x = .int m ∧ 0 ≤ m ∧ m ≤ 100000 ∧ ∃ Pv : Nat → L2.St → Hp → Prop, Pv 0 σ H1 ∧
      (∀ (i : Nat) σ' H', (i : Int) < m → Pv i σ' H' → tu { D with nx := Pv (i + 1), ct := Pv (i + 1), bk := D.nx } (σ'.set n (some (.int (i : Int)))) H') ∧ (∀ σ' H', Pv m.toNat σ' H' → D.nx σ' H'))
    (mono : ∀ Q Q' : VK, (∀ v H1, Q v H1 → Q' v H1) → te σ H Q → te σ H Q') : tFor (iRng1 (tCons te tNil)) (gName n) tu D σ H := by
  refine mono _ _ (fun v H1 h => ?_) q
  obtain ⟨m, rfl, h0, h1, Pv, p0, ps, pd⟩ := h
  refine ⟨m, rfl, by omega, by omega, for_range (lo := 0) (n := m.toNat) Pv p0 (fun i σ' H' hi p => ?_) pd⟩
  have e0 : (0 : Int) + (i : Int) = (i : Int) := Int.zero_add _
  show tu { D with nx := Pv (i + 1), ct := Pv (i + 1), bk := D.nx } (σ'.set n (some (.int ((0 : Int) + (i : Int))))) H'
  rw [e0]
  exact ps i σ' H' (by omega) p
def RRange (n : Nat) (m : Int) (tu : TS) (D : Ends) (σ : L2.St) (H : Hp) : Prop := ∃ Pv : Nat → L2.St → Hp → Prop, Pv 0 σ H ∧
      (∀ (i : Nat) σ' H', (i : Int) < m → Pv i σ' H' → tu { D with nx := Pv (i + 1), ct := Pv (i + 1), bk := D.nx } (σ'.set n (some (.int (i : Int)))) H') ∧ (∀ σ' H', Pv m.toNat σ' H' → D.nx σ' H')
def rRange (n : Nat) (tu : TS) (D : Ends) (σ : L2.St) : List V → Hp → Prop := fun vs H => ∃ j : Int, vs = [.int j] ∧ -(2 ^ 62) ≤ j ∧ j < 2 ^ 62 ∧ ∃ W : Nat → Nat → L2.St → Hp → Prop, (∃ m, W 0 m σ H) ∧ ∀ i m σ H, W i m σ H →
  ((Itr 0 j.toNat).stop i H ∧ D.nx σ H) ∨ ((Itr 0 j.toNat).go i H ∧ ∃ N : L2.St → Hp → Prop, (∀ σ' H', N σ' H' → ∃ m', m' < m ∧ W (i + 1) m' σ' H') ∧ ∀ x H', (Itr 0 j.toNat).yld i H x H' → gName n x σ H' fun σ2 H2 => tu { D with nx := N, ct := N, bk := D.nx } σ2 H2)
theorem x_forR1 {n : Nat} {tr : TA} (q : tr σ H (rRange n tu D σ)) : tFor (iRng1 tr) (gName n) tu D σ H := q
theorem x_range {n : Nat} {m : Int} (Pv : Nat → L2.St → Hp → Prop) (hm : 0 ≤ m ∧ m ≤ 100000) (p0 : Pv 0 σ H)
    (ps : ∀ (i : Nat) σ' H', (i : Int) < m → Pv i σ' H' → tu { D with nx := Pv (i + 1), ct := Pv (i + 1), bk := D.nx } (σ'.set n (some (.int (i : Int)))) H') (pd : ∀ σ' H', Pv m.toNat σ' H' → D.nx σ' H') : rRange n tu D σ [.int m] H := by
  refine ⟨m, rfl, by omega, by omega, for_range (lo := 0) (n := m.toNat) Pv p0 (fun i σ' H' hi p => ?_) pd⟩
  have e0 : (0 : Int) + (i : Int) = (i : Int) := Int.zero_add _
  show tu { D with nx := Pv (i + 1), ct := Pv (i + 1), bk := D.nx } (σ'.set n (some (.int ((0 : Int) + (i : Int))))) H'
  rw [e0]
  exact ps i σ' H' (by omega) p
def rForL (K : PySem.W.Frag) (g : TG) (tu : TS) (D : Ends) (σ : L2.St) : VK := fun x H => ∃ a, x = .ref a ∧ (∃ xs, SqL K H a xs) ∧ ∃ W : Nat → Nat → L2.St → Hp → Prop, (∃ m, W 0 m σ H) ∧ ∀ i m σ H, W i m σ H →
  ((Itl K a).stop i H ∧ D.nx σ H) ∨ ((Itl K a).go i H ∧ ∃ N : L2.St → Hp → Prop, (∀ σ' H', N σ' H' → ∃ m', m' < m ∧ W (i + 1) m' σ' H') ∧ ∀ x H', (Itl K a).yld i H x H' → g x σ H' fun σ2 H2 => tu { D with nx := N, ct := N, bk := D.nx } σ2 H2)
theorem x_forL1 (q : te σ H (rForL K g tu D σ)) : tFor (iList K te) g tu D σ H := q
theorem x_forL {a : Addr} {xs : List V} (Pv : Nat → L2.St → Hp → Prop) (hx : SqL K H a xs) (p0 : Pv 0 σ H) (hl : ∀ i σ' H', i ≤ xs.length → Pv i σ' H' → SqL K H' a xs)
    (ps : ∀ i x σ' H', xs[i]? = some x → Pv i σ' H' → g x σ' H' fun σ2 H2 => tu { D with nx := Pv (i + 1), ct := Pv (i + 1), bk := D.nx } σ2 H2) (pd : ∀ σ' H', Pv xs.length σ' H' → D.nx σ' H') : rForL K g tu D σ (.ref a) H :=
  ⟨a, rfl, ⟨xs, hx⟩, for_list Pv p0 hl ps pd⟩
def rForT (K : PySem.W.Frag) (g : TG) (tu : TS) (D : Ends) (σ : L2.St) : VK := fun x H => ∃ a, x = .ref a ∧ (∃ xs, SqT K H a xs) ∧ ∃ W : Nat → Nat → L2.St → Hp → Prop, (∃ m, W 0 m σ H) ∧ ∀ i m σ H, W i m σ H →
  ((Itt K a).stop i H ∧ D.nx σ H) ∨ ((Itt K a).go i H ∧ ∃ N : L2.St → Hp → Prop, (∀ σ' H', N σ' H' → ∃ m', m' < m ∧ W (i + 1) m' σ' H') ∧ ∀ x H', (Itt K a).yld i H x H' → g x σ H' fun σ2 H2 => tu { D with nx := N, ct := N, bk := D.nx } σ2 H2)
theorem x_forT1 (q : te σ H (rForT K g tu D σ)) : tFor (iTup K te) g tu D σ H := q
theorem x_forT {a : Addr} {xs : List V} (Pv : Nat → L2.St → Hp → Prop) (hx : SqT K H a xs) (p0 : Pv 0 σ H) (hl : ∀ i σ' H', i ≤ xs.length → Pv i σ' H' → SqT K H' a xs)
    (ps : ∀ i x σ' H', xs[i]? = some x → Pv i σ' H' → g x σ' H' fun σ2 H2 => tu { D with nx := Pv (i + 1), ct := Pv (i + 1), bk := D.nx } σ2 H2) (pd : ∀ σ' H', Pv xs.length σ' H' → D.nx σ' H') : rForT K g tu D σ (.ref a) H :=
  ⟨a, rfl, ⟨xs, hx⟩, for_tup Pv p0 hl ps pd⟩
/-! ### comprehensions -/
def RLc (J : It) (g : TG) (tt : TT) (te : TE) (vs : List Nat) (σ : L2.St) (Q : VK) : Hp → Prop := fun H1 => ∀ D, H1 D = none → ∃ W : Nat → Nat → Hp → Prop, (∃ m, W 0 m (upd H1 D (.lst []))) ∧ ∀ i m H, W i m H →
  (J.stop i H ∧ Q (.ref D) H) ∨ (J.go i H ∧ ∃ Nx : Hp → Prop, (∀ H', Nx H' → ∃ m', m' < m ∧ W (i + 1) m' H') ∧ ∀ x H', J.yld i H x H' → g x (wipe σ vs) H' fun σ2 H2 => wipe σ2 vs = wipe σ vs ∧ tt σ2 H2 fun b H3 =>
    if b = true then te σ2 H3 fun y H4 => ∃ acc, H4 D = some (.lst acc) ∧ acc.length < sizeLine ∧ Nx (upd H4 D (.lst (acc ++ [y]))) else Nx H3)
def rLcL (K : PySem.W.Frag) (g : TG) (tt : TT) (te : TE) (vs : List Nat) (σ : L2.St) (Q : VK) : VK := fun x H1 => ∃ a, x = .ref a ∧ (∃ xs, SqL K H1 a xs) ∧ RLc (Itl K a) g tt te vs σ Q H1
def rLcT (K : PySem.W.Frag) (g : TG) (tt : TT) (te : TE) (vs : List Nat) (σ : L2.St) (Q : VK) : VK := fun x H1 => ∃ a, x = .ref a ∧ (∃ xs, SqT K H1 a xs) ∧ RLc (Itt K a) g tt te vs σ Q H1
def rLcR (g : TG) (tt : TT) (te : TE) (vs : List Nat) (σ : L2.St) (Q : VK) : List V → Hp → Prop := fun xs H1 => ∃ j : Int, xs = [.int j] ∧ -(2 ^ 62) ≤ j ∧ j < 2 ^ 62 ∧ RLc (Itr 0 j.toNat) g tt te vs σ Q H1
theorem x_lcL1 {tx : TE} {vs : List Nat} (q : tx σ H (rLcL K g t te vs σ Q)) : tLc (iList K tx) g t te vs σ H Q := q
theorem x_lcT1 {tx : TE} {vs : List Nat} (q : tx σ H (rLcT K g t te vs σ Q)) : tLc (iTup K tx) g t te vs σ H Q := q
theorem x_lcR1 {tr : TA} {vs : List Nat} (q : tr σ H (rLcR g t te vs σ Q)) : tLc (iRng1 tr) g t te vs σ H Q := q
/-- a list comprehension: Pv of the new list's place, the turn and the heap -/
theorem x_lcL {a : Addr} {xs : List V} {vs : List Nat} (Pv : Addr → Nat → Hp → Prop) (hx : SqL K H a xs) (h0 : ∀ Dl, Fr Dl H → Pv Dl 0 (upd H Dl (.lst []))) (hl : ∀ Dl i H', Fr Dl H → Pv Dl i H' → SqL K H' a xs)
    (hs : ∀ Dl, Fr Dl H → ∀ i x H', xs[i]? = some x → Pv Dl i H' → g x (wipe σ vs) H' fun σ2 H2 => wipe σ2 vs = wipe σ vs ∧ t σ2 H2 fun b H3 =>
      if b = true then te σ2 H3 fun y H4 => ∃ acc, H4 Dl = some (.lst acc) ∧ acc.length < sizeLine ∧ Pv Dl (i + 1) (upd H4 Dl (.lst (acc ++ [y]))) else Pv Dl (i + 1) H3)
    (hd : ∀ Dl H', Fr Dl H → Pv Dl xs.length H' → Q (.ref Dl) H') : rLcL K g t te vs σ Q (.ref a) H := ⟨a, rfl, ⟨xs, hx⟩, fun Dl hD =>
  lc_list (xs := xs) (Pv Dl) (h0 Dl ⟨hD⟩) (fun i H' _ p => hl Dl i H' ⟨hD⟩ p) (fun i x H' hi p => hs Dl ⟨hD⟩ i x H' hi p) (fun H' p => hd Dl H' ⟨hD⟩ p)⟩
theorem x_lcT {a : Addr} {xs : List V} {vs : List Nat} (Pv : Addr → Nat → Hp → Prop) (hx : SqT K H a xs) (h0 : ∀ Dl, Fr Dl H → Pv Dl 0 (upd H Dl (.lst []))) (hl : ∀ Dl i H', Fr Dl H → Pv Dl i H' → SqT K H' a xs)
    (hs : ∀ Dl, Fr Dl H → ∀ i x H', xs[i]? = some x → Pv Dl i H' → g x (wipe σ vs) H' fun σ2 H2 => wipe σ2 vs = wipe σ vs ∧ t σ2 H2 fun b H3 =>
      if b = true then te σ2 H3 fun y H4 => ∃ acc, H4 Dl = some (.lst acc) ∧ acc.length < sizeLine ∧ Pv Dl (i + 1) (upd H4 Dl (.lst (acc ++ [y]))) else Pv Dl (i + 1) H3)
    (hd : ∀ Dl H', Fr Dl H → Pv Dl xs.length H' → Q (.ref Dl) H') : rLcT K g t te vs σ Q (.ref a) H := ⟨a, rfl, ⟨xs, hx⟩, fun Dl hD =>
  lc_tup (xs := xs) (Pv Dl) (h0 Dl ⟨hD⟩) (fun i H' _ p => hl Dl i H' ⟨hD⟩ p) (fun i x H' hi p => hs Dl ⟨hD⟩ i x H' hi p) (fun H' p => hd Dl H' ⟨hD⟩ p)⟩
theorem x_lcR {m : Int} {vs : List Nat} (Pv : Addr → Nat → Hp → Prop) (hm : 0 ≤ m ∧ m ≤ 100000) (h0 : ∀ Dl, Fr Dl H → Pv Dl 0 (upd H Dl (.lst [])))
    (hs : ∀ Dl, Fr Dl H → ∀ (i : Nat) H', (i : Int) < m → Pv Dl i H' → g (.int (i : Int)) (wipe σ vs) H' fun σ2 H2 => wipe σ2 vs = wipe σ vs ∧ t σ2 H2 fun b H3 =>
      if b = true then te σ2 H3 fun y H4 => ∃ acc, H4 Dl = some (.lst acc) ∧ acc.length < sizeLine ∧ Pv Dl (i + 1) (upd H4 Dl (.lst (acc ++ [y]))) else Pv Dl (i + 1) H3)
    (hd : ∀ Dl H', Fr Dl H → Pv Dl m.toNat H' → Q (.ref Dl) H') : rLcR g t te vs σ Q [.int m] H := ⟨m, rfl, by omega, by omega, fun Dl hD =>
  lc_range (lo := 0) (n := m.toNat) (Pv Dl) (h0 Dl ⟨hD⟩) (fun i H' hi p => by
    have e0 : (0 : Int) + (i : Int) = (i : Int) := Int.zero_add _
    rw [e0]
    exact hs Dl ⟨hD⟩ i H' (by omega) p) (fun H' p => hd Dl H' ⟨hD⟩ p)⟩
/-- the end of a turn: what is kept goes into the list -/
def Keep (Dl : Addr) (N : Hp → Prop) : VK := fun y H => ∃ acc, H Dl = some (.lst acc) ∧ acc.length < sizeLine ∧ N (upd H Dl (.lst (acc ++ [y])))
theorem x_keep {Dl : Addr} {N : Hp → Prop} {acc : List V} (h : H Dl = some (.lst acc)) (hz : acc.length < 100000) (q : N (upd H Dl (.lst (acc ++ [y])))) : ∃ acc, H Dl = some (.lst acc) ∧ acc.length < sizeLine ∧ N (upd H Dl (.lst (acc ++ [y]))) := ⟨acc, h, size_lt hz, q⟩
theorem x_wiped {A : Prop} {a b : L2.St} (h : a = b) (q : A) : a = b ∧ A := ⟨h, q⟩
end

/-! ### lists -/
theorem map_at {α β : Type} {f : α → β} {xs : List α} {j : Nat} {x : α} (h : xs[j]? = some x) : (xs.map f)[j]? = some (f x) := by
  rw [List.getElem?_map, h]
  rfl
theorem of_map_at {α β : Type} {f : α → β} {xs : List α} {j : Nat} {y : β} (h : (xs.map f)[j]? = some y) : ∃ x, xs[j]? = some x ∧ y = f x := by
  rw [List.getElem?_map] at h
  obtain ⟨x, hx, rfl⟩ := Option.map_eq_some_iff.mp h
  exact ⟨x, hx, rfl⟩
theorem at_lt {α : Type} {xs : List α} {j : Nat} {x : α} (h : xs[j]? = some x) : j < xs.length := (List.getElem?_eq_some_iff.mp h).1
theorem lt_at {α : Type} {xs : List α} {j : Nat} (h : j < xs.length) : ∃ x, xs[j]? = some x := ⟨xs[j], List.getElem?_eq_getElem h⟩
theorem drop_at {α : Type} {xs : List α} {j : Nat} {x : α} (h : xs[j]? = some x) : xs.drop j = x :: xs.drop (j + 1) := by
  obtain ⟨h1, h2⟩ := List.getElem?_eq_some_iff.mp h
  rw [List.drop_eq_getElem_cons h1, h2]
theorem snoc_map {α β : Type} {f : α → β} {xs : List α} {x : α} : xs.map f ++ [f x] = (xs ++ [x]).map f := by
  rw [List.map_append]
  rfl
theorem mem_snoc {α : Type} {P : α → Prop} {xs : List α} {x : α} (h : ∀ y ∈ xs, P y) (hx : P x) : ∀ y ∈ xs ++ [x], P y := fun y hy => by
  rcases List.mem_append.mp hy with hy | hy
  · exact h y hy
  · rw [List.mem_singleton.mp hy]
    exact hx

def upto (a b : Int) : List Int := (List.range (b - a).toNat).map fun i => a + (i : Nat)
theorem rgV_ints (a b : Int) : rgV a b = (upto a b).map V.int := by
  unfold rgV upto
  rw [List.map_map]
  rfl
theorem upto_len (a b : Int) : (upto a b).length = (b - a).toNat := by
  unfold upto
  rw [List.length_map, List.length_range]
def nRg (Q : VK) : Int → Int → Hp → Prop := fun a b H1 => RgOk a b ∧ ∀ q, H1 q = none → Q (.ref q) (upd H1 q (.lst (rgV a b)))
theorem x_lstRg {σ : L2.St} {H : Hp} {Q : VK} {te : L2.St → Hp → (Int → Int → Hp → Prop) → Prop} (q : te σ H (nRg Q)) : tLstRg te σ H Q := q
theorem x_rg1 {σ : L2.St} {H : Hp} {ta : TE} {R : Int → Int → Hp → Prop} (q : ta σ H fun x H1 => ∃ n, x = .int n ∧ R 0 n H1) : tRg1 ta σ H R := q
theorem x_nRg {H : Hp} {Q : VK} {a b : Int} (h : 0 ≤ a ∧ a ≤ 100000 ∧ 0 ≤ b ∧ b ≤ 100000) (k : ∀ p H2, Fr p H → Same H H2 → H2 p = some (.lst ((upto a b).map V.int)) → Q (.ref p) H2) : nRg Q a b H :=
  ⟨RgOk.of_le (by omega) (by omega) (by omega) (by omega), fun p hp => k p _ ⟨hp⟩ (same_new hp) (by rw [upd_same, rgV_ints])⟩
theorem upto_at {a b : Int} {j : Nat} (h : (j : Int) < b - a) : (upto a b)[j]? = some (a + j) := by
  unfold upto
  rw [List.getElem?_map, List.getElem?_range (by omega)]
  rfl

/-! ### data -/
def dInts (ns : List Int) : List PyData := ns.map PyData.int
theorem dp_ints {K : PySem.W.Frag} {H : Hp} : ∀ ns : List Int, DpAll K H (ns.map V.int) (dInts ns)
  | [] => .nil
  | n :: r => .cons (.int n) (dp_ints r)
theorem canLay_ints : ∀ ns : List Int, PyData.canLayAll0 (dInts ns) = true
  | [] => by simp [dInts, PyData.canLayAll0]
  | n :: r => by
    have h := canLay_ints r
    unfold dInts at h ⊢
    rw [List.map_cons]
    simp only [PyData.canLayAll0, PyData.canLay0, h, Bool.and_self]
theorem eqv_ints : ∀ ns ms : List Int, PyData.eqvAll (dInts ns) (dInts ms) = decide (ns = ms)
  | [], [] => by simp [dInts, PyData.eqvAll]
  | [], m :: r => by simp [dInts, PyData.eqvAll]
  | n :: r, [] => by simp [dInts, PyData.eqvAll]
  | n :: r, m :: q => by
    have h := eqv_ints r q
    unfold dInts at h ⊢
    rw [List.map_cons, List.map_cons, PyData.eqvAll, h, PyData.eqv]
    by_cases h1 : n = m <;> by_cases h2 : r = q <;> simp [h1, h2]
theorem depth_ints : ∀ ns : List Int, PyData.depthAll (dInts ns) = 0
  | [] => by simp [dInts, PyData.depthAll]
  | n :: r => by
    have h := depth_ints r
    unfold dInts at h ⊢
    rw [List.map_cons, PyData.depthAll, h, PyData.depth]
    rfl
theorem shaped_lints (ns : List Int) : SeqAt.shaped (.list (dInts ns)) = true := by
  unfold SeqAt.shaped
  rw [PyData.canLay0, canLay_ints, PyData.depth, depth_ints]
  rfl
theorem shaped_tints (ns : List Int) : SeqAt.shaped (.tuple (dInts ns)) = true := by
  unfold SeqAt.shaped
  rw [PyData.canLay0, canLay_ints, PyData.depth, depth_ints]
  rfl
theorem eqv_lints (ns ms : List Int) : PyData.eqv (.list (dInts ns)) (.list (dInts ms)) = decide (ns = ms) := by
  rw [PyData.eqv]
  exact eqv_ints ns ms
theorem eqv_tints (ns ms : List Int) : PyData.eqv (.tuple (dInts ns)) (.tuple (dInts ms)) = decide (ns = ms) := by
  rw [PyData.eqv]
  exact eqv_ints ns ms
section
variable {K : PySem.W.Frag} {H : Hp} {Q : VK} {a c : Addr} {ns ms : List Int}
theorem x_neInts (h : SqL K H a (ns.map V.int)) (h' : SqL K H c (ms.map V.int)) (q : Q (.bl (!decide (ns = ms))) H) : rNeD K (.ref a) (.ref c) H Q :=
  ⟨.list (dInts ns), .list (dInts ms), .lst h (dp_ints ns), .lst h' (dp_ints ms), shaped_lints ns, shaped_lints ms, by rw [eqv_lints]; exact q⟩
theorem x_eqInts (h : SqL K H a (ns.map V.int)) (h' : SqL K H c (ms.map V.int)) (q : Q (.bl (decide (ns = ms))) H) : rEqD K (.ref a) (.ref c) H Q :=
  ⟨.list (dInts ns), .list (dInts ms), .lst h (dp_ints ns), .lst h' (dp_ints ms), shaped_lints ns, shaped_lints ms, by rw [eqv_lints]; exact q⟩
theorem x_neTInts (h : SqT K H a (ns.map V.int)) (h' : SqT K H c (ms.map V.int)) (q : Q (.bl (!decide (ns = ms))) H) : rNeD K (.ref a) (.ref c) H Q :=
  ⟨.tuple (dInts ns), .tuple (dInts ms), .tup h (dp_ints ns), .tup h' (dp_ints ms), shaped_tints ns, shaped_tints ms, by rw [eqv_tints]; exact q⟩
theorem x_eqTInts (h : SqT K H a (ns.map V.int)) (h' : SqT K H c (ms.map V.int)) (q : Q (.bl (decide (ns = ms))) H) : rEqD K (.ref a) (.ref c) H Q :=
  ⟨.tuple (dInts ns), .tuple (dInts ms), .tup h (dp_ints ns), .tup h' (dp_ints ms), shaped_tints ns, shaped_tints ms, by rw [eqv_tints]; exact q⟩
end
end Xk

local macro_rules | `(tactic| wtm_at "neq") => `(tactic| (first | assumption | exact Ne.symm (by assumption) | exact Xk.ne_new (by assumption) (by wtm_at "hx") | exact (Xk.ne_new (by assumption) (by wtm_at "hx")).symm | fail "neq"))
local macro_rules | `(tactic| wtm_at "hx") => `(tactic| (first | assumption | exact L2.upd_same | ((refine' (L2.upd_ne ?un).trans ?uh); (case un => wtm_at "neq"); (case uh => wtm_at "hx")) | ((refine' Xk.same_at ?ue ?uh); (case ue => assumption); (case uh => wtm_at "hx")) | ((refine' Xk.but_at ?ue ?un ?uh); (case ue => assumption); (case un => wtm_at "neq"); (case uh => wtm_at "hx")) | fail "hx"))
local macro_rules | `(tactic| wtm_at "free") => `(tactic| (first | assumption | ((refine' Xk.free_back ?uh ?ue); (case uh => assumption); (case ue => wtm_at "sm")) | ((refine' Xk.free_back ?uh ?ue); (case uh => (refine' Xk.fr_upd ?uf; case uf => assumption)); (case ue => wtm_at "sm")) | fail "free"))
local macro_rules | `(tactic| wtm_at "sm") => `(tactic| (first | assumption | exact L2.Same.refl _ | ((refine' Xk.same_mut ?ue ?uh); (case ue => wtm_at "sm"); (case uh => wtm_at "free")) | ((refine' L2.Same.trans ?ue ?uh); (case uh => assumption); (case ue => wtm_at "sm")) | ((refine' Xk.same_but ?ue ?uh ?us); (case ue => assumption); (case uh => wtm_at "free"); (case us => wtm_at "sm")) | fail "sm"))
local macro_rules | `(tactic| wtm_at "bm") => `(tactic| (first | assumption | exact Xk.But.refl _ _ | ((refine' Xk.but_mut ?ue); (case ue => wtm_at "bm")) | ((refine' Xk.but_new ?ue ?uh); (case ue => wtm_at "bm"); (case uh => wtm_at "free")) | ((refine' Xk.but_trans ?ue ?uh); (case uh => assumption); (case ue => wtm_at "bm")) | ((refine' Xk.but_trans ?ue (Xk.but_same ?uh)); (case uh => assumption); (case ue => wtm_at "bm")) | fail "bm"))
local macro_rules | `(tactic| wtm_at "sq") => `(tactic| (first | assumption | exact Xk.sq_of (by wtm_at "hx") | ((refine' Xk.sq_same ?uh ?ue); (case uh => assumption); (case ue => wtm_at "sm")) | fail "sq"))
local macro_rules | `(tactic| wtm_at "st") => `(tactic| (first | assumption | exact Xk.st_of (by wtm_at "hx") | ((refine' Xk.st_same ?uh ?ue); (case uh => assumption); (case ue => wtm_at "sm")) | fail "st"))
local macro_rules | `(tactic| wtm_at "side") => `(tactic| (first | assumption | decide | omega | (refine Or.inr ?_; omega) | (refine Or.inl ?_; omega) | (refine ⟨?_, ?_⟩ <;> omega) | (refine ⟨?_, ?_, ?_⟩ <;> first | omega | decide) | fail "side"))
local macro_rules | `(tactic| wtm_at "len") => `(tactic| (first | omega | (simp only [List.length_map, List.length_append, List.length_cons, List.length_nil, List.length_set, List.length_replicate] at *; omega) | fail "len"))
local macro_rules | `(tactic| wtm_at "x") => `(tactic| (first
  | ((with_reducible refine' Xk.x_var ?a1 ?_); (case a1 => exact rfl))
  | (with_reducible refine Xk.x_c ?_)
  | (with_reducible refine Xk.x_op ?_)
  | (with_reducible refine Xk.x_I0 ?_)
  | ((with_reducible refine' Xk.x_I ?a1 ?_); (case a1 => wtm_at "side"))
  | (with_reducible refine Xk.x_cons ?_)
  | (with_reducible refine Xk.x_nil ?_)
  | (with_reducible refine Xk.x_cb ?_)
  | (with_reducible refine Xk.x_call ?_)
  | (with_reducible refine Xk.x_sasg ?_)
  | (with_reducible refine Xk.x_asg ?_)
  | (with_reducible refine Xk.x_ret ?_)
  | (with_reducible refine Xk.x_test ?_)
  | (with_reducible refine Xk.x_bl ?_)
  | (with_reducible refine Xk.x_isI ?_)
  | (with_reducible refine Xk.x_sif ?_)
  | (with_reducible refine Xk.x_ifS ?_)
  | (with_reducible refine Xk.x_and ?_)
  | (with_reducible refine Xk.x_or ?_)
  | (with_reducible refine Xk.x_not ?_)
  | (with_reducible refine Xk.x_B ?_)
  | (with_reducible refine Xk.x_nInt ?_)
  | (with_reducible refine Xk.x_nIntB ?_)
  | ((with_reducible refine' Xk.x_lenL ?a1 ?_); (case a1 => wtm_at "sq"))
  | ((with_reducible refine' Xk.x_lenT ?a1 ?_); (case a1 => wtm_at "st"))
  | (with_reducible refine Xk.x_un ?_)
  | (with_reducible refine Xk.x_U ?_)
  | ((with_reducible refine' Xk.x_eq ?a1 ?_); (case a1 => exact rfl))
  | ((with_reducible refine' Xk.x_ne ?a1 ?_); (case a1 => exact rfl))
  | ((with_reducible refine' Xk.x_ixL ?a1 ?a2 ?_); (case a1 => wtm_at "sq"); (case a2 => first | exact rfl | assumption | exact Xk.at_nat rfl (Xk.map_at (by assumption)) | exact Xk.at_nat rfl (by assumption)))
  | ((with_reducible refine' Xk.x_ixT ?a1 ?a2 ?_); (case a1 => wtm_at "st"); (case a2 => first | exact rfl | assumption | exact Xk.at_nat rfl (Xk.map_at (by assumption)) | exact Xk.at_nat rfl (by assumption)))
  | (with_reducible refine Xk.x_lst ?_)
  | (with_reducible refine Xk.x_tup ?_)
  | ((with_reducible refine' Xk.x_new ?a1 ?_); (case a1 => wtm_at "len"))
  | ((with_reducible refine' Xk.x_listL ?a1 ?_); (case a1 => wtm_at "sq"))
  | ((with_reducible refine' Xk.x_listT ?a1 ?_); (case a1 => wtm_at "st"))
  | ((with_reducible refine' Xk.x_tupleL ?a1 ?_); (case a1 => wtm_at "sq"))
  | ((with_reducible refine' Xk.x_tupleT ?a1 ?_); (case a1 => wtm_at "st"))
  | (with_reducible refine Xk.x_seq ?_)
  | (with_reducible refine Xk.x_next ?_)
  | (with_reducible refine Xk.x_sdrop ?_)
  | (with_reducible refine Xk.x_drop ?_)
  | (with_reducible refine Xk.x_bm ?_)
  | (with_reducible refine Xk.x_bm0 ?_)
  | ((with_reducible refine' Xk.x_tyL ?a1 ?_); (case a1 => wtm_at "sq"))
  | ((with_reducible refine' Xk.x_app ?a1 ?a2 ?_); (case a1 => wtm_at "hx"); (case a2 => wtm_at "len"))
  | (with_reducible refine Xk.x_sasgG ?_)
  | (with_reducible refine Xk.x_asgG ?_)
  | (with_reducible refine Xk.x_gName ?_)
  | ((with_reducible refine' Xk.x_gTup ?a1 ?a2 ?_); (case a1 => wtm_at "st"); (case a2 => exact rfl))
  | ((with_reducible refine' Xk.x_gLst ?a1 ?a2 ?_); (case a1 => wtm_at "sq"); (case a2 => exact rfl))
  | (with_reducible refine Xk.x_gCons ?_)
  | (with_reducible refine Xk.x_gNil ?_)
  | (with_reducible refine Xk.x_gSub ?_)
  | (with_reducible refine Xk.x_if ?_)
  | (with_reducible refine Xk.x_andV ?_)
  | (with_reducible refine Xk.x_orV ?_)
  | (with_reducible refine Xk.x_notV ?_)
  | (with_reducible refine Xk.x_chain ?_)
  | (with_reducible refine Xk.x_yes ?_)
  | (with_reducible refine Xk.x_sl ?_)
  | (with_reducible refine Xk.x_nopart ?_)
  | (with_reducible refine Xk.x_part ?_)
  | ((with_reducible refine' Xk.x_slL ?a1 ?_); (case a1 => wtm_at "sq"))
  | ((with_reducible refine' Xk.x_saug ?a1 ?_); (case a1 => exact rfl))
  | ((with_reducible refine' Xk.x_aug ?a1 ?_); (case a1 => exact rfl))
  | (with_reducible refine Xk.x_ipI ?_)
  | ((with_reducible refine' Xk.x_isiInt ?a1 ?_); (case a1 => first | exact Xk.kit_T (by decide +kernel) | exact Xk.kit_F (by decide +kernel)))
  | ((with_reducible refine' Xk.x_isiBl ?a1 ?_); (case a1 => first | exact Xk.kit_T (by decide +kernel) | exact Xk.kit_F (by decide +kernel)))
  | ((with_reducible refine' Xk.x_isiStr ?a1 ?_); (case a1 => first | exact Xk.kit_T (by decide +kernel) | exact Xk.kit_F (by decide +kernel)))
  | ((with_reducible refine' Xk.x_isiNon ?a1 ?_); (case a1 => first | exact Xk.kit_T (by decide +kernel) | exact Xk.kit_F (by decide +kernel)))
  | ((with_reducible refine' Xk.x_isiLst ?a1 ?a2 ?_); (case a1 => wtm_at "hx"); (case a2 => first | exact Xk.kit_T (by decide +kernel) | exact Xk.kit_F (by decide +kernel)))
  | ((with_reducible refine' Xk.x_isiTup ?a1 ?a2 ?_); (case a1 => wtm_at "hx"); (case a2 => first | exact Xk.kit_T (by decide +kernel) | exact Xk.kit_F (by decide +kernel)))
  | (with_reducible refine Xk.x_forR1 ?_)
  | (with_reducible refine Xk.x_forL1 ?_)
  | (with_reducible refine Xk.x_forT1 ?_)
  | (with_reducible refine Xk.x_brk ?_)
  | (with_reducible refine Xk.x_ct ?_)
  | (with_reducible refine Xk.x_retN ?_)
  | (with_reducible refine Xk.x_lcL1 ?_)
  | (with_reducible refine Xk.x_lcT1 ?_)
  | (with_reducible refine Xk.x_lcR1 ?_)
  | (with_reducible refine Xk.x_lstRg ?_)
  | (with_reducible refine Xk.x_rg1 ?_)
  | ((with_reducible refine' Xk.x_nRg ?a1 ?_); (case a1 => omega))
  | (with_reducible refine L2.iteT ?_)
  | (with_reducible refine L2.iteF ?_)
  | (with_reducible refine Xk.x_nT ?_)
  | (with_reducible refine Xk.x_nF ?_)
  | ((with_reducible refine' Xk.x_dY ?a1 ?_); (case a1 => first | exact rfl | assumption | omega))
  | ((with_reducible refine' Xk.x_dN ?a1 ?_); (case a1 => first | assumption | omega | (intro z; cases z; done)))
  | ((with_reducible refine' Xk.x_ndY ?a1 ?_); (case a1 => first | exact rfl | assumption | omega))
  | ((with_reducible refine' Xk.x_ndN ?a1 ?_); (case a1 => first | assumption | omega | (intro z; cases z; done)))
  | fail "x"))
local macro_rules | `(tactic| wtm_at "xs") => `(tactic| ((repeat wtm_at "x"); try dsimp only [L2.wipe, List.set, List.append_nil, List.cons_append, List.nil_append]))
local macro_rules | `(tactic| wtm_at "x0") => `(tactic| (dsimp only [L2.cxOf, L2.start, List.map, List.length, List.replicate, Nat.reduceAdd, Nat.reduceSub, List.cons_append, List.nil_append]))
local macro_rules | `(tactic| wtm_at "xc") => `(tactic| (dsimp only [L2.wipe, List.set, List.append_nil, List.cons_append, List.nil_append]))

namespace K30
open PySem PySem.Spec PyProof.Rows L2
def topS (i : Nat) : Stmt := PySem.Challenge.pw_crosskeep_k30_ballots_and_members.main.body.getD i (.Pass ⟨0, 0, 0, 0⟩)
abbrev s_is_members : Stmt := topS 5
abbrev N_is_members : List Str := ["members", "size", "index"]
theorem sc_is_members : FnScope ["members", "size", "index"] ["members", "size"] (defScope s_is_members) := ⟨rfl, rfl, rfl, by decide +kernel, rfl, by decide +kernel, by decide +kernel⟩
abbrev s_more_than_half : Stmt := topS 6
abbrev N_more_than_half : List Str := ["members", "indexes", "member"]
theorem sc_more_than_half : FnScope ["members", "indexes", "member"] ["members", "indexes"] (defScope s_more_than_half) := ⟨rfl, rfl, rfl, by decide +kernel, rfl, by decide +kernel, by decide +kernel⟩
abbrev s_next_ballot : Stmt := topS 7
abbrev N_next_ballot : List Str := ["after", "index"]
theorem sc_next_ballot : FnScope ["after", "index"] ["after", "index"] (defScope s_next_ballot) := ⟨rfl, rfl, rfl, by decide +kernel, rfl, by decide +kernel, by decide +kernel⟩
abbrev s__law_row : Stmt := topS 9
abbrev N__law_row : List Str := ["script", "k", "cell", "first", "second"]
theorem sc__law_row : FnScope ["script", "k", "cell", "first", "second"] ["script", "k"] (defScope s__law_row) := ⟨rfl, rfl, rfl, by decide +kernel, rfl, by decide +kernel, by decide +kernel⟩
abbrev s__law_take : Stmt := topS 10
abbrev N__law_take : List Str := ["box", "size", "digit"]
theorem sc__law_take : FnScope ["box", "size", "digit"] ["box", "size"] (defScope s__law_take) := ⟨rfl, rfl, rfl, by decide +kernel, rfl, by decide +kernel, by decide +kernel⟩
abbrev s__law_members : Stmt := topS 11
abbrev N__law_members : List Str := ["box", "size", "members", "index"]
theorem sc__law_members : FnScope ["box", "size", "members", "index"] ["box", "size"] (defScope s__law_members) := ⟨rfl, rfl, rfl, by decide +kernel, rfl, by decide +kernel, by decide +kernel⟩
abbrev s__law_are : Stmt := topS 12
abbrev N__law_are : List Str := ["row", "size", "k"]
theorem sc__law_are : FnScope ["row", "size", "k"] ["row", "size"] (defScope s__law_are) := ⟨rfl, rfl, rfl, by decide +kernel, rfl, by decide +kernel, by decide +kernel⟩
abbrev s__law_tells : Stmt := topS 13
abbrev N__law_tells : List Str := ["row", "size", "told"]
theorem sc__law_tells : FnScope ["row", "size", "told"] ["row", "size"] (defScope s__law_tells) := ⟨rfl, rfl, rfl, by decide +kernel, rfl, by decide +kernel, by decide +kernel⟩
abbrev s__law_halves : Stmt := topS 14
abbrev N__law_halves : List Str := ["members", "indexes", "count", "index", "passed", "told"]
theorem sc__law_halves : FnScope ["members", "indexes", "count", "index", "passed", "told"] ["members", "indexes"] (defScope s__law_halves) := ⟨rfl, rfl, rfl, by decide +kernel, rfl, by decide +kernel, by decide +kernel⟩
abbrev s_law : Stmt := topS 15
abbrev N_law : List Str := ["script", "k", "box", "size", "members", "row", "indexes", "after", "due", "j"]
theorem sc_law : FnScope ["script", "k", "box", "size", "members", "row", "indexes", "after", "due", "j"] ["script"] (defScope s_law) := ⟨rfl, rfl, rfl, by decide +kernel, rfl, by decide +kernel, by decide +kernel⟩
structure Txt (K : PySem.W.Frag) (mg : Str → Option Value) where
  f_is_members : Addr
  d_is_members : FuncData
  F_is_members : Fun K "is_members" "is_members" s_is_members f_is_members d_is_members
  b_is_members : Binds K d_is_members ["members", "size"] []
  g_is_members : mg "is_members" = some (.ref f_is_members)
  f_more_than_half : Addr
  d_more_than_half : FuncData
  F_more_than_half : Fun K "more_than_half" "more_than_half" s_more_than_half f_more_than_half d_more_than_half
  b_more_than_half : Binds K d_more_than_half ["members", "indexes"] []
  g_more_than_half : mg "more_than_half" = some (.ref f_more_than_half)
  f_next_ballot : Addr
  d_next_ballot : FuncData
  F_next_ballot : Fun K "next_ballot" "next_ballot" s_next_ballot f_next_ballot d_next_ballot
  b_next_ballot : Binds K d_next_ballot ["after", "index"] []
  g_next_ballot : mg "next_ballot" = some (.ref f_next_ballot)
  f__law_row : Addr
  d__law_row : FuncData
  F__law_row : Fun K "_law_row" "_law_row" s__law_row f__law_row d__law_row
  b__law_row : Binds K d__law_row ["script", "k"] []
  g__law_row : mg "_law_row" = some (.ref f__law_row)
  f__law_take : Addr
  d__law_take : FuncData
  F__law_take : Fun K "_law_take" "_law_take" s__law_take f__law_take d__law_take
  b__law_take : Binds K d__law_take ["box", "size"] []
  g__law_take : mg "_law_take" = some (.ref f__law_take)
  f__law_members : Addr
  d__law_members : FuncData
  F__law_members : Fun K "_law_members" "_law_members" s__law_members f__law_members d__law_members
  b__law_members : Binds K d__law_members ["box", "size"] []
  g__law_members : mg "_law_members" = some (.ref f__law_members)
  f__law_are : Addr
  d__law_are : FuncData
  F__law_are : Fun K "_law_are" "_law_are" s__law_are f__law_are d__law_are
  b__law_are : Binds K d__law_are ["row", "size"] []
  g__law_are : mg "_law_are" = some (.ref f__law_are)
  f__law_tells : Addr
  d__law_tells : FuncData
  F__law_tells : Fun K "_law_tells" "_law_tells" s__law_tells f__law_tells d__law_tells
  b__law_tells : Binds K d__law_tells ["row", "size"] []
  g__law_tells : mg "_law_tells" = some (.ref f__law_tells)
  f__law_halves : Addr
  d__law_halves : FuncData
  F__law_halves : Fun K "_law_halves" "_law_halves" s__law_halves f__law_halves d__law_halves
  b__law_halves : Binds K d__law_halves ["members", "indexes"] []
  g__law_halves : mg "_law_halves" = some (.ref f__law_halves)
  f_law : Addr
  d_law : FuncData
  F_law : Fun K "law" "law" s_law f_law d_law
  b_law : Binds K d_law ["script"] []
  g_law : mg "law" = some (.ref f_law)
  t_MOST_INDEX : Tok
  g_MOST_INDEX : mg "MOST_INDEX" = some (.int 6 t_MOST_INDEX)
  t_MOST_MEMBERS : Tok
  g_MOST_MEMBERS : mg "MOST_MEMBERS" = some (.int 5 t_MOST_MEMBERS)
  t_MOST_ROUND : Tok
  g_MOST_ROUND : mg "MOST_ROUND" = some (.int 9999 t_MOST_ROUND)
  a_NO_BALLOT : Addr
  g_NO_BALLOT : mg "NO_BALLOT" = some (.ref a_NO_BALLOT)
  l_NO_BALLOT : ∀ H : Hp, SqT K H a_NO_BALLOT [.int 0, .int 0]
  m_all : mg "all" = none
  m_bool : mg "bool" = none
  m_int : mg "int" = none
  m_isinstance : mg "isinstance" = none
  m_len : mg "len" = none
  m_list : mg "list" = none
  m_range : mg "range" = none
  m_set : mg "set" = none
  m_sorted : mg "sorted" = none
  m_tuple : mg "tuple" = none
section
variable {P : Program} {w : World} {K : PySem.W.Frag} {mg : Str → Option Value} {base : Heap}
def sp__law_row (K : PySem.W.Frag) : Sp := fun vs H Q _ => ∃ (a : Addr) (k : Int) (ns : List Int), vs = [.ref a, .int k] ∧ SqL K H a (ns.map V.int) ∧ ns.length ≤ 63 ∧ 0 ≤ k ∧ k ≤ 1000 ∧ ∀ n : Int, 0 ≤ n → Q (.int n) H
theorem ok__law_row (T : Txt K mg) : FnOk P w K mg base CX0 1 T.f__law_row T.d__law_row ["script", "k"] (sp__law_row K) := by
  refine T.F__law_row.ok sc__law_row (fun vs H Q E h => ?_) (fun cdv A outer s H vs Q E hr h => ?_)
  · obtain ⟨a, k, ns, rfl, _⟩ := h
    rfl
  obtain ⟨a, k, ns, rfl, hS, hl, hk, hk2, q⟩ := h
  refine ⟨_, (pss_cons (ps_set (i := 2) sc__law_row.nd rfl (Or.inl rfl) (pe_int))
      (Evl.pss_cut (ps_if (pt_cmpR op_gt (pe_callB (Xk.k_len (K := K) (by rfl)) (by rfl) T.m_len PySem.boot_len (pa_cons (pv 0) pa_nil)) (pe_int) (nomark _)) (pss_one (ps_set (i := 2) sc__law_row.nd rfl (Or.inl rfl) (pe_ix (Xk.k_ixL (K := K) (by rfl)) (pv 0) (pe_op op_mod (pe_callTy Xk.call_nInt (by rfl) T.m_int (by decide +kernel) (pa_cons (pv 1) pa_nil)) (pe_callB (Xk.k_len (K := K) (by rfl)) (by rfl) T.m_len PySem.boot_len (pa_cons (pv 0) pa_nil))) (fun _ _ => rfl)))) pss_nil)
      (Evl.pss_cut (ps_if (pt_cmpR op_lt (pv 2) (pe_int) (nomark _)) (pss_one (ps_set (i := 2) sc__law_row.nd rfl (Or.inl rfl) (pe_op op_sub (pe_int) (pe_op op_mul (pe_int) (pv 2))))) pss_nil)
      (Evl.pss_cut (ps_if (PW.pt (pw_and (pt_cmpR op_ge (pv 2) (pe_op op_pow (pe_int) (pe_int)) (nomark _)) (pw_and1 (pt_cmpR op_lt (pv 1) (pe_callB (Xk.k_len (K := K) (by rfl)) (by rfl) T.m_len PySem.boot_len (pa_cons (pv 0) pa_nil)) (nomark _))))) (pss_one (ps_ret (pv 2))) pss_nil)
      (pss_cons (ps_set (i := 3) sc__law_row.nd rfl (Or.inl rfl) (pe_op op_mod (pe_callTy Xk.call_nInt (by rfl) T.m_int (by decide +kernel) (pa_cons (pe_op op_add (pe_op op_add (pe_op op_mul (pv 2) (pe_int)) (pe_op op_mul (pe_op op_add (pv 1) (pe_int)) (pe_int))) (pe_callB (Xk.k_len (K := K) (by rfl)) (by rfl) T.m_len PySem.boot_len (pa_cons (pv 0) pa_nil))) pa_nil)) (pe_int)))
      (pss_cons (ps_set (i := 4) sc__law_row.nd rfl (Or.inl rfl) (pe_op op_mod (pe_callTy Xk.call_nInt (by rfl) T.m_int (by decide +kernel) (pa_cons (pe_op op_add (pe_op op_add (pe_op op_mul (pv 3) (pv 3)) (pe_op op_mul (pv 2) (pe_int))) (pv 1)) pa_nil)) (pe_int)))
      (pss_one (ps_ret (pe_op op_add (pe_op op_mul (pv 4) (pe_int)) (pe_op op_mod (pe_callTy Xk.call_nInt (by rfl) T.m_int (by decide +kernel) (pa_cons (pe_op op_mul (pv 3) (pe_int)) pa_nil)) (pe_int))))))))))), ?_⟩
  wtm_at "x0"
  wtm_at "xs"
  refine Xk.x_cut (fun σ' H' => H = H' ∧ ∃ c : Int, σ' = [some (.ref a), some (.int k), some (.int c), none, none]) ?_ ?_
  · wtm_at "xs"
    refine Xk.x_itd (fun h => ?_) (fun h => ?_)
    · wtm_at "xs"
      rw [List.length_map] at h ⊢
      have h1 : k % (ns.length : Int) < ns.length := Int.emod_lt_of_pos _ h
      have h2 : 0 ≤ k % (ns.length : Int) := Int.emod_nonneg _ (by omega)
      obtain ⟨j, hj⟩ := Int.eq_ofNat_of_zero_le h2
      rw [hj] at h1 ⊢
      have h3 : j < ns.length := by omega
      refine Xk.x_ixL hS (atI_nat (j := j) (by rw [List.getElem?_map, List.getElem?_eq_getElem h3]; rfl)) ?_
      exact ⟨rfl, _, rfl⟩
    · wtm_at "xs"
      exact ⟨rfl, _, rfl⟩
  rintro σ' H' ⟨rfl, c, rfl⟩
  refine Xk.x_cut (fun σ' H' => H = H' ∧ ∃ c : Int, 0 ≤ c ∧ σ' = [some (.ref a), some (.int k), some (.int c), none, none]) ?_ ?_
  · wtm_at "xs"
    refine Xk.x_itd (fun h => ?_) (fun h => ?_)
    · wtm_at "xs"
      exact ⟨rfl, _, by omega, rfl⟩
    · wtm_at "xs"
      exact ⟨rfl, _, by omega, rfl⟩
  rintro σ' H' ⟨rfl, c, hc, rfl⟩
  refine Xk.x_cut (fun σ' H' => H = H' ∧ σ' = [some (.ref a), some (.int k), some (.int c), none, none]) ?_ ?_
  · wtm_at "xs"
    refine Xk.x_itd (fun h => ?_) (fun h => ?_)
    · wtm_at "xs"
      refine Xk.x_itd (fun h => ?_) (fun h => ?_)
      · wtm_at "xs"
        exact q _ hc
      · wtm_at "xs"
        exact ⟨rfl, rfl⟩
    · wtm_at "xs"
      exact ⟨rfl, rfl⟩
  rintro σ' H' ⟨rfl, rfl⟩
  wtm_at "xs"
  exact q _ (by omega)
def sp__law_take (K : PySem.W.Frag) : Sp := fun vs H Q _ => ∃ (a : Addr) (z n : Int), vs = [.ref a, .int z] ∧ H a = some (.lst [.int n]) ∧ 0 < z ∧ z < 1073741824 ∧ (0 ≤ n % z → n % z < z → Q (.int (n % z)) (upd H a (.lst [.int (n / z)])))
theorem ok__law_take (T : Txt K mg) : FnOk P w K mg base CX0 1 T.f__law_take T.d__law_take ["box", "size"] (sp__law_take K) := by
  refine T.F__law_take.ok sc__law_take (fun vs H Q E h => ?_) (fun cdv A outer s H vs Q E hr h => ?_)
  · obtain ⟨a, z, n, rfl, _⟩ := h
    rfl
  obtain ⟨a, z, n, rfl, hb, h0, h1, q⟩ := h
  refine ⟨_, (pss_cons (ps_set (i := 2) sc__law_take.nd rfl (Or.inl rfl) (pe_op op_mod (pe_callTy Xk.call_nInt (by rfl) T.m_int (by decide +kernel) (pa_cons (pe_ix (Xk.k_ixL (K := K) (by rfl)) (pv 0) (pe_int) (fun _ _ => rfl)) pa_nil)) (pv 1)))
      (pss_cons (ps_asg (pe_op op_fdiv (pe_ix (Xk.k_ixL (K := K) (by rfl)) (pv 0) (pe_int) (fun _ _ => rfl)) (pv 1)) (pg_sub (pv 0) (pe_int) set_list))
      (pss_one (ps_ret (pv 2))))), ?_⟩
  wtm_at "x0"
  wtm_at "xs"
  refine Xk.x_setL (j := 0) hb rfl ?_
  wtm_at "xs"
  exact q (Int.emod_nonneg _ (by omega)) (Int.emod_lt_of_pos _ h0)
theorem asc_eq : ∀ {xs ys : List Int}, xs.Pairwise (· < ·) → ys.Pairwise (· < ·) → (∀ x, x ∈ ys ↔ x ∈ xs) → xs = ys
  | [], [], _, _, _ => rfl
  | [], y :: r, _, _, h => absurd ((h y).mp List.mem_cons_self) List.not_mem_nil
  | x :: r, [], _, _, h => absurd ((h x).mpr List.mem_cons_self) List.not_mem_nil
  | x :: r, y :: t, hx, hy, h => by
    obtain ⟨hx1, hx2⟩ := List.pairwise_cons.mp hx
    obtain ⟨hy1, hy2⟩ := List.pairwise_cons.mp hy
    have e : x = y := by
      rcases List.mem_cons.mp ((h x).mpr List.mem_cons_self) with e | e
      · exact e
      · rcases List.mem_cons.mp ((h y).mp List.mem_cons_self) with e2 | e2
        · exact e2.symm
        · have a1 := hy1 x e
          have a2 := hx1 y e2
          omega
    subst e
    rw [asc_eq hx2 hy2 fun z => ?_]
    constructor
    · intro hz
      rcases List.mem_cons.mp ((h z).mp (List.mem_cons_of_mem _ hz)) with e2 | e2
      · have a1 := hy1 z hz
        omega
      · exact e2
    · intro hz
      rcases List.mem_cons.mp ((h z).mpr (List.mem_cons_of_mem _ hz)) with e2 | e2
      · have a1 := hx1 z hz
        omega
      · exact e2
theorem asc_at {xs : List Int} (h : xs.Pairwise (· < ·)) {i j : Nat} {x y : Int} (hi : xs[i]? = some x) (hj : xs[j]? = some y) (hij : i < j) : x < y := by
  obtain ⟨h1, rfl⟩ := List.getElem?_eq_some_iff.mp hi
  obtain ⟨h2, rfl⟩ := List.getElem?_eq_some_iff.mp hj
  exact List.pairwise_iff_getElem.mp h i j h1 h2 hij
theorem asc_last {xs : List Int} {i : Nat} (h : (xs.take i).Pairwise (· < ·)) {w u : Int} (hw : xs[i - 1]? = some w) (h0 : 0 < i) (hu : u ∈ xs.take i) : u = w ∨ u < w := by
  obtain ⟨j, hj⟩ := List.getElem?_of_mem hu
  have hjl := (List.getElem?_eq_some_iff.mp hj).1
  rw [List.length_take] at hjl
  have hw2 : (xs.take i)[i - 1]? = some w := by
    rw [List.getElem?_take_of_lt (by omega)]
    exact hw
  by_cases e : j = i - 1
  · subst e
    exact .inl (Option.some.inj (hj.symm.trans hw2))
  · exact .inr (asc_at h hj hw2 (by omega))
def IsM (ms : List Int) (z : Int) : Prop := 1 ≤ ms.length ∧ ms.length ≤ 5 ∧ ms.Pairwise (· < ·) ∧ ∀ x ∈ ms, 0 ≤ x ∧ x ≤ 6 ∧ x < z
def sp_is_members (K : PySem.W.Frag) : Sp := fun vs H Q _ => ∃ (a : Addr) (z : Int) (ms : List Int), vs = [.ref a, .int z] ∧ SqT K H a (ms.map V.int) ∧ ms.length ≤ 50 ∧ ∀ H' b, Same H H' → (b = true ↔ IsM ms z) → Q (.bl b) H'
theorem ok_is_members (T : Txt K mg) : FnOk P w K mg base CX0 1 T.f_is_members T.d_is_members ["members", "size"] (sp_is_members K) := by
  refine T.F_is_members.ok sc_is_members (fun vs H Q E h => ?_) (fun cdv A outer s H vs Q E hr h => ?_)
  · obtain ⟨a, z, ms, rfl, _⟩ := h
    rfl
  obtain ⟨a, z, ms, rfl, hS, hl, q⟩ := h
  refine ⟨_, (Evl.pss_cut (ps_if (PW.pt (pw_or (pt_not (pt_chain op_le op_le (pe_int) (pe_callB (Xk.k_len (K := K) (by rfl)) (by rfl) T.m_len PySem.boot_len (pa_cons (pv 0) pa_nil)) (pe_glob (by rfl) T.g_MOST_MEMBERS Xk.rel_int))) (pw_or1 (pt_cmpR (Xk.k_neD (K := K) hr.units (by rfl)) (pe_callTy (Xk.k_list (K := K) (by rfl)) (by rfl) T.m_list (by decide +kernel) (pa_cons (pv 0) pa_nil)) (pe_callB (Xk.k_sortedSet (w := w) rfl (by rfl)) (by rfl) T.m_sorted (by decide +kernel) (pa_cons (pe_callTy (Xk.k_setOfI (K := K) (w := w) rfl (by rfl) (by rfl)) (by rfl) T.m_set (by decide +kernel) (pa_cons (pv 0) pa_nil)) pa_nil)) (nomark _))))) (pss_one (ps_ret (pe_bl))) pss_nil)
      (pss_one (ps_ret (pe_callB (Xk.k_all (K := K) rfl (by rfl)) (by rfl) T.m_all (by decide +kernel) (pa_cons (pe_lc (own := [("index", 2)]) (g := gName 2) (tt := tYes) rfl sc_is_members.nd  (pi_tup (pv 0)) (blkOk_by (N := N_is_members) (sc := defScope s_is_members) (own := [("index", 2)]) (by decide +kernel)) (fun _ _ _ _ _ => pg_name (i := 2) sc_is_members.nd rfl (Or.inl rfl)) (fun _ _ _ _ _ => pts_nil) (fun _ _ _ _ _ => ((pe_and (pe_chain op_le op_le (pe_int) (pv 2) (pe_glob (by rfl) T.g_MOST_INDEX Xk.rel_int)) (pe_one (pe_cmpR op_lt (pv 2) (pv 1) (nomark _))))))) pa_nil))))), ?_⟩
  wtm_at "x0"
  refine Xk.x_cut (fun σ' H' => Same H H' ∧ σ' = [some (V.ref a), some (V.int z), none] ∧ 1 ≤ ms.length ∧ ms.length ≤ 5 ∧ ms.Pairwise (· < ·)) ?_ ?_
  · wtm_at "xs"
    refine Xk.x_itd (fun h1 => ?_) (fun h1 => ?_)
    · wtm_at "xs"
      rw [List.length_map] at h1 ⊢
      refine Xk.x_itnb (fun h => ?_) (fun h => ?_)
      · wtm_at "xs"
        refine q _ _ (Same.refl _) ⟨fun z => (by cases z), fun hm => ?_⟩
        have h2 := of_decide_eq_false h
        have h3 := hm.2.1
        omega
      · have h2 := of_decide_eq_true h
        wtm_at "xs"
        intro l H1 hl1 s1 h3
        wtm_at "xs"
        refine Xk.x_setOfI (by wtm_at "st") (by omega) fun e H2 n he s2 h4 hn => ?_
        wtm_at "xs"
        refine Xk.x_sortedSet h4 (by omega) fun p H3 ns hp1 hp2 hp3 hp s3 h5 => ?_
        wtm_at "xs"
        refine Xk.x_neInts (by wtm_at "sq") (by wtm_at "sq") ?_
        wtm_at "xs"
        refine Xk.x_itn (fun h6 => ?_) (fun h6 => ?_)
        · wtm_at "xs"
          refine q _ _ (by wtm_at "sm") ⟨fun z => (by cases z), fun hm => ?_⟩
          refine absurd (asc_eq hm.2.2.1 hp1 fun x => ?_) h6
          rw [hp2, decide_eq_true_eq]
        · wtm_at "xs"
          subst h6
          exact ⟨by wtm_at "sm", rfl, by omega, by omega, hp1⟩
    · wtm_at "xs"
      refine q _ _ (Same.refl _) ⟨fun z => (by cases z), fun hm => ?_⟩
      have h3 := hm.1
      rw [List.length_map] at h1
      omega
  · rintro σ' H1 ⟨s1, rfl, c1, c2, c3⟩
    wtm_at "xs"
    refine Xk.x_lcT (xs := ms.map V.int) (fun Dl i H' => Same H1 H' ∧ ∃ bs : List Bool, H' Dl = some (.lst (bs.map V.bl)) ∧ bs = (ms.take i).map fun x => decide (0 ≤ x) && (decide (x ≤ 6) && decide (x < z))) (by wtm_at "st") ?_ ?_ ?_ ?_
    · intro Dl hD
      exact ⟨Xk.same_fr hD, [], upd_same, rfl⟩
    · rintro Dl i H' hD ⟨s2, _⟩
      wtm_at "st"
    · rintro Dl hD i x H' hi ⟨s2, bs, h2, hb⟩
      obtain ⟨m, hm, rfl⟩ := Xk.of_map_at hi
      have hi2 := Xk.at_lt hm
      wtm_at "xs"
      refine ⟨rfl, ?_⟩
      have nx : ∀ c : Bool, c = (decide (0 ≤ m) && (decide (m ≤ 6) && decide (m < z))) → Same H1 (upd H' Dl (.lst (bs.map V.bl ++ [V.bl c]))) ∧ ∃ bs' : List Bool, upd H' Dl (.lst (bs.map V.bl ++ [V.bl c])) Dl = some (.lst (bs'.map V.bl)) ∧ bs' = (ms.take (i + 1)).map fun x => decide (0 ≤ x) && (decide (x ≤ 6) && decide (x < z)) := fun c hc => by
        refine ⟨by wtm_at "sm", bs ++ [c], by rw [upd_same, Xk.snoc_map], ?_⟩
        rw [List.take_add_one, hm, hb, List.map_append, hc]
        rfl
      have sz : (bs.map V.bl).length < sizeLine := Xk.size_lt (by rw [hb]; simp only [List.length_map, List.length_take]; omega)
      wtm_at "xs"
      refine Xk.x_itd (fun h3 => ?_) (fun h3 => ?_)
      · wtm_at "xs"
        refine Xk.x_itd (fun h4 => ?_) (fun h4 => ?_)
        · wtm_at "xs"
          exact ⟨_, h2, sz, nx _ (by simp [h3, h4])⟩
        · wtm_at "xs"
          exact ⟨_, h2, sz, nx _ (by simp [h4])⟩
      · wtm_at "xs"
        exact ⟨_, h2, sz, nx _ (by simp [h3])⟩
    · rintro Dl H' hD ⟨s2, bs, h2, hb⟩
      wtm_at "xs"
      refine Xk.x_all (bs := bs) (by wtm_at "sq") ?_
      wtm_at "xs"
      refine q _ _ (by wtm_at "sm") ?_
      rw [List.length_map, List.take_length] at hb
      subst hb
      rw [List.all_map, List.all_eq_true]
      constructor
      · intro h3
        refine ⟨c1, c2, c3, fun x hx => ?_⟩
        have h4 := h3 x hx
        simp only [Function.comp, id, Bool.and_eq_true, decide_eq_true_eq] at h4
        exact h4
      · intro h3 x hx
        have h4 := h3.2.2.2 x hx
        simp only [Function.comp, id, Bool.and_eq_true, decide_eq_true_eq]
        exact h4
def sp_more_than_half (K : PySem.W.Frag) : Sp := fun vs H Q _ => ∃ (a c : Addr) (ms is : List Int), vs = [.ref a, .ref c] ∧ SqT K H a (ms.map V.int) ∧ (SqL K H c (is.map V.int) ∨ SqT K H c (is.map V.int)) ∧ ms.length ≤ 50 ∧
  ∀ H', Same H H' → Q (.bl (decide ((ms.length : Int) < 2 * ((ms.filter fun m => decide (m ∈ is)).length : Int)))) H'
theorem ok_more_than_half (T : Txt K mg) : FnOk P w K mg base CX0 1 T.f_more_than_half T.d_more_than_half ["members", "indexes"] (sp_more_than_half K) := by
  refine T.F_more_than_half.ok sc_more_than_half (fun vs H Q E h => ?_) (fun cdv A outer s H vs Q E hr h => ?_)
  · obtain ⟨a, c, ms, is, rfl, _⟩ := h
    rfl
  obtain ⟨a, c, ms, is, rfl, hS, hI, hl, q⟩ := h
  refine ⟨_, (pss_one (ps_ret (pe_cmpR op_gt (pe_op op_mul (pe_int) (pe_callB (Xk.k_len (K := K) (by rfl)) (by rfl) T.m_len PySem.boot_len (pa_cons (pe_lc (own := [("member", 2)]) (g := gName 2) rfl sc_more_than_half.nd  (pi_tup (pv 0)) (blkOk_by (N := N_more_than_half) (sc := defScope s_more_than_half) (own := [("member", 2)]) (by decide +kernel)) (fun _ _ _ _ _ => pg_name (i := 2) sc_more_than_half.nd rfl (Or.inl rfl)) (fun _ _ _ _ _ => pts_one (pt_cmpR (Xk.k_in (K := K) (by rfl)) (pv 2) (pv 1) (by rfl))) (fun _ _ _ _ _ => (pv 2))) pa_nil))) (pe_callB (Xk.k_len (K := K) (by rfl)) (by rfl) T.m_len PySem.boot_len (pa_cons (pv 0) pa_nil)) (nomark _)))), ?_⟩
  wtm_at "x0"
  wtm_at "xs"
  refine Xk.x_lcT (xs := ms.map V.int) (fun Dl i H' => Same H H' ∧ H' Dl = some (.lst (((ms.take i).filter fun m => decide (m ∈ is)).map V.int))) hS ?_ ?_ ?_ ?_
  · intro Dl hD
    exact ⟨Xk.same_fr hD, upd_same⟩
  · rintro Dl i H' hD ⟨s2, _⟩
    wtm_at "st"
  · rintro Dl hD i x H' hi ⟨s2, h2⟩
    obtain ⟨m, hm, rfl⟩ := Xk.of_map_at hi
    have hi2 := Xk.at_lt hm
    wtm_at "xs"
    refine ⟨rfl, ?_⟩
    wtm_at "xs"
    have hin : ∀ R : VK, R (.bl (decide (m ∈ is))) H' → rIn K false (.int m) (.ref c) H' R := fun R r => by
      have r2 : R (.bl (inV (.int m) (is.map V.int))) H' := by
        rw [Xk.in_ints]
        exact r
      rcases hI with h | h
      · exact Xk.x_inL (Xk.sq_same h s2) rfl (Xk.flat_ints _) r2
      · exact Xk.x_inT (Xk.st_same h s2) rfl (Xk.flat_ints _) r2
    refine hin _ ?_
    wtm_at "xs"
    refine Xk.x_itd (fun h3 => ?_) (fun h3 => ?_)
    · wtm_at "xs"
      refine ⟨_, h2, Xk.size_lt ?_, by wtm_at "sm", ?_⟩
      · have := List.length_filter_le (fun m => decide (m ∈ is)) (ms.take i)
        have h5 := List.length_take_le i ms
        rw [List.length_map]
        omega
      · rw [upd_same, List.take_add_one, hm, List.filter_append, Xk.snoc_map]
        simp [h3]
    · wtm_at "xs"
      refine ⟨s2, ?_⟩
      rw [h2, List.take_add_one, hm, List.filter_append]
      simp [h3]
  · rintro Dl H' hD ⟨s2, h2⟩
    rw [List.length_map, List.take_length] at h2
    wtm_at "xs"
    rw [List.length_map, List.length_map]
    exact q _ s2
def sp_next_ballot (K : PySem.W.Frag) : Sp := fun vs H Q _ => ∃ (n i : Int), vs = [.int n, .int i] ∧ (9999 ≤ n → Q .non H) ∧ (n < 9999 → ∀ p H', Xk.Fr p H → Same H H' → H' p = some (.tup [.int (n + 1), .int i]) → Q (.ref p) H')
theorem ok_next_ballot (T : Txt K mg) : FnOk P w K mg base CX0 1 T.f_next_ballot T.d_next_ballot ["after", "index"] (sp_next_ballot K) := by
  refine T.F_next_ballot.ok sc_next_ballot (fun vs H Q E h => ?_) (fun cdv A outer s H vs Q E hr h => ?_)
  · obtain ⟨n, i, rfl, _⟩ := h
    rfl
  obtain ⟨n, i, rfl, q1, q2⟩ := h
  refine ⟨_, (Evl.pss_cut (ps_if (pt_cmpR op_ge (pv 0) (pe_glob (by rfl) T.g_MOST_ROUND Xk.rel_int) (nomark _)) (pss_one (ps_ret (pe_non))) pss_nil)
      (pss_one (ps_ret (pe_tup (pa_cons (pe_op op_add (pv 0) (pe_int)) (pa_cons (pv 1) pa_nil)))))), ?_⟩
  wtm_at "x0"
  refine Xk.x_nocut ?_
  wtm_at "xs"
  refine Xk.x_itd (fun h => ?_) (fun h => ?_)
  · wtm_at "xs"
    exact q1 h
  · wtm_at "xs"
    intro p H2 hp s2 h2
    exact q2 (by omega) p H2 hp s2 h2
def sp__law_are (K : PySem.W.Frag) : Sp := fun vs H Q _ => ∃ (a : Addr) (z : Int) (ms : List Int), vs = [.ref a, .int z] ∧ SqL K H a (ms.map V.int) ∧ ms.length ≤ 50 ∧ z ≤ 7 ∧ ∀ b : Bool, (b = true ↔ IsM ms z) → Q (.bl b) H
theorem ok__law_are (T : Txt K mg) : FnOk P w K mg base CX0 1 T.f__law_are T.d__law_are ["row", "size"] (sp__law_are K) := by
  refine T.F__law_are.ok sc__law_are (fun vs H Q E h => ?_) (fun cdv A outer s H vs Q E hr h => ?_)
  · obtain ⟨a, z, ms, rfl, _⟩ := h
    rfl
  obtain ⟨a, z, ms, rfl, hS, hl, hz, q⟩ := h
  refine ⟨_, (Evl.pss_cut (ps_if (PW.pt (pw_or (pt_cmpR op_lt (pe_callB (Xk.k_len (K := K) (by rfl)) (by rfl) T.m_len PySem.boot_len (pa_cons (pv 0) pa_nil)) (pe_int) (nomark _)) (pw_or1 (pt_cmpR op_gt (pe_callB (Xk.k_len (K := K) (by rfl)) (by rfl) T.m_len PySem.boot_len (pa_cons (pv 0) pa_nil)) (pe_int) (nomark _))))) (pss_one (ps_ret (pe_bl))) pss_nil)
      (pss_cons (ps_for PassesOwn.never rfl (pi_range1 (by rfl) T.m_range (pa_cons (pe_callB (Xk.k_len (K := K) (by rfl)) (by rfl) T.m_len PySem.boot_len (pa_cons (pv 0) pa_nil)) pa_nil)) (pg_name (i := 2) sc__law_are.nd rfl (Or.inl rfl)) (pss_one (ps_if (PW.pt (pw_or (pt_cmpR op_lt (pe_ix (Xk.k_ixL (K := K) (by rfl)) (pv 0) (pv 2) (fun _ _ => rfl)) (pe_int) (nomark _)) (pw_or (pt_cmpR op_ge (pe_ix (Xk.k_ixL (K := K) (by rfl)) (pv 0) (pv 2) (fun _ _ => rfl)) (pv 1) (nomark _)) (pw_or1 (PW.pt (pw_and (pt_cmpR op_gt (pv 2) (pe_int) (nomark _)) (pw_and1 (pt_cmpR op_le (pe_ix (Xk.k_ixL (K := K) (by rfl)) (pv 0) (pv 2) (fun _ _ => rfl)) (pe_ix (Xk.k_ixL (K := K) (by rfl)) (pv 0) (pe_op op_sub (pv 2) (pe_int)) (fun _ _ => rfl)) (nomark _))))))))) (pss_one (ps_ret (pe_bl))) pss_nil)))
      (pss_one (ps_ret (pe_bl))))), ?_⟩
  wtm_at "x0"
  refine Xk.x_cut (fun σ' H' => H = H' ∧ σ' = [some (V.ref a), some (V.int z), none] ∧ 1 ≤ ms.length ∧ ms.length ≤ 5) ?_ ?_
  · wtm_at "xs"
    rw [List.length_map]
    have no : (ms.length < 1 ∨ 5 < ms.length) → Q (.bl false) H := fun h => q _ ⟨fun z => (by cases z), fun hm => by have h1 := hm.1; have h2 := hm.2.1; omega⟩
    refine Xk.x_itd (fun h => ?_) (fun h => ?_)
    · wtm_at "xs"
      exact no (by omega)
    · wtm_at "xs"
      rw [List.length_map]
      refine Xk.x_itd (fun h => ?_) (fun h => ?_)
      · wtm_at "xs"
        exact no (by omega)
      · wtm_at "xs"
        exact ⟨rfl, rfl, by omega, by omega⟩
  rintro σ' H' ⟨rfl, rfl, c1, c2⟩
  wtm_at "xs"
  refine Xk.x_range (fun i σ' H' => ∃ y, σ' = [some (.ref a), some (.int z), y] ∧ H = H' ∧ (ms.take i).Pairwise (· < ·) ∧ ∀ x ∈ ms.take i, 0 ≤ x ∧ x < z) ⟨by omega, by wtm_at "len"⟩ ⟨_, rfl, rfl, .nil, by simp⟩ ?_ ?_
  · rintro i σ' H' hi ⟨y, rfl, rfl, hp, hw⟩
    rw [List.length_map] at hi
    obtain ⟨x, hx⟩ := Xk.lt_at (xs := ms) (j := i) (by omega)
    have ht : ms.take (i + 1) = ms.take i ++ [x] := by
      rw [List.take_add_one, hx]
      rfl
    have no : (x < 0 ∨ z ≤ x) → Q (.bl false) H := fun h => q _ ⟨fun z => (by cases z), fun hm => by
      have h2 := hm.2.2.2 x (List.mem_of_getElem? hx)
      omega⟩
    wtm_at "xs"
    refine Xk.x_itd (fun h1 => ?_) (fun h1 => ?_)
    · wtm_at "xs"
      exact no (.inl h1)
    wtm_at "xs"
    refine Xk.x_itd (fun h2 => ?_) (fun h2 => ?_)
    · wtm_at "xs"
      exact no (.inr h2)
    wtm_at "xs"
    refine Xk.x_itd (fun h3 => ?_) (fun h3 => ?_)
    · wtm_at "xs"
      obtain ⟨w, hw2⟩ := Xk.lt_at (xs := ms) (j := i - 1) (by omega)
      refine Xk.x_ixL hS (Xk.at_nat (j := i - 1) (by omega) (Xk.map_at hw2)) ?_
      wtm_at "xs"
      refine Xk.x_itd (fun h4 => ?_) (fun h4 => ?_)
      · wtm_at "xs"
        refine q _ ⟨fun z => (by cases z), fun hm => ?_⟩
        have h5 := asc_at hm.2.2.1 hw2 hx (by omega)
        omega
      · wtm_at "xs"
        refine ⟨_, rfl, rfl, ?_, ?_⟩
        · rw [ht]
          refine List.pairwise_append.mpr ⟨hp, List.pairwise_singleton _ _, fun u hu v hv => ?_⟩
          rw [List.mem_singleton.mp hv]
          rcases asc_last hp hw2 (by omega) hu with h5 | h5 <;> omega
        · rw [ht]
          exact Xk.mem_snoc hw (by omega)
    · wtm_at "xs"
      have hi0 : i = 0 := by omega
      subst hi0
      refine ⟨_, rfl, rfl, ?_, ?_⟩
      · rw [ht]
        exact List.pairwise_singleton _ _
      · rw [ht]
        exact Xk.mem_snoc hw (by omega)
  · rintro σ' H' ⟨y, rfl, rfl, hp, hw⟩
    wtm_at "xs"
    rw [List.length_map, Int.toNat_natCast, List.take_length] at hp hw
    exact q _ ⟨fun _ => ⟨c1, c2, hp, fun x hx => by have := hw x hx; omega⟩, fun _ => rfl⟩
def sp__law_tells (K : PySem.W.Frag) : Sp := fun vs H Q _ => ∃ (a : Addr) (z : Int) (ms : List Int), vs = [.ref a, .int z] ∧ SqL K H a (ms.map V.int) ∧ ms.length ≤ 50 ∧ z ≤ 7 ∧ ∀ H', Same H H' → Q (.bl true) H'
theorem ok__law_tells (T : Txt K mg) : FnOk P w K mg base CX0 2 T.f__law_tells T.d__law_tells ["row", "size"] (sp__law_tells K) := by
  refine T.F__law_tells.ok sc__law_tells (fun vs H Q E h => ?_) (fun cdv A outer s H vs Q E hr h => ?_)
  · obtain ⟨a, z, ms, rfl, _⟩ := h
    rfl
  obtain ⟨a, z, ms, rfl, hS, hl, hz, q⟩ := h
  refine ⟨_, (pss_cons (ps_set (i := 2) sc__law_tells.nd rfl (Or.inl rfl) (pe_call (ok_is_members T) (hr.mono (by decide)) (by rfl) T.g_is_members T.F_is_members.kp T.b_is_members .nil pass0 (pa_cons (pe_callTy (Xk.k_tuple (K := K) (by rfl)) (by rfl) T.m_tuple (by decide +kernel) (pa_cons (pv 0) pa_nil)) (pa_cons (pv 1) pa_nil))))
      (pss_one (ps_ret ((pe_and (pe_callB (Xk.k_isi (K := K) (by rfl)) (by rfl) T.m_isinstance (by decide +kernel) (pa_cons (pv 2) (pa_cons (pe_bltn (v := .ty "bool") (u := .type "bool") (by rfl) T.m_bool (by decide +kernel) Xk.rel_ty) pa_nil))) (pe_one (pe_cmpR op_eq (pv 2) (pe_call (ok__law_are T) (hr.mono (by decide)) (by rfl) T.g__law_are T.F__law_are.kp T.b__law_are .nil pass0 (pa_cons (pv 0) (pa_cons (pv 1) pa_nil))) (nomark _)))))))), ?_⟩
  wtm_at "x0"
  wtm_at "xs"
  intro p H1 hp s1 h1
  wtm_at "xs"
  refine ⟨_, _, ms, rfl, by wtm_at "st", hl, fun H2 b s2 hb => ?_⟩
  wtm_at "xs"
  refine ⟨_, _, ms, rfl, by wtm_at "sq", hl, hz, fun c hc => ?_⟩
  wtm_at "xs"
  have e : b = c := by
    have := hb.trans hc.symm
    cases b <;> cases c <;> simp_all
  subst e
  rw [decide_eq_true rfl]
  exact q _ (by wtm_at "sm")
def sp__law_halves (K : PySem.W.Frag) : Sp := fun vs H Q _ => ∃ (a c : Addr) (ms is : List Int), vs = [.ref a, .ref c] ∧ SqT K H a (ms.map V.int) ∧ SqL K H c (is.map V.int) ∧ ms.length ≤ 50 ∧ is.length ≤ 50 ∧ ∀ H', Same H H' → Q (.bl true) H'
theorem ok__law_halves (T : Txt K mg) : FnOk P w K mg base CX0 2 T.f__law_halves T.d__law_halves ["members", "indexes"] (sp__law_halves K) := by
  refine T.F__law_halves.ok sc__law_halves (fun vs H Q E h => ?_) (fun cdv A outer s H vs Q E hr h => ?_)
  · obtain ⟨a, c, ms, is, rfl, _⟩ := h
    rfl
  obtain ⟨a, c, ms, is, rfl, hS, hI, hl, hl2, q⟩ := h
  refine ⟨_, (pss_cons (ps_set (i := 2) sc__law_halves.nd rfl (Or.inl rfl) (pe_int))
      (pss_cons (ps_for PassesOwn.never rfl (pi_tup (pv 0)) (pg_name (i := 3) sc__law_halves.nd rfl (Or.inl rfl)) (pss_one (ps_if (pt_cmpR (Xk.k_in (K := K) (by rfl)) (pv 3) (pv 1) (by rfl)) (pss_one (ps_set (i := 2) sc__law_halves.nd rfl (Or.inl rfl) (pe_op op_add (pv 2) (pe_int)))) pss_nil)))
      (pss_cons (ps_set (i := 4) sc__law_halves.nd rfl (Or.inl rfl) (pe_callTy (Xk.k_list (K := K) (by rfl)) (by rfl) T.m_list (by decide +kernel) (pa_cons (pv 1) pa_nil)))
      (pss_cons (ps_set (i := 5) sc__law_halves.nd rfl (Or.inl rfl) (pe_call (ok_more_than_half T) (hr.mono (by decide)) (by rfl) T.g_more_than_half T.F_more_than_half.kp T.b_more_than_half .nil pass0 (pa_cons (pv 0) (pa_cons (pv 4) pa_nil))))
      (Evl.pss_cut (ps_if (PW.pt (pw_or (pt_cmpR (Xk.k_neD (K := K) hr.units (by rfl)) (pv 4) (pv 1) (nomark _)) (pw_or (pt_not (pt_val (pe_callB (Xk.k_isi (K := K) (by rfl)) (by rfl) T.m_isinstance (by decide +kernel) (pa_cons (pv 5) (pa_cons (pe_bltn (v := .ty "bool") (u := .type "bool") (by rfl) T.m_bool (by decide +kernel) Xk.rel_ty) pa_nil))))) (pw_or1 (pt_cmpR op_ne (pv 5) (pe_cmpR op_gt (pv 2) (pe_callB (Xk.k_len (K := K) (by rfl)) (by rfl) T.m_len PySem.boot_len (pa_cons (pv 0) pa_nil)) (nomark _)) (nomark _)))))) (pss_one (ps_ret (pe_bl))) pss_nil)
      (pss_one (ps_ret (pe_cmpR op_eq (pe_call (ok_more_than_half T) (hr.mono (by decide)) (by rfl) T.g_more_than_half T.F_more_than_half.kp T.b_more_than_half .nil pass0 (pa_cons (pv 0) (pa_cons (pe_callTy (Xk.k_tuple (K := K) (by rfl)) (by rfl) T.m_tuple (by decide +kernel) (pa_cons (pv 1) pa_nil)) pa_nil))) (pv 5) (nomark _))))))))), ?_⟩
  wtm_at "x0"
  wtm_at "xs"
  refine Xk.x_forT (fun i σ' H' => ∃ x y n, σ' = [some (.ref a), some (.ref c), some (.int n), x, y, none] ∧ H = H' ∧ n = 2 * (((ms.take i).filter fun m => decide (m ∈ is)).length : Int)) hS ⟨_, _, _, rfl, rfl, by simp⟩ ?_ ?_ ?_
  · rintro i σ' H' hi ⟨x, y, n, rfl, rfl, hn⟩
    exact hS
  · rintro i x σ' H' hi ⟨x1, y, n, rfl, rfl, hn⟩
    obtain ⟨m, hm, rfl⟩ := Xk.of_map_at hi
    wtm_at "xs"
    refine Xk.x_inL hI rfl (Xk.flat_ints _) ?_
    rw [Xk.in_ints]
    wtm_at "xs"
    refine Xk.x_itd (fun h3 => ?_) (fun h3 => ?_)
    · wtm_at "xs"
      refine ⟨_, _, _, rfl, rfl, ?_⟩
      rw [List.take_add_one, hm, List.filter_append, hn]
      simp [h3]
      omega
    · wtm_at "xs"
      refine ⟨_, _, _, rfl, rfl, ?_⟩
      rw [List.take_add_one, hm, List.filter_append, hn]
      simp [h3]
  rintro σ' H' ⟨x1, y, n, rfl, rfl, hn⟩
  rw [List.length_map, List.take_length] at hn
  wtm_at "xs"
  intro p H1 hp s1 h1
  wtm_at "xs"
  refine ⟨_, _, ms, is, rfl, by wtm_at "st", .inl (by wtm_at "sq"), hl, fun H2 s2 => ?_⟩
  wtm_at "xs"
  refine Xk.x_cut (fun σ' H' => H2 = H' ∧ σ' = [some (V.ref a), some (V.ref c), some (V.int n), x1, some (V.ref p), some (V.bl (decide ((ms.length : Int) < 2 * ((List.filter (fun m => decide (m ∈ is)) ms).length : Int))))]) ?_ ?_
  · wtm_at "xs"
    refine Xk.x_neInts (by wtm_at "sq") (by wtm_at "sq") ?_
    wtm_at "xs"
    rw [List.length_map, hn]
    wtm_at "xs"
    exact ⟨rfl, rfl⟩
  · rintro σ' H' ⟨rfl, rfl⟩
    wtm_at "xs"
    intro t H3 ht s3 h3
    wtm_at "xs"
    refine ⟨_, _, ms, is, rfl, by wtm_at "st", .inr (by wtm_at "st"), hl, fun H4 s4 => ?_⟩
    wtm_at "xs"
    rw [decide_eq_true rfl]
    exact q _ (by wtm_at "sm")
def sp__law_members (K : PySem.W.Frag) : Sp := fun vs H Q _ => ∃ (b : Addr) (z n : Int), vs = [.ref b, .int z] ∧ H b = some (.lst [.int n]) ∧ 1 ≤ z ∧ z ≤ 7 ∧
  ∀ p H' (ms : List Int) m, Xk.Fr p H → Xk.But b H H' → H' b = some (.lst [.int m]) → H' p = some (.tup (ms.map V.int)) → ms.length ≤ 10 → Q (.ref p) H'
theorem ok__law_members (T : Txt K mg) : FnOk P w K mg base CX0 2 T.f__law_members T.d__law_members ["box", "size"] (sp__law_members K) := by
  refine T.F__law_members.ok sc__law_members (fun vs H Q E h => ?_) (fun cdv A outer s H vs Q E hr h => ?_)
  · obtain ⟨b, z, n, rfl, _⟩ := h
    rfl
  obtain ⟨b, z, n, rfl, hb, h0, h1, q⟩ := h
  refine ⟨_, (pss_cons (ps_set (i := 2) sc__law_members.nd rfl (Or.inl rfl) (pe_slice (Xk.k_slL (K := K) (by rfl)) (pe_lc (own := [("index", 3)]) (g := gName 3) rfl sc__law_members.nd  (pi_range1 (by rfl) T.m_range (pa_cons (pv 1) pa_nil)) (blkOk_by (N := N__law_members) (sc := defScope s__law_members) (own := [("index", 3)]) (by decide +kernel)) (fun _ _ _ _ _ => pg_name (i := 3) sc__law_members.nd rfl (Or.inl rfl)) (fun _ _ _ _ _ => pts_one (pt_cmpR op_gt (pe_call (ok__law_take T) (hr.mono (by decide)) (by rfl) T.g__law_take T.F__law_take.kp T.b__law_take .nil pass0 (pa_cons (pv 0) (pa_cons (pe_int) pa_nil))) (pe_int) (nomark _))) (fun _ _ _ _ _ => (pv 3))) po_none (po_some (pe_int))))
      (Evl.pss_cut (ps_if (pt_cmpR op_eq (pe_callB (Xk.k_len (K := K) (by rfl)) (by rfl) T.m_len PySem.boot_len (pa_cons (pv 2) pa_nil)) (pe_int) (nomark _)) (pss_one (ps_set (i := 2) sc__law_members.nd rfl (Or.inl rfl) (pe_lst (pa_cons (pe_call (ok__law_take T) (hr.mono (by decide)) (by rfl) T.g__law_take T.F__law_take.kp T.b__law_take .nil pass0 (pa_cons (pv 0) (pa_cons (pv 1) pa_nil))) pa_nil)))) pss_nil)
      (pss_one (ps_ret (pe_callTy (Xk.k_tuple (K := K) (by rfl)) (by rfl) T.m_tuple (by decide +kernel) (pa_cons (pv 2) pa_nil)))))), ?_⟩
  wtm_at "x0"
  wtm_at "xs"
  refine Xk.x_lcR (fun Dl i H' => Xk.But b H H' ∧ (∃ m : Int, H' b = some (.lst [.int m])) ∧ ∃ ys : List Int, H' Dl = some (.lst (ys.map V.int)) ∧ ys.length ≤ i) ⟨by omega, by omega⟩ ?_ ?_ ?_
  · intro Dl hD
    exact ⟨Xk.but_same (Xk.same_fr hD), ⟨_, by wtm_at "hx"⟩, [], upd_same, Nat.le_refl _⟩
  · rintro Dl hD i H' hi ⟨s2, ⟨m, hm⟩, ys, h2, hy⟩
    wtm_at "xs"
    refine ⟨rfl, ?_⟩
    wtm_at "xs"
    refine ⟨_, 3, m, rfl, hm, by decide, by decide, fun e1 e2 => ?_⟩
    wtm_at "xs"
    refine Xk.x_itd (fun h => ?_) (fun h => ?_)
    · wtm_at "xs"
      refine ⟨_, by wtm_at "hx", Xk.size_lt (by wtm_at "len"), by wtm_at "bm", ⟨_, by wtm_at "hx"⟩, ys ++ [(i : Int)], ?_, by wtm_at "len"⟩
      rw [upd_same, Xk.snoc_map]
    · wtm_at "xs"
      exact ⟨by wtm_at "bm", ⟨_, by wtm_at "hx"⟩, ys, by wtm_at "hx", by omega⟩
  · rintro Dl H1 hD ⟨s2, ⟨m, hm⟩, ys, h2, hy⟩
    wtm_at "xs"
    intro p H2 hp s3 h3
    have hne : b ≠ p := Xk.ne_new hp hm
    obtain ⟨zs, hz⟩ : ∃ zs, cutV (ys.map V.int) none (some 5) = zs.map V.int := ⟨ys.take (HT.sIx ys.length ys.length (some 5)), by
      unfold cutV
      rw [HT.sIx_none, List.length_map, List.drop_zero, Nat.sub_zero, List.map_take]⟩
    have hzl : zs.length ≤ 10 := by
      have h4 := cutV_length (ys.map V.int) none (some 5)
      rw [hz, List.length_map, List.length_map] at h4
      omega
    rw [hz] at h3
    wtm_at "xs"
    refine Xk.x_cut (fun σ' H' => ∃ (c : Addr) (ms : List Int) (m : Int), σ' = [some (.ref b), some (.int z), some (.ref c), none] ∧ Xk.But b H H' ∧ H' b = some (.lst [.int m]) ∧ H' c = some (.lst (ms.map V.int)) ∧ ms.length ≤ 10) ?_ ?_
    · wtm_at "xs"
      refine Xk.x_itd (fun h => ?_) (fun h => ?_)
      · wtm_at "xs"
        refine ⟨_, _, m, rfl, by wtm_at "hx", by omega, by omega, fun e1 e2 => ?_⟩
        wtm_at "xs"
        intro c H3 hc s4 h4
        wtm_at "xs"
        exact ⟨_, [m % z], _, rfl, by wtm_at "bm", by wtm_at "hx", h4, by simp⟩
      · wtm_at "xs"
        exact ⟨_, zs, _, rfl, by wtm_at "bm", by wtm_at "hx", h3, hzl⟩
    · rintro σ' H3 ⟨c, ms, m2, rfl, s4, h4, h5, hl⟩
      wtm_at "xs"
      intro t H4 ht s5 h6
      wtm_at "xs"
      exact q t H4 ms m2 (Xk.none_but hb s4 h4 ht) (by wtm_at "bm") (by wtm_at "hx") h6 hl
theorem lc_take {σ : L2.St} {H : Hp} {Q : VK} {j bi : Nat} {z m n : Int} {b : Addr} (hm : 0 ≤ m ∧ m ≤ 40) (hz : 0 < z ∧ z < 1073741824) (hv : ∀ x, ((wipe σ [j]).set j (some x))[bi]? = some (some (.ref b)))
    (hw : ∀ x, wipe ((wipe σ [j]).set j (some x)) [j] = wipe σ [j]) (hb : H b = some (.lst [.int n]))
    (q : ∀ p H' (ys : List Int) n', Xk.Fr p H → Xk.But b H H' → H' b = some (.lst [.int n']) → H' p = some (.lst (ys.map V.int)) → (ys.length : Int) = m → (∀ y ∈ ys, 0 ≤ y ∧ y < z) → Q (.ref p) H') :
    Xk.rLcR (gName j) tYes (tCall (sp__law_take K) [] E0 (tCons (tVar bi) (tCons (tC (.int z)) tNil))) [j] σ Q [.int m] H := by
  refine Xk.x_lcR (fun Dl i H' => Xk.But b H H' ∧ (∃ m : Int, H' b = some (.lst [.int m])) ∧ ∃ ys : List Int, H' Dl = some (.lst (ys.map V.int)) ∧ ys.length = i ∧ ∀ y ∈ ys, 0 ≤ y ∧ y < z) ⟨by omega, by omega⟩ ?_ ?_ ?_
  · intro Dl hD
    exact ⟨Xk.but_same (Xk.same_fr hD), ⟨_, by wtm_at "hx"⟩, [], upd_same, rfl, by simp⟩
  · rintro Dl hD i H' hi ⟨s2, ⟨m, hm⟩, ys, h2, hy, hy2⟩
    refine Xk.x_gName ⟨hw _, Xk.x_yes ?_⟩
    wtm_at "xs"
    refine ⟨_, hv _, ?_⟩
    wtm_at "xs"
    refine ⟨_, z, m, rfl, hm, hz.1, hz.2, fun e1 e2 => ?_⟩
    refine ⟨_, by wtm_at "hx", Xk.size_lt (by wtm_at "len"), by wtm_at "bm", ⟨_, by wtm_at "hx"⟩, ys ++ [m % z], ?_, by simp [hy], Xk.mem_snoc hy2 ⟨e1, e2⟩⟩
    rw [upd_same, Xk.snoc_map]
  · rintro Dl H1 hD ⟨s2, ⟨m, hm⟩, ys, h2, hy, hy2⟩
    exact q Dl H1 ys m hD s2 hm h2 (by omega) hy2
def sp_law (K : PySem.W.Frag) : Sp := fun vs H Q _ => ∃ (a : Addr) (ns : List Int), vs = [.ref a] ∧ SqL K H a (ns.map V.int) ∧ ns.length ≤ 63 ∧ ∀ H', Q (.bl true) H'
theorem ok_law (T : Txt K mg) : FnOk P w K mg base CX0 3 T.f_law T.d_law ["script"] (sp_law K) := by
  refine T.F_law.ok sc_law (fun vs H Q E h => ?_) (fun cdv A outer s H vs Q E hr h => ?_)
  · obtain ⟨a, ns, rfl, _⟩ := h
    rfl
  obtain ⟨a, ns, rfl, hS, hl, q⟩ := h
  refine ⟨_, (Evl.pss_cut (ps_if (pt_cmpR (Xk.k_neD (K := K) hr.units (by rfl)) (pe_lst (pa_cons (pe_glob (by rfl) T.g_NO_BALLOT Xk.rel_ref) (pa_cons (pe_glob (by rfl) T.g_MOST_ROUND Xk.rel_int) (pa_cons (pe_glob (by rfl) T.g_MOST_MEMBERS Xk.rel_int) pa_nil)))) (pe_lst (pa_cons (pe_tup (pa_cons (pe_int) (pa_cons (pe_int) pa_nil))) (pa_cons (pe_int) (pa_cons (pe_int) pa_nil)))) (nomark _)) (pss_one (ps_ret (pe_bl))) pss_nil)
      (pss_cons (ps_for PassesOwn.never rfl (pi_range1 (by rfl) T.m_range (pa_cons (pe_int) pa_nil)) (pg_name (i := 1) sc_law.nd rfl (Or.inl rfl)) (pss_cons (ps_set (i := 2) sc_law.nd rfl (Or.inr rfl) (pe_lst (pa_cons (pe_call (ok__law_row T) (hr.mono (by decide)) (by rfl) T.g__law_row T.F__law_row.kp T.b__law_row .nil pass0 (pa_cons (pv 0) (pa_cons (pv 1) pa_nil))) pa_nil)))
      (pss_cons (ps_set (i := 3) sc_law.nd rfl (Or.inl rfl) (pe_op op_add (pe_int) (pe_call (ok__law_take T) (hr.mono (by decide)) (by rfl) T.g__law_take T.F__law_take.kp T.b__law_take .nil pass0 (pa_cons (pv 2) (pa_cons (pe_int) pa_nil)))))
      (pss_cons (ps_set (i := 4) sc_law.nd rfl (Or.inl rfl) (pe_call (ok__law_members T) (hr.mono (by decide)) (by rfl) T.g__law_members T.F__law_members.kp T.b__law_members .nil pass0 (pa_cons (pv 2) (pa_cons (pv 3) pa_nil))))
      (pss_cons (ps_setLc (i := 5) (own := [("j", 9)]) (g := gName 9) (tt := tYes) rfl sc_law.nd rfl rfl (sw_true rfl rfl rfl (by decide +kernel)) (pi_range1 (by rfl) T.m_range (pa_cons (pe_call (ok__law_take T) (hr.mono (by decide)) (by rfl) T.g__law_take T.F__law_take.kp T.b__law_take .nil pass0 (pa_cons (pv 2) (pa_cons (pe_int) pa_nil))) pa_nil)) (blkOk_by (N := N_law) (sc := defScope s_law) (own := [("j", 9)]) (by decide +kernel)) (fun _ _ _ _ _ => pg_name (i := 9) sc_law.nd rfl (Or.inl rfl)) (fun _ _ _ _ _ => pts_nil) (fun _ _ _ _ _ => (pe_call (ok__law_take T) (hr.mono (by decide)) (by rfl) T.g__law_take T.F__law_take.kp T.b__law_take .nil pass0 (pa_cons (pv 2) (pa_cons (pe_int) pa_nil)))))
      (Evl.pss_cut (ps_if (PW.pt (pw_or (pt_not (pt_val (pe_call (ok__law_tells T) (hr.mono (by decide)) (by rfl) T.g__law_tells T.F__law_tells.kp T.b__law_tells .nil pass0 (pa_cons (pv 5) (pa_cons (pv 3) pa_nil))))) (pw_or (pt_not (pt_val (pe_call (ok__law_tells T) (hr.mono (by decide)) (by rfl) T.g__law_tells T.F__law_tells.kp T.b__law_tells .nil pass0 (pa_cons (pe_callB (Xk.k_sorted (K := K) (by rfl)) (by rfl) T.m_sorted (by decide +kernel) (pa_cons (pv 5) pa_nil)) (pa_cons (pv 3) pa_nil))))) (pw_or1 (pt_not (pt_val (pe_call (ok__law_tells T) (hr.mono (by decide)) (by rfl) T.g__law_tells T.F__law_tells.kp T.b__law_tells .nil pass0 (pa_cons (pe_callTy (Xk.k_list (K := K) (by rfl)) (by rfl) T.m_list (by decide +kernel) (pa_cons (pv 4) pa_nil)) (pa_cons (pv 3) pa_nil))))))))) (pss_one (ps_ret (pe_bl))) pss_nil)
      (Evl.pss_cut (ps_if (pt_not (pt_val (pe_call (ok__law_tells T) (hr.mono (by decide)) (by rfl) T.g__law_tells T.F__law_tells.kp T.b__law_tells .nil pass0 (pa_cons (pe_listRg rfl (by rfl) T.m_list (prg_1 (by rfl) T.m_range (pe_call (ok__law_take T) (hr.mono (by decide)) (by rfl) T.g__law_take T.F__law_take.kp T.b__law_take .nil pass0 (pa_cons (pv 2) (pa_cons (pe_int) pa_nil))))) (pa_cons (pe_op op_add (pe_int) (pe_call (ok__law_take T) (hr.mono (by decide)) (by rfl) T.g__law_take T.F__law_take.kp T.b__law_take .nil pass0 (pa_cons (pv 2) (pa_cons (pe_int) pa_nil)))) pa_nil))))) (pss_one (ps_ret (pe_bl))) pss_nil)
      (pss_cons (ps_setLc (i := 6) (own := [("j", 9)]) (g := gName 9) (tt := tYes) rfl sc_law.nd rfl rfl (sw_true rfl rfl rfl (by decide +kernel)) (pi_range1 (by rfl) T.m_range (pa_cons (pe_call (ok__law_take T) (hr.mono (by decide)) (by rfl) T.g__law_take T.F__law_take.kp T.b__law_take .nil pass0 (pa_cons (pv 2) (pa_cons (pe_int) pa_nil))) pa_nil)) (blkOk_by (N := N_law) (sc := defScope s_law) (own := [("j", 9)]) (by decide +kernel)) (fun _ _ _ _ _ => pg_name (i := 9) sc_law.nd rfl (Or.inl rfl)) (fun _ _ _ _ _ => pts_nil) (fun _ _ _ _ _ => (pe_call (ok__law_take T) (hr.mono (by decide)) (by rfl) T.g__law_take T.F__law_take.kp T.b__law_take .nil pass0 (pa_cons (pv 2) (pa_cons (pe_int) pa_nil)))))
      (Evl.pss_cut (ps_if (PW.pt (pw_or (pt_not (pt_val (pe_call (ok__law_halves T) (hr.mono (by decide)) (by rfl) T.g__law_halves T.F__law_halves.kp T.b__law_halves .nil pass0 (pa_cons (pv 4) (pa_cons (pv 6) pa_nil))))) (pw_or (pt_not (pt_val (pe_call (ok__law_halves T) (hr.mono (by decide)) (by rfl) T.g__law_halves T.F__law_halves.kp T.b__law_halves .nil pass0 (pa_cons (pv 4) (pa_cons (pe_callTy (Xk.k_list (K := K) (by rfl)) (by rfl) T.m_list (by decide +kernel) (pa_cons (pv 4) pa_nil)) pa_nil))))) (pw_or1 (pt_not (pt_val (pe_call (ok__law_halves T) (hr.mono (by decide)) (by rfl) T.g__law_halves T.F__law_halves.kp T.b__law_halves .nil pass0 (pa_cons (pv 4) (pa_cons (pe_lst pa_nil) pa_nil))))))))) (pss_one (ps_ret (pe_bl))) pss_nil)
      (pss_cons (ps_set (i := 7) sc_law.nd rfl (Or.inl rfl) (pe_ix (Xk.k_ixL (K := K) (by rfl)) (pe_lst (pa_cons (pe_int) (pa_cons (pe_int) (pa_cons (pe_int) (pa_cons (pe_int) (pa_cons (pe_call (ok__law_take T) (hr.mono (by decide)) (by rfl) T.g__law_take T.F__law_take.kp T.b__law_take .nil pass0 (pa_cons (pv 2) (pa_cons (pe_int) pa_nil))) pa_nil)))))) (pe_call (ok__law_take T) (hr.mono (by decide)) (by rfl) T.g__law_take T.F__law_take.kp T.b__law_take .nil pass0 (pa_cons (pv 2) (pa_cons (pe_int) pa_nil))) (fun _ _ => rfl)))
      (pss_cons (ps_set (i := 8) sc_law.nd rfl (Or.inl rfl) (pe_tup (pa_cons (pe_op op_add (pv 7) (pe_int)) (pa_cons (pe_op op_sub (pv 3) (pe_int)) pa_nil))))
      (Evl.pss_cut (ps_if (pt_cmpR op_eq (pv 7) (pe_int) (nomark _)) (pss_one (ps_set (i := 8) sc_law.nd rfl (Or.inl rfl) (pe_non))) pss_nil)
      (pss_one (ps_if (pt_cmpR (Xk.k_neD (K := K) hr.units (by rfl)) (pe_call (ok_next_ballot T) (hr.mono (by decide)) (by rfl) T.g_next_ballot T.F_next_ballot.kp T.b_next_ballot .nil pass0 (pa_cons (pv 7) (pa_cons (pe_op op_sub (pv 3) (pe_int)) pa_nil))) (pv 8) (nomark _)) (pss_one (ps_ret (pe_bl))) pss_nil))))))))))))))
      (pss_one (ps_ret (pe_bl))))), ?_⟩
  wtm_at "x0"
  refine Xk.x_cut (fun σ' H' => Same H H' ∧ σ' = [some (V.ref a), none, none, none, none, none, none, none, none, none]) ?_ ?_
  · wtm_at "xs"
    intro p1 H1 hp1 s1 h1
    wtm_at "xs"
    intro p2 H2 hp2 s2 h2
    wtm_at "xs"
    intro p3 H3 hp3 s3 h3
    wtm_at "xs"
    refine ⟨.list [.tuple [.int 0, .int 0], .int 9999, .int 5], .list [.tuple [.int 0, .int 0], .int 9999, .int 5], .lst (by wtm_at "sq") (.cons (.tup (T.l_NO_BALLOT _) (.cons (.int 0) (.cons (.int 0) .nil))) (.cons (.int _) (.cons (.int _) .nil))), .lst (by wtm_at "sq") (.cons (.tup (by wtm_at "st") (.cons (.int 0) (.cons (.int 0) .nil))) (.cons (.int _) (.cons (.int _) .nil))), by decide +kernel, by decide +kernel, ?_⟩
    rw [show PyData.eqv (.list [.tuple [.int 0, .int 0], .int 9999, .int 5]) (.list [.tuple [.int 0, .int 0], .int 9999, .int 5]) = true by decide +kernel]
    wtm_at "xs"
    exact ⟨by wtm_at "sm", rfl⟩
  rintro σ' H0 ⟨s0, rfl⟩
  wtm_at "xs"
  refine Xk.x_range (fun i σ' H' => ∃ x1 x2 x3 x4 x5 x6 x7 x8 x9, σ' = [some (.ref a), x1, x2, x3, x4, x5, x6, x7, x8, x9] ∧ Same H H') ⟨by omega, by omega⟩ ⟨_, _, _, _, _, _, _, _, _, rfl, s0⟩ ?_ ?_
  · rintro i σ' H1 hi ⟨x1, x2, x3, x4, x5, x6, x7, x8, x9, rfl, s1⟩
    wtm_at "xs"
    refine ⟨_, _, ns, rfl, by wtm_at "sq", hl, by omega, by omega, fun n hn => ?_⟩
    wtm_at "xs"
    intro b H2 hb s2 h2
    wtm_at "xs"
    refine ⟨_, _, _, rfl, h2, by decide, by decide, fun e1 e2 => ?_⟩
    wtm_at "xs"
    refine ⟨_, _, _, rfl, upd_same, by omega, by omega, fun pm H3 ms n3 hpm s3 h3 h3m hml => ?_⟩
    wtm_at "xs"
    refine ⟨_, _, _, rfl, h3, by decide, by decide, fun e3 e4 => ?_⟩
    wtm_at "xs"
    refine lc_take ⟨by omega, by omega⟩ (by decide) (fun _ => rfl) (fun _ => rfl) upd_same fun pr H4 row n4 hpr s4 h4 h4r hrl hrw => ?_
    wtm_at "xs"
    refine Xk.x_nocut ?_
    wtm_at "xs"
    refine ⟨_, _, row, rfl, by wtm_at "sq", by omega, by omega, fun H5 s5 => ?_⟩
    wtm_at "xs"
    refine Xk.x_sorted (by wtm_at "sq") (by omega) fun p6 H6 row2 hp1 hp2 hp6 s6 h6 => ?_
    wtm_at "xs"
    refine ⟨_, _, row2, rfl, by wtm_at "sq", by have := hp1.length_eq; omega, by omega, fun H7 s7 => ?_⟩
    wtm_at "xs"
    intro p8 H8 hp8 s8 h8
    wtm_at "xs"
    refine ⟨_, _, ms, rfl, by wtm_at "sq", by omega, by omega, fun H9 s9 => ?_⟩
    wtm_at "xs"
    refine Xk.x_nocut ?_
    wtm_at "xs"
    refine ⟨_, _, _, rfl, by wtm_at "hx", by decide, by decide, fun e5 e6 => ?_⟩
    wtm_at "xs"
    intro p10 H10 hp10 s10 h10
    wtm_at "xs"
    refine ⟨_, _, _, rfl, by wtm_at "hx", by decide, by decide, fun e7 e8 => ?_⟩
    wtm_at "xs"
    refine ⟨_, _, _, rfl, Xk.sq_of (by wtm_at "hx"), ?_, by omega, fun H11 s11 => ?_⟩
    · rw [Xk.upto_len]
      omega
    wtm_at "xs"
    refine ⟨_, _, _, rfl, by wtm_at "hx", by decide, by decide, fun e9 e10 => ?_⟩
    wtm_at "xs"
    refine lc_take ⟨by omega, by omega⟩ (by decide) (fun _ => rfl) (fun _ => rfl) upd_same fun pi H12 ix n12 hpi s12 h12 h12r hil hiw => ?_
    wtm_at "xs"
    refine Xk.x_nocut ?_
    wtm_at "xs"
    refine ⟨_, _, ms, ix, rfl, by wtm_at "st", by wtm_at "sq", by omega, by omega, fun H13 s13 => ?_⟩
    wtm_at "xs"
    intro p14 H14 hp14 s14 h14
    wtm_at "xs"
    refine ⟨_, _, ms, ms, rfl, by wtm_at "st", by wtm_at "sq", by omega, by omega, fun H15 s15 => ?_⟩
    wtm_at "xs"
    intro p16 H16 hp16 s16 h16
    wtm_at "xs"
    refine ⟨_, _, ms, [], rfl, by wtm_at "st", by wtm_at "sq", by omega, by decide, fun H17 s17 => ?_⟩
    wtm_at "xs"
    refine ⟨_, _, _, rfl, by wtm_at "hx", by decide, by decide, fun e11 e12 => ?_⟩
    wtm_at "xs"
    intro p18 H18 hp18 s18 h18
    wtm_at "xs"
    refine ⟨_, _, _, rfl, by wtm_at "hx", by decide, by decide, fun e13 e14 => ?_⟩
    wtm_at "xs"
    obtain ⟨j, hj⟩ := Int.eq_ofNat_of_zero_le e13
    obtain ⟨v, hv⟩ := Xk.lt_at (xs := [0, 1, 9998, 9999, n12 % 9999]) (j := j) (by simp only [List.length_cons, List.length_nil]; omega)
    have hv2 : v ≤ 9999 := by
      have hm := List.mem_of_getElem? hv
      simp only [List.mem_cons, List.not_mem_nil, or_false] at hm
      omega
    refine Xk.x_ixL (by wtm_at "sq") (Xk.at_nat hj (show ([0, 1, 9998, 9999, n12 % 9999].map V.int)[j]? = _ from Xk.map_at hv)) ?_
    wtm_at "xs"
    intro p19 H19 hp19 s19 h19
    wtm_at "xs"
    have t1 : Same H H2 := by wtm_at "sm"
    have t3 : Same H H3 := by wtm_at "sm"
    have t4 : Same H H4 := by wtm_at "sm"
    have t9 : Same H H9 := by wtm_at "sm"
    have t10 : Same H H10 := by wtm_at "sm"
    have t12 : Same H H12 := by wtm_at "sm"
    have t17 : Same H H17 := by wtm_at "sm"
    have hsm : Same H H19 := by wtm_at "sm"
    by_cases hv3 : v = 9999
    · refine Xk.x_nocut ?_
      wtm_at "xs"
      subst hv3
      wtm_at "xs"
      refine ⟨_, _, rfl, fun _ => ?_, fun z => absurd z (by omega)⟩
      wtm_at "xs"
      refine ⟨.none, .none, .non, .non, by decide +kernel, by decide +kernel, ?_⟩
      wtm_at "xs"
      exact ⟨_, _, _, _, _, _, _, _, _, rfl, hsm⟩
    · refine Xk.x_nocut ?_
      wtm_at "xs"
      refine Xk.x_dN (fun z => hv3 (V.int.inj z)) ?_
      wtm_at "xs"
      refine ⟨_, _, rfl, fun z => absurd z (by omega), fun _ p20 H20 hp20 s20 h20 => ?_⟩
      wtm_at "xs"
      refine Xk.x_neTInts (ns := [v + 1, 1 + n % 7 - 1]) (ms := [v + 1, 1 + n % 7 - 1]) (by wtm_at "st") (by wtm_at "st") ?_
      wtm_at "xs"
      exact ⟨_, _, _, _, _, _, _, _, _, rfl, by wtm_at "sm"⟩
  · rintro σ' H1 ⟨x1, x2, x3, x4, x5, x6, x7, x8, x9, rfl, s1⟩
    wtm_at "xs"
    exact q _
end
theorem all_mk {l : PySem.W.OpenLaw} {w : World} {K : PySem.W.Frag} {h : Heap} {mg : Str → Option Value} {fa f_is_members f_more_than_half f_next_ballot f__law_row f__law_take f__law_members f__law_are f__law_tells f__law_halves f_law a_NO_BALLOT : Addr} (X : K.In h) (G : h.Ns mainGlobals mg) (hfa : mg "law" = some (.ref fa))
    {od_is_members an_is_members od_more_than_half an_more_than_half od_next_ballot an_next_ballot od__law_row an__law_row od__law_take an__law_take od__law_members an__law_members od__law_are an__law_are od__law_tells an__law_tells od__law_halves an__law_halves od_law an_law : Option Addr} {sl_is_members sl_more_than_half sl_next_ballot sl__law_row sl__law_take sl__law_members sl__law_are sl__law_tells sl__law_halves sl_law : Array (Option Value)} {oc_is_members kV_is_members dc_is_members pm_is_members cd_is_members ct_is_members oc_more_than_half kV_more_than_half dc_more_than_half pm_more_than_half cd_more_than_half ct_more_than_half oc_next_ballot kV_next_ballot dc_next_ballot pm_next_ballot cd_next_ballot ct_next_ballot oc__law_row kV__law_row dc__law_row pm__law_row cd__law_row ct__law_row oc__law_take kV__law_take dc__law_take pm__law_take cd__law_take ct__law_take oc__law_members kV__law_members dc__law_members pm__law_members cd__law_members ct__law_members oc__law_are kV__law_are dc__law_are pm__law_are cd__law_are ct__law_are oc__law_tells kV__law_tells dc__law_tells pm__law_tells cd__law_tells ct__law_tells oc__law_halves kV__law_halves dc__law_halves pm__law_halves cd__law_halves ct__law_halves oc_law kV_law dc_law pm_law cd_law ct_law : Value} {t_MOST_INDEX t_MOST_MEMBERS t_MOST_ROUND : Tok} {t_NB1 t_NB2 : Tok} {dn_NB : Option Addr} {n_NB : Nat} {sl_NB : Array (Option Value)}
    (a_is_members : PySem.W.nsIn K mainGlobals "is_members" = some (some (.ref f_is_members)))
    (l_is_members : K.lookup f_is_members = some ⟨oc_is_members, od_is_members, .func (PySem.W.fnOf "is_members" "is_members" (defArgs s_is_members) (defBody s_is_members) (defScope s_is_members) .none kV_is_members dc_is_members pm_is_members an_is_members cd_is_members ct_is_members), sl_is_members⟩)
    (c_is_members : PySem.W.codeIn K cd_is_members "is_members" = true)
    (k_is_members : PySem.W.keepIn K (.ref f_is_members) = true)
    (a_more_than_half : PySem.W.nsIn K mainGlobals "more_than_half" = some (some (.ref f_more_than_half)))
    (l_more_than_half : K.lookup f_more_than_half = some ⟨oc_more_than_half, od_more_than_half, .func (PySem.W.fnOf "more_than_half" "more_than_half" (defArgs s_more_than_half) (defBody s_more_than_half) (defScope s_more_than_half) .none kV_more_than_half dc_more_than_half pm_more_than_half an_more_than_half cd_more_than_half ct_more_than_half), sl_more_than_half⟩)
    (c_more_than_half : PySem.W.codeIn K cd_more_than_half "more_than_half" = true)
    (k_more_than_half : PySem.W.keepIn K (.ref f_more_than_half) = true)
    (a_next_ballot : PySem.W.nsIn K mainGlobals "next_ballot" = some (some (.ref f_next_ballot)))
    (l_next_ballot : K.lookup f_next_ballot = some ⟨oc_next_ballot, od_next_ballot, .func (PySem.W.fnOf "next_ballot" "next_ballot" (defArgs s_next_ballot) (defBody s_next_ballot) (defScope s_next_ballot) .none kV_next_ballot dc_next_ballot pm_next_ballot an_next_ballot cd_next_ballot ct_next_ballot), sl_next_ballot⟩)
    (c_next_ballot : PySem.W.codeIn K cd_next_ballot "next_ballot" = true)
    (k_next_ballot : PySem.W.keepIn K (.ref f_next_ballot) = true)
    (a__law_row : PySem.W.nsIn K mainGlobals "_law_row" = some (some (.ref f__law_row)))
    (l__law_row : K.lookup f__law_row = some ⟨oc__law_row, od__law_row, .func (PySem.W.fnOf "_law_row" "_law_row" (defArgs s__law_row) (defBody s__law_row) (defScope s__law_row) .none kV__law_row dc__law_row pm__law_row an__law_row cd__law_row ct__law_row), sl__law_row⟩)
    (c__law_row : PySem.W.codeIn K cd__law_row "_law_row" = true)
    (k__law_row : PySem.W.keepIn K (.ref f__law_row) = true)
    (a__law_take : PySem.W.nsIn K mainGlobals "_law_take" = some (some (.ref f__law_take)))
    (l__law_take : K.lookup f__law_take = some ⟨oc__law_take, od__law_take, .func (PySem.W.fnOf "_law_take" "_law_take" (defArgs s__law_take) (defBody s__law_take) (defScope s__law_take) .none kV__law_take dc__law_take pm__law_take an__law_take cd__law_take ct__law_take), sl__law_take⟩)
    (c__law_take : PySem.W.codeIn K cd__law_take "_law_take" = true)
    (k__law_take : PySem.W.keepIn K (.ref f__law_take) = true)
    (a__law_members : PySem.W.nsIn K mainGlobals "_law_members" = some (some (.ref f__law_members)))
    (l__law_members : K.lookup f__law_members = some ⟨oc__law_members, od__law_members, .func (PySem.W.fnOf "_law_members" "_law_members" (defArgs s__law_members) (defBody s__law_members) (defScope s__law_members) .none kV__law_members dc__law_members pm__law_members an__law_members cd__law_members ct__law_members), sl__law_members⟩)
    (c__law_members : PySem.W.codeIn K cd__law_members "_law_members" = true)
    (k__law_members : PySem.W.keepIn K (.ref f__law_members) = true)
    (a__law_are : PySem.W.nsIn K mainGlobals "_law_are" = some (some (.ref f__law_are)))
    (l__law_are : K.lookup f__law_are = some ⟨oc__law_are, od__law_are, .func (PySem.W.fnOf "_law_are" "_law_are" (defArgs s__law_are) (defBody s__law_are) (defScope s__law_are) .none kV__law_are dc__law_are pm__law_are an__law_are cd__law_are ct__law_are), sl__law_are⟩)
    (c__law_are : PySem.W.codeIn K cd__law_are "_law_are" = true)
    (k__law_are : PySem.W.keepIn K (.ref f__law_are) = true)
    (a__law_tells : PySem.W.nsIn K mainGlobals "_law_tells" = some (some (.ref f__law_tells)))
    (l__law_tells : K.lookup f__law_tells = some ⟨oc__law_tells, od__law_tells, .func (PySem.W.fnOf "_law_tells" "_law_tells" (defArgs s__law_tells) (defBody s__law_tells) (defScope s__law_tells) .none kV__law_tells dc__law_tells pm__law_tells an__law_tells cd__law_tells ct__law_tells), sl__law_tells⟩)
    (c__law_tells : PySem.W.codeIn K cd__law_tells "_law_tells" = true)
    (k__law_tells : PySem.W.keepIn K (.ref f__law_tells) = true)
    (a__law_halves : PySem.W.nsIn K mainGlobals "_law_halves" = some (some (.ref f__law_halves)))
    (l__law_halves : K.lookup f__law_halves = some ⟨oc__law_halves, od__law_halves, .func (PySem.W.fnOf "_law_halves" "_law_halves" (defArgs s__law_halves) (defBody s__law_halves) (defScope s__law_halves) .none kV__law_halves dc__law_halves pm__law_halves an__law_halves cd__law_halves ct__law_halves), sl__law_halves⟩)
    (c__law_halves : PySem.W.codeIn K cd__law_halves "_law_halves" = true)
    (k__law_halves : PySem.W.keepIn K (.ref f__law_halves) = true)
    (a_law : PySem.W.nsIn K mainGlobals "law" = some (some (.ref f_law)))
    (l_law : K.lookup f_law = some ⟨oc_law, od_law, .func (PySem.W.fnOf "law" "law" (defArgs s_law) (defBody s_law) (defScope s_law) .none kV_law dc_law pm_law an_law cd_law ct_law), sl_law⟩)
    (c_law : PySem.W.codeIn K cd_law "law" = true)
    (k_law : PySem.W.keepIn K (.ref f_law) = true)
    (z_MOST_INDEX : PySem.W.nsIn K mainGlobals "MOST_INDEX" = some (some (.int 6 t_MOST_INDEX)))
    (z_MOST_MEMBERS : PySem.W.nsIn K mainGlobals "MOST_MEMBERS" = some (some (.int 5 t_MOST_MEMBERS)))
    (z_MOST_ROUND : PySem.W.nsIn K mainGlobals "MOST_ROUND" = some (some (.int 9999 t_MOST_ROUND)))
    (z_NO_BALLOT : PySem.W.nsIn K mainGlobals "NO_BALLOT" = some (some (.ref a_NO_BALLOT)))
    (zl_NO_BALLOT : K.lookup a_NO_BALLOT = some ⟨.type "tuple", dn_NB, .seq #[.int 0 t_NB1, .int 0 t_NB2] n_NB, sl_NB⟩)
    (z_all : PySem.W.nsIn K mainGlobals "all" = some none)
    (z_bool : PySem.W.nsIn K mainGlobals "bool" = some none)
    (z_int : PySem.W.nsIn K mainGlobals "int" = some none)
    (z_isinstance : PySem.W.nsIn K mainGlobals "isinstance" = some none)
    (z_len : PySem.W.nsIn K mainGlobals "len" = some none)
    (z_list : PySem.W.nsIn K mainGlobals "list" = some none)
    (z_range : PySem.W.nsIn K mainGlobals "range" = some none)
    (z_set : PySem.W.nsIn K mainGlobals "set" = some none)
    (z_sorted : PySem.W.nsIn K mainGlobals "sorted" = some none)
    (z_tuple : PySem.W.nsIn K mainGlobals "tuple" = some none)
    : ∃ fd : FuncData, (∀ (s : Shared) (v : Value), BindsTo s fd ⟨[v], []⟩ [("script", v)]) ∧ ∀ base : Heap, K.In base → base.Ns mainGlobals mg → FnOk l.prog w K mg base CX0 3 fa fd ["script"] (sp_law K) := by
  have e := hfa.symm.trans (PySem.W.mg_of X G a_law)
  cases e
  have F_is_members := fun_mk (st := s_is_members) l_is_members c_is_members k_is_members
  have b_is_members := F_is_members.binds (ps := ["members", "size"]) fun _ _ _ _ _ _ us hl => match us, hl with | [_, _], _ => rfl
  have F_more_than_half := fun_mk (st := s_more_than_half) l_more_than_half c_more_than_half k_more_than_half
  have b_more_than_half := F_more_than_half.binds (ps := ["members", "indexes"]) fun _ _ _ _ _ _ us hl => match us, hl with | [_, _], _ => rfl
  have F_next_ballot := fun_mk (st := s_next_ballot) l_next_ballot c_next_ballot k_next_ballot
  have b_next_ballot := F_next_ballot.binds (ps := ["after", "index"]) fun _ _ _ _ _ _ us hl => match us, hl with | [_, _], _ => rfl
  have F__law_row := fun_mk (st := s__law_row) l__law_row c__law_row k__law_row
  have b__law_row := F__law_row.binds (ps := ["script", "k"]) fun _ _ _ _ _ _ us hl => match us, hl with | [_, _], _ => rfl
  have F__law_take := fun_mk (st := s__law_take) l__law_take c__law_take k__law_take
  have b__law_take := F__law_take.binds (ps := ["box", "size"]) fun _ _ _ _ _ _ us hl => match us, hl with | [_, _], _ => rfl
  have F__law_members := fun_mk (st := s__law_members) l__law_members c__law_members k__law_members
  have b__law_members := F__law_members.binds (ps := ["box", "size"]) fun _ _ _ _ _ _ us hl => match us, hl with | [_, _], _ => rfl
  have F__law_are := fun_mk (st := s__law_are) l__law_are c__law_are k__law_are
  have b__law_are := F__law_are.binds (ps := ["row", "size"]) fun _ _ _ _ _ _ us hl => match us, hl with | [_, _], _ => rfl
  have F__law_tells := fun_mk (st := s__law_tells) l__law_tells c__law_tells k__law_tells
  have b__law_tells := F__law_tells.binds (ps := ["row", "size"]) fun _ _ _ _ _ _ us hl => match us, hl with | [_, _], _ => rfl
  have F__law_halves := fun_mk (st := s__law_halves) l__law_halves c__law_halves k__law_halves
  have b__law_halves := F__law_halves.binds (ps := ["members", "indexes"]) fun _ _ _ _ _ _ us hl => match us, hl with | [_, _], _ => rfl
  have F_law := fun_mk (st := s_law) l_law c_law k_law
  have b_law := F_law.binds (ps := ["script"]) fun _ _ _ _ _ _ us hl => match us, hl with | [_], _ => rfl
  let T : Txt K mg := ⟨f_is_members, _, F_is_members, b_is_members, PySem.W.mg_of X G a_is_members, f_more_than_half, _, F_more_than_half, b_more_than_half, PySem.W.mg_of X G a_more_than_half, f_next_ballot, _, F_next_ballot, b_next_ballot, PySem.W.mg_of X G a_next_ballot, f__law_row, _, F__law_row, b__law_row, PySem.W.mg_of X G a__law_row, f__law_take, _, F__law_take, b__law_take, PySem.W.mg_of X G a__law_take, f__law_members, _, F__law_members, b__law_members, PySem.W.mg_of X G a__law_members, f__law_are, _, F__law_are, b__law_are, PySem.W.mg_of X G a__law_are, f__law_tells, _, F__law_tells, b__law_tells, PySem.W.mg_of X G a__law_tells, f__law_halves, _, F__law_halves, b__law_halves, PySem.W.mg_of X G a__law_halves, fa, _, F_law, b_law, PySem.W.mg_of X G a_law, t_MOST_INDEX, PySem.W.mg_of X G z_MOST_INDEX, t_MOST_MEMBERS, PySem.W.mg_of X G z_MOST_MEMBERS, t_MOST_ROUND, PySem.W.mg_of X G z_MOST_ROUND, a_NO_BALLOT, PySem.W.mg_of X G z_NO_BALLOT, (fun H => Or.inr ⟨_, _, _, zl_NO_BALLOT, rfl, rfl, (by show 2 ≤ sizeLine; decide), .cons ⟨_, rfl⟩ (.cons ⟨_, rfl⟩ .nil)⟩), PySem.W.mg_none_of X G z_all, PySem.W.mg_none_of X G z_bool, PySem.W.mg_none_of X G z_int, PySem.W.mg_none_of X G z_isinstance, PySem.W.mg_none_of X G z_len, PySem.W.mg_none_of X G z_list, PySem.W.mg_none_of X G z_range, PySem.W.mg_none_of X G z_set, PySem.W.mg_none_of X G z_sorted, PySem.W.mg_none_of X G z_tuple⟩
  exact ⟨PySem.W.fnOf "law" "law" (defArgs s_law) (defBody s_law) (defScope s_law) .none kV_law dc_law pm_law an_law cd_law ct_law, fun s v => .of_eq rfl, fun base _ _ => ok_law T⟩
end K30
open PySem PySem.W PyProof.Rows
set_option maxRecDepth 100000 in
set_option maxHeartbeats 0 in
theorem PySem.Challenge.cw_crosskeep_k30_ballots_and_members_holds : PySem.Challenge.rw_crosskeep_k30_ballots_and_members.Holds := by
  w_on; o_law; k_head; (case hw => w_witness2)
  k_fill
  refine L2.walk_of (l := PySem.Challenge.rw_crosskeep_k30_ballots_and_members) (n := 63) (k := 3) (x := "script") (CX := fun _ => L2.CX0) (sp := fun w => K30.sp_law _) rfl (by decide) rfl ⟨rfl, by decide, by decide⟩ (fun w h Y => PySem.W.kIn_of Y) ?F (fun _ _ a ns hl _ hS => ⟨a, ns, rfl, hS, hl, fun _ => rfl⟩) (fun _ _ _ _ _ h => h)
  case F =>
    intro w mg fa h KX G hmg
    refine' K30.all_mk KX G hmg ?a_is_members ?l_is_members ?c_is_members ?k_is_members ?a_more_than_half ?l_more_than_half ?c_more_than_half ?k_more_than_half ?a_next_ballot ?l_next_ballot ?c_next_ballot ?k_next_ballot ?a__law_row ?l__law_row ?c__law_row ?k__law_row ?a__law_take ?l__law_take ?c__law_take ?k__law_take ?a__law_members ?l__law_members ?c__law_members ?k__law_members ?a__law_are ?l__law_are ?c__law_are ?k__law_are ?a__law_tells ?l__law_tells ?c__law_tells ?k__law_tells ?a__law_halves ?l__law_halves ?c__law_halves ?k__law_halves ?a_law ?l_law ?c_law ?k_law ?z_MOST_INDEX ?z_MOST_MEMBERS ?z_MOST_ROUND ?z_NO_BALLOT ?zl_NO_BALLOT ?z_all ?z_bool ?z_int ?z_isinstance ?z_len ?z_list ?z_range ?z_set ?z_sorted ?z_tuple
    (case a_is_members => k_is)
    (case l_is_members => k_is)
    (case c_is_members => k_is)
    (case k_is_members => k_is)
    (case a_more_than_half => k_is)
    (case l_more_than_half => k_is)
    (case c_more_than_half => k_is)
    (case k_more_than_half => k_is)
    (case a_next_ballot => k_is)
    (case l_next_ballot => k_is)
    (case c_next_ballot => k_is)
    (case k_next_ballot => k_is)
    (case a__law_row => k_is)
    (case l__law_row => k_is)
    (case c__law_row => k_is)
    (case k__law_row => k_is)
    (case a__law_take => k_is)
    (case l__law_take => k_is)
    (case c__law_take => k_is)
    (case k__law_take => k_is)
    (case a__law_members => k_is)
    (case l__law_members => k_is)
    (case c__law_members => k_is)
    (case k__law_members => k_is)
    (case a__law_are => k_is)
    (case l__law_are => k_is)
    (case c__law_are => k_is)
    (case k__law_are => k_is)
    (case a__law_tells => k_is)
    (case l__law_tells => k_is)
    (case c__law_tells => k_is)
    (case k__law_tells => k_is)
    (case a__law_halves => k_is)
    (case l__law_halves => k_is)
    (case c__law_halves => k_is)
    (case k__law_halves => k_is)
    (case a_law => k_is)
    (case l_law => k_is)
    (case c_law => k_is)
    (case k_law => k_is)
    (case z_MOST_INDEX => k_is)
    (case z_MOST_MEMBERS => k_is)
    (case z_MOST_ROUND => k_is)
    (case z_NO_BALLOT => k_is)
    (case zl_NO_BALLOT => k_is)
    (case z_all => k_is)
    (case z_bool => k_is)
    (case z_int => k_is)
    (case z_isinstance => k_is)
    (case z_len => k_is)
    (case z_list => k_is)
    (case z_range => k_is)
    (case z_set => k_is)
    (case z_sorted => k_is)
    (case z_tuple => k_is)
#print axioms PySem.Challenge.cw_crosskeep_k30_ballots_and_members_holds

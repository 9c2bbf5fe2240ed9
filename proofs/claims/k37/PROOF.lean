import PyProof.Rows.All
import Wide.All
import OpenK.AllK
import Wide.FinOn
import HandS.ForMost
import HandS.TryOnly
import HandS.IsInst
import HandS.Evl
import HandS.Wide
import HandS.TupAny
import HandS.SortInts
import HandS.Style
import HandS.Strs
import HandS.SetFor
import HandS.Conv
import HandS.More
import HandS.Walk
import HandS.WideBits
import HandS.Property
import HandS.TupLe
import HandS.Defaults
import HandS.Deep
import HandS.RevRange
import PyProof.StrOps2
import HandS.TupMul
import HandS.DictComp
import KE.GoesMore
import KE.SortKeyHeap
import KE.DataCmp
import PyProof.DictMoreH
import HandS.SetKeys
import HandS.Conv
import HandS.Rev
import HandS.MapObj
import KE.DataMinMax
import HandS.TupLen
import PySem.Challenge.RW_crosskeep_k37_whole_acceptors_make_lawfu
set_option Elab.async false
set_option linter.all false
set_option maxRecDepth 100000
set_option maxHeartbeats 4000000

/-! ## readings, one step at a time (a layer of our own over the hand layer) -/
namespace Xk
open PySem PySem.Spec PyProof.Rows L2

section
variable {K : PySem.W.Frag} {σ : L2.St} {H H0 H1 H2 : Hp} {Q : VK} {ta tb tc te : TE} {t u : TT} {D : Ends} {tz tu tw : TS} {g : TG} {x y z v : V} {i j : Int} {b : Bool}

/-! ### values -/
theorem rel_ref {a : Addr} : RelV (.ref a) (.ref a) := rfl
theorem rel_ty {T : String} : RelV (.ty T) (.type T) := rfl
theorem rel_int {tk : Tok} : RelV (.int i) (.int i tk) := ⟨tk, rfl⟩
theorem rel_str {s : Str} {tk : Tok} : RelV (.str s) (.str s tk) := ⟨tk, rfl⟩

/-! ### heaps -/
/-- nothing stands at p -/
structure Fr (p : Addr) (H : Hp) : Prop where
  is : H p = none
theorem same_fr {p : Addr} {o : HO} (h : Fr p H) : Same H (upd H p o) := fun c x e => by
  rw [upd_ne (ne_of_none e h.is)]
  exact e
theorem same_new {p : Addr} {o : HO} (h : H p = none) : Same H (upd H p o) := fun c x e => by
  rw [upd_ne (ne_of_none e h)]
  exact e
theorem same_mut {p : Addr} {o : HO} (e : Same H H1) (h : Fr p H) : Same H (upd H1 p o) := fun c x ha => by
  rw [upd_ne (ne_of_none ha h.is)]
  exact e c x ha
theorem same_at {a : Addr} {o : HO} (e : Same H H1) (h : H a = some o) : H1 a = some o := e a o h
theorem free_back {p : Addr} (h : Fr p H1) (e : Same H H1) : Fr p H := ⟨Same.free e h.is⟩
theorem ne_new {a p : Addr} {o : HO} (h' : Fr p H) (h : H a = some o) : a ≠ p := ne_of_none h h'.is
theorem sq_of {a : Addr} {xs : List V} (h : H a = some (.lst xs)) : SqL K H a xs := Or.inl (Or.inl h)
theorem st_of {a : Addr} {xs : List V} (h : H a = some (.tup xs)) : SqT K H a xs := Or.inl (Or.inl h)
theorem sq_same {a : Addr} {xs : List V} (h : SqL K H a xs) (e : Same H H1) : SqL K H1 a xs := e.seq h
theorem st_same {a : Addr} {xs : List V} (h : SqT K H a xs) (e : Same H H1) : SqT K H1 a xs := by
  rcases h with (h | ⟨o, h⟩) | h
  · exact .inl (.inl (e _ _ h))
  · exact .inl (.inr ⟨o, e _ _ h⟩)
  · exact .inr h
theorem size_ok {n : Nat} (h : n ≤ 100000) : n ≤ sizeLine := Nat.le_trans h (by decide)
theorem size_lt {n : Nat} (h : n < 100000) : n < sizeLine := Nat.lt_of_lt_of_le h (by decide)

/-- all that was tracked but at p is as it was -/
def But (p : Addr) (H H' : Hp) : Prop := ∀ b o, b ≠ p → H b = some o → H' b = some o
theorem But.refl (p : Addr) (H : Hp) : But p H H := fun _ _ _ h => h
theorem but_same {p : Addr} (e : Same H H1) : But p H H1 := fun b o _ h => e b o h
theorem but_trans {p : Addr} (e : But p H H1) (e' : But p H1 H2) : But p H H2 := fun b o n h => e' b o n (e b o n h)
theorem but_mut {p : Addr} {o : HO} (e : But p H H1) : But p H (upd H1 p o) := fun b u n h => by
  rw [upd_ne n]
  exact e b u n h
theorem but_new {p q : Addr} {o : HO} (e : But p H H1) (h : Fr q H) : But p H (upd H1 q o) := fun b u n g => by
  rw [upd_ne (ne_of_none g h.is)]
  exact e b u n g
theorem but_at {p a : Addr} {o : HO} (e : But p H H1) (n : a ≠ p) (h : H a = some o) : H1 a = some o := e a o n h
theorem none_but {p a : Addr} {o u : HO} (h : H p = some o) (e : But p H H1) (h1 : H1 p = some u) (ha : Fr a H1) : Fr a H := by
  refine ⟨?_⟩
  cases q : H a with
  | none => rfl
  | some v =>
    by_cases n : a = p
    · subst n
      rw [ha.is] at h1
      cases h1
    · have := e a v n q
      rw [ha.is] at this
      cases this
theorem fr_upd {p q : Addr} {o : HO} (h : Fr p (upd H q o)) : Fr p H := by
  refine ⟨?_⟩
  have h1 := h.is
  unfold upd at h1
  split at h1
  · cases h1
  · exact h1
theorem same_but {p : Addr} (e : But p H H1) (h : Fr p H0) (e0 : Same H0 H) : Same H0 H1 := fun b o g => e b o (ne_of_none g h.is) (e0 b o g)

/-! ### expressions -/
theorem x_var {n : Nat} (h : σ[n]? = some (some v)) (q : Q v H) : tVar n σ H Q := ⟨v, h, q⟩
theorem x_c (q : Q v H) : tC v σ H Q := q
theorem x_op {r : R2} (q : ta σ H fun x H1 => tb σ H1 fun y H2 => r x y H2 Q) : tOp r ta tb σ H Q := q
theorem x_un {r : V → Hp → VK → Prop} (q : ta σ H fun x H1 => r x H1 Q) : tUn r ta σ H Q := q
theorem x_I0 {f : Int → Int → V} (q : Q (f i j) H) : rI0 f (.int i) (.int j) H Q := ⟨i, j, rfl, rfl, q⟩
theorem x_I {C : Int → Int → Prop} {f : Int → Int → V} (hc : C i j) (q : Q (f i j) H) : rI C f (.int i) (.int j) H Q := ⟨i, j, rfl, rfl, hc, q⟩
theorem x_U {f : Int → V} (q : Q (f i) H) : rU f (.int i) H Q := ⟨i, rfl, q⟩
theorem x_eq (h : scal x y = true) (q : Q (.bl (decide (x = y))) H) : rEq x y H Q := ⟨h, q⟩
theorem x_ne (h : scal x y = true) (q : Q (.bl (!decide (x = y))) H) : rNe x y H Q := ⟨h, q⟩
theorem x_ixL {p : Addr} {xs : List V} (h : SqL K H p xs) (ha : atI xs i = some v) (q : Q v H) : rIxL K (.ref p) (.int i) H Q := ⟨p, xs, i, v, rfl, rfl, h, ha, q⟩
theorem x_ixT {p : Addr} {xs : List V} (h : SqT K H p xs) (ha : atI xs i = some v) (q : Q v H) : rIxT K (.ref p) (.int i) H Q := ⟨p, xs, i, v, rfl, rfl, h, ha, q⟩
theorem x_ixS {w : Str} {c : Nat} (h : w.length ≤ 100000) (ha : atI w.cps.toList i = some c) (q : Q (.str ⟨#[c]⟩) H) : rIxS (.str w) (.int i) H Q := ⟨w, i, c, rfl, rfl, size_ok h, ha, q⟩
theorem x_nil {R : List V → Hp → Prop} (q : R [] H) : tNil σ H R := q
theorem x_cons {tr : TA} {R : List V → Hp → Prop} (q : ta σ H fun x H1 => tr σ H1 fun xs H2 => R (x :: xs) H2) : tCons ta tr σ H R := q
def New (Q : VK) (o : HO) (n : Nat) (H : Hp) : Prop := n ≤ sizeLine ∧ ∀ p, H p = none → Q (.ref p) (upd H p o)
theorem x_lst {tr : TA} (q : tr σ H fun xs H1 => New Q (.lst xs) xs.length H1) : tLst tr σ H Q := q
theorem x_tup {tr : TA} (q : tr σ H fun xs H1 => New Q (.tup xs) xs.length H1) : tTup tr σ H Q := q
/-- what is new is told by what it holds; the heap gets a name -/
theorem x_new {n : Nat} {o : HO} (hl : n ≤ 100000) (k : ∀ p H2, Fr p H → Same H H2 → H2 p = some o → Q (.ref p) H2) : New Q o n H :=
  ⟨size_ok hl, fun p hp => k p _ ⟨hp⟩ (same_new hp) upd_same⟩
theorem x_new1 {o : HO} (k : ∀ p H2, Fr p H → Same H H2 → H2 p = some o → Q (.ref p) H2) : ∀ p, H p = none → Q (.ref p) (upd H p o) :=
  fun p hp => k p _ ⟨hp⟩ (same_new hp) upd_same
theorem x_cb {r : List V → Hp → VK → Prop} {tr : TA} (q : tr σ H fun vs H1 => r vs H1 Q) : tCB r tr σ H Q := q
theorem x_call {sp : Sp} {dvs : List V} {E : XK} {tr : TA} (q : tr σ H fun vs H1 => sp (vs ++ dvs) H1 Q E) : tCall sp dvs E tr σ H Q := q
theorem x_sl {r : V → Option Int → Option Int → Hp → VK → Prop} {tl th : TO} (q : te σ H fun x H1 => tl σ H1 fun l H2 => th σ H2 fun u H3 => r x l u H3 Q) : tSl r te tl th σ H Q := q
theorem x_nopart {R : Option Int → Hp → Prop} (q : R none H) : tNoPart σ H R := q
theorem x_part {R : Option Int → Hp → Prop} (q : te σ H fun x H1 => ∃ i, x = .int i ∧ R (some i) H1) : tPart te σ H R := q
theorem x_if (q : t σ H fun c H1 => if c = true then ta σ H1 Q else tb σ H1 Q) : tIf t ta tb σ H Q := q
theorem x_andV (q : ta σ H fun x H1 => ∃ c, x = .bl c ∧ if c = true then tb σ H1 Q else Q (.bl false) H1) : tAndV ta tb σ H Q := q
theorem x_orV (q : ta σ H fun x H1 => ∃ c, x = .bl c ∧ if c = true then Q (.bl true) H1 else tb σ H1 Q) : tOrV ta tb σ H Q := q
theorem x_notV (q : ta σ H fun x H1 => ∃ c, x = .bl c ∧ Q (.bl (!c)) H1) : tNotV ta σ H Q := q
theorem x_bl {R : Bool → Prop} (q : R b) : ∃ c, V.bl b = .bl c ∧ R c := ⟨b, rfl, q⟩
theorem x_isI {R : Int → Prop} (q : R i) : ∃ c, V.int i = .int c ∧ R c := ⟨i, rfl, q⟩

/-! ### built-ins by names -/
def nInt : List V → Hp → VK → Prop := fun xs H Q => (∃ i, xs = [.int i] ∧ Q (.int i) H) ∨ ∃ k, xs = [.bl k] ∧ Q (.int (if k then 1 else 0)) H
theorem call_nInt {X : Cx} : CallR X (.type "int") nInt := call_int1
theorem x_nInt (q : Q (.int i) H) : nInt [.int i] H Q := .inl ⟨i, rfl, q⟩
theorem x_nIntB (q : Q (.int (if b then 1 else 0)) H) : nInt [.bl b] H Q := .inr ⟨b, rfl, q⟩
def nLen (K : PySem.W.Frag) : List V → Hp → VK → Prop := fun xs H Q => ∃ p ys, xs = [.ref p] ∧ (SqL K H p ys ∨ SqT K H p ys) ∧ Q (.int ys.length) H
theorem call_nLen {X : Cx} : CallR X (.builtin "len") (nLen X.K) := call_len_seq
theorem x_lenL {p : Addr} {ys : List V} (h : SqL K H p ys) (q : Q (.int ys.length) H) : nLen K [.ref p] H Q := ⟨p, ys, rfl, .inl h, q⟩
theorem x_lenT {p : Addr} {ys : List V} (h : SqT K H p ys) (q : Q (.int ys.length) H) : nLen K [.ref p] H Q := ⟨p, ys, rfl, .inr h, q⟩
def nListOf (K : PySem.W.Frag) : List V → Hp → VK → Prop := fun xs H Q => ∃ p ys, xs = [.ref p] ∧ (SqL K H p ys ∨ SqT K H p ys) ∧ ∀ l, H l = none → Q (.ref l) (upd H l (.lst ys))
theorem call_nListOf {X : Cx} : CallR X (.type "list") (nListOf X.K) := call_list_of
theorem x_listL {p : Addr} {ys : List V} (h : SqL K H p ys) (k : ∀ l H2, Fr l H → Same H H2 → H2 l = some (.lst ys) → Q (.ref l) H2) : nListOf K [.ref p] H Q := ⟨p, ys, rfl, .inl h, x_new1 k⟩
theorem x_listT {p : Addr} {ys : List V} (h : SqT K H p ys) (k : ∀ l H2, Fr l H → Same H H2 → H2 l = some (.lst ys) → Q (.ref l) H2) : nListOf K [.ref p] H Q := ⟨p, ys, rfl, .inr h, x_new1 k⟩
def nTupleOf (K : PySem.W.Frag) : List V → Hp → VK → Prop := fun xs H Q => ∃ p ys, xs = [.ref p] ∧ ((SqL K H p ys ∧ ∀ l, H l = none → Q (.ref l) (upd H l (.tup ys))) ∨ (SqT K H p ys ∧ Q (.ref p) H))
theorem call_nTupleOf {X : Cx} : CallR X (.type "tuple") (nTupleOf X.K) := call_tuple_of
theorem x_tupleL {p : Addr} {ys : List V} (h : SqL K H p ys) (k : ∀ l H2, Fr l H → Same H H2 → H2 l = some (.tup ys) → Q (.ref l) H2) : nTupleOf K [.ref p] H Q := ⟨p, ys, rfl, .inl ⟨h, x_new1 k⟩⟩
theorem x_tupleT {p : Addr} {ys : List V} (h : SqT K H p ys) (q : Q (.ref p) H) : nTupleOf K [.ref p] H Q := ⟨p, ys, rfl, .inr ⟨h, q⟩⟩
theorem kit_T {a c : String} (h : kitB a c = some true) : kitB a c = some true := h
theorem kit_F {a c : String} (h : kitB a c = some false) : kitB a c = some false := h
theorem x_isi {c : String} {tt : String} {k : Bool} (ty : TyX K H x (.type tt)) (e : kitB tt c = some k) (q : Q (.bl k) H) : rIsi K [x, .ty c] H Q := ⟨x, .ty c, .type tt, .type c, k, rfl, .ty _, ty, kit_ty e, q⟩
theorem x_isiInt {c : String} {k : Bool} (e : kitB "int" c = some k) (q : Q (.bl k) H) : rIsi K [.int i, .ty c] H Q := x_isi (.base (.int i)) e q
theorem x_isiBl {c : String} {k b : Bool} (e : kitB "bool" c = some k) (q : Q (.bl k) H) : rIsi K [.bl b, .ty c] H Q := x_isi (.base (.bl b)) e q
theorem x_isiStr {c : String} {k : Bool} {s : Str} (e : kitB "str" c = some k) (q : Q (.bl k) H) : rIsi K [.str s, .ty c] H Q := x_isi (.base (.str s)) e q
theorem x_isiNon {c : String} {k : Bool} (e : kitB "NoneType" c = some k) (q : Q (.bl k) H) : rIsi K [.non, .ty c] H Q := x_isi (.base .non) e q
theorem x_isiLst {c : String} {k : Bool} {a : Addr} {xs : List V} (h : H a = some (.lst xs)) (e : kitB "list" c = some k) (q : Q (.bl k) H) : rIsi K [.ref a, .ty c] H Q := x_isi (.base (.lst h)) e q
theorem x_isiTup {c : String} {k : Bool} {a : Addr} {xs : List V} (h : H a = some (.tup xs)) (e : kitB "tuple" c = some k) (q : Q (.bl k) H) : rIsi K [.ref a, .ty c] H Q := x_isi (.base (.tup h)) e q

def nSorted (K : PySem.W.Frag) : List V → Hp → VK → Prop := fun vs H Q => ∃ (a : Addr) (ns : List Int), vs = [V.ref a] ∧ SqL K H a (ns.map V.int) ∧ ns.length < 64 ∧
  ∀ (ns' : List Int) (p : Addr), ns'.Perm ns → ns'.Pairwise (· ≤ ·) → H p = none → Q (.ref p) (upd H p (.lst (ns'.map V.int)))
theorem x_sorted {a : Addr} {ns : List Int} (h : SqL K H a (ns.map V.int)) (hl : ns.length < 64) (k : ∀ p H2 (ns' : List Int), ns'.Perm ns → ns'.Pairwise (· ≤ ·) → Fr p H → Same H H2 → H2 p = some (.lst (ns'.map V.int)) → Q (.ref p) H2) : rSorted K [.ref a] H Q :=
  ⟨a, ns, rfl, h, hl, fun ns' p h1 h2 h3 => k p _ ns' h1 h2 ⟨h3⟩ (same_new h3) upd_same⟩
/-- set(t), t a tuple of ints -/
def rSetOfI (K : PySem.W.Frag) (w : World) : List V → Hp → VK → Prop := fun vs H Q => ∃ (p : Addr) (ns : List Int), vs = [V.ref p] ∧ SqT K H p (ns.map V.int) ∧ ns.length ≤ 1000 ∧ ∀ a n, H a = none → n ≤ ns.length → Q (.ref a) (upd H a (SetO w a (fun j => decide (j ∈ ns)) n))
theorem cr_setOfI {X : Cx} (hc : X.calm = true) : CallR X (.type "set") (rSetOfI X.K X.w) := by
  intro pins s σ H xs us Q I r h
  obtain ⟨p0, ns, rfl, hq, hl, q⟩ := h
  cases r with
  | cons r rr =>
    cases rr
    cases r
    obtain ⟨its, rv, pt, hz⟩ := I.tuple hq
    have hi : IntsAre its.toArray.toList ns := ints_of_vals rv
    have hd := I.ok.hd hc
    refine call_set_tupI ns hd (show s.heap.IsTuple p0 its.toArray from pt) hi (by unfold scanBound; omega) fun h' tk c R1 hcn k => ?_
    exact ⟨.ref _, upd H s.heap.objs.size (SetO X.w s.heap.objs.size (fun j => decide (j ∈ ns)) c), I.laid (t' := tk) k (Nat.le_refl _) (setO_new R1), rfl, q _ _ (I.hok.fresh (Nat.le_refl _)) hcn⟩
theorem x_setOfI {w : World} {p : Addr} {ns : List Int} (h : SqT K H p (ns.map V.int)) (hl : ns.length ≤ 1000) (k : ∀ a H2 n, Fr a H → Same H H2 → H2 a = some (SetO w a (fun j => decide (j ∈ ns)) n) → n ≤ ns.length → Q (.ref a) H2) : rSetOfI K w [.ref p] H Q :=
  ⟨p, ns, rfl, h, hl, fun a n h1 h2 => k a _ n ⟨h1⟩ (same_new h1) upd_same h2⟩
theorem x_sortedSet {w : World} {a : Addr} {S : Int → Bool} {n : Nat} (h : H a = some (SetO w a S n)) (hl : n < 64) (k : ∀ p H2 (ns : List Int), ns.Pairwise (· < ·) → (∀ k : Int, k ∈ ns ↔ S k = true) → ns.length = n → Fr p H → Same H H2 → H2 p = some (.lst (ns.map V.int)) → Q (.ref p) H2) : rSortedSet w [.ref a] H Q :=
  ⟨a, S, n, rfl, h, hl, fun ns p h1 h2 h3 h4 => k p _ ns h1 h2 h3 ⟨h4⟩ (same_new h4) upd_same⟩
theorem x_all {a : Addr} {bs : List Bool} (h : SqL K H a (bs.map V.bl)) (q : Q (.bl (bs.all id)) H) : rAll K [.ref a] H Q := ⟨a, bs, rfl, h, q⟩
theorem x_any {a : Addr} {bs : List Bool} (h : SqL K H a (bs.map V.bl)) (q : Q (.bl (bs.any id)) H) : rAny K [.ref a] H Q := ⟨a, bs, rfl, h, q⟩
theorem x_sum {a : Addr} {ns : List Int} (h : SqL K H a (ns.map V.int)) (q : Q (.int ns.sum) H) : rSum K [.ref a] H Q := ⟨a, ns, rfl, h, q⟩
theorem x_inL {p : Addr} {xs : List V} (h : SqL K H p xs) (hx : flatV x = true) (ha : xs.all flatV = true) (q : Q (.bl (inV x xs)) H) : rIn K false x (.ref p) H Q := ⟨p, xs, rfl, .inl h, hx, ha, q⟩
theorem x_inT {p : Addr} {xs : List V} (h : SqT K H p xs) (hx : flatV x = true) (ha : xs.all flatV = true) (q : Q (.bl (inV x xs)) H) : rIn K false x (.ref p) H Q := ⟨p, xs, rfl, .inr h, hx, ha, q⟩
theorem x_niL {p : Addr} {xs : List V} (h : SqL K H p xs) (hx : flatV x = true) (ha : xs.all flatV = true) (q : Q (.bl (!inV x xs)) H) : rIn K true x (.ref p) H Q := ⟨p, xs, rfl, .inl h, hx, ha, q⟩
theorem x_niT {p : Addr} {xs : List V} (h : SqT K H p xs) (hx : flatV x = true) (ha : xs.all flatV = true) (q : Q (.bl (!inV x xs)) H) : rIn K true x (.ref p) H Q := ⟨p, xs, rfl, .inr h, hx, ha, q⟩
theorem flat_ints : ∀ ns : List Int, (ns.map V.int).all flatV = true
  | [] => rfl
  | n :: r => by
    rw [List.map_cons, List.all_cons, flat_ints r]
    rfl
theorem in_ints (i : Int) : ∀ ns : List Int, inV (.int i) (ns.map V.int) = decide (i ∈ ns)
  | [] => by simp [inV]
  | n :: r => by
    have h := in_ints i r
    unfold inV at h ⊢
    rw [List.map_cons, List.any_cons, h]
    by_cases e : n = i
    · subst e
      simp [eqV]
    · have e' : ¬ i = n := fun z => e z.symm
      simp [eqV, e, e']

def nIsN : R2 := fun x y H Q => y = .non ∧ Q (.bl (decide (x = .non))) H
def nNotN : R2 := fun x y H Q => y = .non ∧ Q (.bl (!decide (x = .non))) H
theorem op_nIsN {X : Cx} : OpR X (compareOp .Is) nIsN := op_isN
theorem op_nNotN {X : Cx} : OpR X (compareOp .IsNot) nNotN := op_notN
theorem x_nIsN (q : Q (.bl (decide (x = .non))) H) : nIsN x .non H Q := ⟨rfl, q⟩
theorem x_nNotN (q : Q (.bl (!decide (x = .non))) H) : nNotN x .non H Q := ⟨rfl, q⟩
def nAndM : R2 := fun x y H Q => ∃ (i : Int) (k : Nat), x = .int i ∧ y = .int (2 ^ k - 1) ∧ Q (.int (i % 2 ^ k)) H
theorem op_nAndM {X : Cx} : OpR X (binaryOp .BitAnd) nAndM := op_andM
theorem x_and255 (q : Q (.int (i % 256)) H) : nAndM (.int i) (.int 255) H Q := ⟨i, 8, rfl, rfl, q⟩

/-! ### the same rules, K told: within a comprehension's block too -/
section
variable {X : Cx} {w : World}
theorem k_in (e : X.K = K) : OpR X (compareOp .In) (rIn K false) := e ▸ op_in_seq
theorem k_enum {e : Expr} {ta : TA} {p pos tpos : Pos} {elts : List Expr} {kk : Nat} (hk : X.K = K) (hg : Gl X "enumerate") (hm : X.mg "enumerate" = none) (ha : PA X [e] ta) (hs : starEach [e] X.env = [(false, eval e X.env)] := by rfl) :
    PI X (.Tuple elts kk tpos) (.Call (.Name "enumerate" p) [e] [] pos) (iEnum K ta) := hk ▸ pi_enum hg hm ha hs
theorem k_gtup {es : List Expr} {k : Nat} {pos : Pos} {gs : TGs} {n : Nat} (hk : X.K = K) (hc : X.calm = true) (h : PGs X es gs)
    (hn : (assignEach es X.env).length = n := by rfl) (hst : (assignEach es X.env).findIdx? (·.1) = none := by rfl) : PG X (.Tuple es k pos) (gTup K n gs) := hk ▸ pg_tup hc h hn hst
theorem k_nin (e : X.K = K) : OpR X (compareOp .NotIn) (rIn K true) := e ▸ op_notIn_seq
theorem k_ixL (e : X.K = K) : IxR X (rIxL K) := e ▸ ix_list
theorem k_ixT (e : X.K = K) : IxR X (rIxT K) := e ▸ ix_tup
theorem k_slL (e : X.K = K) : SlR X (rSlL K) := e ▸ sl_list
theorem k_len (e : X.K = K) : CallR X (.builtin "len") (nLen K) := e ▸ call_nLen
theorem k_list (e : X.K = K) : CallR X (.type "list") (nListOf K) := e ▸ call_nListOf
theorem k_tuple (e : X.K = K) : CallR X (.type "tuple") (nTupleOf K) := e ▸ call_nTupleOf
theorem k_isi (e : X.K = K) : CallR X (.builtin "isinstance") (rIsi K) := e ▸ call_isi
theorem k_all (hc : X.calm = true) (e : X.K = K) : CallR X (.builtin "all") (rAll K) := e ▸ cr_all hc
theorem k_any (hc : X.calm = true) (e : X.K = K) : CallR X (.builtin "any") (rAny K) := e ▸ cr_any hc
theorem k_sum (hc : X.calm = true) (e : X.K = K) : CallR X (.builtin "sum") (rSum K) := e ▸ cr_sum hc
theorem k_sorted (e : X.K = K) : CallR X (.builtin "sorted") (rSorted K) := e ▸ cr_sorted
theorem k_sortedS (e : X.K = K) : CallR X (.builtin "sorted") (rSortedS K) := e ▸ cr_sortedS
theorem k_sortedSet (hc : X.calm = true) (e : X.w = w) : CallR X (.builtin "sorted") (rSortedSet w) := e ▸ cr_sortedSet hc
theorem k_setOfI (hc : X.calm = true) (e : X.K = K) (e' : X.w = w) : CallR X (.type "set") (rSetOfI K w) := e ▸ e' ▸ cr_setOfI hc
theorem k_eqD (hu : X.A.units + 64 < cLine) (e : X.K = K) : OpR X (compareOp .Eq) (rEqD K) := e ▸ op_eqD hu
theorem k_neD (hu : X.A.units + 64 < cLine) (e : X.K = K) : OpR X (compareOp .NotEq) (rNeD K) := e ▸ op_neD hu
end

/-! ### tests -/
theorem x_test {R : Bool → Hp → Prop} (q : te σ H fun x H1 => ∃ k, x = .bl k ∧ R k H1) : tTest te σ H R := q
theorem x_B {R : Bool → Hp → Prop} (q : te σ H fun x H1 => ∃ k, x = .bl k ∧ R k H1) : tB te σ H R := q
theorem x_and {R : Bool → Hp → Prop} (q : t σ H fun c H1 => if c = true then u σ H1 R else R false H1) : tAnd t u σ H R := q
theorem x_or {R : Bool → Hp → Prop} (q : t σ H fun c H1 => if c = true then R true H1 else u σ H1 R) : tOr t u σ H R := q
theorem x_not {R : Bool → Hp → Prop} (q : t σ H fun c H1 => R (!c) H1) : tNot t σ H R := q
theorem x_yes {R : Bool → Hp → Prop} (q : R true H) : tYes σ H R := q
theorem x_chain {r r' : R2} (q : ta σ H fun x H1 => tb σ H1 fun y H2 => r x y H2 fun z H3 => ∃ k, z = .bl k ∧ (if k = true then tc σ H3 fun w' H4 => r' y w' H4 Q else Q (.bl false) H3)) : tChain r r' ta tb tc σ H Q := q
theorem x_itd {p A B : Prop} [Decidable p] (h1 : p → A) (h2 : ¬p → B) : if decide p = true then A else B := by
  by_cases h : p
  · rw [if_pos (decide_eq_true h)]
    exact h1 h
  · rw [if_neg (by rw [decide_eq_false h]; decide)]
    exact h2 h
theorem x_itn {p A B : Prop} [Decidable p] (h1 : ¬p → A) (h2 : p → B) : if (!decide p) = true then A else B := by
  by_cases h : p
  · rw [decide_eq_true h, if_neg (by decide)]
    exact h2 h
  · rw [decide_eq_false h, if_pos (by decide)]
    exact h1 h
theorem x_itb {A B : Prop} (h1 : b = true → A) (h2 : b = false → B) : if b = true then A else B := by
  cases b with
  | true => rw [if_pos rfl]; exact h1 rfl
  | false => rw [if_neg (by decide)]; exact h2 rfl
theorem x_itnb {A B : Prop} (h1 : b = false → A) (h2 : b = true → B) : if (!b) = true then A else B := by
  cases b with
  | true => exact h2 rfl
  | false => exact h1 rfl

theorem x_nT {A B : Prop} (h : B) : if (!true) = true then A else B := h
theorem x_nF {A B : Prop} (h : A) : if (!false) = true then A else B := h
theorem x_dY {p A B : Prop} [Decidable p] (hp : p) (h : A) : if decide p = true then A else B := x_itd (fun _ => h) fun z => absurd hp z
theorem x_dN {p A B : Prop} [Decidable p] (hp : ¬p) (h : B) : if decide p = true then A else B := x_itd (fun z => absurd z hp) fun _ => h
theorem x_ndY {p A B : Prop} [Decidable p] (hp : p) (h : B) : if (!decide p) = true then A else B := x_itn (fun z => absurd hp z) fun _ => h
theorem x_ndN {p A B : Prop} [Decidable p] (hp : ¬p) (h : A) : if (!decide p) = true then A else B := x_itn (fun _ => h) fun z => absurd z hp

/-! ### statements -/
theorem x_seq (q : tu { D with nx := tz D } σ H) : tSeq tu tz D σ H := q
theorem x_sasg {n : Nat} (q : te σ H fun v H1 => tz D (σ.set n (some v)) H1) : tSeq (tAsg te (gName n)) tz D σ H := q
theorem x_asg {n : Nat} (q : te σ H fun v H1 => D.nx (σ.set n (some v)) H1) : tAsg te (gName n) D σ H := q
theorem x_sasgG (q : te σ H fun v H1 => g v σ H1 (tz D)) : tSeq (tAsg te g) tz D σ H := q
theorem x_asgG (q : te σ H fun v H1 => g v σ H1 D.nx) : tAsg te g D σ H := q
theorem x_ret (q : te σ H D.rt) : tRet te D σ H := q
theorem x_retN (q : D.rt .non H) : tRetN D σ H := q
theorem x_next (q : D.nx σ H) : tNext D σ H := q
theorem x_brk (q : D.bk σ H) : tBreak D σ H := q
theorem x_ct (q : D.ct σ H) : tCont D σ H := q
theorem x_sif (q : t σ H fun b H1 => if b = true then tu { D with nx := tz D } σ H1 else tw { D with nx := tz D } σ H1) : tSeq (tIfS t tu tw) tz D σ H := q
theorem x_ifS (q : t σ H fun b H1 => if b = true then tu D σ H1 else tw D σ H1) : tIfS t tu tw D σ H := q
theorem x_sdrop (q : te σ H fun _ H1 => tz D σ H1) : tSeq (tDrop te) tz D σ H := q
theorem x_drop (q : te σ H fun _ H1 => D.nx σ H1) : tDrop te D σ H := q
theorem x_saug {n : Nat} {ti : TIp} (h : σ[n]? = some (some x)) (q : te σ H fun y H1 => ti x y H1 fun z H2 => tz D (σ.set n (some z)) H2) : tSeq (tAug n te ti) tz D σ H := ⟨x, h, q⟩
theorem x_aug {n : Nat} {ti : TIp} (h : σ[n]? = some (some x)) (q : te σ H fun y H1 => ti x y H1 fun z H2 => D.nx (σ.set n (some z)) H2) : tAug n te ti D σ H := ⟨x, h, q⟩
theorem x_ipI {f : Int → Int → Int} (q : Q (.int (f i j)) H) : ipI f (.int i) (.int j) H Q := ⟨i, j, rfl, rfl, q⟩
/-- an if, then the rest: what follows is shown once -/
theorem x_cut (M : L2.St → Hp → Prop) (h : tu { D with nx := M } σ H) (k : ∀ σ' H', M σ' H' → tz D σ' H') : Evl.tCut tu tz D σ H := ⟨M, h, k⟩
theorem x_nocut (h : tu { D with nx := tz D } σ H) : Evl.tCut tu tz D σ H := ⟨_, h, fun _ _ q => q⟩

theorem x_nocutW (h : tSeq (tWhile t tu) tz D σ H) : Evl.tCut (tWhile t tu) tz D σ H := ⟨_, h, fun _ _ q => q⟩

/-! ### targets -/
theorem x_gName {n : Nat} {R : L2.St → Hp → Prop} (q : R (σ.set n (some v)) H) : gName n v σ H R := q
theorem x_gTup {n : Nat} {gs : TGs} {R : L2.St → Hp → Prop} {a : Addr} {xs : List V} (h : SqT K H a xs) (hn : xs.length = n) (q : gs xs σ H R) : gTup K n gs (.ref a) σ H R := ⟨a, xs, rfl, h, hn, q⟩
theorem x_gLst {n : Nat} {gs : TGs} {R : L2.St → Hp → Prop} {a : Addr} {xs : List V} (h : SqL K H a xs) (hn : xs.length = n) (q : gs xs σ H R) : gLst K n gs (.ref a) σ H R := ⟨a, xs, rfl, h, hn, q⟩
theorem x_gCons {gs : TGs} {R : L2.St → Hp → Prop} {vs : List V} (q : g v σ H fun σ' H' => gs vs σ' H' R) : gCons g gs (v :: vs) σ H R := ⟨v, vs, rfl, q⟩
theorem x_gNil {R : L2.St → Hp → Prop} (q : R σ H) : gNil [] σ H R := ⟨rfl, q⟩
theorem x_gSub {to ti : TE} {ts : TSet} {R : L2.St → Hp → Prop} (q : to σ H fun o H1 => ti σ H1 fun i H2 => ts o i v H2 fun H3 => R σ H3) : gSub to ti ts v σ H R := q
theorem ixN_nat {n j : Nat} (hj : j < n) : ixN n (j : Int) = some j := by
  unfold ixN
  rw [if_pos (by omega), if_pos (by omega)]
  simp
theorem ixN_of {n j : Nat} {k : Int} (e : k = (j : Int)) (hj : j < n) : ixN n k = some j := by
  rw [e]
  exact ixN_nat hj
theorem at_nat {α : Type} {xs : List α} {k : Int} {j : Nat} {v : α} (e : k = (j : Int)) (h : xs[j]? = some v) : atI xs k = some v := by
  rw [e]
  exact atI_nat h
theorem at_neg {α : Type} {xs : List α} {k : Int} {j : Nat} {v : α} (hk : k < 0) (e : k + (xs.length : Int) = (j : Int)) (h : xs[j]? = some v) : atI xs k = some v := by
  unfold atI ixN
  rw [if_neg (by omega), if_pos (by omega)]
  have e2 : (k + (xs.length : Int)).toNat = j := by omega
  rw [e2]
  exact h
theorem x_setL {p : Addr} {xs : List V} {k : Int} {j : Nat} {R : Hp → Prop} (h : H p = some (.lst xs)) (hj : ixN xs.length k = some j) (q : R (upd H p (.lst (xs.set j v)))) : rSetL (.ref p) (.int k) v H R := ⟨p, xs, k, j, rfl, rfl, h, hj, q⟩
/-- xs.append(e) -/
theorem x_bm {T : String} {r : V → List V → Hp → VK → Prop} {tr : TA} (q : te σ H fun x H1 => tyV K T x H1 ∧ tr σ H1 fun xs H2 => r x xs H2 Q) : tBM K T r te tr σ H Q := q
theorem x_bm0 {T : String} {r : V → List V → Hp → VK → Prop} (q : te σ H fun x H1 => tyV K T x H1 ∧ r x [] H1 Q) : tBM0 K T r te σ H Q := q
theorem x_tyL {a : Addr} {xs : List V} {P : Prop} (h : SqL K H a xs) (q : P) : tyV K "list" (.ref a) H ∧ P := ⟨.inl ⟨rfl, xs, h⟩, q⟩
theorem x_app {l : Addr} {xs : List V} (h : H l = some (.lst xs)) (hz : xs.length < 100000) (q : Q .non (upd H l (.lst (xs ++ [v])))) : rAppend (.ref l) [v] H Q := ⟨l, xs, v, rfl, rfl, h, size_lt hz, q⟩
theorem x_cat {a c : Addr} {xs ys : List V} (h : H a = some (.lst xs)) (h' : H c = some (.lst ys)) (hz : xs.length + ys.length ≤ 100000) (k : ∀ p H2, Fr p H → Same H H2 → H2 p = some (.lst (xs ++ ys)) → Q (.ref p) H2) : rCat (.ref a) (.ref c) H Q :=
  ⟨a, c, xs, ys, rfl, rfl, h, h', size_ok hz, x_new1 k⟩
theorem x_slL {a : Addr} {xs : List V} {lo hi : Option Int} (h : SqL K H a xs) (k : ∀ p H2, Fr p H → Same H H2 → H2 p = some (.lst (cutV xs lo hi)) → Q (.ref p) H2) : rSlL K (.ref a) lo hi H Q := ⟨a, xs, rfl, h, x_new1 k⟩

/-! ### loops -/
theorem x_forR {n : Nat} (q : te σ H fun x H1 => ∃ m : Int, x = .int m ∧ 0 ≤ m ∧ m ≤ 100000 ∧ ∃ Pv : Nat → L2.St → Hp → Prop, Pv 0 σ H1 ∧
      (∀ (i : Nat) σ' H', (i : Int) < m → Pv i σ' H' → tu { D with nx := Pv (i + 1), ct := Pv (i + 1), bk := D.nx } (σ'.set n (some (.int (i : Int)))) H') ∧ (∀ σ' H', Pv m.toNat σ' H' → D.nx σ' H'))
    (mono : ∀ Q Q' : VK, (∀ v H1, Q v H1 → Q' v H1) → te σ H Q → te σ H Q') : tFor (iRng1 (tCons te tNil)) (gName n) tu D σ H := by
  refine mono _ _ (fun v H1 h => ?_) q
  obtain ⟨m, rfl, h0, h1, Pv, p0, ps, pd⟩ := h
  refine ⟨m, rfl, by omega, by omega, for_range (lo := 0) (n := m.toNat) Pv p0 (fun i σ' H' hi p => ?_) pd⟩
  have e0 : (0 : Int) + (i : Int) = (i : Int) := Int.zero_add _
  show tu { D with nx := Pv (i + 1), ct := Pv (i + 1), bk := D.nx } (σ'.set n (some (.int ((0 : Int) + (i : Int))))) H'
  rw [e0]
  exact ps i σ' H' (by omega) p
def RRange (n : Nat) (m : Int) (tu : TS) (D : Ends) (σ : L2.St) (H : Hp) : Prop := ∃ Pv : Nat → L2.St → Hp → Prop, Pv 0 σ H ∧
      (∀ (i : Nat) σ' H', (i : Int) < m → Pv i σ' H' → tu { D with nx := Pv (i + 1), ct := Pv (i + 1), bk := D.nx } (σ'.set n (some (.int (i : Int)))) H') ∧ (∀ σ' H', Pv m.toNat σ' H' → D.nx σ' H')
def rRange (n : Nat) (tu : TS) (D : Ends) (σ : L2.St) : List V → Hp → Prop := fun vs H => ∃ j : Int, vs = [.int j] ∧ -(2 ^ 62) ≤ j ∧ j < 2 ^ 62 ∧ ∃ W : Nat → Nat → L2.St → Hp → Prop, (∃ m, W 0 m σ H) ∧ ∀ i m σ H, W i m σ H →
  ((Itr 0 j.toNat).stop i H ∧ D.nx σ H) ∨ ((Itr 0 j.toNat).go i H ∧ ∃ N : L2.St → Hp → Prop, (∀ σ' H', N σ' H' → ∃ m', m' < m ∧ W (i + 1) m' σ' H') ∧ ∀ x H', (Itr 0 j.toNat).yld i H x H' → gName n x σ H' fun σ2 H2 => tu { D with nx := N, ct := N, bk := D.nx } σ2 H2)
theorem x_forR1 {n : Nat} {tr : TA} (q : tr σ H (rRange n tu D σ)) : tFor (iRng1 tr) (gName n) tu D σ H := q
theorem x_range {n : Nat} {m : Int} (Pv : Nat → L2.St → Hp → Prop) (hm : 0 ≤ m ∧ m ≤ 100000) (p0 : Pv 0 σ H)
    (ps : ∀ (i : Nat) σ' H', (i : Int) < m → Pv i σ' H' → tu { D with nx := Pv (i + 1), ct := Pv (i + 1), bk := D.nx } (σ'.set n (some (.int (i : Int)))) H') (pd : ∀ σ' H', Pv m.toNat σ' H' → D.nx σ' H') : rRange n tu D σ [.int m] H := by
  refine ⟨m, rfl, by omega, by omega, for_range (lo := 0) (n := m.toNat) Pv p0 (fun i σ' H' hi p => ?_) pd⟩
  have e0 : (0 : Int) + (i : Int) = (i : Int) := Int.zero_add _
  show tu { D with nx := Pv (i + 1), ct := Pv (i + 1), bk := D.nx } (σ'.set n (some (.int ((0 : Int) + (i : Int))))) H'
  rw [e0]
  exact ps i σ' H' (by omega) p
def rForL (K : PySem.W.Frag) (g : TG) (tu : TS) (D : Ends) (σ : L2.St) : VK := fun x H => ∃ a, x = .ref a ∧ (∃ xs, SqL K H a xs) ∧ ∃ W : Nat → Nat → L2.St → Hp → Prop, (∃ m, W 0 m σ H) ∧ ∀ i m σ H, W i m σ H →
  ((Itl K a).stop i H ∧ D.nx σ H) ∨ ((Itl K a).go i H ∧ ∃ N : L2.St → Hp → Prop, (∀ σ' H', N σ' H' → ∃ m', m' < m ∧ W (i + 1) m' σ' H') ∧ ∀ x H', (Itl K a).yld i H x H' → g x σ H' fun σ2 H2 => tu { D with nx := N, ct := N, bk := D.nx } σ2 H2)
theorem x_forL1 (q : te σ H (rForL K g tu D σ)) : tFor (iList K te) g tu D σ H := q
theorem x_forL {a : Addr} {xs : List V} (Pv : Nat → L2.St → Hp → Prop) (hx : SqL K H a xs) (p0 : Pv 0 σ H) (hl : ∀ i σ' H', i ≤ xs.length → Pv i σ' H' → SqL K H' a xs)
    (ps : ∀ i x σ' H', xs[i]? = some x → Pv i σ' H' → g x σ' H' fun σ2 H2 => tu { D with nx := Pv (i + 1), ct := Pv (i + 1), bk := D.nx } σ2 H2) (pd : ∀ σ' H', Pv xs.length σ' H' → D.nx σ' H') : rForL K g tu D σ (.ref a) H :=
  ⟨a, rfl, ⟨xs, hx⟩, for_list Pv p0 hl ps pd⟩
def rForT (K : PySem.W.Frag) (g : TG) (tu : TS) (D : Ends) (σ : L2.St) : VK := fun x H => ∃ a, x = .ref a ∧ (∃ xs, SqT K H a xs) ∧ ∃ W : Nat → Nat → L2.St → Hp → Prop, (∃ m, W 0 m σ H) ∧ ∀ i m σ H, W i m σ H →
  ((Itt K a).stop i H ∧ D.nx σ H) ∨ ((Itt K a).go i H ∧ ∃ N : L2.St → Hp → Prop, (∀ σ' H', N σ' H' → ∃ m', m' < m ∧ W (i + 1) m' σ' H') ∧ ∀ x H', (Itt K a).yld i H x H' → g x σ H' fun σ2 H2 => tu { D with nx := N, ct := N, bk := D.nx } σ2 H2)
theorem x_forT1 (q : te σ H (rForT K g tu D σ)) : tFor (iTup K te) g tu D σ H := q
theorem x_forT {a : Addr} {xs : List V} (Pv : Nat → L2.St → Hp → Prop) (hx : SqT K H a xs) (p0 : Pv 0 σ H) (hl : ∀ i σ' H', i ≤ xs.length → Pv i σ' H' → SqT K H' a xs)
    (ps : ∀ i x σ' H', xs[i]? = some x → Pv i σ' H' → g x σ' H' fun σ2 H2 => tu { D with nx := Pv (i + 1), ct := Pv (i + 1), bk := D.nx } σ2 H2) (pd : ∀ σ' H', Pv xs.length σ' H' → D.nx σ' H') : rForT K g tu D σ (.ref a) H :=
  ⟨a, rfl, ⟨xs, hx⟩, for_tup Pv p0 hl ps pd⟩
/-- while: W by a number that falls -/
def Falls (W : Nat → L2.St → Hp → Prop) (m : Nat) : L2.St → Hp → Prop := fun σ' H' => ∃ m', m' < m ∧ W m' σ' H'
theorem x_while (W : Nat → L2.St → Hp → Prop) (m0 : Nat) (h0 : W m0 σ H) (hs : ∀ m σ' H', W m σ' H' → t σ' H' fun b H1 => if b = true then tu { D with nx := Falls W m, ct := Falls W m, bk := D.nx } σ' H1 else D.nx σ' H1)
    (mono : ∀ (σ' : L2.St) (H' : Hp) (R R' : Bool → Hp → Prop), (∀ y H4, R y H4 → R' y H4) → t σ' H' R → t σ' H' R') : tWhile t tu D σ H :=
  ⟨W, ⟨m0, h0⟩, fun m σ' H' hw => mono _ _ _ _ (fun b H1 q => by
    cases b with
    | true =>
      rw [if_pos rfl] at q ⊢
      exact ⟨Falls W m, fun _ _ h => h, q⟩
    | false =>
      rw [if_neg (by decide)] at q ⊢
      exact q) (hs m σ' H' hw)⟩
def WTurn (W : Nat → L2.St → Hp → Prop) (m : Nat) (tu : TS) (D : Ends) (σ : L2.St) : Bool → Hp → Prop := fun b H1 => if b = true then ∃ N : L2.St → Hp → Prop, (∀ σ' H', N σ' H' → ∃ m', m' < m ∧ W m' σ' H') ∧ tu { D with nx := N, ct := N, bk := D.nx } σ H1 else D.nx σ H1
theorem x_while1 (W : Nat → L2.St → Hp → Prop) (m0 : Nat) (h0 : W m0 σ H) (hs : ∀ m σ' H', W m σ' H' → t σ' H' (WTurn W m tu D σ')) : tWhile t tu D σ H := ⟨W, ⟨m0, h0⟩, hs⟩
theorem x_wT {W : Nat → L2.St → Hp → Prop} {m : Nat} (q : tu { D with nx := Falls W m, ct := Falls W m, bk := D.nx } σ H) : WTurn W m tu D σ true H := by
  unfold WTurn
  rw [if_pos rfl]
  exact ⟨Falls W m, fun _ _ h => h, q⟩
theorem x_wF {W : Nat → L2.St → Hp → Prop} {m : Nat} (q : D.nx σ H) : WTurn W m tu D σ false H := by
  unfold WTurn
  rw [if_neg (by decide)]
  exact q
theorem x_wd {W : Nat → L2.St → Hp → Prop} {m : Nat} {p : Prop} [Decidable p] (h1 : p → WTurn W m tu D σ true H) (h2 : ¬p → WTurn W m tu D σ false H) : WTurn W m tu D σ (decide p) H := by
  by_cases h : p
  · rw [decide_eq_true h]
    exact h1 h
  · rw [decide_eq_false h]
    exact h2 h
theorem x_wn {W : Nat → L2.St → Hp → Prop} {m : Nat} {p : Prop} [Decidable p] (h1 : ¬p → WTurn W m tu D σ true H) (h2 : p → WTurn W m tu D σ false H) : WTurn W m tu D σ (!decide p) H := by
  by_cases h : p
  · rw [decide_eq_true h]
    exact h2 h
  · rw [decide_eq_false h]
    exact h1 h

/-! ### comprehensions -/
def RLc (J : It) (g : TG) (tt : TT) (te : TE) (vs : List Nat) (σ : L2.St) (Q : VK) : Hp → Prop := fun H1 => ∀ D, H1 D = none → ∃ W : Nat → Nat → Hp → Prop, (∃ m, W 0 m (upd H1 D (.lst []))) ∧ ∀ i m H, W i m H →
  (J.stop i H ∧ Q (.ref D) H) ∨ (J.go i H ∧ ∃ Nx : Hp → Prop, (∀ H', Nx H' → ∃ m', m' < m ∧ W (i + 1) m' H') ∧ ∀ x H', J.yld i H x H' → g x (wipe σ vs) H' fun σ2 H2 => wipe σ2 vs = wipe σ vs ∧ tt σ2 H2 fun b H3 =>
    if b = true then te σ2 H3 fun y H4 => ∃ acc, H4 D = some (.lst acc) ∧ acc.length < sizeLine ∧ Nx (upd H4 D (.lst (acc ++ [y]))) else Nx H3)
def rLcL (K : PySem.W.Frag) (g : TG) (tt : TT) (te : TE) (vs : List Nat) (σ : L2.St) (Q : VK) : VK := fun x H1 => ∃ a, x = .ref a ∧ (∃ xs, SqL K H1 a xs) ∧ RLc (Itl K a) g tt te vs σ Q H1
def rLcT (K : PySem.W.Frag) (g : TG) (tt : TT) (te : TE) (vs : List Nat) (σ : L2.St) (Q : VK) : VK := fun x H1 => ∃ a, x = .ref a ∧ (∃ xs, SqT K H1 a xs) ∧ RLc (Itt K a) g tt te vs σ Q H1
def rLcR (g : TG) (tt : TT) (te : TE) (vs : List Nat) (σ : L2.St) (Q : VK) : List V → Hp → Prop := fun xs H1 => ∃ j : Int, xs = [.int j] ∧ -(2 ^ 62) ≤ j ∧ j < 2 ^ 62 ∧ RLc (Itr 0 j.toNat) g tt te vs σ Q H1
theorem x_lcL1 {tx : TE} {vs : List Nat} (q : tx σ H (rLcL K g t te vs σ Q)) : tLc (iList K tx) g t te vs σ H Q := q
theorem x_lcT1 {tx : TE} {vs : List Nat} (q : tx σ H (rLcT K g t te vs σ Q)) : tLc (iTup K tx) g t te vs σ H Q := q
theorem x_lcR1 {tr : TA} {vs : List Nat} (q : tr σ H (rLcR g t te vs σ Q)) : tLc (iRng1 tr) g t te vs σ H Q := q
/-- a list comprehension: Pv of the new list's place, the turn and the heap -/
theorem x_lcL {a : Addr} {xs : List V} {vs : List Nat} (Pv : Addr → Nat → Hp → Prop) (hx : SqL K H a xs) (h0 : ∀ Dl, Fr Dl H → Pv Dl 0 (upd H Dl (.lst []))) (hl : ∀ Dl i H', Fr Dl H → Pv Dl i H' → SqL K H' a xs)
    (hs : ∀ Dl, Fr Dl H → ∀ i x H', xs[i]? = some x → Pv Dl i H' → g x (wipe σ vs) H' fun σ2 H2 => wipe σ2 vs = wipe σ vs ∧ t σ2 H2 fun b H3 =>
      if b = true then te σ2 H3 fun y H4 => ∃ acc, H4 Dl = some (.lst acc) ∧ acc.length < sizeLine ∧ Pv Dl (i + 1) (upd H4 Dl (.lst (acc ++ [y]))) else Pv Dl (i + 1) H3)
    (hd : ∀ Dl H', Fr Dl H → Pv Dl xs.length H' → Q (.ref Dl) H') : rLcL K g t te vs σ Q (.ref a) H := ⟨a, rfl, ⟨xs, hx⟩, fun Dl hD =>
  lc_list (xs := xs) (Pv Dl) (h0 Dl ⟨hD⟩) (fun i H' _ p => hl Dl i H' ⟨hD⟩ p) (fun i x H' hi p => hs Dl ⟨hD⟩ i x H' hi p) (fun H' p => hd Dl H' ⟨hD⟩ p)⟩
theorem x_lcT {a : Addr} {xs : List V} {vs : List Nat} (Pv : Addr → Nat → Hp → Prop) (hx : SqT K H a xs) (h0 : ∀ Dl, Fr Dl H → Pv Dl 0 (upd H Dl (.lst []))) (hl : ∀ Dl i H', Fr Dl H → Pv Dl i H' → SqT K H' a xs)
    (hs : ∀ Dl, Fr Dl H → ∀ i x H', xs[i]? = some x → Pv Dl i H' → g x (wipe σ vs) H' fun σ2 H2 => wipe σ2 vs = wipe σ vs ∧ t σ2 H2 fun b H3 =>
      if b = true then te σ2 H3 fun y H4 => ∃ acc, H4 Dl = some (.lst acc) ∧ acc.length < sizeLine ∧ Pv Dl (i + 1) (upd H4 Dl (.lst (acc ++ [y]))) else Pv Dl (i + 1) H3)
    (hd : ∀ Dl H', Fr Dl H → Pv Dl xs.length H' → Q (.ref Dl) H') : rLcT K g t te vs σ Q (.ref a) H := ⟨a, rfl, ⟨xs, hx⟩, fun Dl hD =>
  lc_tup (xs := xs) (Pv Dl) (h0 Dl ⟨hD⟩) (fun i H' _ p => hl Dl i H' ⟨hD⟩ p) (fun i x H' hi p => hs Dl ⟨hD⟩ i x H' hi p) (fun H' p => hd Dl H' ⟨hD⟩ p)⟩
theorem x_lcR {m : Int} {vs : List Nat} (Pv : Addr → Nat → Hp → Prop) (hm : 0 ≤ m ∧ m ≤ 100000) (h0 : ∀ Dl, Fr Dl H → Pv Dl 0 (upd H Dl (.lst [])))
    (hs : ∀ Dl, Fr Dl H → ∀ (i : Nat) H', (i : Int) < m → Pv Dl i H' → g (.int (i : Int)) (wipe σ vs) H' fun σ2 H2 => wipe σ2 vs = wipe σ vs ∧ t σ2 H2 fun b H3 =>
      if b = true then te σ2 H3 fun y H4 => ∃ acc, H4 Dl = some (.lst acc) ∧ acc.length < sizeLine ∧ Pv Dl (i + 1) (upd H4 Dl (.lst (acc ++ [y]))) else Pv Dl (i + 1) H3)
    (hd : ∀ Dl H', Fr Dl H → Pv Dl m.toNat H' → Q (.ref Dl) H') : rLcR g t te vs σ Q [.int m] H := ⟨m, rfl, by omega, by omega, fun Dl hD =>
  lc_range (lo := 0) (n := m.toNat) (Pv Dl) (h0 Dl ⟨hD⟩) (fun i H' hi p => by
    have e0 : (0 : Int) + (i : Int) = (i : Int) := Int.zero_add _
    rw [e0]
    exact hs Dl ⟨hD⟩ i H' (by omega) p) (fun H' p => hd Dl H' ⟨hD⟩ p)⟩
def rLcE (K : PySem.W.Frag) (g : TG) (tt : TT) (te : TE) (vs : List Nat) (σ : L2.St) (Q : VK) : List V → Hp → Prop := fun vs' H1 => ∃ a xs, vs' = [.ref a] ∧ SqL K H1 a xs ∧ RLc (Ite K a) g tt te vs σ Q H1
theorem x_lcE1 {tr : TA} {vs : List Nat} (q : tr σ H (rLcE K g t te vs σ Q)) : tLc (iEnum K tr) g t te vs σ H Q := q
theorem x_lcE {a : Addr} {xs : List V} {vs : List Nat} (Pv : Addr → Nat → Hp → Prop) (hx : SqL K H a xs) (h0 : ∀ Dl, Fr Dl H → Pv Dl 0 (upd H Dl (.lst []))) (hl : ∀ Dl i H', Fr Dl H → Pv Dl i H' → SqL K H' a xs)
    (hs : ∀ Dl, Fr Dl H → ∀ i x H1 T H', xs[i]? = some x → Pv Dl i H1 → Fr T H1 → Same H1 H' → H' T = some (.tup [.int (i : Nat), x]) → g (.ref T) (wipe σ vs) H' fun σ2 H2 => wipe σ2 vs = wipe σ vs ∧ t σ2 H2 fun b H3 =>
      if b = true then te σ2 H3 fun y H4 => ∃ acc, H4 Dl = some (.lst acc) ∧ acc.length < sizeLine ∧ Pv Dl (i + 1) (upd H4 Dl (.lst (acc ++ [y]))) else Pv Dl (i + 1) H3)
    (hd : ∀ Dl H', Fr Dl H → Pv Dl xs.length H' → Q (.ref Dl) H') : rLcE K g t te vs σ Q [.ref a] H := ⟨a, xs, rfl, hx, fun Dl hD =>
  lc_it walk_enum (Pv Dl) (h0 Dl ⟨hD⟩) (fun i H' _ p => hl Dl i H' ⟨hD⟩ p) (fun i x H1 H' hi p y => by
    obtain ⟨T, u, v, rfl, hT, rfl, e1, e2⟩ := y
    cases Option.some.inj e1
    exact hs Dl ⟨hD⟩ i v H1 T _ e2 p ⟨hT⟩ (same_new hT) upd_same) (fun H' p => hd Dl H' ⟨hD⟩ p)⟩
/-- the end of a turn: what is kept goes into the list -/
def Keep (Dl : Addr) (N : Hp → Prop) : VK := fun y H => ∃ acc, H Dl = some (.lst acc) ∧ acc.length < sizeLine ∧ N (upd H Dl (.lst (acc ++ [y])))
theorem x_keep {Dl : Addr} {N : Hp → Prop} {acc : List V} (h : H Dl = some (.lst acc)) (hz : acc.length < 100000) (q : N (upd H Dl (.lst (acc ++ [y])))) : ∃ acc, H Dl = some (.lst acc) ∧ acc.length < sizeLine ∧ N (upd H Dl (.lst (acc ++ [y]))) := ⟨acc, h, size_lt hz, q⟩
theorem x_wiped {A : Prop} {a b : L2.St} (h : a = b) (q : A) : a = b ∧ A := ⟨h, q⟩
end

/-! ### lists -/
theorem map_at {α β : Type} {f : α → β} {xs : List α} {j : Nat} {x : α} (h : xs[j]? = some x) : (xs.map f)[j]? = some (f x) := by
  rw [List.getElem?_map, h]
  rfl
theorem of_map_at {α β : Type} {f : α → β} {xs : List α} {j : Nat} {y : β} (h : (xs.map f)[j]? = some y) : ∃ x, xs[j]? = some x ∧ y = f x := by
  rw [List.getElem?_map] at h
  obtain ⟨x, hx, rfl⟩ := Option.map_eq_some_iff.mp h
  exact ⟨x, hx, rfl⟩
theorem at_lt {α : Type} {xs : List α} {j : Nat} {x : α} (h : xs[j]? = some x) : j < xs.length := (List.getElem?_eq_some_iff.mp h).1
theorem lt_at {α : Type} {xs : List α} {j : Nat} (h : j < xs.length) : ∃ x, xs[j]? = some x := ⟨xs[j], List.getElem?_eq_getElem h⟩
theorem drop_at {α : Type} {xs : List α} {j : Nat} {x : α} (h : xs[j]? = some x) : xs.drop j = x :: xs.drop (j + 1) := by
  obtain ⟨h1, h2⟩ := List.getElem?_eq_some_iff.mp h
  rw [List.drop_eq_getElem_cons h1, h2]
theorem snoc_map {α β : Type} {f : α → β} {xs : List α} {x : α} : xs.map f ++ [f x] = (xs ++ [x]).map f := by
  rw [List.map_append]
  rfl
theorem mem_snoc {α : Type} {P : α → Prop} {xs : List α} {x : α} (h : ∀ y ∈ xs, P y) (hx : P x) : ∀ y ∈ xs ++ [x], P y := fun y hy => by
  rcases List.mem_append.mp hy with hy | hy
  · exact h y hy
  · rw [List.mem_singleton.mp hy]
    exact hx

def upto (a b : Int) : List Int := (List.range (b - a).toNat).map fun i => a + (i : Nat)
theorem rgV_ints (a b : Int) : rgV a b = (upto a b).map V.int := by
  unfold rgV upto
  rw [List.map_map]
  rfl
theorem upto_len (a b : Int) : (upto a b).length = (b - a).toNat := by
  unfold upto
  rw [List.length_map, List.length_range]
def nRg (Q : VK) : Int → Int → Hp → Prop := fun a b H1 => RgOk a b ∧ ∀ q, H1 q = none → Q (.ref q) (upd H1 q (.lst (rgV a b)))
theorem x_lstRg {σ : L2.St} {H : Hp} {Q : VK} {te : L2.St → Hp → (Int → Int → Hp → Prop) → Prop} (q : te σ H (nRg Q)) : tLstRg te σ H Q := q
theorem x_rg1 {σ : L2.St} {H : Hp} {ta : TE} {R : Int → Int → Hp → Prop} (q : ta σ H fun x H1 => ∃ n, x = .int n ∧ R 0 n H1) : tRg1 ta σ H R := q
theorem x_nRg {H : Hp} {Q : VK} {a b : Int} (h : 0 ≤ a ∧ a ≤ 100000 ∧ 0 ≤ b ∧ b ≤ 100000) (k : ∀ p H2, Fr p H → Same H H2 → H2 p = some (.lst ((upto a b).map V.int)) → Q (.ref p) H2) : nRg Q a b H :=
  ⟨RgOk.of_le (by omega) (by omega) (by omega) (by omega), fun p hp => k p _ ⟨hp⟩ (same_new hp) (by rw [upd_same, rgV_ints])⟩
theorem upto_at {a b : Int} {j : Nat} (h : (j : Int) < b - a) : (upto a b)[j]? = some (a + j) := by
  unfold upto
  rw [List.getElem?_map, List.getElem?_range (by omega)]
  rfl

/-! ### lists of lists of ints -/
/-- at a stands a list of lists of ints: L their places and what they hold -/
def LL (H : Hp) (a : Addr) (L : List (Addr × List Int)) : Prop := H a = some (.lst (L.map fun e => V.ref e.1)) ∧ ∀ e ∈ L, H e.1 = some (.lst (e.2.map V.int))
theorem ll_same {H H' : Hp} {a : Addr} {L : List (Addr × List Int)} (e : Same H H') (h : LL H a L) : LL H' a L := ⟨e _ _ h.1, fun p hp => e _ _ (h.2 p hp)⟩
theorem ll_nil {H : Hp} {a : Addr} (h : H a = some (.lst [])) : LL H a [] := ⟨h, fun _ z => absurd z List.not_mem_nil⟩
theorem ll_snoc {H H' : Hp} {a p : Addr} {ns : List Int} {L : List (Addr × List Int)} (h : LL H a L) (h1 : H' a = some (.lst ((L.map fun e => V.ref e.1) ++ [V.ref p]))) (h2 : H' p = some (.lst (ns.map V.int))) (k : ∀ e ∈ L, H' e.1 = H e.1) : LL H' a (L ++ [(p, ns)]) := by
  refine ⟨?_, fun e he => ?_⟩
  · rw [h1, List.map_append]
    rfl
  · rcases List.mem_append.mp he with he | he
    · rw [k e he]
      exact h.2 e he
    · rw [List.mem_singleton.mp he]
      exact h2

/-! ### data -/
def dInts (ns : List Int) : List PyData := ns.map PyData.int
theorem dp_ints {K : PySem.W.Frag} {H : Hp} : ∀ ns : List Int, DpAll K H (ns.map V.int) (dInts ns)
  | [] => .nil
  | n :: r => .cons (.int n) (dp_ints r)
theorem canLay_ints : ∀ ns : List Int, PyData.canLayAll0 (dInts ns) = true
  | [] => by simp [dInts, PyData.canLayAll0]
  | n :: r => by
    have h := canLay_ints r
    unfold dInts at h ⊢
    rw [List.map_cons]
    simp only [PyData.canLayAll0, PyData.canLay0, h, Bool.and_self]
theorem eqv_ints : ∀ ns ms : List Int, PyData.eqvAll (dInts ns) (dInts ms) = decide (ns = ms)
  | [], [] => by simp [dInts, PyData.eqvAll]
  | [], m :: r => by simp [dInts, PyData.eqvAll]
  | n :: r, [] => by simp [dInts, PyData.eqvAll]
  | n :: r, m :: q => by
    have h := eqv_ints r q
    unfold dInts at h ⊢
    rw [List.map_cons, List.map_cons, PyData.eqvAll, h, PyData.eqv]
    by_cases h1 : n = m <;> by_cases h2 : r = q <;> simp [h1, h2]
theorem canLayAll_map {α : Type} {f : α → PyData} : ∀ (xs : List α), (∀ x ∈ xs, (f x).canLay0 = true) → PyData.canLayAll0 (xs.map f) = true
  | [], _ => by simp [PyData.canLayAll0]
  | x :: r, h => by
    have h1 := h x List.mem_cons_self
    have h2 := canLayAll_map r fun y hy => h y (List.mem_cons_of_mem _ hy)
    rw [List.map_cons]
    simp only [PyData.canLayAll0, h1, h2, Bool.and_self]
theorem depthAll_map {α : Type} {f : α → PyData} {n : Nat} : ∀ (xs : List α), (∀ x ∈ xs, (f x).depth ≤ n) → PyData.depthAll (xs.map f) ≤ n
  | [], _ => by simp [PyData.depthAll]
  | x :: r, h => by
    have h1 := h x List.mem_cons_self
    have h2 := depthAll_map r fun y hy => h y (List.mem_cons_of_mem _ hy)
    rw [List.map_cons, PyData.depthAll]
    omega
theorem depth_ints : ∀ ns : List Int, PyData.depthAll (dInts ns) = 0
  | [] => by simp [dInts, PyData.depthAll]
  | n :: r => by
    have h := depth_ints r
    unfold dInts at h ⊢
    rw [List.map_cons, PyData.depthAll, h, PyData.depth]
    rfl
theorem shaped_lints (ns : List Int) : SeqAt.shaped (.list (dInts ns)) = true := by
  unfold SeqAt.shaped
  rw [PyData.canLay0, canLay_ints, PyData.depth, depth_ints]
  rfl
theorem shaped_tints (ns : List Int) : SeqAt.shaped (.tuple (dInts ns)) = true := by
  unfold SeqAt.shaped
  rw [PyData.canLay0, canLay_ints, PyData.depth, depth_ints]
  rfl
theorem eqv_lints (ns ms : List Int) : PyData.eqv (.list (dInts ns)) (.list (dInts ms)) = decide (ns = ms) := by
  rw [PyData.eqv]
  exact eqv_ints ns ms
theorem eqv_tints (ns ms : List Int) : PyData.eqv (.tuple (dInts ns)) (.tuple (dInts ms)) = decide (ns = ms) := by
  rw [PyData.eqv]
  exact eqv_ints ns ms
theorem shaped_of {d : PyData} (h1 : d.canLay0 = true) (h2 : d.depth ≤ 64) : SeqAt.shaped d = true := by
  unfold SeqAt.shaped
  rw [h1, decide_eq_true h2]
  rfl
theorem canLay_lints (ns : List Int) : PyData.canLay0 (.list (dInts ns)) = true := by
  rw [PyData.canLay0, canLay_ints]
theorem depth_lints (ns : List Int) : PyData.depth (.list (dInts ns)) = 1 := by
  rw [PyData.depth, depth_ints]
/-- lists of lists of ints as data -/
def dLists (ps : List (List Int)) : List PyData := ps.map fun p => .list (dInts p)
theorem canLay_lists (ps : List (List Int)) : PyData.canLayAll0 (dLists ps) = true := canLayAll_map ps fun p _ => canLay_lints p
theorem depth_lists (ps : List (List Int)) : PyData.depthAll (dLists ps) ≤ 1 := depthAll_map ps fun p _ => Nat.le_of_eq (depth_lints p)
theorem dp_list {K : PySem.W.Frag} {H : Hp} : ∀ (L : List (Addr × List Int)), (∀ e ∈ L, H e.1 = some (.lst (e.2.map V.int))) → DpAll K H (L.map fun e => V.ref e.1) (dLists (L.map (·.2)))
  | [], _ => .nil
  | e :: r, h => .cons (.lst (sq_of (h e List.mem_cons_self)) (dp_ints _)) (dp_list r fun x hx => h x (List.mem_cons_of_mem _ hx))
theorem dp_LL {K : PySem.W.Frag} {H : Hp} {a : Addr} {L : List (Addr × List Int)} (h : LL H a L) : Dp K H (.ref a) (.list (dLists (L.map (·.2)))) := .lst (sq_of h.1) (dp_list L h.2)
mutual
theorem dp_same {K : PySem.W.Frag} {H H' : Hp} (e : Same H H') : ∀ (d : PyData) (v : V), Dp K H v d → Dp K H' v d
  | .none, _, h => by cases h; exact .non
  | .bool b, _, h => by cases h; exact .bl b
  | .int i, _, h => by cases h; exact .int i
  | .str x, _, h => by cases h; exact .str x
  | .list ds, _, h => by
    cases h with
    | lst hs ha => exact .lst (sq_same hs e) (dpAll_same e ds _ ha)
  | .tuple ds, _, h => by
    cases h with
    | tup hs ha => exact .tup (st_same hs e) (dpAll_same e ds _ ha)
  | .dict _, _, h => by cases h
theorem dpAll_same {K : PySem.W.Frag} {H H' : Hp} (e : Same H H') : ∀ (ds : List PyData) (vs : List V), DpAll K H vs ds → DpAll K H' vs ds
  | [], _, h => by cases h; exact .nil
  | d :: ds, _, h => by
    cases h with
    | cons h1 h2 => exact .cons (dp_same e d _ h1) (dpAll_same e ds _ h2)
end
/-- equal data -/
theorem x_neSame {K : PySem.W.Frag} {H : Hp} {Q : VK} {x y : V} {d : PyData} (h : Dp K H x d) (h' : Dp K H y d) (c : d.canLay0 = true) (n : d.depth ≤ 64) (q : Q (.bl false) H) : rNeD K x y H Q :=
  ⟨d, d, h, h', shaped_of c n, shaped_of c n, by rw [SeqAt.eqv_refl d c]; exact q⟩
theorem x_eqSame {K : PySem.W.Frag} {H : Hp} {Q : VK} {x y : V} {d : PyData} (h : Dp K H x d) (h' : Dp K H y d) (c : d.canLay0 = true) (n : d.depth ≤ 64) (q : Q (.bl true) H) : rEqD K x y H Q :=
  ⟨d, d, h, h', shaped_of c n, shaped_of c n, by rw [SeqAt.eqv_refl d c]; exact q⟩
section
variable {K : PySem.W.Frag} {H : Hp} {Q : VK} {a c : Addr} {ns ms : List Int}
theorem x_neInts (h : SqL K H a (ns.map V.int)) (h' : SqL K H c (ms.map V.int)) (q : Q (.bl (!decide (ns = ms))) H) : rNeD K (.ref a) (.ref c) H Q :=
  ⟨.list (dInts ns), .list (dInts ms), .lst h (dp_ints ns), .lst h' (dp_ints ms), shaped_lints ns, shaped_lints ms, by rw [eqv_lints]; exact q⟩
theorem x_eqInts (h : SqL K H a (ns.map V.int)) (h' : SqL K H c (ms.map V.int)) (q : Q (.bl (decide (ns = ms))) H) : rEqD K (.ref a) (.ref c) H Q :=
  ⟨.list (dInts ns), .list (dInts ms), .lst h (dp_ints ns), .lst h' (dp_ints ms), shaped_lints ns, shaped_lints ms, by rw [eqv_lints]; exact q⟩
theorem x_neTInts (h : SqT K H a (ns.map V.int)) (h' : SqT K H c (ms.map V.int)) (q : Q (.bl (!decide (ns = ms))) H) : rNeD K (.ref a) (.ref c) H Q :=
  ⟨.tuple (dInts ns), .tuple (dInts ms), .tup h (dp_ints ns), .tup h' (dp_ints ms), shaped_tints ns, shaped_tints ms, by rw [eqv_tints]; exact q⟩
theorem x_eqTInts (h : SqT K H a (ns.map V.int)) (h' : SqT K H c (ms.map V.int)) (q : Q (.bl (decide (ns = ms))) H) : rEqD K (.ref a) (.ref c) H Q :=
  ⟨.tuple (dInts ns), .tuple (dInts ms), .tup h (dp_ints ns), .tup h' (dp_ints ms), shaped_tints ns, shaped_tints ms, by rw [eqv_tints]; exact q⟩
end
end Xk
/-! ## slices stored and deleted, properties, own objects -/
namespace Xk
open PySem PySem.Spec PyProof.Rows L2
section
variable {X : Cx} {o : Expr} {lo hi : Option Expr} {to : TE} {tl th : TO} {pos p2 tpos : Pos}
/-- o[lo:hi] = another list -/
def gSubSl (to : TE) (tl th : TO) : TG := fun v σ H R => to σ H fun x H1 => tl σ H1 fun l H2 => th σ H2 fun u H3 => ∃ (a b : Addr) (xs ys : List V) (i j : Int), x = .ref a ∧ v = .ref b ∧ l = some i ∧ u = some j ∧
  H3 a = some (.lst xs) ∧ H3 b = some (.lst ys) ∧ a ≠ b ∧ 0 ≤ i ∧ i ≤ j ∧ j ≤ xs.length ∧ xs.length + ys.length ≤ sizeLine ∧ R σ (upd H3 a (.lst (xs.take i.toNat ++ ys ++ xs.drop j.toNat)))
theorem pg_subSl (ho : PE X o to) (hl : PO X lo tl) (hu : PO X hi th)
    (ha : ∀ v, assign (.Subscript o (.Slice lo hi none p2) pos) X.env v = (do
      let ov ← holding [v] (eval o X.env)
      let iv ← holding [v, ov] (eval (.Slice lo hi none p2) X.env)
      standAt pos
      holding [v, ov, iv] (setItem ov iv v)
      release [iv, v, ov] []) := by intro _; rfl) : PG X (.Subscript o (.Slice lo hi none p2) pos) (gSubSl to tl th) := by
  refine ⟨fun pins s σ H v u Q I r h => ?_⟩
  rw [ha]
  refine wpAny_bind (wpAny_holding (thn (ho.run pins s σ H _ I h) fun ov s1 ⟨x, H1, I1, r1, q1⟩ => ?_))
  refine wpAny_bind (wpAny_holding ?_)
  refine wpAny_Slice (thn (hl.run pins s1 σ H1 _ I1 q1) fun vl s2 ⟨l, H2, I2, pl, q2⟩ => thn (hu.run pins s2 σ H2 _ I2 q2) fun vu s3 ⟨w, H3, I3, pu, q3⟩ => ?_)
  rw [evalPart_none]
  refine wpAny_pure ?_
  have I4 : Inv X pins σ H3 { s3 with heap := s3.heap.push { cls := .type "slice", data := .fields #[vl, vu, .none] } } := I3.kept (t' := s3.toks) fun b ob q => Heap.get?_push_of_some _ q
  obtain ⟨a, b, xs, ys, i, j, rfl, rfl, rfl, rfl, hA, hB, hne, h0, hij, hj, hz, q⟩ := q3
  cases r1
  cases r
  cases pl with
  | int _ ti =>
  cases pu with
  | int _ tj =>
  refine wpAny_bind (wpAny_standAt (wpAny_bind (wpAny_holding ?_)))
  exact set_slice I4 hA hB hne (Heap.IsSliceOf.new ..) ⟨_, rfl⟩ ⟨_, rfl⟩ h0 hij hj hz fun s' I5 => wpAny_release ⟨σ, _, I5, q⟩

theorem sel_take (f : Nat → Bool) (i n : Nat) (h : ∀ k : Nat, f k = (decide ((i : Int) ≤ (k : Int)) && decide ((k : Int) < (n : Int)) && (((k : Int) - (i : Int)) % 1 == 0))) :
    ∀ (xs : List Value) (m : Nat), m + xs.length ≤ n → (xs.zipIdx m).filterMap (fun (x, k) => if f k then none else some x) = xs.take (i - m)
  | [], m, hm => by simp
  | x :: r, m, hm => by
    rw [List.length_cons] at hm
    have ih := sel_take f i n h r (m + 1) (by omega)
    rw [List.zipIdx_cons, List.filterMap_cons]
    have hf : f m = decide (i ≤ m) := by
      rw [h m]
      by_cases h1 : i ≤ m
      · have h2 : (i : Int) ≤ (m : Int) := by omega
        have h3 : (m : Int) < (n : Int) := by omega
        have h4 : ((m : Int) - (i : Int)) % 1 = 0 := by omega
        rw [h4, decide_eq_true h1, decide_eq_true h2, decide_eq_true h3]
        rfl
      · have h2 : ¬ (i : Int) ≤ (m : Int) := by omega
        rw [decide_eq_false h1, decide_eq_false h2]
        rfl
    by_cases h1 : i ≤ m
    · have e : f m = true := by rw [hf, decide_eq_true h1]
      simp only [e, if_true]
      rw [ih, show i - (m + 1) = 0 by omega, show i - m = 0 by omega]
      rfl
    · have e : f m = false := by rw [hf, decide_eq_false h1]
      simp only [e]
      show x :: _ = _
      rw [ih, show i - m = (i - (m + 1)) + 1 by omega]
      rfl
theorem bounds_from {i n : Nat} (hi : i ≤ n) : sliceBounds (some (i : Int)) none none n = ((i : Int), (n : Int), 1) := by
  simp only [sliceBounds, Option.getD_none]
  have h1 : ¬ ((i : Int) < 0) := by omega
  simp only [h1, if_false, show (1 : Int) > 0 by decide, if_true]
  congr 1
  omega
section
variable {prog : Program} {w : World} {A : Around} {E : Value → Shared → Prop} {s : Shared}
open PySem.P PySem.F in
theorem delItem_tail {l sl : Addr} {items : Array Value} {n : Nat} {vl : Value} {i : Nat} {Q : Unit → Shared → Prop}
    (e : s.heap.get? l = some { cls := .type "list", data := .seq items n }) (hs : s.heap.IsSliceOf sl vl .none .none) (pl : IsPart vl (some (i : Int))) (hi : i ≤ items.size) (hsz : items.size ≤ sizeLine)
    (h : ∀ f : Array Value → Array Value, f items = (items.toList.take i).toArray → Q () { s with heap := s.heap.update l (Obj.mapSeq f) }) :
    wpAny (model prog w) A (delItem (.ref l) (.ref sl)) Q E s := by
  have hl : s.heap.IsList l items := PySem.IsL.isList e
  obtain ⟨os, hos, hcs, hds⟩ := id hs
  have hTs : s.TypeIs (.ref sl) "slice" := ⟨os, hos, hcs⟩
  have hstep : ¬ ((rawPart none == rawInt 0) = true) := Bool.false_ne_true
  unfold delItem
  refine wpAny_holding ?_
  refine wpAny_bind (wpAny_sequenceKey hl.typeIs (by decide) ?_)
  refine wpAny_bind (wpAny_callSpecial?_slot (name := Str.ofString "__delitem__") hl.typeIs PySem.F.slot_list_delitem
    (wpAny_call_entry PySem.F.slot_list_delitem hl.typeIs PySem.F.entry_list_delitem ?_ (PySem.F.args_list_delitem_2 _ _)))
  show wpAny _ _ (Builtin.List.listSubscript? (.ref sl) >>= _) _ _ s
  refine wpAny_bind ?_
  unfold Builtin.List.listSubscript?
  refine wpAny_bind (wpAny_specialOf hTs slice_no_index ?_)
  simp only [Option.isNone_none, if_true]
  refine wpAny_pure ?_
  show wpAny _ _ (typeOf (.ref sl) >>= _) _ _ s
  refine wpAny_bind (wpAny_typeOf hTs ?_)
  first
    | rw [if_neg (by decide)]
    | refine PySem.W.KFB.if_not (by decide) ?_
  rw [listSliceParts_eq]
  refine wpAny_bind (wpAny_bind (wpAny_field hos hds (x := .none) rfl (wpAny_bind (wpAny_listPart .none ?_))))
  rw [if_neg hstep]
  refine wpAny_bind (wpAny_field hos hds (x := vl) rfl (wpAny_bind (wpAny_listPart pl ?_)))
  refine wpAny_bind (wpAny_field hos hds (x := .none) rfl (wpAny_bind (wpAny_listPart .none (wpAny_pure ?_))))
  refine wpAny_bind (m := Builtin.List.listItems (.ref l)) ?_
  unfold Builtin.List.listItems
  refine wpAny_bind (wpAny_seqItems e rfl (wpAny_pure ?_))
  refine wpAny_bind (wpAny_of_eq ((sliceIndices_raw (some (i : Int)) none none items.size (by simp)).trans (congrArg (pure : Int × Int × Int → Sem (Int × Int × Int)) (bounds_from hi))) ?_)
  refine wpAny_bind (wpAny_rule ?_)
  show wpAny _ _ (updateSeq l _ >>= _) _ _ s
  have hf := sel_take _ i items.size (fun k => rfl) items.toList 0 (by simp)
  refine wpAny_bind (wpAny_updateSeq (hz := hsz) (_hz' := ?_) e rfl ?_)
  refine wpAny_bind (wpAny_letGo ?_)
  · exact wpAny_pure ⟨.none, rfl, wpAny_pure (h _ (congrArg List.toArray hf))⟩
  · refine Nat.le_trans (Nat.le_of_eq (congrArg Array.size (congrArg List.toArray hf))) ?_
    rw [List.size_toArray, List.length_take, Array.length_toList]
    omega
end
variable {pins : List (Addr × Obj)}
theorem del_tail {s : Shared} {σ : L2.St} {H : Hp} {l sl : Addr} {xs : List V} {i : Nat} {vl : Value} {Q : Unit → Shared → Prop} (I : Inv X pins σ H s) (hH : H l = some (.lst xs))
    (hs : s.heap.IsSliceOf sl vl .none .none) (pl : IsPart vl (some (i : Int))) (hi : i ≤ xs.length) (h : ∀ s', Inv X pins σ (upd H l (.lst (xs.take i))) s' → Q () s') :
    wpAny (model X.prog X.w) X.A (delItem (.ref l) (.ref sl)) Q X.xe s := by
  obtain ⟨z, its, n, r, hl, e⟩ := I.lstM hH
  refine delItem_tail e hs pl (by rw [List.size_toArray]; omega) (by rw [List.size_toArray]; omega) fun f hf => h _ ?_
  refine I.lset (its' := its.take i) (t' := s.toks) hH e ?_ (r.take i) ?_
  · rw [hf]
  · rw [List.length_take]
    omega
/-- del o[i:] -/
def tDelT (to : TE) (tl : TO) : TS := fun D σ H => to σ H fun x H1 => tl σ H1 fun u H2 => ∃ (l : Addr) (xs : List V) (i : Nat), x = .ref l ∧ u = some (i : Int) ∧ H2 l = some (.lst xs) ∧ i ≤ xs.length ∧ D.nx σ (upd H2 l (.lst (xs.take i)))
theorem ps_delT (ho : PE X o to) (hl : PO X lo tl) : PS X (.Delete [.Subscript o (.Slice lo none none p2) tpos] pos) (tDelT to tl) := by
  refine ⟨fun pins s σ H D I h => ?_⟩
  refine wpAny_Delete (wpAny_deleteEach_cons (wpAny_delete_Subscript (thn (ho.run pins s σ H _ I h) fun u s1 ⟨x, H1, I1, rx, q1⟩ => ?_)))
  refine wpAny_Slice (thn (hl.run pins s1 σ H1 _ I1 q1) fun vl s2 ⟨w, H2, I2, pl, q2⟩ => ?_)
  rw [evalPart_none]
  refine wpAny_pure (wpAny_pure ?_)
  have I4 : Inv X pins σ H2 { s2 with heap := s2.heap.push { cls := .type "slice", data := .fields #[vl, .none, .none] } } := I2.kept (t' := s2.toks) fun b ob q => Heap.get?_push_of_some _ q
  obtain ⟨l, xs, i, rfl, rfl, hA, hi, q⟩ := q2
  cases rx
  exact del_tail I4 hA (Heap.IsSliceOf.new ..) pl hi fun s3 I3 => wpAny_deleteEach_nil ⟨σ, _, I3, q⟩
end
section
variable {K : PySem.W.Frag} {σ σ2 : L2.St} {H H1 H2 : Hp} {Q : VK} {ta tv te te1 : TE} {D : Ends} {tz : TS} {g g1 : TG} {t tt1 : TT} {x v : V}
theorem k_pil {X : Cx} {tg l : Expr} {tl : TE} (e : X.K = K) (h : PE X l tl) : PI X tg l (iList K tl) := e ▸ pi_list h
/-- the inner for of a comprehension -/
def RIn (J : It) (g1 : TG) (tt1 : TT) (te : TE) (vs1 : List Nat) (σ2 : L2.St) (Dl : Addr) (N : Hp → Prop) : Hp → Prop := fun H4 => ∃ W1 : Nat → Nat → Hp → Prop, (∃ m, W1 0 m H4) ∧ ∀ j k H, W1 j k H →
  (J.stop j H ∧ N H) ∨ (J.go j H ∧ ∃ Nx1 : Hp → Prop, (∀ H', Nx1 H' → ∃ k', k' < k ∧ W1 (j + 1) k' H') ∧ ∀ x H', J.yld j H x H' → g1 x (wipe σ2 vs1) H' fun σ3 H5 => wipe σ3 vs1 = wipe σ2 vs1 ∧ tt1 σ3 H5 fun b H6 =>
    if b = true then te σ3 H6 fun y H7 => ∃ acc, H7 Dl = some (.lst acc) ∧ acc.length < sizeLine ∧ Nx1 (upd H7 Dl (.lst (acc ++ [y]))) else Nx1 H6)
def rInL (K : PySem.W.Frag) (g1 : TG) (tt1 : TT) (te : TE) (vs1 : List Nat) (σ2 : L2.St) (Dl : Addr) (N : Hp → Prop) : VK := fun x H4 => ∃ a, x = .ref a ∧ (∃ xs, SqL K H4 a xs) ∧ RIn (Itl K a) g1 tt1 te vs1 σ2 Dl N H4
theorem x_infL {a Dl : Addr} {xs : List V} {vs1 : List Nat} {N : Hp → Prop} (Pv : Nat → Hp → Prop) (hx : SqL K H a xs) (p0 : Pv 0 H) (hl : ∀ i H', Pv i H' → SqL K H' a xs)
    (hs : ∀ i x H', xs[i]? = some x → Pv i H' → g1 x (wipe σ2 vs1) H' fun σ3 H5 => wipe σ3 vs1 = wipe σ2 vs1 ∧ tt1 σ3 H5 fun b H6 => if b = true then te σ3 H6 (fun y H7 => ∃ acc, H7 Dl = some (.lst acc) ∧ acc.length < sizeLine ∧ Pv (i + 1) (upd H7 Dl (.lst (acc ++ [y])))) else Pv (i + 1) H6)
    (hd : ∀ H', Pv xs.length H' → N H') : rInL K g1 tt1 te vs1 σ2 Dl N (.ref a) H := by
  refine ⟨a, rfl, ⟨xs, hx⟩, fun i m H => m = xs.length - i ∧ i ≤ xs.length ∧ Pv i H, ⟨xs.length, by simp, Nat.zero_le _, p0⟩, ?_⟩
  rintro i m H' ⟨rfl, hi, p⟩
  have q := hl i H' p
  by_cases hlt : i < xs.length
  · refine .inr ⟨⟨xs, xs[i], q, by simp [hlt]⟩, Pv (i + 1), fun H' p' => ⟨xs.length - (i + 1), by omega, rfl, hlt, p'⟩, fun x H2 y => ?_⟩
    obtain ⟨e, y⟩ := y
    subst e
    exact hs i x _ (y xs q) p
  · have e : i = xs.length := by omega
    subst e
    exact .inl ⟨⟨xs, q, Nat.le_refl _⟩, hd H' p⟩
/-- the outer for -/
def rLc2L (K : PySem.W.Frag) (g : TG) (te1 : TE) (g1 : TG) (tt1 : TT) (te : TE) (vs vs1 : List Nat) (σ : L2.St) (Q : VK) : VK := fun x H1 => ∃ a, x = .ref a ∧ (∃ xs, SqL K H1 a xs) ∧ ∀ D, H1 D = none → ∃ W : Nat → Nat → Hp → Prop, (∃ m, W 0 m (upd H1 D (.lst []))) ∧ ∀ i m H, W i m H →
  ((Itl K a).stop i H ∧ Q (.ref D) H) ∨ ((Itl K a).go i H ∧ ∃ Nx : Hp → Prop, (∀ H', Nx H' → ∃ m', m' < m ∧ W (i + 1) m' H') ∧ ∀ x H', (Itl K a).yld i H x H' → g x (wipe σ vs) H' fun σ2 H2 => wipe σ2 vs = wipe σ vs ∧
    te1 σ2 H2 (rInL K g1 tt1 te vs1 σ2 D Nx))
theorem x_lc2 {tx : TE} {vs vs1 : List Nat} (q : tx σ H (rLc2L K g te1 g1 tt1 te vs vs1 σ Q)) : tLc2 (iList K tx) g tYes (iList K te1) g1 tt1 te vs vs1 σ H Q := q
theorem x_lc2L {a : Addr} {xs : List V} {vs vs1 : List Nat} (Pv : Addr → Nat → Hp → Prop) (hx : SqL K H a xs) (h0 : ∀ Dl, Fr Dl H → Pv Dl 0 (upd H Dl (.lst []))) (hl : ∀ Dl i H', Fr Dl H → Pv Dl i H' → SqL K H' a xs)
    (hs : ∀ Dl, Fr Dl H → ∀ i x H', xs[i]? = some x → Pv Dl i H' → g x (wipe σ vs) H' fun σ2 H2 => wipe σ2 vs = wipe σ vs ∧ te1 σ2 H2 (rInL K g1 tt1 te vs1 σ2 Dl (Pv Dl (i + 1))))
    (hd : ∀ Dl H', Fr Dl H → Pv Dl xs.length H' → Q (.ref Dl) H') : rLc2L K g te1 g1 tt1 te vs vs1 σ Q (.ref a) H := by
  refine ⟨a, rfl, ⟨xs, hx⟩, fun Dl hD => ⟨fun i m H => m = xs.length - i ∧ i ≤ xs.length ∧ Pv Dl i H, ⟨xs.length, by simp, Nat.zero_le _, h0 Dl ⟨hD⟩⟩, ?_⟩⟩
  rintro i m H' ⟨rfl, hi, p⟩
  have q := hl Dl i H' ⟨hD⟩ p
  by_cases hlt : i < xs.length
  · refine .inr ⟨⟨xs, xs[i], q, by simp [hlt]⟩, Pv Dl (i + 1), fun H' p' => ⟨xs.length - (i + 1), by omega, rfl, hlt, p'⟩, fun x H2 y => ?_⟩
    obtain ⟨e, y⟩ := y
    subst e
    exact hs Dl ⟨hD⟩ i x _ (y xs q) p
  · have e : i = xs.length := by omega
    subst e
    exact .inl ⟨⟨xs, q, Nat.le_refl _⟩, hd Dl H' ⟨hD⟩ p⟩
/-- attributes -/
theorem x_fld {a C dx : Addr} {fs : List (Str × V)} {f : Str} (h : H a = some (.ins C dx fs)) (c : Cls K C) (n : NoAttr K C f) (l : fs.lookup f = some v) (q : Q v H) : (∃ a' C dx fs v, V.ref a = .ref a' ∧ H a' = some (.ins C dx fs) ∧ Cls K C ∧ NoAttr K C f ∧ fs.lookup f = some v ∧ Q v H) :=
  ⟨a, C, dx, fs, v, rfl, h, c, n, l, q⟩
/-- what is read from an instance -/
def rFld (K : PySem.W.Frag) (f : Str) (Q : VK) : VK := fun x H1 => ∃ a C dx fs v, x = .ref a ∧ H1 a = some (.ins C dx fs) ∧ Cls K C ∧ NoAttr K C f ∧ fs.lookup f = some v ∧ Q v H1
theorem x_fld1 {f : Str} (q : ta σ H (rFld K f Q)) : tFld K ta f σ H Q := q
theorem x_rFld {a C dx : Addr} {fs : List (Str × V)} {f : Str} (h : H a = some (.ins C dx fs)) (c : Cls K C) (n : NoAttr K C f) (l : fs.lookup f = some v) (q : Q v H) : rFld K f Q (.ref a) H := ⟨a, C, dx, fs, v, rfl, h, c, n, l, q⟩
def rSetF (K : PySem.W.Frag) (f : Str) (y : V) (R : Hp → Prop) : VK := fun x H2 => ∃ a C dx fs, x = .ref a ∧ H2 a = some (.ins C dx fs) ∧ Cls K C ∧ NoAttr K C f ∧ fs.length < 1000 ∧ R (upd H2 a (.ins C dx (putF f y fs)))
theorem x_sfld {f : Str} (q : tv σ H fun y H1 => ta σ H1 (rSetF K f y (D.nx σ))) : sFld K ta tv f D σ H := q
theorem x_ssfld {f : Str} (q : tv σ H fun y H1 => ta σ H1 (rSetF K f y fun H2 => tz D σ H2)) : tSeq (sFld K ta tv f) tz D σ H := q
theorem x_rSetF {a C dx : Addr} {fs : List (Str × V)} {f : Str} {R : Hp → Prop} (h : H a = some (.ins C dx fs)) (c : Cls K C) (n : NoAttr K C f) (l : fs.length < 1000) (q : R (upd H a (.ins C dx (putF f x fs)))) : rSetF K f x R (.ref a) H := ⟨a, C, dx, fs, rfl, h, c, n, l, q⟩
def rProp (C : Addr) (sp : Sp) (dvs : List V) (E : XK) (Q : VK) : VK := fun x H1 => ∃ a dx fs, x = .ref a ∧ H1 a = some (.ins C dx fs) ∧ sp (.ref a :: dvs) H1 Q E
theorem x_prop {C : Addr} {sp : Sp} {dvs : List V} {E : XK} (q : ta σ H (rProp C sp dvs E Q)) : tProp C sp dvs E ta σ H Q := q
theorem x_rProp {a C dx : Addr} {fs : List (Str × V)} {sp : Sp} {dvs : List V} {E : XK} (h : H a = some (.ins C dx fs)) (q : sp (.ref a :: dvs) H Q E) : rProp C sp dvs E Q (.ref a) H := ⟨a, dx, fs, rfl, h, q⟩
def rMeth (C : Addr) (m : Str) (tr : TA) (sp : Sp) (dvs : List V) (E : XK) (σ : L2.St) (Q : VK) : VK := fun x H1 => ∃ a dx fs, x = .ref a ∧ H1 a = some (.ins C dx fs) ∧ fs.lookup m = none ∧ tr σ H1 fun vs H2 => sp (x :: (vs ++ dvs)) H2 Q E
theorem x_meth {C : Addr} {m : Str} {tr : TA} {sp : Sp} {dvs : List V} {E : XK} (q : ta σ H (rMeth C m tr sp dvs E σ Q)) : tMeth C m sp dvs E ta tr σ H Q := q
theorem x_rMeth {a C dx : Addr} {fs : List (Str × V)} {m : Str} {tr : TA} {sp : Sp} {dvs : List V} {E : XK} (h : H a = some (.ins C dx fs)) (l : fs.lookup m = none) (q : tr σ H fun vs H2 => sp (.ref a :: (vs ++ dvs)) H2 Q E) : rMeth C m tr sp dvs E σ Q (.ref a) H := ⟨a, dx, fs, rfl, h, l, q⟩
def rMake (C : Addr) (sp : Sp) (dvs : List V) (E : XK) (Q : VK) : List V → Hp → Prop := fun vs H1 => ∀ x dx, H1 x = none → H1 dx = none → dx ≠ x → sp (.ref x :: (vs ++ dvs)) (upd (upd H1 dx (.own x)) x (.ins C dx [])) (fun v H2 => v = .non ∧ Q (.ref x) H2) E
theorem x_make {C : Addr} {tr : TA} {sp : Sp} {dvs : List V} {E : XK} (q : tr σ H (rMake C sp dvs E Q)) : tMake C sp dvs E tr σ H Q := q
theorem x_rMake {C : Addr} {sp : Sp} {dvs vs : List V} {E : XK} (k : ∀ x dx H2, Fr x H → Fr dx H → dx ≠ x → Same H H2 → H2 dx = some (.own x) → H2 x = some (.ins C dx []) → sp (.ref x :: (vs ++ dvs)) H2 (fun v H3 => v = .non ∧ Q (.ref x) H3) E) : rMake C sp dvs E Q vs H :=
  fun x dx hx hd hn => k x dx _ ⟨hx⟩ ⟨hd⟩ hn (same_mut (same_fr ⟨hd⟩) ⟨hx⟩) ((upd_ne hn).trans upd_same) upd_same
/-- slices stored and deleted -/
def rDelT (R : Hp → Prop) (l : Addr) (xs : List V) (i : Nat) (u : Option Int) (H2 : Hp) : Prop := u = some (i : Int) ∧ H2 l = some (.lst xs) ∧ i ≤ xs.length ∧ R (upd H2 l (.lst (xs.take i)))
theorem x_delT {to : TE} {tl : TO} (q : to σ H fun x H1 => tl σ H1 fun u H2 => ∃ l xs i, x = .ref l ∧ rDelT (D.nx σ) l xs i u H2) : tDelT to tl D σ H := q
theorem x_sdelT {to : TE} {tl : TO} (q : to σ H fun x H1 => tl σ H1 fun u H2 => ∃ l xs i, x = .ref l ∧ rDelT (fun H3 => tz D σ H3) l xs i u H2) : tSeq (tDelT to tl) tz D σ H := q
theorem x_rDelT {l : Addr} {xs : List V} {i : Nat} {k : Int} {R : Hp → Prop} (e : k = (i : Int)) (h : H l = some (.lst xs)) (hi : i ≤ xs.length) (q : R (upd H l (.lst (xs.take i)))) : ∃ l' xs i', V.ref l = .ref l' ∧ rDelT R l' xs i' (some k) H := ⟨l, xs, i, rfl, by rw [e], h, hi, q⟩
end
end Xk
/-! ## pairs in order, defs with defaults -/
namespace Xk
open PySem PySem.Spec PyProof.Rows L2
/-- the pair (p, q) stands below (r, s) -/
def Bf (p q r s : Int) : Prop := p < r ∨ (p = r ∧ q < s)
instance {p q r s : Int} : Decidable (Bf p q r s) := by unfold Bf; infer_instance
section
variable {X : Cx} {K : PySem.W.Frag} {H : Hp} {Q : VK} {a b : Addr} {p q r s : Int}
theorem pair_in {pins : List (Addr × Obj)} {σ : L2.St} {z : Shared} (I : Inv X pins σ H z) (h : SqT X.K H a [.int p, .int q]) : ∃ t u, z.heap.IsTuple a #[.int p t, .int q u] := by
  obtain ⟨vs, rv, it, _⟩ := I.tuple h
  cases rv with
  | cons x y =>
    cases y with
    | cons y w =>
      cases w
      obtain ⟨t, rfl⟩ := x
      obtain ⟨u, rfl⟩ := y
      exact ⟨t, u, it⟩
theorem eq_ints {A : Around} {z : Shared} (i j : Int) (t u : Tok) : SeqAt.EqAt A z (.int i t) (.int j u) (decide (i = j)) := by
  have h : (i == j) = decide (i = j) := by
    by_cases e : i = j
    · subst e
      simp
    · simp [e]
  rw [← h]
  exact SeqAt.EqAt.int_int _ _ _ _
def rGeP (K : PySem.W.Frag) : R2 := fun x y H Q => ∃ a b p q r s, x = .ref a ∧ y = .ref b ∧ SqT K H a [.int p, .int q] ∧ SqT K H b [.int r, .int s] ∧ Q (.bl (!decide (Bf p q r s))) H
def rLtP (K : PySem.W.Frag) : R2 := fun x y H Q => ∃ a b p q r s, x = .ref a ∧ y = .ref b ∧ SqT K H a [.int p, .int q] ∧ SqT K H b [.int r, .int s] ∧ Q (.bl (decide (Bf p q r s))) H
theorem op_geP (hu : X.A.units < cLine) : OpR X (compareOp .GtE) (rGeP X.K) := by
  intro pins σ0 σ H x y v u Q I rx ry h
  obtain ⟨a, b, p, q, r, s, rfl, rfl, ha, hb, k⟩ := h
  cases rx
  cases ry
  obtain ⟨t1, t2, ia⟩ := pair_in I ha
  obtain ⟨t3, t4, ib⟩ := pair_in I hb
  have R := Ob.RcOp.tuples_ge (e := fun j => if j = 0 then decide (p = r) else decide (q = s)) (r := fun j => if j = 0 then decide (r ≤ p) else decide (s ≤ q)) ia ib hu
    (fun j h1 h2 => match j, h1, h2 with | 0, _, _ => eq_ints _ _ _ _ | 1, _, _ => eq_ints _ _ _ _ | j + 2, z, _ => absurd (show j + 2 < 2 from z) (by omega))
    (fun j h1 h2 _ => match j, h1, h2 with | 0, _, _ => Ob.RcOp.ge_int _ _ _ _ | 1, _, _ => Ob.RcOp.ge_int _ _ _ _ | j + 2, z, _ => absurd (show j + 2 < 2 from z) (by omega))
  refine R X.prog X.w X.xe _ ?_
  have e : Ob.lexAt (fun j => if j = 0 then decide (p = r) else decide (q = s)) (fun j => if j = 0 then decide (r ≤ p) else decide (s ≤ q)) (decide (2 ≥ 2)) 0 2 = !decide (Bf p q r s) := by
    simp only [Ob.lexAt_succ, Ob.lexAt_zero, Bf]
    by_cases h1 : p = r
    · by_cases h2 : q = s
      · simp [h1, h2]
      · by_cases h3 : s ≤ q
        · have h4 : ¬ q < s := by omega
          simp [h1, h2, h3, h4]
        · have h4 : q < s := by omega
          simp [h1, h2, h3, h4]
    · by_cases h3 : r ≤ p
      · have h4 : ¬ p < r := by omega
        simp [h1, h3, h4]
      · have h4 : p < r := by omega
        simp [h1, h3, h4]
  exact ⟨.bl _, H, I, rfl, (congrArg (fun z => Q (.bl z) H) e).mpr k⟩
theorem op_ltP (hu : X.A.units < cLine) : OpR X (compareOp .Lt) (rLtP X.K) := by
  intro pins σ0 σ H x y v u Q I rx ry h
  obtain ⟨a, b, p, q, r, s, rfl, rfl, ha, hb, k⟩ := h
  cases rx
  cases ry
  obtain ⟨t1, t2, ia⟩ := pair_in I ha
  obtain ⟨t3, t4, ib⟩ := pair_in I hb
  have R := Ob.RcOp.tuples_lt (e := fun j => if j = 0 then decide (p = r) else decide (q = s)) (r := fun j => if j = 0 then decide (p < r) else decide (q < s)) ia ib hu
    (fun j h1 h2 => match j, h1, h2 with | 0, _, _ => eq_ints _ _ _ _ | 1, _, _ => eq_ints _ _ _ _ | j + 2, z, _ => absurd (show j + 2 < 2 from z) (by omega))
    (fun j h1 h2 _ => match j, h1, h2 with | 0, _, _ => Ob.RcOp.lt_int _ _ _ _ | 1, _, _ => Ob.RcOp.lt_int _ _ _ _ | j + 2, z, _ => absurd (show j + 2 < 2 from z) (by omega))
  refine R X.prog X.w X.xe _ ?_
  have e : Ob.lexAt (fun j => if j = 0 then decide (p = r) else decide (q = s)) (fun j => if j = 0 then decide (p < r) else decide (q < s)) (decide (2 < 2)) 0 2 = decide (Bf p q r s) := by
    simp only [Ob.lexAt_succ, Ob.lexAt_zero, Bf]
    by_cases h1 : p = r
    · by_cases h2 : q = s
      · simp [h1, h2]
      · by_cases h3 : q < s
        · simp [h1, h2, h3]
        · simp [h1, h2, h3]
    · by_cases h3 : p < r
      · simp [h1, h3]
      · simp [h1, h3]
  exact ⟨.bl _, H, I, rfl, (congrArg (fun z => Q (.bl z) H) e).mpr k⟩
theorem k_geP (hu : X.A.units + 64 < cLine) (e : X.K = K) : OpR X (compareOp .GtE) (rGeP K) := e ▸ op_geP (by omega)
theorem k_ltP (hu : X.A.units + 64 < cLine) (e : X.K = K) : OpR X (compareOp .Lt) (rLtP K) := e ▸ op_ltP (by omega)
theorem x_geP (h : SqT K H a [.int p, .int q]) (h' : SqT K H b [.int r, .int s]) (k : Q (.bl (!decide (Bf p q r s))) H) : rGeP K (.ref a) (.ref b) H Q := ⟨a, b, p, q, r, s, rfl, rfl, h, h', k⟩
theorem x_ltP (h : SqT K H a [.int p, .int q]) (h' : SqT K H b [.int r, .int s]) (k : Q (.bl (decide (Bf p q r s))) H) : rLtP K (.ref a) (.ref b) H Q := ⟨a, b, p, q, r, s, rfl, rfl, h, h', k⟩
def nMax2 : List V → Hp → VK → Prop := fun xs H Q => ∃ i j : Int, xs = [.int i, .int j] ∧ Q (.int (max i j)) H
def nMin2 : List V → Hp → VK → Prop := fun xs H Q => ∃ i j : Int, xs = [.int i, .int j] ∧ Q (.int (min i j)) H
theorem call_nMax2 (hc : X.calm = true) : CallR X (.builtin "max") nMax2 := by
  intro pins s σ H xs us Q I r h
  obtain ⟨i, j, e, q⟩ := h
  refine call_max2 hc pins s σ H xs us Q I r ⟨i, j, e, ?_⟩
  have z : (if j > i then j else i) = max i j := by
    by_cases h : i < j
    · rw [if_pos h]
      omega
    · rw [if_neg h]
      omega
  rw [z]
  exact q
theorem call_nMin2 (hc : X.calm = true) : CallR X (.builtin "min") nMin2 := by
  intro pins s σ H xs us Q I r h
  obtain ⟨i, j, e, q⟩ := h
  refine call_min2 hc pins s σ H xs us Q I r ⟨i, j, e, ?_⟩
  have z : (if j < i then j else i) = min i j := by
    by_cases h : j < i
    · rw [if_pos h]
      omega
    · rw [if_neg h]
      omega
  rw [z]
  exact q
theorem x_nMax2 {i j : Int} (k : Q (.int (max i j)) H) : nMax2 [.int i, .int j] H Q := ⟨i, j, rfl, k⟩
theorem x_nMin2 {i j : Int} (k : Q (.int (min i j)) H) : nMin2 [.int i, .int j] H Q := ⟨i, j, rfl, k⟩
/-- lists and tuples stay, though an own object changes -/
structure Sk (K : PySem.W.Frag) (H H' : Hp) : Prop where
  l : ∀ a xs, SqL K H a xs → SqL K H' a xs
  t : ∀ a xs, SqT K H a xs → SqT K H' a xs
theorem sk_same {H' : Hp} (e : Same H H') : Sk K H H' := ⟨fun _ _ h => sq_same h e, fun _ _ h => st_same h e⟩
theorem Sk.refl (H : Hp) : Sk K H H := ⟨fun _ _ h => h, fun _ _ h => h⟩
theorem Sk.trans {H' H'' : Hp} (e : Sk K H H') (e' : Sk K H' H'') : Sk K H H'' := ⟨fun a xs h => e'.l a xs (e.l a xs h), fun a xs h => e'.t a xs (e.t a xs h)⟩
theorem sk_but {H' : Hp} {C dx : Addr} {fs : List (Str × V)} (hi : H a = some (.ins C dx fs)) (e : But a H H') : Sk K H H' := by
  have key : ∀ b o, H b = some o → (∀ C dx fs, o ≠ .ins C dx fs) → H' b = some o := fun b o hb hn => e b o (fun z => by
    subst z
    exact hn _ _ _ (Option.some.inj (hb.symm.trans hi))) hb
  constructor
  · intro b xs h
    rcases h with (h | ⟨o, h⟩) | h
    · exact .inl (.inl (key _ _ h fun _ _ _ z => by cases z))
    · exact .inl (.inr ⟨o, key _ _ h fun _ _ _ z => by cases z⟩)
    · exact .inr h
  · intro b xs h
    rcases h with (h | ⟨o, h⟩) | h
    · exact .inl (.inl (key _ _ h fun _ _ _ z => by cases z))
    · exact .inl (.inr ⟨o, key _ _ h fun _ _ _ z => by cases z⟩)
    · exact .inr h
mutual
theorem dp_sk {H' : Hp} (e : Sk K H H') : ∀ (d : PyData) (v : V), Dp K H v d → Dp K H' v d
  | .none, _, h => by cases h; exact .non
  | .bool b, _, h => by cases h; exact .bl b
  | .int i, _, h => by cases h; exact .int i
  | .str x, _, h => by cases h; exact .str x
  | .list ds, _, h => by
    cases h with
    | lst hs ha => exact .lst (e.l _ _ hs) (dps_sk e ds _ ha)
  | .tuple ds, _, h => by
    cases h with
    | tup hs ha => exact .tup (e.t _ _ hs) (dps_sk e ds _ ha)
  | .dict _, _, h => by cases h
theorem dps_sk {H' : Hp} (e : Sk K H H') : ∀ (ds : List PyData) (vs : List V), DpAll K H vs ds → DpAll K H' vs ds
  | [], _, h => by cases h; exact .nil
  | d :: ds, _, h => by
    cases h with
    | cons h1 h2 => exact .cons (dp_sk e d _ h1) (dps_sk e ds _ h2)
end
/-- tuples stay -/
structure St (K : PySem.W.Frag) (H H' : Hp) : Prop where
  t : ∀ a xs, SqT K H a xs → SqT K H' a xs
theorem Sk.st {H' : Hp} (e : Sk K H H') : St K H H' := ⟨e.t⟩
theorem St.refl (H : Hp) : St K H H := ⟨fun _ _ h => h⟩
theorem St.trans {H' H'' : Hp} (e : St K H H') (e' : St K H' H'') : St K H H'' := ⟨fun a xs h => e'.t a xs (e.t a xs h)⟩
theorem tt_same {H' : Hp} (e : Same H H') : St K H H' := ⟨fun _ _ h => st_same h e⟩
theorem tt_but {H' : Hp} {o : HO} (hi : H a = some o) (h1 : ∀ xs, o ≠ .tup xs) (h2 : ∀ u xs, o ≠ .frz u (.tup xs)) (e : But a H H') : St K H H' := by
  refine ⟨fun b xs h => ?_⟩
  rcases h with (h | ⟨u, h⟩) | h
  · exact .inl (.inl (e b _ (fun z => by subst z; exact h1 xs (Option.some.inj (hi.symm.trans h))) h))
  · exact .inl (.inr ⟨u, e b _ (fun z => by subst z; exact h2 u xs (Option.some.inj (hi.symm.trans h))) h⟩)
  · exact .inr h
theorem tt_butL {H' : Hp} {ys : List V} (hi : H a = some (.lst ys)) (e : But a H H') : St K H H' := tt_but hi (fun _ z => by cases z) (fun _ _ z => by cases z) e
theorem tt_butO {H' : Hp} {C dx : Addr} {fs : List (Str × V)} (hi : H a = some (.ins C dx fs)) (e : But a H H') : St K H H' := tt_but hi (fun _ z => by cases z) (fun _ _ z => by cases z) e
theorem tt_mutL {o : HO} {ys : List V} (hi : H a = some (.lst ys)) : St K H (upd H a o) := tt_butL hi (but_mut (But.refl _ _))
mutual
/-- none, ints, truth values, texts, and tuples of such -/
def tupD : PyData → Bool
  | .none | .bool _ | .int _ => true
  | .str x => PyData.canLay0 (.str x)
  | .tuple xs => tupDs xs
  | .list _ | .dict _ => false
def tupDs : List PyData → Bool
  | [] => true
  | x :: xs => tupD x && tupDs xs
end
mutual
theorem tupD_lay : ∀ (d : PyData), tupD d = true → d.canLay0 = true
  | .none, _ => rfl
  | .bool _, _ => rfl
  | .int _, _ => rfl
  | .str x, h => h
  | .tuple xs, h => tupDs_lay xs h
  | .list _, h => by cases h
  | .dict _, h => by cases h
theorem tupDs_lay : ∀ (ds : List PyData), tupDs ds = true → PyData.canLayAll0 ds = true
  | [], _ => rfl
  | x :: xs, h => by
    have h2 : (tupD x && tupDs xs) = true := h
    rw [Bool.and_eq_true] at h2
    show (x.canLay0 && PyData.canLayAll0 xs) = true
    rw [tupD_lay x h2.1, tupDs_lay xs h2.2]
    rfl
end
mutual
theorem dp_st {H' : Hp} (e : St K H H') : ∀ (d : PyData) (v : V), tupD d = true → Dp K H v d → Dp K H' v d
  | .none, _, _, h => by cases h; exact .non
  | .bool b, _, _, h => by cases h; exact .bl b
  | .int i, _, _, h => by cases h; exact .int i
  | .str x, _, _, h => by cases h; exact .str x
  | .list ds, _, c, _ => by cases c
  | .tuple ds, _, c, h => by
    cases h with
    | tup hs ha => exact .tup (e.t _ _ hs) (dps_st e ds _ c ha)
  | .dict _, _, _, h => by cases h
theorem dps_st {H' : Hp} (e : St K H H') : ∀ (ds : List PyData) (vs : List V), tupDs ds = true → DpAll K H vs ds → DpAll K H' vs ds
  | [], _, _, h => by cases h; exact .nil
  | d :: ds, _, c, h => by
    have h2 : (tupD d && tupDs ds) = true := c
    rw [Bool.and_eq_true] at h2
    cases h with
    | cons h3 h4 => exact .cons (dp_st e d _ h2.1 h3) (dps_st e ds _ h2.2 h4)
end
/-- packable data at v, not deep -/
def Pk (K : PySem.W.Frag) (H : Hp) (n : Nat) (v : V) (d : PyData) : Prop := Dp K H v d ∧ tupD d = true ∧ d.depth ≤ n
theorem Pk.st {H' : Hp} {n : Nat} {v : V} {d : PyData} (h : Pk K H n v d) (e : St K H H') : Pk K H' n v d := ⟨dp_st e d v h.2.1 h.1, h.2⟩
theorem Pk.sk {H' : Hp} {n : Nat} {v : V} {d : PyData} (h : Pk K H n v d) (e : Sk K H H') : Pk K H' n v d := h.st e.st
theorem Pk.same {H' : Hp} {n : Nat} {v : V} {d : PyData} (h : Pk K H n v d) (e : Same H H') : Pk K H' n v d := h.st (tt_same e)
theorem Pk.mono {n m : Nat} {v : V} {d : PyData} (h : Pk K H n v d) (l : n ≤ m) : Pk K H m v d := ⟨h.1, h.2.1, Nat.le_trans h.2.2 l⟩
theorem Pk.lay {n : Nat} {v : V} {d : PyData} (h : Pk K H n v d) : d.canLay0 = true := tupD_lay d h.2.1
theorem pk_non {n : Nat} : Pk K H n .non .none := ⟨.non, rfl, Nat.zero_le _⟩
theorem pk_int {n : Nat} {i : Int} : Pk K H n (.int i) (.int i) := ⟨.int i, rfl, Nat.zero_le _⟩
theorem pk_str {n : Nat} {x : Str} (h : PyData.canLay0 (.str x) = true := by decide +kernel) : Pk K H n (.str x) (.str x) := ⟨.str x, h, Nat.zero_le _⟩
/-- packable data, one behind another -/
def PkAll (K : PySem.W.Frag) (H : Hp) (n : Nat) (vs : List V) (ds : List PyData) : Prop := DpAll K H vs ds ∧ tupDs ds = true ∧ PyData.depthAll ds ≤ n
theorem PkAll.st {H' : Hp} {n : Nat} {vs : List V} {ds : List PyData} (h : PkAll K H n vs ds) (e : St K H H') : PkAll K H' n vs ds := ⟨dps_st e ds vs h.2.1 h.1, h.2⟩
theorem PkAll.same {H' : Hp} {n : Nat} {vs : List V} {ds : List PyData} (h : PkAll K H n vs ds) (e : Same H H') : PkAll K H' n vs ds := h.st (tt_same e)
theorem PkAll.mono {n m : Nat} {vs : List V} {ds : List PyData} (h : PkAll K H n vs ds) (l : n ≤ m) : PkAll K H m vs ds := ⟨h.1, h.2.1, Nat.le_trans h.2.2 l⟩
theorem PkAll.lay {n : Nat} {vs : List V} {ds : List PyData} (h : PkAll K H n vs ds) : PyData.canLayAll0 ds = true := tupDs_lay ds h.2.1
theorem pk_nil {n : Nat} : PkAll K H n [] [] := ⟨.nil, rfl, Nat.zero_le _⟩
theorem pk_cons {n : Nat} {v : V} {vs : List V} {d : PyData} {ds : List PyData} (h : Pk K H n v d) (h' : PkAll K H n vs ds) : PkAll K H n (v :: vs) (d :: ds) :=
  ⟨.cons h.1 h'.1, by show (tupD d && tupDs ds) = true; rw [h.2.1, h'.2.1]; rfl, by show max _ _ ≤ n; have := h.2.2; have := h'.2.2; omega⟩
theorem PkAll.uncons {n : Nat} {v : V} {vs : List V} {ds : List PyData} (h : PkAll K H n (v :: vs) ds) : ∃ d es, ds = d :: es ∧ Pk K H n v d ∧ PkAll K H n vs es := by
  obtain ⟨h1, h2, h3⟩ := h
  cases h1 with
  | cons a b =>
    rename_i d es
    have h4 : (tupD d && tupDs es) = true := h2
    rw [Bool.and_eq_true] at h4
    have h5 : max d.depth (PyData.depthAll es) ≤ n := h3
    exact ⟨d, es, rfl, ⟨a, h4.1, by omega⟩, ⟨b, h4.2, by omega⟩⟩
theorem pk_snoc {n : Nat} : ∀ {vs : List V} {ds : List PyData} {v : V} {d : PyData}, PkAll K H n vs ds → Pk K H n v d → PkAll K H n (vs ++ [v]) (ds ++ [d])
  | [], ds, v, d, h, h' => by
    obtain ⟨h1, _, _⟩ := h
    cases h1
    exact pk_cons h' pk_nil
  | w :: vs, ds, v, d, h, h' => by
    obtain ⟨e, es, rfl, h1, h2⟩ := h.uncons
    exact pk_cons h1 (pk_snoc h2 h')
theorem PkAll.len {n : Nat} : ∀ {vs : List V} {ds : List PyData}, PkAll K H n vs ds → vs.length = ds.length
  | [], ds, h => by
    obtain ⟨h1, _, _⟩ := h
    cases h1
    rfl
  | w :: vs, ds, h => by
    obtain ⟨e, es, rfl, h1, h2⟩ := h.uncons
    show vs.length + 1 = es.length + 1
    rw [h2.len]
theorem PkAll.take {n : Nat} : ∀ {vs : List V} {ds : List PyData} (k : Nat), PkAll K H n vs ds → PkAll K H n (vs.take k) (ds.take k)
  | vs, ds, 0, h => pk_nil
  | [], ds, k + 1, h => by
    obtain ⟨h1, _, _⟩ := h
    cases h1
    exact pk_nil
  | w :: vs, ds, k + 1, h => by
    obtain ⟨e, es, rfl, h1, h2⟩ := h.uncons
    exact pk_cons h1 (h2.take k)
theorem PkAll.at {n : Nat} : ∀ {vs : List V} {ds : List PyData} {i : Nat} {v : V}, PkAll K H n vs ds → vs[i]? = some v → ∃ d, ds[i]? = some d ∧ Pk K H n v d
  | [], ds, i, v, h, e => by simp at e
  | w :: vs, ds, 0, v, h, e => by
    obtain ⟨d, es, rfl, h1, h2⟩ := h.uncons
    cases (show w = v from Option.some.inj e)
    exact ⟨d, rfl, h1⟩
  | w :: vs, ds, i + 1, v, h, e => by
    obtain ⟨d, es, rfl, h1, h2⟩ := h.uncons
    exact h2.at e
theorem pk_tup {n : Nat} {a : Addr} {vs : List V} {ds : List PyData} (h : SqT K H a vs) (h1 : PkAll K H n vs ds) : Pk K H (n + 1) (.ref a) (.tuple ds) :=
  ⟨.tup h h1.1, h1.2.1, Nat.add_le_add_right h1.2.2 1⟩
theorem pk_tup1 {n : Nat} {a : Addr} {v : V} {d : PyData} (h : SqT K H a [v]) (h1 : Pk K H n v d) : Pk K H (n + 1) (.ref a) (.tuple [d]) := pk_tup h (pk_cons h1 pk_nil)
theorem pk_tup2 {n : Nat} {a : Addr} {v w : V} {d e : PyData} (h : SqT K H a [v, w]) (h1 : Pk K H n v d) (h2 : Pk K H n w e) : Pk K H (n + 1) (.ref a) (.tuple [d, e]) := pk_tup h (pk_cons h1 (pk_cons h2 pk_nil))
theorem pk_tup3 {n : Nat} {a : Addr} {u v w : V} {c d e : PyData} (h : SqT K H a [u, v, w]) (h0 : Pk K H n u c) (h1 : Pk K H n v d) (h2 : Pk K H n w e) : Pk K H (n + 1) (.ref a) (.tuple [c, d, e]) := pk_tup h (pk_cons h0 (pk_cons h1 (pk_cons h2 pk_nil)))
/-- equal data, one way or the other -/
theorem x_nePk {n m : Nat} {x y : V} {d : PyData} (h : Pk K H n x d) (h' : Pk K H m y d) (q : Q (.bl false) H) (l : n ≤ 64 := by decide) : rNeD K x y H Q := x_neSame h.1 h'.1 h.lay (Nat.le_trans h.2.2 l) q
theorem x_eqPk {n m : Nat} {x y : V} {d : PyData} (h : Pk K H n x d) (h' : Pk K H m y d) (q : Q (.bl true) H) (l : n ≤ 64 := by decide) : rEqD K x y H Q := x_eqSame h.1 h'.1 h.lay (Nat.le_trans h.2.2 l) q
theorem lay_list {ds : List PyData} (h : PyData.canLayAll0 ds = true) : PyData.canLay0 (.list ds) = true := h
theorem x_nePkL {n m : Nat} {p q' : Addr} {xs ys : List V} {ds : List PyData} (hp : SqL K H p xs) (hq : SqL K H q' ys) (h : PkAll K H n xs ds) (h' : PkAll K H m ys ds) (q : Q (.bl false) H) (l : n ≤ 63 := by decide) : rNeD K (.ref p) (.ref q') H Q :=
  x_neSame (.lst hp h.1) (.lst hq h'.1) (lay_list h.lay) (Nat.add_le_add_right (Nat.le_trans h.2.2 l) 1) q
theorem x_eqPkL {n m : Nat} {p q' : Addr} {xs ys : List V} {ds : List PyData} (hp : SqL K H p xs) (hq : SqL K H q' ys) (h : PkAll K H n xs ds) (h' : PkAll K H m ys ds) (q : Q (.bl true) H) (l : n ≤ 63 := by decide) : rEqD K (.ref p) (.ref q') H Q :=
  x_eqSame (.lst hp h.1) (.lst hq h'.1) (lay_list h.lay) (Nat.add_le_add_right (Nat.le_trans h.2.2 l) 1) q
theorem u65 {k : Nat} {A : Around} (r : Room k A) : A.units + 65 < cLine := by
  have := r.un
  omega
theorem k_inD (hu : X.A.units + 65 < cLine) (e : X.K = K) : OpR X (compareOp .In) (rInD K) := e ▸ op_inD hu
theorem k_ninD (hu : X.A.units + 65 < cLine) (e : X.K = K) : OpR X (compareOp .NotIn) (rNotInD K) := e ▸ op_notInD hu
/-- whether d is among ds -/
def inD (d : PyData) (ds : List PyData) : Bool := ds.any fun z => PyData.eqv z d
theorem x_inPk {n m : Nat} {x : V} {d : PyData} {xs : List V} {ds : List PyData} (h : Pk K H n x d) (hp : SqL K H a xs) (h' : PkAll K H m xs ds) (k : Q (.bl (inD d ds)) H) (l : n ≤ 64 := by decide) (l' : m ≤ 63 := by decide) : rInD K x (.ref a) H Q :=
  ⟨d, ds, h.1, .lst hp h'.1, shaped_of h.lay (Nat.le_trans h.2.2 l), shaped_of (lay_list h'.lay) (Nat.add_le_add_right (Nat.le_trans h'.2.2 l') 1), k⟩
theorem x_ninPk {n m : Nat} {x : V} {d : PyData} {xs : List V} {ds : List PyData} (h : Pk K H n x d) (hp : SqL K H a xs) (h' : PkAll K H m xs ds) (k : Q (.bl (!inD d ds)) H) (l : n ≤ 64 := by decide) (l' : m ≤ 63 := by decide) : rNotInD K x (.ref a) H Q :=
  ⟨d, ds, h.1, .lst hp h'.1, shaped_of h.lay (Nat.le_trans h.2.2 l), shaped_of (lay_list h'.lay) (Nat.add_le_add_right (Nat.le_trans h'.2.2 l') 1), k⟩
theorem x_inD {x : V} {d : PyData} {ds : List PyData} (h : Dp K H x d) (h' : Dp K H (.ref a) (.list ds)) (c : d.canLay0 = true) (n : d.depth ≤ 64) (c' : PyData.canLay0 (.list ds) = true) (n' : PyData.depth (.list ds) ≤ 64) (k : Q (.bl (inD d ds)) H) : rInD K x (.ref a) H Q :=
  ⟨d, ds, h, h', shaped_of c n, shaped_of c' n', k⟩
theorem x_ninD {x : V} {d : PyData} {ds : List PyData} (h : Dp K H x d) (h' : Dp K H (.ref a) (.list ds)) (c : d.canLay0 = true) (n : d.depth ≤ 64) (c' : PyData.canLay0 (.list ds) = true) (n' : PyData.depth (.list ds) ≤ 64) (k : Q (.bl (!inD d ds)) H) : rNotInD K x (.ref a) H Q :=
  ⟨d, ds, h, h', shaped_of c n, shaped_of c' n', k⟩
/-- a sign some times over -/
def repS (x : Str) (n : Int) : Str := if n < 1 then Str.empty else if (n == 1 || x.length == 0) = true then x else ⟨(List.replicate n.toNat x.cps).foldl (· ++ ·) #[]⟩
def nRepS : R2 := fun x y H Q => ∃ (z : Str) (n : Int), x = .str z ∧ y = .int n ∧ 0 ≤ n ∧ n ≤ 1000 ∧ z.length ≤ 100 ∧ Q (.str (repS z n)) H
theorem op_nRepS : OpR X (binaryOp .Mult) nRepS := by
  intro pins s σ H x y v u Q I rx ry h
  obtain ⟨z, n, rfl, rfl, h0, h1, h2, q⟩ := h
  obtain ⟨t, rfl⟩ := rx
  obtain ⟨t', rfl⟩ := ry
  have hlen : z.length * n.toNat ≤ 100000 := by
    have h3 : n.toNat ≤ 1000 := by omega
    calc z.length * n.toNat ≤ 100 * n.toNat := Nat.mul_le_mul_right _ h2
      _ ≤ 100000 := by omega
  refine PySem.P.mul_str ?_ ?_ ?_ ?_
  · rw [decide_eq_false (by omega), decide_eq_false (by omega)]
    rfl
  · intro h3 _ h4
    have h5 : (1000 : Int) ≤ (2 ^ 63 - 1) / n := by
      rw [Int.le_ediv_iff_mul_le (by omega)]
      omega
    omega
  · intro _ _
    exact decide_eq_false (by unfold sizeLine; omega)
  · unfold repS at q
    by_cases h3 : n < 1
    · rw [if_pos h3] at q ⊢
      exact ⟨by decide, .str Str.empty, H, I.tok _, ⟨_, rfl⟩, q⟩
    · rw [if_neg h3] at q ⊢
      by_cases h4 : (n == 1 || z.length == 0) = true
      · rw [if_pos h4] at q ⊢
        exact ⟨.str z, H, I, ⟨_, rfl⟩, q⟩
      · rw [if_neg h4] at q ⊢
        exact ⟨PySem.fits_reps (decide_eq_false (by unfold sizeLine; omega)), .str _, H, I.tok _, ⟨_, rfl⟩, q⟩
theorem x_nRepS {z : Str} {n : Int} (h : 0 ≤ n ∧ n ≤ 1000) (hz : z.length ≤ 100) (k : Q (.str (repS z n)) H) : nRepS (.str z) (.int n) H Q := ⟨z, n, rfl, rfl, h.1, h.2, hz, k⟩
/-- a range from its end -/
def rRevR (i : Nat) (tu : TS) (D : Ends) (σ : L2.St) : Int → Int → Hp → Prop := fun lo hi H => -(2 ^ 62) ≤ lo ∧ lo < 2 ^ 62 ∧ -(2 ^ 62) ≤ hi ∧ hi < 2 ^ 62 ∧ ∃ W : Nat → Nat → L2.St → Hp → Prop, (∃ m, W 0 m σ H) ∧ ∀ j m σ H, W j m σ H →
  ((Itc (lo + (((hi - lo).toNat : Nat) : Int) - 1) (-1) (hi - lo).toNat).stop j H ∧ D.nx σ H) ∨ ((Itc (lo + (((hi - lo).toNat : Nat) : Int) - 1) (-1) (hi - lo).toNat).go j H ∧ ∃ N : L2.St → Hp → Prop, (∀ σ' H', N σ' H' → ∃ m', m' < m ∧ W (j + 1) m' σ' H') ∧
    ∀ x H', (Itc (lo + (((hi - lo).toNat : Nat) : Int) - 1) (-1) (hi - lo).toNat).yld j H x H' → gName i x σ H' fun σ2 H2 => tu { D with nx := N, ct := N, bk := D.nx } σ2 H2)
theorem x_forRev1 {i : Nat} {tu : TS} {D : Ends} {σ : L2.St} {tr : L2.St → Hp → (Int → Int → Hp → Prop) → Prop} (q : tr σ H (rRevR i tu D σ)) : tFor (iRevR tr) (gName i) tu D σ H := q
theorem x_forRev {i : Nat} {tu : TS} {D : Ends} {σ : L2.St} {m : Int} (Pv : Nat → L2.St → Hp → Prop) (hm : 0 ≤ m ∧ m ≤ 100000) (p0 : Pv 0 σ H)
    (ps : ∀ (j : Nat) σ' H', (j : Int) < m → Pv j σ' H' → tu { D with nx := Pv (j + 1), ct := Pv (j + 1), bk := D.nx } (σ'.set i (some (.int (m - 1 - j)))) H') (pd : ∀ σ' H', Pv m.toNat σ' H' → D.nx σ' H') : rRevR i tu D σ 0 m H := by
  have e : (m - 0).toNat = m.toNat := by omega
  refine ⟨by omega, by omega, by omega, by omega, ?_⟩
  rw [e]
  refine for_rangeC (n := m.toNat) Pv p0 (fun j σ' H' hj p => ?_) pd
  have e0 : (0 : Int) + ((m.toNat : Nat) : Int) - 1 + (j : Nat) * (-1) = m - 1 - j := by omega
  show tu { D with nx := Pv (j + 1), ct := Pv (j + 1), bk := D.nx } (σ'.set i (some (.int ((0 : Int) + ((m.toNat : Nat) : Int) - 1 + (j : Nat) * (-1))))) H'
  rw [e0]
  exact ps j σ' H' (by omega) p
theorem cut_take {xs : List V} {k : Int} {n : Nat} (e : k = (n : Int)) : cutV xs none (some k) = xs.take n := by
  subst e
  unfold cutV
  rw [HT.sIx_nat, HT.sIx_none, List.drop_zero, Nat.sub_zero]
  by_cases h : n ≤ xs.length
  · rw [show min n xs.length = n by omega]
  · rw [show min n xs.length = xs.length by omega, List.take_length, List.take_of_length_le (by omega)]
theorem cut_drop {xs : List V} {k : Int} {n : Nat} (e : k = (n : Int)) : cutV xs (some k) none = xs.drop n := by
  subst e
  unfold cutV
  rw [HT.sIx_nat, HT.sIx_none]
  by_cases h : n ≤ xs.length
  · rw [show min n xs.length = n by omega, List.take_of_length_le (by rw [List.length_drop]; omega)]
  · rw [show min n xs.length = xs.length by omega, List.drop_length, List.drop_of_length_le (by omega)]
    simp
/-- range(lo, hi) -/
def rRange2 (n : Nat) (tu : TS) (D : Ends) (σ : L2.St) : List V → Hp → Prop := fun vs H => ∃ i j : Int, vs = [.int i, .int j] ∧ (-(2 ^ 62) ≤ i ∧ i < 2 ^ 62 ∧ -(2 ^ 62) ≤ j ∧ j < 2 ^ 62) ∧ ∃ W : Nat → Nat → L2.St → Hp → Prop, (∃ m, W 0 m σ H) ∧ ∀ k m σ H, W k m σ H →
  ((Itr i (j - i).toNat).stop k H ∧ D.nx σ H) ∨ ((Itr i (j - i).toNat).go k H ∧ ∃ N : L2.St → Hp → Prop, (∀ σ' H', N σ' H' → ∃ m', m' < m ∧ W (k + 1) m' σ' H') ∧ ∀ x H', (Itr i (j - i).toNat).yld k H x H' → gName n x σ H' fun σ2 H2 => tu { D with nx := N, ct := N, bk := D.nx } σ2 H2)
theorem x_forR2 {n : Nat} {tu : TS} {D : Ends} {σ : L2.St} {tr : TA} (q : tr σ H (rRange2 n tu D σ)) : tFor (iRng2 tr) (gName n) tu D σ H := q
theorem x_range2 {n : Nat} {tu : TS} {D : Ends} {σ : L2.St} {lo hi : Int} (Pv : Nat → L2.St → Hp → Prop) (hm : -1000000 ≤ lo ∧ lo ≤ 1000000 ∧ -1000000 ≤ hi ∧ hi ≤ 1000000) (p0 : Pv 0 σ H)
    (ps : ∀ (k : Nat) σ' H', lo + (k : Int) < hi → Pv k σ' H' → tu { D with nx := Pv (k + 1), ct := Pv (k + 1), bk := D.nx } (σ'.set n (some (.int (lo + (k : Int))))) H') (pd : ∀ σ' H', Pv (hi - lo).toNat σ' H' → D.nx σ' H') : rRange2 n tu D σ [.int lo, .int hi] H :=
  ⟨lo, hi, rfl, ⟨by omega, by omega, by omega, by omega⟩, for_range (lo := lo) (n := (hi - lo).toNat) Pv p0 (fun k σ' H' hk p => ps k σ' H' (by omega) p) pd⟩
theorem pk_ints {n : Nat} : ∀ ns : List Int, PkAll K H n (ns.map V.int) (ns.map PyData.int)
  | [] => pk_nil
  | m :: r => pk_cons pk_int (pk_ints r)
/-! dicts whose keys are texts -/
def rDG (x : V) (Q : VK) : VK := fun y H2 => ∃ (a : Addr) (v : V), x = .ref a ∧ DGet H2 a y (some v) ∧ Q v H2
theorem x_dget {td ty : TE} {σ : L2.St} (q : td σ H fun x H1 => ty σ H1 (rDG x Q)) : tDGet td ty σ H Q := q
theorem x_rDG {kvs : List (Key × V)} {k : Str} {v : V} (h : H a = some (.dK kvs)) (e : valV kvs (Sum.inr k) = some v) (q : Q v H) : rDG (.ref a) Q (.str k) H := ⟨a, v, rfl, by rw [← e]; exact (DGet.k (k := Sum.inr k) h : DGet H a (kV (Sum.inr k)) (valV kvs (Sum.inr k))), q⟩
def rDP (x v : V) (R : Hp → Prop) : VK := fun y H3 => ∃ (a : Addr) (H4 : Hp), x = .ref a ∧ DPut H3 a y v H4 ∧ R H4
theorem x_sdput {td ty tv : TE} {D : Ends} {σ : L2.St} {tz : TS} (q : tv σ H fun v H1 => td σ H1 fun x H2 => ty σ H2 (rDP x v fun H4 => tz D σ H4)) : tSeq (sDPut td ty tv) tz D σ H := q
theorem x_dput {td ty tv : TE} {D : Ends} {σ : L2.St} (q : tv σ H fun v H1 => td σ H1 fun x H2 => ty σ H2 (rDP x v fun H4 => D.nx σ H4)) : sDPut td ty tv D σ H := q
theorem x_rDP {kvs kvs' : List (Key × V)} {k : Str} {v : V} {R : Hp → Prop} (h : H a = some (.dK kvs)) (hl : kvs.length < 1000) (e : putK kvs (Sum.inr k) v = kvs') (q : R (upd H a (.dK kvs'))) : rDP (.ref a) v R (.str k) H :=
  ⟨a, upd H a (.dK (putK kvs (Sum.inr k) v)), rfl, (DPut.k (k := Sum.inr k) h (small1000 (Nat.le_of_lt hl)) : DPut H a (kV (Sum.inr k)) v _), by rw [e]; exact q⟩
theorem x_disp {trs : List (TE × TE)} {σ : L2.St} (q : ∀ p, Fr p H → tPairs trs σ (upd H p (.dK [])) fun ps H2 => H2 p = some (.dK []) ∧ ∃ kvs : List (Key × V), ps = kvs.map (fun kv => (kV kv.1, kv.2)) ∧ kvs.length ≤ 15 ∧ Q (.ref p) (upd H2 p (.dK (mergeK [] kvs)))) : tDisp trs σ H Q := fun p hp => q p ⟨hp⟩
theorem x_pcons {tk tv : TE} {r : List (TE × TE)} {σ : L2.St} {R : List (V × V) → Hp → Prop} (q : tk σ H fun x H1 => tv σ H1 fun y H2 => tPairs r σ H2 fun ps H3 => R ((x, y) :: ps) H3) : tPairs ((tk, tv) :: r) σ H R := q
theorem x_pnil {σ : L2.St} {R : List (V × V) → Hp → Prop} (q : R [] H) : tPairs [] σ H R := q
/-! lists of ints sorted where they stand -/
theorem x_rSortI {ns : List Int} (h : H a = some (.lst (ns.map V.int))) (k : ∀ ns' : List Int, ns'.Perm ns → ns'.Pairwise (· ≤ ·) → Q .non (upd H a (.lst (ns'.map V.int)))) : rSortI (.ref a) [] H Q := ⟨a, ns, rfl, rfl, h, k⟩
theorem srt_eq {xs ys : List Int} (p : xs.Perm ys) (h1 : xs.Pairwise (· ≤ ·)) (h2 : ys.Pairwise (· ≤ ·)) : xs = ys := p.eq_of_pairwise (fun x y _ _ h h' => Int.le_antisymm h h') h1 h2
/-! texts -/
def nInS : R2 := fun x y H Q => ∃ (c : Nat) (z : Str), x = .str ⟨#[c]⟩ ∧ y = .str z ∧ Q (.bl (decide (c ∈ z.cps.toList))) H
def nNotInS : R2 := fun x y H Q => ∃ (c : Nat) (z : Str), x = .str ⟨#[c]⟩ ∧ y = .str z ∧ Q (.bl (!decide (c ∈ z.cps.toList))) H
theorem op_nInS : OpR X (compareOp .In) nInS := op_in_sign
theorem op_nNotInS : OpR X (compareOp .NotIn) nNotInS := op_notIn_sign
theorem x_inS {c : Nat} {z : Str} (q : Q (.bl (decide (c ∈ z.cps.toList))) H) : nInS (.str ⟨#[c]⟩) (.str z) H Q := ⟨c, z, rfl, rfl, q⟩
theorem x_notInS {c : Nat} {z : Str} (q : Q (.bl (!decide (c ∈ z.cps.toList))) H) : nNotInS (.str ⟨#[c]⟩) (.str z) H Q := ⟨c, z, rfl, rfl, q⟩
def nAddS : R2 := fun x y H Q => ∃ i j : Str, x = .str i ∧ y = .str j ∧ i.length + j.length ≤ sizeLine ∧ Q (.str (i ++ j)) H
theorem op_nAddS : OpR X (binaryOp .Add) nAddS := op_add_str
theorem x_nAddS {i j : Str} (h : i.length + j.length ≤ 100000) (q : Q (.str (i ++ j)) H) : nAddS (.str i) (.str j) H Q := ⟨i, j, rfl, rfl, size_ok h, q⟩
def nLenS : List V → Hp → VK → Prop := fun xs H Q => ∃ z : Str, xs = [.str z] ∧ z.length ≤ sizeLine ∧ Q (.int z.length) H
theorem call_nLenS : CallR X (.builtin "len") nLenS := call_len_str
theorem x_nLenS {z : Str} (h : z.length ≤ 100000) (q : Q (.int z.length) H) : nLenS [.str z] H Q := ⟨z, rfl, size_ok h, q⟩
theorem x_slS {z : Str} {lo hi : Option Int} (h : z.length ≤ 100000) (q : Q (.str (cutS z lo hi)) H) : rSlS (.str z) lo hi H Q := ⟨z, rfl, size_ok h, q⟩
def rLcS (g : TG) (tt : TT) (te : TE) (vs : List Nat) (σ : L2.St) (Q : VK) : VK := fun x H1 => ∃ z, x = .str z ∧ RLc (Its z) g tt te vs σ Q H1
theorem x_lcS1 {g : TG} {t : TT} {te tx : TE} {vs : List Nat} {σ : L2.St} (q : tx σ H (rLcS g t te vs σ Q)) : tLc (iStr tx) g t te vs σ H Q := q
theorem x_lcS {g : TG} {t : TT} {te : TE} {vs : List Nat} {σ : L2.St} {z : Str} (Pv : Addr → Nat → Hp → Prop) (h0 : ∀ Dl, Fr Dl H → Pv Dl 0 (upd H Dl (.lst [])))
    (hs : ∀ Dl, Fr Dl H → ∀ i c H', z.cps.toList[i]? = some c → Pv Dl i H' → g (.str ⟨#[c]⟩) (wipe σ vs) H' fun σ2 H2 => wipe σ2 vs = wipe σ vs ∧ t σ2 H2 fun b H3 =>
      if b = true then te σ2 H3 fun y H4 => ∃ acc, H4 Dl = some (.lst acc) ∧ acc.length < sizeLine ∧ Pv Dl (i + 1) (upd H4 Dl (.lst (acc ++ [y]))) else Pv Dl (i + 1) H3)
    (hd : ∀ Dl H', Fr Dl H → Pv Dl z.length H' → Q (.ref Dl) H') : rLcS g t te vs σ Q (.str z) H := ⟨z, rfl, fun Dl hD =>
  lc_it walk_str (Pv Dl) (h0 Dl ⟨hD⟩) (fun _ _ _ _ => trivial) (fun i x H1 H' _ p y => by
    obtain ⟨rfl, c, hc, rfl⟩ := y
    exact hs Dl ⟨hD⟩ i c _ (by rw [← hc]; simp) p) (fun H' p => hd Dl H' ⟨hD⟩ p)⟩
/-! ### texts gone through, keys of a dict -/
def rForS (g : TG) (tu : TS) (D : Ends) (σ : L2.St) : VK := fun x H => ∃ z, x = .str z ∧ ∃ W : Nat → Nat → L2.St → Hp → Prop, (∃ m, W 0 m σ H) ∧ ∀ i m σ H, W i m σ H →
  ((Its z).stop i H ∧ D.nx σ H) ∨ ((Its z).go i H ∧ ∃ N : L2.St → Hp → Prop, (∀ σ' H', N σ' H' → ∃ m', m' < m ∧ W (i + 1) m' σ' H') ∧ ∀ x H', (Its z).yld i H x H' → g x σ H' fun σ2 H2 => tu { D with nx := N, ct := N, bk := D.nx } σ2 H2)
theorem x_forS1 {g : TG} {tu : TS} {D : Ends} {σ : L2.St} {te : TE} (q : te σ H (rForS g tu D σ)) : tFor (iStr te) g tu D σ H := q
theorem x_forS {g : TG} {tu : TS} {D : Ends} {σ : L2.St} {z : Str} (Pv : Nat → L2.St → Hp → Prop) (p0 : Pv 0 σ H)
    (ps : ∀ i c σ' H', z.cps.toList[i]? = some c → Pv i σ' H' → g (.str ⟨#[c]⟩) σ' H' fun σ2 H2 => tu { D with nx := Pv (i + 1), ct := Pv (i + 1), bk := D.nx } σ2 H2) (pd : ∀ σ' H', Pv z.length σ' H' → D.nx σ' H') : rForS g tu D σ (.str z) H :=
  ⟨z, rfl, for_it walk_str Pv p0 (fun _ _ _ _ _ => trivial) (fun i x σ H H' _ p y => by
    obtain ⟨rfl, c, hc, rfl⟩ := y
    exact ps i c _ _ (by rw [← hc]; simp) p) pd⟩
def nOrd : List V → Hp → VK → Prop := fun xs H Q => ∃ x : Str, xs = [.str x] ∧ x.length = 1 ∧ Q (.int (x.cps.getD 0 0 : Nat)) H
theorem k_ord {X : Cx} : CallR X (.builtin "ord") nOrd := call_ord
theorem x_ord {c : Nat} (q : Q (.int (c : Nat)) H) : nOrd [.str ⟨#[c]⟩] H Q := ⟨_, rfl, rfl, q⟩
/-- a list comprehension over a dict's keys -/
theorem x_lcK {g : TG} {t : TT} {te : TE} {vs : List Nat} {σ : L2.St} {a : Nat} {r : Addr} {kvs : List (Key × V)} (ea : σ[a]? = some (some (.ref r))) (hr : H r = some (.dK kvs))
    (q : ∀ od H0, H0 = upd H r (.frz od (.dK kvs)) → ∃ Pv : Addr → Nat → Hp → Prop, (∀ Dl, Fr Dl H0 → Pv Dl 0 (upd H0 Dl (.lst []))) ∧ (∀ Dl i H', Fr Dl H0 → Pv Dl i H' → H' r = some (.frz od (.dK kvs))) ∧
      (∀ Dl, Fr Dl H0 → ∀ i k v H', kvs[i]? = some (k, v) → Pv Dl i H' → g (kV k) (wipe σ vs) H' fun σ2 H2 => wipe σ2 vs = wipe σ vs ∧ t σ2 H2 fun b H3 =>
        if b = true then te σ2 H3 fun y H4 => ∃ acc, H4 Dl = some (.lst acc) ∧ acc.length < sizeLine ∧ Pv Dl (i + 1) (upd H4 Dl (.lst (acc ++ [y]))) else Pv Dl (i + 1) H3) ∧
      ∀ Dl H', Fr Dl H0 → Pv Dl kvs.length H' → Q (.ref Dl) (upd H' r (.dK kvs))) : tLockE (tLc (iKeys (tVar a)) g t te vs) σ H Q := by
  refine ⟨r, _, hr, trivial, fun od => ?_⟩
  obtain ⟨Pv, h0, h1, h2, h3⟩ := q od _ rfl
  refine ⟨.ref r, ea, r, od, rfl, .inl ⟨kvs, upd_same, fun Dl hD => ?_⟩⟩
  refine lc_it (walk_keys (o := od)) (Pv Dl) (h0 Dl ⟨hD⟩) (fun i H' _ p => h1 Dl i H' ⟨hD⟩ p) (fun i x H1 H' _ p y => ?_) fun H' p => ⟨h1 Dl _ H' ⟨hD⟩ p, h3 Dl H' ⟨hD⟩ p⟩
  obtain ⟨rfl, k, v, e, rfl⟩ := y
  exact h2 Dl ⟨hD⟩ i k v _ e p
/-- all signs of a text are so -/
def AllC (p : Nat → Bool) (s : Str) : Bool := s.cps.toList.all p
theorem toList_add (i j : Str) : (i ++ j).cps.toList = i.cps.toList ++ j.cps.toList := by
  show (i.cps ++ j.cps).toList = _
  simp
theorem len_add (i j : Str) : (i ++ j).length = i.length + j.length := by
  show (i.cps ++ j.cps).size = i.cps.size + j.cps.size
  simp
theorem allC_add {p : Nat → Bool} {i j : Str} (h : AllC p i = true) (h' : AllC p j = true) : AllC p (i ++ j) = true := by
  unfold AllC at *
  rw [toList_add, List.all_append, h, h']
  rfl
theorem allC_add_inv {p : Nat → Bool} {i j : Str} (h : AllC p (i ++ j) = true) : AllC p i = true ∧ AllC p j = true := by
  unfold AllC at *
  rw [toList_add, List.all_append, Bool.and_eq_true] at h
  exact h
theorem allC_cut {p : Nat → Bool} {z : Str} {lo hi : Option Int} (h : AllC p z = true) : AllC p (cutS z lo hi) = true := by
  unfold AllC at *
  rw [List.all_eq_true] at h ⊢
  intro c hc
  refine h c ?_
  unfold cutS at hc
  simp only at hc
  exact List.mem_of_mem_drop (List.mem_of_mem_take hc)
theorem len_cut (z : Str) (lo hi : Option Int) : (cutS z lo hi).length ≤ z.length := by
  show (cutS z lo hi).cps.size ≤ z.cps.size
  unfold cutS
  simp only [List.size_toArray, List.length_take, List.length_drop, Array.length_toList]
  have : z.length = z.cps.size := rfl
  omega
theorem allC_at {p : Nat → Bool} {z : Str} {i : Nat} {c : Nat} (h : AllC p z = true) (e : z.cps.toList[i]? = some c) : AllC p ⟨#[c]⟩ = true := by
  unfold AllC at *
  rw [List.all_eq_true] at h
  have := h c (List.mem_of_getElem? e)
  simp [this]
theorem allC_mono {p q : Nat → Bool} {s : Str} (h : AllC p s = true) (f : ∀ c, p c = true → q c = true) : AllC q s = true := by
  unfold AllC at *
  rw [List.all_eq_true] at h ⊢
  exact fun c hc => f c (h c hc)
def okC : Nat → Bool := fun c => decide (c < 0x110000)
theorem lay_str {s : Str} (h : AllC okC s = true) : PyData.canLay0 (.str s) = true := by
  have h2 : s.cps.all (fun c => decide (c < 0x110000)) = true := by
    rw [← Array.all_toList]
    exact h
  simpa only [PyData.canLay0, PyData.strOk] using h2
/-! tuples some times over -/
theorem tup_times1 (l : Addr) (items : Array Value) (n : Nat) (dd : Option Addr) (sl : Array (Option Value)) (u : Tok) :
    Meets (Builtin.«tuple.__mul__» ⟨[.ref l, .int 1 u], []⟩) (fun _ R s => s.heap.get? l = some { cls := .type "tuple", dict := dd, data := .seq items n, slots := sl } ∧ R (.ok (.ret (.ref l))) s) :=
  .of_wp fun prog w A R s h => by
    obtain ⟨hp, g, d, tk, os⟩ := s
    obtain ⟨hl, h⟩ := h
    have f1 := AutoSeq1.idx_int
    wp_walk using wpAny_loadPart' hl
    exact ⟨_, rfl, h⟩
def nRepT (K : PySem.W.Frag) : R2 := fun x y H Q => ∃ (l : Addr) (k : Int) (xs : List V), x = .ref l ∧ y = .int k ∧ SqT K H l xs ∧ xs ≠ [] ∧ xs.length ≤ 1000 ∧ ((k = 1 ∧ Q (.ref l) H) ∨ (2 ≤ k ∧ k ≤ 1000 ∧ ∀ p, H p = none → Q (.ref p) (upd H p (.tup (List.replicate k.toNat xs).flatten))))
theorem op_nRepT : OpR X (binaryOp .Mult) (nRepT X.K) := by
  intro pins s σ H x y v u Q I rx ry h
  obtain ⟨l, k, xs, rfl, rfl, hT, hne, hz, q⟩ := h
  rcases q with ⟨rfl, q⟩ | ⟨h1, h2, q⟩
  · cases rx
    obtain ⟨t, rfl⟩ := ry
    obtain ⟨its, r, ⟨⟨cls, dd, data, sl⟩, ho, hc, n, hd⟩, hs⟩ := I.tuple hT
    simp only at hc hd
    subst hc hd
    exact wpAny_binaryOp_repeat_ref (T := "tuple") (U := "int") (by decide) ⟨_, ho, rfl⟩ (fun s' => typeIs_int s' 1 t) noFill_tuple_mul PySem.F.fills_int_mul PySem.F.slot_int_rmul repeat_tuple PySem.F.slot_int_index.lookup
      (call_meets PySem.F.slot_int_rmul (typeIs_int s 1 t) PySem.F.entry_int_rmul (PySem.F.args_int_rmul_2 _ _) (int_rmul_tuple 1 t l its.toArray n dd sl)
        ⟨ho, rfl, ⟨_, ho, rfl⟩, call_meets PySem.F.slot_tuple_mul ⟨_, ho, rfl⟩ PySem.F.entry_tuple_mul (PySem.F.args_tuple_mul_2 _ _) (tup_times1 l its.toArray n dd sl t) ⟨ho, ⟨.ref l, H, I, rfl, q⟩⟩⟩)
  · exact op_repT pins s σ H _ _ v u Q I rx ry ⟨l, k, xs, rfl, rfl, hT, hne, h1, h2, hz, q⟩
theorem k_repT (e : X.K = K) : OpR X (binaryOp .Mult) (nRepT K) := e ▸ op_nRepT
/-! more of dicts -/
def rGet1 (R : VK) (a : Addr) : VK := fun y H2 => ∃ o, DGet H2 a y o ∧ R (o.getD .non) H2
def rGetD (x : V) (ty : TE) (σ : L2.St) (Q : VK) : Hp → Prop := fun H1 => ∃ a, x = .ref a ∧ IsD H1 a ∧ ty σ H1 (rGet1 Q a)
theorem x_dget1 {td ty : TE} {σ : L2.St} (q : td σ H fun x H1 => rGetD x ty σ Q H1) : tDGet1 td ty σ H Q := q
theorem x_rGetD {ty : TE} {σ : L2.St} {kvs : List (Key × V)} (h : H a = some (.dK kvs)) (q : ty σ H (rGet1 Q a)) : rGetD (.ref a) ty σ Q H := ⟨a, rfl, .inl ⟨kvs, .inl h⟩, q⟩
theorem x_rGet1 {kvs : List (Key × V)} {k : Str} (h : H a = some (.dK kvs)) (q : Q ((valV kvs (Sum.inr k)).getD .non) H) : rGet1 Q a (.str k) H := ⟨_, (DGet.k (k := Sum.inr k) h : DGet H a (kV (Sum.inr k)) (valV kvs (Sum.inr k))), q⟩
def rGet2 (R : VK) (a : Addr) (y z : V) : Hp → Prop := fun H3 => ∃ o, DGet H3 a y o ∧ R (o.getD z) H3
def rGetE (x : V) (ty tx : TE) (σ : L2.St) (Q : VK) : Hp → Prop := fun H1 => ∃ a, x = .ref a ∧ IsD H1 a ∧ ty σ H1 fun y H2 => tx σ H2 fun z H3 => rGet2 Q a y z H3
theorem x_dget2 {td ty tx : TE} {σ : L2.St} (q : td σ H fun x H1 => rGetE x ty tx σ Q H1) : tDGet2 td ty tx σ H Q := q
theorem x_rGetE {ty tx : TE} {σ : L2.St} {kvs : List (Key × V)} (h : H a = some (.dK kvs)) (q : ty σ H fun y H2 => tx σ H2 fun z H3 => rGet2 Q a y z H3) : rGetE (.ref a) ty tx σ Q H := ⟨a, rfl, .inl ⟨kvs, .inl h⟩, q⟩
theorem x_rGet2 {kvs : List (Key × V)} {k : Str} {z : V} (h : H a = some (.dK kvs)) (q : Q ((valV kvs (Sum.inr k)).getD z) H) : rGet2 Q a (.str k) z H := ⟨_, (DGet.k (k := Sum.inr k) h : DGet H a (kV (Sum.inr k)) (valV kvs (Sum.inr k))), q⟩
def rPop1 (R : VK) (a : Addr) : VK := fun y H2 => ∃ (kvs : List (Key × V)) (k : Key) (v : V), H2 a = some (.dK kvs) ∧ y = kV k ∧ valV kvs k = some v ∧ R v (upd H2 a (.dK (dropK kvs k)))
def rPopD (x : V) (ty : TE) (σ : L2.St) (Q : VK) : Hp → Prop := fun H1 => ∃ a, x = .ref a ∧ IsD H1 a ∧ ty σ H1 (rPop1 Q a)
theorem x_dpop1 {td ty : TE} {σ : L2.St} (q : td σ H fun x H1 => rPopD x ty σ Q H1) : tDPop1 td ty σ H Q := q
theorem x_rPopD {ty : TE} {σ : L2.St} {kvs : List (Key × V)} (h : H a = some (.dK kvs)) (q : ty σ H (rPop1 Q a)) : rPopD (.ref a) ty σ Q H := ⟨a, rfl, .inl ⟨kvs, .inl h⟩, q⟩
theorem x_rPop1 {kvs : List (Key × V)} {k : Str} {v : V} (h : H a = some (.dK kvs)) (e : valV kvs (Sum.inr k) = some v) (q : Q v (upd H a (.dK (dropK kvs (Sum.inr k))))) : rPop1 Q a (.str k) H := ⟨kvs, Sum.inr k, v, h, rfl, e, q⟩
def rPop2 (R : VK) (a : Addr) (y z : V) : Hp → Prop := fun H3 => ∃ (kvs : List (Key × V)) (k : Key), H3 a = some (.dK kvs) ∧ y = kV k ∧ (∀ v, valV kvs k = some v → R v (upd H3 a (.dK (dropK kvs k)))) ∧ (valV kvs k = none → R z H3)
def rPopE (x : V) (ty tx : TE) (σ : L2.St) (Q : VK) : Hp → Prop := fun H1 => ∃ a, x = .ref a ∧ IsD H1 a ∧ ty σ H1 fun y H2 => tx σ H2 fun z H3 => rPop2 Q a y z H3
theorem x_dpop2 {td ty tx : TE} {σ : L2.St} (q : td σ H fun x H1 => rPopE x ty tx σ Q H1) : tDPop2 td ty tx σ H Q := q
theorem x_rPopE {ty tx : TE} {σ : L2.St} {kvs : List (Key × V)} (h : H a = some (.dK kvs)) (q : ty σ H fun y H2 => tx σ H2 fun z H3 => rPop2 Q a y z H3) : rPopE (.ref a) ty tx σ Q H := ⟨a, rfl, .inl ⟨kvs, .inl h⟩, q⟩
theorem x_rPop2 {kvs : List (Key × V)} {k : Str} {z : V} (h : H a = some (.dK kvs)) (q1 : ∀ v, valV kvs (Sum.inr k) = some v → Q v (upd H a (.dK (dropK kvs (Sum.inr k))))) (q2 : valV kvs (Sum.inr k) = none → Q z H) : rPop2 Q a (.str k) z H := ⟨kvs, Sum.inr k, h, rfl, q1, q2⟩
def rDInK (y : V) (Q : VK) : VK := fun x H2 => ∃ a o, x = .ref a ∧ DGet H2 a y o ∧ Q (.bl o.isSome) H2
theorem x_din {ty td : TE} {σ : L2.St} (q : ty σ H fun y H1 => td σ H1 (rDInK y Q)) : tDIn ty td σ H Q := q
theorem x_rDInK {kvs : List (Key × V)} {k : Str} (h : H a = some (.dK kvs)) (q : Q (.bl (valV kvs (Sum.inr k)).isSome) H) : rDInK (.str k) Q (.ref a) H := ⟨a, _, rfl, (DGet.k (k := Sum.inr k) h : DGet H a (kV (Sum.inr k)) (valV kvs (Sum.inr k))), q⟩
theorem x_dnew {σ : L2.St} (k : ∀ p H2, Fr p H → Same H H2 → H2 p = some (.dK []) → Q (.ref p) H2) : tDNewK σ H Q := fun p hp => k p _ ⟨hp⟩ (same_new hp) upd_same
theorem x_notBl {b c : Bool} (q : Q (.bl (!decide (b = c))) H) : rNotB (.bl b) (.bl c) H Q := ⟨b, c, rfl, rfl, q⟩
theorem x_isBl {b c : Bool} (q : Q (.bl (decide (b = c))) H) : rIsB (.bl b) (.bl c) H Q := ⟨b, c, rfl, rfl, q⟩
theorem cut_whole {xs : List V} {lo hi : Option Int} (h : HT.sIx xs.length 0 lo = 0 ∧ HT.sIx xs.length xs.length hi = xs.length) : cutV xs lo hi = xs := by
  unfold cutV
  rw [h.1, h.2]
  simp
theorem x_slA {xs : List V} {lo hi : Option Int} (h : H a = some (.tup xs)) (k : ∀ p H', Same H H' → H' p = some (.tup (cutV xs lo hi)) → Q (.ref p) H') : rSlA K (.ref a) lo hi H Q :=
  ⟨a, xs, rfl, st_of h, fun e => k a H (Same.refl _) (by rw [cut_whole e]; exact h), fun _ p hp => k p _ (same_new hp) upd_same⟩
theorem x_catB {xs ys : List V} (h : H a = some (.tup xs)) (h' : H b = some (.tup ys)) (hz : xs.length + ys.length ≤ 100000) (k : ∀ p H', Same H H' → H' p = some (.tup (xs ++ ys)) → Q (.ref p) H') : rCatA K (.ref a) (.ref b) H Q :=
  ⟨a, b, xs, ys, rfl, rfl, st_of h, st_of h', size_ok hz, fun e => k b H (Same.refl _) (by rw [e]; exact h'), fun _ e => k a H (Same.refl _) (by rw [e, List.append_nil]; exact h), fun _ _ p hp => k p _ (same_new hp) upd_same⟩
theorem x_repB {xs : List V} {n : Int} (h : H a = some (.tup xs)) (hne : xs ≠ []) (hz : xs.length ≤ 1000) (hn : 1 ≤ n ∧ n ≤ 1000) (k : ∀ p H', Same H H' → H' p = some (.tup (List.replicate n.toNat xs).flatten) → Q (.ref p) H') : nRepT K (.ref a) (.int n) H Q := by
  refine ⟨a, n, xs, rfl, rfl, st_of h, hne, hz, ?_⟩
  by_cases e : n = 1
  · subst e
    refine .inl ⟨rfl, k a H (Same.refl _) ?_⟩
    rw [h]
    simp
  · exact .inr ⟨by omega, hn.2, fun p hp => k p _ (same_new hp) upd_same⟩
theorem repS_len {z : Str} {n : Int} (h : 2 ≤ n) (hz : 1 ≤ z.length) : (repS z n).length = n.toNat * z.length := by
  unfold repS
  rw [if_neg (by omega), if_neg]
  · show ((List.replicate n.toNat z.cps).foldl (· ++ ·) #[]).size = _
    rw [PySem.size_reps]
    show 0 + n.toNat * z.cps.size = n.toNat * z.length
    rw [Nat.zero_add]
    rfl
  · rw [Bool.or_eq_true, beq_iff_eq, beq_iff_eq]
    omega
end
/-- a def with defaults that lets nothing out -/
theorem okD {P : Program} {w : World} {K : PySem.W.Frag} {mg : Str → Option Value} {base : Heap} {x qual : Str} {pr : Arguments} {body : List Stmt} {sc : Scope} {dvs : List V} {kws : List (Str × V)} {f : Addr} {fd : FuncData} {N ps : List Str} {k : Nat} {sp : Sp}
    (F : FunD K x qual pr body sc dvs kws f fd) (S : FnScope N ps sc) (len : ∀ vs H Q E, sp vs H Q E → vs.length = ps.length)
    (hb : ∀ (cdv : Value) (A : Around) (outer : List Env) (s : Shared) (H : Hp) (vs : List V) (Q : VK) (E : XK), Room k (A.deeper (envOfC qual sc s.heap.objs.size f cdv)) → sp vs H Q E →
      ∃ t, PSs (cxOf CX0 P w K mg base N qual sc f cdv A outer s H E).nox body t ∧ t { nx := fun _ H' => Q .non H', rt := Q } (start N vs) H) : FnOk P w K mg base CX0 (k + 1) f fd ps sp :=
  F.ok S len fun cdv A outer s H vs Q E hr h => by
    obtain ⟨t, h1, q⟩ := hb cdv A outer s H vs Q E hr h
    exact ⟨t, h1.nox, q⟩
theorem funD_mk {K : PySem.W.Frag} {x qual : Str} {st : Stmt} {f dT : Addr} {oc : Value} {od an : Option Addr} {osl : Array (Option Value)} {kV doc pm cdv ct : Value} {dvs : List V} {o : Obj} {its : List Value} {n : Nat}
    (l : K.lookup f = some ⟨oc, od, .func (PySem.W.fnOf x qual (defArgs st) (defBody st) (defScope st) (.ref dT) kV doc pm an cdv ct), osl⟩) (c : PySem.W.codeIn K cdv qual = true) (k : PySem.W.keepIn K (.ref f) = true)
    (hd : dvs ≠ []) (lT : K.lookup dT = some o) (oT : o.data = .seq its.toArray n) (r : Vals dvs its) :
    FunD K x qual (defArgs st) (defBody st) (defScope st) dvs [] f (PySem.W.fnOf x qual (defArgs st) (defBody st) (defScope st) (.ref dT) kV doc pm an cdv ct) :=
  ⟨⟨oc, od, .ref dT, kV, doc, pm, an, cdv, ct, osl, rfl, l, c, .inr ⟨hd, dT, o, its, n, rfl, lT, oT, r⟩, .inl rfl⟩, k⟩
/-- dict(d) -/
def rDictD (xs : List V) (H : Hp) (Q : VK) : Prop := ∃ (a : Addr) (kvs : List (Key × V)), xs = [.ref a] ∧ Rd H a (.dK kvs) ∧ ∀ p, H p = none → Q (.ref p) (upd H p (.dK kvs))
theorem k_dictD {X : Cx} : CallR X (.type "dict") rDictD := call_dictD
theorem x_rDictD {a : Addr} {H : Hp} {Q : VK} {kvs : List (Key × V)} (h : H a = some (.dK kvs)) (k : ∀ p H2, Fr p H → Same H H2 → H2 p = some (.dK kvs) → Q (.ref p) H2) : rDictD [.ref a] H Q := ⟨a, kvs, rfl, .inl h, x_new1 k⟩
end Xk
/-! zip of a tuple and a list -/
namespace Xk
open PySem PySem.Spec PyProof.Rows L2
/-- a tuple at p and a list at q, side by side -/
def ItTL (K : PySem.W.Frag) (p q : Addr) : It where
  go := fun n H => ∃ (us vs : List V) (u v : V), SqT K H p us ∧ SqL K H q vs ∧ us[n]? = some u ∧ vs[n]? = some v
  yld := fun n H r H' => ∃ T u v, r = .ref T ∧ H T = none ∧ H' = upd H T (.tup [u, v]) ∧ (∀ us, SqT K H p us → us[n]? = some u) ∧ ∀ vs, SqL K H q vs → vs[n]? = some v
  stop := fun n H => ∃ us vs : List V, SqT K H p us ∧ SqL K H q vs ∧ n ≤ us.length ∧ n ≤ vs.length ∧ (n = us.length ∨ n = vs.length)
/-- what stands behind such an iterator -/
def AtTL (z t o i j p q : Addr) (n : Nat) (h : Heap) : Prop :=
  IsZip h z t o .none ∧ IsPair h t (.ref i) (.ref j) ∧ (∃ u v, IsPair h o u v) ∧ h.IsTupleIter i p n ∧ h.IsListIter j q n
theorem sepTL {z t o i j p q : Addr} (D : ZipApart z t o i j p q) : ZipSep2 z t o i j [i, p] [j, q] where
  TIz := D.TIz
  TOz := D.TOz
  TITO := D.TITO
  TIi1 := D.TIi1
  mem1 := List.mem_cons_self
  zf1 := by simp [D.i1z.symm, D.l1z.symm]
  Tf1 := by simp [D.TOi1, D.l1TO.symm]
  TIi2 := D.TIi2
  mem2 := List.mem_cons_self
  zf2 := by simp [D.i2z.symm, D.l2z.symm]
  Tf2 := by simp [D.TOi2, D.l2TO.symm]
  sep1_2 := by simp [D.i12, D.l2i1.symm]
  sep2_1 := by simp [D.i12.symm, D.l1i2.symm]
theorem five {c z t o i j : Addr} {P : Addr → Prop} (h : c ∈ [z, t, o, i, j]) (h1 : P z) (h2 : P t) (h3 : P o) (h4 : P i) (h5 : P j) : P c := by
  simp only [List.mem_cons, List.not_mem_nil, or_false] at h
  rcases h with rfl | rfl | rfl | rfl | rfl <;> assumption
theorem turnTL {P : Program} {w : World} {K : PySem.W.Frag} {es : List Expr} {k : Nat} {pos : Pos} {z t o i j p q : Addr} (D : ZipApart z t o i j p q) :
    Turn P w K (.Tuple es k pos) (ItTL K p q) [z, t, o, i, j] z (AtTL z t o i j p q) where
  mem := List.mem_cons_self
  obj := fun n h st c hc => by
    obtain ⟨g1, g2, ⟨u, v, g3⟩, ⟨o1, e1, _, d1⟩, ⟨o2, e2, _, d2⟩⟩ := st
    refine five (P := fun c => ∃ ob, h.get? c = some ob ∧ ∀ v, ob.data ≠ .cell v) hc ⟨_, g1, fun _ e => nomatch e⟩ ⟨_, g2, fun _ e => nomatch e⟩ ⟨_, g3, fun _ e => nomatch e⟩ ⟨o1, e1, fun x e => ?_⟩ ⟨o2, e2, fun x e => ?_⟩
    · rw [d1] at e
      cases e
    · rw [d2] at e
      cases e
  keep := fun n h h' st g => by
    obtain ⟨g1, g2, ⟨u, v, g3⟩, g4, g5⟩ := st
    exact ⟨g z (by simp) _ g1, g t (by simp) _ g2, ⟨u, v, g o (by simp) _ g3⟩, g4.at fun ob e => g i (by simp) ob e, g5.at fun ob e => g j (by simp) ob e⟩
  item := by
    intro X hP hw hK hc n pins s σ H E I hf st hg
    subst hP hw hK
    obtain ⟨g1, g2, ⟨u0, v0, g3⟩, g4, g5⟩ := st
    obtain ⟨us, vs, u, v, hus, hvs, hu, hv⟩ := hg
    obtain ⟨its, r1, p1, _⟩ := I.tuple hus
    obtain ⟨its2, r2, p2, _⟩ := I.list hvs
    obtain ⟨x, hx, rx⟩ := r1.get hu
    obtain ⟨y, hy, ry⟩ := r2.get hv
    have lt1 : n < its.toArray.size := by
      obtain ⟨b, _⟩ := List.getElem?_eq_some_iff.mp hx
      simpa using b
    have lt2 : n < its2.toArray.size := by
      obtain ⟨b, _⟩ := List.getElem?_eq_some_iff.mp hy
      simpa using b
    have hzl : z < s.heap.objs.size := Heap.lt_size g1
    have hh : X.A.in1.handled = none := I.ok.hd hc
    refine wpAny_pyNext_zipD2_item (sepTL D) (Draws.tuple hh i p D.l1i1 its.toArray) (Draws.list hh j q D.l2i2 its2.toArray) g1 g2 g3 ⟨g4, p1⟩ ⟨g5, p2.isList⟩ lt1 lt2 fun x1 y1 h' tk q1 q2 z' o' st1 st2 hT hsz hk => ?_
    have ex : x1 = x := by
      have e2 : its[n]? = some x1 := by simpa using q1
      exact Option.some.inj (e2.symm.trans hx)
    have ey : y1 = y := by
      have e2 : its2[n]? = some y1 := by simpa using q2
      exact Option.some.inj (e2.symm.trans hy)
    subst ex ey
    refine ⟨_, rfl, wpAny_letOwnedTupleGo_zip (s := { s with heap := h', toks := tk }) z' fun h2 z2 sb => ?_⟩
    have hT2 : h2.get? s.heap.objs.size = some { cls := .type "tuple", data := .seq #[x1, y1] } := (sb.2 _ (Nat.ne_of_gt hzl)).trans hT
    have new : ObjOk X.prog X.w (upd H s.heap.objs.size (.tup [u, v])) h2 s.heap.objs.size (.tup [u, v]) :=
      ⟨by show 2 ≤ sizeLine; decide, [x1, y1], .cons rx (.cons ry .nil), ⟨_, hT2, rfl, _, rfl⟩⟩
    have kept : ∀ c ob, c ∉ [z, t, o, i, j] → s.heap.get? c = some ob → h2.get? c = some ob := fun c ob nc e => by
      simp only [List.mem_cons, List.not_mem_nil, or_false, not_or] at nc
      exact (sb.2 c nc.1).trans (hk c ob nc.1 nc.2.2.1 nc.2.2.2.1 nc.2.2.2.2 e)
    have I1 : Inv X pins σ (upd H s.heap.objs.size (.tup [u, v])) { s with heap := h2, toks := tk } :=
      I.turnedNew (t' := tk) (ch := [z, t, o, i, j]) kept hf (Nat.le_refl _) new
    refine ⟨.ref s.heap.objs.size, _, I1, rfl, ⟨_, u, v, rfl, I.hok.fresh (Nat.le_refl _), rfl, fun l hl => ?_, fun l hl => ?_⟩, ⟨z2, ?_, ⟨x1, y1, ?_⟩, ?_, ?_⟩, fun c hcm => ?_⟩
    · rw [I.tuple_inj hl hus]
      exact hu
    · rw [I.list_inj hl hvs]
      exact hv
    · exact (sb.2 _ D.TIz).trans (hk t _ D.TIz D.TITO D.TIi1 D.TIi2 g2)
    · exact (sb.2 _ D.TOz).trans o'
    · exact st1.1.at fun ob e => (sb.2 _ D.i1z).trans e
    · exact st2.1.at fun ob e => (sb.2 _ D.i2z).trans e
    · have lt : c < s.heap.objs.size := by
        refine five (P := fun c => c < s.heap.objs.size) hcm hzl (Heap.lt_size g2) (Heap.lt_size g3) ?_ ?_
        · obtain ⟨_, e1, _⟩ := g4
          exact Heap.lt_size e1
        · obtain ⟨_, e1, _⟩ := g5
          exact Heap.lt_size e1
      rw [upd_ne (Nat.ne_of_lt lt)]
      exact (hf c hcm).1
  done := by
    intro X hP hw hK hc n pins s σ H E I hf st hg
    subst hP hw hK
    obtain ⟨g1, g2, ⟨u0, v0, g3⟩, g4, g5⟩ := st
    obtain ⟨us, vs, hus, hvs, le1, le2, hend⟩ := hg
    obtain ⟨its, r1, p1, _⟩ := I.tuple hus
    obtain ⟨its2, r2, p2, _⟩ := I.list hvs
    have l1 : its.toArray.size = us.length := by rw [List.size_toArray, r1.length]
    have l2 : its2.toArray.size = vs.length := by rw [List.size_toArray, r2.length]
    have hh : X.A.in1.handled = none := I.ok.hd hc
    exact wpAny_pyNext_zipD2_end (sepTL D) (Draws.tuple hh i p D.l1i1 its.toArray) (Draws.list hh j q D.l2i2 its2.toArray) g1 g2 g3 ⟨g4, p1⟩ ⟨g5, p2.isList⟩ (by omega) (by omega) (by omega) fun h' tk hk =>
      ⟨rfl, I.turnedL (t' := tk) (ch := [z, t, o, i, j]) (fun c ob nc e => by
        simp only [List.mem_cons, List.not_mem_nil, or_false, not_or] at nc
        exact hk c ob nc.1 nc.2.2.1 nc.2.2.2.1 nc.2.2.2.2 e) hf⟩
  self := fun A n s Q E st h => wpAny_pyIter_zip st.1 h
/-- zip(e, e2), e a tuple and e2 a list -/
def iTL (K : PySem.W.Frag) (ta : TA) : TI := fun σ H R => ta σ H fun vs H1 => ∃ p q us ws, vs = [.ref p, .ref q] ∧ SqT K H1 p us ∧ SqL K H1 q ws ∧ R (ItTL K p q) H1
theorem pi_TL {X : Cx} {e e2 : Expr} {ta : TA} {p1 pos tpos : Pos} {es : List Expr} {k : Nat} (hg : Gl X "zip") (hm : X.mg "zip" = none) (ha : PA X [e, e2] ta)
    (hs : starEach [e, e2] X.env = (false, eval e X.env) :: starEach [e2] X.env := by rfl) (hpl : (backTo pos (starEach [e2] X.env)).any (·.1) = false := by rfl) :
    PI X (.Tuple es k tpos) (.Call (.Name "zip" p1) [e, e2] [] pos) (iTL X.K ta) := by
  refine ⟨fun pins s σ H R I h => Call_ (ld_blt I hg hm PyProof.Rows.boot_zip (PyProof.Rows.callWith_type1 (thn (ha.run pos pins s σ H _ I h) fun us s1 ⟨vs, H1, I1, r1, q1⟩ => ?_) hs hpl))⟩
  obtain ⟨p, q, xs, ys, rfl, hx, hy, g⟩ := q1
  have e3 : us = [.ref p, .ref q] := by
    cases r1 with
    | cons a b =>
      cases b with
      | cons c d =>
        cases d
        cases a
        cases c
        rfl
  subst e3
  obtain ⟨its, rx, px, _⟩ := I1.tuple hx
  obtain ⟨its2, ry, py, _⟩ := I1.list hy
  have lp : p < s1.heap.objs.size := by
    obtain ⟨_, e1, _⟩ := id px
    exact Heap.lt_size e1
  refine zip_begins2 (begins_tuple p its.toArray) (begins_list q its2.toArray) px py.isList fun h' hz hTI hTO h1 h2 hsz hk => wpAny_pyIter_zip hz ?_
  have I2 : Inv X pins σ H1 { s1 with heap := h' } := I1.kept (t' := s1.toks) hk
  refine ⟨s1.heap.objs.size + 4, [s1.heap.objs.size + 4, s1.heap.objs.size + 2, s1.heap.objs.size + 3, s1.heap.objs.size, s1.heap.objs.size + 1], _, _, H1, rfl, I2,
    turnTL (PySem.W.ktu_apart s1.heap.objs.size p q lp py.lt), ⟨hz, hTI, ⟨_, _, hTO⟩, ⟨_, h1, rfl, rfl⟩, ⟨_, h2, rfl, rfl⟩⟩, fun c hcm => ?_, g⟩
  have le : s1.heap.objs.size ≤ c := five (P := fun c => s1.heap.objs.size ≤ c) hcm (Nat.le_add_right _ _) (Nat.le_add_right _ _) (Nat.le_add_right _ _) (Nat.le_refl _) (Nat.le_add_right _ _)
  exact I1.fpOk le (I1.hok.fresh le)
/-- a comprehension over it -/
theorem walkTL {K : PySem.W.Frag} {p q : Addr} {us vs : List V} (e : us.length = vs.length) : Walk (ItTL K p q) us.length (fun H => SqT K H p us ∧ SqL K H q vs) (YPair (fun n => us[n]?) (fun n => vs[n]?)) := by
  refine ⟨fun n _ hn g => ?_, fun _ g => ⟨us, vs, g.1, g.2, Nat.le_refl _, by omega, .inl rfl⟩, fun n H v H' _ g y => ?_⟩
  · have h2 : n < vs.length := by omega
    exact ⟨us, vs, us[n], vs[n], g.1, g.2, List.getElem?_eq_getElem hn, List.getElem?_eq_getElem h2⟩
  · obtain ⟨T, x, z, h1, h2, h3, h4, h5⟩ := y
    exact ⟨T, x, z, h1, h2, h3, h4 us g.1, h5 vs g.2⟩
end Xk
section
open PySem PySem.Spec PyProof.Rows L2
namespace Xk
variable {K : PySem.W.Frag} {σ : L2.St} {H : Hp} {Q : VK} {te : TE} {g : TG} {t : TT} {X : Cx}
theorem k_TL {e e2 : Expr} {ta : TA} {p1 pos tpos : Pos} {es : List Expr} {k : Nat} (hk : X.K = K) (hg : Gl X "zip") (hm : X.mg "zip" = none) (ha : PA X [e, e2] ta)
    (hs : starEach [e, e2] X.env = (false, eval e X.env) :: starEach [e2] X.env := by rfl) (hpl : (backTo pos (starEach [e2] X.env)).any (·.1) = false := by rfl) :
    PI X (.Tuple es k tpos) (.Call (.Name "zip" p1) [e, e2] [] pos) (iTL K ta) := hk ▸ pi_TL hg hm ha hs hpl
def rLcZ (K : PySem.W.Frag) (g : TG) (tt : TT) (te : TE) (vs : List Nat) (σ : L2.St) (Q : VK) : List V → Hp → Prop := fun zs H1 => ∃ p q us ws, zs = [.ref p, .ref q] ∧ SqT K H1 p us ∧ SqL K H1 q ws ∧ RLc (ItTL K p q) g tt te vs σ Q H1
theorem x_lcZ1 {tr : TA} {vs : List Nat} (q : tr σ H (rLcZ K g t te vs σ Q)) : tLc (iTL K tr) g t te vs σ H Q := q
theorem x_lcZ {a b : Addr} {us ws : List V} {vs : List Nat} (Pv : Addr → Nat → Hp → Prop) (e : us.length = ws.length) (hx : SqT K H a us) (hy : SqL K H b ws) (h0 : ∀ Dl, Fr Dl H → Pv Dl 0 (upd H Dl (.lst [])))
    (hl : ∀ Dl i H', Fr Dl H → Pv Dl i H' → SqT K H' a us ∧ SqL K H' b ws)
    (hs : ∀ Dl, Fr Dl H → ∀ i x y H1 T H', us[i]? = some x → ws[i]? = some y → Pv Dl i H1 → Fr T H1 → Same H1 H' → H' T = some (.tup [x, y]) → g (.ref T) (wipe σ vs) H' fun σ2 H2 => wipe σ2 vs = wipe σ vs ∧ t σ2 H2 fun c H3 =>
      if c = true then te σ2 H3 fun y H4 => ∃ acc, H4 Dl = some (.lst acc) ∧ acc.length < sizeLine ∧ Pv Dl (i + 1) (upd H4 Dl (.lst (acc ++ [y]))) else Pv Dl (i + 1) H3)
    (hd : ∀ Dl H', Fr Dl H → Pv Dl us.length H' → Q (.ref Dl) H') : rLcZ K g t te vs σ Q [.ref a, .ref b] H := ⟨a, b, us, ws, rfl, hx, hy, fun Dl hD =>
  lc_it (walkTL e) (Pv Dl) (h0 Dl ⟨hD⟩) (fun i H' _ p => hl Dl i H' ⟨hD⟩ p) (fun i x H1 H' hi p y => by
    obtain ⟨T, u, v, rfl, hT, rfl, e1, e2⟩ := y
    exact hs Dl ⟨hD⟩ i u v H1 T _ e1 e2 p ⟨hT⟩ (same_new hT) upd_same) (fun H' p => hd Dl H' ⟨hD⟩ p)⟩
/-- texts in order -/
def nLtS : R2 := fun x y H Q => ∃ i j, x = .str i ∧ y = .str j ∧ Q (.bl (decide (i.cps.toList < j.cps.toList))) H
def nLeS : R2 := fun x y H Q => ∃ i j, x = .str i ∧ y = .str j ∧ Q (.bl (!decide (j.cps.toList < i.cps.toList))) H
theorem op_nLtS : OpR X (compareOp .Lt) nLtS := op_lt_str
theorem op_nLeS : OpR X (compareOp .LtE) nLeS := op_le_str
def rPar (i j : Nat) (σ : L2.St) (R : L2.St → Hp → Prop) : List V → Hp → Prop := fun vs H1 => ∃ v w, vs = [v, w] ∧ R ((σ.set i (some v)).set j (some w)) H1
theorem x_spar {i j : Nat} {ta : TA} {tz : TS} {D : Ends} (q : ta σ H (rPar i j σ (tz D))) : tSeq (tPar i j ta) tz D σ H := q
theorem x_par {i j : Nat} {ta : TA} {D : Ends} (q : ta σ H (rPar i j σ D.nx)) : tPar i j ta D σ H := q
theorem x_rPar {i j : Nat} {R : L2.St → Hp → Prop} {v u : V} (q : R ((σ.set i (some v)).set j (some u)) H) : rPar i j σ R [v, u] H := ⟨v, u, rfl, q⟩
def nGeS : R2 := fun x y H Q => ∃ i j, x = .str i ∧ y = .str j ∧ Q (.bl (!decide (i.cps.toList < j.cps.toList))) H
theorem op_nGeS : OpR X (compareOp .GtE) nGeS := op_ge_str
theorem x_nGeS {i j : Str} (q : Q (.bl (!decide (i.cps.toList < j.cps.toList))) H) : nGeS (.str i) (.str j) H Q := ⟨i, j, rfl, rfl, q⟩
theorem x_nLtS {i j : Str} (q : Q (.bl (decide (i.cps.toList < j.cps.toList))) H) : nLtS (.str i) (.str j) H Q := ⟨i, j, rfl, rfl, q⟩
theorem x_nLeS {i j : Str} (q : Q (.bl (!decide (j.cps.toList < i.cps.toList))) H) : nLeS (.str i) (.str j) H Q := ⟨i, j, rfl, rfl, q⟩
theorem x_ext {l b : Addr} {xs zs : List V} (h : H l = some (.lst xs)) (h' : H b = some (.lst zs)) (hz : xs.length + zs.length ≤ 100000) (q : Q .non (upd H l (.lst (xs ++ zs)))) : rExtend (.ref l) [.ref b] H Q := ⟨l, b, xs, zs, rfl, rfl, h, h', size_ok hz, q⟩
theorem x_sortS {a : Addr} {xs : List Str} (h : SqL K H a (xs.map V.str)) (hl : xs.length < 64) (k : ∀ p H2 (ys : List Str), ys.Perm xs → sortedS ys = true → Fr p H → Same H H2 → H2 p = some (.lst (ys.map V.str)) → Q (.ref p) H2) : rSortedS K [.ref a] H Q :=
  ⟨a, xs, rfl, h, hl, fun ys p h1 h2 hp => k p _ ys h1 h2 ⟨hp⟩ (same_new hp) upd_same⟩
end Xk
end
namespace Xk
open PySem PySem.Spec PyProof.Rows L2
theorem k_fld {X : Cx} {K : PySem.W.Frag} {e : Expr} {f : Str} {pos : Pos} {ta : TE} (hk : X.K = K) (he : PE X e ta) (hb : attributeBase e f X.env (eval e X.env) = eval e X.env) : PE X (.Attribute e f pos) (tFld K ta f) := hk ▸ pe_fld he hb
end Xk
namespace Xk
open PySem PySem.Spec PyProof.Rows L2
def rSubSl (x v : V) (l u : Option Int) (σ : L2.St) (R : L2.St → Hp → Prop) : Hp → Prop := fun H3 => ∃ (a b : Addr) (xs ys : List V) (i j : Int), x = .ref a ∧ v = .ref b ∧ l = some i ∧ u = some j ∧
  H3 a = some (.lst xs) ∧ H3 b = some (.lst ys) ∧ a ≠ b ∧ 0 ≤ i ∧ i ≤ j ∧ j ≤ xs.length ∧ xs.length + ys.length ≤ sizeLine ∧ R σ (upd H3 a (.lst (xs.take i.toNat ++ ys ++ xs.drop j.toNat)))
theorem x_gSubSl {to : TE} {tl th : TO} {v : V} {σ : L2.St} {H : Hp} {R : L2.St → Hp → Prop} (q : to σ H fun x H1 => tl σ H1 fun l H2 => th σ H2 fun u H3 => rSubSl x v l u σ R H3) : gSubSl to tl th v σ H R := q
theorem x_rSubSl {a b : Addr} {xs ys : List V} {i j : Int} {n m : Nat} {σ : L2.St} {H : Hp} {R : L2.St → Hp → Prop} (h : H a = some (.lst xs)) (h' : H b = some (.lst ys)) (ne : a ≠ b) (hi : i = (n : Int)) (hj : j = (m : Int)) (nm : n ≤ m) (hm : m ≤ xs.length) (hz : xs.length + ys.length ≤ 100000)
    (q : R σ (upd H a (.lst (xs.take n ++ ys ++ xs.drop m)))) : rSubSl (.ref a) (.ref b) (some i) (some j) σ R H := by
  refine ⟨a, b, xs, ys, i, j, rfl, rfl, rfl, rfl, h, h', ne, by omega, by omega, by omega, size_ok hz, ?_⟩
  rw [hi, hj, Int.toNat_natCast, Int.toNat_natCast]
  exact q
end Xk
/-! enumerate of a tuple -/
namespace Xk
open PySem PySem.Spec PyProof.Rows L2
theorem wp_ite {M : Model} {A : Around} {E : Value → Shared → Prop} {s : Shared} {α : Type} {c : Prop} [Decidable c] {a b : Sem α} {Q : α → Shared → Prop} (h1 : wpAny M A a Q E s) (h2 : wpAny M A b Q E s) : wpAny M A (if c then a else b) Q E s := by
  by_cases h : c
  · exact wpAny_ite_true (decide_eq_true h) h1
  · exact wpAny_ite_false (decide_eq_false h) h2
theorem enumT0 {prog : Program} {w : World} {A : Around} {E : Value → Shared → Prop} {R : Fin → Shared → Prop} {s : Shared} {v : Value} {o : Obj} {H : Heap → Prop} (b : Begins v o H) (h1 : H s.heap)
  (h2 : R (Fin.done (Flow.ret (Value.ref (s.heap.push o).objs.size)))
        { heap := (s.heap.push o).push { cls := Value.type "enumerate", data := Data.fields #[Value.none, Value.bool false, Value.ref s.heap.objs.size, rawInt 0, Value.none, Value.none] },
          gens := s.gens, drawn := s.drawn, toks := s.toks, os := s.os }) :
  wpAny (model prog w) A (do
      let it ← pyIter v
      let r ← Builtin.SmallTypes.newRecord (Value.type "enumerate") (Builtin.SmallTypes.ownedTupleFields ++ [it, rawInt 0, Value.none, Value.none])
      ret r) R E s := by
  refine wpAny_bind (b.iter prog w A _ s _ h1 ?_)
  refine wpAny_bind ?_
  refine wpAny_bind (wpAny_alloc' ?_)
  refine wpAny_pure ?_
  exact wpAny_pure h2
theorem enumT1 {v : Value} {o : Obj} {H : Heap → Prop} (b : Begins v o H) : Meets (Builtin.«enumerate.__new__» { pos := [.type "enumerate", v] }) fun A R s => H s.heap ∧
   R (Except.ok (Flow.ret (Value.ref (s.heap.push o).objs.size)))
        { heap := (s.heap.push o).push { cls := Value.type "enumerate", data := Data.fields #[Value.none, Value.bool false, Value.ref s.heap.objs.size, rawInt 0, Value.none, Value.none] },
          gens := s.gens, drawn := s.drawn, toks := s.toks, os := s.os } := by
  intro prog w A R s hs
  obtain ⟨h1, h2⟩ := hs
  refine wpAny_bind ?_
  refine wpAny_bind ?_
  refine wpAny_of_eq (a := true) rfl ?_
  refine wpAny_ite_false rfl ?_
  refine wpAny_bind ?_
  refine wpAny_of_eq sub_enumerate ?_
  refine wpAny_ite_false rfl ?_
  refine wpAny_pure ?_
  refine wpAny_ite_true (by decide) ?_
  refine wpAny_bind ?_
  refine wpAny_bind (wpAny_stack_any fun st => wpAny_pure ?_)
  refine wp_ite ?_ ?_
  · refine wpAny_bind ?_
    refine wpAny_of_eq (a := (v, none)) rfl ?_
    exact enumT0 b h1 h2
  · refine wpAny_bind ?_
    refine wpAny_of_eq (a := (v, none)) rfl ?_
    exact enumT0 b h1 h2
theorem enum_one {prog : Program} {w : World} {A : Around} {E : Value → Shared → Prop} {s : Shared} {v : Value} {o : Obj} {H : Heap → Prop} {Q : Value → Shared → Prop} (b : Begins v o H) (h1 : H s.heap)
  (q : ∀ h' : Heap, IsEnum h' (s.heap.objs.size + 1) s.heap.objs.size 0 Value.none → h'.get? s.heap.objs.size = some o → h'.objs.size = s.heap.objs.size + 2 → (∀ (b : Addr) (o : Obj), s.heap.get? b = some o → h'.get? b = some o) →
     Q (Value.ref (s.heap.objs.size + 1)) { heap := h', gens := s.gens, drawn := s.drawn, toks := s.toks, os := s.os }) :
  wpAny (model prog w) A (call (Value.type "enumerate") [v]) Q E s := by
  refine callType_new F.called_enumerate (by decide) (F.typeCall_enumerate_1 v) (F.newCall_enumerate_1 v) (fun obj => F.args_object_init_2 obj v) F.entry_enumerate_new (enumT1 b) ⟨h1, ?_⟩
  have e1 : (s.heap.push o).objs.size = s.heap.objs.size + 1 := by rw [Heap.size_push]
  have g : ((s.heap.push o).push { cls := Value.type "enumerate", data := Data.fields #[Value.none, Value.bool false, Value.ref s.heap.objs.size, rawInt 0, Value.none, Value.none] }).get? (s.heap.push o).objs.size = some { cls := Value.type "enumerate", data := Data.fields #[Value.none, Value.bool false, Value.ref s.heap.objs.size, rawInt 0, Value.none, Value.none] } := Heap.get?_push_size _ rfl
  refine ⟨?_, ?_⟩
  · rw [e1] at g ⊢
    exact ⟨_, g, rfl⟩
  · rw [e1] at g ⊢
    refine q _ g ?_ (by rw [Heap.size_push, Heap.size_push]) fun b' o' e => Heap.get?_push_of_some _ (Heap.get?_push_of_some _ e)
    exact Heap.get?_push_of_some _ (Heap.get?_push_size _ b.free)
/-- a tuple at a, each item with its number -/
def ItET (K : PySem.W.Frag) (a : Addr) : It where
  go := fun i H => ∃ (xs : List V) (x : V), SqT K H a xs ∧ xs[i]? = some x
  yld := fun i H v H' => ∃ T x, v = .ref T ∧ H T = none ∧ H' = upd H T (.tup [.int (i : Nat), x]) ∧ ∀ xs : List V, SqT K H a xs → xs[i]? = some x
  stop := fun i H => ∃ xs : List V, SqT K H a xs ∧ i = xs.length
theorem turnET {P : Program} {w : World} {K : PySem.W.Frag} {es : List Expr} {k : Nat} {pos : Pos} {a e it : Addr} (d1 : e ≠ it) (d2 : a ≠ it) (d3 : e ≠ a) :
    Turn P w K (.Tuple es k pos) (ItET K a) [e, it] e (fun i h => (∃ old, IsEnum h e it (i : Nat) old) ∧ h.IsTupleIter it a i) where
  mem := List.mem_cons_self
  obj := fun n h st c hc => by
    obtain ⟨⟨old, g1⟩, ⟨o1, e1, _, dd1⟩⟩ := st
    simp only [List.mem_cons, List.not_mem_nil, or_false] at hc
    rcases hc with rfl | rfl
    · exact ⟨_, g1, fun _ e => nomatch e⟩
    · refine ⟨o1, e1, fun x e => ?_⟩
      rw [dd1] at e
      cases e
  keep := fun n h h' st g => by
    obtain ⟨⟨old, g1⟩, g2⟩ := st
    exact ⟨⟨old, g e (by simp) _ g1⟩, g2.at fun ob e => g it (by simp) ob e⟩
  item := by
    intro X hP hw hK hc n pins s σ H E I hf st hg
    subst hP hw hK
    obtain ⟨⟨old, g1⟩, g2⟩ := st
    obtain ⟨us, u, hus, hu⟩ := hg
    obtain ⟨its, r1, p1, _⟩ := I.tuple hus
    obtain ⟨x, hx, rx⟩ := r1.get hu
    have lt1 : n < its.toArray.size := by
      obtain ⟨b, _⟩ := List.getElem?_eq_some_iff.mp hx
      simpa using b
    have hzl : e < s.heap.objs.size := Heap.lt_size g1
    have hil : it < s.heap.objs.size := by
      obtain ⟨_, e1, _⟩ := id g2
      exact Heap.lt_size e1
    have hh : X.A.in1.handled = none := I.ok.hd hc
    refine wpAny_pyNext_enum_itemD (Draws.tuple hh it a d2 its.toArray) g1 ⟨g2, p1⟩ lt1 d1 (by simp [d1, d3]) fun x1 h' tk q1 eo st1 hT hsz hk => ?_
    have ex : x1 = x := by
      have e2 : its[n]? = some x1 := by simpa using q1
      exact Option.some.inj (e2.symm.trans hx)
    subst ex
    refine ⟨_, rfl, wpAny_letOwnedTupleGo_enum (s := { s with heap := h', toks := tk + 1 }) eo fun h2 z2 sb => ?_⟩
    have hT2 : h2.get? s.heap.objs.size = some { cls := .type "tuple", data := .seq #[Value.int (n : Nat) tk, x1] } := (sb.2 _ (Nat.ne_of_gt hzl)).trans hT
    have new : ObjOk X.prog X.w (upd H s.heap.objs.size (.tup [.int (n : Nat), u])) h2 s.heap.objs.size (.tup [.int (n : Nat), u]) :=
      ⟨by show 2 ≤ sizeLine; decide, [Value.int (n : Nat) tk, x1], .cons (by first | exact ⟨tk, rfl⟩ | exact rfl | constructor) (.cons rx .nil), ⟨_, hT2, rfl, _, rfl⟩⟩
    have kept : ∀ c ob, c ∉ [e, it] → s.heap.get? c = some ob → h2.get? c = some ob := fun c ob nc e => by
      simp only [List.mem_cons, List.not_mem_nil, or_false, not_or] at nc
      exact (sb.2 c nc.1).trans (hk c ob nc.1 nc.2 e)
    have I1 : Inv X pins σ (upd H s.heap.objs.size (.tup [.int (n : Nat), u])) { s with heap := h2, toks := tk + 1 } :=
      I.turnedNew (t' := tk + 1) (ch := [e, it]) kept hf (Nat.le_refl _) new
    refine ⟨.ref s.heap.objs.size, _, I1, rfl, ⟨_, u, rfl, I.hok.fresh (Nat.le_refl _), rfl, fun l hl => ?_⟩, ⟨⟨_, z2⟩, ?_⟩, fun c hcm => ?_⟩
    · rw [I.tuple_inj hl hus]
      exact hu
    · exact st1.1.at fun ob e => (sb.2 _ d1.symm).trans e
    · have lt : c < s.heap.objs.size := by
        simp only [List.mem_cons, List.not_mem_nil, or_false] at hcm
        rcases hcm with rfl | rfl
        · exact hzl
        · exact hil
      rw [upd_ne (Nat.ne_of_lt lt)]
      exact (hf c hcm).1
  done := by
    intro X hP hw hK hc n pins s σ H E I hf st hg
    subst hP hw hK
    obtain ⟨⟨old, g1⟩, g2⟩ := st
    obtain ⟨us, hus, rfl⟩ := hg
    obtain ⟨its, r1, p1, _⟩ := I.tuple hus
    have l1 : its.toArray.size = us.length := by rw [List.size_toArray, r1.length]
    have hh : X.A.in1.handled = none := I.ok.hd hc
    refine wpAny_pyNext_enum_endD (Draws.tuple hh it a d2 its.toArray) g1 (by rw [l1]; exact ⟨g2, p1⟩) fun h' hk => ?_
    exact ⟨rfl, I.turnedL (t' := s.toks) (ch := [e, it]) (fun c ob nc e => by
      simp only [List.mem_cons, List.not_mem_nil, or_false, not_or] at nc
      exact hk c ob nc.2 e) hf⟩
  self := fun A n s Q E st h => wpAny_pyIter_enum st.1.choose_spec h
/-- enumerate(e), e a tuple -/
def iET (K : PySem.W.Frag) (ta : TA) : TI := fun σ H R => ta σ H fun vs H1 => ∃ p us, vs = [.ref p] ∧ SqT K H1 p us ∧ R (ItET K p) H1
theorem pi_ET {X : Cx} {e : Expr} {ta : TA} {p1 pos tpos : Pos} {es : List Expr} {k : Nat} (hg : Gl X "enumerate") (hm : X.mg "enumerate" = none) (ha : PA X [e] ta)
    (hs : starEach [e] X.env = [(false, eval e X.env)] := by rfl) (hpl : (backTo pos (starEach [] X.env)).any (·.1) = false := by rfl) :
    PI X (.Tuple es k tpos) (.Call (.Name "enumerate" p1) [e] [] pos) (iET X.K ta) := by
  refine ⟨fun pins s σ H R I h => Call_ (ld_blt I hg hm PyProof.Rows.boot_enumerate (PyProof.Rows.callWith_type1 (thn (ha.run pos pins s σ H _ I h) fun us s1 ⟨vs, H1, I1, r1, q1⟩ => ?_) hs hpl))⟩
  obtain ⟨p, xs, rfl, hx, g⟩ := q1
  have e3 : us = [.ref p] := by
    cases r1 with
    | cons a b =>
      cases b
      cases a
      rfl
  subst e3
  obtain ⟨its, rx, px, _⟩ := I1.tuple hx
  have lp : p < s1.heap.objs.size := by
    obtain ⟨_, e1, _⟩ := id px
    exact Heap.lt_size e1
  refine enum_one (begins_tuple p its.toArray) px fun h' hz h1 hsz hk => wpAny_pyIter_enum hz ?_
  have I2 : Inv X pins σ H1 { s1 with heap := h' } := I1.kept (t' := s1.toks) hk
  refine ⟨s1.heap.objs.size + 1, [s1.heap.objs.size + 1, s1.heap.objs.size], _, _, H1, rfl, I2,
    turnET (Nat.succ_ne_self _) (Nat.ne_of_lt lp) (Nat.ne_of_gt (Nat.lt_succ_of_lt lp)), ⟨⟨_, hz⟩, ⟨_, h1, rfl, rfl⟩⟩, fun c hcm => ?_, g⟩
  have le : s1.heap.objs.size ≤ c := by
    simp only [List.mem_cons, List.not_mem_nil, or_false] at hcm
    rcases hcm with rfl | rfl
    · exact Nat.le_add_right _ _
    · exact Nat.le_refl _
  exact I1.fpOk le (I1.hok.fresh le)
/-- a comprehension over it -/
theorem walkET {K : PySem.W.Frag} {p : Addr} {us : List V} : Walk (ItET K p) us.length (fun H => SqT K H p us) (YPair (fun n => some (.int (n : Nat))) (fun n => us[n]?)) := by
  refine ⟨fun n _ hn g => ?_, fun _ g => ⟨us, g, rfl⟩, fun n H v H' _ g y => ?_⟩
  · exact ⟨us, us[n], g, List.getElem?_eq_getElem hn⟩
  · obtain ⟨T, x, h1, h2, h3, h4⟩ := y
    exact ⟨T, _, x, h1, h2, h3, rfl, h4 us g⟩
end Xk
section
open PySem PySem.Spec PyProof.Rows L2
namespace Xk
variable {K : PySem.W.Frag} {σ : L2.St} {H : Hp} {Q : VK} {te : TE} {g : TG} {t : TT} {X : Cx}
theorem k_ET {e : Expr} {ta : TA} {p1 pos tpos : Pos} {es : List Expr} {k : Nat} (hk : X.K = K) (hg : Gl X "enumerate") (hm : X.mg "enumerate" = none) (ha : PA X [e] ta)
    (hs : starEach [e] X.env = [(false, eval e X.env)] := by rfl) (hpl : (backTo pos (starEach [] X.env)).any (·.1) = false := by rfl) :
    PI X (.Tuple es k tpos) (.Call (.Name "enumerate" p1) [e] [] pos) (iET K ta) := hk ▸ pi_ET hg hm ha hs hpl
def rLcET (K : PySem.W.Frag) (g : TG) (tt : TT) (te : TE) (vs : List Nat) (σ : L2.St) (Q : VK) : List V → Hp → Prop := fun zs H1 => ∃ p us, zs = [.ref p] ∧ SqT K H1 p us ∧ RLc (ItET K p) g tt te vs σ Q H1
theorem x_lcET1 {tr : TA} {vs : List Nat} (q : tr σ H (rLcET K g t te vs σ Q)) : tLc (iET K tr) g t te vs σ H Q := q
theorem x_lcET {a : Addr} {us : List V} {vs : List Nat} (Pv : Addr → Nat → Hp → Prop) (hx : SqT K H a us) (h0 : ∀ Dl, Fr Dl H → Pv Dl 0 (upd H Dl (.lst [])))
    (hl : ∀ Dl i H', Fr Dl H → Pv Dl i H' → SqT K H' a us)
    (hs : ∀ Dl, Fr Dl H → ∀ i x H1 T H', us[i]? = some x → Pv Dl i H1 → Fr T H1 → Same H1 H' → H' T = some (.tup [.int (i : Nat), x]) → g (.ref T) (wipe σ vs) H' fun σ2 H2 => wipe σ2 vs = wipe σ vs ∧ t σ2 H2 fun c H3 =>
      if c = true then te σ2 H3 fun y H4 => ∃ acc, H4 Dl = some (.lst acc) ∧ acc.length < sizeLine ∧ Pv Dl (i + 1) (upd H4 Dl (.lst (acc ++ [y]))) else Pv Dl (i + 1) H3)
    (hd : ∀ Dl H', Fr Dl H → Pv Dl us.length H' → Q (.ref Dl) H') : rLcET K g t te vs σ Q [.ref a] H := ⟨a, us, rfl, hx, fun Dl hD =>
  lc_it walkET (Pv Dl) (h0 Dl ⟨hD⟩) (fun i H' _ p => hl Dl i H' ⟨hD⟩ p) (fun i x H1 H' hi p y => by
    obtain ⟨T, u, v, rfl, hT, rfl, e1, e2⟩ := y
    cases Option.some.inj e1
    exact hs Dl ⟨hD⟩ i v H1 T _ e2 p ⟨hT⟩ (same_new hT) upd_same) (fun H' p => hd Dl H' ⟨hD⟩ p)⟩
end Xk
end
/-! dict comprehensions over a tuple -/
section
open PySem PySem.Spec PyProof.Rows L2
namespace Xk
variable {K : PySem.W.Frag} {σ : L2.St} {H : Hp} {Q : VK} {tk tv : TE} {g : TG} {t : TT}
def RDc (J : It) (g : TG) (tt : TT) (tk tv : TE) (vs : List Nat) (σ : L2.St) (Q : VK) : Hp → Prop := fun H1 => ∀ D, H1 D = none → ∃ W : Nat → Nat → Hp → Prop, (∃ m, W 0 m (upd H1 D (.dK []))) ∧ ∀ i m H, W i m H →
  (J.stop i H ∧ Q (.ref D) H) ∨ (J.go i H ∧ ∃ Nx : Hp → Prop, (∀ H', Nx H' → ∃ m', m' < m ∧ W (i + 1) m' H') ∧ ∀ x H', J.yld i H x H' → g x (wipe σ vs) H' fun σ2 H2 => wipe σ2 vs = wipe σ vs ∧ tt σ2 H2 fun b H3 =>
    if b = true then tk σ2 H3 fun y H4 => tv σ2 H4 fun z H5 => ∃ kvs k, y = kV k ∧ H5 D = some (.dK kvs) ∧ kvs.length < sizeLine ∧ Nx (upd H5 D (.dK (putK kvs k z))) else Nx H3)
def rDcT (K : PySem.W.Frag) (g : TG) (tt : TT) (tk tv : TE) (vs : List Nat) (σ : L2.St) (Q : VK) : VK := fun x H1 => ∃ a, x = .ref a ∧ (∃ xs, SqT K H1 a xs) ∧ RDc (Itt K a) g tt tk tv vs σ Q H1
theorem x_dcT1 {tx : TE} {vs : List Nat} (q : tx σ H (rDcT K g t tk tv vs σ Q)) : tDc (iTup K tx) g t tk tv vs σ H Q := q
theorem x_dcT {a : Addr} {xs : List V} {vs : List Nat} (Pv : Addr → Nat → Hp → Prop) (hx : SqT K H a xs) (h0 : ∀ Dl, Fr Dl H → Pv Dl 0 (upd H Dl (.dK []))) (hl : ∀ Dl i H', Fr Dl H → Pv Dl i H' → SqT K H' a xs)
    (hs : ∀ Dl, Fr Dl H → ∀ i x H', xs[i]? = some x → Pv Dl i H' → g x (wipe σ vs) H' fun σ2 H2 => wipe σ2 vs = wipe σ vs ∧ t σ2 H2 fun b H3 =>
      if b = true then tk σ2 H3 fun y H4 => tv σ2 H4 fun z H5 => ∃ kvs k, y = kV k ∧ H5 Dl = some (.dK kvs) ∧ kvs.length < sizeLine ∧ Pv Dl (i + 1) (upd H5 Dl (.dK (putK kvs k z))) else Pv Dl (i + 1) H3)
    (hd : ∀ Dl H', Fr Dl H → Pv Dl xs.length H' → Q (.ref Dl) H') : rDcT K g t tk tv vs σ Q (.ref a) H := ⟨a, rfl, ⟨xs, hx⟩, fun Dl hD =>
  dc_tup (xs := xs) (Pv Dl) (h0 Dl ⟨hD⟩) (fun i H' _ p => hl Dl i H' ⟨hD⟩ p) (fun i x H' hi p => hs Dl ⟨hD⟩ i x H' hi p) (fun H' p => hd Dl H' ⟨hD⟩ p)⟩
end Xk
end
namespace Xk
open PySem PySem.Spec PyProof.Rows L2
section
variable {X : Cx}
/-- sorted(xs) of a list of data of one shape -/
def rSortX (K : PySem.W.Frag) : List V → Hp → VK → Prop := fun vs H Q => ∃ (a : Addr) (bs : List (V × PyData)), vs = [V.ref a] ∧ SqL K H a (bs.map (·.1)) ∧ (∀ b ∈ bs, Dp K H b.1 b.2 ∧ b.2.depth ≤ 9) ∧
  PySem.W.AllAlike (bs.map (·.2)) ∧ PySem.W.Sortable (bs.map (·.2)) ∧ ∀ p, H p = none → Q (.ref p) (upd H p (.lst ((bs.mergeSort (PySem.W.dataLe false (·.2))).map (·.1))))
theorem eachV {R : Value → PyData → Prop} : ∀ {its : List Value} {bs : List (V × PyData)}, Vals (bs.map (·.1)) its → (∀ b ∈ bs, ∀ u, RelV b.1 u → R u b.2) → PySem.W.EachIs (fun u (b : V × PyData) => RelV b.1 u ∧ R u b.2) its bs
  | its, [], h, _ => by cases h; exact .nil
  | its, b :: r, h, hr => by
    cases h with
    | cons h1 h2 => exact .cons ⟨h1, hr b (List.mem_cons_self ..) _ h1⟩ (eachV h2 fun c hc => hr c (List.mem_cons_of_mem _ hc))
theorem eachB {R : Value → PyData → Prop} : ∀ {its : List Value} {bs : List (V × PyData)}, PySem.W.EachIs (fun u (b : V × PyData) => RelV b.1 u ∧ R u b.2) its bs → Vals (bs.map (·.1)) its
  | _, _, .nil => .nil
  | _, _, .cons h t => .cons h.1 (eachB t)
theorem k_sortX0 (hu : X.A.units + 64 < cLine) : CallR X (.builtin "sorted") (rSortX X.K) := by
  intro pins s σ H vs us Q I r h
  obtain ⟨a, bs, rfl, hs, hd, hal, hk, q⟩ := h
  obtain ⟨its, rv, hl, hz⟩ := I.list hs
  rw [Vals.ref1 r]
  have e := eachV (R := fun u d => ∃ as, Reads s.heap u d as) rv fun b hb u ru => Dp.reads I b.2 b.1 u (hd b hb).1 ru
  have hlen : bs.length ≤ sizeLine := by rw [List.length_map] at hz; exact hz
  refine PySem.W.sorted_data (enc := fun b : V × PyData => b.2) hl.isList e (e.mono fun _ _ h => h.2) hal hk hlen (fun b hb => ?_) fun out ho eo => ?_
  · have := (hd b hb).2
    omega
  · obtain ⟨ep, he'⟩ := PyProof.Rows.sortedAll_at s.heap its out.toArray
    have hlen2 : ((bs.mergeSort (PySem.W.dataLe false (·.2))).map (·.1)).length ≤ sizeLine := by rw [List.length_map, List.length_mergeSort]; exact hlen
    exact ⟨.ref _, upd H (s.heap.objs.size + 1) (.lst ((bs.mergeSort (PySem.W.dataLe false (·.2))).map (·.1))), I.laid (t' := s.toks) (fun _ _ => PyProof.Rows.sortedAll_old) (Nat.le_succ _) ⟨hlen2, out, ep, eachB (R := fun u d => ∃ as, Reads s.heap u d as) eo, he'⟩, rfl, q _ (I.hok.fresh (Nat.le_succ _))⟩
/-- data compared -/
def rLtD (K : PySem.W.Frag) : R2 := fun x y H Q => ∃ d e, Dp K H x d ∧ Dp K H y e ∧ PySem.W.alike d e = true ∧ d ≠ .none ∧ d.depth ≤ 60 ∧ Q (.bl (PySem.W.dataLt d e)) H
def rLeD (K : PySem.W.Frag) : R2 := fun x y H Q => ∃ d e, Dp K H x d ∧ Dp K H y e ∧ PySem.W.alike d e = true ∧ d ≠ .none ∧ d.depth ≤ 60 ∧ Q (.bl (!PySem.W.dataLt e d)) H
theorem k_ltD0 (hu : X.A.units + 64 < cLine) : OpR X (compareOp .Lt) (rLtD X.K) := by
  intro pins s σ H x y v u Q I rx ry h
  obtain ⟨d, e, hd, he, ha, hn, hz, q⟩ := h
  obtain ⟨as, r1⟩ := Dp.reads I d x v hd rx
  obtain ⟨bs, r2⟩ := Dp.reads I e y u he ry
  exact PySem.W.rcLt_alike d e X.A s v u as bs r1 r2 ha hn (by have := Nat.min_le_left d.depth e.depth; omega) X.prog X.w X.xe (EP X pins σ Q) ⟨.bl _, H, I, rfl, q⟩
theorem k_leD0 (hu : X.A.units + 64 < cLine) : OpR X (compareOp .LtE) (rLeD X.K) := by
  intro pins s σ H x y v u Q I rx ry h
  obtain ⟨d, e, hd, he, ha, hn, hz, q⟩ := h
  obtain ⟨as, r1⟩ := Dp.reads I d x v hd rx
  obtain ⟨bs, r2⟩ := Dp.reads I e y u he ry
  exact PySem.W.rcLe_alike d e X.A s v u as bs r1 r2 ha hn (by have := Nat.min_le_left d.depth e.depth; omega) X.prog X.w X.xe (EP X pins σ Q) ⟨.bl _, H, I, rfl, q⟩
theorem k_sortX {K : PySem.W.Frag} (hu : X.A.units + 64 < cLine) (e : X.K = K) : CallR X (.builtin "sorted") (rSortX K) := e ▸ k_sortX0 hu
theorem k_ltD {K : PySem.W.Frag} (hu : X.A.units + 64 < cLine) (e : X.K = K) : OpR X (compareOp .Lt) (rLtD K) := e ▸ k_ltD0 hu
theorem k_leD {K : PySem.W.Frag} (hu : X.A.units + 64 < cLine) (e : X.K = K) : OpR X (compareOp .LtE) (rLeD K) := e ▸ k_leD0 hu
end
end Xk

/-! dicts whose keys are tuples: setdefault, sorted -/
namespace Xk
open PySem PySem.Spec PyProof.Rows L2
section
variable {X : Cx} {pins : List (Addr × Obj)} {σ : L2.St} {H : Hp} {s : Shared} {a b : Addr} {r : Value} {d : V} {k : List Key} {A : Around} {E : Value → Shared → Prop}
theorem d_setdT {kvs : List (List Key × V)} {Q : Value → Shared → Prop} (hu : A.units + 1 < cLine) (I : Inv X pins σ H s) (e : H a = some (.dT kvs)) (eb : H b = some (.tup (k.map kV))) (rd : RelV d r) (hl : kvs.length < sizeLine)
    (h1 : ∀ v, valV kvs k = some v → ∀ (w' : Value) (s' : Shared), Inv X pins σ H s' → RelV v w' → Q w' s') (h2 : valV kvs k = none → ∀ (w' : Value) (s' : Shared), Inv X pins σ (upd H a (.dT (putK kvs k d))) s' → RelV d w' → Q w' s') :
    wpAny (model X.prog X.w) A (call (.builtin "dict.setdefault") [.ref a, .ref b, r]) Q E s := by
  obtain ⟨z, hd, xs, rel, dd⟩ := dt_of I.hok e
  have hz : xs.length ≤ sizeLine := by rw [← Paired.length rel]; exact z
  refine call_setdefault_heap (knd := tupleKind (mixKind X.prog X.w)) (hsz := hz) (tupleKind_room_in1 hu) (key_of I.hok eb) hd dd (fun p hp => ?_) fun hn h' dd' hs => ?_
  · have q := rel.val k
    rw [hp] at q
    cases q0 : valV kvs k with
    | none =>
      rw [q0] at q
      exact (show False from q).elim
    | some v0 =>
      rw [q0] at q
      exact h1 v0 q0 _ _ (I.tok _) q
  · have q := rel.val k
    rw [hn] at q
    cases q0 : valV kvs k with
    | some v0 =>
      rw [q0] at q
      exact (show False from q).elim
    | none =>
      have hl2 : (putK kvs k d).length ≤ sizeLine := by
        have := length_putK kvs k d
        omega
      obtain ⟨q, es, ep, hq, g2, g3, g4, _, g5⟩ := dd'
      refine h2 q0 _ _ (d_write I (by rw [e]; exact True.intro) hs ⟨q, hq⟩ ⟨hl2, hd, _, (rel.put k eb rd).keeps fun c ys ec => ?_, q, es, ep, hq, g2, g3, g4, g5⟩) rd
      rw [upd_ne (ne_of ec e (fun z => nomatch z))]
      exact ec
end
/-- d.setdefault(y, z), tuple keys -/
def rDSetT (a : Addr) (y z : V) (Q : VK) (H3 : Hp) : Prop := ∃ (kvs : List (List Key × V)) (k : List Key) (b : Addr), H3 a = some (.dT kvs) ∧ y = .ref b ∧ H3 b = some (.tup (k.map kV)) ∧ kvs.length < sizeLine ∧
  (∀ v, valV kvs k = some v → Q v H3) ∧ (valV kvs k = none → Q z (upd H3 a (.dT (putK kvs k z))))
def tDSetT (td ty tx : TE) : TE := fun σ H Q => td σ H fun x H1 => ∃ a kvs, x = .ref a ∧ H1 a = some (.dT kvs) ∧ ty σ H1 fun y H2 => tx σ H2 fun z H3 => rDSetT a y z Q H3
section
variable {X : Cx} {o e f : Expr} {td ty tx : TE} {apos cpos : Pos}
theorem pe_dsetT (hu : X.A.units + 1 < cLine) (ho : PE X o td) (he : PE X e ty) (hf : PE X f tx) (m : M2 X o "setdefault" apos e f cpos) : PE X (.Call (.Attribute o "setdefault" apos) [e, f] [] cpos) (tDSetT td ty tx) := by
  refine ⟨fun pins s σ H Q I h => ?_⟩
  refine wpAny_Call_method m.base m.few m.line PySem.F.plainAttrs_dict PySem.F.slot_dict_setdefault PySem.F.type_dict_setdefault (thn (ho.run pins s σ H _ I h) fun u s1 ⟨x, H1, I1, rx, a, kvs, ex, d, q1⟩ => ?_)
  subst ex
  obtain rfl : u = Value.ref a := rx
  have hty : s1.TypeIs (.ref a) "dict" := by
    obtain ⟨_, _, xs, _, dd⟩ := dt_of I1.hok d
    exact dd.typeIs
  have hnd : ∀ b, Value.ref a = .ref b → ∃ ob, s1.heap.get? b = some ob ∧ ob.dict = none := fun b q => by
    cases q
    obtain ⟨_, _, xs, _, ob, _, _, h1, h2, _⟩ := dt_of I1.hok d
    exact ⟨ob, h1, h2.2.1⟩
  refine ⟨hty, hnd, ?_⟩
  rw [m.trees]
  refine Calls.callWith_builtin rfl (Calls.evalArgs_plain (Calls.spliced_cons (thn (he.run pins s1 σ H1 _ I1 q1) fun iv s2 ⟨y, H2, I2, ry, q2⟩ =>
    Calls.spliced_cons (thn (hf.run pins s2 σ H2 _ I2 q2) fun fv s3 ⟨z, H3, I3, rz, kvs, k, b, ea, ey, eb, hl, q3, q4⟩ => Calls.spliced_nil ?_))))
  subst ey
  obtain rfl : iv = Value.ref b := ry
  exact d_setdT hu I3 ea eb rz hl (fun v hv w' s4 I4 rw' => ⟨v, _, I4, rw', q3 v hv⟩) fun hn w' s4 I4 rw' => ⟨z, _, I4, rw', q4 hn⟩
end
/-- sorted(d), the keys tuples of ints: the keys' own tuples, ascending -/
def rSortT (xs : List V) (H : Hp) (Q : VK) : Prop := ∃ (d : Addr) (kvs : List (List Key × V)) (ks : List (List Int)), xs = [.ref d] ∧ H d = some (.dT kvs) ∧ kvs.map (·.1) = ks.map (fun k => k.map Sum.inl) ∧ (∀ k ∈ ks, k ≠ []) ∧ ks.length ≤ 1000 ∧
  ∀ (p : Addr) (zs : List (Addr × List Int)), H p = none → (zs.map (·.2)).Perm ks → (zs.map (·.2)).Pairwise (· ≤ ·) → (∀ z ∈ zs, H z.1 = some (.tup (z.2.map V.int))) → Q (.ref p) (upd H p (.lst (zs.map fun z => V.ref z.1)))
theorem kt_list {H : Hp} : ∀ {kvs : List (List Key × V)} {ts : List (List Key × Addr × Value)} {ks : List (List Int)}, KT H kvs ts → kvs.map (·.1) = ks.map (fun k => k.map Sum.inl) →
    ∃ L : List (Addr × List Int), L.map (·.1) = ts.map (fun x => x.2.1) ∧ L.map (·.2) = ks ∧ ∀ e ∈ L, H e.1 = some (.tup (e.2.map V.int))
  | [], _, ks, r, e => by
    cases r
    cases ks with
    | nil => exact ⟨[], rfl, rfl, fun e he => by cases he⟩
    | cons k r => cases e
  | p :: kvs, _, ks, r, e => by
    cases ks with
    | nil => cases e
    | cons k ks =>
      rw [List.map_cons, List.map_cons] at e
      injection e with e1 e2
      cases r with
      | @cons _ q _ qs h t =>
        obtain ⟨L, h1, h2, h3⟩ := kt_list t e2
        refine ⟨(q.2.1, k) :: L, by rw [List.map_cons, List.map_cons, h1], by rw [List.map_cons, h2], fun x hx => ?_⟩
        rcases List.mem_cons.mp hx with rfl | hx
        · have z := h.2.1
          rw [e1, List.map_map] at z
          exact z
        · exact h3 x hx
theorem reads_ints {h : Heap} : ∀ {ns : List Int} {us : List Value}, Vals (ns.map V.int) us → ReadsAll h us (ns.map PyData.int) []
  | [], _, r => by
    cases r
    exact .nil
  | n :: ns, _, r => by
    cases r with
    | cons r1 r2 =>
      obtain ⟨t, rfl⟩ := r1
      exact ReadsAll.cons (Reads.int n t) (reads_ints r2)
theorem tup_dataLe (x : Addr × List Int → List Int) : PySem.W.dataLe false (fun b : Addr × List Int => PyData.tuple ((x b).map .int)) = fun p q => decide (x p ≤ x q) := by
  rw [PySem.W.dataLe_eq]
  funext p q
  show (!PySem.W.dataLt _ _) = _
  rw [PySem.W.dataLt_tuple]
  have h := PySem.W.dataLt_ints (x q) (x p)
  unfold PySem.W.rowLt at h
  rw [h, ← decide_not]
  exact decide_eq_decide.mpr List.not_lt
section
variable {X : Cx}
theorem k_sortT (hcalm : X.calm = true) (hu : X.A.units + 64 < cLine) : CallR X (.builtin "sorted") rSortT := by
  intro pins s σ H xs us Q I r h
  obtain ⟨d, kvs, ks, rfl, hd, hks, hne, hl, q⟩ := h
  obtain ⟨u, rfl, rx⟩ := vals1 r
  cases rx
  obtain ⟨z, hs, ts, pr, o, es, ep, ho, hx, hdt, he, hn⟩ := (show ObjOk X.prog X.w H s.heap d (.dT kvs) from I.hok d _ hd)
  have l1 : es.size = ts.length := size_of_entries he
  have l2 : kvs.length = ts.length := Paired.length pr
  obtain ⟨L, hL1, hL2, hL3⟩ := kt_list pr hks
  have lL : L.length = ts.length := by
    have z := congrArg List.length hL1
    rw [List.length_map, List.length_map] at z
    exact z
  have lk : L.length ≤ 1000 := by
    have z := congrArg List.length hL2
    rw [List.length_map] at z
    omega
  have h16 : es.size ≤ sizeLine := by rw [l1, ← lL, sizeLine_eq]; omega
  refine Calls.call_function_entry PyProof.Rows.kind_sorted PyProof.Rows.plain_sorted PyProof.Rows.entry_sorted (PyProof.Rows.args_sorted1 _) ?_
  unfold Builtin.«sorted»
  refine wpAny_bind (m := checkCount "sorted" 1 1 _) (wpAny_pure ?_)
  refine wpAny_bind (PySem.W.kdu_collect (A := X.A.in1) (kdl_raw hs hx hdt) (I.ok.hd hcalm) ho h16 fun h' tk acc hk hacc => ?_)
  have ea : acc.toList = L.map fun x => Value.ref x.1 := by
    have hl : acc.toList.length = ts.length := by rw [Array.length_toList, hacc.1]; exact l1
    have e2 : (L.map fun x => Value.ref x.1) = ts.map fun x => Value.ref x.2.1 := by
      have z := congrArg (List.map Value.ref) hL1
      rw [List.map_map, List.map_map] at z
      exact z
    rw [e2]
    apply List.ext_getElem?
    intro j
    rw [List.getElem?_map]
    cases hj : acc.toList[j]? with
    | none =>
      have h1 := List.getElem?_eq_none_iff.mp hj
      rw [List.getElem?_eq_none (by omega)]
      all_goals rfl
    | some v =>
      obtain ⟨en, hen, hv⟩ := hacc.2 j v (by rw [← Array.getElem?_toList]; exact hj)
      have qe := entry_at he j
      rw [hen] at qe
      cases hb : ts[j]? with
      | none =>
        rw [hb] at qe
        exact nomatch (show some en = none from qe)
      | some b =>
        rw [hb] at qe
        have e2 : en = entryOfKey (tupleKind (mixKind X.prog X.w)) b := Option.some.inj qe
        rw [hv, e2]
        all_goals rfl
  have I1 : Inv X pins σ H { s with heap := h', toks := tk } := I.kept hk
  have hal : acc.toList.length = L.length := by rw [ea, List.length_map]
  refine wpAny_bind (wpAny_newList ?_ (by rw [hal, sizeLine_eq]; omega))
  have hoL : (h'.push (seqObj "list" acc.toList.toArray 0)).get? h'.objs.size = some (seqObj "list" acc.toList.toArray 0) := Heap.get?_push_size _ rfl
  show wpAny _ _ _ _ _ { s with heap := h'.push (seqObj "list" acc.toList.toArray 0), toks := tk }
  have er : PySem.W.EachIs (fun (v : Value) (b : Addr × List Int) => v = .ref b.1 ∧ ∃ as, Reads (h'.push (seqObj "list" acc.toList.toArray 0)) v (PyData.tuple (b.2.map .int)) as ∧ h'.objs.size ∉ as) acc.toList L := by
    rw [ea]
    have key : ∀ M : List (Addr × List Int), (∀ e ∈ M, H e.1 = some (.tup (e.2.map V.int))) → PySem.W.EachIs (fun (v : Value) (b : Addr × List Int) => v = .ref b.1 ∧ ∃ as, Reads (h'.push (seqObj "list" (L.map fun x => Value.ref x.1).toArray 0)) v (PyData.tuple (b.2.map .int)) as ∧ h'.objs.size ∉ as) (M.map fun x => Value.ref x.1) M := by
      intro M
      induction M with
      | nil => exact fun _ => .nil
      | cons e M ih =>
        intro hM
        refine .cons ⟨rfl, [], ?_, List.not_mem_nil⟩ (ih fun x hx => hM x (List.mem_cons_of_mem _ hx))
        obtain ⟨_, its, r, o, h1, h2, n, h3⟩ := (show ObjOk X.prog X.w H h' e.1 (.tup (e.2.map V.int)) from I1.hok _ _ (hM e (List.mem_cons_self ..)))
        exact Reads.tuple (Heap.get?_push_of_some _ h1) h2 h3 (by simpa using reads_ints r)
    exact key L hL3
  have enc1 : PySem.W.AllAlike (L.map fun b => PyData.tuple (b.2.map .int)) := PySem.W.AllAlike.of fun b b' => by
    show PySem.W.alikeAll _ _ = true
    exact PySem.W.alike_ints _ _
  have enc2 : PySem.W.Sortable (L.map fun b => PyData.tuple (b.2.map .int)) := .inl fun d hd => by
    obtain ⟨b, hb, rfl⟩ := List.mem_map.mp hd
    have hb2 : b.2 ≠ [] := hne _ (by rw [← hL2]; exact List.mem_map_of_mem (f := fun e : Addr × List Int => e.2) hb)
    cases e : b.2 with
    | nil => exact absurd e hb2
    | cons x r => exact ⟨_, _, rfl⟩
  refine wpAny_bind (wpAny_holding (PySem.W.list_sort_data (s := { s with heap := h'.push (seqObj "list" acc.toList.toArray 0), toks := tk }) (R := fun (v : Value) (b : Addr × List Int) => v = .ref b.1) (enc := fun b => PyData.tuple (b.2.map .int)) hoL (er.mono fun _ _ h => h.1) (er.mono fun _ _ h => h.2) enc1 enc2 (by rw [sizeLine_eq]; omega) (fun b _ => ?_) fun out ho2 eo => ?_))
  · have : (PyData.tuple (b.2.map .int)).depth = 1 := by
      rw [PyData.depth, PySem.W.depth_ints]
    have hA : X.A.in1.units ≤ X.A.units + 2 := by
      show _ ≤ _
      first
        | exact Nat.le_refl _
        | exact Nat.le_succ _
        | simp [Around.in1]
        | omega
    omega
  · obtain ⟨e', he'⟩ := PyProof.Rows.sortedHeap_at (vs := acc.toList) (out := out.toArray) hoL
    rw [tup_dataLe] at eo
    have perm : (L.mergeSort fun p q => decide (p.2 ≤ q.2)).Perm L := List.mergeSort_perm ..
    have ev : out = (L.mergeSort fun p q => decide (p.2 ≤ q.2)).map fun x => Value.ref x.1 := by
      have key : ∀ {o : List Value} {M : List (Addr × List Int)}, PySem.W.EachIs (fun (v : Value) (b : Addr × List Int) => v = .ref b.1) o M → o = M.map fun x => Value.ref x.1 := fun e => by
        induction e with
        | nil => rfl
        | cons h t ih => rw [List.map_cons, ← ih, h]
      exact key eo
    have pw : (L.mergeSort fun p q => decide (p.2 ≤ q.2)).Pairwise fun p q => p.2 ≤ q.2 := by
      refine (List.pairwise_mergeSort (fun a b c h1 h2 => ?_) (fun a b => ?_) L).imp fun h => of_decide_eq_true h
      · exact decide_eq_true (List.le_trans (of_decide_eq_true h1) (of_decide_eq_true h2))
      · rw [Bool.or_eq_true]
        rcases List.le_total a.2 b.2 with h | h
        · exact .inl (decide_eq_true h)
        · exact .inr (decide_eq_true h)
    generalize (L.mergeSort fun p q => decide (p.2 ≤ q.2)) = zs at *
    have lz : (zs.map fun z => V.ref z.1).length ≤ sizeLine := by rw [List.length_map, perm.length_eq, sizeLine_eq]; omega
    have vz : Vals (zs.map fun z => V.ref z.1) out := by
      rw [ev]
      have key := vals_refs (zs.map fun z => z.1)
      rw [List.map_map, List.map_map] at key
      exact key
    refine wpAny_pure ⟨_, rfl, .ref h'.objs.size, upd H h'.objs.size (.lst (zs.map fun z => V.ref z.1)), I1.laid (t' := tk) (fun b u e => ?_) (Nat.le_refl _)
      (show ObjOk X.prog X.w _ _ _ (.lst (zs.map fun z => V.ref z.1)) from ⟨lz, out, e', vz, he'⟩), rfl, q _ zs (I1.hok.fresh (Nat.le_refl _)) (by rw [← hL2]; exact perm.map _) (by rw [List.pairwise_map]; exact pw) fun z hz => hL3 z (perm.mem_iff.mp hz)⟩
    have hb : b < h'.objs.size := Heap.lt_size e
    rw [PyProof.Rows.sortedHeap_old (Nat.ne_of_lt hb) (by rw [size_push']; exact Nat.lt_succ_of_lt hb)]
    exact Heap.get?_push_of_some _ e
end
/-! ### set(xs) of a list of ints -/
abbrev nset (w : World) : Obj := { cls := .type "set", dict := none, data := .set #[] 0 (.fresh 0 0 (!w.params.followText "set-order")) }
section
variable {P : Program} {w : World} {A : Around} {E : Value → Shared → Prop} {s : Shared}
theorem madeI {l : Addr} {items : Array Value} {xs : List Int} {Q : Value → Shared → Prop} (hh : A.handled = none) (hl : s.heap.IsList l items) (hi : IntsAre items.toList xs) (room : xs.length + 1 < scanBound)
    (q : ∀ (h' : Heap) (tk c : Nat), SetR w h' s.heap.objs.size (fun j => decide (j ∈ xs)) c → c ≤ xs.length → (∀ b o, s.heap.get? b = some o → h'.get? b = some o) → Q (.ref s.heap.objs.size) { s with heap := h', toks := tk }) :
    wpAny (model P w) A (call (.type "set") [.ref l]) Q E s := by
  have isz : items.size = xs.length := by rw [← IntsAre.length hi, Array.length_toList]
  obtain ⟨c, tl, hmro⟩ := PySem.F.called_set.mro
  have g1 := PySem.F.called_set.made
  have g2 := PySem.F.called_set.sub
  have g3 := PySem.F.called_set.notType
  have g4 := PySem.F.called_set.canCreate
  have g5 := PySem.F.typeCall_set_1 (.ref l)
  refine wpAny_call (codeAny_of_tree ?_)
  show wpAny _ _ (callAny (.type "set") _) _ _ _
  refine wpAny_pure ⟨Code.quiet_builtin _ (by decide +kernel), codeAny_builtin PySem.F.entry_type_call ?_⟩
  rw [Around.under_plain (weight_type_call_type "set" [.ref l] []) rfl]
  repeat (any_goals (first | assumption | wp_step))
  refine codeAny_mono (code_set_led1 (.ref l) (E := E) (Q₁ := fun ob s₁ => ob = .ref s.heap.objs.size ∧ s₁ = { s with heap := s.heap.push (nset w) }) ⟨rfl, rfl⟩) fun r s₁ hr => ?_
  cases r with
  | error e => exact hr
  | ok fl =>
    cases fl with
    | ret ob =>
      obtain ⟨rfl, rfl⟩ := hr
      have hS : (s.heap.push (nset w)).get? s.heap.objs.size = some (nset w) := Heap.get?_push_size _ rfl
      have hT : Shared.TypeIs { s with heap := s.heap.push (nset w) } (.ref s.heap.objs.size) "set" := ⟨_, hS, rfl⟩
      have g6 := PySem.F.called_set.init.lookup
      have g7 := PySem.F.called_set.init.bind (.ref s.heap.objs.size)
      repeat (any_goals (first | assumption | wp_step))
      refine codeAny_mono (codeAny_call_builtin (R := wants (fun r s₂ => r = .none ∧ ∃ h' tk c, s₂ = { s with heap := h', toks := tk } ∧ SetR w h' s.heap.objs.size (fun j => decide (j ∈ xs)) c ∧ c ≤ xs.length ∧ ∀ b o, s.heap.get? b = some o → h'.get? b = some o) E)
        PySem.F.called_set.init.plain PySem.F.entry_set_init (check_set_init_1 hT ?_)) fun r₂ s₂ hr₂ => ?_
      · obtain ⟨⟨ocls, odict, odata, oslots⟩, hol, hcl, nl, hdl⟩ := hl
        simp only at hcl hdl
        subst hcl hdl
        have hol2 : (s.heap.push (nset w)).get? l = some { cls := .type "list", dict := odict, data := .seq items nl, slots := oslots } := Heap.get?_push_of_some _ hol
        have t1 := PySem.F.sub_list_set
        have t2 := PySem.F.sub_list_frozenset
        have t3 : (Value.type "list" == Value.type "dict") = false := by decide
        have hl1 : (s.heap.push (nset w)).IsList l items := ⟨_, hol2, rfl, nl, rfl⟩
        unfold Builtin.«set.__init__» noKeywords Builtin.Frozenset.updateFrom
        generalize hPI : pyIter = PI
        wp_walk
        subst hPI
        refine wpAny_pyIter_list hl1 (wpAny_bind (wpAny_runValue ?_))
        have lS : l < s.heap.objs.size := Heap.lt_size hol
        have h3 : A.in1.in1.in1.handled = none := by simp [hh]
        have z1 : (s.heap.push (nset w)).objs.size = s.heap.objs.size + 1 := Heap.size_push ..
        have nI : l ≠ (s.heap.push (nset w)).objs.size := by
          rw [z1]
          exact Nat.ne_of_lt (Nat.lt_succ_of_lt lS)
        have nS : s.heap.objs.size ∉ [(s.heap.push (nset w)).objs.size, l] := by
          rw [z1]
          simp only [List.mem_cons, List.not_mem_nil, or_false, not_or]
          exact ⟨Nat.ne_of_lt (Nat.lt_succ_self _), Nat.ne_of_gt lS⟩
        have vl : ∀ (i : Nat) (v : Value), items[i]? = some v → ∃ z u, xs[i]? = some z ∧ v = .int z u := fun i v hv => by
          obtain ⟨u, e⟩ := PyProof.Rows.IntsAre.int_at hi i v (by rw [Array.getElem?_toList]; exact hv)
          have lt : i < xs.length := by
            obtain ⟨b, _⟩ := Array.getElem?_eq_some_iff.mp hv
            omega
          exact ⟨xs.getD i 0, u, by rw [List.getD_eq_getElem?_getD, List.getElem?_eq_getElem lt]; rfl, e⟩
        refine set_update_ints ((Walks.list h3 _ l nI items).toS) s.heap.objs.size nS xs isz (by omega) vl (items.size - 0) 0 _ (by omega) (Nat.zero_le _) ⟨⟨_, Heap.get?_push_size _ rfl, rfl, rfl⟩, (hl1.push _)⟩ ?hS0 ?hR
        case hS0 => exact ⟨0, Nat.le_refl 0, setR_new_at (Heap.get?_push_of_some _ hS)⟩
        case hR =>
          rintro ⟨h', g', d', tk', os'⟩ c mv r2 r1
          obtain rfl : g' = s.gens := mv.gens
          obtain rfl : d' = s.drawn := mv.drawn
          obtain rfl : os' = s.os := mv.os
          show wpAny _ _ _ _ _ _
          refine wpAny_pure (wpAny_pure ⟨rfl, h', tk', c, rfl, r1, isz ▸ r2, fun b o e => ?_⟩)
          have lb := Heap.lt_size e
          refine mv.heap b o ?_ (Heap.get?_push_of_some _ (Heap.get?_push_of_some _ e))
          simp only [List.mem_cons, List.not_mem_nil, or_false, not_or]
          exact ⟨Nat.ne_of_lt lb, by rw [z1]; exact Nat.ne_of_lt (Nat.lt_succ_of_lt lb)⟩
      · cases r₂ with
        | error e => exact hr₂
        | ok fl₂ =>
          cases fl₂ with
          | ret r =>
            obtain ⟨rfl, h', tk, c, rfl, r1, r2, r3⟩ := hr₂
            repeat (any_goals (first | assumption | wp_step))
            exact q _ _ _ r1 r2 r3
          | _ => exact hr₂.elim
    | _ => exact hr.elim
end
def rSetOfL (K : PySem.W.Frag) (w : World) : List V → Hp → VK → Prop := fun vs H Q => ∃ (p : Addr) (ns : List Int), vs = [V.ref p] ∧ SqL K H p (ns.map V.int) ∧ ns.length ≤ 1000 ∧ ∀ a n, H a = none → n ≤ ns.length → Q (.ref a) (upd H a (SetO w a (fun j => decide (j ∈ ns)) n))
theorem cr_setOfL {X : Cx} (hc : X.calm = true) : CallR X (.type "set") (rSetOfL X.K X.w) := by
  intro pins s σ H xs us Q I r h
  obtain ⟨p0, ns, rfl, hq, hl, q⟩ := h
  cases r with
  | cons r rr =>
    cases rr
    cases r
    obtain ⟨its, rv, pt, hz⟩ := I.list hq
    have hi : IntsAre its.toArray.toList ns := ints_of_vals rv
    refine madeI (I.ok.hd hc) pt.isList hi (by unfold scanBound; omega) fun h' tk c R1 hcn k => ?_
    exact ⟨.ref _, upd H s.heap.objs.size (SetO X.w s.heap.objs.size (fun j => decide (j ∈ ns)) c), I.laid (t' := tk) k (Nat.le_refl _) (setO_new R1), rfl, q _ _ (I.hok.fresh (Nat.le_refl _)) hcn⟩
theorem k_setOfL {X : Cx} {K : PySem.W.Frag} {w : World} (hc : X.calm = true) (e : X.K = K) (e' : X.w = w) : CallR X (.type "set") (rSetOfL K w) := e ▸ e' ▸ cr_setOfL hc
theorem x_setOfL {K : PySem.W.Frag} {H : Hp} {Q : VK} {w : World} {p : Addr} {ns : List Int} (h : SqL K H p (ns.map V.int)) (hl : ns.length ≤ 1000) (k : ∀ a H2 n, Fr a H → Same H H2 → H2 a = some (SetO w a (fun j => decide (j ∈ ns)) n) → n ≤ ns.length → Q (.ref a) H2) : rSetOfL K w [.ref p] H Q :=
  ⟨p, ns, rfl, h, hl, fun a n h1 h2 => k a _ n ⟨h1⟩ (same_new h1) upd_same h2⟩
/-! ### list(d.values()) -/
def tListVals (td : TE) : TE := fun σ H Q => td σ H fun x H1 => ∃ a kvs, x = V.ref a ∧ H1 a = some (.dK kvs) ∧ ∀ p, H1 p = none → Q (.ref p) (upd H1 p (.lst (kvs.map (·.2))))
theorem vals_kv : ∀ {kvs : List (L2.Key × V)} {vs : List (L2.Key × Value)}, KV kvs vs → Vals (kvs.map (·.2)) (vs.map (·.2))
  | [], _, r => by
    cases r
    exact .nil
  | p :: kvs, _, r => by
    cases r with
    | cons h t => exact .cons h.2 (vals_kv t)
section
variable {X : Cx} {o : Expr} {p pos apos mpos : Pos} {td : TE}
theorem pe_listVals (hc : X.calm = true) (hg : Gl X "list") (hm : X.mg "list" = none) (hd : PE X o td) (hbase : attributeBase o "values" X.env (eval o X.env) = eval o X.env := by rfl) (hline : (apos.endLine == mpos.line) = true := by rfl)
    (hse : starEach [Expr.Call (.Attribute o "values" apos) [] [] mpos] X.env = [(false, eval (Expr.Call (.Attribute o "values" apos) [] [] mpos) X.env)] := by rfl) :
    PE X (.Call (.Name "list" p) [.Call (.Attribute o "values" apos) [] [] mpos] [] pos) (tListVals td) := by
  refine ⟨fun pins s σ H Q I h => ?_⟩
  refine wpAny_Call_Name_kw (ld_blt I hg hm (u := .type "list") (by first | rfl | decide +kernel) ?_ (by first | decide +kernel | decide) (by first | decide +kernel | decide))
  rw [hse]
  refine PySem.callWith_type1 (wpAny_Call_method0_late hbase hline (thn (hd.run pins s σ H _ I h) fun v s1 ⟨x, H1, I1, r1, a, kvs, ex, ha, q⟩ => ?_))
  subst ex
  obtain rfl : v = Value.ref a := r1
  obtain ⟨hz, hsys, vs, rel, dof⟩ := dk_of I1.hok ha
  obtain ⟨ep, dat⟩ := dof.dictAt
  have dat' := dat
  obtain ⟨ob, es, ho, ex, hdat, hko, hpr, hnd⟩ := dat'
  refine ⟨"dict", "dict.values", PySem.F.plainAttrs_dict, PySem.F.slot_dict_values, PySem.F.type_dict_values, ⟨ob, ho, ex.1⟩, fun b e => ?_, Calls.callWith_builtin rfl (PySem.evalArgs_none ?_)⟩
  · cases e
    exact ⟨ob, ho, ex.2.1⟩
  refine call_meetsIn PySem.F.slot_dict_values ⟨ob, ho, ex.1⟩ PySem.F.entry_dict_values (PySem.F.args_dict_values_1 _) (meets_dict_values (mixKind X.prog X.w) a hsys) ⟨⟨vs, dof⟩, ?_⟩
  have k1 : ∀ b u, s1.heap.get? b = some u → (s1.heap.push { cls := .type "dict_values", data := .fields #[.ref a] }).get? b = some u := fun b u e => Heap.get?_push_of_some _ e
  have dat1 : (s1.heap.push { cls := .type "dict_values", data := .fields #[.ref a] }).DictAt (mixKind X.prog X.w) a vs ep := dat.keep k1
  have hlv : vs.length = kvs.length := (KV.length rel).symm
  have hlt : a < s1.heap.objs.size := Heap.lt_size ho
  refine PySem.W.kdl_call (s := { s1 with heap := s1.heap.push { cls := .type "dict_values", data := .fields #[.ref a] } }) (PySem.W.kdl_values (knd := mixKind X.prog X.w) (r := s1.heap.objs.size) (d := a) (kvs := vs) (ep := ep)) (I.ok.hd hc) ⟨⟨_, Heap.get?_push_size _ rfl, rfl, rfl⟩, dat1⟩ (by rw [hlv]; exact hz) fun h' tk acc' c' kp e it => ?_
  have ea : acc'.toList = vs.map (·.2) := by
    have hl : acc'.toList.length = vs.length := by rw [Array.length_toList, it.1]
    apply List.ext_getElem?
    intro j
    rw [List.getElem?_map]
    cases hj : acc'.toList[j]? with
    | none =>
      have h1 := List.getElem?_eq_none_iff.mp hj
      rw [List.getElem?_eq_none (by omega)]
      rfl
    | some v =>
      obtain ⟨k, hk⟩ := it.2 j v (by rw [← Array.getElem?_toList]; exact hj)
      rw [hk]
      rfl
  have hsz : (s1.heap.push { cls := .type "dict_values", data := .fields #[.ref a] }).objs.size = s1.heap.objs.size + 1 := Heap.size_push _ _
  have rv : Vals (kvs.map (·.2)) acc'.toList := by
    rw [ea]
    exact vals_kv rel
  refine ⟨.ref _, upd H1 (s1.heap.push { cls := .type "dict_values", data := .fields #[.ref a] }).objs.size (.lst (kvs.map (·.2))), I1.laid (t' := tk) (fun b u e => kp b u (k1 b u e)) (by rw [hsz]; exact Nat.le_succ _) ⟨by rw [List.length_map]; exact hz, acc'.toList, c', rv, by rw [Array.toArray_toList]; exact e⟩, rfl, q _ (I1.hok.fresh (by rw [hsz]; exact Nat.le_succ _))⟩
end
end Xk

/-! tuple(reversed(a tuple)) -/
namespace Xk
open PySem PySem.Spec PyProof.Rows RT
theorem nolen_rt : typeLookup (.type "reversed") "__len__" = pure none := by rw [typeLookup_type, builtinLookup_eq_fast]; kernel_rfl
theorem slot_rt_hint : Slot "reversed" "__length_hint__" "reversed.__length_hint__" :=
  .of (owner := "reversed") (n := "__length_hint__") (by rw [typeLookup_type, builtinLookup_eq_fast]; kernel_rfl) (by decide +kernel) (by decide +kernel) (by decide +kernel)
    (by first | exact .inl (by decide +kernel) | exact .inr (by decide +kernel)) (by rw [isSubtype_type]; kernel_rfl)
theorem entry_rt_hint : entryFor table "reversed.__length_hint__" = some Builtin.«reversed.__length_hint__» := entryFor_of_tree (by kernel_rfl)
theorem args_rt_hint (a : Value) : argsOk "reversed.__length_hint__" ⟨[a], []⟩ := by
  unfold argsOk; rw [signature?_of (id := "reversed.__length_hint__") (n := ['_', '_', 't', 'n', 'i', 'h', '_', 'h', 't', 'g', 'n', 'e', 'l', '_', '_']) (o := ['d', 'e', 's', 'r', 'e', 'v', 'e', 'r']) (by kernel_rfl) owner_rt]; kernel_rfl
section
variable {prog : Program} {w : World} {A : Around} {E : Value → Shared → Prop} {s : Shared}
theorem call_rt_hint {it t : Addr} {items : Array Value} {Q : Value → Shared → Prop} (hit : IsRt s.heap it t ((items.size : Int) - 1)) (ht : IsTup s.heap t items) (hn : items.size ≤ sizeLine)
    (h : ∀ tk tk', Q (.int items.size tk) { s with toks := tk' }) : wpAny (model prog w) A (call (.builtin "reversed.__length_hint__") [.ref it]) Q E s := by
  obtain ⟨o, ho, hc, hd⟩ := id hit
  refine wpAny_call_entry slot_rt_hint hit.typeIs entry_rt_hint ?_ (args_rt_hint _)
  unfold Builtin.«reversed.__length_hint__»
  refine wpAny_bind (wpAny_of_eq (a := Value.ref it) rfl ?_)
  refine wpAny_bind (wpAny_field ho hd (x := .ref t) rfl ?_)
  rw [if_neg (fun z => by cases z)]
  refine wpAny_bind (len_tuple ht (by rw [sizeLine_eq] at hn; omega) ?_)
  refine wpAny_bind (wpAny_of_eq (a := some ((items.size : Nat) : Int)) rfl ?_)
  try dsimp only
  refine wpAny_bind (wpAny_field (s := { s with toks := s.toks + 1 + 1 }) ho hd (x := rawInt ((items.size : Int) - 1)) rfl ?_)
  unfold rawInt
  try dsimp only
  rw [if_neg (by omega)]
  unfold retInt
  refine wpAny_bind (wpAny_mkInt ?_)
  refine wpAny_pure ⟨_, rfl, ?_⟩
  rw [show (items.size : Int) - 1 + 1 = items.size by omega]
  exact h _ _
theorem Walks.tupRev (hh : A.handled = none) (I t : Addr) (hne : t ≠ I) (items : Array Value) (hn : items.size ≤ sizeLine) :
    Walks prog w A I [I, t] [I] items.size (fun i v => items[items.size - 1 - i]? = some v) (fun i h => i ≤ items.size ∧ IsRt h I t ((items.size : Int) - 1 - (i : Int)) ∧ IsTup h t items) where
  sub := fun b hb => by simp at hb; simp [hb]
  frame := fun _ _ _ x hk => ⟨x.1, x.2.1.at fun o e => hk I (by simp) o e, by
    obtain ⟨o, ho, r⟩ := x.2.2
    exact ⟨o, hk t (by simp) o ho, r⟩⟩
  item := fun i s Q E hi x hQ => by
    have e : (items.size : Int) - 1 - (i : Int) = ((items.size - 1 - i : Nat) : Int) := by omega
    have hit := x.2.1
    rw [e] at hit
    have hx : items[items.size - 1 - i]? = some (items[items.size - 1 - i]'(by omega)) := Array.getElem?_eq_getElem (by omega)
    refine next_rt_item hit x.2.2 hx hn fun h' hit' hs' => ?_
    have e2 : ((items.size - 1 - i : Nat) : Int) - 1 = (items.size : Int) - 1 - ((i + 1 : Nat) : Int) := by omega
    rw [e2] at hit'
    refine hQ _ h' (s.toks + 1) hx ⟨hi, hit', ?_⟩ fun b o hb eo => hs'.extBut b o (fun h => hb (by simp [h])) eo
    obtain ⟨o, ho, r⟩ := x.2.2
    exact ⟨o, (hs'.2 t hne).trans ho, r⟩
  done := fun s Q E x hQ => by
    have e : (items.size : Int) - 1 - (items.size : Int) = -1 := by omega
    have hit := x.2.1
    rw [e] at hit
    exact next_rt_end hh hit fun h' he' => hQ h' s.toks fun b o hb eo => he' b o (fun h => hb (by simp [h])) eo
  self := fun _ _ _ _ x hQ => iter_rt x.2.1 hQ
theorem collect_rt {it t : Addr} {items : Array Value} {Q : List Value → Shared → Prop} (hh : A.handled = none) (hit : IsRt s.heap it t ((items.size : Int) - 1)) (ht : IsTup s.heap t items) (hne : t ≠ it) (hn : items.size ≤ sizeLine)
    (hQ : ∀ (h' : Heap) (tk : Nat) (acc : Array Value), (∀ b o, b ≠ it → s.heap.get? b = some o → h'.get? b = some o) → ItemsOf (fun i v => items[items.size - 1 - i]? = some v) acc items.size → Q acc.toList { s with heap := h', toks := tk }) :
    wpAny (model prog w) A (collect (.ref it)) Q E s := by
  have W := (Walks.tupRev (prog := prog) (w := w) (A := A.in1) hh it t hne items hn).toS
  obtain ⟨oi, hoi, _⟩ := id hit
  obtain ⟨ol, hol, _⟩ := id ht
  have hSi : s.heap.objs.size ≠ it := Nat.ne_of_gt (Heap.lt_size hoi)
  have hSl : s.heap.objs.size ≠ t := Nat.ne_of_gt (Heap.lt_size hol)
  have hSf : s.heap.objs.size ∉ [it, t] := by simp only [List.mem_cons, List.not_mem_nil, or_false, not_or]; exact ⟨hSi, hSl⟩
  unfold collect
  refine wpAny_bind (wpAny_runValue (codeAny_builtin F.entry_proto_collect ?_))
  rw [Around.under_plainId F.plain_proto_collect _]
  show wpAny _ A.in1 (newList [] >>= fun l' => again (.builtin "list.__iadd__" ⟨[l', .ref it], []⟩)) _ _ s
  refine wpAny_bind (wpAny_newObj_type ?_)
  refine wpAny_pure ⟨plainId_quiet F.plain_list_iadd _, codeAny_builtin F.entry_list_iadd ?_⟩
  rw [Around.under_plainId F.plain_list_iadd _]
  have hS₁ : (s.heap.push { cls := .type "list", data := .seq ([] : List Value).toArray }).get? s.heap.objs.size = some { cls := .type "list", data := .seq ([] : List Value).toArray } := Heap.get?_push_size _ rfl
  have hit1 : IsRt (s.heap.push { cls := .type "list", data := .seq ([] : List Value).toArray }) it t ((items.size : Int) - 1) := hit.at fun o e => Heap.get?_push_of_some _ e
  have ht1 : IsTup (s.heap.push { cls := .type "list", data := .seq ([] : List Value).toArray }) t items := ht.push _
  have hT : ({ s with heap := s.heap.push { cls := .type "list", data := .seq ([] : List Value).toArray } } : Shared).TypeIs (.ref it) "reversed" := IsRt.typeIs (s := { s with heap := s.heap.push { cls := .type "list", data := .seq ([] : List Value).toArray } }) hit1
  have h1 : Builtin.List.listSameRef (.ref s.heap.objs.size) (.ref it) = false := by simp [Builtin.List.listSameRef, hSi]
  show wpAny _ A.in1 (Builtin.List.listExtendWith (.ref s.heap.objs.size) (.ref it) (.ref s.heap.objs.size)) _ _ _
  unfold Builtin.List.listExtendWith
  refine wpAny_bind (wpAny_typeOf hT ?_)
  rw [if_neg (by rw [h1]; decide)]
  refine wpAny_bind (iter_rt (s := { s with heap := s.heap.push { cls := .type "list", data := .seq ([] : List Value).toArray } }) hit1 ?_)
  refine wpAny_bind (wpAny_holding ?_)
  unfold Builtin.List.listLengthHint
  refine wpAny_bind (wpAny_specialOf hT nolen_rt ?_)
  show wpAny _ A.in1 (specialOf (Value.ref it) (Str.ofString "__length_hint__") >>= _) _ _ _
  refine wpAny_bind (wpAny_specialOf hT slot_rt_hint.lookup ?_)
  generalize hid : ("reversed.__length_hint__" : String) = id0
  wp_delta
  rw [show splitId id0 = some ("reversed", "__length_hint__") from by subst hid; decide +kernel]
  subst hid
  refine wpAny_bind (wpAny_isInstance (b := true) hT (by rw [isSubtype_type]; kernel_rfl) ?_)
  rw [if_neg (by decide)]
  try dsimp only
  rw [if_neg (by decide +kernel)]
  refine wpAny_bind (wpAny_rule ?_)
  refine wpAny_bind (wpAny_of_eq (slot_rt_hint.bind _) ?_)
  try dsimp only
  refine wpAny_bind ?_
  refine wpAny_attempt ?_
  refine call_rt_hint (s := { s with heap := s.heap.push { cls := .type "list", data := .seq ([] : List Value).toArray } }) hit1 ht1 hn fun tk tk' => ?_
  try dsimp only
  have e1 : asInt? (Value.int (items.size : Int) tk) = pure (some (items.size : Int)) := rfl
  rw [e1]
  refine wpAny_bind ?_
  refine wpAny_pure ?_
  try dsimp only
  have l63 : (items.size : Int) < 2 ^ 63 := by
    rw [sizeLine_eq] at hn
    omega
  have c1 : Builtin.List.listFitsIndex (items.size : Int) = true := by
    unfold Builtin.List.listFitsIndex
    rw [Bool.and_eq_true, decide_eq_true_iff, decide_eq_true_iff]
    exact ⟨by omega, l63⟩
  have c2 : Builtin.List.listTooLong (items.size : Int).toNat = false := by
    unfold Builtin.List.listTooLong
    exact decide_eq_false (by omega)
  rw [c1, if_neg (by decide), if_neg (by omega), c2, if_neg (by decide)]
  clear c1 c2 l63 e1
  refine wpAny_pure ?_
  have hit2 : IsRt (s.heap.push { cls := .type "list", data := .seq ([] : List Value).toArray }) it t ((items.size : Int) - 1 - ((0 : Nat) : Int)) := by
    rw [show ((items.size : Nat) : Int) - 1 - ((0 : Nat) : Int) = (items.size : Int) - 1 by omega]
    exact hit1
  by_cases hz : items.size = 0
  · rw [if_neg (by rw [hz]; decide +kernel)]
    refine wpAny_pure ⟨plainId_quiet F.plain_extend_loop _, codeAny_extend_loopS W hn _ hSf _ items.size 0 _ _ _ rfl (Nat.zero_le _) ⟨Nat.zero_le _, hit2, ht1⟩ hS₁ (ItemsOf.nil _) fun s' acc' c' hm hS' hacc => ?_⟩
    show wpAny _ A (load s.heap.objs.size >>= _) _ _ s'
    refine wpAny_bind (wpAny_load hS' ?_)
    refine wpAny_pure ?_
    rw [Moved.eq_with hm]
    refine hQ s'.heap s'.toks acc' (fun b o hb e => hm.heap b o (fun hmem => ?_) (Heap.get?_push_of_some _ e)) hacc
    rcases List.mem_cons.mp hmem with e' | hmem
    · exact absurd (Heap.lt_size e) (by rw [e']; exact Nat.lt_irrefl _)
    · exact hb (List.mem_singleton.mp hmem)
  · rw [if_pos (by rw [Bool.or_eq_true]; exact .inl (bne_iff_ne.mpr (by omega)))]
    refine wpAny_bind (wpAny_rule ?_)
    refine wpAny_bind ?_
    show wpAny _ A.in1 (updateSeq s.heap.objs.size (·.push .none) >>= fun _ => updateSeq s.heap.objs.size (·.pop)) _ _ _
    refine wpAny_bind (wpAny_updateSeq hS₁ rfl ?_)
    have hS₂ := Heap.get?_update_self (Obj.mapSeq (·.push Value.none)) hS₁ rfl
    refine wpAny_updateSeq hS₂ rfl ?_
    have hS₃ := Heap.get?_update_self (Obj.mapSeq (·.pop)) hS₂ rfl
    have oth : ∀ b o, b ≠ s.heap.objs.size → (s.heap.push { cls := .type "list", data := .seq ([] : List Value).toArray }).get? b = some o →
        (((s.heap.push { cls := .type "list", data := .seq ([] : List Value).toArray }).update s.heap.objs.size (Obj.mapSeq (·.push Value.none))).update s.heap.objs.size (Obj.mapSeq (·.pop))).get? b = some o :=
      fun b o hb e => (Heap.get?_update_other _ _ (Ne.symm hb)).trans ((Heap.get?_update_other _ _ (Ne.symm hb)).trans e)
    refine wpAny_pure ⟨plainId_quiet F.plain_extend_loop _, codeAny_extend_loopS W hn _ hSf _ items.size 0 _ _ _ rfl (Nat.zero_le _) ⟨Nat.zero_le _, hit2.at fun o e => oth _ o (Ne.symm hSi) e, ?_⟩ hS₃ (ItemsOf.nil _) fun s' acc' c' hm hS' hacc => ?_⟩
    · obtain ⟨o, ho, r⟩ := ht1
      exact ⟨o, oth _ o (Ne.symm hSl) ho, r⟩
    show wpAny _ A (load s.heap.objs.size >>= _) _ _ s'
    refine wpAny_bind (wpAny_load hS' ?_)
    refine wpAny_pure ?_
    rw [Moved.eq_with hm]
    refine hQ s'.heap s'.toks acc' (fun b o hb e => ?_) hacc
    have hbS : b ≠ s.heap.objs.size := Nat.ne_of_lt (Heap.lt_size e)
    refine hm.heap b o (fun hmem => ?_) (oth b o hbS (Heap.get?_push_of_some _ e))
    rcases List.mem_cons.mp hmem with e' | hmem
    · exact hbS e'
    · exact hb (List.mem_singleton.mp hmem)
theorem code_tuple_new_rt {it l : Addr} {items : Array Value} {Q₁ : Value → Shared → Prop} (hh : A.handled = none) (hit : IsRt s.heap it l ((items.size : Int) - 1)) (hl : IsTup s.heap l items) (hne : l ≠ it) (hn : items.size ≤ sizeLine)
    (h : ∀ (h' : Heap) (tk : Nat) (acc : Array Value), (∀ b o, b ≠ it → s.heap.get? b = some o → h'.get? b = some o) → ItemsOf (fun i v => items[items.size - 1 - i]? = some v) acc items.size →
      Q₁ (.ref h'.objs.size) { s with heap := h'.push { cls := .type "tuple", data := .seq acc }, toks := tk }) :
    codeAny (model prog w) A (.call (.builtin "tuple.__new__") ⟨[.type "tuple", .ref it], []⟩) (wants Q₁ E) s := by
  refine codeAny_of_tree ?_
  show wpAny _ A.in1 (do checkBuiltinCall "tuple.__new__" ⟨[.type "tuple", .ref it], []⟩; again (.builtin "tuple.__new__" ⟨[.type "tuple", .ref it], []⟩)) _ _ s
  refine wpAny_bind (wpAny_of_eq (F.newCall_tuple_1 _) (wpAny_pure ⟨plainId_quiet F.plain_tuple_new _, codeAny_builtin F.entry_tuple_new ?_⟩))
  rw [Around.under_plainId F.plain_tuple_new _]
  have hsub := sub_tuple_self
  have hinit := init_tuple_lookup
  have hmh := madeHere_tuple
  have hTI : s.TypeIs (.ref it) "reversed" := hit.typeIs
  have hh1 : A.in1.handled = none := hh
  wp_walk using wpAny_typeOf hTI, collect_rt (A := A.in1) hh1 hit hl hne hn
  intro h' tk acc hk hacc
  show wpAny _ _ (Builtin.Tuple.tupleExact acc.toList.toArray >>= fun v => ret v) _ _ _
  unfold Builtin.Tuple.tupleExact
  refine wpAny_bind (wpAny_newObj_type ?_ (by show acc.toList.toArray.size ≤ sizeLine; simp only [Array.toArray_toList]; rw [hacc.1]; exact hn))
  refine wpAny_pure ?_
  have e : acc.toList.toArray = acc := by simp
  rw [e]
  exact h h' tk acc hk hacc
theorem call_tuple_rt {it l : Addr} {items : Array Value} {Q : Value → Shared → Prop} (hh : A.handled = none) (hit : IsRt s.heap it l ((items.size : Int) - 1)) (hl : IsTup s.heap l items) (hne : l ≠ it) (hn : items.size ≤ sizeLine)
    (hQ : ∀ (h' : Heap) (tk : Nat) (acc : Array Value), (∀ b o, b ≠ it → s.heap.get? b = some o → h'.get? b = some o) → ItemsOf (fun i v => items[items.size - 1 - i]? = some v) acc items.size →
      Q (.ref h'.objs.size) { s with heap := h'.push { cls := .type "tuple", data := .seq acc }, toks := tk }) :
    wpAny (model prog w) A (call (.type "tuple") [.ref it]) Q E s := by
  refine callType_codes (Q₁ := fun obj s₁ => s₁.TypeIs obj "tuple" ∧ Q obj s₁) F.called_tuple (F.typeCall_tuple_1 _) F.entry_object_init
    (code_tuple_new_rt (A := A.in1) hh hit hl hne hn fun h' tk acc hk hacc => ⟨⟨_, Heap.get?_push_size _ rfl, rfl⟩, hQ h' tk acc hk hacc⟩) fun obj s₁ h₁ => ?_
  exact ⟨h₁.1, F.args_object_init_2 obj _, object_init_meets F.called_tuple.init.lookup F.called_tuple.made (by decide) prog w A.in1 _ s₁ ⟨h₁.1, rfl, h₁.2⟩⟩
end
open L2
/-- tuple(reversed(x)), x a tuple: a new tuple -/
def rTupRevT (K : PySem.W.Frag) (v : V) (H1 : Hp) (Q : VK) : Prop := ∃ (a : Addr) (xs : List V), v = .ref a ∧ SqT K H1 a xs ∧ ∀ q, H1 q = none → Q (.ref q) (upd H1 q (.tup xs.reverse))
def tTupRevT (K : PySem.W.Frag) (te : TE) : TE := fun σ H Q => te σ H fun v H1 => rTupRevT K v H1 Q
theorem x_tupRevT {K : PySem.W.Frag} {te : TE} {σ : L2.St} {H : Hp} {Q : VK} (q : te σ H fun v H1 => rTupRevT K v H1 Q) : tTupRevT K te σ H Q := q
theorem x_rTupRevT {K : PySem.W.Frag} {H : Hp} {Q : VK} {a : Addr} {xs : List V} (h : SqT K H a xs) (k : ∀ p H', Fr p H → Same H H' → H' p = some (.tup xs.reverse) → Q (.ref p) H') : rTupRevT K (.ref a) H Q :=
  ⟨a, xs, rfl, h, fun q hq => k q _ ⟨hq⟩ (same_new hq) upd_same⟩
section
variable {X : Cx}
theorem pe_tupRevT {e : Expr} {te : TE} {p p2 pos pos2 : Pos} (hc : X.calm = true) (hg : Gl X "tuple") (hm : X.mg "tuple" = none) (hg2 : Gl X "reversed") (hm2 : X.mg "reversed" = none) (he : PE X e te)
    (hs : starEach [e] X.env = (false, eval e X.env) :: starEach [] X.env := by rfl)
    (hs2 : starEach [.Call (.Name "reversed" p2) [e] [] pos2] X.env = (false, eval (.Call (.Name "reversed" p2) [e] [] pos2) X.env) :: starEach [] X.env := by rfl) :
    PE X (.Call (.Name "tuple" p) [.Call (.Name "reversed" p2) [e] [] pos2] [] pos) (tTupRevT X.K te) := by
  refine ⟨fun pins s σ H Q I h => ?_⟩
  refine Call_ (ld_blt I hg hm boot_tuple (PyProof.Rows.callWith_type1 (args_cons (Call_ (ld_blt I hg2 hm2 PyProof.Rows.boot_reversed (PyProof.Rows.callWith_type1 (args_cons (thn (he.run pins s σ H _ I h) fun u s1 ⟨v, H1, I1, r1, q1⟩ => args_nil ?_) hs) hs rfl))) hs2) hs2 rfl))
  obtain ⟨a, xs, ev, hq, q⟩ := q1
  subst ev
  obtain rfl : u = Value.ref a := r1
  obtain ⟨its, rv, p', hz⟩ := I1.tuple hq
  have hl := rv.length
  have hz63 := line63
  refine call_reversed_tup p' (fun A E Q k => len_tuple p' (by simp only [List.size_toArray] <;> omega) k) (args_nil ?_)
  have k0 : ∀ b o, s1.heap.get? b = some o → (s1.heap.push (rtObj a ((its.toArray.size : Int) - 1))).get? b = some o := fun b o e => Heap.get?_push_of_some _ e
  have I2 : Inv X pins σ H1 { s1 with heap := s1.heap.push (rtObj a ((its.toArray.size : Int) - 1)), toks := s1.toks + 1 + 1 } := I1.kept (t' := s1.toks + 1 + 1) k0
  obtain ⟨f0, f1, f2, f3, f4, f5⟩ := I1.fpOk (H' := H1) (b := s1.heap.objs.size) (Nat.le_refl _) (I1.hok.fresh (Nat.le_refl _))
  obtain ⟨ol, hol, _⟩ := id p'
  have hne : a ≠ s1.heap.objs.size := Nat.ne_of_lt (Heap.lt_size hol)
  have hn : its.toArray.size ≤ sizeLine := by rw [List.size_toArray, ← rv.length]; exact hz
  refine call_tuple_rt (s := { s1 with heap := s1.heap.push (rtObj a ((its.toArray.size : Int) - 1)), toks := s1.toks + 1 + 1 }) (I1.ok.hd hc) ⟨_, Heap.get?_push_size _ rfl, rfl, rfl⟩ (p'.push _) hne hn fun h' tk acc hk hi => ?_
  have I3 : Inv X pins σ H1 { s1 with heap := h', toks := tk } := I2.turned (t' := tk) (fun b o hb e => hk b o hb e) f0 f1 f3 f4 f5
  refine ⟨.ref h'.objs.size, upd H1 h'.objs.size (.tup xs.reverse), I3.laid (t' := tk) (fun c o e => Heap.get?_push_of_some _ e) (Nat.le_refl _) (show ObjOk X.prog X.w _ _ _ (.tup xs.reverse) from ⟨by rw [List.length_reverse]; exact hz, acc.toList, vals_rev rv hi, ?_⟩), rfl, q _ (I3.hok.fresh (Nat.le_refl _))⟩
  rw [Array.toArray_toList]
  exact IsTup.new _ _
end
end Xk

namespace Xk
open PySem PySem.Spec PyProof.Rows L2
section
variable {X : Cx}
/-- max(xs) of a list of data of one shape, not empty: an item whose data is the greatest -/
def rMaxX (K : PySem.W.Frag) : List V → Hp → VK → Prop := fun vs H Q => ∃ (a : Addr) (b : V × PyData) (bs : List (V × PyData)), vs = [V.ref a] ∧ SqL K H a ((b :: bs).map (·.1)) ∧ (∀ c ∈ b :: bs, Dp K H c.1 c.2 ∧ c.2.depth ≤ 9) ∧
  PySem.W.AlikeAll ((b :: bs).map (·.2)) ∧ ∀ c ∈ b :: bs, c.2 = PySem.W.maxD b.2 (bs.map (·.2)) → Q c.1 H
theorem readsAll_of {h : Heap} : ∀ {its : List Value} {bs : List (V × PyData)}, PySem.W.EachIs (fun u (b : V × PyData) => RelV b.1 u ∧ ∃ as, Reads h u b.2 as) its bs → ∃ as, ReadsAll h its (bs.map (·.2)) as
  | _, _, .nil => ⟨_, .nil⟩
  | _, _, .cons h t => by
    obtain ⟨_, _, r⟩ := h
    obtain ⟨_, rs⟩ := readsAll_of t
    exact ⟨_, .cons r rs⟩
theorem each_at {R : Value → V × PyData → Prop} : ∀ {its : List Value} {bs : List (V × PyData)} {i : Nat} {u : Value}, PySem.W.EachIs R its bs → its[i]? = some u → ∃ b ∈ bs, R u b
  | _, _, _, _, .nil, e => by cases e
  | _, _, 0, _, .cons h _, e => ⟨_, List.mem_cons_self .., Option.some.inj (show some _ = some _ from e) ▸ h⟩
  | _, _, i + 1, _, .cons _ t, e => by
    obtain ⟨b, hb, r⟩ := each_at (i := i) t (by simpa using e)
    exact ⟨b, List.mem_cons_of_mem _ hb, r⟩
theorem depth9 : ∀ {bs : List (V × PyData)}, (∀ c ∈ bs, c.2.depth ≤ 9) → PyData.depthAll (bs.map (·.2)) ≤ 9
  | [], _ => Nat.zero_le _
  | b :: r, h => Nat.max_le.mpr ⟨h b (List.mem_cons_self ..), depth9 fun c hc => h c (List.mem_cons_of_mem _ hc)⟩
theorem k_maxX0 (hc : X.calm = true) (hu : X.A.units + 64 < cLine) : CallR X (.builtin "max") (rMaxX X.K) := by
  intro pins s σ H vs us Q I r h
  obtain ⟨a, b, bs, rfl, hs, hd, hal, q⟩ := h
  obtain ⟨its, rv, hl, hz⟩ := I.list hs
  rw [Vals.ref1 r]
  have e := eachV (R := fun u d => ∃ as, Reads s.heap u d as) rv fun c hc u ru => Dp.reads I c.2 c.1 u (hd c hc).1 ru
  obtain ⟨as, ra⟩ := readsAll_of e
  have dp := depth9 fun c hc => (hd c hc).2
  refine PySem.W.max_list_data (I.ok.hd hc) hl.isList (x := b.2) (xs := bs.map fun c : V × PyData => c.2) (as := as) (by simpa using ra) hal (by have dp' : PyData.depthAll (b.2 :: bs.map (·.2)) ≤ 9 := dp; omega) fun i v h' tk bs' hv rd hk => ?_
  obtain ⟨c, hc', r1, as1, r2⟩ := each_at e (by simpa using hv)
  have ed := (PyProof.Rows.reads_det (fun b o e _ => hk b o e) r2 rd).1
  exact ⟨c.1, H, I.kept hk, r1, q c hc' ed.symm⟩
theorem k_maxX {K : PySem.W.Frag} (hc : X.calm = true) (hu : X.A.units + 64 < cLine) (e : X.K = K) : CallR X (.builtin "max") (rMaxX K) := e ▸ k_maxX0 hc hu
theorem setR_le {w : World} {h : Heap} {a : Addr} {S : Int → Bool} {n : Nat} (R : SetR w h a S n) {ms : List Int} (hs : ∀ k, S k = true → k ∈ ms) : n ≤ ms.length := by
  obtain ⟨o, es, ep, t, _, _, _, _, nd, mem, _, _, rfl, _⟩ := R
  have z := nd.length_le_of_subset (l₂ := ms) fun k hk => hs k ((mem k).mpr hk)
  rw [List.length_map, Array.length_toList] at z
  exact z
def rSetOfM (K : PySem.W.Frag) (w : World) : List V → Hp → VK → Prop := fun vs H Q => ∃ (p : Addr) (ns : List Int), vs = [V.ref p] ∧ SqL K H p (ns.map V.int) ∧ ns.length ≤ 1000 ∧ ∀ a n, H a = none → (∀ ms : List Int, (∀ x ∈ ns, x ∈ ms) → n ≤ ms.length) → Q (.ref a) (upd H a (SetO w a (fun j => decide (j ∈ ns)) n))
theorem cr_setOfM (hc : X.calm = true) : CallR X (.type "set") (rSetOfM X.K X.w) := by
  intro pins s σ H xs us Q I r h
  obtain ⟨p0, ns, rfl, hq, hl, q⟩ := h
  cases r with
  | cons r rr =>
    cases rr
    cases r
    obtain ⟨its, rv, pt, hz⟩ := I.list hq
    have hi : IntsAre its.toArray.toList ns := ints_of_vals rv
    refine madeI (I.ok.hd hc) pt.isList hi (by unfold scanBound; omega) fun h' tk c R1 hcn k => ?_
    exact ⟨.ref _, upd H s.heap.objs.size (SetO X.w s.heap.objs.size (fun j => decide (j ∈ ns)) c), I.laid (t' := tk) k (Nat.le_refl _) (setO_new R1), rfl, q _ _ (I.hok.fresh (Nat.le_refl _)) fun ms hm => setR_le R1 fun k hk => hm k (of_decide_eq_true hk)⟩
theorem k_setOfM {K : PySem.W.Frag} {w : World} (hc : X.calm = true) (e : X.K = K) (e' : X.w = w) : CallR X (.type "set") (rSetOfM K w) := e ▸ e' ▸ cr_setOfM hc
theorem x_setOfM {K : PySem.W.Frag} {H : Hp} {Q : VK} {w : World} {p : Addr} {ns : List Int} (h : SqL K H p (ns.map V.int)) (hl : ns.length ≤ 1000) (k : ∀ a H2 n, Fr a H → Same H H2 → H2 a = some (SetO w a (fun j => decide (j ∈ ns)) n) → (∀ ms : List Int, (∀ x ∈ ns, x ∈ ms) → n ≤ ms.length) → Q (.ref a) H2) : rSetOfM K w [.ref p] H Q :=
  ⟨p, ns, rfl, h, hl, fun a n h1 h2 => k a _ n ⟨h1⟩ (same_new h1) upd_same h2⟩
theorem k_slT {K : PySem.W.Frag} (e : X.K = K) : SlR X (rSlA K) := e ▸ sl_tupA
theorem k_catT {K : PySem.W.Frag} (e : X.K = K) : OpR X (binaryOp .Add) (rCatA K) := e ▸ op_catA
end
end Xk


local macro_rules | `(tactic| wtm_at "key") => `(tactic| (first | assumption | exact rfl | fail "key"))
local macro_rules | `(tactic| wtm_at "few") => `(tactic| (first | assumption | exact Nat.le_of_ble_eq_true rfl | fail "few"))
local macro_rules | `(tactic| wtm_at "cls") => `(tactic| (first | assumption | fail "cls"))
local macro_rules | `(tactic| wtm_at "neq") => `(tactic| (first | assumption | exact Ne.symm (by assumption) | exact Xk.ne_new (by assumption) (by wtm_at "hx") | exact (Xk.ne_new (by assumption) (by wtm_at "hx")).symm | fail "neq"))
local macro_rules | `(tactic| wtm_at "hx") => `(tactic| (first | assumption | exact L2.upd_same | ((refine' (L2.upd_ne ?un).trans ?uh); (case un => wtm_at "neq"); (case uh => wtm_at "hx")) | ((refine' Xk.same_at ?ue ?uh); (case ue => assumption); (case uh => wtm_at "hx")) | ((refine' Xk.but_at ?ue ?un ?uh); (case ue => assumption); (case un => wtm_at "neq"); (case uh => wtm_at "hx")) | fail "hx"))
local macro_rules | `(tactic| wtm_at "free") => `(tactic| (first | assumption | ((refine' Xk.free_back ?uh ?ue); (case uh => assumption); (case ue => wtm_at "sm")) | ((refine' Xk.free_back ?uh ?ue); (case uh => (refine' Xk.fr_upd ?uf; case uf => assumption)); (case ue => wtm_at "sm")) | fail "free"))
local macro_rules | `(tactic| wtm_at "sm") => `(tactic| (first | assumption | exact L2.Same.refl _ | ((refine' Xk.same_mut ?ue ?uh); (case ue => wtm_at "sm"); (case uh => wtm_at "free")) | ((refine' L2.Same.trans ?ue ?uh); (case uh => assumption); (case ue => wtm_at "sm")) | ((refine' Xk.same_but ?ue ?uh ?us); (case ue => assumption); (case uh => wtm_at "free"); (case us => wtm_at "sm")) | fail "sm"))
local macro_rules | `(tactic| wtm_at "bm") => `(tactic| (first | assumption | exact Xk.But.refl _ _ | ((refine' Xk.but_mut ?ue); (case ue => wtm_at "bm")) | ((refine' Xk.but_new ?ue ?uh); (case ue => wtm_at "bm"); (case uh => wtm_at "free")) | ((refine' Xk.but_trans ?ue ?uh); (case uh => assumption); (case ue => wtm_at "bm")) | ((refine' Xk.but_trans ?ue (Xk.but_same ?uh)); (case uh => assumption); (case ue => wtm_at "bm")) | fail "bm"))
local macro_rules | `(tactic| wtm_at "sq") => `(tactic| (first | assumption | exact Xk.sq_of (by wtm_at "hx") | ((refine' Xk.sq_same ?uh ?ue); (case uh => assumption); (case ue => wtm_at "sm")) | fail "sq"))
local macro_rules | `(tactic| wtm_at "st") => `(tactic| (first | assumption | exact Xk.st_of (by wtm_at "hx") | ((refine' Xk.st_same ?uh ?ue); (case uh => assumption); (case ue => wtm_at "sm")) | fail "st"))
local macro_rules | `(tactic| wtm_at "side") => `(tactic| (first | assumption | decide | omega | (refine Or.inr ?_; omega) | (refine Or.inl ?_; omega) | (refine ⟨?_, ?_⟩ <;> omega) | (refine ⟨?_, ?_, ?_⟩ <;> first | omega | decide) | fail "side"))
local macro_rules | `(tactic| wtm_at "len") => `(tactic| (first | omega | (simp only [List.length_map, List.length_append, List.length_cons, List.length_nil, List.length_set, List.length_replicate] at *; omega) | exact Nat.le_of_ble_eq_true rfl | fail "len"))
local macro_rules | `(tactic| wtm_at "x") => `(tactic| (first
  | ((with_reducible refine' Xk.x_var ?a1 ?_); (case a1 => exact rfl))
  | (with_reducible refine Xk.x_c ?_)
  | (with_reducible refine Xk.x_op ?_)
  | (with_reducible refine Xk.x_I0 ?_)
  | ((with_reducible refine' Xk.x_I ?a1 ?_); (case a1 => wtm_at "side"))
  | (with_reducible refine Xk.x_cons ?_)
  | (with_reducible refine Xk.x_nil ?_)
  | (with_reducible refine Xk.x_cb ?_)
  | (with_reducible refine Xk.x_call ?_)
  | (with_reducible refine Xk.x_sasg ?_)
  | (with_reducible refine Xk.x_asg ?_)
  | (with_reducible refine Xk.x_ret ?_)
  | (with_reducible refine Xk.x_test ?_)
  | (with_reducible refine Xk.x_bl ?_)
  | (with_reducible refine Xk.x_isI ?_)
  | (with_reducible refine Xk.x_sif ?_)
  | (with_reducible refine Xk.x_ifS ?_)
  | (with_reducible refine Xk.x_and ?_)
  | (with_reducible refine Xk.x_or ?_)
  | (with_reducible refine Xk.x_not ?_)
  | (with_reducible refine Xk.x_B ?_)
  | (with_reducible refine Xk.x_nInt ?_)
  | (with_reducible refine Xk.x_nIntB ?_)
  | ((with_reducible refine' Xk.x_lenL ?a1 ?_); (case a1 => wtm_at "sq"))
  | ((with_reducible refine' Xk.x_lenT ?a1 ?_); (case a1 => wtm_at "st"))
  | (with_reducible refine Xk.x_un ?_)
  | (with_reducible refine Xk.x_U ?_)
  | ((with_reducible refine' Xk.x_eq ?a1 ?_); (case a1 => exact rfl))
  | ((with_reducible refine' Xk.x_ne ?a1 ?_); (case a1 => exact rfl))
  | ((with_reducible refine' Xk.x_ixL ?a1 ?a2 ?_); (case a1 => wtm_at "sq"); (case a2 => first | exact rfl | assumption | exact Xk.at_nat rfl (Xk.map_at (by assumption)) | exact Xk.at_nat rfl (by assumption)))
  | ((with_reducible refine' Xk.x_ixT ?a1 ?a2 ?_); (case a1 => wtm_at "st"); (case a2 => first | exact rfl | assumption | exact Xk.at_nat rfl (Xk.map_at (by assumption)) | exact Xk.at_nat rfl (by assumption)))
  | (with_reducible refine Xk.x_lst ?_)
  | (with_reducible refine Xk.x_tup ?_)
  | ((with_reducible refine' Xk.x_new ?a1 ?_); (case a1 => wtm_at "len"))
  | ((with_reducible refine' Xk.x_listL ?a1 ?_); (case a1 => wtm_at "sq"))
  | ((with_reducible refine' Xk.x_listT ?a1 ?_); (case a1 => wtm_at "st"))
  | ((with_reducible refine' Xk.x_tupleL ?a1 ?_); (case a1 => wtm_at "sq"))
  | ((with_reducible refine' Xk.x_tupleT ?a1 ?_); (case a1 => wtm_at "st"))
  | (with_reducible refine Xk.x_seq ?_)
  | (with_reducible refine Xk.x_next ?_)
  | (with_reducible refine Xk.x_sdrop ?_)
  | (with_reducible refine Xk.x_drop ?_)
  | (with_reducible refine Xk.x_bm ?_)
  | (with_reducible refine Xk.x_bm0 ?_)
  | ((with_reducible refine' Xk.x_tyL ?a1 ?_); (case a1 => wtm_at "sq"))
  | ((with_reducible refine' Xk.x_app ?a1 ?a2 ?_); (case a1 => wtm_at "hx"); (case a2 => wtm_at "len"))
  | (with_reducible refine Xk.x_sasgG ?_)
  | (with_reducible refine Xk.x_asgG ?_)
  | (with_reducible refine Xk.x_gName ?_)
  | ((with_reducible refine' Xk.x_gTup ?a1 ?a2 ?_); (case a1 => wtm_at "st"); (case a2 => exact rfl))
  | ((with_reducible refine' Xk.x_gLst ?a1 ?a2 ?_); (case a1 => wtm_at "sq"); (case a2 => exact rfl))
  | (with_reducible refine Xk.x_gCons ?_)
  | (with_reducible refine Xk.x_gNil ?_)
  | (with_reducible refine Xk.x_gSub ?_)
  | (with_reducible refine Xk.x_if ?_)
  | (with_reducible refine Xk.x_andV ?_)
  | (with_reducible refine Xk.x_orV ?_)
  | (with_reducible refine Xk.x_notV ?_)
  | (with_reducible refine Xk.x_chain ?_)
  | (with_reducible refine Xk.x_yes ?_)
  | (with_reducible refine Xk.x_sl ?_)
  | (with_reducible refine Xk.x_nopart ?_)
  | (with_reducible refine Xk.x_part ?_)
  | ((with_reducible refine' Xk.x_slL ?a1 ?_); (case a1 => wtm_at "sq"))
  | ((with_reducible refine' Xk.x_saug ?a1 ?_); (case a1 => exact rfl))
  | ((with_reducible refine' Xk.x_aug ?a1 ?_); (case a1 => exact rfl))
  | (with_reducible refine Xk.x_ipI ?_)
  | ((with_reducible refine' Xk.x_isiInt ?a1 ?_); (case a1 => first | exact Xk.kit_T (by decide +kernel) | exact Xk.kit_F (by decide +kernel)))
  | ((with_reducible refine' Xk.x_isiBl ?a1 ?_); (case a1 => first | exact Xk.kit_T (by decide +kernel) | exact Xk.kit_F (by decide +kernel)))
  | ((with_reducible refine' Xk.x_isiStr ?a1 ?_); (case a1 => first | exact Xk.kit_T (by decide +kernel) | exact Xk.kit_F (by decide +kernel)))
  | ((with_reducible refine' Xk.x_isiNon ?a1 ?_); (case a1 => first | exact Xk.kit_T (by decide +kernel) | exact Xk.kit_F (by decide +kernel)))
  | ((with_reducible refine' Xk.x_isiLst ?a1 ?a2 ?_); (case a1 => wtm_at "hx"); (case a2 => first | exact Xk.kit_T (by decide +kernel) | exact Xk.kit_F (by decide +kernel)))
  | ((with_reducible refine' Xk.x_isiTup ?a1 ?a2 ?_); (case a1 => wtm_at "hx"); (case a2 => first | exact Xk.kit_T (by decide +kernel) | exact Xk.kit_F (by decide +kernel)))
  | (with_reducible refine Xk.x_forR1 ?_)
  | (with_reducible refine Xk.x_forL1 ?_)
  | (with_reducible refine Xk.x_forT1 ?_)
  | (with_reducible refine Xk.x_brk ?_)
  | (with_reducible refine Xk.x_ct ?_)
  | (with_reducible refine Xk.x_retN ?_)
  | (with_reducible refine Xk.x_lcL1 ?_)
  | (with_reducible refine Xk.x_lcT1 ?_)
  | (with_reducible refine Xk.x_lcR1 ?_)
  | (with_reducible refine Xk.x_lcE1 ?_)
  | (with_reducible refine Xk.x_nocutW ?_)
  | (with_reducible refine Xk.x_nIsN ?_)
  | (with_reducible refine Xk.x_nNotN ?_)
  | (with_reducible refine Xk.x_and255 ?_)
  | (with_reducible refine Xk.x_wT ?_)
  | (with_reducible refine Xk.x_wF ?_)
  | (with_reducible refine Xk.x_lstRg ?_)
  | (with_reducible refine Xk.x_rg1 ?_)
  | ((with_reducible refine' Xk.x_nRg ?a1 ?_); (case a1 => omega))
  | (with_reducible refine L2.iteT ?_)
  | (with_reducible refine L2.iteF ?_)
  | (with_reducible refine Xk.x_nT ?_)
  | (with_reducible refine Xk.x_nF ?_)
  | ((with_reducible refine' Xk.x_dY ?a1 ?_); (case a1 => first | exact rfl | assumption | omega))
  | ((with_reducible refine' Xk.x_dN ?a1 ?_); (case a1 => first | assumption | omega | (intro z; cases z; done)))
  | ((with_reducible refine' Xk.x_ndY ?a1 ?_); (case a1 => first | exact rfl | assumption | omega))
  | ((with_reducible refine' Xk.x_ndN ?a1 ?_); (case a1 => first | assumption | omega | (intro z; cases z; done)))
  | (with_reducible refine Xk.x_lc2 ?_)
  | (with_reducible refine Xk.x_fld1 ?_)
  | ((with_reducible refine' Xk.x_rFld ?a1 ?a2 ?a3 ?a4 ?_); (case a1 => wtm_at "hx"); (case a2 => wtm_at "cls"); (case a3 => wtm_at "cls"); (case a4 => exact rfl))
  | (with_reducible refine Xk.x_ssfld ?_)
  | (with_reducible refine Xk.x_sfld ?_)
  | ((with_reducible refine' Xk.x_rSetF ?a1 ?a2 ?a3 ?a4 ?_); (case a1 => wtm_at "hx"); (case a2 => wtm_at "cls"); (case a3 => wtm_at "cls"); (case a4 => exact Nat.le_of_ble_eq_true rfl))
  | (with_reducible refine Xk.x_prop ?_)
  | ((with_reducible refine' Xk.x_rProp ?a1 ?_); (case a1 => wtm_at "hx"))
  | (with_reducible refine Xk.x_meth ?_)
  | ((with_reducible refine' Xk.x_rMeth ?a1 ?a2 ?_); (case a1 => wtm_at "hx"); (case a2 => exact rfl))
  | (with_reducible refine Xk.x_make ?_)
  | (with_reducible refine Xk.x_sdelT ?_)
  | (with_reducible refine Xk.x_delT ?_)
  | (with_reducible refine Xk.x_nMax2 ?_)
  | (with_reducible refine Xk.x_nMin2 ?_)
  | ((with_reducible refine' Xk.x_nRepS ?a1 ?a2 ?_); (case a1 => wtm_at "side"); (case a2 => decide))
  | (with_reducible refine Xk.x_inS ?_)
  | (with_reducible refine Xk.x_notInS ?_)
  | ((with_reducible refine' Xk.x_nAddS ?a1 ?_); (case a1 => wtm_at "len"))
  | ((with_reducible refine' Xk.x_nLenS ?a1 ?_); (case a1 => wtm_at "len"))
  | ((with_reducible refine' Xk.x_slS ?a1 ?_); (case a1 => wtm_at "len"))
  | (with_reducible refine Xk.x_lcS1 ?_)
  | (with_reducible refine Xk.x_forS1 ?_)
  | (with_reducible refine Xk.x_ord ?_)
  | (with_reducible refine Xk.x_dget1 ?_)
  | ((with_reducible refine' Xk.x_rGetD ?a1 ?_); (case a1 => wtm_at "hx"))
  | ((with_reducible refine' Xk.x_rGet1 ?a1 ?_); (case a1 => wtm_at "hx"))
  | (with_reducible refine Xk.x_dget2 ?_)
  | ((with_reducible refine' Xk.x_rGetE ?a1 ?_); (case a1 => wtm_at "hx"))
  | ((with_reducible refine' Xk.x_rGet2 ?a1 ?_); (case a1 => wtm_at "hx"))
  | (with_reducible refine Xk.x_dpop1 ?_)
  | ((with_reducible refine' Xk.x_rPopD ?a1 ?_); (case a1 => wtm_at "hx"))
  | (with_reducible refine Xk.x_dpop2 ?_)
  | ((with_reducible refine' Xk.x_rPopE ?a1 ?_); (case a1 => wtm_at "hx"))
  | (with_reducible refine Xk.x_din ?_)
  | ((with_reducible refine' Xk.x_rDInK ?a1 ?_); (case a1 => wtm_at "hx"))
  | (with_reducible refine Xk.x_dnew ?_)
  | (with_reducible refine Xk.x_notBl ?_)
  | (with_reducible refine Xk.x_isBl ?_)
  | (with_reducible refine Xk.x_dget ?_)
  | ((with_reducible refine' Xk.x_rDG ?a1 ?a2 ?_); (case a1 => wtm_at "hx"); (case a2 => wtm_at "key"))
  | (with_reducible refine Xk.x_sdput ?_)
  | (with_reducible refine Xk.x_dput ?_)
  | ((with_reducible refine' Xk.x_rDP ?a1 ?a2 ?a3 ?_); (case a1 => wtm_at "hx"); (case a2 => wtm_at "few"); (case a3 => wtm_at "key"))
  | (with_reducible refine Xk.x_pcons ?_)
  | (with_reducible refine Xk.x_pnil ?_)
  | (with_reducible refine Xk.x_forRev1 ?_)
  | (with_reducible refine Xk.x_forR2 ?_)
  | ((with_reducible refine' Xk.x_geP ?a1 ?a2 ?_); (case a1 => wtm_at "st"); (case a2 => wtm_at "st"))
  | ((with_reducible refine' Xk.x_ltP ?a1 ?a2 ?_); (case a1 => wtm_at "st"); (case a2 => wtm_at "st"))
  | (with_reducible refine Xk.x_lcZ1 ?_)
  | (with_reducible refine Xk.x_lcET1 ?_)
  | (with_reducible refine Xk.x_dcT1 ?_)
  | (with_reducible refine Xk.x_nLtS ?_)
  | (with_reducible refine Xk.x_nLeS ?_)
  | (with_reducible refine Xk.x_nGeS ?_)
  | (with_reducible refine Xk.x_spar ?_)
  | (with_reducible refine Xk.x_par ?_)
  | (with_reducible refine Xk.x_rPar ?_)
  | (with_reducible refine Xk.x_gSubSl ?_)
  | fail "x"))
local macro_rules | `(tactic| wtm_at "xs") => `(tactic| ((repeat wtm_at "x"); try dsimp only [L2.wipe, List.set, List.append_nil, List.cons_append, List.nil_append]))
local macro_rules | `(tactic| wtm_at "x0") => `(tactic| (dsimp only [L2.cxOf, L2.start, List.map, List.length, List.replicate, Nat.reduceAdd, Nat.reduceSub, List.cons_append, List.nil_append]))
local macro_rules | `(tactic| wtm_at "xc") => `(tactic| (dsimp only [L2.wipe, List.set, List.append_nil, List.cons_append, List.nil_append]))

namespace K37
open PySem PySem.Spec PyProof.Rows L2
def topS (i : Nat) : Stmt := PySem.Challenge.pw_crosskeep_k37_whole_acceptors_make_lawfu.main.body.getD i (.Pass ⟨0, 0, 0, 0⟩)
abbrev s_more_than_half : Stmt := topS 2
abbrev N_more_than_half : List Str := ["members", "indexes", "member"]
theorem sc_more_than_half : FnScope ["members", "indexes", "member"] ["members", "indexes"] (defScope s_more_than_half) := ⟨rfl, rfl, rfl, by decide +kernel, rfl, by decide +kernel, by decide +kernel⟩
abbrev s_Acceptor___init__ : Stmt := inClass (topS 4) 0
abbrev N_Acceptor___init__ : List Str := ["self", "promised", "accepted"]
theorem sc_Acceptor___init__ : FnScope ["self", "promised", "accepted"] ["self", "promised", "accepted"] (defScope s_Acceptor___init__) := ⟨rfl, rfl, rfl, by decide +kernel, rfl, by decide +kernel, by decide +kernel⟩
abbrev s_Acceptor_hears : Stmt := inClass (topS 4) 1
abbrev N_Acceptor_hears : List Str := ["self", "ballot"]
theorem sc_Acceptor_hears : FnScope ["self", "ballot"] ["self", "ballot"] (defScope s_Acceptor_hears) := ⟨rfl, rfl, rfl, by decide +kernel, rfl, by decide +kernel, by decide +kernel⟩
abbrev s_Acceptor_promise : Stmt := inClass (topS 4) 2
abbrev N_Acceptor_promise : List Str := ["self", "ballot"]
theorem sc_Acceptor_promise : FnScope ["self", "ballot"] ["self", "ballot"] (defScope s_Acceptor_promise) := ⟨rfl, rfl, rfl, by decide +kernel, rfl, by decide +kernel, by decide +kernel⟩
abbrev s_Acceptor_accept : Stmt := inClass (topS 4) 3
abbrev N_Acceptor_accept : List Str := ["self", "ballot", "entry"]
theorem sc_Acceptor_accept : FnScope ["self", "ballot", "entry"] ["self", "ballot", "entry"] (defScope s_Acceptor_accept) := ⟨rfl, rfl, rfl, by decide +kernel, rfl, by decide +kernel, by decide +kernel⟩
abbrev s_Acceptor_fork : Stmt := inClass (topS 4) 4
abbrev N_Acceptor_fork : List Str := ["self"]
theorem sc_Acceptor_fork : FnScope ["self"] ["self"] (defScope s_Acceptor_fork) := ⟨rfl, rfl, rfl, by decide +kernel, rfl, by decide +kernel, by decide +kernel⟩
abbrev s_Attempt___init__ : Stmt := inClass (topS 9) 0
abbrev N_Attempt___init__ : List Str := ["self", "ballot", "entry", "members"]
theorem sc_Attempt___init__ : FnScope ["self", "ballot", "entry", "members"] ["self", "ballot", "entry", "members"] (defScope s_Attempt___init__) := ⟨rfl, rfl, rfl, by decide +kernel, rfl, by decide +kernel, by decide +kernel⟩
abbrev s_Attempt_hear_promise : Stmt := inClass (topS 9) 1
abbrev N_Attempt_hear_promise : List Str := ["self", "index", "accepted"]
theorem sc_Attempt_hear_promise : FnScope ["self", "index", "accepted"] ["self", "index", "accepted"] (defScope s_Attempt_hear_promise) := ⟨rfl, rfl, rfl, by decide +kernel, rfl, by decide +kernel, by decide +kernel⟩
abbrev s_Attempt_hear_vote : Stmt := inClass (topS 9) 2
abbrev N_Attempt_hear_vote : List Str := ["self", "index"]
theorem sc_Attempt_hear_vote : FnScope ["self", "index"] ["self", "index"] (defScope s_Attempt_hear_vote) := ⟨rfl, rfl, rfl, by decide +kernel, rfl, by decide +kernel, by decide +kernel⟩
abbrev s_Attempt__is_new : Stmt := inClass (topS 9) 3
abbrev N_Attempt__is_new : List Str := ["self", "index", "heard"]
theorem sc_Attempt__is_new : FnScope ["self", "index", "heard"] ["self", "index", "heard"] (defScope s_Attempt__is_new) := ⟨rfl, rfl, rfl, by decide +kernel, rfl, by decide +kernel, by decide +kernel⟩
abbrev s_Attempt_fork : Stmt := inClass (topS 9) 4
abbrev N_Attempt_fork : List Str := ["self", "twin"]
theorem sc_Attempt_fork : FnScope ["self", "twin"] ["self"] (defScope s_Attempt_fork) := ⟨rfl, rfl, rfl, by decide +kernel, rfl, by decide +kernel, by decide +kernel⟩
abbrev s_choice_of : Stmt := topS 11
abbrev N_choice_of : List Str := ["members", "votes", "grounds"]
theorem sc_choice_of : FnScope ["members", "votes", "grounds"] ["members", "votes"] (defScope s_choice_of) := ⟨rfl, rfl, rfl, by decide +kernel, rfl, by decide +kernel, by decide +kernel⟩
abbrev s_grounds_of : Stmt := topS 12
abbrev N_grounds_of : List Str := ["members", "votes", "told", "ballot", "_", "entry", "voters", "index", "other"]
theorem sc_grounds_of : FnScope ["members", "votes", "told", "ballot", "_", "entry", "voters", "index", "other"] ["members", "votes"] (defScope s_grounds_of) := ⟨rfl, rfl, rfl, by decide +kernel, rfl, by decide +kernel, by decide +kernel⟩
abbrev s_are_grounds : Stmt := topS 13
abbrev N_are_grounds : List Str := ["members", "votes", "grounds", "ballot", "entry", "indexes", "member", "index"]
theorem sc_are_grounds : FnScope ["members", "votes", "grounds", "ballot", "entry", "indexes", "member", "index"] ["members", "votes", "grounds"] (defScope s_are_grounds) := ⟨rfl, rfl, rfl, by decide +kernel, rfl, by decide +kernel, by decide +kernel⟩
abbrev s_unlawful_ballot : Stmt := topS 14
abbrev N_unlawful_ballot : List Str := ["members", "votes", "told", "last", "ballot", "entry", "index", "_", "other"]
theorem sc_unlawful_ballot : FnScope ["members", "votes", "told", "last", "ballot", "entry", "index", "_", "other"] ["members", "votes"] (defScope s_unlawful_ballot) := ⟨rfl, rfl, rfl, by decide +kernel, rfl, by decide +kernel, by decide +kernel⟩
abbrev s__may_follow : Stmt := topS 15
abbrev N__may_follow : List Str := ["members", "told", "last", "entry", "ballot", "until", "member"]
theorem sc__may_follow : FnScope ["members", "told", "last", "entry", "ballot", "until", "member"] ["members", "told", "last", "entry"] (defScope s__may_follow) := ⟨rfl, rfl, rfl, by decide +kernel, rfl, by decide +kernel, by decide +kernel⟩
abbrev s__by_ballot : Stmt := topS 16
abbrev N__by_ballot : List Str := ["members", "votes", "told", "index", "ballot", "entry"]
theorem sc__by_ballot : FnScope ["members", "votes", "told", "index", "ballot", "entry"] ["members", "votes"] (defScope s__by_ballot) := ⟨rfl, rfl, rfl, by decide +kernel, rfl, by decide +kernel, by decide +kernel⟩
abbrev s__law_row : Stmt := topS 18
abbrev N__law_row : List Str := ["script", "k", "cell", "first", "second"]
theorem sc__law_row : FnScope ["script", "k", "cell", "first", "second"] ["script", "k"] (defScope s__law_row) := ⟨rfl, rfl, rfl, by decide +kernel, rfl, by decide +kernel, by decide +kernel⟩
abbrev s__law_take : Stmt := topS 19
abbrev N__law_take : List Str := ["box", "size", "digit"]
theorem sc__law_take : FnScope ["box", "size", "digit"] ["box", "size"] (defScope s__law_take) := ⟨rfl, rfl, rfl, by decide +kernel, rfl, by decide +kernel, by decide +kernel⟩
abbrev s__law_members : Stmt := topS 20
abbrev N__law_members : List Str := ["box", "size", "members", "index"]
theorem sc__law_members : FnScope ["box", "size", "members", "index"] ["box", "size"] (defScope s__law_members) := ⟨rfl, rfl, rfl, by decide +kernel, rfl, by decide +kernel, by decide +kernel⟩
abbrev s__law_begin : Stmt := topS 21
abbrev N__law_begin : List Str := ["box", "attempts", "soup", "members", "index", "ballot", "member"]
theorem sc__law_begin : FnScope ["box", "attempts", "soup", "members", "index", "ballot", "member"] ["box", "attempts", "soup", "members"] (defScope s__law_begin) := ⟨rfl, rfl, rfl, by decide +kernel, rfl, by decide +kernel, by decide +kernel⟩
abbrev s__law_told : Stmt := topS 22
abbrev N__law_told : List Str := ["acceptors", "member", "ballot"]
theorem sc__law_told : FnScope ["acceptors", "member", "ballot"] ["acceptors", "member", "ballot"] (defScope s__law_told) := ⟨rfl, rfl, rfl, by decide +kernel, rfl, by decide +kernel, by decide +kernel⟩
abbrev s__law_event : Stmt := topS 23
abbrev N__law_event : List Str := ["message", "acceptors", "attempts", "soup", "votes", "kind", "attempt", "member"]
theorem sc__law_event : FnScope ["message", "acceptors", "attempts", "soup", "votes", "kind", "attempt", "member"] ["message", "acceptors", "attempts", "soup", "votes"] (defScope s__law_event) := ⟨rfl, rfl, rfl, by decide +kernel, rfl, by decide +kernel, by decide +kernel⟩
abbrev s__law_sound : Stmt := topS 24
abbrev N__law_sound : List Str := ["members", "votes", "attempts", "choice", "ballot", "vote", "voters", "index"]
theorem sc__law_sound : FnScope ["members", "votes", "attempts", "choice", "ballot", "vote", "voters", "index"] ["members", "votes", "attempts"] (defScope s__law_sound) := ⟨rfl, rfl, rfl, by decide +kernel, rfl, by decide +kernel, by decide +kernel⟩
abbrev s_law : Stmt := topS 25
abbrev N_law : List Str := ["script", "box", "members", "acceptors", "member", "attempts", "soup", "votes", "k", "kind", "place", "message", "count"]
theorem sc_law : FnScope ["script", "box", "members", "acceptors", "member", "attempts", "soup", "votes", "k", "kind", "place", "message", "count"] ["script"] (defScope s_law) := ⟨rfl, rfl, rfl, by decide +kernel, rfl, by decide +kernel, by decide +kernel⟩
structure Txt (K : PySem.W.Frag) (mg : Str → Option Value) where
  C_Acceptor : Addr
  Cls_Acceptor : Cls K C_Acceptor
  g_Acceptor : mg "Acceptor" = some (.ref C_Acceptor)
  A_Acceptor_promised : NoAttr K C_Acceptor "promised"
  A_Acceptor_accepted : NoAttr K C_Acceptor "accepted"
  C_Attempt : Addr
  Cls_Attempt : Cls K C_Attempt
  g_Attempt : mg "Attempt" = some (.ref C_Attempt)
  A_Attempt_ballot : NoAttr K C_Attempt "ballot"
  A_Attempt_entry : NoAttr K C_Attempt "entry"
  A_Attempt_members : NoAttr K C_Attempt "members"
  A_Attempt_stage : NoAttr K C_Attempt "stage"
  A_Attempt_promised_by : NoAttr K C_Attempt "promised_by"
  A_Attempt_voted_by : NoAttr K C_Attempt "voted_by"
  A_Attempt_bound : NoAttr K C_Attempt "bound"
  t_ASKING : Tok
  g_ASKING : mg "ASKING" = some (.str "asking" t_ASKING)
  a_NO_BALLOT : Addr
  g_NO_BALLOT : mg "NO_BALLOT" = some (.ref a_NO_BALLOT)
  l_NO_BALLOT : ∀ H : Hp, SqT K H a_NO_BALLOT [.int 0, .int 0]
  t_TELLING : Tok
  g_TELLING : mg "TELLING" = some (.str "telling" t_TELLING)
  t_WON : Tok
  g_WON : mg "WON" = some (.str "won" t_WON)
  f_more_than_half : Addr
  d_more_than_half : FuncData
  F_more_than_half : Fun K "more_than_half" "more_than_half" s_more_than_half f_more_than_half d_more_than_half
  b_more_than_half : Binds K d_more_than_half ["members", "indexes"] []
  g_more_than_half : mg "more_than_half" = some (.ref f_more_than_half)
  f_Acceptor___init__ : Addr
  d_Acceptor___init__ : FuncData
  F_Acceptor___init__ : FunD K "__init__" "Acceptor.__init__" (defArgs s_Acceptor___init__) (defBody s_Acceptor___init__) (defScope s_Acceptor___init__) [.ref a_NO_BALLOT, .non] [] f_Acceptor___init__ d_Acceptor___init__
  D0_Acceptor___init__ : List Value
  V0_Acceptor___init__ : Vals [.ref a_NO_BALLOT, .non] D0_Acceptor___init__
  b0_Acceptor___init__ : Binds K d_Acceptor___init__ ["self", "promised", "accepted"] D0_Acceptor___init__
  D1_Acceptor___init__ : List Value
  V1_Acceptor___init__ : Vals [.non] D1_Acceptor___init__
  b1_Acceptor___init__ : Binds K d_Acceptor___init__ ["self", "promised", "accepted"] D1_Acceptor___init__
  D2_Acceptor___init__ : List Value
  V2_Acceptor___init__ : Vals [] D2_Acceptor___init__
  b2_Acceptor___init__ : Binds K d_Acceptor___init__ ["self", "promised", "accepted"] D2_Acceptor___init__
  Mk_Acceptor : Mk K C_Acceptor f_Acceptor___init__
  f_Acceptor_hears : Addr
  d_Acceptor_hears : FuncData
  F_Acceptor_hears : Fun K "hears" "Acceptor.hears" s_Acceptor_hears f_Acceptor_hears d_Acceptor_hears
  b_Acceptor_hears : Binds K d_Acceptor_hears ["self", "ballot"] []
  M_Acceptor_hears : Meth K C_Acceptor "hears" f_Acceptor_hears
  f_Acceptor_promise : Addr
  d_Acceptor_promise : FuncData
  F_Acceptor_promise : Fun K "promise" "Acceptor.promise" s_Acceptor_promise f_Acceptor_promise d_Acceptor_promise
  b_Acceptor_promise : Binds K d_Acceptor_promise ["self", "ballot"] []
  M_Acceptor_promise : Meth K C_Acceptor "promise" f_Acceptor_promise
  f_Acceptor_accept : Addr
  d_Acceptor_accept : FuncData
  F_Acceptor_accept : Fun K "accept" "Acceptor.accept" s_Acceptor_accept f_Acceptor_accept d_Acceptor_accept
  b_Acceptor_accept : Binds K d_Acceptor_accept ["self", "ballot", "entry"] []
  M_Acceptor_accept : Meth K C_Acceptor "accept" f_Acceptor_accept
  f_Acceptor_fork : Addr
  d_Acceptor_fork : FuncData
  F_Acceptor_fork : Fun K "fork" "Acceptor.fork" s_Acceptor_fork f_Acceptor_fork d_Acceptor_fork
  b_Acceptor_fork : Binds K d_Acceptor_fork ["self"] []
  M_Acceptor_fork : Meth K C_Acceptor "fork" f_Acceptor_fork
  f_Attempt___init__ : Addr
  d_Attempt___init__ : FuncData
  F_Attempt___init__ : Fun K "__init__" "Attempt.__init__" s_Attempt___init__ f_Attempt___init__ d_Attempt___init__
  b_Attempt___init__ : Binds K d_Attempt___init__ ["self", "ballot", "entry", "members"] []
  Mk_Attempt : Mk K C_Attempt f_Attempt___init__
  f_Attempt_hear_promise : Addr
  d_Attempt_hear_promise : FuncData
  F_Attempt_hear_promise : Fun K "hear_promise" "Attempt.hear_promise" s_Attempt_hear_promise f_Attempt_hear_promise d_Attempt_hear_promise
  b_Attempt_hear_promise : Binds K d_Attempt_hear_promise ["self", "index", "accepted"] []
  M_Attempt_hear_promise : Meth K C_Attempt "hear_promise" f_Attempt_hear_promise
  f_Attempt_hear_vote : Addr
  d_Attempt_hear_vote : FuncData
  F_Attempt_hear_vote : Fun K "hear_vote" "Attempt.hear_vote" s_Attempt_hear_vote f_Attempt_hear_vote d_Attempt_hear_vote
  b_Attempt_hear_vote : Binds K d_Attempt_hear_vote ["self", "index"] []
  M_Attempt_hear_vote : Meth K C_Attempt "hear_vote" f_Attempt_hear_vote
  f_Attempt__is_new : Addr
  d_Attempt__is_new : FuncData
  F_Attempt__is_new : Fun K "_is_new" "Attempt._is_new" s_Attempt__is_new f_Attempt__is_new d_Attempt__is_new
  b_Attempt__is_new : Binds K d_Attempt__is_new ["self", "index", "heard"] []
  M_Attempt__is_new : Meth K C_Attempt "_is_new" f_Attempt__is_new
  f_Attempt_fork : Addr
  d_Attempt_fork : FuncData
  F_Attempt_fork : Fun K "fork" "Attempt.fork" s_Attempt_fork f_Attempt_fork d_Attempt_fork
  b_Attempt_fork : Binds K d_Attempt_fork ["self"] []
  M_Attempt_fork : Meth K C_Attempt "fork" f_Attempt_fork
  f_choice_of : Addr
  d_choice_of : FuncData
  F_choice_of : Fun K "choice_of" "choice_of" s_choice_of f_choice_of d_choice_of
  b_choice_of : Binds K d_choice_of ["members", "votes"] []
  g_choice_of : mg "choice_of" = some (.ref f_choice_of)
  f_grounds_of : Addr
  d_grounds_of : FuncData
  F_grounds_of : Fun K "grounds_of" "grounds_of" s_grounds_of f_grounds_of d_grounds_of
  b_grounds_of : Binds K d_grounds_of ["members", "votes"] []
  g_grounds_of : mg "grounds_of" = some (.ref f_grounds_of)
  f_are_grounds : Addr
  d_are_grounds : FuncData
  F_are_grounds : Fun K "are_grounds" "are_grounds" s_are_grounds f_are_grounds d_are_grounds
  b_are_grounds : Binds K d_are_grounds ["members", "votes", "grounds"] []
  g_are_grounds : mg "are_grounds" = some (.ref f_are_grounds)
  f_unlawful_ballot : Addr
  d_unlawful_ballot : FuncData
  F_unlawful_ballot : Fun K "unlawful_ballot" "unlawful_ballot" s_unlawful_ballot f_unlawful_ballot d_unlawful_ballot
  b_unlawful_ballot : Binds K d_unlawful_ballot ["members", "votes"] []
  g_unlawful_ballot : mg "unlawful_ballot" = some (.ref f_unlawful_ballot)
  f__may_follow : Addr
  d__may_follow : FuncData
  F__may_follow : Fun K "_may_follow" "_may_follow" s__may_follow f__may_follow d__may_follow
  b__may_follow : Binds K d__may_follow ["members", "told", "last", "entry"] []
  g__may_follow : mg "_may_follow" = some (.ref f__may_follow)
  f__by_ballot : Addr
  d__by_ballot : FuncData
  F__by_ballot : Fun K "_by_ballot" "_by_ballot" s__by_ballot f__by_ballot d__by_ballot
  b__by_ballot : Binds K d__by_ballot ["members", "votes"] []
  g__by_ballot : mg "_by_ballot" = some (.ref f__by_ballot)
  f__law_row : Addr
  d__law_row : FuncData
  F__law_row : Fun K "_law_row" "_law_row" s__law_row f__law_row d__law_row
  b__law_row : Binds K d__law_row ["script", "k"] []
  g__law_row : mg "_law_row" = some (.ref f__law_row)
  f__law_take : Addr
  d__law_take : FuncData
  F__law_take : Fun K "_law_take" "_law_take" s__law_take f__law_take d__law_take
  b__law_take : Binds K d__law_take ["box", "size"] []
  g__law_take : mg "_law_take" = some (.ref f__law_take)
  f__law_members : Addr
  d__law_members : FuncData
  F__law_members : Fun K "_law_members" "_law_members" s__law_members f__law_members d__law_members
  b__law_members : Binds K d__law_members ["box", "size"] []
  g__law_members : mg "_law_members" = some (.ref f__law_members)
  f__law_begin : Addr
  d__law_begin : FuncData
  F__law_begin : Fun K "_law_begin" "_law_begin" s__law_begin f__law_begin d__law_begin
  b__law_begin : Binds K d__law_begin ["box", "attempts", "soup", "members"] []
  g__law_begin : mg "_law_begin" = some (.ref f__law_begin)
  f__law_told : Addr
  d__law_told : FuncData
  F__law_told : Fun K "_law_told" "_law_told" s__law_told f__law_told d__law_told
  b__law_told : Binds K d__law_told ["acceptors", "member", "ballot"] []
  g__law_told : mg "_law_told" = some (.ref f__law_told)
  f__law_event : Addr
  d__law_event : FuncData
  F__law_event : Fun K "_law_event" "_law_event" s__law_event f__law_event d__law_event
  b__law_event : Binds K d__law_event ["message", "acceptors", "attempts", "soup", "votes"] []
  g__law_event : mg "_law_event" = some (.ref f__law_event)
  f__law_sound : Addr
  d__law_sound : FuncData
  F__law_sound : Fun K "_law_sound" "_law_sound" s__law_sound f__law_sound d__law_sound
  b__law_sound : Binds K d__law_sound ["members", "votes", "attempts"] []
  g__law_sound : mg "_law_sound" = some (.ref f__law_sound)
  f_law : Addr
  d_law : FuncData
  F_law : Fun K "law" "law" s_law f_law d_law
  b_law : Binds K d_law ["script"] []
  g_law : mg "law" = some (.ref f_law)
  m_all : mg "all" = none
  m_any : mg "any" = none
  m_int : mg "int" = none
  m_len : mg "len" = none
  m_list : mg "list" = none
  m_range : mg "range" = none
  m_set : mg "set" = none
  m_sorted : mg "sorted" = none
  m_tuple : mg "tuple" = none
section
variable {P : Program} {w : World} {K : PySem.W.Frag} {mg : Str → Option Value} {base : Heap}
def sp__law_row (K : PySem.W.Frag) : Sp := fun vs H Q _ => ∃ (a : Addr) (k : Int) (ns : List Int), vs = [.ref a, .int k] ∧ SqL K H a (ns.map V.int) ∧ ns.length ≤ 63 ∧ 0 ≤ k ∧ k ≤ 1000 ∧ ∀ n : Int, 0 ≤ n → Q (.int n) H
theorem ok__law_row (T : Txt K mg) : FnOk P w K mg base CX0 1 T.f__law_row T.d__law_row ["script", "k"] (sp__law_row K) := by
  refine T.F__law_row.ok sc__law_row (fun vs H Q E h => ?_) (fun cdv A outer s H vs Q E hr h => ?_)
  · obtain ⟨a, k, ns, rfl, _⟩ := h
    rfl
  obtain ⟨a, k, ns, rfl, hS, hl, hk, hk2, q⟩ := h
  refine ⟨_, (pss_cons (ps_set (i := 2) sc__law_row.nd rfl (Or.inl rfl) (pe_int))
      (Evl.pss_cut (ps_if (pt_cmpR op_gt (pe_callB (Xk.k_len (K := K) (by rfl)) (by rfl) T.m_len PySem.boot_len (pa_cons (pv 0) pa_nil)) (pe_int) (nomark _)) (pss_one (ps_set (i := 2) sc__law_row.nd rfl (Or.inl rfl) (pe_ix (Xk.k_ixL (K := K) (by rfl)) (pv 0) (pe_op op_mod (pe_callTy Xk.call_nInt (by rfl) T.m_int (by decide +kernel) (pa_cons (pv 1) pa_nil)) (pe_callB (Xk.k_len (K := K) (by rfl)) (by rfl) T.m_len PySem.boot_len (pa_cons (pv 0) pa_nil))) (fun _ _ => rfl)))) pss_nil)
      (Evl.pss_cut (ps_if (pt_cmpR op_lt (pv 2) (pe_int) (nomark _)) (pss_one (ps_set (i := 2) sc__law_row.nd rfl (Or.inl rfl) (pe_op op_sub (pe_int) (pe_op op_mul (pe_int) (pv 2))))) pss_nil)
      (Evl.pss_cut (ps_if (PW.pt (pw_and (pt_cmpR op_ge (pv 2) (pe_op op_pow (pe_int) (pe_int)) (nomark _)) (pw_and1 (pt_cmpR op_lt (pv 1) (pe_callB (Xk.k_len (K := K) (by rfl)) (by rfl) T.m_len PySem.boot_len (pa_cons (pv 0) pa_nil)) (nomark _))))) (pss_one (ps_ret (pv 2))) pss_nil)
      (pss_cons (ps_set (i := 3) sc__law_row.nd rfl (Or.inl rfl) (pe_op op_mod (pe_callTy Xk.call_nInt (by rfl) T.m_int (by decide +kernel) (pa_cons (pe_op op_add (pe_op op_add (pe_op op_mul (pv 2) (pe_int)) (pe_op op_mul (pe_op op_add (pv 1) (pe_int)) (pe_int))) (pe_callB (Xk.k_len (K := K) (by rfl)) (by rfl) T.m_len PySem.boot_len (pa_cons (pv 0) pa_nil))) pa_nil)) (pe_int)))
      (pss_cons (ps_set (i := 4) sc__law_row.nd rfl (Or.inl rfl) (pe_op op_mod (pe_callTy Xk.call_nInt (by rfl) T.m_int (by decide +kernel) (pa_cons (pe_op op_add (pe_op op_add (pe_op op_mul (pv 3) (pv 3)) (pe_op op_mul (pv 2) (pe_int))) (pv 1)) pa_nil)) (pe_int)))
      (pss_one (ps_ret (pe_op op_add (pe_op op_mul (pv 4) (pe_int)) (pe_op op_mod (pe_callTy Xk.call_nInt (by rfl) T.m_int (by decide +kernel) (pa_cons (pe_op op_mul (pv 3) (pe_int)) pa_nil)) (pe_int))))))))))), ?_⟩
  wtm_at "x0"
  wtm_at "xs"
  refine Xk.x_cut (fun σ' H' => H = H' ∧ ∃ c : Int, σ' = [some (.ref a), some (.int k), some (.int c), none, none]) ?_ ?_
  · wtm_at "xs"
    refine Xk.x_itd (fun h => ?_) (fun h => ?_)
    · wtm_at "xs"
      rw [List.length_map] at h ⊢
      have h1 : k % (ns.length : Int) < ns.length := Int.emod_lt_of_pos _ h
      have h2 : 0 ≤ k % (ns.length : Int) := Int.emod_nonneg _ (by omega)
      obtain ⟨j, hj⟩ := Int.eq_ofNat_of_zero_le h2
      rw [hj] at h1 ⊢
      have h3 : j < ns.length := by omega
      refine Xk.x_ixL hS (atI_nat (j := j) (by rw [List.getElem?_map, List.getElem?_eq_getElem h3]; rfl)) ?_
      exact ⟨rfl, _, rfl⟩
    · wtm_at "xs"
      exact ⟨rfl, _, rfl⟩
  rintro σ' H' ⟨rfl, c, rfl⟩
  refine Xk.x_cut (fun σ' H' => H = H' ∧ ∃ c : Int, 0 ≤ c ∧ σ' = [some (.ref a), some (.int k), some (.int c), none, none]) ?_ ?_
  · wtm_at "xs"
    refine Xk.x_itd (fun h => ?_) (fun h => ?_)
    · wtm_at "xs"
      exact ⟨rfl, _, by omega, rfl⟩
    · wtm_at "xs"
      exact ⟨rfl, _, by omega, rfl⟩
  rintro σ' H' ⟨rfl, c, hc, rfl⟩
  refine Xk.x_cut (fun σ' H' => H = H' ∧ σ' = [some (.ref a), some (.int k), some (.int c), none, none]) ?_ ?_
  · wtm_at "xs"
    refine Xk.x_itd (fun h => ?_) (fun h => ?_)
    · wtm_at "xs"
      refine Xk.x_itd (fun h => ?_) (fun h => ?_)
      · wtm_at "xs"
        exact q _ hc
      · wtm_at "xs"
        exact ⟨rfl, rfl⟩
    · wtm_at "xs"
      exact ⟨rfl, rfl⟩
  rintro σ' H' ⟨rfl, rfl⟩
  wtm_at "xs"
  exact q _ (by omega)
def sp__law_take (K : PySem.W.Frag) : Sp := fun vs H Q _ => ∃ (a : Addr) (z n : Int), vs = [.ref a, .int z] ∧ H a = some (.lst [.int n]) ∧ 0 < z ∧ z < 1073741824 ∧ (0 ≤ n % z → n % z < z → Q (.int (n % z)) (upd H a (.lst [.int (n / z)])))
theorem ok__law_take (T : Txt K mg) : FnOk P w K mg base CX0 1 T.f__law_take T.d__law_take ["box", "size"] (sp__law_take K) := by
  refine T.F__law_take.ok sc__law_take (fun vs H Q E h => ?_) (fun cdv A outer s H vs Q E hr h => ?_)
  · obtain ⟨a, z, n, rfl, _⟩ := h
    rfl
  obtain ⟨a, z, n, rfl, hb, h0, h1, q⟩ := h
  refine ⟨_, (pss_cons (ps_set (i := 2) sc__law_take.nd rfl (Or.inl rfl) (pe_op op_mod (pe_callTy Xk.call_nInt (by rfl) T.m_int (by decide +kernel) (pa_cons (pe_ix (Xk.k_ixL (K := K) (by rfl)) (pv 0) (pe_int) (fun _ _ => rfl)) pa_nil)) (pv 1)))
      (pss_cons (ps_asg (pe_op op_fdiv (pe_ix (Xk.k_ixL (K := K) (by rfl)) (pv 0) (pe_int) (fun _ _ => rfl)) (pv 1)) (pg_sub (pv 0) (pe_int) set_list))
      (pss_one (ps_ret (pv 2))))), ?_⟩
  wtm_at "x0"
  wtm_at "xs"
  refine Xk.x_setL (j := 0) hb rfl ?_
  wtm_at "xs"
  exact q (Int.emod_nonneg _ (by omega)) (Int.emod_lt_of_pos _ h0)
def sp__law_members (K : PySem.W.Frag) : Sp := fun vs H Q _ => ∃ (b : Addr) (z n : Int), vs = [.ref b, .int z] ∧ H b = some (.lst [.int n]) ∧ 1 ≤ z ∧ z ≤ 7 ∧
  ∀ p H' (ms : List Int) m, Xk.Fr p H → Xk.But b H H' → H' b = some (.lst [.int m]) → H' p = some (.tup (ms.map V.int)) → ms.length ≤ 5 → 1 ≤ ms.length → ms.Pairwise (· < ·) → Q (.ref p) H'
theorem ok__law_members (T : Txt K mg) : FnOk P w K mg base CX0 2 T.f__law_members T.d__law_members ["box", "size"] (sp__law_members K) := by
  refine T.F__law_members.ok sc__law_members (fun vs H Q E h => ?_) (fun cdv A outer s H vs Q E hr h => ?_)
  · obtain ⟨b, z, n, rfl, _⟩ := h
    rfl
  obtain ⟨b, z, n, rfl, hb, h0, h1, q⟩ := h
  refine ⟨_, (pss_cons (ps_set (i := 2) sc__law_members.nd rfl (Or.inl rfl) (pe_slice (Xk.k_slL (K := K) (by rfl)) (pe_lc (own := [("index", 3)]) (g := gName 3) rfl sc__law_members.nd  (pi_range1 (by rfl) T.m_range (pa_cons (pv 1) pa_nil)) (blkOk_by (N := N__law_members) (sc := defScope s__law_members) (own := [("index", 3)]) (by decide +kernel)) (fun _ _ _ _ _ => pg_name (i := 3) sc__law_members.nd rfl (Or.inl rfl)) (fun _ _ _ _ _ => pts_one (pt_cmpR op_gt (pe_call (ok__law_take T) (hr.mono (by decide)) (by rfl) T.g__law_take T.F__law_take.kp T.b__law_take .nil pass0 (pa_cons (pv 0) (pa_cons (pe_int) pa_nil))) (pe_int) (nomark _))) (fun _ _ _ _ _ => (pv 3))) po_none (po_some (pe_int))))
      (Evl.pss_cut (ps_if (pt_cmpR op_eq (pe_callB (Xk.k_len (K := K) (by rfl)) (by rfl) T.m_len PySem.boot_len (pa_cons (pv 2) pa_nil)) (pe_int) (nomark _)) (pss_one (ps_set (i := 2) sc__law_members.nd rfl (Or.inl rfl) (pe_lst (pa_cons (pe_call (ok__law_take T) (hr.mono (by decide)) (by rfl) T.g__law_take T.F__law_take.kp T.b__law_take .nil pass0 (pa_cons (pv 0) (pa_cons (pv 1) pa_nil))) pa_nil)))) pss_nil)
      (pss_one (ps_ret (pe_callTy (Xk.k_tuple (K := K) (by rfl)) (by rfl) T.m_tuple (by decide +kernel) (pa_cons (pv 2) pa_nil)))))), ?_⟩
  wtm_at "x0"
  wtm_at "xs"
  refine Xk.x_lcR (fun Dl i H' => Xk.But b H H' ∧ (∃ m : Int, H' b = some (.lst [.int m])) ∧ ∃ ys : List Int, H' Dl = some (.lst (ys.map V.int)) ∧ ys.length ≤ i ∧ ys.Pairwise (· < ·) ∧ ∀ y ∈ ys, y < (i : Int)) ⟨by omega, by omega⟩ ?_ ?_ ?_
  · intro Dl hD
    exact ⟨Xk.but_same (Xk.same_fr hD), ⟨_, by wtm_at "hx"⟩, [], upd_same, Nat.le_refl _, .nil, fun y hy => by cases hy⟩
  · rintro Dl hD i H' hi ⟨s2, ⟨m, hm⟩, ys, h2, hy, hnd, hlt⟩
    wtm_at "xs"
    refine ⟨rfl, ?_⟩
    wtm_at "xs"
    refine ⟨_, 3, m, rfl, hm, by decide, by decide, fun e1 e2 => ?_⟩
    wtm_at "xs"
    refine Xk.x_itd (fun h => ?_) (fun h => ?_)
    · wtm_at "xs"
      refine ⟨_, by wtm_at "hx", Xk.size_lt (by wtm_at "len"), by wtm_at "bm", ⟨_, by wtm_at "hx"⟩, ys ++ [(i : Int)], ?_, by wtm_at "len", ?_, ?_⟩
      · rw [upd_same, Xk.snoc_map]
      · refine List.pairwise_append.mpr ⟨hnd, List.pairwise_singleton .., fun x hx y hy => ?_⟩
        have h5 := hlt x hx
        rw [List.mem_singleton.mp hy]
        exact h5
      · intro y hy
        rcases List.mem_append.mp hy with hy | hy
        · have := hlt y hy
          omega
        · rw [List.mem_singleton.mp hy]
          omega
    · wtm_at "xs"
      exact ⟨by wtm_at "bm", ⟨_, by wtm_at "hx"⟩, ys, by wtm_at "hx", by omega, hnd, fun y hy => by have := hlt y hy; omega⟩
  · rintro Dl H1 hD ⟨s2, ⟨m, hm⟩, ys, h2, hy, hnd, hlt⟩
    wtm_at "xs"
    intro p H2 hp s3 h3
    have hne : b ≠ p := Xk.ne_new hp hm
    rw [Xk.cut_take (k := 5) (n := 5) rfl, ← List.map_take] at h3
    have hzl : (ys.take 5).length ≤ 5 := by rw [List.length_take]; omega
    have hzn : (ys.take 5).Pairwise (· < ·) := hnd.sublist (List.take_sublist _ _)
    generalize ys.take 5 = zs at *
    wtm_at "xs"
    refine Xk.x_cut (fun σ' H' => ∃ (c : Addr) (ms : List Int) (m : Int), σ' = [some (.ref b), some (.int z), some (.ref c), none] ∧ Xk.But b H H' ∧ H' b = some (.lst [.int m]) ∧ H' c = some (.lst (ms.map V.int)) ∧ ms.length ≤ 5 ∧ 1 ≤ ms.length ∧ ms.Pairwise (· < ·)) ?_ ?_
    · wtm_at "xs"
      refine Xk.x_itd (fun h => ?_) (fun h => ?_)
      · wtm_at "xs"
        refine ⟨_, _, m, rfl, by wtm_at "hx", by omega, by omega, fun e1 e2 => ?_⟩
        wtm_at "xs"
        intro c H3 hc s4 h4
        wtm_at "xs"
        exact ⟨_, [m % z], _, rfl, by wtm_at "bm", by wtm_at "hx", h4, by simp, by simp, by simp⟩
      · wtm_at "xs"
        have hz1 : 1 ≤ zs.length := by
          rcases Nat.eq_zero_or_pos zs.length with e | e
          · exact absurd (by rw [List.length_map, e]; rfl) h
          · exact e
        exact ⟨_, zs, _, rfl, by wtm_at "bm", by wtm_at "hx", h3, hzl, hz1, hzn⟩
    · rintro σ' H3 ⟨c, ms, m2, rfl, s4, h4, h5, hl, hl1, hl2⟩
      wtm_at "xs"
      intro t H4 ht s5 h6
      wtm_at "xs"
      exact q t H4 ms m2 (Xk.none_but hb s4 h4 ht) (by wtm_at "bm") (by wtm_at "hx") h6 hl hl1 hl2
def sp_more_than_half (K : PySem.W.Frag) : Sp := fun vs H Q _ => ∃ (a c : Addr) (ms is : List Int), vs = [.ref a, .ref c] ∧ SqT K H a (ms.map V.int) ∧ (SqL K H c (is.map V.int) ∨ SqT K H c (is.map V.int)) ∧ ms.length ≤ 50 ∧
  ∀ H', Same H H' → Q (.bl (decide ((ms.length : Int) < 2 * ((ms.filter fun m => decide (m ∈ is)).length : Int)))) H'
theorem ok_more_than_half (T : Txt K mg) : FnOk P w K mg base CX0 1 T.f_more_than_half T.d_more_than_half ["members", "indexes"] (sp_more_than_half K) := by
  refine T.F_more_than_half.ok sc_more_than_half (fun vs H Q E h => ?_) (fun cdv A outer s H vs Q E hr h => ?_)
  · obtain ⟨a, c, ms, is, rfl, _⟩ := h
    rfl
  obtain ⟨a, c, ms, is, rfl, hS, hI, hl, q⟩ := h
  refine ⟨_, (pss_one (ps_ret (pe_cmpR op_gt (pe_op op_mul (pe_int) (pe_callB (Xk.k_len (K := K) (by rfl)) (by rfl) T.m_len PySem.boot_len (pa_cons (pe_lc (own := [("member", 2)]) (g := gName 2) rfl sc_more_than_half.nd  (pi_tup (pv 0)) (blkOk_by (N := N_more_than_half) (sc := defScope s_more_than_half) (own := [("member", 2)]) (by decide +kernel)) (fun _ _ _ _ _ => pg_name (i := 2) sc_more_than_half.nd rfl (Or.inl rfl)) (fun _ _ _ _ _ => pts_one (pt_cmpR (Xk.k_in (K := K) (by rfl)) (pv 2) (pv 1) (by rfl))) (fun _ _ _ _ _ => (pv 2))) pa_nil))) (pe_callB (Xk.k_len (K := K) (by rfl)) (by rfl) T.m_len PySem.boot_len (pa_cons (pv 0) pa_nil)) (nomark _)))), ?_⟩
  wtm_at "x0"
  wtm_at "xs"
  refine Xk.x_lcT (xs := ms.map V.int) (fun Dl i H' => Same H H' ∧ H' Dl = some (.lst (((ms.take i).filter fun m => decide (m ∈ is)).map V.int))) hS ?_ ?_ ?_ ?_
  · intro Dl hD
    exact ⟨Xk.same_fr hD, upd_same⟩
  · rintro Dl i H' hD ⟨s2, _⟩
    wtm_at "st"
  · rintro Dl hD i x H' hi ⟨s2, h2⟩
    obtain ⟨m, hm, rfl⟩ := Xk.of_map_at hi
    have hi2 := Xk.at_lt hm
    wtm_at "xs"
    refine ⟨rfl, ?_⟩
    wtm_at "xs"
    have hin : ∀ R : VK, R (.bl (decide (m ∈ is))) H' → rIn K false (.int m) (.ref c) H' R := fun R r => by
      have r2 : R (.bl (inV (.int m) (is.map V.int))) H' := by
        rw [Xk.in_ints]
        exact r
      rcases hI with h | h
      · exact Xk.x_inL (Xk.sq_same h s2) rfl (Xk.flat_ints _) r2
      · exact Xk.x_inT (Xk.st_same h s2) rfl (Xk.flat_ints _) r2
    refine hin _ ?_
    wtm_at "xs"
    refine Xk.x_itd (fun h3 => ?_) (fun h3 => ?_)
    · wtm_at "xs"
      refine ⟨_, h2, Xk.size_lt ?_, by wtm_at "sm", ?_⟩
      · have := List.length_filter_le (fun m => decide (m ∈ is)) (ms.take i)
        have h5 := List.length_take_le i ms
        rw [List.length_map]
        omega
      · rw [upd_same, List.take_add_one, hm, List.filter_append, Xk.snoc_map]
        simp [h3]
    · wtm_at "xs"
      refine ⟨s2, ?_⟩
      rw [h2, List.take_add_one, hm, List.filter_append]
      simp [h3]
  · rintro Dl H' hD ⟨s2, h2⟩
    rw [List.length_map, List.take_length] at h2
    wtm_at "xs"
    rw [List.length_map, List.length_map]
    exact q _ s2
--CUT--
theorem fr_back {p : Addr} {H H' : Hp} (h : Xk.Fr p H') (s : Same H H') : Xk.Fr p H := ⟨by
  cases e : H p with
  | none => rfl
  | some o =>
    have z := s _ _ e
    rw [h.is] at z
    cases z⟩
/-! ### votes -/
/-- the entries that come -/
inductive En
  | wish (n : Int)
deriving DecidableEq
instance : LT En := ⟨fun _ _ => True⟩
instance : OfNat En 6 := ⟨.wish 0⟩
def ent : En → PyData
  | .wish n => .tuple [.str "batch", .tuple [.tuple [.str "wish", .int n]]]
theorem ent_eqv {j k : En} (hj : j < 6) (hk : k < 6) : PyData.eqv (ent j) (ent k) = decide (j = k) := by
  cases j
  cases k
  simp only [ent, PyData.eqv, PyData.eqvAll]
  have c1 : (Str.ofString "batch" == Str.ofString "batch") = true := by decide +kernel
  have c2 : (Str.ofString "wish" == Str.ofString "wish") = true := by decide +kernel
  rw [Bool.eq_iff_iff]
  simp [c1, c2]
/-- tuples stay -/
structure Tu (K : PySem.W.Frag) (H H' : Hp) : Prop where
  st : Xk.St K H H'
  tp : ∀ a xs, H a = some (.tup xs) → H' a = some (.tup xs)
theorem Tu.same {H H' : Hp} (s : Same H H') : Tu K H H' := ⟨Xk.tt_same s, fun a xs h => s _ _ h⟩
theorem Tu.trans {H H' H'' : Hp} (s : Tu K H H') (t : Tu K H' H'') : Tu K H H'' := ⟨s.st.trans t.st, fun a xs h => t.tp _ _ (s.tp _ _ h)⟩
theorem tu_but {H H' : Hp} {b : Addr} {o : HO} (hi : H b = some o) (h1 : ∀ xs, o ≠ .tup xs) (h2 : ∀ u xs, o ≠ .frz u (.tup xs)) (e : Xk.But b H H') : Tu K H H' :=
  ⟨Xk.tt_but hi h1 h2 e, fun a xs h => e _ _ (fun z => by rw [z, hi] at h; exact h1 xs (Option.some.inj h)) h⟩
theorem tu_butL {H H' : Hp} {b : Addr} {ys : List V} (hi : H b = some (.lst ys)) (e : Xk.But b H H') : Tu K H H' := tu_but hi (fun _ z => by cases z) (fun _ _ z => by cases z) e
theorem tu_butT {H H' : Hp} {b : Addr} {ys : List (List Key × V)} (hi : H b = some (.dT ys)) (e : Xk.But b H H') : Tu K H H' := tu_but hi (fun _ z => by cases z) (fun _ _ z => by cases z) e
theorem tu_mutL {H : Hp} {b : Addr} {o : HO} {ys : List V} (hi : H b = some (.lst ys)) : Tu K H (upd H b o) := tu_butL hi (Xk.but_mut (Xk.But.refl _ _))
theorem tu_mutT {H : Hp} {b : Addr} {o : HO} {ys : List (List Key × V)} (hi : H b = some (.dT ys)) : Tu K H (upd H b o) := tu_butT hi (Xk.but_mut (Xk.But.refl _ _))
structure Vt where
  a : Addr
  b : Addr
  ix : Int
  t : Int
  x : Int
  e : V
  k : En
/-- a vote in memory -/
structure VtAt (K : PySem.W.Frag) (H : Hp) (v : Vt) : Prop where
  tp : SqT K H v.a [.int v.ix, .ref v.b, v.e]
  bl : H v.b = some (.tup [.int v.t, .int v.x])
  en : Xk.Pk K H 4 v.e (ent v.k)
  kl : v.k < 6
theorem VtAt.tu {H H' : Hp} {v : Vt} (h : VtAt K H v) (s : Tu K H H') : VtAt K H' v := ⟨s.st.t _ _ h.tp, s.tp _ _ h.bl, h.en.st s.st, h.kl⟩
theorem VtAt.same {H H' : Hp} {v : Vt} (h : VtAt K H v) (s : Same H H') : VtAt K H' v := h.tu (.same s)
def VsAt (K : PySem.W.Frag) (H : Hp) (p : Addr) (vs : List Vt) : Prop := SqL K H p (vs.map fun v => V.ref v.a) ∧ ∀ v ∈ vs, VtAt K H v
theorem VsAt.same {H H' : Hp} {p : Addr} {vs : List Vt} (h : VsAt K H p vs) (s : Same H H') : VsAt K H' p vs := ⟨Xk.sq_same h.1 s, fun v hv => (h.2 v hv).same s⟩
/-- votes for the same with the same ballot -/
def alk (u v : Vt) : Bool := decide (u.t = v.t) && (decide (u.x = v.x) && decide (u.k = v.k))
def vot (ms : List Int) (vs : List Vt) (v : Vt) : List Int := ms.filter fun m => vs.any fun u => decide (u.ix = m) && alk u v
def hit (ms : List Int) (vs : List Vt) (v : Vt) : Bool := decide (v.ix ∈ ms) && decide (ms.length < 2 * (vot ms vs v).length)
/-- ballots in their order -/
def blt (u v : Vt) : Prop := u.t < v.t ∨ (u.t = v.t ∧ u.x < v.x)
/-- the vote that tells the choice -/
structure First (ms : List Int) (vs : List Vt) (i : Nat) (v : Vt) : Prop where
  at_ : vs[i]? = some v
  ht : hit ms vs v = true
  ls : ∀ j u, vs[j]? = some u → hit ms vs u = true → blt v u ∨ (v.t = u.t ∧ v.x = u.x ∧ i ≤ j)
theorem First.uniq {ms : List Int} {vs : List Vt} {i j : Nat} {u v : Vt} (h : First ms vs i u) (g : First ms vs j v) : u = v := by
  have h1 := h.ls j v g.at_ g.ht
  have h2 := g.ls i u h.at_ h.ht
  unfold blt at h1 h2
  have e : i = j := by omega
  subst e
  exact Option.some.inj (h.at_.symm.trans g.at_)
theorem alk_k {u v w : Vt} (h : alk u v = true) : alk w u = alk w v := by
  unfold alk at *
  simp only [Bool.and_eq_true, decide_eq_true_eq] at h
  rw [h.1, h.2.1, h.2.2]
--CUT--
def ky (t x : Int) : List Key := [Sum.inl t, Sum.inl x]
theorem ky_inj {t x t' x' : Int} (h : ky t x = ky t' x') : t = t' ∧ x = x' := by
  unfold ky at h
  injection h with h1 h2
  injection h2 with h2 _
  exact ⟨Sum.inl.inj h1, Sum.inl.inj h2⟩
def grp (ms : List Int) (vs : List Vt) (t x : Int) : List Vt := vs.filter fun v => decide (v.ix ∈ ms) && (decide (v.t = t) && decide (v.x = x))
theorem grp_yes {ms : List Int} {vs : List Vt} {v : Vt} (h : v.ix ∈ ms) : grp ms (vs ++ [v]) v.t v.x = grp ms vs v.t v.x ++ [v] := by
  unfold grp
  rw [List.filter_append]
  simp [h]
theorem grp_no {ms : List Int} {vs : List Vt} {v : Vt} {t x : Int} (h : ¬ (v.ix ∈ ms ∧ v.t = t ∧ v.x = x)) : grp ms (vs ++ [v]) t x = grp ms vs t x := by
  unfold grp
  rw [List.filter_append]
  have e : (decide (v.ix ∈ ms) && (decide (v.t = t) && decide (v.x = x))) = false := by
    rw [Bool.eq_false_iff]
    intro z
    simp only [Bool.and_eq_true, decide_eq_true_eq] at z
    exact h z
  simp [e]
/-- what is told ballot by ballot -/
structure TdOk (K : PySem.W.Frag) (H0 H : Hp) (d : Addr) (ms : List Int) (vs : List Vt) (kvs : List (List Key × V)) (n : Nat) : Prop where
  hd : H d = some (.dT kvs)
  fd : Xk.Fr d H0
  nd : (kvs.map (·.1)).Nodup
  ks : ∃ ks : List (List Int), kvs.map (·.1) = ks.map (fun k => k.map Sum.inl) ∧ (∀ k ∈ ks, ∃ t x, k = [t, x]) ∧ ks.length ≤ n
  at_ : ∀ t x, (valV kvs (ky t x) = none ∧ grp ms vs t x = []) ∨ ∃ (l : Addr) (ps : List (Addr × Vt)), valV kvs (ky t x) = some (.ref l) ∧ Xk.Fr l H0 ∧ H l = some (.lst (ps.map fun p : Addr × Vt => V.ref p.1)) ∧ (∀ p ∈ ps, SqT K H p.1 [.int p.2.ix, p.2.e]) ∧ ps.map (·.2) = grp ms vs t x
  inj : ∀ t x t' x' l, valV kvs (ky t x) = some (.ref l) → valV kvs (ky t' x') = some (.ref l) → t = t' ∧ x = x'
theorem TdOk.same {H0 H H' : Hp} {d : Addr} {ms : List Int} {vs : List Vt} {kvs : List (List Key × V)} {n : Nat} (h : TdOk K H0 H d ms vs kvs n) (s : Same H H') : TdOk K H0 H' d ms vs kvs n :=
  ⟨s _ _ h.hd, h.fd, h.nd, h.ks, fun t x => (h.at_ t x).imp_right fun ⟨l, ps, h1, h2, h3, h4, h5⟩ => ⟨l, ps, h1, h2, s _ _ h3, fun p hp => Xk.st_same (h4 p hp) s, h5⟩, h.inj⟩
theorem TdOk.skip {H0 H : Hp} {d : Addr} {ms : List Int} {vs : List Vt} {kvs : List (List Key × V)} {n : Nat} (h : TdOk K H0 H d ms vs kvs n) {v : Vt} (hv : v.ix ∉ ms) : TdOk K H0 H d ms (vs ++ [v]) kvs n :=
  ⟨h.hd, h.fd, h.nd, h.ks, fun t x => by
    rw [grp_no (fun z => hv z.1)]
    exact h.at_ t x, h.inj⟩
theorem TdOk.key {H0 H H' : Hp} {d z : Addr} {ms : List Int} {vs : List Vt} {kvs : List (List Key × V)} {n : Nat} (h : TdOk K H0 H d ms vs kvs n) {t x : Int} (hn : valV kvs (ky t x) = none) (s0 : Same H0 H) (hz : Xk.Fr z H) (s : Same H H') (hz' : H' z = some (.lst [])) :
    TdOk K H0 (upd H' d (.dT (putK kvs (ky t x) (.ref z)))) d ms vs (putK kvs (ky t x) (.ref z)) (n + 1) := by
  have hd := h.hd
  have nzd : z ≠ d := (Xk.ne_new hz hd).symm
  have tt : Tu K H' (upd H' d (.dT (putK kvs (ky t x) (.ref z)))) := tu_mutT (s _ _ hd)
  refine ⟨upd_same, h.fd, nd_putK _ h.nd hn, ?_, fun t' x' => ?_, fun t1 x1 t2 x2 l h1 h2 => ?_⟩
  · obtain ⟨ks, h1, h2, h3⟩ := h.ks
    refine ⟨ks ++ [[t, x]], ?_, fun k hk => ?_, ?_⟩
    · rw [putK_new _ hn, List.map_append, List.map_append, h1]
      rfl
    · rcases List.mem_append.mp hk with hk | hk
      · exact h2 k hk
      · exact ⟨t, x, List.mem_singleton.mp hk⟩
    · rw [List.length_append]
      exact Nat.add_le_add_right h3 1
  · by_cases e : ky t' x' = ky t x
    · obtain ⟨rfl, rfl⟩ := ky_inj e
      refine .inr ⟨z, [], by rw [valV_put, if_pos rfl], fr_back hz s0, (upd_ne nzd).trans hz', fun p hp => (by cases hp), ?_⟩
      rcases h.at_ t' x' with ⟨_, g⟩ | ⟨l, ps, g, _⟩
      · exact g.symm
      · rw [hn] at g
        cases g
    · rcases h.at_ t' x' with ⟨g1, g2⟩ | ⟨l, ps, g1, g2, g3, g4, g5⟩
      · exact .inl ⟨by rw [valV_put, if_neg e]; exact g1, g2⟩
      · refine .inr ⟨l, ps, by rw [valV_put, if_neg e]; exact g1, g2, ?_, fun p hp => tt.st.t _ _ (Xk.st_same (g4 p hp) s), g5⟩
        exact (upd_ne (fun z => by rw [z, hd] at g3; cases g3)).trans (s _ _ g3)
  · have nz : ∀ t x, valV kvs (ky t x) ≠ some (.ref z) := fun t x e => by
      rcases h.at_ t x with ⟨g, _⟩ | ⟨l, ps, g1, _, g3, _⟩
      · rw [g] at e
        cases e
      · rw [g1] at e
        cases e
        rw [hz.is] at g3
        cases g3
    rw [valV_put] at h1 h2
    by_cases e1 : ky t1 x1 = ky t x
    · by_cases e2 : ky t2 x2 = ky t x
      · exact ky_inj (e1.trans e2.symm)
      · rw [if_pos e1] at h1
        rw [if_neg e2] at h2
        cases h1
        exact absurd h2 (nz _ _)
    · by_cases e2 : ky t2 x2 = ky t x
      · rw [if_neg e1] at h1
        rw [if_pos e2] at h2
        cases h2
        exact absurd h1 (nz _ _)
      · rw [if_neg e1] at h1
        rw [if_neg e2] at h2
        exact h.inj _ _ _ _ _ h1 h2
theorem TdOk.add {H0 H : Hp} {d l q : Addr} {ms : List Int} {vs : List Vt} {kvs : List (List Key × V)} {n : Nat} (h : TdOk K H0 H d ms vs kvs n) {v : Vt} (hv : v.ix ∈ ms) (hl : valV kvs (ky v.t v.x) = some (.ref l)) {ps : List (Addr × Vt)} (hp : H l = some (.lst (ps.map fun p : Addr × Vt => V.ref p.1)))
    (h4 : ∀ p ∈ ps, SqT K H p.1 [.int p.2.ix, p.2.e]) (h5 : ps.map (·.2) = grp ms vs v.t v.x) (hq : SqT K H q [.int v.ix, v.e]) :
    TdOk K H0 (upd H l (.lst (ps.map (fun p : Addr × Vt => V.ref p.1) ++ [.ref q]))) d ms (vs ++ [v]) kvs n := by
  have tt : Tu K H (upd H l (.lst (ps.map (fun p : Addr × Vt => V.ref p.1) ++ [.ref q]))) := tu_mutL hp
  refine ⟨(upd_ne (fun z => by have := h.hd; rw [z, hp] at this; cases this)).trans h.hd, h.fd, h.nd, h.ks, fun t x => ?_, h.inj⟩
  by_cases e : v.t = t ∧ v.x = x
  · obtain ⟨rfl, rfl⟩ := e
    refine .inr ⟨l, ps ++ [(q, v)], hl, ?_, by rw [upd_same, List.map_append]; rfl, fun p hp => ?_, by rw [List.map_append, h5, grp_yes hv]; rfl⟩
    · rcases h.at_ v.t v.x with ⟨g, _⟩ | ⟨l', ps', g1, g2, _⟩
      · rw [g] at hl
        cases hl
      · rw [g1] at hl
        cases hl
        exact g2
    · rcases List.mem_append.mp hp with hp | hp
      · exact tt.st.t _ _ (h4 p hp)
      · rw [List.mem_singleton.mp hp]
        exact tt.st.t _ _ hq
  · rw [grp_no (fun z => e z.2)]
    rcases h.at_ t x with g | ⟨l', ps', g1, g2, g3, g4, g5⟩
    · exact .inl g
    · refine .inr ⟨l', ps', g1, g2, (upd_ne (fun z => ?_)).trans g3, fun p hp => tt.st.t _ _ (g4 p hp), g5⟩
      rw [z] at g1
      exact e (h.inj _ _ _ _ _ hl g1)
def Ne (ms : List Int) (vs : List Vt) (kvs : List (List Key × V)) : Prop := ∀ t x w, valV kvs (ky t x) = some w → grp ms vs t x ≠ []
theorem Ne.snoc {ms : List Int} {vs : List Vt} {kvs : List (List Key × V)} (h : Ne ms vs kvs) (v : Vt) : Ne ms (vs ++ [v]) kvs := fun t x w e g => by
  unfold grp at g
  rw [List.filter_append, List.append_eq_nil_iff] at g
  exact h t x w e g.1
theorem Ne.key {ms : List Int} {vs : List Vt} {kvs : List (List Key × V)} (h : Ne ms vs kvs) {v : Vt} (hv : v.ix ∈ ms) (z : V) : Ne ms (vs ++ [v]) (putK kvs (ky v.t v.x) z) := fun t x w e => by
  rw [valV_put] at e
  by_cases c : ky t x = ky v.t v.x
  · obtain ⟨rfl, rfl⟩ := ky_inj c
    rw [grp_yes hv]
    exact fun z => by simp at z
  · rw [if_neg c] at e
    exact h.snoc v t x w e
def sp__by_ballot (K : PySem.W.Frag) : Sp := fun vs' H Q _ => ∃ m p ms vs, vs' = [.ref m, .ref p] ∧ SqT K H m (ms.map V.int) ∧ VsAt K H p vs ∧ vs.length ≤ 100 ∧
  ∀ H' d kvs n, Same H H' → TdOk K H H' d ms vs kvs n → n ≤ 100 → Ne ms vs kvs → Q (.ref d) H'
theorem ok__by_ballot (T : Txt K mg) : FnOk P w K mg base CX0 1 T.f__by_ballot T.d__by_ballot ["members", "votes"] (sp__by_ballot K) := by
  refine T.F__by_ballot.ok sc__by_ballot (fun vs H Q E h => ?_) (fun cdv A outer s H vs Q E hr h => ?_)
  · obtain ⟨m, p, ms, vs, rfl, _⟩ := h
    rfl
  obtain ⟨m, p, ms, vs, rfl, hm, hv, hl, q⟩ := h
  refine ⟨_, (pss_cons (ps_set (i := 2) sc__by_ballot.nd rfl (Or.inl rfl) (pe_dnewT))
      (pss_cons (ps_for PassesOwn.never rfl (pi_list (pv 1)) (pg_tup rfl (pgs_cons (pg_name (i := 3) sc__by_ballot.nd rfl (Or.inl rfl)) (pgs_cons (pg_name (i := 4) sc__by_ballot.nd rfl (Or.inl rfl)) (pgs_cons (pg_name (i := 5) sc__by_ballot.nd rfl (Or.inl rfl)) pgs_nil)))) (pss_one (ps_if (pt_cmpR (Xk.k_in (K := K) (by rfl)) (pv 3) (pv 0) (by rfl)) (pss_one (ps_expr (pe_bm PySem.F.plainAttrs_list PySem.F.slot_list_append PySem.F.type_list_append mt_append (Xk.pe_dsetT (hu_of hr) (pv 2) (pv 4) (pe_lst pa_nil) ⟨by rfl, by rfl, by rfl, by rfl⟩) (pa_cons (pe_tup (pa_cons (pv 3) (pa_cons (pv 5) pa_nil))) pa_nil)))) pss_nil)))
      (pss_one (ps_ret (pv 2))))), ?_⟩
  wtm_at "x0"
  wtm_at "xs"
  intro d hd
  have T0 : TdOk K H (upd H d (.dT [])) d ms [] [] 0 := ⟨upd_same, ⟨hd⟩, .nil, ⟨[], rfl, fun k hk => (by cases hk), Nat.le_refl _⟩, fun t x => .inl ⟨rfl, rfl⟩, fun t x t' x' l h => (by cases h)⟩
  have s0 : Same H (upd H d (.dT [])) := Xk.same_new hd
  generalize upd H d (.dT []) = H1 at *
  clear hd
  wtm_at "xs"
  refine Xk.x_forL (xs := vs.map fun v => V.ref v.a) (fun i σ' H' => ∃ (y3 y4 y5 : Option V) (kvs : List (List Key × V)) (n : Nat), σ' = [some (.ref m), some (.ref p), some (.ref d), y3, y4, y5] ∧ Same H H' ∧ TdOk K H H' d ms (vs.take i) kvs n ∧ n ≤ i ∧ Ne ms (vs.take i) kvs) (Xk.sq_same hv.1 s0)
    ⟨_, _, _, [], 0, rfl, s0, T0, Nat.le_refl _, fun t x w e => (by cases e)⟩ (fun i σ' H' _ ⟨_, _, _, _, _, _, s, _⟩ => Xk.sq_same hv.1 s) ?_ ?_
  · clear T0 s0
    rintro i a σ' H2 hi ⟨y3, y4, y5, kvs, n, rfl, s2, T2, hn, hne⟩
    obtain ⟨v, hvi, rfl⟩ := Xk.of_map_at hi
    have hva := (hv.2 v (List.mem_of_getElem? hvi)).same s2
    have hil := Xk.at_lt hvi
    have hvt := hva.tp
    have hm2 := Xk.st_same hm s2
    have et : vs.take (i + 1) = vs.take i ++ [v] := by
      rw [List.take_add_one, hvi]
      rfl
    wtm_at "xs"
    refine Xk.x_inT hm2 rfl (Xk.flat_ints _) ?_
    rw [Xk.in_ints]
    wtm_at "xs"
    refine Xk.x_itd (fun h3 => ?_) (fun h3 => ?_)
    · have fin : ∀ (H3 : Hp) (kvs3 : List (List Key × V)) (n3 : Nat) (w : V) (R : VK), Same H H3 → TdOk K H H3 d ms (vs.take i) kvs3 n3 → valV kvs3 (ky v.t v.x) = some w → (∀ H4, Same H H4 → TdOk K H H4 d ms (vs.take (i + 1)) kvs3 n3 → R .non H4) →
          tyV K "list" w H3 ∧ tCons (tTup (tCons (tVar 3) (tCons (tVar 5) tNil))) tNil [some (.ref m), some (.ref p), some (.ref d), some (.int v.ix), some (.ref v.b), some v.e] H3 fun xs H4 => rAppend w xs H4 R := fun H3 kvs3 n3 w R s3 T3 hw r => by
        rcases T3.at_ v.t v.x with ⟨g, _⟩ | ⟨l, ps, g1, g2, g3, g4, g5⟩
        · rw [g] at hw
          cases hw
        · rw [g1] at hw
          cases hw
          have hpl : ps.length ≤ 100 := by
            have z := congrArg List.length g5
            rw [List.length_map] at z
            unfold grp at z
            have z2 := List.length_filter_le (fun u : Vt => decide (u.ix ∈ ms) && (decide (u.t = v.t) && decide (u.x = v.x))) (vs.take i)
            rw [List.length_take] at z2
            omega
          refine Xk.x_tyL (Xk.sq_of g3) ?_
          wtm_at "xs"
          intro q1 H4 hq1 s4 hq4
          have T4 := T3.same s4
          have hl4 := s4 _ _ g3
          wtm_at "xs"
          refine r _ (Xk.same_mut (s3.trans s4) g2) ?_
          rw [et]
          exact T4.add h3 g1 hl4 (fun p hp => Xk.st_same (g4 p hp) s4) g5 (Xk.st_of hq4)
      wtm_at "xs"
      refine ⟨.ref d, rfl, d, kvs, rfl, T2.hd, .ref v.b, rfl, ?_⟩
      wtm_at "xs"
      intro z H3 hz s3 hz3
      refine ⟨kvs, ky v.t v.x, v.b, s3 _ _ T2.hd, rfl, s3 _ _ hva.bl, ?_, fun w hw => ?_, fun hnn => ?_⟩
      · obtain ⟨ks, k1, _, k3⟩ := T2.ks
        have z := congrArg List.length k1
        rw [List.length_map, List.length_map] at z
        rw [sizeLine_eq]
        omega
      · exact fin H3 kvs n w _ (s2.trans s3) (T2.same s3) hw fun H4 s4 T4 => ⟨_, _, _, kvs, n, rfl, s4, T4, by omega, by rw [et]; exact hne.snoc v⟩
      · have T3 := T2.key hnn s2 hz s3 hz3
        have s3' : Same H (upd H3 d (.dT (putK kvs (ky v.t v.x) (.ref z)))) := Xk.same_mut (s2.trans s3) T2.fd
        exact fin _ _ _ _ _ s3' T3 (by rw [valV_put, if_pos rfl]) fun H4 s4 T4 => ⟨_, _, _, _, _, rfl, s4, T4, by omega, by rw [et]; exact hne.key h3 _⟩
    · wtm_at "xs"
      exact ⟨_, _, _, kvs, n, rfl, s2, by rw [et]; exact T2.skip h3, by omega, by rw [et]; exact hne.snoc v⟩
  · rintro σ' H2 ⟨y3, y4, y5, kvs, n, rfl, s2, T2, hn, hne⟩
    rw [List.length_map] at T2 hn hne
    rw [List.take_length] at T2 hne
    wtm_at "xs"
    exact q H2 d kvs n s2 T2 (by omega) hne
--CUT--
theorem filt_ix {α : Type} {f : α → Bool} : ∀ {vs : List α} {j : Nat} {v : α}, (vs.filter f)[j]? = some v → ∃ i, vs[i]? = some v ∧ (vs.take i).filter f = (vs.filter f).take j
  | [], j, v, h => by cases h
  | u :: r, j, v, h => by
    by_cases c : f u = true
    · rw [List.filter_cons, if_pos c] at h ⊢
      cases j with
      | zero =>
        refine ⟨0, ?_, rfl⟩
        exact h
      | succ j =>
        obtain ⟨i, h1, h2⟩ := filt_ix (vs := r) (j := j) h
        refine ⟨i + 1, h1, ?_⟩
        rw [List.take_succ_cons, List.take_succ_cons, List.filter_cons, if_pos c, h2]
    · rw [List.filter_cons, if_neg c] at h ⊢
      obtain ⟨i, h1, h2⟩ := filt_ix (vs := r) (j := j) h
      refine ⟨i + 1, h1, ?_⟩
      rw [List.take_succ_cons, List.filter_cons, if_neg c, h2]
theorem in_grp {ms : List Int} {vs : List Vt} {t x : Int} {v : Vt} : v ∈ grp ms vs t x ↔ v ∈ vs ∧ v.ix ∈ ms ∧ v.t = t ∧ v.x = x := by
  unfold grp
  rw [List.mem_filter]
  simp only [Bool.and_eq_true, decide_eq_true_eq]
theorem in_vot {ms : List Int} {vs : List Vt} {v : Vt} {m : Int} : m ∈ vot ms vs v ↔ m ∈ ms ∧ ∃ u ∈ vs, u.ix = m ∧ u.t = v.t ∧ u.x = v.x ∧ u.k = v.k := by
  unfold vot alk
  rw [List.mem_filter, List.any_eq_true]
  simp only [Bool.and_eq_true, decide_eq_true_eq]
theorem asc_eq {a b : List Int} (ha : a.Pairwise (· < ·)) (hb : b.Pairwise (· < ·)) (h : ∀ k, k ∈ a ↔ k ∈ b) : a = b := by
  have p : a.Perm b := (List.perm_ext_iff_of_nodup (ha.imp fun h => Int.ne_of_lt h) (hb.imp fun h => Int.ne_of_lt h)).mpr h
  exact p.eq_of_pairwise (fun x y _ _ h1 h2 => absurd h1 (Int.lt_asymm h2)) ha hb
theorem filt_in {ms : List Int} {p : Int → Bool} : (ms.filter fun m => decide (m ∈ ms.filter p)) = ms.filter p := by
  refine List.filter_congr fun m hm => ?_
  cases e : p m with
  | true => exact decide_eq_true (List.mem_filter.mpr ⟨hm, e⟩)
  | false => exact decide_eq_false fun z => Bool.noConfusion (e.symm.trans (List.mem_filter.mp z).2)
theorem ky_of {k : List Int} {t x : Int} (h : k.map Sum.inl = ky t x) : k = [t, x] := by
  match k, h with
  | [], h => cases h
  | [a], h => cases h
  | a :: b :: [], h =>
    injection h with h1 h2
    injection h2 with h2 _
    rw [Sum.inl.inj h1, Sum.inl.inj h2]
  | a :: b :: c :: r, h => cases h
theorem vmem {kvs : List (List Key × V)} {k : List Key} {v : V} (h : valV kvs k = some v) : (k, v) ∈ kvs := by
  unfold valV at h
  obtain ⟨p, hp, rfl⟩ := Option.map_eq_some_iff.mp h
  have h1 := List.mem_of_find?_eq_some hp
  have h2 := List.find?_some hp
  have h3 : p.1 = k := of_decide_eq_true h2
  rw [← h3]
  exact h1
theorem vhas {kvs : List (List Key × V)} {k : List Key} (h : k ∈ kvs.map (·.1)) : ∃ v, valV kvs k = some v := by
  cases c : valV kvs k with
  | some v => exact ⟨v, rfl⟩
  | none =>
    exfalso
    obtain ⟨p, hp, e2⟩ := List.mem_map.mp h
    unfold valV at c
    rw [Option.map_eq_none_iff, List.find?_eq_none] at c
    exact c p hp (decide_eq_true e2)
theorem key_zs {H0 H : Hp} {d : Addr} {ms : List Int} {vs : List Vt} {kvs : List (List Key × V)} {n : Nat} (T : TdOk K H0 H d ms vs kvs n) {ks : List (List Int)} (h1 : kvs.map (·.1) = ks.map fun k => k.map Sum.inl) {zs : List (Addr × List Int)} (hp : (zs.map (·.2)).Perm ks) {v : Vt} (hv : v ∈ vs) (hm : v.ix ∈ ms) : ∃ (i : Nat) (z : Addr × List Int), zs[i]? = some z ∧ z.2 = [v.t, v.x] := by
  rcases T.at_ v.t v.x with ⟨_, g⟩ | ⟨l, ps, g, _⟩
  · have z := in_grp (t := v.t) (x := v.x) |>.mpr ⟨hv, hm, rfl, rfl⟩
    rw [g] at z
    cases z
  · have m1 : ky v.t v.x ∈ kvs.map (·.1) := List.mem_map.mpr ⟨_, vmem g, rfl⟩
    rw [h1] at m1
    obtain ⟨k, hk, e⟩ := List.mem_map.mp m1
    have e2 := ky_of e
    subst e2
    obtain ⟨z, hz, e3⟩ := List.mem_map.mp (hp.mem_iff.mpr hk)
    obtain ⟨i, hi⟩ := List.mem_iff_getElem?.mp hz
    exact ⟨i, z, hi, e3⟩
theorem le_pair {t x t' x' : Int} (h : [t, x] ≤ [t', x']) : t < t' ∨ (t = t' ∧ x ≤ x') := by
  have h := List.not_lt.mpr h
  rw [List.cons_lt_cons_iff, List.cons_lt_cons_iff] at h
  have h2 : ¬ (([] : List Int) < []) := List.not_lt_nil _
  omega
theorem first_of {ms : List Int} {vs : List Vt} {zs : List (Addr × List Int)} {i j : Nat} {z : Addr × List Int} {v : Vt} (hz : zs[i]? = some z) (e : z.2 = [v.t, v.x]) (pw : (zs.map (·.2)).Pairwise (· ≤ ·)) (hall : ∀ u ∈ vs, u.ix ∈ ms → ∃ (i : Nat) (z : Addr × List Int), zs[i]? = some z ∧ z.2 = [u.t, u.x])
    (hj : (grp ms vs v.t v.x)[j]? = some v) (hit_ : hit ms vs v = true) (h1 : ∀ (i' : Nat) (z' : Addr × List Int), i' < i → zs[i']? = some z' → ∀ u ∈ vs, z'.2 = [u.t, u.x] → hit ms vs u = false) (h2 : ∀ (j' : Nat) (u : Vt), j' < j → (grp ms vs v.t v.x)[j']? = some u → hit ms vs u = false) : ∃ i0, First ms vs i0 v := by
  obtain ⟨i0, g1, g2⟩ := filt_ix hj
  refine ⟨i0, g1, hit_, fun j2 u hu hh => ?_⟩
  have hum := List.mem_of_getElem? hu
  have hix : u.ix ∈ ms := by
    unfold hit at hh
    rw [Bool.and_eq_true, decide_eq_true_eq] at hh
    exact hh.1
  obtain ⟨i2, z2, hz2, e2⟩ := hall u hum hix
  have hle : v.t < u.t ∨ (v.t = u.t ∧ v.x ≤ u.x) := by
    rcases Nat.lt_trichotomy i2 i with c | c | c
    · rw [h1 i2 z2 c hz2 u hum e2] at hh
      cases hh
    · subst c
      rw [hz] at hz2
      cases hz2
      rw [e] at e2
      injection e2 with a1 a2
      injection a2 with a2 _
      exact .inr ⟨a1, Int.le_of_eq a2⟩
    · have a1 : (zs.map (·.2))[i]? = some [v.t, v.x] := by rw [List.getElem?_map, hz, ← e]; rfl
      have a2 : (zs.map (·.2))[i2]? = some [u.t, u.x] := by rw [List.getElem?_map, hz2, ← e2]; rfl
      obtain ⟨l1, q1⟩ := List.getElem?_eq_some_iff.mp a1
      obtain ⟨l2, q2⟩ := List.getElem?_eq_some_iff.mp a2
      have q := List.pairwise_iff_getElem.mp pw i i2 l1 l2 c
      rw [q1, q2] at q
      exact le_pair q
  by_cases same : v.t = u.t ∧ v.x = u.x
  · refine .inr ⟨same.1, same.2, ?_⟩
    rcases Nat.lt_or_ge j2 i0 with c | c
    · exfalso
      have mu : u ∈ (vs.take i0).filter fun w => decide (w.ix ∈ ms) && (decide (w.t = v.t) && decide (w.x = v.x)) := by
        refine List.mem_filter.mpr ⟨List.mem_of_getElem? (i := j2) (by rw [List.getElem?_take_of_lt c]; exact hu), ?_⟩
        simp [hix, same.1, same.2]
      rw [g2] at mu
      obtain ⟨j', hj'⟩ := List.mem_iff_getElem?.mp mu
      have lj : j' < j := by
        have := Xk.at_lt hj'
        rw [List.length_take] at this
        omega
      rw [List.getElem?_take_of_lt lj] at hj'
      rw [h2 j' u lj hj'] at hh
      cases hh
    · exact c
  · unfold blt
    omega
--CUT--
theorem x_eqEnt {H : Hp} {Q : VK} {a b : V} {j k : En} (h : Xk.Pk K H 4 a (ent j)) (h' : Xk.Pk K H 4 b (ent k)) (hj : j < 6) (hk : k < 6) (q : Q (.bl (decide (j = k))) H) : rEqD K a b H Q := by
  refine ⟨_, _, h.1, h'.1, Xk.shaped_of h.lay (Nat.le_trans h.2.2 (by decide)), Xk.shaped_of h'.lay (Nat.le_trans h'.2.2 (by decide)), ?_⟩
  rw [ent_eqv hj hk]
  exact q
/-! ### what lawful votes are -/
def l2 (a b : Int × Int) : Prop := a.1 < b.1 ∨ (a.1 = b.1 ∧ a.2 < b.2)
def bp (v : Vt) : Int × Int := (v.t, v.x)
theorem l2_irr {a : Int × Int} (h : l2 a a) : False := by
  unfold l2 at h
  omega
theorem l2_tr {a b c : Int × Int} (h : l2 a b) (g : l2 b c) : l2 a c := by
  unfold l2 at *
  omega
theorem l2_eq {a b : Int × Int} (h : ¬ l2 a b) (g : ¬ l2 b a) : a = b := by
  unfold l2 at *
  exact Prod.ext (by omega) (by omega)
theorem l2_not {a b c : Int × Int} (h : ¬ l2 b a) (g : l2 b c) : l2 a c := by
  unfold l2 at *
  omega
theorem l2_nn {a b c : Int × Int} (h : ¬ l2 a b) (g : ¬ l2 b c) : ¬ l2 a c := by
  unfold l2 at *
  omega
def One (ms : List Int) (vs : List Vt) (B : Int × Int) : Prop := ∀ u ∈ vs, ∀ v ∈ vs, u.ix ∈ ms → v.ix ∈ ms → bp u = B → bp v = B → u.k = v.k
def Maj (ms S : List Int) : Prop := ms.length < 2 * (ms.filter fun m => decide (m ∈ S)).length
def Lets (vs : List Vt) (S : List Int) (B : Int × Int) (k : En) : Prop := ∀ u ∈ vs, u.ix ∈ S → l2 (bp u) B → (∀ w ∈ vs, w.ix ∈ S → l2 (bp w) B → ¬ l2 (bp u) (bp w)) → u.k = k
def May (ms : List Int) (vs : List Vt) (B : Int × Int) (k : En) : Prop := ∃ S : List Int, (∀ m ∈ S, m ∈ ms) ∧ Maj ms S ∧ Lets vs S B k
def Gd (ms : List Int) (vs : List Vt) (B : Int × Int) : Prop := One ms vs B ∧ ∀ u ∈ vs, u.ix ∈ ms → bp u = B → May ms vs B u.k
structure Least (ms : List Int) (vs : List Vt) (B : Int × Int) : Prop where
  at_ : ∃ v ∈ vs, v.ix ∈ ms ∧ bp v = B
  bad : ¬ Gd ms vs B
  low : ∀ v ∈ vs, v.ix ∈ ms → l2 (bp v) B → Gd ms vs (bp v)
theorem Least.uniq {ms : List Int} {vs : List Vt} {B C : Int × Int} (h : Least ms vs B) (g : Least ms vs C) : B = C := by
  obtain ⟨u, h1, h2, h3⟩ := h.at_
  obtain ⟨v, g1, g2, g3⟩ := g.at_
  refine l2_eq (fun z => ?_) fun z => ?_
  · exact h.bad (h3 ▸ g.low u h1 h2 (h3 ▸ z))
  · exact g.bad (g3 ▸ h.low v g1 g2 (g3 ▸ z))
theorem Maj.mono {ms S T : List Int} (h : Maj ms S) (hs : ∀ m ∈ ms, m ∈ S → m ∈ T) : Maj ms T := by
  unfold Maj at *
  have z : (ms.filter fun m => decide (m ∈ S)).length ≤ (ms.filter fun m => decide (m ∈ T)).length := by
    clear h
    induction ms with
    | nil => exact Nat.le_refl _
    | cons m r ih =>
      have i2 := ih fun x hx => hs x (List.mem_cons_of_mem _ hx)
      rw [List.filter_cons, List.filter_cons]
      by_cases c : m ∈ S
      · rw [if_pos (decide_eq_true c), if_pos (decide_eq_true (hs m (List.mem_cons_self ..) c))]
        exact Nat.succ_le_succ i2
      · rw [if_neg (by rw [decide_eq_false c]; decide)]
        split
        · exact Nat.le_succ_of_le i2
        · exact i2
  omega
theorem ex_max : ∀ L : List (Int × Int), L ≠ [] → ∃ c ∈ L, ∀ d ∈ L, ¬ l2 c d
  | [], h => absurd rfl h
  | [a], _ => ⟨a, List.mem_cons_self .., fun d hd => by
    rw [List.mem_singleton.mp hd]
    exact l2_irr⟩
  | a :: b :: r, _ => by
    obtain ⟨c, h1, h2⟩ := ex_max (b :: r) (fun z => by cases z)
    by_cases g : l2 c a
    · refine ⟨a, List.mem_cons_self .., fun d hd => ?_⟩
      rcases List.mem_cons.mp hd with rfl | hd
      · exact l2_irr
      · exact fun z => h2 d hd (l2_tr g z)
    · refine ⟨c, List.mem_cons_of_mem _ h1, fun d hd => ?_⟩
      rcases List.mem_cons.mp hd with rfl | hd
      · exact g
      · exact h2 d hd
/-- the last vote of each below a ballot -/
structure La (ms : List Int) (vs : List Vt) (B : Int × Int) (f : Int → Option (Int × Int)) : Prop where
  no : ∀ m ∈ ms, f m = none → ∀ u ∈ vs, u.ix = m → ¬ l2 (bp u) B
  yes : ∀ m C, f m = some C → m ∈ ms ∧ l2 C B ∧ (∃ u ∈ vs, u.ix = m ∧ bp u = C) ∧ ∀ u ∈ vs, u.ix = m → l2 (bp u) B → ¬ l2 C (bp u)
theorem La.case1 {ms : List Int} {vs : List Vt} {B : Int × Int} {f : Int → Option (Int × Int)} (h : La ms vs B f) {k : En} (g : Maj ms (ms.filter fun m => (f m).isNone)) : May ms vs B k := by
  refine ⟨_, fun m hm => (List.mem_filter.mp hm).1, g, fun u hu hs hl _ => ?_⟩
  obtain ⟨h1, h2⟩ := List.mem_filter.mp hs
  exact absurd hl (h.no _ h1 (Option.isNone_iff_eq_none.mp h2) u hu rfl)
def upto (f : Int → Option (Int × Int)) (C : Int × Int) (m : Int) : Prop := f m = none ∨ ∃ D, f m = some D ∧ ¬ l2 C D
theorem La.case2 {ms : List Int} {vs : List Vt} {B C : Int × Int} {f : Int → Option (Int × Int)} (h : La ms vs B f) (ho : ∀ D, l2 D B → One ms vs D) {k : En} {m0 : Int} (h0 : f m0 = some C) {S : List Int} (hS : ∀ m, m ∈ S ↔ m ∈ ms ∧ upto f C m) (g : Maj ms S) (hk : ∀ u ∈ vs, u.ix ∈ ms → bp u = C → u.k = k) : May ms vs B k := by
  refine ⟨S, fun m hm => ((hS m).mp hm).1, g, fun u hu hs hl hmax => ?_⟩
  obtain ⟨y1, y2, ⟨u0, y3, y4, y5⟩, y6⟩ := h.yes _ _ h0
  obtain ⟨h1, h2⟩ := (hS _).mp hs
  have hm0 : m0 ∈ S := (hS _).mpr ⟨y1, .inr ⟨C, h0, l2_irr⟩⟩
  have n1 := hmax u0 y3 (by rw [y4]; exact hm0) (by rw [y5]; exact y2)
  rw [y5] at n1
  have n2 : ¬ l2 C (bp u) := by
    rcases h2 with h2 | ⟨D, h2, h3⟩
    · exact absurd hl (h.no _ h1 h2 u hu rfl)
    · exact l2_nn h3 ((h.yes _ _ h2).2.2.2 u hu rfl hl)
  exact hk u hu h1 (l2_eq n1 n2)
theorem La.back {ms : List Int} {vs : List Vt} {B : Int × Int} {f : Int → Option (Int × Int)} (h : La ms vs B f) {k : En} (g : May ms vs B k) : Maj ms (ms.filter fun m => (f m).isNone) ∨ ∃ m0 C, f m0 = some C ∧ (∃ u ∈ vs, u.ix ∈ ms ∧ bp u = C ∧ u.k = k) ∧ ∀ S : List Int, (∀ m, m ∈ S ↔ m ∈ ms ∧ upto f C m) → Maj ms S := by
  obtain ⟨S, g1, g2, g3⟩ := g
  by_cases c : ∀ m ∈ S, f m = none
  · exact .inl (g2.mono fun m hm hs => List.mem_filter.mpr ⟨hm, by rw [c m hs]; rfl⟩)
  · obtain ⟨m1, c1, c2⟩ : ∃ m, m ∈ S ∧ f m ≠ none := by
      apply Classical.byContradiction
      intro z
      exact c fun m hm => Classical.byContradiction fun w => z ⟨m, hm, w⟩
    obtain ⟨C1, c3⟩ := Option.ne_none_iff_exists'.mp c2
    obtain ⟨C, d1, d2⟩ := ex_max (S.filterMap f) (fun z => by
      have : C1 ∈ S.filterMap f := List.mem_filterMap.mpr ⟨m1, c1, c3⟩
      rw [z] at this
      cases this)
    obtain ⟨m0, e1, e2⟩ := List.mem_filterMap.mp d1
    obtain ⟨y1, y2, ⟨u0, y3, y4, y5⟩, y6⟩ := h.yes _ _ e2
    refine .inr ⟨m0, C, e2, ⟨u0, y3, by rw [y4]; exact y1, y5, ?_⟩, fun T hT => g2.mono fun m hm hs => (hT m).mpr ⟨hm, ?_⟩⟩
    · refine g3 u0 y3 (by rw [y4]; exact e1) (by rw [y5]; exact y2) fun w hw hws hwl => ?_
      rw [y5]
      cases ef : f w.ix with
      | none => exact absurd hwl (h.no _ (g1 _ hws) ef w hw rfl)
      | some D => exact l2_nn (d2 D (List.mem_filterMap.mpr ⟨_, hws, ef⟩)) ((h.yes _ _ ef).2.2.2 w hw rfl hwl)
    · cases ef : f m with
      | none => exact .inl ef
      | some D => exact .inr ⟨D, ef, d2 D (List.mem_filterMap.mpr ⟨_, hs, ef⟩)⟩
--CUT--
instance (a b : Int × Int) : Decidable (l2 a b) := inferInstanceAs (Decidable (_ ∨ _))
theorem x_neEnt {H : Hp} {Q : VK} {a b : V} {j k : En} (h : Xk.Pk K H 4 a (ent j)) (h' : Xk.Pk K H 4 b (ent k)) (hj : j < 6) (hk : k < 6) (q : Q (.bl (!decide (j = k))) H) : rNeD K a b H Q := by
  refine ⟨_, _, h.1, h'.1, Xk.shaped_of h.lay (Nat.le_trans h.2.2 (by decide)), Xk.shaped_of h'.lay (Nat.le_trans h'.2.2 (by decide)), ?_⟩
  rw [ent_eqv hj hk]
  exact q
--CUT--
/-- the last ballots by member -/
structure LdOk (H : Hp) (lkv : List (Key × V)) (f : Int → Option (Int × Int)) : Prop where
  nd : (lkv.map (·.1)).Nodup
  ky : ∀ p ∈ lkv, ∃ m : Int, p.1 = Sum.inl m
  at_ : ∀ m : Int, (f m = none ∧ valV lkv (Sum.inl m) = none) ∨ ∃ b C, f m = some C ∧ valV lkv (Sum.inl m) = some (.ref b) ∧ H b = some (.tup [.int C.1, .int C.2])
theorem LdOk.tu {H H' : Hp} {lkv : List (Key × V)} {f : Int → Option (Int × Int)} (h : LdOk H lkv f) (s : Tu K H H') : LdOk H' lkv f :=
  ⟨h.nd, h.ky, fun m => (h.at_ m).imp_right fun ⟨b, C, h1, h2, h3⟩ => ⟨b, C, h1, h2, s.tp _ _ h3⟩⟩
theorem LdOk.none {H : Hp} {lkv : List (Key × V)} {f : Int → Option (Int × Int)} (h : LdOk H lkv f) (m : Int) : (!(valV lkv (Sum.inl m)).isSome) = (f m).isNone := by
  rcases h.at_ m with ⟨h1, h2⟩ | ⟨b, C, h1, h2, _⟩
  · rw [h1, h2]
    rfl
  · rw [h1, h2]
    rfl
def ub (f : Int → Option (Int × Int)) (C : Int × Int) (m : Int) : Bool := match f m with
  | none => true
  | some D => !decide (l2 C D)
theorem ub_iff {f : Int → Option (Int × Int)} {C : Int × Int} {m : Int} : ub f C m = true ↔ upto f C m := by
  unfold ub upto
  cases e : f m with
  | none => exact ⟨fun _ => .inl rfl, fun _ => rfl⟩
  | some D =>
    show (!decide (l2 C D)) = true ↔ _
    rw [Bool.not_eq_true', decide_eq_false_iff_not]
    exact ⟨fun z => .inr ⟨D, rfl, z⟩, fun z => z.elim (fun z => by cases z) fun ⟨D', g1, g2⟩ => by cases g1; exact g2⟩
theorem x_leB {H : Hp} {Q : VK} {a c : Addr} {D C : Int × Int} (h1 : H a = some (.tup [.int D.1, .int D.2])) (h2 : H c = some (.tup [.int C.1, .int C.2])) (q : Q (.bl (!decide (l2 C D))) H) : Xk.rLeD K (.ref a) (.ref c) H Q := by
  have k1 : Xk.Pk K H 2 (.ref a) (.tuple [.int D.1, .int D.2]) := Xk.pk_tup2 (n := 1) (Xk.st_of h1) Xk.pk_int Xk.pk_int
  have k2 : Xk.Pk K H 2 (.ref c) (.tuple [.int C.1, .int C.2]) := Xk.pk_tup2 (n := 1) (Xk.st_of h2) Xk.pk_int Xk.pk_int
  refine ⟨_, _, k1.1, k2.1, rfl, (fun z => by cases z), Nat.le_trans k1.2.2 (by decide), ?_⟩
  rw [PySem.W.dataLt_ii]
  have e : decide (C.1 < D.1 ∨ (C.1 = D.1 ∧ C.2 < D.2)) = decide (l2 C D) := decide_eq_decide.mpr Iff.rfl
  rw [e]
  exact q
theorem maj_iff {ms S : List Int} : decide ((ms.length : Int) < 2 * ((ms.filter fun m => decide (m ∈ S)).length : Int)) = true ↔ Maj ms S := by
  rw [decide_eq_true_iff]
  unfold Maj
  omega
theorem nmem {kvs : List (Key × V)} {k : Key} {v : V} (h : valV kvs k = some v) : (k, v) ∈ kvs := by
  unfold valV at h
  obtain ⟨p, hp, rfl⟩ := Option.map_eq_some_iff.mp h
  have h1 := List.mem_of_find?_eq_some hp
  have h2 := List.find?_some hp
  have h3 : p.1 = k := of_decide_eq_true h2
  rw [← h3]
  exact h1
def sp__may_follow (K : PySem.W.Frag) : Sp := fun vs' H Q _ => ∃ (m d l : Addr) (e : V) (ms : List Int) (vs : List Vt) (kvs : List (List Key × V)) (lkv : List (Key × V)) (B : Int × Int) (f : Int → Option (Int × Int)) (k : En) (n : Nat) (H0 : Hp),
  vs' = [.ref m, .ref d, .ref l, e] ∧ SqT K H m (ms.map V.int) ∧ ms.length ≤ 10 ∧ TdOk K H0 H d ms vs kvs n ∧ H l = some (.dK lkv) ∧ LdOk H lkv f ∧ lkv.length ≤ 100 ∧ La ms vs B f ∧ (∀ D, l2 D B → One ms vs D) ∧ (∀ v ∈ vs, VtAt K H v) ∧ vs.length ≤ 100 ∧ Xk.Pk K H 4 e (ent k) ∧ k < 6 ∧
  ∀ H' (r : Bool), Same H H' → (r = true ↔ May ms vs B k) → Q (.bl r) H'
theorem ok__may_follow (T : Txt K mg) : FnOk P w K mg base CX0 2 T.f__may_follow T.d__may_follow ["members", "told", "last", "entry"] (sp__may_follow K) := by
  refine T.F__may_follow.ok sc__may_follow (fun vs H Q E h => ?_) (fun cdv A outer s H vs Q E hr h => ?_)
  · obtain ⟨m, d, l, e, ms, vs, kvs, lkv, B, f, k, n, H0, rfl, _⟩ := h
    rfl
  obtain ⟨m, d, l, e, ms, vs, kvs, lkv, B, f, k, n, H0, rfl, hm, hml, T0, hl, L0, hll, hLa, ho, hv, hvl, he, hk, q⟩ := h
  refine ⟨_, (Evl.pss_cut (ps_if (pt_val (pe_call (ok_more_than_half T) (hr.mono (by decide)) (by rfl) T.g_more_than_half T.F_more_than_half.kp T.b_more_than_half .nil pass0 (pa_cons (pv 0) (pa_cons (pe_lc (own := [("member", 6)]) (g := gName 6) rfl sc__may_follow.nd  (pi_tup (pv 0)) (blkOk_by (N := N__may_follow) (sc := defScope s__may_follow) (own := [("member", 6)]) (by decide +kernel)) (fun _ _ _ _ _ => pg_name (i := 6) sc__may_follow.nd rfl (Or.inl rfl)) (fun _ _ _ _ _ => pts_one (pt_cmp (pc_dnotin (hu_of hr) (pv 6) (pv 2)))) (fun _ _ _ _ _ => (pv 6))) pa_nil)))) (pss_one (ps_ret (pe_bl))) pss_nil)
      (pss_cons (ps_for PassesOwn.never rfl (pi_list (Xk.pe_listVals rfl (by rfl) T.m_list (pv 2))) (pg_name (i := 4) sc__may_follow.nd rfl (Or.inr rfl)) (pss_cons (ps_setLc (i := 5) (own := [("member", 6)]) (g := gName 6) rfl sc__may_follow.nd rfl rfl (sw_true rfl rfl rfl (by decide +kernel)) (pi_tup (pv 0)) (blkOk_by (N := N__may_follow) (sc := defScope s__may_follow) (own := [("member", 6)]) (by decide +kernel)) (fun _ _ _ _ _ => pg_name (i := 6) sc__may_follow.nd rfl (Or.inl rfl)) (fun _ _ _ _ _ => pts_one (PW.pt (pw_or (pt_cmp (pc_dnotin (hu_of hr) (pv 6) (pv 2))) (pw_or1 (pt_cmpR (Xk.k_leD (K := K) hr.units (by rfl)) (pe_dget (hu_of hr) (pv 2) (pv 6) (fun _ _ => rfl)) (pv 4) (nomark _)))))) (fun _ _ _ _ _ => (pv 6)))
      (pss_one (ps_if (PW.pt (pw_and (pt_cmpR (Xk.k_eqD (K := K) hr.units (by rfl)) (pe_ix (Xk.k_ixT (K := K) (by rfl)) (pe_ix (Xk.k_ixL (K := K) (by rfl)) (pe_dget (hu_of hr) (pv 1) (pv 4) (fun _ _ => rfl)) (pe_int) (fun _ _ => rfl)) (pe_int) (fun _ _ => rfl)) (pv 3) (nomark _)) (pw_and1 (pt_val (pe_call (ok_more_than_half T) (hr.mono (by decide)) (by rfl) T.g_more_than_half T.F_more_than_half.kp T.b_more_than_half .nil pass0 (pa_cons (pv 0) (pa_cons (pv 5) pa_nil))))))) (pss_one (ps_ret (pe_bl))) pss_nil))))
      (pss_one (ps_ret (pe_bl))))), ?_⟩
  wtm_at "x0"
  refine Xk.x_cut (fun σ' H' => σ' = [some (.ref m), some (.ref d), some (.ref l), some e, none, none, none] ∧ Same H H' ∧ ¬ Maj ms (ms.filter fun m => (f m).isNone)) ?_ ?_
  · wtm_at "xs"
    refine Xk.x_lcT (xs := ms.map V.int) (fun Dl i H' => Same H H' ∧ H' Dl = some (.lst (((ms.take i).filter fun m => (f m).isNone).map V.int))) hm ?_ ?_ ?_ ?_
    · intro Dl hD
      exact ⟨Xk.same_fr hD, upd_same⟩
    · rintro Dl i H' hD ⟨s, _⟩
      exact Xk.st_same hm s
    · rintro Dl hD i a H1 ha ⟨s1, h1⟩
      obtain ⟨x, hx, rfl⟩ := Xk.of_map_at ha
      have hil := Xk.at_lt hx
      have hl1 := s1 _ _ hl
      have lsz : ((ms.take i).filter fun m => (f m).isNone).length ≤ 10 := by
        refine Nat.le_trans (List.length_filter_le ..) ?_
        rw [List.length_take]
        omega
      wtm_at "xs"
      refine ⟨rfl, ?_⟩
      refine ⟨.int x, rfl, .ref l, rfl, l, _, rfl, DGet.k (k := Sum.inl x) hl1, ?_⟩
      rw [L0.none]
      refine ⟨_, rfl, Xk.x_itb (fun h2 => ?_) (fun h2 => ?_)⟩
      · wtm_at "xs"
        refine ⟨_, h1, Xk.size_lt (by rw [List.length_map]; omega), Xk.same_mut s1 hD, ?_⟩
        rw [upd_same, List.take_add_one, hx, List.filter_append]
        simp [h2]
      · wtm_at "xs"
        refine ⟨s1, ?_⟩
        rw [h1, List.take_add_one, hx, List.filter_append]
        simp [h2]
    · rintro Dl H1 hD ⟨s1, h1⟩
      rw [List.length_map, List.take_length] at h1
      have hm1 := Xk.st_same hm s1
      wtm_at "xs"
      refine ⟨m, Dl, ms, _, rfl, hm1, .inl (Xk.sq_of h1), by omega, fun H2 s2 => ?_⟩
      clear h1
      wtm_at "xs"
      refine Xk.x_itb (fun h2 => ?_) (fun h2 => ?_)
      · wtm_at "xs"
        exact q _ true (s1.trans s2) ⟨fun _ => hLa.case1 (maj_iff.mp h2), fun _ => rfl⟩
      · wtm_at "xs"
        exact ⟨rfl, s1.trans s2, fun z => by rw [maj_iff.mpr z] at h2; cases h2⟩
  rintro σ' H1 ⟨rfl, s1, hno1⟩
  have hl1 := s1 _ _ hl
  wtm_at "xs"
  refine ⟨.ref l, rfl, l, lkv, rfl, hl1, fun vp hvp => ?_⟩
  have s2 : Same H (upd H1 vp (.lst (lkv.map (·.2)))) := s1.trans (Xk.same_new hvp)
  have hvp2 : upd H1 vp (.lst (lkv.map (·.2))) vp = some (.lst (lkv.map (·.2))) := upd_same
  generalize upd H1 vp (.lst (lkv.map (·.2))) = H2 at *
  clear hvp hl1 s1
  refine Xk.x_forL (xs := lkv.map (·.2)) (fun i σ' H' => ∃ y4 y5 : Option V, σ' = [some (.ref m), some (.ref d), some (.ref l), some e, y4, y5, none] ∧ Same H2 H' ∧ ∀ p ∈ lkv.take i, ∀ m0 C, p.1 = Sum.inl m0 → f m0 = some C → ¬ ((∃ u ∈ vs, u.ix ∈ ms ∧ bp u = C ∧ u.k = k) ∧ Maj ms (ms.filter fun m => ub f C m))) (Xk.sq_of hvp2)
    ⟨_, _, rfl, Same.refl _, fun p hp => (by cases hp)⟩ (fun i σ' H' _ ⟨_, _, _, s, _⟩ => Xk.sq_of (s _ _ hvp2)) ?_ ?_
  · rintro i a σ' H3 ha ⟨y4, y5, rfl, s3, hbef⟩
    obtain ⟨pr, hpi, rfl⟩ := Xk.of_map_at ha
    have hpm := List.mem_of_getElem? hpi
    obtain ⟨m0, hm0⟩ := L0.ky pr hpm
    have hpv := val_nodup L0.nd pr hpm
    rw [hm0] at hpv
    rcases L0.at_ m0 with ⟨_, z⟩ | ⟨b, C, hfm, hvm, hbC⟩
    · rw [z] at hpv
      cases hpv
    rw [hvm] at hpv
    have epr : pr.2 = .ref b := (Option.some.inj hpv).symm
    have s03 := s2.trans s3
    have hl3 := s03 _ _ hl
    have hb3 := s03 _ _ hbC
    have hm3 := Xk.st_same hm s03
    have L3 := L0.tu (.same (K := K) s03)
    obtain ⟨c1, c2, ⟨u0, c3, c4, c5⟩, c6⟩ := hLa.yes _ _ hfm
    have nx : ¬ ((∃ u ∈ vs, u.ix ∈ ms ∧ bp u = C ∧ u.k = k) ∧ Maj ms (ms.filter fun m => ub f C m)) → ∀ p ∈ lkv.take (i + 1), ∀ m0 C, p.1 = Sum.inl m0 → f m0 = some C → ¬ ((∃ u ∈ vs, u.ix ∈ ms ∧ bp u = C ∧ u.k = k) ∧ Maj ms (ms.filter fun m => ub f C m)) := fun hn p hp m1 C1 e1 e2 => by
      rw [List.take_add_one, hpi] at hp
      rcases List.mem_append.mp hp with hp | hp
      · exact hbef p hp m1 C1 e1 e2
      · rw [List.mem_singleton.mp hp, hm0] at e1
        injection e1 with e1
        subst e1
        rw [hfm] at e2
        cases e2
        exact hn
    rw [epr]
    wtm_at "xs"
    refine Xk.x_lcT (xs := ms.map V.int) (fun Dl j H' => Same H3 H' ∧ H' Dl = some (.lst (((ms.take j).filter fun m => ub f C m).map V.int))) hm3 ?_ ?_ ?_ ?_
    · intro Dl hD
      exact ⟨Xk.same_fr hD, upd_same⟩
    · rintro Dl j H' hD ⟨s, _⟩
      exact Xk.st_same hm3 s
    · rintro Dl hD j a H4 ha ⟨s4, h4⟩
      obtain ⟨x, hx, rfl⟩ := Xk.of_map_at ha
      have hil := Xk.at_lt hx
      have hl4 := s4 _ _ hl3
      have hb4 := s4 _ _ hb3
      have lsz : ((ms.take j).filter fun m => ub f C m).length ≤ 10 := by
        refine Nat.le_trans (List.length_filter_le ..) ?_
        rw [List.length_take]
        omega
      wtm_at "xs"
      refine ⟨rfl, ?_⟩
      have yes : ub f C x = true → ∃ acc, H4 Dl = some (.lst acc) ∧ acc.length < sizeLine ∧ Same H3 (upd H4 Dl (.lst (acc ++ [.int x]))) ∧ upd H4 Dl (.lst (acc ++ [.int x])) Dl = some (.lst (((ms.take (j + 1)).filter fun m => ub f C m).map V.int)) := fun h2 => by
        refine ⟨_, h4, Xk.size_lt (by rw [List.length_map]; omega), Xk.same_mut s4 hD, ?_⟩
        rw [upd_same, List.take_add_one, hx, List.filter_append]
        simp [h2]
      wtm_at "xs"
      refine ⟨.int x, rfl, .ref l, rfl, l, _, rfl, DGet.k (k := Sum.inl x) hl4, ?_⟩
      rw [L0.none]
      refine ⟨_, rfl, Xk.x_itb (fun h2 => ?_) (fun h2 => ?_)⟩
      · wtm_at "xs"
        refine yes ?_
        unfold ub
        rw [Option.isNone_iff_eq_none.mp h2]
      · rcases L3.at_ x with ⟨z, _⟩ | ⟨b', D, g1, g2, g3⟩
        · rw [z] at h2
          cases h2
        have g34 := s4 _ _ g3
        have hu : ub f C x = !decide (l2 C D) := by
          unfold ub
          rw [g1]
        wtm_at "xs"
        refine ⟨l, .ref b', rfl, by rw [← g2]; exact DGet.k (k := Sum.inl x) hl4, ?_⟩
        wtm_at "xs"
        refine x_leB g34 hb4 ?_
        rw [← hu]
        refine ⟨_, rfl, Xk.x_itb (fun h3 => ?_) (fun h3 => ?_)⟩
        · wtm_at "xs"
          exact yes h3
        · refine ⟨s4, ?_⟩
          rw [h4, List.take_add_one, hx, List.filter_append]
          simp [h3]
    · rintro Dl H4 hD ⟨s4, h4⟩
      rw [List.length_map, List.take_length] at h4
      have s04 := s03.trans s4
      have hg0 : u0 ∈ grp ms vs C.1 C.2 := in_grp.mpr ⟨c3, by rw [c4]; exact c1, congrArg Prod.fst c5, congrArg Prod.snd c5⟩
      rcases T0.at_ C.1 C.2 with ⟨_, z⟩ | ⟨lg, ps, g1, g2, g3, g4, g5⟩
      · rw [z] at hg0
        cases hg0
      obtain ⟨p0, r0, rfl⟩ : ∃ p0 r0, ps = p0 :: r0 := by
        cases ps with
        | nil =>
          rw [← g5] at hg0
          cases hg0
        | cons p r => exact ⟨p, r, rfl⟩
      obtain ⟨a1, a2, a3, a4⟩ : p0.2 ∈ vs ∧ p0.2.ix ∈ ms ∧ p0.2.t = C.1 ∧ p0.2.x = C.2 := in_grp.mp (by rw [← g5]; exact List.mem_cons_self ..)
      have abp : bp p0.2 = C := Prod.ext a3 a4
      have hd4 := s04 _ _ T0.hd
      have hb4 := s4 _ _ hb3
      have hlg4 := s04 _ _ g3
      have hp04 := Xk.st_same (g4 p0 (List.mem_cons_self ..)) s04
      have hv04 := (hv p0.2 a1).same s04
      have he4 := he.same s04
      have hm4 := Xk.st_same hm s04
      wtm_at "xs"
      refine ⟨d, .ref lg, rfl, by rw [← g1]; exact DGet.t (k := K37.ky C.1 C.2) hd4 hb4, ?_⟩
      wtm_at "xs"
      refine Xk.x_ixL (Xk.sq_of hlg4) (Xk.at_nat (j := 0) rfl rfl) ?_
      wtm_at "xs"
      refine x_eqEnt hv04.en he4 hv04.kl hk ?_
      wtm_at "xs"
      refine Xk.x_itd (fun h5 => ?_) (fun h5 => ?_)
      · wtm_at "xs"
        refine ⟨m, Dl, ms, _, rfl, hm4, .inl (Xk.sq_of h4), by omega, fun H5 s5 => ?_⟩
        clear h4 hp04
        wtm_at "xs"
        refine Xk.x_itb (fun h6 => ?_) (fun h6 => ?_)
        · wtm_at "xs"
          exact q _ true (s04.trans s5) ⟨fun _ => hLa.case2 ho hfm (fun m => by rw [List.mem_filter, ub_iff]) (maj_iff.mp h6) fun u hu e1 e2 => by rw [ho C c2 u hu p0.2 a1 e1 a2 e2 abp]; exact h5, fun _ => rfl⟩
        · wtm_at "xs"
          exact ⟨_, _, rfl, (s3.trans s4).trans s5, nx fun z => by rw [maj_iff.mpr z.2] at h6; cases h6⟩
      · wtm_at "xs"
        exact ⟨_, _, rfl, s3.trans s4, nx fun ⟨⟨u, e1, e2, e3, e4⟩, _⟩ => h5 (by rw [← ho C c2 u e1 p0.2 a1 e2 a2 e3 abp]; exact e4)⟩
  · rintro σ' H3 ⟨y4, y5, rfl, s3, hbef⟩
    rw [List.length_map, List.take_length] at hbef
    wtm_at "xs"
    refine q H3 false (s2.trans s3) ⟨fun z => Bool.noConfusion z, fun z => ?_⟩
    exfalso
    rcases hLa.back z with g | ⟨m0, C, g1, g2, g3⟩
    · exact hno1 g
    · rcases L0.at_ m0 with ⟨z, _⟩ | ⟨b, C', h1, h2, h3⟩
      · rw [z] at g1
        cases g1
      · refine hbef _ (nmem h2) m0 C rfl g1 ⟨g2, g3 _ fun m => ?_⟩
        rw [List.mem_filter, ub_iff]
--CUT--
theorem putK_keys {kvs : List (Key × V)} {k : Key} {v : V} (nd : (kvs.map (·.1)).Nodup) : ((putK kvs k v).map (·.1)).Nodup ∧ ∀ p ∈ putK kvs k v, p.1 = k ∨ p.1 ∈ kvs.map (·.1) := by
  cases e : valV kvs k with
  | none =>
    refine ⟨nd_putK v nd e, fun p hp => ?_⟩
    rw [putK_new v e] at hp
    rcases List.mem_append.mp hp with hp | hp
    · exact .inr (List.mem_map_of_mem (f := fun p : Key × V => p.1) hp)
    · exact .inl (by rw [List.mem_singleton.mp hp])
  | some u =>
    have e2 : putK kvs k v = kvs.map fun kv => if kv.1 = k then (kv.1, v) else kv := by
      unfold putK
      rw [valV_any, e]
      rfl
    rw [e2]
    refine ⟨?_, fun p hp => ?_⟩
    · rw [List.map_map]
      have e3 : ((fun x : Key × V => x.1) ∘ fun kv : Key × V => if kv.1 = k then (kv.1, v) else kv) = fun x => x.1 := by
        funext x
        simp only [Function.comp]
        split <;> rfl
      rw [e3]
      exact nd
    · obtain ⟨q, hq, rfl⟩ := List.mem_map.mp hp
      have hm := List.mem_map_of_mem (f := fun p : Key × V => p.1) hq
      split
      · exact .inr hm
      · exact .inr hm
theorem LdOk.put {H : Hp} {l b : Addr} {lkv : List (Key × V)} {f : Int → Option (Int × Int)} (h : LdOk H lkv f) {B : Int × Int} (hb : H b = some (.tup [.int B.1, .int B.2])) (hl : H l = some (.dK lkv)) (m0 : Int) :
    LdOk (upd H l (.dK (putK lkv (Sum.inl m0) (.ref b)))) (putK lkv (Sum.inl m0) (.ref b)) (fun m => if m = m0 then some B else f m) := by
  have keep : ∀ a xs, H a = some (.tup xs) → upd H l (.dK (putK lkv (Sum.inl m0) (.ref b))) a = some (.tup xs) := fun a xs ha => (upd_ne (fun z => by rw [z, hl] at ha; cases ha)).trans ha
  obtain ⟨n1, n2⟩ := putK_keys (k := Sum.inl m0) (v := .ref b) h.nd
  refine ⟨n1, fun p hp => ?_, fun m => ?_⟩
  · rcases n2 p hp with e | e
    · exact ⟨m0, e⟩
    · obtain ⟨q, hq, e2⟩ := List.mem_map.mp e
      obtain ⟨m, hm⟩ := h.ky q hq
      exact ⟨m, by rw [← e2]; exact hm⟩
  · by_cases c : m = m0
    · subst c
      exact .inr ⟨b, B, if_pos rfl, by rw [valV_put, if_pos rfl], keep _ _ hb⟩
    · have c2 : ¬ (Sum.inl m : Key) = Sum.inl m0 := fun z => c (Sum.inl.inj z)
      rcases h.at_ m with ⟨h1, h2⟩ | ⟨b', C, h1, h2, h3⟩
      · exact .inl ⟨by rw [if_neg c]; exact h1, by rw [valV_put, if_neg c2]; exact h2⟩
      · exact .inr ⟨b', C, by rw [if_neg c]; exact h1, by rw [valV_put, if_neg c2]; exact h2, keep _ _ h3⟩
def Km (ms : List Int) (lkv : List (Key × V)) : Prop := ∀ p ∈ lkv, ∃ m ∈ ms, p.1 = Sum.inl m
theorem Km.put {ms : List Int} {lkv : List (Key × V)} (h : Km ms lkv) (nd : (lkv.map (·.1)).Nodup) {m : Int} (hm : m ∈ ms) (v : V) : Km ms (putK lkv (Sum.inl m) v) := fun p hp => by
  rcases (putK_keys nd).2 p hp with e | e
  · exact ⟨m, hm, e⟩
  · obtain ⟨q, hq, e2⟩ := List.mem_map.mp e
    obtain ⟨m, g1, g2⟩ := h q hq
    exact ⟨m, g1, by rw [← e2]; exact g2⟩
theorem Km.len {ms : List Int} {lkv : List (Key × V)} (h : Km ms lkv) (nd : (lkv.map (·.1)).Nodup) : lkv.length ≤ ms.length := by
  have z := nd.length_le_of_subset (l₂ := ms.map Sum.inl) fun k hk => by
    obtain ⟨p, hp, rfl⟩ := List.mem_map.mp hk
    obtain ⟨m, g1, g2⟩ := h p hp
    rw [g2]
    exact List.mem_map_of_mem g1
  rw [List.length_map, List.length_map] at z
  exact z
/-- the last votes in the ballots that a predicate tells -/
structure Lp (ms : List Int) (vs : List Vt) (P : Int × Int → Prop) (f : Int → Option (Int × Int)) : Prop where
  no : ∀ m ∈ ms, f m = none → ∀ u ∈ vs, u.ix = m → ¬ P (bp u)
  yes : ∀ m C, f m = some C → m ∈ ms ∧ P C ∧ (∃ u ∈ vs, u.ix = m ∧ bp u = C) ∧ ∀ u ∈ vs, u.ix = m → P (bp u) → ¬ l2 C (bp u)
theorem Lp.la {ms : List Int} {vs : List Vt} {P : Int × Int → Prop} {f : Int → Option (Int × Int)} {B : Int × Int} (h : Lp ms vs P f) (h1 : ∀ u ∈ vs, u.ix ∈ ms → l2 (bp u) B → P (bp u)) (h2 : ∀ C, P C → l2 C B) : La ms vs B f :=
  ⟨fun m hm hf u hu hi hl => h.no m hm hf u hu hi (h1 u hu (by rw [hi]; exact hm) hl), fun m C hf => by
    obtain ⟨g1, g2, g3, g4⟩ := h.yes m C hf
    exact ⟨g1, h2 C g2, g3, fun u hu hi hl => g4 u hu hi (h1 u hu (by rw [hi]; exact g1) hl)⟩⟩
theorem Lp.step {ms : List Int} {vs : List Vt} {P P' : Int × Int → Prop} {f f' : Int → Option (Int × Int)} {B : Int × Int} (h : Lp ms vs P f) (hP : ∀ C, P' C ↔ P C ∨ C = B) (hB : ∀ C, P C → l2 C B)
    (hf : ∀ m, (f' m = some B ∧ m ∈ ms ∧ ∃ u ∈ vs, u.ix = m ∧ bp u = B) ∨ (f' m = f m ∧ ∀ u ∈ vs, u.ix = m → m ∈ ms → bp u ≠ B)) : Lp ms vs P' f' := by
  refine ⟨fun m hm e u hu hi => ?_, fun m C e => ?_⟩
  · rcases hf m with ⟨g, _⟩ | ⟨g1, g2⟩
    · rw [g] at e
      cases e
    · rw [hP]
      rintro (z | z)
      · exact h.no m hm (g1 ▸ e) u hu hi z
      · exact g2 u hu hi hm z
  · rcases hf m with ⟨g1, g2, g3⟩ | ⟨g1, g2⟩
    · rw [g1] at e
      cases e
      refine ⟨g2, (hP _).mpr (.inr rfl), g3, fun u hu hi z => ?_⟩
      rcases (hP _).mp z with z | z
      · exact fun w => l2_irr (l2_tr w (hB _ z))
      · rw [z]
        exact l2_irr
    · rw [g1] at e
      obtain ⟨y1, y2, y3, y4⟩ := h.yes m C e
      refine ⟨y1, (hP _).mpr (.inl y2), y3, fun u hu hi z => ?_⟩
      rcases (hP _).mp z with z | z
      · exact y4 u hu hi z
      · exact absurd z (g2 u hu hi y1)
theorem zs_lt {zs : List (Addr × List Int)} (pw : (zs.map (·.2)).Pairwise (· ≤ ·)) (nd : (zs.map (·.2)).Nodup) {i j : Nat} {y z : Addr × List Int} {B C : Int × Int} (hi : zs[i]? = some y) (hj : zs[j]? = some z) (ey : y.2 = [B.1, B.2]) (ez : z.2 = [C.1, C.2]) (h : i < j) : l2 B C := by
  have a1 : (zs.map (·.2))[i]? = some [B.1, B.2] := by rw [List.getElem?_map, hi, ← ey]; rfl
  have a2 : (zs.map (·.2))[j]? = some [C.1, C.2] := by rw [List.getElem?_map, hj, ← ez]; rfl
  obtain ⟨l1, q1⟩ := List.getElem?_eq_some_iff.mp a1
  obtain ⟨l2', q2⟩ := List.getElem?_eq_some_iff.mp a2
  have q := List.pairwise_iff_getElem.mp pw i j l1 l2' h
  have n := List.pairwise_iff_getElem.mp (List.nodup_iff_pairwise_ne.mp nd) i j l1 l2' h
  rw [q1, q2] at q n
  have g := le_pair q
  unfold l2
  by_cases c : B.1 < C.1
  · exact .inl c
  · refine .inr ⟨by omega, ?_⟩
    have : B.2 ≠ C.2 := fun e => n (by rw [e, show B.1 = C.1 by omega])
    omega
theorem nd_inl : ∀ {ks : List (List Int)}, (ks.map fun k => k.map (Sum.inl : Int → Key)).Nodup → ks.Nodup
  | [], _ => .nil
  | k :: r, h => by
    obtain ⟨h1, h2⟩ := List.nodup_cons.mp h
    exact List.nodup_cons.mpr ⟨fun z => h1 (List.mem_map_of_mem (f := fun k : List Int => k.map (Sum.inl : Int → Key)) z), nd_inl h2⟩
--CUT--
def sp_unlawful_ballot (K : PySem.W.Frag) : Sp := fun vs' H Q _ => ∃ (m p : Addr) (ms : List Int) (vs : List Vt), vs' = [.ref m, .ref p] ∧ SqT K H m (ms.map V.int) ∧ ms.length ≤ 10 ∧ VsAt K H p vs ∧ vs.length ≤ 100 ∧
  (∀ H', Same H H' → (∀ v ∈ vs, v.ix ∈ ms → Gd ms vs (bp v)) → Q .non H') ∧ ∀ H' q B, Same H H' → H' q = some (.tup [.int B.1, .int B.2]) → Least ms vs B → Q (.ref q) H'
theorem ok_unlawful_ballot (T : Txt K mg) : FnOk P w K mg base CX0 3 T.f_unlawful_ballot T.d_unlawful_ballot ["members", "votes"] (sp_unlawful_ballot K) := by
  refine T.F_unlawful_ballot.ok sc_unlawful_ballot (fun vs H Q E h => ?_) (fun cdv A outer s H vs Q E hr h => ?_)
  · obtain ⟨m, p, ms, vs, rfl, _⟩ := h
    rfl
  obtain ⟨m, p, ms, vs, rfl, hm, hml, hv, hl, q1, q2⟩ := h
  refine ⟨_, (pss_cons (ps_set (i := 2) sc_unlawful_ballot.nd rfl (Or.inl rfl) (pe_call (ok__by_ballot T) (hr.mono (by decide)) (by rfl) T.g__by_ballot T.F__by_ballot.kp T.b__by_ballot .nil pass0 (pa_cons (pv 0) (pa_cons (pv 1) pa_nil))))
      (pss_cons (ps_set (i := 3) sc_unlawful_ballot.nd rfl (Or.inl rfl) (pe_dnewK))
      (pss_cons (ps_for PassesOwn.never rfl (pi_list (pe_callB (Xk.k_sortT rfl hr.units) (by rfl) T.m_sorted (by decide +kernel) (pa_cons (pv 2) pa_nil))) (pg_name (i := 4) sc_unlawful_ballot.nd rfl (Or.inl rfl)) (pss_cons (ps_set (i := 5) sc_unlawful_ballot.nd rfl (Or.inr rfl) (pe_ix (Xk.k_ixT (K := K) (by rfl)) (pe_ix (Xk.k_ixL (K := K) (by rfl)) (pe_dget (hu_of hr) (pv 2) (pv 4) (fun _ _ => rfl)) (pe_int) (fun _ _ => rfl)) (pe_int) (fun _ _ => rfl)))
      (Evl.pss_cut (ps_if (PW.pt (pw_or (pt_val (pe_callB (Xk.k_any (K := K) rfl (by rfl)) (by rfl) T.m_any (by decide +kernel) (pa_cons (pe_lc (own := [("index", 6), ("other", 8)]) (g := gTup K 2 (gCons (gName 6) (gCons (gName 8) gNil))) (tt := tYes) rfl sc_unlawful_ballot.nd  (pi_list (pe_dget (hu_of hr) (pv 2) (pv 4) (fun _ _ => rfl))) (blkOk_by (N := N_unlawful_ballot) (sc := defScope s_unlawful_ballot) (own := [("index", 6), ("other", 8)]) (by decide +kernel)) (fun _ _ _ _ _ => Xk.k_gtup (K := K) (by rfl) rfl (pgs_cons (pg_name (i := 6) sc_unlawful_ballot.nd rfl (Or.inl rfl)) (pgs_cons (pg_name (i := 8) sc_unlawful_ballot.nd rfl (Or.inl rfl)) pgs_nil))) (fun _ _ _ _ _ => pts_nil) (fun _ _ _ _ _ => (pe_cmpR (Xk.k_neD (K := K) hr.units (by rfl)) (pv 8) (pv 5) (nomark _)))) pa_nil))) (pw_or1 (pt_not (pt_val (pe_call (ok__may_follow T) (hr.mono (by decide)) (by rfl) T.g__may_follow T.F__may_follow.kp T.b__may_follow .nil pass0 (pa_cons (pv 0) (pa_cons (pv 2) (pa_cons (pv 3) (pa_cons (pv 5) pa_nil)))))))))) (pss_one (ps_ret (pv 4))) pss_nil)
      (pss_one (ps_for PassesOwn.never rfl (pi_list (pe_dget (hu_of hr) (pv 2) (pv 4) (fun _ _ => rfl))) (pg_tup rfl (pgs_cons (pg_name (i := 6) sc_unlawful_ballot.nd rfl (Or.inl rfl)) (pgs_cons (pg_name (i := 7) sc_unlawful_ballot.nd rfl (Or.inl rfl)) pgs_nil))) (pss_one (ps_dput (hu_of hr) (pv 3) (pv 6) (pv 4) rfl)))))))
      (pss_one (ps_ret (pe_non)))))), ?_⟩
  wtm_at "x0"
  wtm_at "xs"
  refine ⟨m, p, ms, vs, rfl, hm, hv, hl, fun H1 d kvs n s1 T hn hne => ?_⟩
  obtain ⟨ks, k1, k2, k3⟩ := T.ks
  have knd : ks.Nodup := by
    have z := T.nd
    rw [k1] at z
    exact nd_inl z
  wtm_at "xs"
  intro l H2 hlf s2 hl2
  have T2 := T.same s2
  have s02 := s1.trans s2
  wtm_at "xs"
  refine ⟨d, kvs, ks, rfl, T2.hd, k1, fun k hk => ?_, by omega, fun sp zs hsp hperm hpw hz => ?_⟩
  · obtain ⟨t, x, rfl⟩ := k2 k hk
    exact fun z => by cases z
  have nls : sp ≠ l := fun z => by
    rw [z, hl2] at hsp
    cases hsp
  have s3 : Same H2 (upd H2 sp (.lst (zs.map fun z => V.ref z.1))) := Xk.same_new hsp
  have hsl : upd H2 sp (.lst (zs.map fun z => V.ref z.1)) sp = some (.lst (zs.map fun z => V.ref z.1)) := upd_same
  have hl3 := s3 _ _ hl2
  have fsp : Xk.Fr sp H2 := ⟨hsp⟩
  generalize upd H2 sp (.lst (zs.map fun z => V.ref z.1)) = H3 at *
  have hzn : (zs.map (·.2)).Nodup := hperm.nodup_iff.mpr knd
  have hall : ∀ u ∈ vs, u.ix ∈ ms → ∃ (i : Nat) (z : Addr × List Int), zs[i]? = some z ∧ z.2 = [u.t, u.x] := fun u hu hm => key_zs T k1 hperm hu hm
  have hzb : ∀ z ∈ zs, ∃ C : Int × Int, z.2 = [C.1, C.2] := fun z hz => by
    obtain ⟨t, x, e⟩ := k2 z.2 (hperm.mem_iff.mp (List.mem_map_of_mem (f := fun z : Addr × List Int => z.2) hz))
    exact ⟨(t, x), e⟩
  have T3 := T2.same s3
  have hz3 : ∀ z ∈ zs, H3 z.1 = some (.tup (z.2.map V.int)) := fun z h => s3 _ _ (hz z h)
  have hl0 : Xk.Fr l H := fr_back hlf s1
  have s03 := s02.trans s3
  clear hz hsp s1 s2 s3 hl2 fsp T T2 s02 hlf
  refine Xk.x_forL (xs := zs.map fun z => V.ref z.1) (fun i σ' H' => ∃ (y4 y5 y6 y7 y8 : Option V) (lkv : List (Key × V)) (f : Int → Option (Int × Int)), σ' = [some (.ref m), some (.ref p), some (.ref d), some (.ref l), y4, y5, y6, y7, y8] ∧ Xk.But l H3 H' ∧ H' l = some (.dK lkv) ∧ LdOk H' lkv f ∧ Km ms lkv ∧
      Lp ms vs (fun C => ∃ j z, j < i ∧ zs[j]? = some z ∧ z.2 = [C.1, C.2]) f ∧ ∀ j z C, j < i → zs[j]? = some z → z.2 = [C.1, C.2] → Gd ms vs C) (Xk.sq_of hsl)
    ⟨_, _, _, _, _, [], fun _ => none, rfl, Xk.But.refl _ _, hl3, ⟨.nil, fun p hp => (by cases hp), fun m => .inl ⟨rfl, rfl⟩⟩, fun p hp => (by cases hp), ⟨fun m hm e u hu hi ⟨j, z, hj, _⟩ => absurd hj (Nat.not_lt_zero _), fun m C e => (by cases e)⟩, fun j z C hj => absurd hj (Nat.not_lt_zero _)⟩
    (fun i σ' H' _ ⟨_, _, _, _, _, _, _, _, b, _⟩ => Xk.sq_of (b _ _ nls hsl)) ?_ ?_
  · rintro i a σ' H4 hi ⟨y4, y5, y6, y7, y8, lkv, f, rfl, b4, hl4, L4, km, hLp, hgd⟩
    obtain ⟨z, hzi, rfl⟩ := Xk.of_map_at hi
    have hzm := List.mem_of_getElem? hzi
    obtain ⟨B, eB⟩ := hzb z hzm
    have s04 : Same H H4 := Xk.same_but b4 hl0 s03
    have tu4 : Tu K H3 H4 := tu_but hl3 (fun _ z => by cases z) (fun _ _ z => by cases z) b4
    have hb4 : H4 z.1 = some (.tup [.int B.1, .int B.2]) := by
      have g := tu4.tp _ _ (hz3 z hzm)
      rw [eB] at g
      exact g
    have T4 : TdOk K H H4 d ms vs kvs n := ⟨b4 _ _ (fun z => by have := T3.hd; rw [z, hl3] at this; cases this) T3.hd, T3.fd, T3.nd, T3.ks, fun t x => (T3.at_ t x).imp_right fun ⟨lg, ps, g1, g2, g3, g4, g5⟩ => ⟨lg, ps, g1, g2, b4 _ _ (fun z => by rw [z, hl3] at g3; cases g3) g3, fun p hp => tu4.st.t _ _ (g4 p hp), g5⟩, T3.inj⟩
    have hm4 := Xk.st_same hm s04
    have hv4 : ∀ v ∈ vs, VtAt K H4 v := fun v hv' => (hv.2 v hv').same s04
    have hBk : ky B.1 B.2 ∈ kvs.map (·.1) := by
      rw [k1]
      refine List.mem_map.mpr ⟨z.2, hperm.mem_iff.mp (List.mem_map_of_mem (f := fun z : Addr × List Int => z.2) hzm), ?_⟩
      rw [eB]
      rfl
    obtain ⟨w, hw⟩ := vhas hBk
    rcases T4.at_ B.1 B.2 with ⟨g, _⟩ | ⟨lg, ps, g1, g2, g3, g4, g5⟩
    · rw [g] at hw
      cases hw
    obtain ⟨p0, r0, eps⟩ : ∃ p0 r0, ps = p0 :: r0 := by
      cases ps with
      | nil => exact absurd g5.symm (hne _ _ _ g1)
      | cons p r => exact ⟨p, r, rfl⟩
    have hps : ∀ p ∈ ps, p.2 ∈ vs ∧ p.2.ix ∈ ms ∧ bp p.2 = B := fun p hp => by
      obtain ⟨a1, a2, a3, a4⟩ := in_grp.mp (g5 ▸ List.mem_map_of_mem (f := fun p : Addr × Vt => p.2) hp)
      exact ⟨a1, a2, Prod.ext a3 a4⟩
    have hin : ∀ u ∈ vs, u.ix ∈ ms → bp u = B → ∃ p ∈ ps, p.2 = u := fun u hu hi e => by
      have g : u ∈ ps.map (·.2) := by
        rw [g5]
        exact in_grp.mpr ⟨hu, hi, congrArg Prod.fst e, congrArg Prod.snd e⟩
      obtain ⟨p, hp, e2⟩ := List.mem_map.mp g
      exact ⟨p, hp, e2⟩
    have hpm0 : p0 ∈ ps := by rw [eps]; exact List.mem_cons_self ..
    obtain ⟨a1, a2, a3⟩ := hps p0 hpm0
    have hat0 : ps[0]? = some p0 := by rw [eps]; rfl
    have hpl : ps.length ≤ 100 := by
      have z := congrArg List.length g5
      rw [List.length_map] at z
      unfold grp at z
      have z2 := List.length_filter_le (fun u : Vt => decide (u.ix ∈ ms) && (decide (u.t = B.1) && decide (u.x = B.2))) vs
      omega
    have hget4 : DGet H4 d (.ref z.1) (some (.ref lg)) := by
      rw [← g1]
      exact DGet.t (k := ky B.1 B.2) T4.hd hb4
    have hp04 : SqT K H4 p0.1 [.int p0.2.ix, p0.2.e] := g4 p0 hpm0
    have hv04 := hv4 p0.2 a1
    have hbelow : ∀ u ∈ vs, u.ix ∈ ms → l2 (bp u) B → ∃ j z, j < i ∧ zs[j]? = some z ∧ z.2 = [(bp u).1, (bp u).2] := fun u hu hi2 hlt => by
      obtain ⟨j, y, hj, ey⟩ := hall u hu hi2
      refine ⟨j, y, ?_, hj, ey⟩
      rcases Nat.lt_trichotomy j i with c | c | c
      · exact c
      · subst c
        rw [hzi] at hj
        cases hj
        rw [eB] at ey
        injection ey with e1 e2
        injection e2 with e2 _
        exact absurd (show l2 (bp u) B from hlt) (by rw [show bp u = B from Prod.ext e1.symm e2.symm]; exact l2_irr)
      · exact absurd (l2_tr hlt (zs_lt hpw hzn hzi hj eB (C := bp u) ey c)) l2_irr
    have hlow : ∀ C, (∃ j z, j < i ∧ zs[j]? = some z ∧ z.2 = [C.1, C.2]) → l2 C B := fun C ⟨j, y, hj, hy, ey⟩ => zs_lt hpw hzn hy hzi ey eB hj
    have hgdl : ∀ u ∈ vs, u.ix ∈ ms → l2 (bp u) B → Gd ms vs (bp u) := fun u hu hi2 hlt => by
      obtain ⟨j, y, hj, hy, ey⟩ := hbelow u hu hi2 hlt
      exact hgd j y _ hj hy ey
    have hone : ∀ D, l2 D B → One ms vs D := fun D hD u hu w hw' h1 h2 h3 h4 => (hgdl u hu h1 (by rw [h3]; exact hD)).1 u hu w hw' h1 h2 rfl (h4.trans h3.symm)
    have least : ¬ Gd ms vs B → Least ms vs B := fun hb => ⟨⟨p0.2, a1, a2, a3⟩, hb, hgdl⟩
    wtm_at "xs"
    refine ⟨d, .ref lg, rfl, hget4, ?_⟩
    wtm_at "xs"
    refine Xk.x_cut (fun σ' H' => σ' = [some (.ref m), some (.ref p), some (.ref d), some (.ref l), some (.ref z.1), some p0.2.e, y6, y7, y8] ∧ Same H4 H' ∧ Gd ms vs B) ?_ ?_
    · wtm_at "xs"
      refine ⟨d, .ref lg, rfl, hget4, ?_⟩
      refine Xk.x_lcL (xs := ps.map fun p : Addr × Vt => V.ref p.1) (fun Dl j H' => Same H4 H' ∧ ∃ bs : List Bool, H' Dl = some (.lst (bs.map V.bl)) ∧ bs = (ps.take j).map fun p => !decide (p.2.k = p0.2.k)) (Xk.sq_of g3) ?_ ?_ ?_ ?_
      · intro Dl hD
        exact ⟨Xk.same_fr hD, [], upd_same, rfl⟩
      · rintro Dl j H' hD ⟨s, _⟩
        exact Xk.sq_of (s _ _ g3)
      · rintro Dl hD j a H5 ha ⟨s5, bs, h5, hbs⟩
        obtain ⟨pu, hpu, rfl⟩ := Xk.of_map_at ha
        have hpum := List.mem_of_getElem? hpu
        have hpu5 : SqT K H5 pu.1 [.int pu.2.ix, pu.2.e] := Xk.st_same (g4 pu hpum) s5
        have hue := (hv4 pu.2 (hps pu hpum).1).same s5
        have hv05 := hv04.same s5
        have lbs : bs.length ≤ 100 := by
          rw [hbs, List.length_map, List.length_take]
          omega
        wtm_at "xs"
        refine ⟨rfl, ?_⟩
        wtm_at "xs"
        refine x_neEnt hue.en hv05.en hue.kl hv05.kl ?_
        refine ⟨_, h5, Xk.size_lt (by rw [List.length_map]; omega), Xk.same_mut s5 hD, bs ++ [!decide (pu.2.k = p0.2.k)], by rw [upd_same, Xk.snoc_map], ?_⟩
        rw [hbs, List.take_add_one, hpu, List.map_append]
        rfl
      · rintro Dl H5 hD ⟨s5, bs, h5, hbs⟩
        rw [List.length_map, List.take_length] at hbs
        have s05 := s04.trans s5
        have hb5 := s5 _ _ hb4
        have hm5 := Xk.st_same hm4 s5
        have hl5 := s5 _ _ hl4
        wtm_at "xs"
        refine Xk.x_any (bs := bs) (Xk.sq_of h5) ?_
        clear h5
        wtm_at "xs"
        refine Xk.x_itb (fun h6 => ?_) (fun h6 => ?_)
        · wtm_at "xs"
          refine q2 H5 z.1 B s05 hb5 (least fun hg => ?_)
          rw [hbs, List.any_map, List.any_eq_true] at h6
          obtain ⟨pu, hpu, h7⟩ := h6
          have h8 : (!decide (pu.2.k = p0.2.k)) = true := h7
          rw [Bool.not_eq_true', decide_eq_false_iff_not] at h8
          obtain ⟨e1, e2, e3⟩ := hps pu hpu
          exact h8 (hg.1 pu.2 e1 p0.2 a1 e2 a2 e3 a3)
        · have hall0 : ∀ pu ∈ ps, pu.2.k = p0.2.k := fun pu hpu => by
            rw [hbs, List.any_map, Bool.eq_false_iff] at h6
            apply Classical.byContradiction
            intro hn
            exact h6 (List.any_eq_true.mpr ⟨pu, hpu, by show (!decide _) = true; rw [decide_eq_false hn]; rfl⟩)
          have hkB : ∀ u ∈ vs, u.ix ∈ ms → bp u = B → u.k = p0.2.k := fun u hu hi2 e => by
            obtain ⟨pu, hpu, e2⟩ := hin u hu hi2 e
            rw [← e2]
            exact hall0 pu hpu
          have hv05 := hv04.same s5
          have len := km.len L4.nd
          wtm_at "xs"
          refine ⟨m, d, l, p0.2.e, ms, vs, kvs, lkv, B, f, p0.2.k, n, H, rfl, hm5, hml, T4.same s5, hl5, L4.tu (.same (K := K) s5), by omega, hLp.la (fun u hu hi2 hlt => hbelow u hu hi2 hlt) hlow, hone, fun v hv' => (hv4 v hv').same s5, hl, hv05.en, hv05.kl, fun H6 r s6 hr => ?_⟩
          wtm_at "xs"
          refine Xk.x_itnb (fun h7 => ?_) (fun h7 => ?_)
          · wtm_at "xs"
            exact q2 H6 z.1 B (s05.trans s6) (s6 _ _ hb5) (least fun hg => by rw [hr.mpr (hg.2 p0.2 a1 a2 a3)] at h7; cases h7)
          · wtm_at "xs"
            exact ⟨rfl, s5.trans s6, fun u hu w hw' e1 e2 e3 e4 => by rw [hkB u hu e1 e3, hkB w hw' e2 e4], fun u hu e1 e2 => by rw [hkB u hu e1 e2]; exact hr.mp h7⟩
    · rintro σ' H5 ⟨rfl, s45, hG⟩
      have hget5 : DGet H5 d (.ref z.1) (some (.ref lg)) := by
        rw [← g1]
        exact DGet.t (k := ky B.1 B.2) (s45 _ _ T4.hd) (s45 _ _ hb4)
      have g35 := s45 _ _ g3
      have nlg : lg ≠ l := fun e => by
        rw [e, hl4] at g3
        cases g3
      have nzl : z.1 ≠ l := fun e => by
        rw [e, hl4] at hb4
        cases hb4
      have hl5 := s45 _ _ hl4
      wtm_at "xs"
      refine ⟨d, .ref lg, rfl, hget5, ?_⟩
      refine Xk.x_forL (xs := ps.map fun p : Addr × Vt => V.ref p.1) (fun j σ' H' => ∃ (y6 y7 : Option V) (lkv' : List (Key × V)) (f' : Int → Option (Int × Int)), σ' = [some (.ref m), some (.ref p), some (.ref d), some (.ref l), some (.ref z.1), some p0.2.e, y6, y7, y8] ∧ Xk.But l H5 H' ∧ H' l = some (.dK lkv') ∧ LdOk H' lkv' f' ∧ Km ms lkv' ∧
          ∀ m, f' m = if ((ps.take j).any fun p : Addr × Vt => decide (p.2.ix = m)) = true then some B else f m) (Xk.sq_of g35)
        ⟨_, _, lkv, f, rfl, Xk.But.refl _ _, hl5, L4.tu (.same (K := K) s45), km, fun m => rfl⟩ (fun j σ' H' _ ⟨_, _, _, _, _, b, _⟩ => Xk.sq_of (b _ _ nlg g35)) ?_ ?_
      · rintro j a σ' H6 ha ⟨y6, y7, lkv', f', rfl, b6, hl6, L6, km6, hf6⟩
        obtain ⟨pu, hpu, rfl⟩ := Xk.of_map_at ha
        have hpum := List.mem_of_getElem? hpu
        have tu6 : Tu K H5 H6 := tu_but hl5 (fun _ z => by cases z) (fun _ _ z => by cases z) b6
        have hpu6 : SqT K H6 pu.1 [.int pu.2.ix, pu.2.e] := tu6.st.t _ _ (Xk.st_same (g4 pu hpum) s45)
        have hb6 := tu6.tp _ _ (s45 _ _ hb4)
        have len := km6.len L6.nd
        wtm_at "xs"
        refine ⟨l, _, rfl, DPut.k (k := Sum.inl pu.2.ix) hl6 (by rw [sizeLine_eq]; omega), ?_⟩
        refine ⟨_, _, _, _, rfl, Xk.but_mut b6, upd_same, L6.put hb6 hl6 pu.2.ix, km6.put L6.nd (hps pu hpum).2.1 _, fun m => ?_⟩
        rw [List.take_add_one, hpu, List.any_append]
        show (if m = pu.2.ix then some B else f' m) = if ((ps.take j).any (fun p : Addr × Vt => decide (p.2.ix = m)) || (decide (pu.2.ix = m) || false)) = true then some B else f m
        by_cases c : m = pu.2.ix
        · rw [if_pos c, decide_eq_true c.symm, Bool.true_or, Bool.or_true, if_pos rfl]
        · rw [if_neg c, decide_eq_false (fun z => c z.symm), Bool.or_false, Bool.or_false, hf6]
      · rintro σ' H6 ⟨y6, y7, lkv', f', rfl, b6, hl6, L6, km6, hf6⟩
        rw [List.length_map, List.take_length] at hf6
        refine ⟨_, _, _, _, _, lkv', f', rfl, Xk.but_trans b4 (Xk.but_trans (Xk.but_same s45) b6), hl6, L6, km6, ?_, ?_⟩
        · refine hLp.step (B := B) (fun C => ?_) hlow fun m => ?_
          · constructor
            · rintro ⟨j, y, hj, hy, ey⟩
              rcases Nat.lt_succ_iff_lt_or_eq.mp hj with c | c
              · exact .inl ⟨j, y, c, hy, ey⟩
              · subst c
                rw [hzi] at hy
                cases hy
                rw [eB] at ey
                injection ey with e1 e2
                injection e2 with e2 _
                exact .inr (Prod.ext e1.symm e2.symm)
            · rintro (⟨j, y, hj, hy, ey⟩ | rfl)
              · exact ⟨j, y, Nat.lt_succ_of_lt hj, hy, ey⟩
              · exact ⟨i, z, Nat.lt_succ_self _, hzi, eB⟩
          · by_cases c : (ps.any fun p : Addr × Vt => decide (p.2.ix = m)) = true
            · obtain ⟨pu, hpu, e⟩ := List.any_eq_true.mp c
              have e := of_decide_eq_true e
              obtain ⟨e1, e2, e3⟩ := hps pu hpu
              exact .inl ⟨by rw [hf6, if_pos c], e ▸ e2, pu.2, e1, e, e3⟩
            · refine .inr ⟨by rw [hf6, if_neg c], fun u hu hi2 hm2 e => c ?_⟩
              obtain ⟨pu, hpu, e2⟩ := hin u hu (by rw [hi2]; exact hm2) e
              exact List.any_eq_true.mpr ⟨pu, hpu, decide_eq_true (by rw [e2]; exact hi2)⟩
        · intro j y C hj hy ey
          rcases Nat.lt_succ_iff_lt_or_eq.mp hj with c | c
          · exact hgd j y C c hy ey
          · subst c
            rw [hzi] at hy
            cases hy
            rw [eB] at ey
            injection ey with e1 e2
            injection e2 with e2 _
            rw [← show B = C from Prod.ext e1 e2]
            exact hG
  · rintro σ' H4 ⟨y4, y5, y6, y7, y8, lkv, f, rfl, b4, hl4, L4, km, hLp, hgd⟩
    rw [List.length_map] at hgd
    wtm_at "xs"
    refine q1 H4 (Xk.same_but b4 hl0 s03) fun v hv' hix => ?_
    obtain ⟨j, z, hj, ez⟩ := hall v hv' hix
    exact hgd j z (bp v) (Xk.at_lt hj) hj ez
--CUT--
def GrOk (K : PySem.W.Frag) (H : Hp) (q : Addr) (ms : List Int) (vs : List Vt) (v : Vt) : Prop := ∃ b e w, H q = some (.tup [.ref b, e, .ref w]) ∧ H b = some (.tup [.int v.t, .int v.x]) ∧ Xk.Pk K H 4 e (ent v.k) ∧ v.k < 6 ∧ H w = some (.tup ((vot ms vs v).map V.int))
def sp_grounds_of (K : PySem.W.Frag) : Sp := fun vs' H Q _ => ∃ m p ms vs, vs' = [.ref m, .ref p] ∧ SqT K H m (ms.map V.int) ∧ ms.Pairwise (· < ·) ∧ ms.length ≤ 10 ∧ VsAt K H p vs ∧ vs.length ≤ 100 ∧
  (∀ H', Same H H' → (∀ v ∈ vs, hit ms vs v = false) → Q .non H') ∧ ∀ H' q i v, Same H H' → GrOk K H' q ms vs v → First ms vs i v → Q (.ref q) H'
theorem ok_grounds_of (T : Txt K mg) : FnOk P w K mg base CX0 2 T.f_grounds_of T.d_grounds_of ["members", "votes"] (sp_grounds_of K) := by
  refine T.F_grounds_of.ok sc_grounds_of (fun vs H Q E h => ?_) (fun cdv A outer s H vs Q E hr h => ?_)
  · obtain ⟨m, p, ms, vs, rfl, _⟩ := h
    rfl
  obtain ⟨m, p, ms, vs, rfl, hm, hasc, hml, hv, hl, q1, q2⟩ := h
  refine ⟨_, (pss_cons (ps_set (i := 2) sc_grounds_of.nd rfl (Or.inl rfl) (pe_call (ok__by_ballot T) (hr.mono (by decide)) (by rfl) T.g__by_ballot T.F__by_ballot.kp T.b__by_ballot .nil pass0 (pa_cons (pv 0) (pa_cons (pv 1) pa_nil))))
      (pss_cons (ps_for PassesOwn.never rfl (pi_list (pe_callB (Xk.k_sortT rfl hr.units) (by rfl) T.m_sorted (by decide +kernel) (pa_cons (pv 2) pa_nil))) (pg_name (i := 3) sc_grounds_of.nd rfl (Or.inl rfl)) (pss_one (ps_for PassesOwn.never rfl (pi_list (pe_dget (hu_of hr) (pv 2) (pv 3) (fun _ _ => rfl))) (pg_tup rfl (pgs_cons (pg_name (i := 4) sc_grounds_of.nd rfl (Or.inl rfl)) (pgs_cons (pg_name (i := 5) sc_grounds_of.nd rfl (Or.inr rfl)) pgs_nil))) (pss_cons (ps_set (i := 6) sc_grounds_of.nd rfl (Or.inl rfl) (pe_callB (Xk.k_sortedSet (w := w) rfl (by rfl)) (by rfl) T.m_sorted (by decide +kernel) (pa_cons (pe_callTy (Xk.k_setOfM (K := K) (w := w) rfl (by rfl) (by rfl)) (by rfl) T.m_set (by decide +kernel) (pa_cons (pe_lc (own := [("index", 7), ("other", 8)]) (g := gTup K 2 (gCons (gName 7) (gCons (gName 8) gNil))) rfl sc_grounds_of.nd  (pi_list (pe_dget (hu_of hr) (pv 2) (pv 3) (fun _ _ => rfl))) (blkOk_by (N := N_grounds_of) (sc := defScope s_grounds_of) (own := [("index", 7), ("other", 8)]) (by decide +kernel)) (fun _ _ _ _ _ => Xk.k_gtup (K := K) (by rfl) rfl (pgs_cons (pg_name (i := 7) sc_grounds_of.nd rfl (Or.inl rfl)) (pgs_cons (pg_name (i := 8) sc_grounds_of.nd rfl (Or.inl rfl)) pgs_nil))) (fun _ _ _ _ _ => pts_one (pt_cmpR (Xk.k_eqD (K := K) hr.units (by rfl)) (pv 8) (pv 5) (nomark _))) (fun _ _ _ _ _ => (pv 7))) pa_nil)) pa_nil)))
      (pss_one (ps_if (pt_val (pe_call (ok_more_than_half T) (hr.mono (by decide)) (by rfl) T.g_more_than_half T.F_more_than_half.kp T.b_more_than_half .nil pass0 (pa_cons (pv 0) (pa_cons (pv 6) pa_nil)))) (pss_one (ps_ret (pe_tup (pa_cons (pv 3) (pa_cons (pv 5) (pa_cons (pe_callTy (Xk.k_tuple (K := K) (by rfl)) (by rfl) T.m_tuple (by decide +kernel) (pa_cons (pv 6) pa_nil)) pa_nil)))))) pss_nil))))))
      (pss_one (ps_ret (pe_non))))), ?_⟩
  wtm_at "x0"
  wtm_at "xs"
  refine ⟨m, p, ms, vs, rfl, hm, hv, hl, fun H1 d kvs n s1 T hn _ => ?_⟩
  obtain ⟨ks, k1, k2, k3⟩ := T.ks
  wtm_at "xs"
  refine ⟨d, kvs, ks, rfl, T.hd, k1, fun k hk => ?_, by omega, fun sp zs hsp hperm hpw hz => ?_⟩
  · obtain ⟨t, x, rfl⟩ := k2 k hk
    exact fun z => by cases z
  have s2 : Same H1 (upd H1 sp (.lst (zs.map fun z => V.ref z.1))) := Xk.same_new hsp
  have hsl : upd H1 sp (.lst (zs.map fun z => V.ref z.1)) sp = some (.lst (zs.map fun z => V.ref z.1)) := upd_same
  generalize upd H1 sp (.lst (zs.map fun z => V.ref z.1)) = H2 at *
  have T2 := T.same s2
  have hz2 : ∀ z ∈ zs, H2 z.1 = some (.tup (z.2.map V.int)) := fun z h => s2 _ _ (hz z h)
  have hall : ∀ u ∈ vs, u.ix ∈ ms → ∃ (i : Nat) (z : Addr × List Int), zs[i]? = some z ∧ z.2 = [u.t, u.x] := fun u hu hm => key_zs T k1 hperm hu hm
  have hv2 := hv.same (s1.trans s2)
  have hm2 := Xk.st_same hm (s1.trans s2)
  have s02 := s1.trans s2
  clear T hz hsp s1 s2 hv hm
  refine Xk.x_forL (xs := zs.map fun z => V.ref z.1) (fun i σ' H' => ∃ y3 y4 y5 y6 y7 y8 : Option V, σ' = [some (.ref m), some (.ref p), some (.ref d), y3, y4, y5, y6, y7, y8] ∧ Same H2 H' ∧ ∀ i' z', i' < i → zs[i']? = some z' → ∀ u ∈ vs, z'.2 = [u.t, u.x] → hit ms vs u = false) (Xk.sq_of hsl)
    ⟨_, _, _, _, _, _, rfl, Same.refl _, fun i' z' h => absurd h (Nat.not_lt_zero _)⟩ (fun i σ' H' _ ⟨_, _, _, _, _, _, _, s, _⟩ => Xk.sq_of (s _ _ hsl)) ?_ ?_
  · rintro i a σ' H3 hi ⟨y3, y4, y5, y6, y7, y8, rfl, s3, hbef⟩
    obtain ⟨z, hzi, rfl⟩ := Xk.of_map_at hi
    have hzm := List.mem_of_getElem? hzi
    obtain ⟨t, x, etx⟩ := k2 z.2 (hperm.mem_iff.mp (List.mem_map_of_mem (f := fun z : Addr × List Int => z.2) hzm))
    have hb3 := s3 _ _ (hz2 z hzm)
    rw [etx] at hb3
    have T3 := T2.same s3
    obtain ⟨w, hw⟩ : ∃ w, valV kvs (ky t x) = some w := vhas (by
      rw [k1]
      refine List.mem_map.mpr ⟨z.2, hperm.mem_iff.mp (List.mem_map_of_mem (f := fun z : Addr × List Int => z.2) hzm), ?_⟩
      rw [etx]
      rfl)
    obtain ⟨l, ps, g1, g2, g3, g4, g5⟩ : ∃ (l : Addr) (ps : List (Addr × Vt)), valV kvs (ky t x) = some (.ref l) ∧ Xk.Fr l H ∧ H3 l = some (.lst (ps.map fun p : Addr × Vt => V.ref p.1)) ∧ (∀ p ∈ ps, SqT K H3 p.1 [.int p.2.ix, p.2.e]) ∧ ps.map (·.2) = grp ms vs t x := by
      rcases T3.at_ t x with ⟨g, _⟩ | g
      · rw [g] at hw
        cases hw
      · exact g
    have hget : DGet H3 d (.ref z.1) (some (.ref l)) := by
      rw [← g1]
      exact DGet.t (k := ky t x) T3.hd hb3
    wtm_at "xs"
    refine ⟨d, .ref l, rfl, hget, ?_⟩
    have hv3 : ∀ v ∈ vs, VtAt K H3 v := fun v hv => (hv2.2 v hv).same s3
    have hgv : ∀ (j : Nat) (u : Vt), (grp ms vs t x)[j]? = some u → u ∈ vs ∧ u.ix ∈ ms ∧ u.t = t ∧ u.x = x := fun j u h => in_grp.mp (List.mem_of_getElem? h)
    refine Xk.x_forL (xs := ps.map fun p : Addr × Vt => V.ref p.1) (fun j σ' H' => ∃ y4 y5 y6 y7 y8 : Option V, σ' = [some (.ref m), some (.ref p), some (.ref d), some (.ref z.1), y4, y5, y6, y7, y8] ∧ Same H3 H' ∧ ∀ j' u, j' < j → (grp ms vs t x)[j']? = some u → hit ms vs u = false) (Xk.sq_of g3)
      ⟨_, _, _, _, _, rfl, Same.refl _, fun j' u h => absurd h (Nat.not_lt_zero _)⟩ (fun j σ' H' _ ⟨_, _, _, _, _, _, s, _⟩ => Xk.sq_of (s _ _ g3)) ?_ ?_
    · rintro j a σ' H4 hj ⟨y4, y5, y6, y7, y8, rfl, s4, hbefj⟩
      obtain ⟨pr, hpj, rfl⟩ := Xk.of_map_at hj
      obtain ⟨pa, v⟩ := pr
      have hgj : (grp ms vs t x)[j]? = some v := by
        rw [← g5, List.getElem?_map, hpj]
        rfl
      obtain ⟨hvm, hvi, rfl, rfl⟩ := hgv j v hgj
      have hpv := Xk.st_same (g4 _ (List.mem_of_getElem? hpj)) s4
      replace hpv : SqT K H4 pa [.int v.ix, v.e] := hpv
      have hve := (hv3 v hvm).same s4
      have hget4 : DGet H4 d (.ref z.1) (some (.ref l)) := by
        rw [← g1]
        exact DGet.t (k := ky v.t v.x) ((T3.same s4).hd) (s4 _ _ hb3)
      have hm4 := Xk.st_same hm2 (s3.trans s4)
      have hz4 := s4 _ _ hb3
      have g34 := s4 _ _ g3
      have hvs4 : ∀ u ∈ vs, VtAt K H4 u := fun u hu => (hv3 u hu).same s4
      wtm_at "xs"
      refine ⟨d, .ref l, rfl, hget4, ?_⟩
      refine Xk.x_lcL (xs := ps.map fun p : Addr × Vt => V.ref p.1) (fun Dl i2 H' => Same H4 H' ∧ H' Dl = some (.lst ((((ps.take i2).filter fun p : Addr × Vt => decide (p.2.k = v.k)).map fun p => p.2.ix).map V.int))) (Xk.sq_of g34) ?_ ?_ ?_ ?_
      · intro Dl hD
        exact ⟨Xk.same_fr hD, upd_same⟩
      · rintro Dl i2 H' hD ⟨s5, _⟩
        exact Xk.sq_of (s5 _ _ g34)
      · rintro Dl hD i2 a H5 ha ⟨s5, h5⟩
        obtain ⟨pu, hpu, rfl⟩ := Xk.of_map_at ha
        have hpu5 := Xk.st_same (g4 _ (List.mem_of_getElem? hpu)) (s4.trans s5)
        have hil := Xk.at_lt hpu
        have hgu : (grp ms vs v.t v.x)[i2]? = some pu.2 := by
          rw [← g5, List.getElem?_map, hpu]
          rfl
        have hum := (hgv i2 pu.2 hgu).1
        have hue := (hvs4 pu.2 hum).same s5
        have hve5 := hve.same s5
        have lsz : (((ps.take i2).filter fun p : Addr × Vt => decide (p.2.k = v.k)).map fun p => p.2.ix).length ≤ ps.length := by
          rw [List.length_map]
          refine Nat.le_trans (List.length_filter_le ..) ?_
          rw [List.length_take]
          exact Nat.min_le_right ..
        have hpl : ps.length ≤ 100 := by
          have z := congrArg List.length g5
          rw [List.length_map] at z
          unfold grp at z
          have z2 := List.length_filter_le (fun u : Vt => decide (u.ix ∈ ms) && (decide (u.t = v.t) && decide (u.x = v.x))) vs
          omega
        wtm_at "xs"
        refine ⟨rfl, ?_⟩
        wtm_at "xs"
        refine x_eqEnt hue.en hve5.en hue.kl hve5.kl ?_
        wtm_at "xs"
        refine Xk.x_itd (fun h8 => ?_) (fun h8 => ?_)
        · wtm_at "xs"
          refine ⟨_, h5, Xk.size_lt (by rw [List.length_map]; omega), Xk.same_mut s5 hD, ?_⟩
          rw [upd_same, List.take_add_one, hpu, List.filter_append]
          simp [h8]
        · wtm_at "xs"
          refine ⟨s5, ?_⟩
          rw [h5, List.take_add_one, hpu, List.filter_append]
          simp [h8]
      · rintro Dl H5 hD ⟨s5, h5⟩
        rw [List.length_map, List.take_length] at h5
        have hpl : ps.length ≤ 100 := by
          have z := congrArg List.length g5
          rw [List.length_map] at z
          unfold grp at z
          have z2 := List.length_filter_le (fun u : Vt => decide (u.ix ∈ ms) && (decide (u.t = v.t) && decide (u.x = v.x))) vs
          omega
        have lsz : ((ps.filter fun p : Addr × Vt => decide (p.2.k = v.k)).map fun p => p.2.ix).length ≤ 100 := by
          rw [List.length_map]
          exact Nat.le_trans (List.length_filter_le ..) hpl
        wtm_at "xs"
        refine Xk.x_setOfM (Xk.sq_of h5) (by omega) fun e H6 n6 he s6 h6 hn6 => ?_
        have hn7 : n6 ≤ ms.length := hn6 ms fun y hy => by
          obtain ⟨pu, hpu, rfl⟩ := List.mem_map.mp hy
          have hg : pu.2 ∈ grp ms vs v.t v.x := by
            rw [← g5]
            exact List.mem_map_of_mem (f := fun p : Addr × Vt => p.2) (List.mem_filter.mp hpu).1
          exact (in_grp.mp hg).2.1
        wtm_at "xs"
        refine Xk.x_sortedSet h6 (by omega) fun wp H7 ws hp1 hp2 hp3 hwp s7 h7 => ?_
        have hws : ws = vot ms vs v := asc_eq hp1 (hasc.filter _) fun k => by
          rw [hp2, decide_eq_true_iff, List.mem_map, in_vot]
          constructor
          · rintro ⟨pu, hpu, rfl⟩
            obtain ⟨hm1, hm2⟩ := List.mem_filter.mp hpu
            have hg : pu.2 ∈ grp ms vs v.t v.x := by
              rw [← g5]
              exact List.mem_map_of_mem (f := fun p : Addr × Vt => p.2) hm1
            obtain ⟨a1, a2, a3, a4⟩ := in_grp.mp hg
            exact ⟨a2, pu.2, a1, rfl, a3, a4, of_decide_eq_true hm2⟩
          · rintro ⟨a1, u, a2, rfl, a3, a4, a5⟩
            have hg : u ∈ ps.map (·.2) := by
              rw [g5]
              exact in_grp.mpr ⟨a2, a1, a3, a4⟩
            obtain ⟨pu, hpu, rfl⟩ := List.mem_map.mp hg
            exact ⟨pu, List.mem_filter.mpr ⟨hpu, decide_eq_true a5⟩, rfl⟩
        subst hws
        have s47 := s5.trans (s6.trans s7)
        have hm7 := Xk.st_same hm4 s47
        have hz7 := s47 _ _ hz4
        have hve7 := hve.same s47
        clear h5 h6 s5 s6 s7 he hwp hD
        wtm_at "xs"
        refine ⟨m, wp, ms, vot ms vs v, rfl, hm7, .inl (Xk.sq_of h7), by omega, fun H8 s8 => ?_⟩
        have hfi : (ms.filter fun m => decide (m ∈ vot ms vs v)) = vot ms vs v := filt_in
        rw [hfi]
        have hhit : hit ms vs v = decide (ms.length < 2 * (vot ms vs v).length) := by
          unfold hit
          rw [decide_eq_true hvi, Bool.true_and]
        have h78 := s8 _ _ h7
        have hz8 := s8 _ _ hz7
        have hve8 := hve7.same s8
        clear h7 hz7 hve7
        wtm_at "xs"
        refine Xk.x_itd (fun hc => ?_) (fun hc => ?_)
        · wtm_at "xs"
          intro w1 H9 hw1 s9 h9
          wtm_at "xs"
          intro q1 H10 hq1 s10 h10
          have s410 := s4.trans (s47.trans (s8.trans (s9.trans s10)))
          obtain ⟨i0, hF⟩ := first_of hzi etx hpw hall hgj (by rw [hhit]; exact decide_eq_true (by omega)) hbef hbefj
          exact q2 H10 q1 i0 v (s02.trans (s3.trans s410)) ⟨z.1, v.e, w1, h10, (s9.trans s10) _ _ hz8, (hve8.en).same (s9.trans s10), hve8.kl, s10 _ _ h9⟩ hF
        · wtm_at "xs"
          refine ⟨_, _, _, _, _, rfl, s4.trans (s47.trans s8), fun j' u hj' hu => ?_⟩
          rcases Nat.lt_succ_iff_lt_or_eq.mp hj' with c | c
          · exact hbefj j' u c hu
          · subst c
            rw [hgj] at hu
            cases hu
            rw [hhit]
            exact decide_eq_false (by omega)
    · rintro σ' H4 ⟨y4, y5, y6, y7, y8, rfl, s4, hbefj⟩
      refine ⟨_, _, _, _, _, _, rfl, s3.trans s4, fun i' z' hi' hz' u hu e => ?_⟩
      rcases Nat.lt_succ_iff_lt_or_eq.mp hi' with c | c
      · exact hbef i' z' c hz' u hu e
      · subst c
        rw [hzi] at hz'
        cases hz'
        rw [etx] at e
        injection e with e1 e2
        injection e2 with e2 _
        cases eh : hit ms vs u with
        | false => rfl
        | true =>
          have hix : u.ix ∈ ms := by
            unfold hit at eh
            rw [Bool.and_eq_true, decide_eq_true_eq] at eh
            exact eh.1
          obtain ⟨j, hj⟩ := List.mem_iff_getElem?.mp (in_grp.mpr ⟨hu, hix, e1.symm, e2.symm⟩)
          have := Xk.at_lt hj
          rw [hbefj j u (by rw [← g5] at this; rw [List.length_map] at this ⊢; exact this) hj] at eh
          cases eh
  · rintro σ' H3 ⟨y3, y4, y5, y6, y7, y8, rfl, s3, hbef⟩
    rw [List.length_map] at hbef
    wtm_at "xs"
    refine q1 H3 (s02.trans s3) fun v hv => ?_
    cases e : hit ms vs v with
    | false => rfl
    | true =>
      have hix : v.ix ∈ ms := by
        unfold hit at e
        rw [Bool.and_eq_true, decide_eq_true_eq] at e
        exact e.1
      obtain ⟨i, z, hz, e2⟩ := hall v hv hix
      rw [hbef i z (Xk.at_lt hz) hz v hv e2] at e
      cases e
--CUT--
def sp_choice_of (K : PySem.W.Frag) : Sp := fun vs' H Q _ => ∃ m p ms vs, vs' = [.ref m, .ref p] ∧ SqT K H m (ms.map V.int) ∧ ms.Pairwise (· < ·) ∧ ms.length ≤ 10 ∧ VsAt K H p vs ∧ vs.length ≤ 100 ∧
  (∀ H', Same H H' → (∀ v ∈ vs, hit ms vs v = false) → Q .non H') ∧ ∀ H' e i v, Same H H' → Xk.Pk K H' 4 e (ent v.k) → v.k < 6 → First ms vs i v → Q e H'
theorem ok_choice_of (T : Txt K mg) : FnOk P w K mg base CX0 3 T.f_choice_of T.d_choice_of ["members", "votes"] (sp_choice_of K) := by
  refine T.F_choice_of.ok sc_choice_of (fun vs H Q E h => ?_) (fun cdv A outer s H vs Q E hr h => ?_)
  · obtain ⟨m, p, ms, vs, rfl, _⟩ := h
    rfl
  obtain ⟨m, p, ms, vs, rfl, hm, hasc, hml, hv, hl, q1, q2⟩ := h
  refine ⟨_, (pss_cons (ps_set (i := 2) sc_choice_of.nd rfl (Or.inl rfl) (pe_call (ok_grounds_of T) (hr.mono (by decide)) (by rfl) T.g_grounds_of T.F_grounds_of.kp T.b_grounds_of .nil pass0 (pa_cons (pv 0) (pa_cons (pv 1) pa_nil))))
      (pss_one (ps_ret (pe_ifExp (pt_cmpR Xk.op_nIsN (pv 2) (pe_non) (nomark _)) (pe_non) (pe_ix (Xk.k_ixT (K := K) (by rfl)) (pv 2) (pe_int) (fun _ _ => rfl)))))), ?_⟩
  wtm_at "x0"
  wtm_at "xs"
  refine ⟨m, p, ms, vs, rfl, hm, hasc, hml, hv, hl, fun H1 s1 hno => ?_, fun H1 g i v s1 hG hF => ?_⟩
  · wtm_at "xs"
    exact q1 H1 s1 hno
  · obtain ⟨b, e, w, g1, g2, g3, g4, g5⟩ := hG
    wtm_at "xs"
    exact q2 H1 e i v s1 g3 g4 hF
def vd (v : Vt) : PyData := .tuple [.int v.ix, .tuple [.int v.t, .int v.x], ent v.k]
theorem vd_eqv {m : Int} {u v : Vt} (hu : u.k < 6) (hv : v.k < 6) : PyData.eqv (vd u) (.tuple [.int m, .tuple [.int v.t, .int v.x], ent v.k]) = (decide (u.ix = m) && alk u v) := by
  have h : PyData.eqv (vd u) (.tuple [.int m, .tuple [.int v.t, .int v.x], ent v.k]) = ((u.ix == m) && ((u.t == v.t && (u.x == v.x && true)) && (PyData.eqv (ent u.k) (ent v.k) && true))) := by
    unfold vd
    simp only [PyData.eqv, PyData.eqvAll]
  rw [h, ent_eqv hu hv]
  unfold alk
  rw [Bool.eq_iff_iff]
  simp only [Bool.and_eq_true, beq_iff_eq, decide_eq_true_eq, and_true, and_assoc]
theorem vd_in {m : Int} {v : Vt} (hv : v.k < 6) : ∀ vs : List Vt, (∀ u ∈ vs, u.k < 6) → Xk.inD (.tuple [.int m, .tuple [.int v.t, .int v.x], ent v.k]) (vs.map vd) = vs.any fun u => decide (u.ix = m) && alk u v := fun vs h => by
  unfold Xk.inD
  rw [List.any_map]
  induction vs with
  | nil => rfl
  | cons u r ih =>
    rw [List.any_cons, List.any_cons, ih fun w hw => h w (List.mem_cons_of_mem _ hw)]
    congr 1
    exact vd_eqv (h u (List.mem_cons_self ..)) hv
theorem VtAt.pk {H : Hp} {v : Vt} (h : VtAt K H v) : Xk.Pk K H 6 (.ref v.a) (vd v) := Xk.pk_tup3 (n := 5) h.tp Xk.pk_int ((Xk.pk_tup2 (n := 4) (Xk.st_of h.bl) Xk.pk_int Xk.pk_int)) (h.en.mono (by decide))
theorem pk_vts {H : Hp} : ∀ vs : List Vt, (∀ v ∈ vs, VtAt K H v) → Xk.PkAll K H 6 (vs.map fun v => V.ref v.a) (vs.map vd)
  | [], _ => Xk.pk_nil
  | v :: r, h => Xk.pk_cons (h v (List.mem_cons_self ..)).pk (pk_vts r fun u hu => h u (List.mem_cons_of_mem _ hu))
theorem pk_snoc {H : Hp} {n : Nat} {w : V} {d : PyData} (hw : Xk.Pk K H n w d) : ∀ {vs : List V} {ds : List PyData}, Xk.PkAll K H n vs ds → Xk.PkAll K H n (vs ++ [w]) (ds ++ [d])
  | [], ds, h => by
    obtain ⟨h1, _, _⟩ := h
    cases h1
    exact Xk.pk_cons hw Xk.pk_nil
  | v :: vs, ds, h => by
    obtain ⟨e, es, rfl, h1, h2⟩ := h.uncons
    exact Xk.pk_cons h1 (pk_snoc hw h2)
--CUT--
/-- what grounds are -/
structure Isg (ms : List Int) (vs : List Vt) (B : Int × Int) (k : En) (ns : List Int) : Prop where
  own : ns = ms.filter fun m => decide (m ∈ ns)
  maj : Maj ms ns
  law : ∀ v ∈ vs, v.ix ∈ ms → Gd ms vs (bp v)
  all : ∀ i ∈ ns, ∃ u ∈ vs, u.ix = i ∧ bp u = B ∧ u.k = k
/-- grounds in the heap -/
structure GdsAt (K : PySem.W.Frag) (H : Hp) (g : Addr) (b : Addr) (e : V) (w : Addr) (B : Int × Int) (k : En) (ns : List Int) : Prop where
  tp : SqT K H g [.ref b, e, .ref w]
  bl : H b = some (.tup [.int B.1, .int B.2])
  en : Xk.Pk K H 4 e (ent k)
  kl : k < 6
  ix : H w = some (.tup (ns.map V.int))
theorem GdsAt.tu {H H' : Hp} {g b w : Addr} {e : V} {B : Int × Int} {k : En} {ns : List Int} (h : GdsAt K H g b e w B k ns) (s : Tu K H H') : GdsAt K H' g b e w B k ns := ⟨s.st.t _ _ h.tp, s.tp _ _ h.bl, h.en.st s.st, h.kl, s.tp _ _ h.ix⟩
theorem GdsAt.same {H H' : Hp} {g b w : Addr} {e : V} {B : Int × Int} {k : En} {ns : List Int} (h : GdsAt K H g b e w B k ns) (s : Same H H') : GdsAt K H' g b e w B k ns := h.tu (.same s)
/-- a vote of i among the votes -/
def hasV (vs : List Vt) (i : Int) (B : Int × Int) (k : En) : Bool := vs.any fun u => decide (u.ix = i) && alk u ⟨0, 0, i, B.1, B.2, .non, k⟩
theorem hasV_iff {vs : List Vt} {i : Int} {B : Int × Int} {k : En} : hasV vs i B k = true ↔ ∃ u ∈ vs, u.ix = i ∧ bp u = B ∧ u.k = k := by
  unfold hasV alk
  rw [List.any_eq_true]
  simp only [Bool.and_eq_true, decide_eq_true_eq]
  exact ⟨fun ⟨u, h1, h2, h3, h4, h5⟩ => ⟨u, h1, h2, Prod.ext h3 h4, h5⟩, fun ⟨u, h1, h2, h3, h4⟩ => ⟨u, h1, h2, congrArg Prod.fst h3, congrArg Prod.snd h3, h4⟩⟩
theorem has_pk {H : Hp} {vs : List Vt} (hv : ∀ u ∈ vs, VtAt K H u) {tq b : Addr} {e : V} {i : Int} {B : Int × Int} {k : En} {p : Addr} (hp : SqL K H p (vs.map fun v => V.ref v.a)) (ht : H tq = some (.tup [.int i, .ref b, e])) (hb : H b = some (.tup [.int B.1, .int B.2])) (he : Xk.Pk K H 4 e (ent k)) (hk : k < 6) {Q : VK} (q : Q (.bl (hasV vs i B k)) H) : rInD K (.ref tq) (.ref p) H Q := by
  refine Xk.x_inPk (n := 6) (m := 6) (Xk.pk_tup3 (n := 5) (Xk.st_of ht) Xk.pk_int (Xk.pk_tup2 (n := 4) (Xk.st_of hb) Xk.pk_int Xk.pk_int) (he.mono (by decide))) hp (pk_vts vs hv) ?_
  rw [vd_in (v := ⟨0, 0, i, B.1, B.2, .non, k⟩) hk vs fun u hu => (hv u hu).kl]
  exact q
theorem Least.not {ms : List Int} {vs : List Vt} {B : Int × Int} (h : Least ms vs B) (g : ∀ v ∈ vs, v.ix ∈ ms → Gd ms vs (bp v)) : False := by
  obtain ⟨v, h1, h2, h3⟩ := h.at_
  exact h.bad (h3 ▸ g v h1 h2)
theorem maj_dec {ms S : List Int} : decide ((ms.length : Int) < 2 * ((ms.filter fun m => decide (m ∈ S)).length : Int)) = decide (ms.length < 2 * (ms.filter fun m => decide (m ∈ S)).length) := decide_eq_decide.mpr (by omega)
def sp_are_grounds (K : PySem.W.Frag) : Sp := fun vs' H Q _ => ∃ (m p g b w : Addr) (e : V) (ms ns : List Int) (vs : List Vt) (B : Int × Int) (k : En), vs' = [.ref m, .ref p, .ref g] ∧ SqT K H m (ms.map V.int) ∧ ms.length ≤ 10 ∧ VsAt K H p vs ∧ vs.length ≤ 100 ∧ GdsAt K H g b e w B k ns ∧ ns.length ≤ 40 ∧
  ∀ H' (r : Bool), Same H H' → (r = true ↔ Isg ms vs B k ns) → Q (.bl r) H'
theorem ok_are_grounds (T : Txt K mg) : FnOk P w K mg base CX0 4 T.f_are_grounds T.d_are_grounds ["members", "votes", "grounds"] (sp_are_grounds K) := by
  refine T.F_are_grounds.ok sc_are_grounds (fun vs H Q E h => ?_) (fun cdv A outer s H vs Q E hr h => ?_)
  · obtain ⟨m, p, g, b, w, e, ms, ns, vs, B, k, rfl, _⟩ := h
    rfl
  obtain ⟨m, p, g, b, w, e, ms, ns, vs, B, k, rfl, hm, hml, hv, hl, hg, hnl, q⟩ := h
  refine ⟨_, (pss_cons (ps_asg (pv 2) (pg_tup rfl (pgs_cons (pg_name (i := 3) sc_are_grounds.nd rfl (Or.inr rfl)) (pgs_cons (pg_name (i := 4) sc_are_grounds.nd rfl (Or.inr rfl)) (pgs_cons (pg_name (i := 5) sc_are_grounds.nd rfl (Or.inr rfl)) pgs_nil)))))
      (Evl.pss_cut (ps_if (pt_cmpR (Xk.k_neD (K := K) hr.units (by rfl)) (pe_callTy (Xk.k_list (K := K) (by rfl)) (by rfl) T.m_list (by decide +kernel) (pa_cons (pv 5) pa_nil)) (pe_lc (own := [("member", 6)]) (g := gName 6) rfl sc_are_grounds.nd  (pi_tup (pv 0)) (blkOk_by (N := N_are_grounds) (sc := defScope s_are_grounds) (own := [("member", 6)]) (by decide +kernel)) (fun _ _ _ _ _ => pg_name (i := 6) sc_are_grounds.nd rfl (Or.inl rfl)) (fun _ _ _ _ _ => pts_one (pt_cmpR (Xk.k_in (K := K) (by rfl)) (pv 6) (pv 5) (by rfl))) (fun _ _ _ _ _ => (pv 6))) (nomark _)) (pss_one (ps_ret (pe_bl))) pss_nil)
      (Evl.pss_cut (ps_if (PW.pt (pw_or (pt_not (pt_val (pe_call (ok_more_than_half T) (hr.mono (by decide)) (by rfl) T.g_more_than_half T.F_more_than_half.kp T.b_more_than_half .nil pass0 (pa_cons (pv 0) (pa_cons (pv 5) pa_nil))))) (pw_or1 (pt_cmpR Xk.op_nNotN (pe_call (ok_unlawful_ballot T) (hr.mono (by decide)) (by rfl) T.g_unlawful_ballot T.F_unlawful_ballot.kp T.b_unlawful_ballot .nil pass0 (pa_cons (pv 0) (pa_cons (pv 1) pa_nil))) (pe_non) (nomark _))))) (pss_one (ps_ret (pe_bl))) pss_nil)
      (pss_one (ps_ret (pe_callB (Xk.k_all (K := K) rfl (by rfl)) (by rfl) T.m_all (by decide +kernel) (pa_cons (pe_lc (own := [("index", 7)]) (g := gName 7) (tt := tYes) rfl sc_are_grounds.nd  (pi_tup (pv 5)) (blkOk_by (N := N_are_grounds) (sc := defScope s_are_grounds) (own := [("index", 7)]) (by decide +kernel)) (fun _ _ _ _ _ => pg_name (i := 7) sc_are_grounds.nd rfl (Or.inl rfl)) (fun _ _ _ _ _ => pts_nil) (fun _ _ _ _ _ => (pe_cmpR (Xk.k_inD (K := K) (Xk.u65 hr) (by rfl)) (pe_tup (pa_cons (pv 7) (pa_cons (pv 3) (pa_cons (pv 4) pa_nil)))) (pv 1) (by rfl)))) pa_nil))))))), ?_⟩
  wtm_at "x0"
  have htp := hg.tp
  have hix := hg.ix
  wtm_at "xs"
  refine Xk.x_cut (fun σ' H' => σ' = [some (.ref m), some (.ref p), some (.ref g), some (.ref b), some e, some (.ref w), none, none] ∧ Same H H' ∧ ns = ms.filter fun m => decide (m ∈ ns)) ?_ ?_
  · wtm_at "xs"
    intro l H1 hl1 s1 g1
    have hm1 := Xk.st_same hm s1
    have hix1 := s1 _ _ hix
    wtm_at "xs"
    refine Xk.x_lcT (xs := ms.map V.int) (fun Dl i H' => Same H1 H' ∧ H' Dl = some (.lst (((ms.take i).filter fun m => decide (m ∈ ns)).map V.int))) hm1 ?_ ?_ ?_ ?_
    · exact fun Dl hD => ⟨Xk.same_fr hD, upd_same⟩
    · exact fun Dl i H' hD ⟨s2, _⟩ => Xk.st_same hm1 s2
    · rintro Dl hD i x H' hi ⟨s2, h2⟩
      obtain ⟨mm, hmm, rfl⟩ := Xk.of_map_at hi
      have hix2 := s2 _ _ hix1
      have hi2 := Xk.at_lt hmm
      wtm_at "xs"
      refine ⟨rfl, ?_⟩
      wtm_at "xs"
      refine Xk.x_inT (Xk.st_of hix2) rfl (Xk.flat_ints _) ?_
      rw [Xk.in_ints]
      wtm_at "xs"
      refine Xk.x_itd (fun h3 => ?_) (fun h3 => ?_)
      · wtm_at "xs"
        refine ⟨_, h2, Xk.size_lt ?_, Xk.same_mut s2 hD, ?_⟩
        · have := List.length_filter_le (fun m => decide (m ∈ ns)) (ms.take i)
          have h5 := List.length_take_le i ms
          rw [List.length_map]
          omega
        · rw [upd_same, List.take_add_one, hmm, List.filter_append, Xk.snoc_map]
          simp [h3]
      · wtm_at "xs"
        refine ⟨s2, ?_⟩
        rw [h2, List.take_add_one, hmm, List.filter_append]
        simp [h3]
    · rintro Dl H' hD ⟨s2, h2⟩
      rw [List.length_map, List.take_length] at h2
      refine Xk.x_neInts (Xk.sq_of (s2 _ _ g1)) (Xk.sq_of h2) ?_
      wtm_at "xs"
      refine Xk.x_itn (fun h3 => ?_) (fun h3 => ?_)
      · wtm_at "xs"
        exact q _ false (s1.trans s2) ⟨fun z => Bool.noConfusion z, fun z => absurd z.own h3⟩
      · wtm_at "xs"
        exact ⟨rfl, s1.trans s2, h3⟩
  · clear htp hix
    rintro σ' H1 ⟨rfl, s1, hown⟩
    have hg1 := hg.same s1
    have hm1 := Xk.st_same hm s1
    have hv1 := hv.same s1
    refine Xk.x_cut (fun σ' H' => σ' = [some (.ref m), some (.ref p), some (.ref g), some (.ref b), some e, some (.ref w), none, none] ∧ Same H H' ∧ Maj ms ns ∧ ∀ v ∈ vs, v.ix ∈ ms → Gd ms vs (bp v)) ?_ ?_
    · wtm_at "xs"
      refine ⟨m, w, ms, ns, rfl, hm1, .inr (Xk.st_of hg1.ix), by omega, fun H2 s2 => ?_⟩
      rw [maj_dec]
      have s02 := s1.trans s2
      wtm_at "xs"
      refine Xk.x_itn (fun h3 => ?_) (fun h3 => ?_)
      · wtm_at "xs"
        exact q _ false s02 ⟨fun z => Bool.noConfusion z, fun z => absurd z.maj h3⟩
      · wtm_at "xs"
        refine ⟨m, p, ms, vs, rfl, Xk.st_same hm s02, hml, hv.same s02, hl, fun H3 s3 hgd => ?_, fun H3 q3 C s3 hq3 hL => ?_⟩
        · wtm_at "xs"
          exact ⟨rfl, s02.trans s3, h3, hgd⟩
        · wtm_at "xs"
          exact q _ false (s02.trans s3) ⟨fun z => Bool.noConfusion z, fun z => (hL.not z.law).elim⟩
    · clear s1 hg1 hm1 hv1
      rintro σ' H1 ⟨rfl, s1, hmaj, hgd⟩
      have hg1 := hg.same s1
      have hix1 := hg1.ix
      wtm_at "xs"
      refine Xk.x_lcT (xs := ns.map V.int) (fun Dl i H' => Same H1 H' ∧ H' Dl = some (.lst (((ns.take i).map fun i => hasV vs i B k).map V.bl))) (Xk.st_of hix1) ?_ ?_ ?_ ?_
      · exact fun Dl hD => ⟨Xk.same_fr hD, upd_same⟩
      · exact fun Dl i H' hD ⟨s2, _⟩ => Xk.st_of (s2 _ _ hix1)
      · rintro Dl hD i x H2 hi ⟨s2, h2⟩
        obtain ⟨mm, hmm, rfl⟩ := Xk.of_map_at hi
        have hi2 := Xk.at_lt hmm
        wtm_at "xs"
        refine ⟨rfl, ?_⟩
        wtm_at "xs"
        intro tq H3 htq s3 h3
        have s23 := s2.trans s3
        have s03 := s1.trans s23
        have hg3 := hg1.same s23
        have g3 := s3 _ _ h2
        wtm_at "xs"
        refine has_pk (fun u hu => (hv.2 u hu).same s03) (Xk.sq_same hv.1 s03) h3 hg3.bl hg3.en hg3.kl ?_
        refine ⟨_, g3, Xk.size_lt (by rw [List.length_map, List.length_map, List.length_take]; omega), Xk.same_mut s23 hD, ?_⟩
        rw [upd_same, List.take_add_one, hmm, List.map_append, List.map_append]
        rfl
      · rintro Dl H2 hD ⟨s2, h2⟩
        rw [List.length_map, List.take_length] at h2
        refine Xk.x_all (Xk.sq_of h2) ?_
        refine q _ _ (s1.trans s2) ?_
        rw [List.all_map, List.all_eq_true]
        exact ⟨fun z => ⟨hown, hmaj, hgd, fun i hi => hasV_iff.mp (z i hi)⟩, fun z i hi => hasV_iff.mpr (z.all i hi)⟩
theorem has_npk {H : Hp} {vs : List Vt} (hv : ∀ u ∈ vs, VtAt K H u) {tq b : Addr} {e : V} {i : Int} {B : Int × Int} {k : En} {p : Addr} (hp : SqL K H p (vs.map fun v => V.ref v.a)) (ht : H tq = some (.tup [.int i, .ref b, e])) (hb : H b = some (.tup [.int B.1, .int B.2])) (he : Xk.Pk K H 4 e (ent k)) (hk : k < 6) {Q : VK} (q : Q (.bl (!hasV vs i B k)) H) : rNotInD K (.ref tq) (.ref p) H Q := by
  refine Xk.x_ninPk (n := 6) (m := 6) (Xk.pk_tup3 (n := 5) (Xk.st_of ht) Xk.pk_int (Xk.pk_tup2 (n := 4) (Xk.st_of hb) Xk.pk_int Xk.pk_int) (he.mono (by decide))) hp (pk_vts vs hv) ?_
  rw [vd_in (v := ⟨0, 0, i, B.1, B.2, .non, k⟩) hk vs fun u hu => (hv u hu).kl]
  exact q
theorem isg_vot {ms : List Int} {vs : List Vt} {v : Vt} (h : hit ms vs v = true) : Isg ms vs (bp v) v.k (vot ms vs v) ↔ ∀ v ∈ vs, v.ix ∈ ms → Gd ms vs (bp v) := by
  refine ⟨fun z => z.law, fun z => ⟨filt_in.symm, ?_, z, fun i hi => ?_⟩⟩
  · unfold hit at h
    rw [Bool.and_eq_true, decide_eq_true_eq, decide_eq_true_eq] at h
    unfold Maj
    rw [show (ms.filter fun m => decide (m ∈ vot ms vs v)) = vot ms vs v from filt_in]
    exact h.2
  · obtain ⟨_, u, h1, h2, h3, h4, h5⟩ := in_vot.mp hi
    exact ⟨u, h1, h2, Prod.ext h3 h4, h5⟩
theorem vot_len {ms : List Int} {vs : List Vt} {v : Vt} : (vot ms vs v).length ≤ ms.length := List.length_filter_le ..
--CUT--
def Mj (ms : List Int) (vs : List Vt) (v : Vt) : Prop := ms.length < 2 * (vot ms vs v).length
theorem Mj.mem {ms : List Int} {vs : List Vt} {v : Vt} (h : Mj ms vs v) : ∃ u ∈ vs, u.ix ∈ ms ∧ bp u = bp v ∧ u.k = v.k := by
  unfold Mj at h
  obtain ⟨m, hm⟩ : ∃ m, m ∈ vot ms vs v := by
    cases e : vot ms vs v with
    | nil =>
      rw [e] at h
      exact absurd h (Nat.not_lt_zero _)
    | cons m r => exact ⟨m, List.mem_cons_self ..⟩
  obtain ⟨h1, u, h2, h3, h4, h5, h6⟩ := in_vot.mp hm
  exact ⟨u, h2, by rw [h3]; exact h1, Prod.ext h4 h5, h6⟩
theorem Mj.alk {ms : List Int} {vs : List Vt} {u v : Vt} (h : Mj ms vs v) (e1 : bp u = bp v) (e2 : u.k = v.k) : Mj ms vs u := by
  have e : vot ms vs u = vot ms vs v := by
    unfold vot K37.alk
    rw [show u.t = v.t from congrArg Prod.fst e1, show u.x = v.x from congrArg Prod.snd e1, e2]
  unfold Mj at *
  rw [e]
  exact h
theorem hit_iff {ms : List Int} {vs : List Vt} {v : Vt} : hit ms vs v = true ↔ v.ix ∈ ms ∧ Mj ms vs v := by
  unfold hit Mj
  rw [Bool.and_eq_true, decide_eq_true_eq, decide_eq_true_eq]
theorem Mj.hit {ms : List Int} {vs : List Vt} {v : Vt} (h : Mj ms vs v) : ∃ u ∈ vs, K37.hit ms vs u = true ∧ u.k = v.k := by
  obtain ⟨u, h1, h2, h3, h4⟩ := h.mem
  exact ⟨u, h1, hit_iff.mpr ⟨h2, h.alk h3 h4⟩, h4⟩
theorem Mj.mono {ms : List Int} {vs ws : List Vt} {v : Vt} (h : Mj ms vs v) (hs : ∀ u ∈ vs, u ∈ ws) : Mj ms ws v := by
  unfold Mj at *
  have z : (vot ms vs v).length ≤ (vot ms ws v).length := by
    unfold vot
    rw [← List.countP_eq_length_filter, ← List.countP_eq_length_filter]
    refine List.countP_mono_left fun m _ hm => ?_
    obtain ⟨u, hu, e⟩ := List.any_eq_true.mp hm
    exact List.any_eq_true.mpr ⟨u, hs u hu, e⟩
  omega
theorem both {p q : Int → Bool} : ∀ {ms : List Int}, ms.length < (ms.filter p).length + (ms.filter q).length → ∃ m ∈ ms, p m = true ∧ q m = true
  | [], h => absurd h (Nat.not_lt_zero _)
  | m :: r, h => by
    cases hp : p m with
    | true =>
      cases hq : q m with
      | true => exact ⟨m, List.mem_cons_self .., hp, hq⟩
      | false =>
        rw [List.filter_cons_of_pos hp, List.filter_cons_of_neg (by rw [hq]; exact Bool.noConfusion), List.length_cons, List.length_cons] at h
        obtain ⟨x, h1, h2⟩ := both (p := p) (q := q) (ms := r) (by omega)
        exact ⟨x, List.mem_cons_of_mem _ h1, h2⟩
    | false =>
      have z : ((m :: r).filter q).length ≤ (r.filter q).length + 1 := by
        rw [List.filter_cons]
        split
        · exact Nat.le_refl _
        · exact Nat.le_succ _
      rw [List.filter_cons_of_neg (by rw [hp]; exact Bool.noConfusion), List.length_cons] at h
      obtain ⟨x, h1, h2⟩ := both (p := p) (q := q) (ms := r) (by omega)
      exact ⟨x, List.mem_cons_of_mem _ h1, h2⟩
def Rg (v : Vt) : Prop := 1 ≤ v.t ∧ v.t ≤ 5 ∧ 0 ≤ v.x ∧ v.x ≤ 6
theorem later {ms : List Int} {vs : List Vt} {u : Vt} (hr : ∀ v ∈ vs, Rg v) (hg : ∀ v ∈ vs, v.ix ∈ ms → Gd ms vs (bp v)) (hm : Mj ms vs u) : ∀ (n : Nat) (w : Vt), w ∈ vs → w.ix ∈ ms → (7 * w.t + w.x).toNat < n → ¬ l2 (bp w) (bp u) → w.k = u.k
  | 0, _, _, _, h, _ => absurd h (Nat.not_lt_zero _)
  | n + 1, w, hw, hwm, hn, hl => by
    by_cases e : bp w = bp u
    · obtain ⟨u', h1, h2, h3, h4⟩ := hm.mem
      rw [← h4]
      exact (hg w hw hwm).1 w hw u' h1 hwm h2 rfl (h3.trans e.symm)
    · have hlt : l2 (bp u) (bp w) := Classical.byContradiction fun z => e (l2_eq hl z)
      obtain ⟨S, s1, s2, s3⟩ := (hg w hw hwm).2 w hw hwm rfl
      unfold Maj at s2
      have hm2 := hm
      unfold Mj vot at hm2
      obtain ⟨m, m1, m2, m3⟩ := both (show ms.length < (ms.filter fun m => decide (m ∈ S)).length + (ms.filter fun m => vs.any fun x => decide (x.ix = m) && alk x u).length by omega)
      obtain ⟨_, u', h1, h2, h3, h4, h5⟩ := in_vot.mp (List.mem_filter.mpr ⟨m1, m3⟩ : m ∈ vot ms vs u)
      have eb : bp u' = bp u := Prod.ext h3 h4
      have hu'S : u'.ix ∈ S := by
        rw [h2]
        exact of_decide_eq_true m2
      obtain ⟨c, c1, c2⟩ := ex_max ((vs.filter fun x => decide (x.ix ∈ S ∧ l2 (bp x) (bp w))).map bp) (fun z => by
        have : bp u' ∈ (vs.filter fun x => decide (x.ix ∈ S ∧ l2 (bp x) (bp w))).map bp := List.mem_map_of_mem (List.mem_filter.mpr ⟨h1, decide_eq_true ⟨hu'S, by rw [eb]; exact hlt⟩⟩)
        rw [z] at this
        cases this)
      obtain ⟨x, x1, x2⟩ := List.mem_map.mp c1
      obtain ⟨x3, x4⟩ := List.mem_filter.mp x1
      obtain ⟨x5, x6⟩ := of_decide_eq_true x4
      subst x2
      have top : ∀ y ∈ vs, y.ix ∈ S → l2 (bp y) (bp w) → ¬ l2 (bp x) (bp y) := fun y hy hys hyl => c2 _ (List.mem_map_of_mem (List.mem_filter.mpr ⟨hy, decide_eq_true ⟨hys, hyl⟩⟩))
      have k1 : x.k = w.k := s3 x x3 x5 x6 top
      have k2 : ¬ l2 (bp x) (bp u) := by
        rw [← eb]
        exact top u' h1 hu'S (by rw [eb]; exact hlt)
      rw [← k1]
      refine later hr hg hm n x x3 (s1 _ x5) ?_ k2
      have r1 := hr x x3
      have r2 := hr w hw
      unfold Rg at r1 r2
      have x7 : x.t < w.t ∨ (x.t = w.t ∧ x.x < w.x) := x6
      omega
theorem agree {ms : List Int} {vs : List Vt} {u w : Vt} (hr : ∀ v ∈ vs, Rg v) (hg : ∀ v ∈ vs, v.ix ∈ ms → Gd ms vs (bp v)) (hu : Mj ms vs u) (hw : Mj ms vs w) : u.k = w.k := by
  obtain ⟨u', u1, u2, u3, u4⟩ := hu.mem
  obtain ⟨w', w1, w2, w3, w4⟩ := hw.mem
  by_cases c : l2 (bp w') (bp u)
  · rw [← u4]
    refine later hr hg hw _ u' u1 u2 (Nat.lt_succ_self _) fun z => ?_
    rw [u3, ← w3] at z
    exact l2_irr (l2_tr c z)
  · rw [← w4]
    exact (later hr hg hu _ w' w1 w2 (Nat.lt_succ_self _) c).symm
--CUT--
def sp_Acceptor___init__ (K : PySem.W.Frag) (C : Addr) : Sp := fun vs H Q _ => ∃ x dx p v, vs = [.ref x, p, v] ∧ H x = some (.ins C dx []) ∧ ∀ H', Xk.But x H H' → H' x = some (.ins C dx [("promised", p), ("accepted", v)]) → Q .non H'
theorem ok_Acceptor___init__ (T : Txt K mg) : FnOk P w K mg base CX0 1 T.f_Acceptor___init__ T.d_Acceptor___init__ ["self", "promised", "accepted"] (sp_Acceptor___init__ K T.C_Acceptor) := by
  refine Xk.okD T.F_Acceptor___init__ sc_Acceptor___init__ (fun vs H Q E h => ?_) (fun cdv A outer s H vs Q E hr h => ?_)
  · obtain ⟨x, dx, p, v, rfl, _⟩ := h
    rfl
  obtain ⟨x, dx, p, v, rfl, j1, q⟩ := h
  have c0 := T.Cls_Acceptor
  have c1 := T.A_Acceptor_promised
  have c2 := T.A_Acceptor_accepted
  refine ⟨_, (pss_cons (ps_fld (pv 0) (pv 1) rfl)
      (pss_one (ps_fld (pv 0) (pv 2) rfl))), ?_⟩
  wtm_at "x0"
  wtm_at "xs"
  exact q _ (by wtm_at "bm") upd_same
abbrev AO (H : Hp) (C a dx : Addr) (p v : V) : Prop := H a = some (.ins C dx [("promised", p), ("accepted", v)])
def sp_Acceptor_hears (K : PySem.W.Frag) (C : Addr) : Sp := fun vs H Q _ => ∃ a dx p v b r i r' i', vs = [.ref a, .ref b] ∧ AO H C a dx (.ref p) v ∧ SqT K H p [.int r, .int i] ∧ SqT K H b [.int r', .int i'] ∧ Q (.bl (!decide (Xk.Bf r' i' r i))) H
theorem ok_Acceptor_hears (T : Txt K mg) : FnOk P w K mg base CX0 1 T.f_Acceptor_hears T.d_Acceptor_hears ["self", "ballot"] (sp_Acceptor_hears K T.C_Acceptor) := by
  refine T.F_Acceptor_hears.ok sc_Acceptor_hears (fun vs H Q E h => ?_) (fun cdv A outer s H vs Q E hr h => ?_)
  · obtain ⟨a, dx, p, v, b, r, i, r', i', rfl, _⟩ := h
    rfl
  obtain ⟨a, dx, p, v, b, r, i, r', i', rfl, j1, h1, h2, q⟩ := h
  have c0 := T.Cls_Acceptor
  have c1 := T.A_Acceptor_promised
  unfold AO at j1
  refine ⟨_, (pss_one (ps_ret (pe_cmpR (Xk.k_geP (K := K) hr.units (by rfl)) (pv 1) (Xk.k_fld (K := K) (by rfl) (pv 0) rfl) (nomark _)))), ?_⟩
  wtm_at "x0"
  wtm_at "xs"
  exact q
def sp_Acceptor_promise (K : PySem.W.Frag) (C : Addr) : Sp := fun vs H Q _ => ∃ a dx p v b, vs = [.ref a, b] ∧ AO H C a dx p v ∧ (∀ H', Xk.But a H H' → AO H' C a dx b v → Q .non H')
theorem ok_Acceptor_promise (T : Txt K mg) : FnOk P w K mg base CX0 1 T.f_Acceptor_promise T.d_Acceptor_promise ["self", "ballot"] (sp_Acceptor_promise K T.C_Acceptor) := by
  refine T.F_Acceptor_promise.ok sc_Acceptor_promise (fun vs H Q E h => ?_) (fun cdv A outer s H vs Q E hr h => ?_)
  · obtain ⟨a, dx, p, v, b, rfl, _⟩ := h
    rfl
  obtain ⟨a, dx, p, v, b, rfl, j1, q⟩ := h
  have c0 := T.Cls_Acceptor
  have c1 := T.A_Acceptor_promised
  unfold AO at j1
  refine ⟨_, (pss_one (ps_fld (pv 0) (pv 1) rfl)), ?_⟩
  wtm_at "x0"
  wtm_at "xs"
  exact q _ (by wtm_at "bm") upd_same
def sp_Acceptor_accept (K : PySem.W.Frag) (C : Addr) : Sp := fun vs H Q _ => ∃ a dx p v b e, vs = [.ref a, b, e] ∧ AO H C a dx p v ∧ (∀ H' t, Xk.Fr t H → Xk.But a H H' → H' t = some (.tup [b, e]) → AO H' C a dx b (.ref t) → Q .non H')
theorem ok_Acceptor_accept (T : Txt K mg) : FnOk P w K mg base CX0 1 T.f_Acceptor_accept T.d_Acceptor_accept ["self", "ballot", "entry"] (sp_Acceptor_accept K T.C_Acceptor) := by
  refine T.F_Acceptor_accept.ok sc_Acceptor_accept (fun vs H Q E h => ?_) (fun cdv A outer s H vs Q E hr h => ?_)
  · obtain ⟨a, dx, p, v, b, e, rfl, _⟩ := h
    rfl
  obtain ⟨a, dx, p, v, b, e, rfl, j1, q⟩ := h
  have c0 := T.Cls_Acceptor
  have c1 := T.A_Acceptor_promised
  have c2 := T.A_Acceptor_accepted
  unfold AO at j1
  refine ⟨_, (pss_cons (ps_fld (pv 0) (pv 1) rfl)
      (pss_one (ps_fld (pv 0) (pe_tup (pa_cons (pv 1) (pa_cons (pv 2) pa_nil))) rfl))), ?_⟩
  wtm_at "x0"
  wtm_at "xs"
  intro t H1 ht s1 h1
  have n1 : t ≠ a := (Xk.ne_new ht upd_same).symm
  wtm_at "xs"
  refine q _ t (Xk.fr_upd ht) ?_ ?_ ?_
  · exact fun b o n hb => (upd_ne n).trans (s1 _ _ ((upd_ne n).trans hb))
  · exact (upd_ne n1).trans h1
  · exact upd_same
def sp_Acceptor_fork (K : PySem.W.Frag) (C : Addr) : Sp := fun vs H Q _ => ∃ a dx p v, vs = [.ref a] ∧ AO H C a dx p v ∧ (∀ H' f fx, Xk.Fr f H → Same H H' → AO H' C f fx p v → Q (.ref f) H')
theorem ok_Acceptor_fork (T : Txt K mg) : FnOk P w K mg base CX0 3 T.f_Acceptor_fork T.d_Acceptor_fork ["self"] (sp_Acceptor_fork K T.C_Acceptor) := by
  refine T.F_Acceptor_fork.ok sc_Acceptor_fork (fun vs H Q E h => ?_) (fun cdv A outer s H vs Q E hr h => ?_)
  · obtain ⟨a, dx, p, v, rfl, _⟩ := h
    rfl
  obtain ⟨a, dx, p, v, rfl, j1, q⟩ := h
  have c0 := T.Cls_Acceptor
  have c1 := T.A_Acceptor_promised
  have c2 := T.A_Acceptor_accepted
  unfold AO at j1
  refine ⟨_, (pss_one (ps_ret (pe_make T.Mk_Acceptor (ok_Acceptor___init__ T) (hr.mono (by decide)) (by rfl) T.g_Acceptor T.b2_Acceptor___init__ T.V2_Acceptor___init__ pass0 (pa_cons (Xk.k_fld (K := K) (by rfl) (pv 0) rfl) (pa_cons (Xk.k_fld (K := K) (by rfl) (pv 0) rfl) pa_nil))))), ?_⟩
  wtm_at "x0"
  wtm_at "xs"
  refine Xk.x_rMake fun x dx' H2 hx hd hn s2 h2 h3 => ?_
  refine ⟨x, dx', p, v, rfl, h3, fun H3 b3 h4 => ⟨rfl, ?_⟩⟩
  exact q _ x dx' hx (Xk.same_but b3 hx s2) h4
--CUT--
structure Sa where
  st : Str
  pr : List Int
  vo : List Int
  bd : Option (Addr × Addr × V × Int × Int)
  en : V
def bdV : Option (Addr × Addr × V × Int × Int) → V
  | none => .non
  | some o => .ref o.1
def BdOk (K : PySem.W.Frag) (H : Hp) : Option (Addr × Addr × V × Int × Int) → Prop
  | none => True
  | some (t, b, e, r, i) => SqT K H t [.ref b, e] ∧ SqT K H b [.int r, .int i] ∧ ∃ d, Xk.Pk K H 10 e d
def mdl (st pr vo bd en me : V) : List (Key × V) := [(Sum.inr "stage", st), (Sum.inr "promised", pr), (Sum.inr "voted", vo), (Sum.inr "bound", bd), (Sum.inr "entry", en), (Sum.inr "members", me)]
/-- the state behind an answer -/
def srt (xs : List Int) : List Int := xs.mergeSort (fun a b => decide (a ≤ b))
theorem srt_perm (xs : List Int) : (srt xs).Perm xs := List.mergeSort_perm _ _
theorem srt_le (xs : List Int) : (srt xs).Pairwise (· ≤ ·) := by
  have h := List.pairwise_mergeSort (le := fun (a b : Int) => decide (a ≤ b)) (fun a b c => by simp only [decide_eq_true_eq]; omega) (fun a b => by simp only [Bool.or_eq_true, decide_eq_true_eq]; omega) xs
  exact h.imp fun h => of_decide_eq_true h
theorem srt_of {xs ys : List Int} (p : xs.Perm ys) (h : xs.Pairwise (· ≤ ·)) : xs = srt ys := Xk.srt_eq (p.trans (srt_perm ys).symm) h (srt_le ys)
theorem srt_len (xs : List Int) : (srt xs).length = xs.length := (srt_perm xs).length_eq
def half (ms is : List Int) : Bool := decide ((ms.length : Int) < 2 * (is.length : Int))
def bind (bd ac : Option (Addr × Addr × V × Int × Int)) : Option (Addr × Addr × V × Int × Int) :=
  match ac with
  | none => bd
  | some (t, b, e, r, i) => match bd with
    | none => some (t, b, e, r, i)
    | some (t', b', e', r', i') => if Xk.Bf r' i' r i then some (t, b, e, r, i) else some (t', b', e', r', i')
def enOf (en : V) : Option (Addr × Addr × V × Int × Int) → V
  | none => en
  | some (_, _, e, _, _) => e
def prom (ms : List Int) (S : Sa) (ix : Int) (ac : Option (Addr × Addr × V × Int × Int)) : Sa × Bool :=
  if S.st = "asking" ∧ ix ∈ ms ∧ ¬ ix ∈ S.pr then
    let pr := srt (S.pr ++ [ix])
    let bd := bind S.bd ac
    if half ms pr = true then (⟨"telling", pr, S.vo, bd, enOf S.en bd⟩, true) else (⟨S.st, pr, S.vo, bd, S.en⟩, false)
  else (S, false)
def voted (ms : List Int) (S : Sa) (ix : Int) : Sa × Bool :=
  if S.st = "telling" ∧ ix ∈ ms ∧ ¬ ix ∈ S.vo then
    let vo := srt (S.vo ++ [ix])
    if half ms vo = true then (⟨"won", S.pr, vo, S.bd, S.en⟩, true) else (⟨S.st, S.pr, vo, S.bd, S.en⟩, false)
  else (S, false)
/-- what always holds of a state -/
structure SaOk (K : PySem.W.Frag) (H : Hp) (ms : List Int) (S : Sa) : Prop where
  pr : S.pr.Nodup ∧ ∀ x ∈ S.pr, x ∈ ms
  vo : S.vo.Nodup ∧ ∀ x ∈ S.vo, x ∈ ms
  bd : BdOk K H S.bd
  en : ∃ d, Xk.Pk K H 10 S.en d
  st : S.st = "asking" ∨ S.st = "telling" ∨ S.st = "won"
theorem BdOk.st {H H' : Hp} (e : Xk.St K H H') : ∀ {o : Option (Addr × Addr × V × Int × Int)}, BdOk K H o → BdOk K H' o
  | none, _ => trivial
  | some (t, b, v, r, i), ⟨h1, h2, d, h3⟩ => ⟨e.t _ _ h1, e.t _ _ h2, d, h3.st e⟩
theorem SaOk.keep {H H' : Hp} {ms : List Int} {S : Sa} (h : SaOk K H ms S) (e : Xk.St K H H') : SaOk K H' ms S := ⟨h.pr, h.vo, h.bd.st e, h.en.imp fun _ h => h.st e, h.st⟩
theorem bind_ok {H : Hp} {bd ac : Option (Addr × Addr × V × Int × Int)} (h1 : BdOk K H bd) (h2 : BdOk K H ac) : BdOk K H (bind bd ac) := by
  cases ac with
  | none => exact h1
  | some o =>
    obtain ⟨t, b, e, r, i⟩ := o
    cases bd with
    | none => exact h2
    | some o' =>
      obtain ⟨t', b', e', r', i'⟩ := o'
      unfold bind
      dsimp only
      split
      · exact h2
      · exact h1
theorem srt_snoc_ok {ms xs : List Int} {x : Int} (h : xs.Nodup ∧ ∀ y ∈ xs, y ∈ ms) (hx : x ∈ ms) (hn : ¬ x ∈ xs) : (srt (xs ++ [x])).Nodup ∧ ∀ y ∈ srt (xs ++ [x]), y ∈ ms := by
  refine ⟨(srt_perm _).nodup_iff.mpr (List.nodup_append.mpr ⟨h.1, by simp, fun a ha b hb => ?_⟩), fun y hy => ?_⟩
  · rw [List.mem_singleton.mp hb]
    rintro rfl
    exact hn ha
  · rcases List.mem_append.mp ((srt_perm _).mem_iff.mp hy) with hy | hy
    · exact h.2 y hy
    · rw [List.mem_singleton.mp hy]
      exact hx
theorem prom_ok {H : Hp} {ms : List Int} {S : Sa} {ix : Int} {ac : Option (Addr × Addr × V × Int × Int)} (h : SaOk K H ms S) (ha : BdOk K H ac) : SaOk K H ms (prom ms S ix ac).1 := by
  unfold prom
  split
  · rename_i hc
    dsimp only
    have hb := bind_ok h.bd ha
    have hp := srt_snoc_ok h.pr hc.2.1 hc.2.2
    split
    · refine ⟨hp, h.vo, hb, ?_, .inr (.inl rfl)⟩
      show ∃ d, Xk.Pk K H 10 (enOf S.en (bind S.bd ac)) d
      cases e : bind S.bd ac with
      | none => exact h.en
      | some o =>
        rw [e] at hb
        exact hb.2.2
    · exact ⟨hp, h.vo, hb, h.en, h.st⟩
  · exact h
theorem voted_ok {H : Hp} {ms : List Int} {S : Sa} {ix : Int} (h : SaOk K H ms S) : SaOk K H ms (voted ms S ix).1 := by
  unfold voted
  split
  · rename_i hc
    dsimp only
    have hp := srt_snoc_ok h.vo hc.2.1 hc.2.2
    split
    · exact ⟨h.pr, hp, h.bd, h.en, .inr (.inr rfl)⟩
    · exact ⟨h.pr, hp, h.bd, h.en, h.st⟩
  · exact h
/-- of members the ones among indexes that are different members are as many as these -/
theorem half_len {ms is : List Int} (hm : ms.Nodup) (hi : is.Nodup) (hs : ∀ x ∈ is, x ∈ ms) : (ms.filter fun m => decide (m ∈ is)).length = is.length := by
  have p : (ms.filter fun m => decide (m ∈ is)).Perm is := by
    rw [List.perm_ext_iff_of_nodup (hm.filter _) hi]
    intro x
    rw [List.mem_filter, decide_eq_true_eq]
    exact ⟨fun h => h.2, fun h => ⟨hs x h, h⟩⟩
  exact p.length_eq
--CUT--
/-- all but three places stay -/
def B3 (a p v : Addr) (H H' : Hp) : Prop := ∀ x o, x ≠ a → x ≠ p → x ≠ v → H x = some o → H' x = some o
structure At (C : Addr) (H : Hp) (a dx b0 m p v : Addr) (S : Sa) : Prop where
  o : H a = some (.ins C dx [("ballot", .ref b0), ("entry", S.en), ("members", .ref m), ("stage", .str S.st), ("promised_by", .ref p), ("voted_by", .ref v), ("bound", bdV S.bd)])
  hp : H p = some (.lst (S.pr.map V.int))
  hv : H v = some (.lst (S.vo.map V.int))
  n : p ≠ v
theorem At.pa {C : Addr} {H : Hp} {a dx b0 m p v : Addr} {S : Sa} (g : At C H a dx b0 m p v S) : p ≠ a := fun z => by
  subst z
  have h := g.o
  rw [g.hp] at h
  cases h
theorem At.va {C : Addr} {H : Hp} {a dx b0 m p v : Addr} {S : Sa} (g : At C H a dx b0 m p v S) : v ≠ a := fun z => by
  subst z
  have h := g.o
  rw [g.hv] at h
  cases h
theorem At.st {C : Addr} {H H' : Hp} {a dx b0 m p v : Addr} {S : Sa} (g : At C H a dx b0 m p v S) (e : B3 a p v H H') : Xk.St K H H' := by
  have key : ∀ x o, H x = some o → (∀ C dx fs, o ≠ .ins C dx fs) → (∀ xs, o ≠ .lst xs) → H' x = some o := fun x o hx h1 h2 => e x o (fun z => by
    subst z
    exact h1 _ _ _ (Option.some.inj (hx.symm.trans g.o))) (fun z => by
    subst z
    exact h2 _ (Option.some.inj (hx.symm.trans g.hp))) (fun z => by
    subst z
    exact h2 _ (Option.some.inj (hx.symm.trans g.hv))) hx
  refine ⟨fun x xs h => ?_⟩
  rcases h with (h | ⟨o, h⟩) | h
  · exact .inl (.inl (key _ _ h (fun _ _ _ z => by cases z) fun _ z => by cases z))
  · exact .inl (.inr ⟨o, key _ _ h (fun _ _ _ z => by cases z) fun _ z => by cases z⟩)
  · exact .inr h
theorem At.same {C : Addr} {H H' : Hp} {a dx b0 m p v : Addr} {S : Sa} (g : At C H a dx b0 m p v S) (e : Same H H') : At C H' a dx b0 m p v S := ⟨e _ _ g.o, e _ _ g.hp, e _ _ g.hv, g.n⟩
def sp_Attempt___init__ (K : PySem.W.Frag) (C : Addr) : Sp := fun vs H Q _ => ∃ x dx b0 e m, vs = [.ref x, .ref b0, e, .ref m] ∧ H x = some (.ins C dx []) ∧
  ∀ H' p v, Xk.Fr p H → Xk.Fr v H → Xk.But x H H' → At C H' x dx b0 m p v ⟨"asking", [], [], none, e⟩ → Q .non H'
theorem ok_Attempt___init__ (T : Txt K mg) : FnOk P w K mg base CX0 1 T.f_Attempt___init__ T.d_Attempt___init__ ["self", "ballot", "entry", "members"] (sp_Attempt___init__ K T.C_Attempt) := by
  refine T.F_Attempt___init__.ok sc_Attempt___init__ (fun vs H Q E h => ?_) (fun cdv A outer s H vs Q E hr h => ?_)
  · obtain ⟨x, dx, b0, e, m, rfl, _⟩ := h
    rfl
  obtain ⟨x, dx, b0, e, m, rfl, j1, q⟩ := h
  have c0 := T.Cls_Attempt
  have c1 := T.A_Attempt_ballot
  have c2 := T.A_Attempt_entry
  have c3 := T.A_Attempt_members
  have c4 := T.A_Attempt_stage
  have c5 := T.A_Attempt_promised_by
  have c6 := T.A_Attempt_voted_by
  have c7 := T.A_Attempt_bound
  refine ⟨_, (pss_cons (ps_fld (pv 0) (pv 1) rfl)
      (pss_cons (ps_fld (pv 0) (pv 2) rfl)
      (pss_cons (ps_fld (pv 0) (pv 3) rfl)
      (pss_cons (ps_fld (pv 0) (pe_glob (by rfl) T.g_ASKING Xk.rel_str) rfl)
      (pss_cons (ps_fld (pv 0) (pe_lst pa_nil) rfl)
      (pss_cons (ps_fld (pv 0) (pe_lst pa_nil) rfl)
      (pss_one (ps_fld (pv 0) (pe_non) rfl)))))))), ?_⟩
  wtm_at "x0"
  wtm_at "xs"
  intro p H1 hp s1 h1
  have n1 : x ≠ p := Xk.ne_new hp upd_same
  have o1 := s1 _ _ upd_same
  have f1 : Xk.Fr p H := Xk.fr_upd (Xk.fr_upd (Xk.fr_upd (Xk.fr_upd hp)))
  have b1 : Xk.But x H H1 := by wtm_at "bm"
  clear hp s1
  wtm_at "xs"
  intro v H2 hv s2 h2
  have n2 : x ≠ v := Xk.ne_new hv upd_same
  have n3 : p ≠ v := Xk.ne_new hv ((upd_ne n1.symm).trans h1)
  wtm_at "xs"
  refine q _ p v f1 (Xk.none_but j1 b1 o1 (Xk.fr_upd hv)) ?_ ⟨?_, ?_, ?_, n3⟩
  · exact Xk.but_mut (Xk.but_mut (Xk.but_trans (Xk.but_mut b1) (Xk.but_same s2)))
  · exact upd_same
  · exact (upd_ne n1.symm).trans ((upd_ne n1.symm).trans (s2 _ _ ((upd_ne n1.symm).trans h1)))
  · exact (upd_ne n2.symm).trans ((upd_ne n2.symm).trans h2)
def sp_Attempt__is_new (K : PySem.W.Frag) (C : Addr) : Sp := fun vs H Q _ => ∃ (a dx b0 m p v : Addr) (S : Sa) (h : Addr) (hs ms : List Int) (ix : Int), vs = [.ref a, .int ix, .ref h] ∧ At C H a dx b0 m p v S ∧ SqT K H m (ms.map V.int) ∧ H h = some (.lst (hs.map V.int)) ∧
  Q (.bl (decide (ix ∈ ms) && !decide (ix ∈ hs))) H
theorem ok_Attempt__is_new (T : Txt K mg) : FnOk P w K mg base CX0 1 T.f_Attempt__is_new T.d_Attempt__is_new ["self", "index", "heard"] (sp_Attempt__is_new K T.C_Attempt) := by
  refine T.F_Attempt__is_new.ok sc_Attempt__is_new (fun vs H Q E h => ?_) (fun cdv A outer s H vs Q E hr h => ?_)
  · obtain ⟨a, dx, b0, m, p, v, S, h, hs, ms, ix, rfl, _⟩ := h
    rfl
  obtain ⟨a, dx, b0, m, p, v, S, h, hs, ms, ix, rfl, g, hm, hh, q⟩ := h
  have c0 := T.Cls_Attempt
  have c3 := T.A_Attempt_members
  have o1 := g.o
  refine ⟨_, (pss_one (ps_ret ((pe_and (pe_cmpR (Xk.k_in (K := K) (by rfl)) (pv 1) (Xk.k_fld (K := K) (by rfl) (pv 0) rfl) (by rfl)) (pe_one (pe_cmpR (Xk.k_nin (K := K) (by rfl)) (pv 1) (pv 2) (by rfl))))))), ?_⟩
  wtm_at "x0"
  wtm_at "xs"
  refine Xk.x_inT hm rfl (Xk.flat_ints _) ?_
  rw [Xk.in_ints]
  wtm_at "xs"
  refine Xk.x_itd (fun h4 => ?_) (fun h4 => ?_)
  · wtm_at "xs"
    refine Xk.x_niL (Xk.sq_of hh) rfl (Xk.flat_ints _) ?_
    rw [Xk.in_ints]
    rw [decide_eq_true h4] at q
    exact q
  · wtm_at "xs"
    rw [decide_eq_false h4] at q
    exact q
--CUT--
theorem half_of {ms is : List Int} (hm : ms.Nodup) (hi : is.Nodup) (hs : ∀ x ∈ is, x ∈ ms) : decide ((ms.length : Int) < 2 * ((ms.filter fun m => decide (m ∈ is)).length : Int)) = half ms is := by
  rw [half_len hm hi hs]
  rfl
def sp_Attempt_hear_promise (K : PySem.W.Frag) (C : Addr) : Sp := fun vs H Q _ => ∃ (a dx b0 m p v : Addr) (S : Sa) (ms : List Int) (ix : Int) (ac : Option (Addr × Addr × V × Int × Int)),
  vs = [.ref a, .int ix, bdV ac] ∧ At C H a dx b0 m p v S ∧ SqT K H m (ms.map V.int) ∧ ms.Nodup ∧ ms.length ≤ 10 ∧ SaOk K H ms S ∧ BdOk K H ac ∧
  ∀ H', B3 a p v H H' → At C H' a dx b0 m p v (prom ms S ix ac).1 → Q (.bl (prom ms S ix ac).2) H'
theorem ok_Attempt_hear_promise (T : Txt K mg) : FnOk P w K mg base CX0 2 T.f_Attempt_hear_promise T.d_Attempt_hear_promise ["self", "index", "accepted"] (sp_Attempt_hear_promise K T.C_Attempt) := by
  refine T.F_Attempt_hear_promise.ok sc_Attempt_hear_promise (fun vs H Q E h => ?_) (fun cdv A outer s H vs Q E hr h => ?_)
  · obtain ⟨a, dx, b0, m, p, v, S, ms, ix, ac, rfl, _⟩ := h
    rfl
  obtain ⟨a, dx, b0, m, p, v, S, ms, ix, ac, rfl, g, hm, hnd, hml, ok, oa, q⟩ := h
  have c0 := T.Cls_Attempt
  have c2 := T.A_Attempt_entry
  have c3 := T.A_Attempt_members
  have c4 := T.A_Attempt_stage
  have c5 := T.A_Attempt_promised_by
  have c7 := T.A_Attempt_bound
  have o1 := g.o
  have nap := g.pa
  have nav := g.va
  have npv := g.n
  refine ⟨_, (Evl.pss_cut (ps_if (PW.pt (pw_or (pt_cmpR op_ne (Xk.k_fld (K := K) (by rfl) (pv 0) rfl) (pe_glob (by rfl) T.g_ASKING Xk.rel_str) (nomark _)) (pw_or1 (pt_not (pt_val (pe_meth (pv 0) T.Cls_Attempt T.M_Attempt__is_new (ok_Attempt__is_new T) (hr.mono (by decide)) T.b_Attempt__is_new .nil pass0 (pa_cons (pv 1) (pa_cons (Xk.k_fld (K := K) (by rfl) (pv 0) rfl) pa_nil)))))))) (pss_one (ps_ret (pe_bl))) pss_nil)
      (pss_cons (ps_expr (pe_bm PySem.F.plainAttrs_list PySem.F.slot_list_append PySem.F.type_list_append mt_append (Xk.k_fld (K := K) (by rfl) (pv 0) rfl) (pa_cons (pv 1) pa_nil)))
      (pss_cons (ps_expr (pe_bm0 PySem.F.plainAttrs_list PySem.F.slot_list_sort PySem.F.type_list_sort mt_sortI (Xk.k_fld (K := K) (by rfl) (pv 0) rfl)))
      (Evl.pss_cut (ps_if (PW.pt (pw_and (pt_cmpR Xk.op_nNotN (pv 2) (pe_non) (nomark _)) (pw_and1 (PW.pt (pw_or (pt_cmpR Xk.op_nIsN (Xk.k_fld (K := K) (by rfl) (pv 0) rfl) (pe_non) (nomark _)) (pw_or1 (pt_cmpR (Xk.k_ltP (K := K) hr.units (by rfl)) (pe_ix (Xk.k_ixT (K := K) (by rfl)) (Xk.k_fld (K := K) (by rfl) (pv 0) rfl) (pe_int) (fun _ _ => rfl)) (pe_ix (Xk.k_ixT (K := K) (by rfl)) (pv 2) (pe_int) (fun _ _ => rfl)) (nomark _)))))))) (pss_one (ps_fld (pv 0) (pv 2) rfl)) pss_nil)
      (Evl.pss_cut (ps_if (pt_not (pt_val (pe_call (ok_more_than_half T) (hr.mono (by decide)) (by rfl) T.g_more_than_half T.F_more_than_half.kp T.b_more_than_half .nil pass0 (pa_cons (Xk.k_fld (K := K) (by rfl) (pv 0) rfl) (pa_cons (Xk.k_fld (K := K) (by rfl) (pv 0) rfl) pa_nil))))) (pss_one (ps_ret (pe_bl))) pss_nil)
      (pss_cons (ps_fld (pv 0) (pe_glob (by rfl) T.g_TELLING Xk.rel_str) rfl)
      (Evl.pss_cut (ps_if (pt_cmpR Xk.op_nNotN (Xk.k_fld (K := K) (by rfl) (pv 0) rfl) (pe_non) (nomark _)) (pss_one (ps_fld (pv 0) (pe_ix (Xk.k_ixT (K := K) (by rfl)) (Xk.k_fld (K := K) (by rfl) (pv 0) rfl) (pe_int) (fun _ _ => rfl)) rfl)) pss_nil)
      (pss_one (ps_ret (pe_bl)))))))))), ?_⟩
  wtm_at "x0"
  refine Xk.x_cut (fun σ' H' => H = H' ∧ (S.st = "asking" ∧ ix ∈ ms ∧ ¬ ix ∈ S.pr) ∧ σ' = [some (.ref a), some (.int ix), some (bdV ac)]) ?_ ?_
  · have no : ¬ (S.st = "asking" ∧ ix ∈ ms ∧ ¬ ix ∈ S.pr) → Q (.bl false) H := fun hn => by
      have e : prom ms S ix ac = (S, false) := if_neg hn
      have q2 := q H (fun x o _ _ _ h => h)
      rw [e] at q2
      exact q2 g
    wtm_at "xs"
    refine Xk.x_itn (fun h4 => ?_) (fun h4 => ?_)
    · wtm_at "xs"
      exact no fun z => h4 (congrArg V.str z.1)
    · wtm_at "xs"
      refine ⟨a, dx, b0, m, p, v, S, p, S.pr, ms, ix, rfl, g, hm, g.hp, ?_⟩
      wtm_at "xs"
      by_cases h5 : ix ∈ ms ∧ ¬ ix ∈ S.pr
      · rw [decide_eq_true h5.1, decide_eq_false h5.2]
        wtm_at "xs"
        exact ⟨rfl, ⟨V.str.inj h4, h5⟩, rfl⟩
      · have e : (decide (ix ∈ ms) && !decide (ix ∈ S.pr)) = false := by
          by_cases h6 : ix ∈ ms
          · have h7 : ix ∈ S.pr := Classical.byContradiction fun z => h5 ⟨h6, z⟩
            rw [decide_eq_true h6, decide_eq_true h7]
            rfl
          · rw [decide_eq_false h6]
            rfl
        rw [e]
        wtm_at "xs"
        exact no fun z => h5 z.2
  rintro σ' H' ⟨rfl, hc, rfl⟩
  have hp := g.hp
  have lpr : S.pr.length ≤ 10 := by
    have h8 := half_len hnd ok.pr.1 ok.pr.2
    have h9 := List.length_filter_le (fun m => decide (m ∈ S.pr)) ms
    omega
  wtm_at "xs"
  refine Xk.x_rSortI (ns := S.pr ++ [ix]) (by rw [List.map_append]; exact upd_same) fun ns' hp1 hp2 => ?_
  obtain rfl := srt_of hp1 hp2
  have e1 : B3 a p v H (upd (upd H p (.lst (S.pr.map V.int ++ [V.int ix]))) p (.lst ((srt (S.pr ++ [ix])).map V.int))) := fun x o h1 h2 h3 h => (upd_ne h2).trans ((upd_ne h2).trans h)
  have o2 := (upd_ne (o := .lst ((srt (S.pr ++ [ix])).map V.int)) nap.symm).trans ((upd_ne (o := .lst (S.pr.map V.int ++ [V.int ix])) nap.symm).trans o1)
  have p2 : upd (upd H p (.lst (S.pr.map V.int ++ [V.int ix]))) p (.lst ((srt (S.pr ++ [ix])).map V.int)) p = _ := upd_same
  have v2 := (upd_ne (o := .lst ((srt (S.pr ++ [ix])).map V.int)) npv.symm).trans ((upd_ne (o := .lst (S.pr.map V.int ++ [V.int ix])) npv.symm).trans g.hv)
  have st2 := g.st (K := K) e1
  generalize upd (upd H p (.lst (S.pr.map V.int ++ [V.int ix]))) p (.lst ((srt (S.pr ++ [ix])).map V.int)) = H2 at *
  clear hp hp1 hp2
  have hsr := srt_snoc_ok ok.pr hc.2.1 hc.2.2
  have e0 : prom ms S ix ac = if half ms (srt (S.pr ++ [ix])) = true then (⟨"telling", srt (S.pr ++ [ix]), S.vo, bind S.bd ac, enOf S.en (bind S.bd ac)⟩, true) else (⟨S.st, srt (S.pr ++ [ix]), S.vo, bind S.bd ac, S.en⟩, false) := if_pos hc
  rw [e0] at q
  have bo := bind_ok ok.bd oa
  have bo2 := ok.bd.st st2
  have ba2 := oa.st st2
  refine Xk.x_cut (fun σ' H' => B3 a p v H H' ∧ At T.C_Attempt H' a dx b0 m p v ⟨S.st, srt (S.pr ++ [ix]), S.vo, bind S.bd ac, S.en⟩ ∧ σ' = [some (.ref a), some (.int ix), some (bdV ac)]) ?_ ?_
  · have stay : bind S.bd ac = S.bd → B3 a p v H H2 ∧ At T.C_Attempt H2 a dx b0 m p v ⟨S.st, srt (S.pr ++ [ix]), S.vo, bind S.bd ac, S.en⟩ := fun z => by
      rw [z]
      exact ⟨e1, o2, p2, v2, npv⟩
    have take : ∀ o : HO, o = .ins T.C_Attempt dx [("ballot", .ref b0), ("entry", S.en), ("members", .ref m), ("stage", .str S.st), ("promised_by", .ref p), ("voted_by", .ref v), ("bound", bdV ac)] → bind S.bd ac = ac →
        B3 a p v H (upd H2 a o) ∧ At T.C_Attempt (upd H2 a o) a dx b0 m p v ⟨S.st, srt (S.pr ++ [ix]), S.vo, bind S.bd ac, S.en⟩ := fun o ho z => by
      rw [z]
      subst ho
      exact ⟨fun x o h1 h2 h3 h => (upd_ne h1).trans (e1 x o h1 h2 h3 h), upd_same, (upd_ne nap).trans p2, (upd_ne nav).trans v2, npv⟩
    cases ac with
    | none =>
      wtm_at "xs"
      exact ⟨(stay rfl).1, (stay rfl).2, rfl⟩
    | some o =>
      obtain ⟨t, b, e, r, i⟩ := o
      have u1 := ba2.1
      have u2 := ba2.2.1
      cases hb : S.bd with
      | none =>
        rw [hb] at o2 stay take
        wtm_at "xs"
        exact ⟨(take _ rfl rfl).1, (take _ rfl rfl).2, rfl⟩
      | some o' =>
        obtain ⟨t', b', e', r', i'⟩ := o'
        rw [hb] at bo2 o2 stay take
        have u3 := bo2.1
        have u4 := bo2.2.1
        wtm_at "xs"
        refine Xk.x_ixT (p := t') (v := .ref b') u3 rfl ?_
        wtm_at "xs"
        refine Xk.x_ixT (p := t) (v := .ref b) u1 rfl ?_
        refine Xk.x_ltP u4 u2 ?_
        wtm_at "xs"
        refine Xk.x_itd (fun h6 => ?_) (fun h6 => ?_)
        · wtm_at "xs"
          exact ⟨(take _ rfl (if_pos h6)).1, (take _ rfl (if_pos h6)).2, rfl⟩
        · wtm_at "xs"
          exact ⟨(stay (if_neg h6)).1, (stay (if_neg h6)).2, rfl⟩
  rintro σ' H3 ⟨e3, g3, rfl⟩
  have o3 := g3.o
  have st3 := g.st (K := K) e3
  have hm3 := st3.t _ _ hm
  refine Xk.x_cut (fun σ' H' => Same H3 H' ∧ half ms (srt (S.pr ++ [ix])) = true ∧ σ' = [some (.ref a), some (.int ix), some (bdV ac)]) ?_ ?_
  · wtm_at "xs"
    refine ⟨m, p, ms, _, rfl, hm3, .inl (Xk.sq_of g3.hp), by omega, fun H4 s4 => ?_⟩
    rw [half_of hnd hsr.1 hsr.2]
    have g4 := g3.same s4
    wtm_at "xs"
    cases hh : half ms (srt (S.pr ++ [ix]))
    · rw [hh] at q
      wtm_at "xs"
      exact q H4 (fun x o h1 h2 h3 h => s4 _ _ (e3 x o h1 h2 h3 h)) g4
    · wtm_at "xs"
      exact ⟨s4, rfl, rfl⟩
  rintro σ' H4 ⟨s4, hh, rfl⟩
  have e4 : B3 a p v H H4 := fun x o h1 h2 h3 h => s4 _ _ (e3 x o h1 h2 h3 h)
  have g4 := g3.same s4
  have o4 := g4.o
  rw [hh] at q
  clear s4 e3 g3 o3 st3 hm3
  wtm_at "xs"
  refine Xk.x_nocut ?_
  cases hb : bind S.bd ac with
  | none =>
    rw [hb] at q o4
    wtm_at "xs"
    exact q _ (fun x o h1 h2 h3 h => (upd_ne h1).trans (e4 x o h1 h2 h3 h)) ⟨upd_same, (upd_ne nap).trans g4.hp, (upd_ne nav).trans g4.hv, npv⟩
  | some o =>
    obtain ⟨t, b, e, r, i⟩ := o
    rw [hb] at q o4 bo
    have u5 := (g.st (K := K) e4).t _ _ bo.1
    have u6 := (Xk.tt_butO (K := K) (H' := upd H4 a (HO.ins T.C_Attempt dx (putF "stage" (V.str "telling") [("ballot", V.ref b0), ("entry", S.en), ("members", V.ref m), ("stage", V.str S.st), ("promised_by", V.ref p), ("voted_by", V.ref v), ("bound", bdV (some (t, b, e, r, i)))]))) o4 (Xk.but_mut (Xk.But.refl _ _))).t _ _ u5
    wtm_at "xs"
    refine Xk.x_ixT (p := t) (v := e) u6 rfl ?_
    wtm_at "xs"
    exact q _ (fun x o h1 h2 h3 h => (upd_ne h1).trans ((upd_ne h1).trans (e4 x o h1 h2 h3 h))) ⟨upd_same, (upd_ne nap).trans ((upd_ne nap).trans g4.hp), (upd_ne nav).trans ((upd_ne nav).trans g4.hv), npv⟩
def sp_Attempt_hear_vote (K : PySem.W.Frag) (C : Addr) : Sp := fun vs H Q _ => ∃ (a dx b0 m p v : Addr) (S : Sa) (ms : List Int) (ix : Int),
  vs = [.ref a, .int ix] ∧ At C H a dx b0 m p v S ∧ SqT K H m (ms.map V.int) ∧ ms.Nodup ∧ ms.length ≤ 10 ∧ SaOk K H ms S ∧
  ∀ H', B3 a p v H H' → At C H' a dx b0 m p v (voted ms S ix).1 → Q (.bl (voted ms S ix).2) H'
theorem ok_Attempt_hear_vote (T : Txt K mg) : FnOk P w K mg base CX0 2 T.f_Attempt_hear_vote T.d_Attempt_hear_vote ["self", "index"] (sp_Attempt_hear_vote K T.C_Attempt) := by
  refine T.F_Attempt_hear_vote.ok sc_Attempt_hear_vote (fun vs H Q E h => ?_) (fun cdv A outer s H vs Q E hr h => ?_)
  · obtain ⟨a, dx, b0, m, p, v, S, ms, ix, rfl, _⟩ := h
    rfl
  obtain ⟨a, dx, b0, m, p, v, S, ms, ix, rfl, g, hm, hnd, hml, ok, q⟩ := h
  have c0 := T.Cls_Attempt
  have c3 := T.A_Attempt_members
  have c4 := T.A_Attempt_stage
  have c6 := T.A_Attempt_voted_by
  have o1 := g.o
  have nap := g.pa
  have nav := g.va
  have npv := g.n
  refine ⟨_, (Evl.pss_cut (ps_if (PW.pt (pw_or (pt_cmpR op_ne (Xk.k_fld (K := K) (by rfl) (pv 0) rfl) (pe_glob (by rfl) T.g_TELLING Xk.rel_str) (nomark _)) (pw_or1 (pt_not (pt_val (pe_meth (pv 0) T.Cls_Attempt T.M_Attempt__is_new (ok_Attempt__is_new T) (hr.mono (by decide)) T.b_Attempt__is_new .nil pass0 (pa_cons (pv 1) (pa_cons (Xk.k_fld (K := K) (by rfl) (pv 0) rfl) pa_nil)))))))) (pss_one (ps_ret (pe_bl))) pss_nil)
      (pss_cons (ps_expr (pe_bm PySem.F.plainAttrs_list PySem.F.slot_list_append PySem.F.type_list_append mt_append (Xk.k_fld (K := K) (by rfl) (pv 0) rfl) (pa_cons (pv 1) pa_nil)))
      (pss_cons (ps_expr (pe_bm0 PySem.F.plainAttrs_list PySem.F.slot_list_sort PySem.F.type_list_sort mt_sortI (Xk.k_fld (K := K) (by rfl) (pv 0) rfl)))
      (Evl.pss_cut (ps_if (pt_not (pt_val (pe_call (ok_more_than_half T) (hr.mono (by decide)) (by rfl) T.g_more_than_half T.F_more_than_half.kp T.b_more_than_half .nil pass0 (pa_cons (Xk.k_fld (K := K) (by rfl) (pv 0) rfl) (pa_cons (Xk.k_fld (K := K) (by rfl) (pv 0) rfl) pa_nil))))) (pss_one (ps_ret (pe_bl))) pss_nil)
      (pss_cons (ps_fld (pv 0) (pe_glob (by rfl) T.g_WON Xk.rel_str) rfl)
      (pss_one (ps_ret (pe_bl)))))))), ?_⟩
  wtm_at "x0"
  refine Xk.x_cut (fun σ' H' => H = H' ∧ (S.st = "telling" ∧ ix ∈ ms ∧ ¬ ix ∈ S.vo) ∧ σ' = [some (.ref a), some (.int ix)]) ?_ ?_
  · have no : ¬ (S.st = "telling" ∧ ix ∈ ms ∧ ¬ ix ∈ S.vo) → Q (.bl false) H := fun hn => by
      have e : voted ms S ix = (S, false) := if_neg hn
      have q2 := q H (fun x o _ _ _ h => h)
      rw [e] at q2
      exact q2 g
    wtm_at "xs"
    refine Xk.x_itn (fun h4 => ?_) (fun h4 => ?_)
    · wtm_at "xs"
      exact no fun z => h4 (congrArg V.str z.1)
    · wtm_at "xs"
      refine ⟨a, dx, b0, m, p, v, S, v, S.vo, ms, ix, rfl, g, hm, g.hv, ?_⟩
      wtm_at "xs"
      by_cases h5 : ix ∈ ms ∧ ¬ ix ∈ S.vo
      · rw [decide_eq_true h5.1, decide_eq_false h5.2]
        wtm_at "xs"
        exact ⟨rfl, ⟨V.str.inj h4, h5⟩, rfl⟩
      · have e : (decide (ix ∈ ms) && !decide (ix ∈ S.vo)) = false := by
          by_cases h6 : ix ∈ ms
          · have h7 : ix ∈ S.vo := Classical.byContradiction fun z => h5 ⟨h6, z⟩
            rw [decide_eq_true h6, decide_eq_true h7]
            rfl
          · rw [decide_eq_false h6]
            rfl
        rw [e]
        wtm_at "xs"
        exact no fun z => h5 z.2
  rintro σ' H' ⟨rfl, hc, rfl⟩
  have hv := g.hv
  have lvo : S.vo.length ≤ 10 := by
    have h8 := half_len hnd ok.vo.1 ok.vo.2
    have h9 := List.length_filter_le (fun m => decide (m ∈ S.vo)) ms
    omega
  wtm_at "xs"
  refine Xk.x_rSortI (ns := S.vo ++ [ix]) (by rw [List.map_append]; exact upd_same) fun ns' hp1 hp2 => ?_
  obtain rfl := srt_of hp1 hp2
  have e1 : B3 a p v H (upd (upd H v (.lst (S.vo.map V.int ++ [V.int ix]))) v (.lst ((srt (S.vo ++ [ix])).map V.int))) := fun x o h1 h2 h3 h => (upd_ne h3).trans ((upd_ne h3).trans h)
  have o2 := (upd_ne (o := .lst ((srt (S.vo ++ [ix])).map V.int)) nav.symm).trans ((upd_ne (o := .lst (S.vo.map V.int ++ [V.int ix])) nav.symm).trans o1)
  have v2 : upd (upd H v (.lst (S.vo.map V.int ++ [V.int ix]))) v (.lst ((srt (S.vo ++ [ix])).map V.int)) v = _ := upd_same
  have p2 := (upd_ne (o := .lst ((srt (S.vo ++ [ix])).map V.int)) npv).trans ((upd_ne (o := .lst (S.vo.map V.int ++ [V.int ix])) npv).trans g.hp)
  have st2 := g.st (K := K) e1
  generalize upd (upd H v (.lst (S.vo.map V.int ++ [V.int ix]))) v (.lst ((srt (S.vo ++ [ix])).map V.int)) = H2 at *
  clear hv hp1 hp2
  have hsr := srt_snoc_ok ok.vo hc.2.1 hc.2.2
  have e0 : voted ms S ix = if half ms (srt (S.vo ++ [ix])) = true then (⟨"won", S.pr, srt (S.vo ++ [ix]), S.bd, S.en⟩, true) else (⟨S.st, S.pr, srt (S.vo ++ [ix]), S.bd, S.en⟩, false) := if_pos hc
  rw [e0] at q
  have g2 : At T.C_Attempt H2 a dx b0 m p v ⟨S.st, S.pr, srt (S.vo ++ [ix]), S.bd, S.en⟩ := ⟨o2, p2, v2, npv⟩
  have hm2 := st2.t _ _ hm
  refine Xk.x_cut (fun σ' H' => Same H2 H' ∧ half ms (srt (S.vo ++ [ix])) = true ∧ σ' = [some (.ref a), some (.int ix)]) ?_ ?_
  · wtm_at "xs"
    refine ⟨m, v, ms, _, rfl, hm2, .inl (Xk.sq_of v2), by omega, fun H4 s4 => ?_⟩
    rw [half_of hnd hsr.1 hsr.2]
    have g4 := g2.same s4
    wtm_at "xs"
    cases hh : half ms (srt (S.vo ++ [ix]))
    · rw [hh] at q
      wtm_at "xs"
      exact q H4 (fun x o h1 h2 h3 h => s4 _ _ (e1 x o h1 h2 h3 h)) g4
    · wtm_at "xs"
      exact ⟨s4, rfl, rfl⟩
  rintro σ' H4 ⟨s4, hh, rfl⟩
  have e4 : B3 a p v H H4 := fun x o h1 h2 h3 h => s4 _ _ (e1 x o h1 h2 h3 h)
  have g4 := g2.same s4
  have o4 := g4.o
  rw [hh] at q
  clear s4 e1 g2 o2 st2 hm2
  wtm_at "xs"
  exact q _ (fun x o h1 h2 h3 h => (upd_ne h1).trans (e4 x o h1 h2 h3 h)) ⟨upd_same, (upd_ne nap).trans g4.hp, (upd_ne nav).trans g4.hv, npv⟩
--CUT--
--CUT--
/-! ### the protocol -/
structure Ag where
  B : Int × Int
  S : Sa
  k : En
  bk : Option ((Int × Int) × En)
abbrev Acc := Option ((Int × Int) × En)
/-- an attempt that asks -/
structure Ask (pr : Int → Int × Int) (vs : List Vt) (a : Ag) : Prop where
  up : ∀ m ∈ a.S.pr, ¬ l2 (pr m) a.B
  cov : ∀ v ∈ vs, v.ix ∈ a.S.pr → l2 (bp v) a.B → ∃ B' k', a.bk = some (B', k') ∧ ¬ l2 B' (bp v)
  bd : ∀ B' k', a.bk = some (B', k') → l2 B' a.B ∧ ∃ v ∈ vs, v.ix ∈ a.S.pr ∧ bp v = B' ∧ v.k = k'
/-- a majority lets an entry come -/
def Tel (ms : List Int) (pr : Int → Int × Int) (vs : List Vt) (B : Int × Int) (k : En) : Prop := ∃ S : List Int, (∀ m ∈ S, m ∈ ms ∧ ¬ l2 (pr m) B) ∧ Maj ms S ∧ Lets vs S B k
/-- what a promise tells -/
structure Pf (pr : Int → Int × Int) (vs : List Vt) (B : Int × Int) (m : Int) (acc : Acc) : Prop where
  up : ¬ l2 (pr m) B
  cov : ∀ v ∈ vs, v.ix = m → l2 (bp v) B → ∃ B' k', acc = some (B', k') ∧ ¬ l2 B' (bp v)
  bd : ∀ B' k', acc = some (B', k') → ¬ l2 B B' ∧ ∃ v ∈ vs, v.ix = m ∧ bp v = B' ∧ v.k = k'
structure Iv (ms : List Int) (pr : Int → Int × Int) (ac : Int → Acc) (vs : List Vt) (ats : List Ag) : Prop where
  own : ∀ v ∈ vs, v.ix ∈ ms
  a0 : ∀ m, ac m = none → ∀ v ∈ vs, v.ix ≠ m
  a1 : ∀ m B k, ac m = some (B, k) → (∃ v ∈ vs, v.ix = m ∧ bp v = B ∧ v.k = k) ∧ ∀ v ∈ vs, v.ix = m → ¬ l2 B (bp v)
  a2 : ∀ v ∈ vs, ¬ l2 (pr v.ix) (bp v)
  vt : ∀ v ∈ vs, ∃ a ∈ ats, a.B = bp v ∧ a.S.st ≠ "asking" ∧ a.k = v.k
  nb : (ats.map (·.B)).Nodup
  as : ∀ a ∈ ats, a.S.st = "asking" → Ask pr vs a
  tl : ∀ a ∈ ats, a.S.st ≠ "asking" → Tel ms pr vs a.B a.k
  vo : ∀ a ∈ ats, ∀ m ∈ a.S.vo, ∃ v ∈ vs, v.ix = m ∧ bp v = a.B
  wn : ∀ a ∈ ats, a.S.st = "won" → half ms a.S.vo = true
  nd : ∀ a ∈ ats, a.S.vo.Nodup ∧ (∀ x ∈ a.S.vo, x ∈ ms) ∧ a.S.pr.Nodup ∧ ∀ x ∈ a.S.pr, x ∈ ms
inductive Mg
  | ask (m : Int) (B : Int × Int)
  | prom (B : Int × Int) (m : Int) (acc : Acc)
  | tell (m : Int) (B : Int × Int) (k : En)
  | vote (B : Int × Int) (m : Int)
def MgOk (ms : List Int) (pr : Int → Int × Int) (vs : List Vt) (ats : List Ag) : Mg → Prop
  | .ask m B => m ∈ ms ∧ ∃ a ∈ ats, a.B = B
  | .prom B m acc => m ∈ ms ∧ (∃ a ∈ ats, a.B = B) ∧ Pf pr vs B m acc
  | .tell m B k => m ∈ ms ∧ ∃ a ∈ ats, a.B = B ∧ a.S.st ≠ "asking" ∧ a.k = k
  | .vote B m => (∃ a ∈ ats, a.B = B) ∧ ∃ v ∈ vs, v.ix = m ∧ bp v = B
theorem nd_inj {α β : Type} {f : α → β} : ∀ {l : List α}, (l.map f).Nodup → ∀ a ∈ l, ∀ b ∈ l, f a = f b → a = b
  | [], _, a, ha, _, _, _ => by cases ha
  | x :: r, h, a, ha, b, hb, e => by
    rw [List.map_cons] at h
    obtain ⟨h1, h2⟩ := List.nodup_cons.mp h
    rcases List.mem_cons.mp ha with ha | ha
    · rcases List.mem_cons.mp hb with hb | hb
      · rw [ha, hb]
      · exact absurd (by rw [← ha, e]; exact List.mem_map_of_mem hb) h1
    · rcases List.mem_cons.mp hb with hb | hb
      · exact absurd (by rw [← hb, ← e]; exact List.mem_map_of_mem ha) h1
      · exact nd_inj h2 a ha b hb e
theorem Iv.ub {ms : List Int} {pr : Int → Int × Int} {ac : Int → Acc} {vs : List Vt} {ats : List Ag} (h : Iv ms pr ac vs ats) : ∀ a ∈ ats, ∀ b ∈ ats, a.B = b.B → a = b := nd_inj h.nb
theorem Iv.one {ms : List Int} {pr : Int → Int × Int} {ac : Int → Acc} {vs : List Vt} {ats : List Ag} (h : Iv ms pr ac vs ats) {u v : Vt} (hu : u ∈ vs) (hv : v ∈ vs) (e : bp u = bp v) : u.k = v.k := by
  obtain ⟨a, a1, a2, _, a4⟩ := h.vt u hu
  obtain ⟨b, b1, b2, _, b4⟩ := h.vt v hv
  have z := h.ub a a1 b b1 (a2.trans (e.trans b2.symm))
  rw [← a4, ← b4, z]
/-- the votes are lawful -/
theorem Iv.gd {ms : List Int} {pr : Int → Int × Int} {ac : Int → Acc} {vs : List Vt} {ats : List Ag} (h : Iv ms pr ac vs ats) : ∀ v ∈ vs, v.ix ∈ ms → Gd ms vs (bp v) := fun v hv hm => by
  refine ⟨fun u hu w hw _ _ h3 h4 => h.one hu hw (h3.trans h4.symm), fun u hu h1 h2 => ?_⟩
  obtain ⟨a, a1, a2, a3, a4⟩ := h.vt u hu
  obtain ⟨S, s1, s2, s3⟩ := h.tl a a1 a3
  rw [a2, a4, h2] at s3
  exact ⟨S, fun m hm => (s1 m hm).1, s2, s3⟩
/-- an attempt that is won has a majority of votes -/
theorem Iv.won {ms : List Int} {pr : Int → Int × Int} {ac : Int → Acc} {vs : List Vt} {ats : List Ag} (h : Iv ms pr ac vs ats) {a : Ag} (ha : a ∈ ats) (hw : a.S.st = "won") : ∃ v ∈ vs, Mj ms vs v ∧ v.k = a.k := by
  have hh := h.wn a ha hw
  have hvo := h.vo a ha
  obtain ⟨nd, sub, _⟩ := h.nd a ha
  unfold half at hh
  rw [decide_eq_true_eq] at hh
  obtain ⟨m, hm⟩ := List.exists_mem_of_length_pos (l := a.S.vo) (by omega)
  obtain ⟨v, v1, v2, v3⟩ := hvo m hm
  have key : ∀ u ∈ vs, bp u = a.B → u.k = a.k := fun u hu e => by
    obtain ⟨b, b1, b2, _, b4⟩ := h.vt u hu
    rw [← b4, h.ub b b1 a ha (b2.trans e)]
  refine ⟨v, v1, ?_, key v v1 v3⟩
  unfold Mj
  have z := nd.length_le_of_subset (l₂ := vot ms vs v) fun x hx => by
    obtain ⟨u, u1, u2, u3⟩ := hvo x hx
    refine in_vot.mpr ⟨sub x hx, u, u1, u2, ?_, ?_, by rw [key u u1 u3, key v v1 v3]⟩
    · exact congrArg Prod.fst (u3.trans v3.symm)
    · exact congrArg Prod.snd (u3.trans v3.symm)
  omega
/-! #### promises rise -/
theorem Ask.rise {pr pr' : Int → Int × Int} {vs : List Vt} {a : Ag} (h : Ask pr vs a) (hp : ∀ m, ¬ l2 (pr' m) (pr m)) : Ask pr' vs a := ⟨fun m hm => l2_nn (hp m) (h.up m hm), h.cov, h.bd⟩
theorem Tel.rise {ms : List Int} {pr pr' : Int → Int × Int} {vs : List Vt} {B : Int × Int} {k : En} (h : Tel ms pr vs B k) (hp : ∀ m, ¬ l2 (pr' m) (pr m)) : Tel ms pr' vs B k := by
  obtain ⟨S, s1, s2, s3⟩ := h
  exact ⟨S, fun m hm => ⟨(s1 m hm).1, l2_nn (hp m) (s1 m hm).2⟩, s2, s3⟩
theorem Pf.rise {pr pr' : Int → Int × Int} {vs : List Vt} {B : Int × Int} {m : Int} {acc : Acc} (h : Pf pr vs B m acc) (hp : ∀ m, ¬ l2 (pr' m) (pr m)) : Pf pr' vs B m acc := ⟨l2_nn (hp m) h.up, h.cov, h.bd⟩
theorem Iv.rise {ms : List Int} {pr pr' : Int → Int × Int} {ac : Int → Acc} {vs : List Vt} {ats : List Ag} (h : Iv ms pr ac vs ats) (hp : ∀ m, ¬ l2 (pr' m) (pr m)) : Iv ms pr' ac vs ats :=
  ⟨h.own, h.a0, h.a1, fun v hv => l2_nn (hp _) (h.a2 v hv), h.vt, h.nb, fun a ha e => (h.as a ha e).rise hp, fun a ha e => (h.tl a ha e).rise hp, h.vo, h.wn, h.nd⟩
theorem MgOk.rise {ms : List Int} {pr pr' : Int → Int × Int} {vs : List Vt} {ats : List Ag} {g : Mg} (h : MgOk ms pr vs ats g) (hp : ∀ m, ¬ l2 (pr' m) (pr m)) : MgOk ms pr' vs ats g := by
  cases g with
  | prom B m acc => exact ⟨h.1, h.2.1, h.2.2.rise hp⟩
  | ask m B => exact h
  | tell m B k => exact h
  | vote B m => exact h
/-- a promise of a ballot that is heard -/
def setP (pr : Int → Int × Int) (m : Int) (B : Int × Int) : Int → Int × Int := fun x => if x = m then B else pr x
theorem setP_rise {pr : Int → Int × Int} {m : Int} {B : Int × Int} (h : ¬ l2 B (pr m)) : ∀ x, ¬ l2 (setP pr m B x) (pr x) := fun x => by
  unfold setP
  split
  · rename_i e
    rw [e]
    exact h
  · exact l2_irr
theorem setP_at {pr : Int → Int × Int} {m : Int} {B : Int × Int} : setP pr m B m = B := by
  unfold setP
  rw [if_pos rfl]
theorem Iv.told {ms : List Int} {pr : Int → Int × Int} {ac : Int → Acc} {vs : List Vt} {ats : List Ag} (h : Iv ms pr ac vs ats) {m : Int} {B : Int × Int} (hb : ¬ l2 B (pr m)) : Pf (setP pr m B) vs B m (ac m) := by
  refine ⟨by rw [setP_at]; exact l2_irr, fun v hv e hl => ?_, fun B' k' e => ?_⟩
  · cases c : ac m with
    | none => exact absurd e (h.a0 m c v hv)
    | some p =>
      obtain ⟨B', k'⟩ := p
      exact ⟨B', k', rfl, (h.a1 m B' k' c).2 v hv e⟩
  · obtain ⟨⟨v, v1, v2, v3, v4⟩, _⟩ := h.a1 m B' k' e
    refine ⟨fun z => ?_, v, v1, v2, v3, v4⟩
    have z2 := h.a2 v v1
    rw [v2, v3] at z2
    refine hb ?_
    unfold l2 at z z2 ⊢
    omega
/-! #### a new attempt -/
theorem Iv.begin_ {ms : List Int} {pr : Int → Int × Int} {ac : Int → Acc} {vs : List Vt} {ats : List Ag} (h : Iv ms pr ac vs ats) {a : Ag} (hn : ∀ b ∈ ats, b.B ≠ a.B) (h1 : a.S.st = "asking") (h2 : a.S.pr = []) (h3 : a.S.vo = []) (h4 : a.bk = none) : Iv ms pr ac vs (ats ++ [a]) := by
  have na : ¬ ("asking" : Str) = "won" := by decide
  have mem : ∀ b, b ∈ ats ++ [a] → b ∈ ats ∨ b = a := fun b hb => (List.mem_append.mp hb).imp_right List.mem_singleton.mp
  refine ⟨h.own, h.a0, h.a1, h.a2, fun v hv => ?_, ?_, fun b hb e => ?_, fun b hb e => ?_, fun b hb => ?_, fun b hb e => ?_, fun b hb => ?_⟩
  · obtain ⟨b, b1, b2⟩ := h.vt v hv
    exact ⟨b, List.mem_append_left _ b1, b2⟩
  · rw [List.map_append]
    refine List.nodup_append.mpr ⟨h.nb, List.nodup_cons.mpr ⟨List.not_mem_nil, .nil⟩, fun x hx y hy e => ?_⟩
    obtain ⟨b, b1, b2⟩ := List.mem_map.mp hx
    rw [List.mem_singleton.mp hy] at e
    exact hn b b1 (b2.trans e)
  · rcases mem b hb with hb | hb
    · exact h.as b hb e
    · subst hb
      exact ⟨fun m hm => (by rw [h2] at hm; cases hm), fun v _ hm => (by rw [h2] at hm; cases hm), fun B' k' e => (by rw [h4] at e; cases e)⟩
  · rcases mem b hb with hb | hb
    · exact h.tl b hb e
    · exact absurd (by rw [hb]; exact h1) e
  · rcases mem b hb with hb | hb
    · exact h.vo b hb
    · intro m hm
      rw [hb, h3] at hm
      cases hm
  · rcases mem b hb with hb | hb
    · exact h.wn b hb e
    · rw [hb, h1] at e
      exact absurd e na
  · rcases mem b hb with hb | hb
    · exact h.nd b hb
    · rw [hb, h2, h3]
      exact ⟨.nil, fun x hx => (by cases hx), .nil, fun x hx => (by cases hx)⟩
theorem MgOk.more {ms : List Int} {pr : Int → Int × Int} {vs : List Vt} {ats : List Ag} {g : Mg} (h : MgOk ms pr vs ats g) (a : Ag) : MgOk ms pr vs (ats ++ [a]) g := by
  have up : ∀ {p : Ag → Prop}, (∃ b ∈ ats, p b) → ∃ b ∈ ats ++ [a], p b := fun ⟨b, b1, b2⟩ => ⟨b, List.mem_append_left _ b1, b2⟩
  cases g with
  | prom B m acc => exact ⟨h.1, up h.2.1, h.2.2⟩
  | ask m B => exact ⟨h.1, up h.2⟩
  | tell m B k => exact ⟨h.1, up h.2⟩
  | vote B m => exact ⟨up h.1, h.2⟩
/-! #### a vote more -/
theorem Lets.vote {vs : List Vt} {S : List Int} {B : Int × Int} {k : En} (h : Lets vs S B k) {v : Vt} (hv : v.ix ∈ S → ¬ l2 (bp v) B) : Lets (vs ++ [v]) S B k := fun u hu h1 h2 h3 => by
  rcases List.mem_append.mp hu with hu | hu
  · exact h u hu h1 h2 fun w hw => h3 w (List.mem_append_left _ hw)
  · rw [List.mem_singleton.mp hu] at h1 h2
    exact absurd h2 (hv h1)
theorem Iv.vote {ms : List Int} {pr : Int → Int × Int} {ac : Int → Acc} {vs : List Vt} {ats : List Ag} (h : Iv ms pr ac vs ats) {v : Vt} (hm : v.ix ∈ ms) (hb : ¬ l2 (bp v) (pr v.ix)) {a : Ag} (ha : a ∈ ats) (e1 : a.B = bp v) (e2 : a.S.st ≠ "asking") (e3 : a.k = v.k) :
    Iv ms (setP pr v.ix (bp v)) (fun x => if x = v.ix then some (bp v, v.k) else ac x) (vs ++ [v]) ats := by
  have rise := setP_rise hb
  have mem : ∀ w, w ∈ vs ++ [v] → w ∈ vs ∨ w = v := fun w hw => (List.mem_append.mp hw).imp_right List.mem_singleton.mp
  have h' := h.rise rise
  have old : ∀ u ∈ vs, u.ix = v.ix → ¬ l2 (bp v) (bp u) := fun u hu e => by
    have z := h'.a2 u hu
    rw [e, setP_at] at z
    exact z
  refine ⟨fun w hw => ?_, fun m e w hw => ?_, fun m B k e => ?_, fun w hw => ?_, fun w hw => ?_, h.nb, fun b hb' e => ?_, fun b hb' e => ?_, fun b hb' m hm => ?_, h.wn, h.nd⟩
  · rcases mem w hw with hw | rfl
    · exact h.own w hw
    · exact hm
  · split at e
    · cases e
    · rename_i c
      rcases mem w hw with hw | rfl
      · exact h.a0 m e w hw
      · exact fun z => c z.symm
  · split at e
    · rename_i c
      cases e
      refine ⟨⟨v, List.mem_append_right _ (List.mem_singleton.mpr rfl), c.symm, rfl, rfl⟩, fun w hw ew => ?_⟩
      rcases mem w hw with hw | rfl
      · exact old w hw (ew.trans c)
      · exact l2_irr
    · rename_i c
      obtain ⟨⟨u, u1, u2⟩, u3⟩ := h.a1 m B k e
      refine ⟨⟨u, List.mem_append_left _ u1, u2⟩, fun w hw ew => ?_⟩
      rcases mem w hw with hw | rfl
      · exact u3 w hw ew
      · exact absurd ew.symm c
  · rcases mem w hw with hw | rfl
    · exact h'.a2 w hw
    · rw [setP_at]
      exact l2_irr
  · rcases mem w hw with hw | rfl
    · exact h.vt w hw
    · exact ⟨a, ha, e1, e2, e3⟩
  · have k := h'.as b hb' e
    refine ⟨k.up, fun w hw hi hl => ?_, fun B' k' e' => ?_⟩
    · rcases mem w hw with hw | rfl
      · exact k.cov w hw hi hl
      · have z := k.up _ hi
        rw [setP_at] at z
        exact absurd hl z
    · obtain ⟨k1, u, u1, u2⟩ := k.bd B' k' e'
      exact ⟨k1, u, List.mem_append_left _ u1, u2⟩
  · obtain ⟨S, s1, s2, s3⟩ := h'.tl b hb' e
    refine ⟨S, s1, s2, s3.vote fun hi => ?_⟩
    have z := (s1 _ hi).2
    rw [setP_at] at z
    exact z
  · obtain ⟨u, u1, u2⟩ := h.vo b hb' m hm
    exact ⟨u, List.mem_append_left _ u1, u2⟩
theorem MgOk.voted {ms : List Int} {pr : Int → Int × Int} {vs : List Vt} {ats : List Ag} {g : Mg} (h : MgOk ms pr vs ats g) {v : Vt} (hb : ¬ l2 (bp v) (pr v.ix)) : MgOk ms (setP pr v.ix (bp v)) (vs ++ [v]) ats g := by
  have h' := h.rise (setP_rise hb)
  cases g with
  | prom B m acc =>
    obtain ⟨p1, p2, p3⟩ := h'
    refine ⟨p1, p2, p3.up, fun w hw e hl => ?_, fun B' k' e => ?_⟩
    · rcases List.mem_append.mp hw with hw | hw
      · exact p3.cov w hw e hl
      · have ew := List.mem_singleton.mp hw
        subst ew
        have z := p3.up
        rw [← e, setP_at] at z
        exact absurd hl z
    · obtain ⟨k1, u, u1, u2⟩ := p3.bd B' k' e
      exact ⟨k1, u, List.mem_append_left _ u1, u2⟩
  | ask m B => exact h
  | tell m B k => exact h
  | vote B m =>
    obtain ⟨p1, u, u1, u2⟩ := h
    exact ⟨p1, u, List.mem_append_left _ u1, u2⟩
/-! #### an attempt goes on -/
theorem set_mem {ats : List Ag} {i : Nat} {a a' : Ag} (hi : ats[i]? = some a) : a' ∈ ats.set i a' := by
  have l := Xk.at_lt hi
  exact List.mem_of_getElem? (i := i) (by rw [List.getElem?_set_self l])
theorem set_keep {ats : List Ag} {i : Nat} {a a' b : Ag} (hi : ats[i]? = some a) (hb : b ∈ ats) (e : b ≠ a) : b ∈ ats.set i a' := by
  obtain ⟨j, hj⟩ := List.mem_iff_getElem?.mp hb
  have n : i ≠ j := fun z => by
    subst z
    rw [hi] at hj
    exact e (Option.some.inj hj).symm
  exact List.mem_of_getElem? (i := j) (by rw [List.getElem?_set_ne n]; exact hj)
theorem set_B {ats : List Ag} {i : Nat} {a a' : Ag} (hi : ats[i]? = some a) (e : a'.B = a.B) : (ats.set i a').map (·.B) = ats.map (·.B) := by
  rw [List.map_set]
  refine List.ext_getElem? fun j => ?_
  by_cases c : i = j
  · subst c
    have l := Xk.at_lt hi
    rw [List.getElem?_set_self (by rw [List.length_map]; exact l), List.getElem?_map, hi, e]
    rfl
  · rw [List.getElem?_set_ne c]
/-- a' stands where a stood -/
structure Goes (ms : List Int) (pr : Int → Int × Int) (vs : List Vt) (a a' : Ag) : Prop where
  eB : a'.B = a.B
  keep : a.S.st ≠ "asking" → a'.S.st ≠ "asking" ∧ a'.k = a.k
  as : a'.S.st = "asking" → Ask pr vs a'
  tl : a'.S.st ≠ "asking" → Tel ms pr vs a'.B a'.k
  vo : ∀ m ∈ a'.S.vo, ∃ v ∈ vs, v.ix = m ∧ bp v = a'.B
  wn : a'.S.st = "won" → half ms a'.S.vo = true
  nd : a'.S.vo.Nodup ∧ (∀ x ∈ a'.S.vo, x ∈ ms) ∧ a'.S.pr.Nodup ∧ ∀ x ∈ a'.S.pr, x ∈ ms
theorem Iv.goes {ms : List Int} {pr : Int → Int × Int} {ac : Int → Acc} {vs : List Vt} {ats : List Ag} (h : Iv ms pr ac vs ats) {i : Nat} {a a' : Ag} (hi : ats[i]? = some a) (g : Goes ms pr vs a a') : Iv ms pr ac vs (ats.set i a') := by
  have ham := List.mem_of_getElem? hi
  refine ⟨h.own, h.a0, h.a1, h.a2, fun v hv => ?_, by rw [set_B hi g.eB]; exact h.nb, fun b hb e => ?_, fun b hb e => ?_, fun b hb => ?_, fun b hb e => ?_, fun b hb => ?_⟩
  · obtain ⟨b, b1, b2, b3, b4⟩ := h.vt v hv
    by_cases c : b = a
    · subst c
      obtain ⟨k1, k2⟩ := g.keep b3
      exact ⟨a', set_mem hi, g.eB.trans b2, k1, k2.trans b4⟩
    · exact ⟨b, set_keep hi b1 c, b2, b3, b4⟩
  · rcases List.mem_or_eq_of_mem_set hb with hb | rfl
    · exact h.as b hb e
    · exact g.as e
  · rcases List.mem_or_eq_of_mem_set hb with hb | rfl
    · exact h.tl b hb e
    · exact g.tl e
  · rcases List.mem_or_eq_of_mem_set hb with hb | rfl
    · exact h.vo b hb
    · exact g.vo
  · rcases List.mem_or_eq_of_mem_set hb with hb | rfl
    · exact h.wn b hb e
    · exact g.wn e
  · rcases List.mem_or_eq_of_mem_set hb with hb | rfl
    · exact h.nd b hb
    · exact g.nd
theorem MgOk.goes {ms : List Int} {pr : Int → Int × Int} {vs : List Vt} {ats : List Ag} {q : Mg} (h : MgOk ms pr vs ats q) {i : Nat} {a a' : Ag} (hi : ats[i]? = some a) (g : Goes ms pr vs a a') : MgOk ms pr vs (ats.set i a') q := by
  have up : ∀ {B : Int × Int}, (∃ b ∈ ats, b.B = B) → ∃ b ∈ ats.set i a', b.B = B := fun {B} ⟨b, b1, b2⟩ => by
    by_cases c : b = a
    · exact ⟨a', set_mem hi, by rw [g.eB, ← c]; exact b2⟩
    · exact ⟨b, set_keep hi b1 c, b2⟩
  cases q with
  | prom B m acc => exact ⟨h.1, up h.2.1, h.2.2⟩
  | ask m B => exact ⟨h.1, up h.2⟩
  | tell m B k =>
    obtain ⟨h1, b, b1, b2, b3, b4⟩ := h
    refine ⟨h1, ?_⟩
    by_cases c : b = a
    · subst c
      obtain ⟨k1, k2⟩ := g.keep b3
      exact ⟨a', set_mem hi, g.eB.trans b2, k1, k2.trans b4⟩
    · exact ⟨b, set_keep hi b1 c, b2, b3, b4⟩
  | vote B m => exact ⟨up h.1, h.2⟩
def bindk (bk acc : Acc) : Acc := match acc with
  | none => bk
  | some p => match bk with
    | none => some p
    | some q => if l2 q.1 p.1 then some p else some q
def enk (k : En) : Acc → En
  | none => k
  | some p => p.2
theorem Ask.hear {pr : Int → Int × Int} {vs : List Vt} {a : Ag} (h : Ask pr vs a) {m : Int} {acc : Acc} (p : Pf pr vs a.B m acc) (st : ∀ B' k', acc = some (B', k') → B' ≠ a.B) {S : Sa} {k : En} (hS : ∀ x, x ∈ S.pr ↔ x ∈ a.S.pr ∨ x = m) : Ask pr vs ⟨a.B, S, k, bindk a.bk acc⟩ := by
  refine ⟨fun x hx => ?_, fun v hv hx hl => ?_, fun B' k' e => ?_⟩
  · rcases (hS x).mp hx with hx | rfl
    · exact h.up x hx
    · exact p.up
  · show ∃ B' k', bindk a.bk acc = some (B', k') ∧ _
    rcases (hS _).mp hx with hx | hx
    · obtain ⟨B1, k1, e1, l1⟩ := h.cov v hv hx hl
      unfold bindk
      rw [e1]
      cases acc with
      | none => exact ⟨B1, k1, rfl, l1⟩
      | some p2 =>
        dsimp only
        split
        · rename_i c
          exact ⟨p2.1, p2.2, rfl, fun z => l1 (l2_tr c z)⟩
        · exact ⟨B1, k1, rfl, l1⟩
    · obtain ⟨B2, k2, e2, l2'⟩ := p.cov v hv hx hl
      unfold bindk
      rw [e2]
      dsimp only
      cases hb : a.bk with
      | none => exact ⟨B2, k2, rfl, l2'⟩
      | some q =>
        dsimp only
        split
        · exact ⟨B2, k2, rfl, l2'⟩
        · rename_i c
          exact ⟨q.1, q.2, rfl, l2_nn c l2'⟩
  · have e' : bindk a.bk acc = some (B', k') := e
    have new : ∀ B' k', acc = some (B', k') → l2 B' a.B ∧ ∃ v ∈ vs, v.ix ∈ S.pr ∧ bp v = B' ∧ v.k = k' := fun B' k' e => by
      obtain ⟨n1, v, v1, v2, v3, v4⟩ := p.bd B' k' e
      refine ⟨Classical.byContradiction fun z => st B' k' e (l2_eq z n1), v, v1, (hS _).mpr (.inr v2), v3, v4⟩
    have old : ∀ B' k', a.bk = some (B', k') → l2 B' a.B ∧ ∃ v ∈ vs, v.ix ∈ S.pr ∧ bp v = B' ∧ v.k = k' := fun B' k' e => by
      obtain ⟨n1, v, v1, v2, v3, v4⟩ := h.bd B' k' e
      exact ⟨n1, v, v1, (hS _).mpr (.inl v2), v3, v4⟩
    unfold bindk at e'
    cases acc with
    | none => exact old B' k' e'
    | some p2 =>
      cases hb : a.bk with
      | none =>
        rw [hb] at e'
        exact new B' k' e'
      | some q =>
        rw [hb] at e'
        dsimp only at e'
        split at e'
        · exact new B' k' e'
        · exact old B' k' (hb.trans e')
theorem Ask.lets {pr : Int → Int × Int} {vs : List Vt} {a : Ag} (h : Ask pr vs a) (one : ∀ u ∈ vs, ∀ v ∈ vs, bp u = bp v → u.k = v.k) {k : En} : Lets vs a.S.pr a.B (enk k a.bk) := fun u hu h1 h2 h3 => by
  obtain ⟨B', k', e, l⟩ := h.cov u hu h1 h2
  obtain ⟨b1, w, w1, w2, w3, w4⟩ := h.bd B' k' e
  have z := h3 w w1 w2 (by rw [w3]; exact b1)
  rw [w3] at z
  have eb : bp u = bp w := (l2_eq z l).trans w3.symm
  rw [e]
  exact (one u hu w w1 eb).trans w4
/-- a promise is heard -/
theorem Iv.heard {ms : List Int} {pr : Int → Int × Int} {ac : Int → Acc} {vs : List Vt} {ats : List Ag} (h : Iv ms pr ac vs ats) (hms : ms.Nodup) {a : Ag} (ha : a ∈ ats) {m : Int} {acc : Acc} (p : Pf pr vs a.B m acc) {oc : Option (Addr × Addr × V × Int × Int)} :
    ∃ k', Goes ms pr vs a ⟨a.B, (prom ms a.S m oc).1, k', if a.S.st = "asking" ∧ m ∈ ms ∧ ¬ m ∈ a.S.pr then bindk a.bk acc else a.bk⟩ ∧ ((prom ms a.S m oc).2 = true → k' = enk a.k (bindk a.bk acc)) ∧ ((prom ms a.S m oc).2 = false → k' = a.k) := by
  by_cases c : a.S.st = "asking" ∧ m ∈ ms ∧ ¬ m ∈ a.S.pr
  · have ask := h.as a ha c.1
    obtain ⟨d1, d2, d3, d4⟩ := h.nd a ha
    have st : ∀ B' k', acc = some (B', k') → B' ≠ a.B := fun B' k' e z => by
      obtain ⟨_, v, v1, v2, v3, v4⟩ := p.bd B' k' e
      obtain ⟨b, b1, b2, b3, _⟩ := h.vt v v1
      have := h.ub b b1 a ha (b2.trans (v3.trans z))
      rw [this] at b3
      exact b3 c.1
    have mem : ∀ x, x ∈ srt (a.S.pr ++ [m]) ↔ x ∈ a.S.pr ∨ x = m := fun x => by
      rw [(srt_perm _).mem_iff, List.mem_append, List.mem_singleton]
    obtain ⟨n1, n2⟩ := srt_snoc_ok (ms := ms) ⟨d3, d4⟩ c.2.1 c.2.2
    rw [if_pos c]
    unfold prom
    rw [if_pos c]
    dsimp only
    by_cases hh : half ms (srt (a.S.pr ++ [m])) = true
    · rw [if_pos hh]
      refine ⟨enk a.k (bindk a.bk acc), ⟨rfl, fun z => absurd c.1 z, fun z => absurd z (by show ¬ ("telling" : Str) = "asking"; decide), fun _ => ?_, h.vo a ha, fun z => absurd z (by show ¬ ("telling" : Str) = "won"; decide), d1, d2, n1, n2⟩, fun _ => rfl, fun z => by cases z⟩
      have A := ask.hear p st (S := ⟨"telling", srt (a.S.pr ++ [m]), a.S.vo, bind a.S.bd oc, enOf a.S.en (bind a.S.bd oc)⟩) (k := a.k) mem
      refine ⟨srt (a.S.pr ++ [m]), fun x hx => ⟨n2 x hx, A.up x hx⟩, ?_, A.lets fun u hu v hv e => h.one hu hv e⟩
      unfold Maj
      rw [half_len hms n1 n2]
      unfold half at hh
      rw [decide_eq_true_eq] at hh
      omega
    · rw [if_neg hh]
      refine ⟨a.k, ⟨rfl, fun z => absurd c.1 z, fun _ => ask.hear p st mem, fun z => absurd c.1 z, h.vo a ha, fun z => ?_, d1, d2, n1, n2⟩, fun z => (by cases z), fun _ => rfl⟩
      have z' : a.S.st = "won" := z
      rw [c.1] at z'
      exact absurd z' (by decide)
  · rw [if_neg c]
    unfold prom
    rw [if_neg c]
    exact ⟨a.k, ⟨rfl, fun z => ⟨z, rfl⟩, h.as a ha, h.tl a ha, h.vo a ha, h.wn a ha, h.nd a ha⟩, fun z => (by cases z), fun _ => rfl⟩
/-- a vote is heard -/
theorem Iv.counted {ms : List Int} {pr : Int → Int × Int} {ac : Int → Acc} {vs : List Vt} {ats : List Ag} (h : Iv ms pr ac vs ats) {a : Ag} (ha : a ∈ ats) {m : Int} (hv : ∃ v ∈ vs, v.ix = m ∧ bp v = a.B) : Goes ms pr vs a ⟨a.B, (voted ms a.S m).1, a.k, a.bk⟩ := by
  by_cases c : a.S.st = "telling" ∧ m ∈ ms ∧ ¬ m ∈ a.S.vo
  · obtain ⟨d1, d2, d3, d4⟩ := h.nd a ha
    have na : a.S.st ≠ "asking" := by
      rw [c.1]
      decide
    obtain ⟨n1, n2⟩ := srt_snoc_ok (ms := ms) ⟨d1, d2⟩ c.2.1 c.2.2
    have vo : ∀ x ∈ srt (a.S.vo ++ [m]), ∃ v ∈ vs, v.ix = x ∧ bp v = a.B := fun x hx => by
      rw [(srt_perm _).mem_iff, List.mem_append, List.mem_singleton] at hx
      rcases hx with hx | rfl
      · exact h.vo a ha x hx
      · exact hv
    unfold voted
    rw [if_pos c]
    dsimp only
    by_cases hh : half ms (srt (a.S.vo ++ [m])) = true
    · rw [if_pos hh]
      exact ⟨rfl, fun _ => ⟨by show ¬ ("won" : Str) = "asking"; decide, rfl⟩, fun z => absurd z (by show ¬ ("won" : Str) = "asking"; decide), fun _ => h.tl a ha na, vo, fun _ => hh, n1, n2, d3, d4⟩
    · rw [if_neg hh]
      refine ⟨rfl, fun z => ⟨z, rfl⟩, fun z => absurd z na, fun _ => h.tl a ha na, vo, fun z => ?_, n1, n2, d3, d4⟩
      have z' : a.S.st = "won" := z
      rw [c.1] at z'
      exact absurd z' (by decide)
  · unfold voted
    rw [if_neg c]
    exact ⟨rfl, fun z => ⟨z, rfl⟩, h.as a ha, h.tl a ha, h.vo a ha, h.wn a ha, h.nd a ha⟩
--CUT--
/-! ### the protocol in the heap -/
/-- what was accepted -/
def AccV (K : PySem.W.Frag) (H : Hp) (v : V) : Acc → Prop
  | none => v = .non
  | some p => ∃ (t b : Addr) (e : V), v = .ref t ∧ SqT K H t [.ref b, e] ∧ H b = some (.tup [.int p.1.1, .int p.1.2]) ∧ Xk.Pk K H 4 e (ent p.2)
theorem AccV.tu {H H' : Hp} {v : V} {acc : Acc} (h : AccV K H v acc) (s : Tu K H H') : AccV K H' v acc := by
  cases acc with
  | none => exact h
  | some p =>
    obtain ⟨t, b, e, h1, h2, h3, h4⟩ := h
    exact ⟨t, b, e, h1, s.st.t _ _ h2, s.tp _ _ h3, h4.st s.st⟩
/-- an acceptor -/
def AcAt (K : PySem.W.Frag) (C : Addr) (H : Hp) (a : Addr) (P : Int × Int) (acc : Acc) : Prop := ∃ (dx p : Addr) (v : V), AO H C a dx (.ref p) v ∧ SqT K H p [.int P.1, .int P.2] ∧ AccV K H v acc
/-- an attempt: its addresses, and what it is -/
structure Ha where
  a : Addr
  dx : Addr
  b0 : Addr
  p : Addr
  v : Addr
  g : Ag
def BdK (K : PySem.W.Frag) (H : Hp) : Option (Addr × Addr × V × Int × Int) → Acc → Prop
  | none, none => True
  | some (t, b, e, r, i), some p => p.1 = (r, i) ∧ H b = some (.tup [.int r, .int i]) ∧ Xk.Pk K H 4 e (ent p.2)
  | _, _ => False
theorem BdK.tu {H H' : Hp} {o : Option (Addr × Addr × V × Int × Int)} {acc : Acc} (h : BdK K H o acc) (s : Tu K H H') : BdK K H' o acc := by
  match o, acc, h with
  | none, none, h => exact h
  | some (t, b, e, r, i), some p, ⟨h1, h2, h3⟩ => exact ⟨h1, s.tp _ _ h2, h3.st s.st⟩
structure HaAt (K : PySem.W.Frag) (C : Addr) (H : Hp) (M : Addr) (ms : List Int) (h : Ha) : Prop where
  at_ : At C H h.a h.dx h.b0 M h.p h.v h.g.S
  bl : H h.b0 = some (.tup [.int h.g.B.1, .int h.g.B.2])
  ok : SaOk K H ms h.g.S
  en : Xk.Pk K H 4 h.g.S.en (ent h.g.k)
  bd : BdK K H h.g.S.bd h.g.bk
  rg : 1 ≤ h.g.B.1 ∧ h.g.B.1 ≤ 5 ∧ 0 ≤ h.g.B.2 ∧ h.g.B.2 ≤ 6
/-- all stays but what p tells; tuples stay -/
structure Fy (K : PySem.W.Frag) (p : Addr → Prop) (H H' : Hp) : Prop where
  at_ : ∀ c o, H c = some o → ¬ p c → H' c = some o
  tu : Tu K H H'
theorem Fy.same {p : Addr → Prop} {H H' : Hp} (s : Same H H') : Fy K p H H' := ⟨fun c o e _ => s _ _ e, .same s⟩
theorem Fy.trans {p : Addr → Prop} {H H' H'' : Hp} (h : Fy K p H H') (g : Fy K p H' H'') : Fy K p H H'' := ⟨fun c o e n => g.at_ c o (h.at_ c o e n) n, h.tu.trans g.tu⟩
theorem Fy.list {b : Addr} {H H' : Hp} {ys : List V} (hb : H b = some (.lst ys)) (e : Xk.But b H H') : Fy K (fun c => c = b) H H' := ⟨fun c o h n => e c o n h, tu_butL hb e⟩
theorem Fy.ins {b C dx : Addr} {fs : List (Str × V)} {H H' : Hp} (hb : H b = some (.ins C dx fs)) (e : Xk.But b H H') : Fy K (fun c => c = b) H H' := ⟨fun c o h n => e c o n h, tu_but hb (fun _ z => by cases z) (fun _ _ z => by cases z) e⟩
theorem Fy.dict {b : Addr} {kvs : List (Key × V)} {H H' : Hp} (hb : H b = some (.dK kvs)) (e : Xk.But b H H') : Fy K (fun c => c = b) H H' := ⟨fun c o h n => e c o n h, tu_but hb (fun _ z => by cases z) (fun _ _ z => by cases z) e⟩
theorem Fy.dictT {b : Addr} {kvs : List (List Key × V)} {H H' : Hp} (hb : H b = some (.dT kvs)) (e : Xk.But b H H') : Fy K (fun c => c = b) H H' := ⟨fun c o h n => e c o n h, tu_but hb (fun _ z => by cases z) (fun _ _ z => by cases z) e⟩
theorem Fy.b3 {C : Addr} {H H' : Hp} {a dx b0 m p v : Addr} {S : Sa} (g : At C H a dx b0 m p v S) (e : B3 a p v H H') : Fy K (fun c => c = a ∨ c = p ∨ c = v) H H' := by
  refine ⟨fun c o h n => e c o (fun z => n (.inl z)) (fun z => n (.inr (.inl z))) (fun z => n (.inr (.inr z))) h, g.st e, fun c xs h => e c _ (fun z => ?_) (fun z => ?_) (fun z => ?_) h⟩
  · rw [z, g.o] at h
    cases h
  · rw [z, g.hp] at h
    cases h
  · rw [z, g.hv] at h
    cases h
theorem AcAt.fy {C : Addr} {H H' : Hp} {a : Addr} {P : Int × Int} {acc : Acc} {p : Addr → Prop} (h : AcAt K C H a P acc) (f : Fy K p H H') (n : ¬ p a) : AcAt K C H' a P acc := by
  obtain ⟨dx, q, v, h1, h2, h3⟩ := h
  exact ⟨dx, q, v, f.at_ _ _ h1 n, f.tu.st.t _ _ h2, h3.tu f.tu⟩
theorem HaAt.fy {C : Addr} {H H' : Hp} {M : Addr} {ms : List Int} {h : Ha} {p : Addr → Prop} (g : HaAt K C H M ms h) (f : Fy K p H H') (n1 : ¬ p h.a) (n2 : ¬ p h.p) (n3 : ¬ p h.v) : HaAt K C H' M ms h :=
  ⟨⟨f.at_ _ _ g.at_.o n1, f.at_ _ _ g.at_.hp n2, f.at_ _ _ g.at_.hv n3, g.at_.n⟩, f.tu.tp _ _ g.bl, g.ok.keep f.tu.st, g.en.st f.tu.st, g.bd.tu f.tu, g.rg⟩
/-- a message -/
def MsAt (K : PySem.W.Frag) (H : Hp) (a : Addr) : Mg → Prop
  | .ask m B => ∃ b, SqT K H a [.str "ask", .int m, .ref b] ∧ H b = some (.tup [.int B.1, .int B.2])
  | .prom B m acc => ∃ b v, SqT K H a [.str "promise", .ref b, .int m, v] ∧ H b = some (.tup [.int B.1, .int B.2]) ∧ AccV K H v acc
  | .tell m B k => ∃ b e, SqT K H a [.str "tell", .int m, .ref b, e] ∧ H b = some (.tup [.int B.1, .int B.2]) ∧ Xk.Pk K H 4 e (ent k)
  | .vote B m => ∃ b, SqT K H a [.str "vote", .ref b, .int m] ∧ H b = some (.tup [.int B.1, .int B.2])
theorem MsAt.tu {H H' : Hp} {a : Addr} {g : Mg} (h : MsAt K H a g) (s : Tu K H H') : MsAt K H' a g := by
  cases g with
  | ask m B =>
    obtain ⟨b, h1, h2⟩ := h
    exact ⟨b, s.st.t _ _ h1, s.tp _ _ h2⟩
  | prom B m acc =>
    obtain ⟨b, v, h1, h2, h3⟩ := h
    exact ⟨b, v, s.st.t _ _ h1, s.tp _ _ h2, h3.tu s⟩
  | tell m B k =>
    obtain ⟨b, e, h1, h2, h3⟩ := h
    exact ⟨b, e, s.st.t _ _ h1, s.tp _ _ h2, h3.st s.st⟩
  | vote B m =>
    obtain ⟨b, h1, h2⟩ := h
    exact ⟨b, s.st.t _ _ h1, s.tp _ _ h2⟩
/-- where things are -/
structure Ad where
  M : Addr
  da : Addr
  dt : Addr
  so : Addr
  vl : Addr
  aa : Int → Addr
/-- what there is -/
structure Stt where
  pr : Int → Int × Int
  ac : Int → Acc
  hs : List Ha
  gs : List (Addr × Mg)
  vs : List Vt
  akv : List (Key × V)
def adr (h : Ha) : Addr × Addr × Addr := (h.a, h.p, h.v)
/-- nothing in common -/
def Dj (a b : Addr × Addr × Addr) : Prop := a.1 ≠ b.1 ∧ a.2.1 ≠ b.2.1 ∧ a.2.1 ≠ b.2.2 ∧ a.2.2 ≠ b.2.1 ∧ a.2.2 ≠ b.2.2
theorem Dj.symm {a b : Addr × Addr × Addr} (h : Dj a b) : Dj b a := ⟨h.1.symm, h.2.1.symm, h.2.2.2.1.symm, h.2.2.1.symm, h.2.2.2.2.symm⟩
structure Wd (K : PySem.W.Frag) (CA CT : Addr) (H : Hp) (ms : List Int) (d : Ad) (s : Stt) : Prop where
  m : SqT K H d.M (ms.map V.int)
  da : H d.da = some (.dK s.akv)
  dv : ∀ x ∈ ms, valV s.akv (Sum.inl x) = some (.ref (d.aa x))
  aat : ∀ x ∈ ms, AcAt K CA H (d.aa x) (s.pr x) (s.ac x)
  ainj : ∀ x ∈ ms, ∀ y ∈ ms, d.aa x = d.aa y → x = y
  dt : H d.dt = some (.dT (s.hs.map fun h => (ky h.g.B.1 h.g.B.2, V.ref h.a)))
  hat : ∀ h ∈ s.hs, HaAt K CT H d.M ms h
  hn : (s.hs.map adr).Pairwise Dj
  so : H d.so = some (.lst (s.gs.map fun g => V.ref g.1))
  gat : ∀ g ∈ s.gs, MsAt K H g.1 g.2
  vl : H d.vl = some (.lst (s.vs.map fun v => V.ref v.a))
  vat : ∀ v ∈ s.vs, VtAt K H v
  sv : d.so ≠ d.vl
  hsv : ∀ h ∈ s.hs, h.p ≠ d.so ∧ h.p ≠ d.vl ∧ h.v ≠ d.so ∧ h.v ≠ d.vl
/-- what holds of it -/
structure Ok (ms : List Int) (s : Stt) : Prop where
  iv : Iv ms s.pr s.ac s.vs (s.hs.map (·.g))
  mg : ∀ g ∈ s.gs, MgOk ms s.pr s.vs (s.hs.map (·.g)) g.2
  h6 : s.hs.length ≤ 6
theorem ne_of_obj {H : Hp} {a b : Addr} {o o' : HO} (h : H a = some o) (h' : H b = some o') (n : o ≠ o') : a ≠ b := fun z => by
  rw [z, h'] at h
  exact n (Option.some.inj h).symm
theorem Wd.same {CA CT : Addr} {H H' : Hp} {ms : List Int} {d : Ad} {s : Stt} (h : Wd K CA CT H ms d s) (e : Same H H') : Wd K CA CT H' ms d s := by
  have f : Fy K (fun _ => False) H H' := .same e
  exact ⟨f.tu.st.t _ _ h.m, e _ _ h.da, h.dv, fun x hx => (h.aat x hx).fy f id, h.ainj, e _ _ h.dt, fun x hx => (h.hat x hx).fy f id id id, h.hn, e _ _ h.so, fun x hx => (h.gat x hx).tu f.tu, e _ _ h.vl, fun x hx => (h.vat x hx).tu f.tu, h.sv, h.hsv⟩
/-- a list or what else is no part of it changes -/
theorem Wd.else_ {CA CT : Addr} {H H' : Hp} {ms : List Int} {d : Ad} {s : Stt} {b : Addr} (h : Wd K CA CT H ms d s) (f : Fy K (fun c => c = b) H H') (n1 : b ≠ d.so) (n2 : b ≠ d.vl) (n3 : ∀ h ∈ s.hs, b ≠ h.p ∧ b ≠ h.v ∧ b ≠ h.a) (n4 : b ≠ d.da) (n5 : b ≠ d.dt) (n6 : ∀ x ∈ ms, b ≠ d.aa x) : Wd K CA CT H' ms d s :=
  ⟨f.tu.st.t _ _ h.m, f.at_ _ _ h.da n4.symm, h.dv, fun x hx => (h.aat x hx).fy f (n6 x hx).symm, h.ainj, f.at_ _ _ h.dt n5.symm, fun x hx => (h.hat x hx).fy f (n3 x hx).2.2.symm (n3 x hx).1.symm (n3 x hx).2.1.symm, h.hn, f.at_ _ _ h.so n1.symm, fun x hx => (h.gat x hx).tu f.tu, f.at_ _ _ h.vl n2.symm, fun x hx => (h.vat x hx).tu f.tu, h.sv, h.hsv⟩
/-- the soup gets a message -/
theorem Wd.soup {CA CT : Addr} {H : Hp} {ms : List Int} {d : Ad} {s : Stt} (h : Wd K CA CT H ms d s) {a : Addr} {g : Mg} (hg : MsAt K H a g) :
    Wd K CA CT (upd H d.so (.lst ((s.gs.map fun g => V.ref g.1) ++ [.ref a]))) ms d { s with gs := s.gs ++ [(a, g)] } ∧ Fy K (fun c => c = d.so) H (upd H d.so (.lst ((s.gs.map fun g => V.ref g.1) ++ [.ref a]))) := by
  have f : Fy K (fun c => c = d.so) H (upd H d.so (.lst ((s.gs.map fun g => V.ref g.1) ++ [.ref a]))) := .list h.so (Xk.but_mut (Xk.But.refl _ _))
  have nda : d.da ≠ d.so := ne_of_obj h.da h.so (fun z => by cases z)
  have ndt : d.dt ≠ d.so := ne_of_obj h.dt h.so (fun z => by cases z)
  refine ⟨⟨f.tu.st.t _ _ h.m, f.at_ _ _ h.da nda, h.dv, fun x hx => (h.aat x hx).fy f ?_, h.ainj, f.at_ _ _ h.dt ndt, fun x hx => (h.hat x hx).fy f ?_ (h.hsv x hx).1 (h.hsv x hx).2.2.1, h.hn, ?_, fun x hx => ?_, f.at_ _ _ h.vl h.sv.symm, fun x hx => (h.vat x hx).tu f.tu, h.sv, h.hsv⟩, f⟩
  · obtain ⟨dx, p, v, h1, _⟩ := h.aat x hx
    exact ne_of_obj h1 h.so (fun z => by cases z)
  · exact ne_of_obj (h.hat x hx).at_.o h.so (fun z => by cases z)
  · show upd H d.so _ d.so = some (.lst ((s.gs ++ [(a, g)]).map fun g => V.ref g.1))
    rw [upd_same, List.map_append]
    rfl
  · rcases List.mem_append.mp hx with hx | hx
    · exact (h.gat x hx).tu f.tu
    · rw [List.mem_singleton.mp hx]
      exact hg.tu f.tu
/-- the votes get one more -/
theorem Wd.votes {CA CT : Addr} {H : Hp} {ms : List Int} {d : Ad} {s : Stt} (h : Wd K CA CT H ms d s) {v : Vt} (hv : VtAt K H v) :
    Wd K CA CT (upd H d.vl (.lst ((s.vs.map fun v => V.ref v.a) ++ [.ref v.a]))) ms d { s with vs := s.vs ++ [v] } ∧ Fy K (fun c => c = d.vl) H (upd H d.vl (.lst ((s.vs.map fun v => V.ref v.a) ++ [.ref v.a]))) := by
  have f : Fy K (fun c => c = d.vl) H (upd H d.vl (.lst ((s.vs.map fun v => V.ref v.a) ++ [.ref v.a]))) := .list h.vl (Xk.but_mut (Xk.But.refl _ _))
  have nda : d.da ≠ d.vl := ne_of_obj h.da h.vl (fun z => by cases z)
  have ndt : d.dt ≠ d.vl := ne_of_obj h.dt h.vl (fun z => by cases z)
  refine ⟨⟨f.tu.st.t _ _ h.m, f.at_ _ _ h.da nda, h.dv, fun x hx => (h.aat x hx).fy f ?_, h.ainj, f.at_ _ _ h.dt ndt, fun x hx => (h.hat x hx).fy f ?_ (h.hsv x hx).2.1 (h.hsv x hx).2.2.2, h.hn, f.at_ _ _ h.so h.sv, fun x hx => (h.gat x hx).tu f.tu, ?_, fun x hx => ?_, h.sv, h.hsv⟩, f⟩
  · obtain ⟨dx, p, v, h1, _⟩ := h.aat x hx
    exact ne_of_obj h1 h.vl (fun z => by cases z)
  · exact ne_of_obj (h.hat x hx).at_.o h.vl (fun z => by cases z)
  · show upd H d.vl _ d.vl = some (.lst ((s.vs ++ [v]).map fun v => V.ref v.a))
    rw [upd_same, List.map_append]
    rfl
  · rcases List.mem_append.mp hx with hx | hx
    · exact (h.vat x hx).tu f.tu
    · rw [List.mem_singleton.mp hx]
      exact hv.tu f.tu
/-- an acceptor changes -/
theorem Wd.acc {CA CT : Addr} {H H' : Hp} {ms : List Int} {d : Ad} {s : Stt} (h : Wd K CA CT H ms d s) {x : Int} (hx : x ∈ ms) (e : Xk.But (d.aa x) H H') {P : Int × Int} {acc : Acc} (ha : AcAt K CA H' (d.aa x) P acc) :
    Wd K CA CT H' ms d { s with pr := setP s.pr x P, ac := fun y => if y = x then acc else s.ac y } ∧ Fy K (fun c => c = d.aa x) H H' := by
  obtain ⟨dx, p, v, h1, _⟩ := h.aat x hx
  have f : Fy K (fun c => c = d.aa x) H H' := .ins h1 e
  have nda : d.da ≠ d.aa x := ne_of_obj h.da h1 (fun z => by cases z)
  have ndt : d.dt ≠ d.aa x := ne_of_obj h.dt h1 (fun z => by cases z)
  have nso : d.so ≠ d.aa x := ne_of_obj h.so h1 (fun z => by cases z)
  have nvl : d.vl ≠ d.aa x := ne_of_obj h.vl h1 (fun z => by cases z)
  refine ⟨⟨f.tu.st.t _ _ h.m, f.at_ _ _ h.da nda, h.dv, fun y hy => ?_, h.ainj, f.at_ _ _ h.dt ndt, fun y hy => (h.hat y hy).fy f ?_ ?_ ?_, h.hn, f.at_ _ _ h.so nso, fun y hy => (h.gat y hy).tu f.tu, f.at_ _ _ h.vl nvl, fun y hy => (h.vat y hy).tu f.tu, h.sv, h.hsv⟩, f⟩
  · show AcAt K CA H' (d.aa y) (setP s.pr x P y) (if y = x then acc else s.ac y)
    unfold setP
    by_cases c : y = x
    · subst c
      rw [if_pos rfl, if_pos rfl]
      exact ha
    · rw [if_neg c, if_neg c]
      exact (h.aat y hy).fy f fun z => c (h.ainj y hy x hx z)
  · refine ne_of_obj (h.hat y hy).at_.o h1 fun z => ?_
    injection z with _ _ z
    injection z with z _
    injection z with z _
    exact absurd z (by decide)
  · exact ne_of_obj (h.hat y hy).at_.hp h1 (fun z => by cases z)
  · exact ne_of_obj (h.hat y hy).at_.hv h1 (fun z => by cases z)
--CUT--
theorem set_at {α : Type} {l : List α} {i : Nat} {x b : α} (h : b ∈ l.set i x) : b = x ∨ ∃ j, i ≠ j ∧ l[j]? = some b := by
  obtain ⟨j, hj⟩ := List.mem_iff_getElem?.mp h
  by_cases c : i = j
  · subst c
    have l1 := Xk.at_lt hj
    rw [List.length_set] at l1
    rw [List.getElem?_set_self l1] at hj
    exact .inl (Option.some.inj hj).symm
  · rw [List.getElem?_set_ne c] at hj
    exact .inr ⟨j, c, hj⟩
theorem set_map {α β : Type} {l : List α} {f : α → β} {i : Nat} {x y : α} (h : l[i]? = some x) (e : f y = f x) : (l.set i y).map f = l.map f := by
  rw [List.map_set]
  refine List.ext_getElem? fun j => ?_
  by_cases c : i = j
  · subst c
    have l1 := Xk.at_lt h
    rw [List.getElem?_set_self (by rw [List.length_map]; exact l1), List.getElem?_map, h, e]
    rfl
  · rw [List.getElem?_set_ne c]
theorem dj_at {hs : List Ha} (h : (hs.map adr).Pairwise Dj) {i j : Nat} {a b : Ha} (hi : hs[i]? = some a) (hj : hs[j]? = some b) (n : i ≠ j) : Dj (adr a) (adr b) := by
  have li := Xk.at_lt hi
  have lj := Xk.at_lt hj
  obtain ⟨_, ei⟩ := List.getElem?_eq_some_iff.mp hi
  obtain ⟨_, ej⟩ := List.getElem?_eq_some_iff.mp hj
  have key := List.pairwise_iff_getElem.mp h
  rcases Nat.lt_or_ge i j with c | c
  · have z := key i j (by rw [List.length_map]; exact li) (by rw [List.length_map]; exact lj) c
    rw [List.getElem_map, List.getElem_map, ei, ej] at z
    exact z
  · have z := key j i (by rw [List.length_map]; exact lj) (by rw [List.length_map]; exact li) (by omega)
    rw [List.getElem_map, List.getElem_map, ei, ej] at z
    exact z.symm
/-- an attempt goes on -/
theorem Wd.att {CA CT : Addr} {H H' : Hp} {ms : List Int} {d : Ad} {s : Stt} (h : Wd K CA CT H ms d s) {i : Nat} {q : Ha} (hi : s.hs[i]? = some q) (e : B3 q.a q.p q.v H H') {g' : Ag} (eB : g'.B = q.g.B) (hq : HaAt K CT H' d.M ms { q with g := g' }) :
    Wd K CA CT H' ms d { s with hs := s.hs.set i { q with g := g' } } ∧ Fy K (fun c => c = q.a ∨ c = q.p ∨ c = q.v) H H' := by
  have hqm := List.mem_of_getElem? hi
  have g := h.hat q hqm
  have f := Fy.b3 (K := K) g.at_ e
  have nd : ∀ {c : Addr} {kvs : List (Key × V)}, H c = some (.dK kvs) → ¬ (c = q.a ∨ c = q.p ∨ c = q.v) := fun hc z => by
    rcases z with z | z | z
    · exact ne_of_obj hc g.at_.o (fun z => by cases z) z
    · exact ne_of_obj hc g.at_.hp (fun z => by cases z) z
    · exact ne_of_obj hc g.at_.hv (fun z => by cases z) z
  have ndT : ∀ {c : Addr} {kvs : List (List Key × V)}, H c = some (.dT kvs) → ¬ (c = q.a ∨ c = q.p ∨ c = q.v) := fun hc z => by
    rcases z with z | z | z
    · exact ne_of_obj hc g.at_.o (fun z => by cases z) z
    · exact ne_of_obj hc g.at_.hp (fun z => by cases z) z
    · exact ne_of_obj hc g.at_.hv (fun z => by cases z) z
  refine ⟨⟨f.tu.st.t _ _ h.m, f.at_ _ _ h.da (nd h.da), h.dv, fun x hx => (h.aat x hx).fy f ?_, h.ainj, ?_, fun x hx => ?_, ?_, f.at_ _ _ h.so ?_, fun x hx => (h.gat x hx).tu f.tu, f.at_ _ _ h.vl ?_, fun x hx => (h.vat x hx).tu f.tu, h.sv, fun x hx => ?_⟩, f⟩
  · obtain ⟨dx, p, v, h1, _⟩ := h.aat x hx
    rintro (z | z | z)
    · refine ne_of_obj g.at_.o h1 (fun z => ?_) z.symm
      injection z with _ _ z
      injection z with z _
      injection z with z _
      exact absurd z (by decide)
    · exact ne_of_obj h1 g.at_.hp (fun z => by cases z) z
    · exact ne_of_obj h1 g.at_.hv (fun z => by cases z) z
  · have z := set_map (f := fun h : Ha => (ky h.g.B.1 h.g.B.2, V.ref h.a)) (y := { q with g := g' }) hi (by dsimp only; rw [eB])
    show H' d.dt = some (.dT ((s.hs.set i { q with g := g' }).map _))
    rw [z]
    exact f.at_ _ _ h.dt (ndT h.dt)
  · rcases set_at hx with rfl | ⟨j, n, hj⟩
    · exact hq
    · obtain ⟨d1, d2, d3, d4, d5⟩ := dj_at h.hn hi hj n
      have gx := h.hat x (List.mem_of_getElem? hj)
      refine gx.fy f ?_ ?_ ?_
      · rintro (z | z | z)
        · exact d1 z.symm
        · exact ne_of_obj gx.at_.o g.at_.hp (fun z => by cases z) z
        · exact ne_of_obj gx.at_.o g.at_.hv (fun z => by cases z) z
      · rintro (z | z | z)
        · exact ne_of_obj gx.at_.hp g.at_.o (fun z => by cases z) z
        · exact d2 z.symm
        · exact d4 z.symm
      · rintro (z | z | z)
        · exact ne_of_obj gx.at_.hv g.at_.o (fun z => by cases z) z
        · exact d3 z.symm
        · exact d5 z.symm
  · have z := set_map (f := adr) (y := { q with g := g' }) hi rfl
    show ((s.hs.set i { q with g := g' }).map adr).Pairwise Dj
    rw [z]
    exact h.hn
  · rintro (z | z | z)
    · exact ne_of_obj h.so g.at_.o (fun z => by cases z) z
    · exact (h.hsv q hqm).1 z.symm
    · exact (h.hsv q hqm).2.2.1 z.symm
  · rintro (z | z | z)
    · exact ne_of_obj h.vl g.at_.o (fun z => by cases z) z
    · exact (h.hsv q hqm).2.1 z.symm
    · exact (h.hsv q hqm).2.2.2 z.symm
  · rcases set_at hx with rfl | ⟨j, _, hj⟩
    · exact h.hsv q hqm
    · exact h.hsv x (List.mem_of_getElem? hj)
/-- what the law owns -/
def Own (d : Ad) (ms : List Int) (s : Stt) (c : Addr) : Prop := c = d.da ∨ c = d.dt ∨ c = d.so ∨ c = d.vl ∨ (∃ x ∈ ms, c = d.aa x) ∨ ∃ h ∈ s.hs, c = h.a ∨ c = h.p ∨ c = h.v
structure Bq (H0 H : Hp) (d : Ad) (ms : List Int) (s : Stt) : Prop where
  sa : Same H0 H
  fr : ∀ c, Own d ms s c → H0 c = none
theorem Bq.go {H0 H H' : Hp} {d d' : Ad} {ms : List Int} {s s' : Stt} {p : Addr → Prop} (b : Bq H0 H d ms s) (f : Fy K p H H') (hp : ∀ c, p c → Own d ms s c) (ho : ∀ c, Own d' ms s' c → Own d ms s c ∨ H c = none) : Bq H0 H' d' ms s' :=
  ⟨fun c o h => f.at_ c o (b.sa c o h) fun z => (by
    rw [b.fr c (hp c z)] at h
    cases h), fun c hc => by
    rcases ho c hc with h | h
    · exact b.fr c h
    · exact Same.free b.sa h⟩
theorem Bq.same {H0 H H' : Hp} {d : Ad} {ms : List Int} {s : Stt} (b : Bq H0 H d ms s) (e : Same H H') : Bq H0 H' d ms s := ⟨b.sa.trans e, b.fr⟩
/-- all stands -/
theorem Wd.own {CA CT : Addr} {H : Hp} {ms : List Int} {d : Ad} {s : Stt} (h : Wd K CA CT H ms d s) {c : Addr} (o : Own d ms s c) : H c ≠ none := by
  have nn : ∀ {c : Addr} {o : HO}, H c = some o → H c ≠ none := fun e z => by
    rw [z] at e
    cases e
  rcases o with rfl | rfl | rfl | rfl | ⟨x, hx, rfl⟩ | ⟨q, hq, rfl | rfl | rfl⟩
  · exact nn h.da
  · exact nn h.dt
  · exact nn h.so
  · exact nn h.vl
  · obtain ⟨dx, p, v, h1, _⟩ := h.aat x hx
    exact nn h1
  · exact nn (h.hat q hq).at_.o
  · exact nn (h.hat q hq).at_.hp
  · exact nn (h.hat q hq).at_.hv
/-- a box is no part of it -/
theorem Wd.box {CA CT : Addr} {H H' : Hp} {ms : List Int} {d : Ad} {s : Stt} {b : Addr} (h : Wd K CA CT H ms d s) (f : Fy K (fun c => c = b) H H') (n : ¬ Own d ms s b) : Wd K CA CT H' ms d s :=
  h.else_ f (fun z => n (.inr (.inr (.inl z)))) (fun z => n (.inr (.inr (.inr (.inl z))))) (fun q hq => ⟨fun z => n (.inr (.inr (.inr (.inr (.inr ⟨q, hq, .inr (.inl z)⟩))))), fun z => n (.inr (.inr (.inr (.inr (.inr ⟨q, hq, .inr (.inr z)⟩))))), fun z => n (.inr (.inr (.inr (.inr (.inr ⟨q, hq, .inl z⟩)))))⟩) (fun z => n (.inl z)) (fun z => n (.inr (.inl z))) fun x hx z => n (.inr (.inr (.inr (.inr (.inl ⟨x, hx, z⟩)))))
def sp__law_told (K : PySem.W.Frag) (CA CT : Addr) : Sp := fun vs H Q _ => ∃ (ms : List Int) (d : Ad) (s : Stt) (x : Int) (b : Addr) (B : Int × Int), vs = [.ref d.da, .int x, .ref b] ∧ Wd K CA CT H ms d s ∧ x ∈ ms ∧ H b = some (.tup [.int B.1, .int B.2]) ∧
  ∀ H' t, Same H H' → MsAt K H' t (.prom B x (s.ac x)) → Q (.ref t) H'
theorem ok__law_told (T : Txt K mg) : FnOk P w K mg base CX0 1 T.f__law_told T.d__law_told ["acceptors", "member", "ballot"] (sp__law_told K T.C_Acceptor T.C_Attempt) := by
  refine T.F__law_told.ok sc__law_told (fun vs H Q E h => ?_) (fun cdv A outer s H vs Q E hr h => ?_)
  · obtain ⟨ms, d, s, x, b, B, rfl, _⟩ := h
    rfl
  obtain ⟨ms, d, s, x, b, B, rfl, g, hx, hb, q⟩ := h
  have c0 := T.Cls_Acceptor
  have c1 := T.A_Acceptor_accepted
  obtain ⟨dx, p, v, h1, h2, h3⟩ := g.aat x hx
  unfold AO at h1
  have j1 := g.da
  have j2 := g.dv x hx
  refine ⟨_, (pss_one (ps_ret (pe_tup (pa_cons (pe_str) (pa_cons (pv 2) (pa_cons (pv 1) (pa_cons (Xk.k_fld (K := K) (by rfl) (pe_dget (hu_of hr) (pv 0) (pv 1) (fun _ _ => rfl)) rfl) pa_nil))))))), ?_⟩
  wtm_at "x0"
  wtm_at "xs"
  refine ⟨d.da, _, rfl, (by rw [← j2]; exact (DGet.k (k := Sum.inl x) j1 : DGet H d.da (kV (Sum.inl x)) _)), ?_⟩
  wtm_at "xs"
  intro t H1 _ s1 ht
  have s1' : Tu K H H1 := .same s1
  exact q H1 t s1 ⟨b, v, Xk.st_of ht, s1 _ _ hb, h3.tu s1'⟩
theorem Wd.rdA {CA CT : Addr} {H : Hp} {ms : List Int} {d : Ad} {s : Stt} (h : Wd K CA CT H ms d s) {x : Int} (hx : x ∈ ms) {R : VK} (q : R (.ref (d.aa x)) H) : Xk.rDG (.ref d.da) R (.int x) H :=
  ⟨d.da, _, rfl, (by rw [← h.dv x hx]; exact (DGet.k (k := Sum.inl x) h.da : DGet H d.da (kV (Sum.inl x)) _)), q⟩
theorem keys_nd {hs : List Ha} (h : ((hs.map (·.g)).map (·.B)).Nodup) : ((hs.map fun h => (ky h.g.B.1 h.g.B.2, V.ref h.a)).map (·.1)).Nodup := by
  rw [List.map_map] at h ⊢
  refine List.Pairwise.map _ (fun a b n e => n ?_) (List.pairwise_map.mp h)
  obtain ⟨e1, e2⟩ := ky_inj e
  exact Prod.ext e1 e2
theorem Wd.rdT {CA CT : Addr} {H : Hp} {ms : List Int} {d : Ad} {s : Stt} (h : Wd K CA CT H ms d s) (ok : Ok ms s) {i : Nat} {q : Ha} (hi : s.hs[i]? = some q) {b : Addr} (hb : H b = some (.tup [.int q.g.B.1, .int q.g.B.2])) {R : VK} (r : R (.ref q.a) H) : Xk.rDG (.ref d.dt) R (.ref b) H := by
  have e : valV (s.hs.map fun h => (ky h.g.B.1 h.g.B.2, V.ref h.a)) (ky q.g.B.1 q.g.B.2) = some (V.ref q.a) := val_nodup (keys_nd ok.iv.nb) (ky q.g.B.1 q.g.B.2, V.ref q.a) (List.mem_map.mpr ⟨q, List.mem_of_getElem? hi, rfl⟩)
  refine ⟨d.dt, _, rfl, ?_, r⟩
  rw [← e]
  exact DGet.t h.dt hb
theorem find_at {hs : List Ha} {B : Int × Int} (h : ∃ a ∈ hs.map (·.g), a.B = B) : ∃ (i : Nat) (q : Ha), hs[i]? = some q ∧ q.g.B = B := by
  obtain ⟨a, h1, h2⟩ := h
  obtain ⟨q, h3, rfl⟩ := List.mem_map.mp h1
  obtain ⟨i, hi⟩ := List.mem_iff_getElem?.mp h3
  exact ⟨i, q, hi, h2⟩
theorem acc_oc {H : Hp} {v : V} {acc : Acc} (h : AccV K H v acc) : ∃ oc, v = bdV oc ∧ BdOk K H oc ∧ BdK K H oc acc := by
  cases acc with
  | none => exact ⟨none, h, trivial, trivial⟩
  | some p =>
    obtain ⟨t, b, e, h1, h2, h3, h4⟩ := h
    exact ⟨some (t, b, e, p.1.1, p.1.2), h1, ⟨h2, Xk.st_of h3, _, h4.mono (by decide)⟩, rfl, h3, h4⟩
theorem bind_k {H : Hp} {bd oc : Option (Addr × Addr × V × Int × Int)} {bk acc : Acc} (h1 : BdK K H bd bk) (h2 : BdK K H oc acc) : BdK K H (bind bd oc) (bindk bk acc) := by
  match oc, acc, h2 with
  | none, none, _ => exact h1
  | some (t, b, e, r, i), some p, h2 =>
    match bd, bk, h1 with
    | none, none, _ => exact h2
    | some (t', b', e', r', i'), some q, h1 =>
      unfold bind bindk
      dsimp only
      have e1 : q.1 = (r', i') := h1.1
      have e2 : p.1 = (r, i) := h2.1
      by_cases c : Xk.Bf r' i' r i
      · rw [if_pos c, if_pos (show l2 q.1 p.1 by rw [e1, e2]; exact c)]
        exact h2
      · rw [if_neg c, if_neg (show ¬ l2 q.1 p.1 by rw [e1, e2]; exact c)]
        exact h1
theorem en_k {H : Hp} {bd : Option (Addr × Addr × V × Int × Int)} {bk : Acc} {en : V} {k : En} (h1 : BdK K H bd bk) (h2 : Xk.Pk K H 4 en (ent k)) : Xk.Pk K H 4 (enOf en bd) (ent (enk k bk)) := by
  match bd, bk, h1 with
  | none, none, _ => exact h2
  | some (t, b, e, r, i), some p, h1 => exact h1.2.2
theorem mem_g {hs : List Ha} {i : Nat} {q : Ha} (h : hs[i]? = some q) : q.g ∈ hs.map (·.g) := List.mem_map_of_mem (List.mem_of_getElem? h)
theorem set_g {hs : List Ha} {i : Nat} {q : Ha} {g' : Ag} : (hs.set i { q with g := g' }).map (·.g) = (hs.map (·.g)).set i g' := by
  rw [List.map_set]
theorem at_g {hs : List Ha} {i : Nat} {q : Ha} (h : hs[i]? = some q) : (hs.map (·.g))[i]? = some q.g := by
  rw [List.getElem?_map, h]
  rfl
def sp__law_event (K : PySem.W.Frag) (CA CT : Addr) : Sp := fun vs H Q _ => ∃ (H0 : Hp) (ms : List Int) (d : Ad) (s : Stt) (a : Addr) (g : Mg), vs = [.ref a, .ref d.da, .ref d.dt, .ref d.so, .ref d.vl] ∧ Wd K CA CT H ms d s ∧ Bq H0 H d ms s ∧ Ok ms s ∧ MsAt K H a g ∧ MgOk ms s.pr s.vs (s.hs.map (·.g)) g ∧ ms.Nodup ∧ ms.length ≤ 10 ∧ s.gs.length ≤ 1000 ∧ s.vs.length ≤ 95 ∧
  ∀ H' s', Wd K CA CT H' ms d s' → Bq H0 H' d ms s' → Ok ms s' → s'.gs.length ≤ s.gs.length + 10 → s'.vs.length ≤ s.vs.length + 1 → s'.akv = s.akv → Q .non H'
theorem ok__law_event (T : Txt K mg) : FnOk P w K mg base CX0 3 T.f__law_event T.d__law_event ["message", "acceptors", "attempts", "soup", "votes"] (sp__law_event K T.C_Acceptor T.C_Attempt) := by
  refine T.F__law_event.ok sc__law_event (fun vs H Q E h => ?_) (fun cdv A outer s H vs Q E hr h => ?_)
  · obtain ⟨H0, ms, d, s, a, g, rfl, _⟩ := h
    rfl
  obtain ⟨H0, ms, d, s, a, g, rfl, w0, b0, ok, hg, hok, hnd, hml, hgl, hvl, q⟩ := h
  have c0 := T.Cls_Acceptor
  have c1 := T.A_Acceptor_accepted
  have c2 := T.Cls_Attempt
  have c3 := T.A_Attempt_members
  have c4 := T.A_Attempt_entry
  have j1 := w0.da
  have j3 := w0.dt
  refine ⟨_, (pss_cons (ps_set (i := 5) sc__law_event.nd rfl (Or.inl rfl) (pe_ix (Xk.k_ixT (K := K) (by rfl)) (pv 0) (pe_int) (fun _ _ => rfl)))
      (pss_one (ps_if (PW.pt (pw_and (pt_cmpR op_eq (pv 5) (pe_str) (nomark _)) (pw_and1 (pt_val (pe_meth (pe_dget (hu_of hr) (pv 1) (pe_ix (Xk.k_ixT (K := K) (by rfl)) (pv 0) (pe_int) (fun _ _ => rfl)) (fun _ _ => rfl)) T.Cls_Acceptor T.M_Acceptor_hears (ok_Acceptor_hears T) (hr.mono (by decide)) T.b_Acceptor_hears .nil pass0 (pa_cons (pe_ix (Xk.k_ixT (K := K) (by rfl)) (pv 0) (pe_int) (fun _ _ => rfl)) pa_nil)))))) (pss_cons (ps_expr (pe_meth (pe_dget (hu_of hr) (pv 1) (pe_ix (Xk.k_ixT (K := K) (by rfl)) (pv 0) (pe_int) (fun _ _ => rfl)) (fun _ _ => rfl)) T.Cls_Acceptor T.M_Acceptor_promise (ok_Acceptor_promise T) (hr.mono (by decide)) T.b_Acceptor_promise .nil pass0 (pa_cons (pe_ix (Xk.k_ixT (K := K) (by rfl)) (pv 0) (pe_int) (fun _ _ => rfl)) pa_nil)))
      (pss_one (ps_expr (pe_bm PySem.F.plainAttrs_list PySem.F.slot_list_append PySem.F.type_list_append mt_append (pv 3) (pa_cons (pe_call (ok__law_told T) (hr.mono (by decide)) (by rfl) T.g__law_told T.F__law_told.kp T.b__law_told .nil pass0 (pa_cons (pv 1) (pa_cons (pe_ix (Xk.k_ixT (K := K) (by rfl)) (pv 0) (pe_int) (fun _ _ => rfl)) (pa_cons (pe_ix (Xk.k_ixT (K := K) (by rfl)) (pv 0) (pe_int) (fun _ _ => rfl)) pa_nil)))) pa_nil))))) (pss_one (ps_if (pt_cmpR op_eq (pv 5) (pe_str) (nomark _)) (pss_cons (ps_set (i := 6) sc__law_event.nd rfl (Or.inl rfl) (pe_dget (hu_of hr) (pv 2) (pe_ix (Xk.k_ixT (K := K) (by rfl)) (pv 0) (pe_int) (fun _ _ => rfl)) (fun _ _ => rfl)))
      (pss_one (ps_if (pt_val (pe_meth (pv 6) T.Cls_Attempt T.M_Attempt_hear_promise (ok_Attempt_hear_promise T) (hr.mono (by decide)) T.b_Attempt_hear_promise .nil pass0 (pa_cons (pe_ix (Xk.k_ixT (K := K) (by rfl)) (pv 0) (pe_int) (fun _ _ => rfl)) (pa_cons (pe_ix (Xk.k_ixT (K := K) (by rfl)) (pv 0) (pe_int) (fun _ _ => rfl)) pa_nil)))) (pss_one (ps_for PassesOwn.never rfl (pi_tup (Xk.k_fld (K := K) (by rfl) (pv 6) rfl)) (pg_name (i := 7) sc__law_event.nd rfl (Or.inl rfl)) (pss_one (ps_expr (pe_bm PySem.F.plainAttrs_list PySem.F.slot_list_append PySem.F.type_list_append mt_append (pv 3) (pa_cons (pe_tup (pa_cons (pe_str) (pa_cons (pv 7) (pa_cons (pe_ix (Xk.k_ixT (K := K) (by rfl)) (pv 0) (pe_int) (fun _ _ => rfl)) (pa_cons (Xk.k_fld (K := K) (by rfl) (pv 6) rfl) pa_nil))))) pa_nil)))))) pss_nil))) (pss_one (ps_if (PW.pt (pw_and (pt_cmpR op_eq (pv 5) (pe_str) (nomark _)) (pw_and1 (pt_val (pe_meth (pe_dget (hu_of hr) (pv 1) (pe_ix (Xk.k_ixT (K := K) (by rfl)) (pv 0) (pe_int) (fun _ _ => rfl)) (fun _ _ => rfl)) T.Cls_Acceptor T.M_Acceptor_hears (ok_Acceptor_hears T) (hr.mono (by decide)) T.b_Acceptor_hears .nil pass0 (pa_cons (pe_ix (Xk.k_ixT (K := K) (by rfl)) (pv 0) (pe_int) (fun _ _ => rfl)) pa_nil)))))) (pss_cons (ps_expr (pe_meth (pe_dget (hu_of hr) (pv 1) (pe_ix (Xk.k_ixT (K := K) (by rfl)) (pv 0) (pe_int) (fun _ _ => rfl)) (fun _ _ => rfl)) T.Cls_Acceptor T.M_Acceptor_accept (ok_Acceptor_accept T) (hr.mono (by decide)) T.b_Acceptor_accept .nil pass0 (pa_cons (pe_ix (Xk.k_ixT (K := K) (by rfl)) (pv 0) (pe_int) (fun _ _ => rfl)) (pa_cons (pe_ix (Xk.k_ixT (K := K) (by rfl)) (pv 0) (pe_int) (fun _ _ => rfl)) pa_nil))))
      (pss_cons (ps_expr (pe_bm PySem.F.plainAttrs_list PySem.F.slot_list_append PySem.F.type_list_append mt_append (pv 4) (pa_cons (pe_tup (pa_cons (pe_ix (Xk.k_ixT (K := K) (by rfl)) (pv 0) (pe_int) (fun _ _ => rfl)) (pa_cons (pe_ix (Xk.k_ixT (K := K) (by rfl)) (pv 0) (pe_int) (fun _ _ => rfl)) (pa_cons (pe_ix (Xk.k_ixT (K := K) (by rfl)) (pv 0) (pe_int) (fun _ _ => rfl)) pa_nil)))) pa_nil)))
      (pss_one (ps_expr (pe_bm PySem.F.plainAttrs_list PySem.F.slot_list_append PySem.F.type_list_append mt_append (pv 3) (pa_cons (pe_tup (pa_cons (pe_str) (pa_cons (pe_ix (Xk.k_ixT (K := K) (by rfl)) (pv 0) (pe_int) (fun _ _ => rfl)) (pa_cons (pe_ix (Xk.k_ixT (K := K) (by rfl)) (pv 0) (pe_int) (fun _ _ => rfl)) pa_nil)))) pa_nil)))))) (pss_one (ps_if (pt_cmpR op_eq (pv 5) (pe_str) (nomark _)) (pss_one (ps_expr (pe_meth (pe_dget (hu_of hr) (pv 2) (pe_ix (Xk.k_ixT (K := K) (by rfl)) (pv 0) (pe_int) (fun _ _ => rfl)) (fun _ _ => rfl)) T.Cls_Attempt T.M_Attempt_hear_vote (ok_Attempt_hear_vote T) (hr.mono (by decide)) T.b_Attempt_hear_vote .nil pass0 (pa_cons (pe_ix (Xk.k_ixT (K := K) (by rfl)) (pv 0) (pe_int) (fun _ _ => rfl)) pa_nil)))) pss_nil))))))))), ?_⟩
  wtm_at "x0"
  cases g with
  | ask m B =>
    obtain ⟨b, h1, h2⟩ := hg
    have j2 := w0.dv m hok.1
    obtain ⟨dx, p, v, k1, k2, k3⟩ := w0.aat m hok.1
    unfold AO at k1
    wtm_at "xs"
    refine w0.rdA hok.1 ?_
    wtm_at "xs"
    refine ⟨d.aa m, dx, p, v, b, _, _, _, _, rfl, k1, k2, Xk.st_of h2, ?_⟩
    wtm_at "xs"
    refine Xk.x_itn (fun c => ?_) (fun c => ?_)
    · have c' : ¬ l2 B (s.pr m) := c
      wtm_at "xs"
      refine w0.rdA hok.1 ?_
      wtm_at "xs"
      refine ⟨d.aa m, dx, _, v, _, rfl, k1, fun H1 e1 k1' => ?_⟩
      have tu1 : Tu K H H1 := (Fy.ins (K := K) k1 e1).tu
      obtain ⟨w1, f1⟩ := w0.acc hok.1 e1 (P := B) (acc := s.ac m) ⟨dx, b, v, k1', Xk.st_of (tu1.tp _ _ h2), k3.tu tu1⟩
      have eac : (fun y => if y = m then s.ac m else s.ac y) = s.ac := funext fun y => by
        split
        · rename_i z
          rw [z]
        · rfl
      rw [eac] at w1
      have b1 : Bq H0 H1 d ms { s with pr := setP s.pr m B } := b0.go f1 (fun c z => .inr (.inr (.inr (.inr (.inl ⟨m, hok.1, z⟩))))) fun c z => .inl z
      have rise := setP_rise c'
      have h1' := tu1.st.t _ _ h1
      have h2' := tu1.tp _ _ h2
      have so1 := w1.so
      simp only at so1
      wtm_at "xs"
      refine ⟨ms, d, _, m, b, B, rfl, w1, hok.1, h2', fun H2 t e2 ht => ?_⟩
      have w2 := w1.same e2
      have so2 := w2.so
      simp only at so2
      wtm_at "xs"
      obtain ⟨w3, f3⟩ := w2.soup ht
      refine q _ _ w3 ((b1.same e2).go f3 (fun c z => .inr (.inr (.inl z))) fun c z => .inl z) ⟨ok.iv.rise rise, fun x hx => ?_, ok.h6⟩ ?_ (Nat.le_succ _) rfl
      · rcases List.mem_append.mp hx with hx | hx
        · exact (ok.mg x hx).rise rise
        · rw [List.mem_singleton.mp hx]
          exact ⟨hok.1, hok.2, ok.iv.told c'⟩
      · show (s.gs ++ [(t, _)]).length ≤ s.gs.length + 10
        rw [List.length_append]
        simp only [List.length_cons, List.length_nil]
        omega
    · wtm_at "xs"
      exact q H s w0 b0 ok (by omega) (by omega) rfl
  | prom B m acc =>
    obtain ⟨b, v, h1, h2, h3⟩ := hg
    wtm_at "xs"
    obtain ⟨hmm, hex, hpf⟩ := hok
    obtain ⟨i, qa, hi, rfl⟩ := find_at hex
    have hqm := List.mem_of_getElem? hi
    have hq := w0.hat qa hqm
    have o1 := hq.at_.o
    obtain ⟨oc, rfl, oc1, oc2⟩ := acc_oc h3
    refine w0.rdT ok hi h2 ?_
    wtm_at "xs"
    refine ⟨qa.a, qa.dx, qa.b0, d.M, qa.p, qa.v, qa.g.S, ms, m, oc, rfl, hq.at_, w0.m, hnd, hml, hq.ok, oc1, fun H1 e1 g1 => ?_⟩
    have f0 := Fy.b3 (K := K) hq.at_ e1
    obtain ⟨k', go, kT, kF⟩ := ok.iv.heard hnd (mem_g hi) hpf (oc := oc)
    have hq1 := hq.bd.tu f0.tu
    have hq2 := hq.en.st f0.tu.st
    have hoc := oc2.tu f0.tu
    have hbb := bind_k hq1 hoc
    have hen : Xk.Pk K H1 4 (prom ms qa.g.S m oc).1.en (ent k') := by
      cases e : (prom ms qa.g.S m oc).2 with
      | true =>
        rw [kT e]
        unfold prom at e ⊢
        split
        · rename_i c
          rw [if_pos c] at e
          dsimp only at e ⊢
          split
          · exact en_k hbb hq2
          · rename_i c2
            rw [if_neg c2] at e
            cases e
        · rename_i c
          rw [if_neg c] at e
          cases e
      | false =>
        rw [kF e]
        unfold prom at e ⊢
        split
        · rename_i c
          rw [if_pos c] at e
          dsimp only at e ⊢
          split
          · rename_i c2
            rw [if_pos c2] at e
            cases e
          · exact hq2
        · exact hq2
    have hbd : BdK K H1 (prom ms qa.g.S m oc).1.bd (if qa.g.S.st = "asking" ∧ m ∈ ms ∧ ¬ m ∈ qa.g.S.pr then bindk qa.g.bk acc else qa.g.bk) := by
      unfold prom
      split
      · dsimp only
        split
        · exact hbb
        · exact hbb
      · exact hq1
    have tst : (prom ms qa.g.S m oc).2 = true → (prom ms qa.g.S m oc).1.st ≠ "asking" := fun e => by
      unfold prom at e ⊢
      split
      · rename_i c
        rw [if_pos c] at e
        dsimp only at e ⊢
        split
        · show ¬ ("telling" : Str) = "asking"
          decide
        · rename_i c2
          rw [if_neg c2] at e
          cases e
      · rename_i c
        rw [if_neg c] at e
        cases e
    obtain ⟨w1, f1⟩ := w0.att hi e1 (g' := ⟨qa.g.B, (prom ms qa.g.S m oc).1, k', if qa.g.S.st = "asking" ∧ m ∈ ms ∧ ¬ m ∈ qa.g.S.pr then bindk qa.g.bk acc else qa.g.bk⟩) rfl ⟨g1, f0.tu.tp _ _ hq.bl, prom_ok (hq.ok.keep f0.tu.st) (oc1.st f0.tu.st), hen, hbd, hq.rg⟩
    have b1 := b0.go f1 (fun c z => .inr (.inr (.inr (.inr (.inr ⟨qa, hqm, z⟩))))) (s' := { s with hs := s.hs.set i { qa with g := ⟨qa.g.B, (prom ms qa.g.S m oc).1, k', if qa.g.S.st = "asking" ∧ m ∈ ms ∧ ¬ m ∈ qa.g.S.pr then bindk qa.g.bk acc else qa.g.bk⟩ } }) (d' := d) fun c z => .inl (by
      rcases z with z | z | z | z | z | ⟨h, hh, z⟩
      · exact .inl z
      · exact .inr (.inl z)
      · exact .inr (.inr (.inl z))
      · exact .inr (.inr (.inr (.inl z)))
      · exact .inr (.inr (.inr (.inr (.inl z))))
      · rcases set_at hh with rfl | ⟨j, _, hj⟩
        · exact .inr (.inr (.inr (.inr (.inr ⟨qa, hqm, z⟩))))
        · exact .inr (.inr (.inr (.inr (.inr ⟨h, List.mem_of_getElem? hj, z⟩)))))
    have ok1 : Ok ms { s with hs := s.hs.set i { qa with g := ⟨qa.g.B, (prom ms qa.g.S m oc).1, k', if qa.g.S.st = "asking" ∧ m ∈ ms ∧ ¬ m ∈ qa.g.S.pr then bindk qa.g.bk acc else qa.g.bk⟩ } } := by
      refine ⟨?_, fun x hx => ?_, ?_⟩
      · show Iv ms s.pr s.ac s.vs ((s.hs.set i _).map (·.g))
        rw [set_g]
        exact ok.iv.goes (at_g hi) go
      · show MgOk ms s.pr s.vs ((s.hs.set i _).map (·.g)) x.2
        rw [set_g]
        exact (ok.mg x hx).goes (at_g hi) go
      · show (s.hs.set i _).length ≤ 6
        rw [List.length_set]
        exact ok.h6
    have him : { qa with g := ⟨qa.g.B, (prom ms qa.g.S m oc).1, k', if qa.g.S.st = "asking" ∧ m ∈ ms ∧ ¬ m ∈ qa.g.S.pr then bindk qa.g.bk acc else qa.g.bk⟩ } ∈ s.hs.set i { qa with g := ⟨qa.g.B, (prom ms qa.g.S m oc).1, k', if qa.g.S.st = "asking" ∧ m ∈ ms ∧ ¬ m ∈ qa.g.S.pr then bindk qa.g.bk acc else qa.g.bk⟩ } :=
      List.mem_of_getElem? (i := i) (by rw [List.getElem?_set_self (Xk.at_lt hi)])
    have h1a := f0.tu.st.t _ _ h1
    have h2a := f0.tu.tp _ _ h2
    clear hbb hq1 hq2 hoc hbd f0 go e1 hen
    generalize hst : ({ s with hs := s.hs.set i { qa with g := ⟨qa.g.B, (prom ms qa.g.S m oc).1, k', if qa.g.S.st = "asking" ∧ m ∈ ms ∧ ¬ m ∈ qa.g.S.pr then bindk qa.g.bk acc else qa.g.bk⟩ } } : Stt) = s1 at *
    have l1 : s1.gs.length = s.gs.length := by
      rw [← hst]
    have l2' : s1.vs.length = s.vs.length := by
      rw [← hst]
    cases e : (prom ms qa.g.S m oc).2 with
    | false =>
      wtm_at "xs"
      exact q H1 s1 w1 b1 ok1 (by omega) (by omega) (by rw [← hst])
    | true =>
      have og := g1.o
      obtain ⟨q2, x1, x2, x3, x4, x5⟩ : ∃ q2 ∈ s1.hs, q2.a = qa.a ∧ q2.g.B = qa.g.B ∧ q2.g.S.st ≠ "asking" ∧ q2.g.k = k' := ⟨{ qa with g := ⟨qa.g.B, (prom ms qa.g.S m oc).1, k', if qa.g.S.st = "asking" ∧ m ∈ ms ∧ ¬ m ∈ qa.g.S.pr then bindk qa.g.bk acc else qa.g.bk⟩ }, by rw [← hst]; exact him, rfl, rfl, tst e, rfl⟩
      have hm1 := w1.m
      wtm_at "xs"
      refine Xk.x_forT (xs := ms.map V.int) (fun j σ' H' => ∃ (y7 : Option V) (gs' : List (Addr × Mg)), σ' = [some (.ref a), some (.ref d.da), some (.ref d.dt), some (.ref d.so), some (.ref d.vl), some (.str (Str.ofString "promise")), some (.ref qa.a), y7] ∧ Wd K T.C_Acceptor T.C_Attempt H' ms d { s1 with gs := gs' } ∧ Bq H0 H' d ms { s1 with gs := gs' } ∧ Ok ms { s1 with gs := gs' } ∧ gs'.length = s1.gs.length + j ∧ SqT K H' a [.str "promise", .ref b, .int m, bdV oc] ∧ H' b = some (.tup [.int qa.g.B.1, .int qa.g.B.2])) hm1
        ⟨_, s1.gs, rfl, w1, b1, ok1, rfl, h1a, h2a⟩ (fun j σ' H' _ ⟨_, _, _, w, _⟩ => w.m) ?_ ?_
      · rintro j y σ' H2 hj ⟨y7, gs', rfl, w2, b2, ok2, hgl2, h1b, h2b⟩
        obtain ⟨x, hxj, rfl⟩ := Xk.of_map_at hj
        have hjl := Xk.at_lt hxj
        have hq2 := w2.hat q2 x1
        have o2 := hq2.at_.o
        rw [x2] at o2
        have so2 := w2.so
        simp only at so2
        wtm_at "xs"
        intro t H3 ht s3 ht3
        have w3 := w2.same s3
        have so3 := w3.so
        simp only at so3
        wtm_at "xs"
        have en3 : Xk.Pk K H3 4 q2.g.S.en (ent k') := by
          rw [← x5]
          exact hq2.en.same s3
        obtain ⟨w4, f4⟩ := w3.soup (a := t) (g := .tell x qa.g.B k') ⟨b, _, Xk.st_of ht3, s3 _ _ h2b, en3⟩
        have tu3 : Tu K H2 H3 := .same s3
        refine ⟨_, gs' ++ [(t, .tell x qa.g.B k')], rfl, w4, (b2.same s3).go f4 (fun c z => .inr (.inr (.inl z))) fun c z => .inl z, ⟨ok2.iv, fun z hz => ?_, ok2.h6⟩, by rw [List.length_append, hgl2]; rfl, (tu3.trans f4.tu).st.t _ _ h1b, (tu3.trans f4.tu).tp _ _ h2b⟩
        rcases List.mem_append.mp hz with hz | hz
        · exact ok2.mg z hz
        · rw [List.mem_singleton.mp hz]
          exact ⟨List.mem_of_getElem? hxj, q2.g, List.mem_map_of_mem x1, x3, x4, x5⟩
      · rintro σ' H2 ⟨y7, gs', rfl, w2, b2, ok2, hgl2, h1b, h2b⟩
        rw [List.length_map] at hgl2
        wtm_at "xs"
        exact q H2 _ w2 b2 ok2 (by show gs'.length ≤ _; omega) (by show s1.vs.length ≤ _; omega) (by show s1.akv = _; rw [← hst])
  | tell m B k =>
    obtain ⟨b, e, h1, h2, h3⟩ := hg
    obtain ⟨hmm, a', ha1, ha2, ha3, ha4⟩ := hok
    obtain ⟨dx, p, v, k1, k2, k3⟩ := w0.aat m hmm
    unfold AO at k1
    wtm_at "xs"
    refine w0.rdA hmm ?_
    wtm_at "xs"
    refine ⟨d.aa m, dx, p, v, b, _, _, _, _, rfl, k1, k2, Xk.st_of h2, ?_⟩
    wtm_at "xs"
    refine Xk.x_itn (fun c => ?_) (fun c => ?_)
    · have c' : ¬ l2 B (s.pr m) := c
      wtm_at "xs"
      refine w0.rdA hmm ?_
      wtm_at "xs"
      refine ⟨d.aa m, dx, _, v, _, _, rfl, k1, fun H1 t _ e1 ht k1' => ?_⟩
      have tu1 : Tu K H H1 := (Fy.ins (K := K) k1 e1).tu
      obtain ⟨w1, f1⟩ := w0.acc hmm e1 (P := B) (acc := some (B, k)) ⟨dx, b, .ref t, k1', Xk.st_of (tu1.tp _ _ h2), t, b, e, rfl, Xk.st_of ht, tu1.tp _ _ h2, h3.st tu1.st⟩
      have b1 : Bq H0 H1 d ms { s with pr := setP s.pr m B, ac := fun y => if y = m then some (B, k) else s.ac y } := b0.go f1 (fun c z => .inr (.inr (.inr (.inr (.inl ⟨m, hmm, z⟩))))) fun c z => .inl z
      have h1' := tu1.st.t _ _ h1
      have h2' := tu1.tp _ _ h2
      have h3' := h3.st tu1.st
      have vl1 := w1.vl
      simp only at vl1
      wtm_at "xs"
      intro q1 H2 hq1 s2 hq2
      have w2 := w1.same s2
      have vl2 := w2.vl
      simp only at vl2
      have tu2 : Tu K H1 H2 := .same s2
      wtm_at "xs"
      obtain ⟨w3, f3⟩ := w2.votes (v := ⟨q1, b, m, B.1, B.2, e, k⟩) ⟨Xk.st_of hq2, tu2.tp _ _ h2', h3'.st tu2.st, trivial⟩
      have b3 := (b1.same s2).go f3 (s' := { s with pr := setP s.pr m B, ac := fun y => if y = m then some (B, k) else s.ac y, vs := s.vs ++ [⟨q1, b, m, B.1, B.2, e, k⟩] }) (d' := d) (fun c z => .inr (.inr (.inr (.inl z)))) fun c z => .inl z
      have h1'' := (tu2.trans f3.tu).st.t _ _ h1'
      have h2'' := (tu2.trans f3.tu).tp _ _ h2'
      have so3 := w3.so
      simp only at so3
      wtm_at "xs"
      intro q2 H4 hq3 s4 hq4
      have w4 := w3.same s4
      have so4 := w4.so
      simp only at so4
      have tu4 : Tu K _ H4 := .same s4
      wtm_at "xs"
      obtain ⟨w5, f5⟩ := w4.soup (a := q2) (g := .vote B m) ⟨b, Xk.st_of hq4, tu4.tp _ _ h2''⟩
      refine q _ _ w5 ((b3.same s4).go f5 (fun c z => .inr (.inr (.inl z))) fun c z => .inl z) ⟨ok.iv.vote (v := ⟨q1, b, m, B.1, B.2, e, k⟩) hmm c' ha1 ha2 ha3 ha4, fun x hx => ?_, ok.h6⟩ ?_ ?_ rfl
      · rcases List.mem_append.mp hx with hx | hx
        · exact (ok.mg x hx).voted (v := ⟨q1, b, m, B.1, B.2, e, k⟩) c'
        · rw [List.mem_singleton.mp hx]
          exact ⟨⟨a', ha1, ha2⟩, _, List.mem_append_right _ (List.mem_singleton.mpr rfl), rfl, rfl⟩
      · show (s.gs ++ [_]).length ≤ s.gs.length + 10
        rw [List.length_append]
        simp only [List.length_cons, List.length_nil]
        omega
      · show (s.vs ++ [_]).length ≤ s.vs.length + 1
        rw [List.length_append]
        exact Nat.le_refl _
    · wtm_at "xs"
      exact q H s w0 b0 ok (by omega) (by omega) rfl
  | vote B m =>
    obtain ⟨b, h1, h2⟩ := hg
    wtm_at "xs"
    obtain ⟨i, qa, hi, rfl⟩ := find_at hok.1
    have hqm := List.mem_of_getElem? hi
    have hq := w0.hat qa hqm
    have o1 := hq.at_.o
    refine w0.rdT ok hi h2 ?_
    wtm_at "xs"
    refine ⟨qa.a, qa.dx, qa.b0, d.M, qa.p, qa.v, qa.g.S, ms, m, rfl, hq.at_, w0.m, hnd, hml, hq.ok, fun H1 e1 g1 => ?_⟩
    have f0 := Fy.b3 (K := K) hq.at_ e1
    have go := ok.iv.counted (mem_g hi) (m := m) hok.2
    have hen : Xk.Pk K H1 4 (voted ms qa.g.S m).1.en (ent qa.g.k) := by
      have z := hq.en.st f0.tu.st
      unfold voted
      split
      · dsimp only
        split
        · exact z
        · exact z
      · exact z
    have hbd : BdK K H1 (voted ms qa.g.S m).1.bd qa.g.bk := by
      have z := hq.bd.tu f0.tu
      unfold voted
      split
      · dsimp only
        split
        · exact z
        · exact z
      · exact z
    obtain ⟨w1, f1⟩ := w0.att hi e1 (g' := ⟨qa.g.B, (voted ms qa.g.S m).1, qa.g.k, qa.g.bk⟩) rfl ⟨g1, f0.tu.tp _ _ hq.bl, voted_ok (hq.ok.keep f0.tu.st), hen, hbd, hq.rg⟩
    refine q H1 _ w1 (b0.go f1 (fun c z => .inr (.inr (.inr (.inr (.inr ⟨qa, hqm, z⟩))))) fun c z => .inl ?_) ⟨?_, fun x hx => ?_, ?_⟩ (by show s.gs.length ≤ _; omega) (by show s.vs.length ≤ _; omega) rfl
    · rcases z with z | z | z | z | z | ⟨h, hh, z⟩
      · exact .inl z
      · exact .inr (.inl z)
      · exact .inr (.inr (.inl z))
      · exact .inr (.inr (.inr (.inl z)))
      · exact .inr (.inr (.inr (.inr (.inl z))))
      · rcases set_at hh with rfl | ⟨j, _, hj⟩
        · exact .inr (.inr (.inr (.inr (.inr ⟨qa, hqm, z⟩))))
        · exact .inr (.inr (.inr (.inr (.inr ⟨h, List.mem_of_getElem? hj, z⟩))))
    · show Iv ms s.pr s.ac s.vs ((s.hs.set i _).map (·.g))
      rw [set_g]
      exact ok.iv.goes (at_g hi) go
    · show MgOk ms s.pr s.vs ((s.hs.set i _).map (·.g)) x.2
      rw [set_g]
      exact (ok.mg x hx).goes (at_g hi) go
    · show (s.hs.set i _).length ≤ 6
      rw [List.length_set]
      exact ok.h6
--CUT--
theorem Wd.begin_ {CA CT : Addr} {H H2 : Hp} {ms : List Int} {d : Ad} {s : Stt} (h : Wd K CA CT H ms d s) (e : Same H H2) {q : Ha} (hx : Xk.Fr q.a H) (hp : Xk.Fr q.p H) (hv : Xk.Fr q.v H) (hq : HaAt K CT H2 d.M ms q) (hn : valV (s.hs.map fun h => (ky h.g.B.1 h.g.B.2, V.ref h.a)) (ky q.g.B.1 q.g.B.2) = none) :
    Wd K CA CT (upd H2 d.dt (.dT (putK (s.hs.map fun h => (ky h.g.B.1 h.g.B.2, V.ref h.a)) (ky q.g.B.1 q.g.B.2) (.ref q.a)))) ms d { s with hs := s.hs ++ [q] } ∧ Fy K (fun c => c = d.dt) H (upd H2 d.dt (.dT (putK (s.hs.map fun h => (ky h.g.B.1 h.g.B.2, V.ref h.a)) (ky q.g.B.1 q.g.B.2) (.ref q.a)))) := by
  have h2 := h.same e
  have f : Fy K (fun c => c = d.dt) H2 (upd H2 d.dt (.dT (putK (s.hs.map fun h => (ky h.g.B.1 h.g.B.2, V.ref h.a)) (ky q.g.B.1 q.g.B.2) (.ref q.a)))) := .dictT h2.dt (Xk.but_mut (Xk.But.refl _ _))
  have mem : ∀ x, x ∈ s.hs ++ [q] → x ∈ s.hs ∨ x = q := fun x hx => (List.mem_append.mp hx).imp_right List.mem_singleton.mp
  have hat : ∀ x ∈ s.hs ++ [q], HaAt K CT (upd H2 d.dt (.dT (putK (s.hs.map fun h => (ky h.g.B.1 h.g.B.2, V.ref h.a)) (ky q.g.B.1 q.g.B.2) (.ref q.a)))) d.M ms x := fun x hx => by
    have g : HaAt K CT H2 d.M ms x := by
      rcases mem x hx with hx | rfl
      · exact h2.hat x hx
      · exact hq
    exact g.fy f (ne_of_obj g.at_.o h2.dt (fun z => by cases z)) (ne_of_obj g.at_.hp h2.dt (fun z => by cases z)) (ne_of_obj g.at_.hv h2.dt (fun z => by cases z))
  refine ⟨⟨f.tu.st.t _ _ h2.m, f.at_ _ _ h2.da (ne_of_obj h2.da h2.dt (fun z => by cases z)), h.dv, fun x hx => (h2.aat x hx).fy f ?_, h.ainj, ?_, hat, ?_, f.at_ _ _ h2.so (ne_of_obj h2.so h2.dt (fun z => by cases z)), fun x hx => (h2.gat x hx).tu f.tu, f.at_ _ _ h2.vl (ne_of_obj h2.vl h2.dt (fun z => by cases z)), fun x hx => (h2.vat x hx).tu f.tu, h.sv, fun x hx => ?_⟩, (Fy.same e).trans f⟩
  · obtain ⟨dx, p, v, h1, _⟩ := h2.aat x hx
    exact ne_of_obj h1 h2.dt (fun z => by cases z)
  · show upd H2 d.dt _ d.dt = some (.dT ((s.hs ++ [q]).map fun h => (ky h.g.B.1 h.g.B.2, V.ref h.a)))
    rw [upd_same, putK_new _ hn, List.map_append]
    rfl
  · show ((s.hs ++ [q]).map adr).Pairwise Dj
    rw [List.map_append]
    refine List.pairwise_append.mpr ⟨h.hn, List.pairwise_singleton .., fun x hx' y hy => ?_⟩
    obtain ⟨b, hb, rfl⟩ := List.mem_map.mp hx'
    rw [List.mem_singleton.mp hy]
    have g := h.hat b hb
    exact ⟨Xk.ne_new hx g.at_.o, Xk.ne_new hp g.at_.hp, Xk.ne_new hv g.at_.hp, Xk.ne_new hp g.at_.hv, Xk.ne_new hv g.at_.hv⟩
  · rcases mem x hx with hx | rfl
    · exact h.hsv x hx
    · exact ⟨(Xk.ne_new hp h.so).symm, (Xk.ne_new hp h.vl).symm, (Xk.ne_new hv h.so).symm, (Xk.ne_new hv h.vl).symm⟩
def sp__law_begin (K : PySem.W.Frag) (CA CT : Addr) : Sp := fun vs H Q _ => ∃ (H0 : Hp) (ms : List Int) (d : Ad) (s : Stt) (b : Addr) (n : Int), vs = [.ref b, .ref d.dt, .ref d.so, .ref d.M] ∧ Wd K CA CT H ms d s ∧ Bq H0 H d ms s ∧ Ok ms s ∧ H b = some (.lst [.int n]) ∧ Xk.Fr b H0 ∧ ¬ Own d ms s b ∧ ms.length ≤ 10 ∧ s.gs.length ≤ 1000 ∧
  ∀ H' s', Wd K CA CT H' ms d s' → Bq H0 H' d ms s' → Ok ms s' → s'.gs.length ≤ s.gs.length + 10 → s'.vs.length ≤ s.vs.length → s'.akv = s.akv → Q .non H'
theorem ok__law_begin (T : Txt K mg) : FnOk P w K mg base CX0 3 T.f__law_begin T.d__law_begin ["box", "attempts", "soup", "members"] (sp__law_begin K T.C_Acceptor T.C_Attempt) := by
  refine T.F__law_begin.ok sc__law_begin (fun vs H Q E h => ?_) (fun cdv A outer s H vs Q E hr h => ?_)
  · obtain ⟨H0, ms, d, s, b, n, rfl, _⟩ := h
    rfl
  obtain ⟨H0, ms, d, s, b, n, rfl, w0, b0, ok, hb, hfb, hob, hml, hgl, q⟩ := h
  have c2 := T.Cls_Attempt
  refine ⟨_, (pss_cons (ps_set (i := 4) sc__law_begin.nd rfl (Or.inl rfl) (pe_call (ok__law_take T) (hr.mono (by decide)) (by rfl) T.g__law_take T.F__law_take.kp T.b__law_take .nil pass0 (pa_cons (pv 0) (pa_cons (pe_int) pa_nil))))
      (pss_cons (ps_set (i := 5) sc__law_begin.nd rfl (Or.inl rfl) (pe_tup (pa_cons (pe_op op_add (pe_int) (pe_call (ok__law_take T) (hr.mono (by decide)) (by rfl) T.g__law_take T.F__law_take.kp T.b__law_take .nil pass0 (pa_cons (pv 0) (pa_cons (pe_int) pa_nil)))) (pa_cons (pv 4) pa_nil))))
      (Evl.pss_cut (ps_if (PW.pt (pw_or (pt_cmp (pc_din (hu_of hr) (pv 5) (pv 1))) (pw_or1 (pt_cmpR op_gt (pe_callB call_len_dT (by rfl) T.m_len PySem.boot_len (pa_cons (pv 1) pa_nil)) (pe_int) (nomark _))))) (pss_one ps_retN) pss_nil)
      (pss_cons (ps_dput (hu_of hr) (pv 1) (pv 5) (pe_make T.Mk_Attempt (ok_Attempt___init__ T) (hr.mono (by decide)) (by rfl) T.g_Attempt T.b_Attempt___init__ .nil pass0 (pa_cons (pv 5) (pa_cons (pe_tup (pa_cons (pe_str) (pa_cons (pe_tup (pa_cons (pe_tup (pa_cons (pe_str) (pa_cons (pe_callB call_len_dT (by rfl) T.m_len PySem.boot_len (pa_cons (pv 1) pa_nil)) pa_nil))) pa_nil)) pa_nil))) (pa_cons (pv 3) pa_nil)))) rfl)
      (pss_one (ps_for PassesOwn.never rfl (pi_tup (pv 3)) (pg_name (i := 6) sc__law_begin.nd rfl (Or.inl rfl)) (pss_one (ps_expr (pe_bm PySem.F.plainAttrs_list PySem.F.slot_list_append PySem.F.type_list_append mt_append (pv 2) (pa_cons (pe_tup (pa_cons (pe_str) (pa_cons (pv 6) (pa_cons (pv 5) pa_nil)))) pa_nil)))))))))), ?_⟩
  wtm_at "x0"
  wtm_at "xs"
  refine ⟨b, 7, n, rfl, hb, by decide, by decide, fun e1 e2 => ?_⟩
  have hb1 : upd H b (.lst [.int (n / 7)]) b = some (.lst [.int (n / 7)]) := upd_same
  have F1 : Fy K (fun c => c = b) H (upd H b (.lst [.int (n / 7)])) := .list hb (Xk.but_mut (Xk.But.refl _ _))
  have w1 := w0.box F1 hob
  have b1 : Bq H0 (upd H b (.lst [.int (n / 7)])) d ms s := ⟨Xk.same_mut b0.sa hfb, b0.fr⟩
  clear F1 w0 b0 hb
  generalize upd H b (.lst [.int (n / 7)]) = H1 at *
  wtm_at "xs"
  refine ⟨b, 5, _, rfl, hb1, by decide, by decide, fun e3 e4 => ?_⟩
  have F2 : Fy K (fun c => c = b) H1 (upd H1 b (.lst [.int (n / 7 / 5)])) := .list hb1 (Xk.but_mut (Xk.But.refl _ _))
  have w2 := w1.box F2 hob
  have b2 : Bq H0 (upd H1 b (.lst [.int (n / 7 / 5)])) d ms s := ⟨Xk.same_mut b1.sa hfb, b1.fr⟩
  clear F2 w1 b1 hb1
  generalize upd H1 b (.lst [.int (n / 7 / 5)]) = H2 at *
  wtm_at "xs"
  intro bl H3 hbl s3 hbl3
  have w3 := w2.same s3
  have b3 := b2.same s3
  clear w2 b2 s3 hbl
  obtain ⟨B, hB1, hB2⟩ : ∃ B : Int × Int, B = (1 + n / 7 % 5, n % 7) ∧ (1 ≤ B.1 ∧ B.1 ≤ 5 ∧ 0 ≤ B.2 ∧ B.2 ≤ 6) := ⟨_, rfl, by dsimp only; omega⟩
  have hbl3' : H3 bl = some (.tup [.int B.1, .int B.2]) := by
    rw [hB1]
    exact hbl3
  clear hbl3 hB1
  have dt3 := w3.dt
  generalize (n % 7 : Int) = ix at *
  clear e1 e2 e3 e4
  wtm_at "xs"
  refine Xk.x_cut (fun σ' H' => σ' = [some (.ref b), some (.ref d.dt), some (.ref d.so), some (.ref d.M), some (.int ix), some (.ref bl), none] ∧ H' = H3 ∧ valV (s.hs.map fun h => (ky h.g.B.1 h.g.B.2, V.ref h.a)) (ky B.1 B.2) = none ∧ s.hs.length ≤ 5) ?_ ?_
  · wtm_at "xs"
    refine ⟨d.dt, _, rfl, DGet.t (k := ky B.1 B.2) dt3 hbl3', ?_⟩
    refine ⟨_, rfl, ?_⟩
    cases hv : valV (s.hs.map fun h => (ky h.g.B.1 h.g.B.2, V.ref h.a)) (ky B.1 B.2) with
    | some z =>
      rw [if_pos (show (Option.isSome (some z)) = true from rfl)]
      wtm_at "xs"
      exact q H3 s w3 b3 ok (by omega) (Nat.le_refl _) rfl
    | none =>
      rw [if_neg (show ¬ (Option.isSome (none : Option V)) = true by decide)]
      wtm_at "xs"
      refine ⟨d.dt, _, rfl, dt3, ?_⟩
      wtm_at "xs"
      rw [List.length_map]
      refine Xk.x_itd (fun c => ?_) (fun c => ?_)
      · wtm_at "xs"
        exact q H3 s w3 b3 ok (by omega) (Nat.le_refl _) rfl
      · wtm_at "xs"
        exact ⟨rfl, rfl, rfl, by omega⟩
  rintro σ' H' ⟨rfl, rfl, hnew, h5⟩
  wtm_at "xs"
  refine ⟨d.dt, _, rfl, dt3, ?_⟩
  wtm_at "xs"
  rw [List.length_map]
  intro t1 H4 ht1 s4 ht4
  wtm_at "xs"
  intro t2 H5 ht2 s5 ht5
  wtm_at "xs"
  intro t3 H6 ht3 s6 ht6
  have z4 := (s5.trans s6) _ _ ht4
  have z5 := s6 _ _ ht5
  have s36 := s4.trans (s5.trans s6)
  have w6 := w3.same s36
  have b6 := b3.same s36
  have hbl6 := s36 _ _ hbl3'
  have dt6 := w6.dt
  have hpe : Xk.Pk K H6 4 (.ref t3) (ent (.wish (s.hs.length : Int))) := Xk.pk_tup2 (n := 3) (Xk.st_of ht6) Xk.pk_str (Xk.pk_tup1 (n := 2) (Xk.st_of z5) (Xk.pk_tup2 (n := 1) (Xk.st_of z4) Xk.pk_str Xk.pk_int))
  clear w3 b3 s4 s5 s6 s36 ht1 ht2 ht3 ht4 ht5 ht6 z4 z5 hbl3' dt3
  wtm_at "xs"
  refine Xk.x_rMake fun x fx H7 hx hfx hnx s7 h7 h7x => ?_
  refine ⟨x, fx, bl, .ref t3, d.M, rfl, h7x, fun H8 p v hp hv b8 g8 => ⟨rfl, ?_⟩⟩
  have s8 : Same H6 H8 := Xk.same_but b8 hx s7
  have fp : Xk.Fr p H6 := Xk.free_back hp s7
  have fv : Xk.Fr v H6 := Xk.free_back hv s7
  have hq : HaAt K T.C_Attempt H8 d.M ms ⟨x, fx, bl, p, v, ⟨B, ⟨"asking", [], [], none, .ref t3⟩, .wish (s.hs.length : Int), none⟩⟩ :=
    ⟨g8, s8 _ _ hbl6, ⟨⟨.nil, fun x hx => (by cases hx)⟩, ⟨.nil, fun x hx => (by cases hx)⟩, trivial, ⟨_, (hpe.same s8).mono (by decide)⟩, .inl rfl⟩, hpe.same s8, trivial, hB2⟩
  obtain ⟨w9, f9⟩ := w6.begin_ s8 (q := ⟨x, fx, bl, p, v, ⟨B, ⟨"asking", [], [], none, .ref t3⟩, .wish (s.hs.length : Int), none⟩⟩) hx fp fv hq hnew
  have dt8 := s8 _ _ dt6
  have hbl8 := s8 _ _ hbl6
  wtm_at "xs"
  refine ⟨d.dt, _, rfl, DPut.t (k := ky B.1 B.2) dt8 hbl8 (Xk.size_lt (by rw [List.length_map]; omega)), ?_⟩
  simp only at w9 f9
  have hbl9 := f9.tu.tp _ _ hbl6
  have b9 := b6.go f9 (s' := { s with hs := s.hs ++ [⟨x, fx, bl, p, v, ⟨B, ⟨"asking", [], [], none, .ref t3⟩, .wish (s.hs.length : Int), none⟩⟩] }) (d' := d) (fun c z => .inr (.inl z)) fun c z => (by
    rcases z with z | z | z | z | z | ⟨h, hh, z⟩
    · exact .inl (.inl z)
    · exact .inl (.inr (.inl z))
    · exact .inl (.inr (.inr (.inl z)))
    · exact .inl (.inr (.inr (.inr (.inl z))))
    · exact .inl (.inr (.inr (.inr (.inr (.inl z)))))
    · rcases List.mem_append.mp hh with hh | hh
      · exact .inl (.inr (.inr (.inr (.inr (.inr ⟨h, hh, z⟩)))))
      · rw [List.mem_singleton.mp hh] at z
        rcases z with rfl | rfl | rfl
        · exact .inr hx.is
        · exact .inr fp.is
        · exact .inr fv.is)
  have nB : ∀ b ∈ s.hs.map (·.g), b.B ≠ B := fun b hb e => by
    obtain ⟨h, hh, rfl⟩ := List.mem_map.mp hb
    refine valV_not hnew ?_
    rw [List.map_map]
    exact List.mem_map.mpr ⟨h, hh, by show ky h.g.B.1 h.g.B.2 = ky B.1 B.2; rw [e]⟩
  have ok9 : Ok ms { s with hs := s.hs ++ [⟨x, fx, bl, p, v, ⟨B, ⟨"asking", [], [], none, .ref t3⟩, .wish (s.hs.length : Int), none⟩⟩] } := by
    refine ⟨?_, fun g hg => ?_, ?_⟩
    · show Iv ms s.pr s.ac s.vs ((s.hs ++ ([_] : List Ha)).map (·.g))
      rw [List.map_append]
      exact ok.iv.begin_ (a := ⟨B, ⟨"asking", [], [], none, .ref t3⟩, .wish (s.hs.length : Int), none⟩) nB rfl rfl rfl rfl
    · show MgOk ms s.pr s.vs ((s.hs ++ ([_] : List Ha)).map (·.g)) g.2
      rw [List.map_append]
      exact (ok.mg g hg).more _
    · show (s.hs ++ ([_] : List Ha)).length ≤ 6
      rw [List.length_append]
      exact Nat.succ_le_succ h5
  have hBx : ∃ a ∈ (s.hs ++ [(⟨x, fx, bl, p, v, ⟨B, ⟨"asking", [], [], none, .ref t3⟩, .wish (s.hs.length : Int), none⟩⟩ : Ha)]).map (·.g), a.B = B := ⟨_, List.mem_map_of_mem (List.mem_append_right _ (List.mem_singleton.mpr rfl)), rfl⟩
  generalize hst : ({ s with hs := s.hs ++ [⟨x, fx, bl, p, v, ⟨B, ⟨"asking", [], [], none, .ref t3⟩, .wish (s.hs.length : Int), none⟩⟩] } : Stt) = s1 at *
  have hBx1 : ∃ a ∈ s1.hs.map (·.g), a.B = B := by
    rw [← hst]
    exact hBx
  have l1 : s1.gs.length = s.gs.length := by
    rw [← hst]
  have l2' : s1.vs.length = s.vs.length := by
    rw [← hst]
  generalize upd H8 d.dt _ = H9 at *
  have hm9 := w9.m
  wtm_at "xs"
  refine Xk.x_forT (xs := ms.map V.int) (fun j σ' H' => ∃ (y6 : Option V) (gs' : List (Addr × Mg)), σ' = [some (.ref b), some (.ref d.dt), some (.ref d.so), some (.ref d.M), some (.int ix), some (.ref bl), y6] ∧ Wd K T.C_Acceptor T.C_Attempt H' ms d { s1 with gs := gs' } ∧ Bq H0 H' d ms { s1 with gs := gs' } ∧ Ok ms { s1 with gs := gs' } ∧ gs'.length = s1.gs.length + j ∧ H' bl = some (.tup [.int B.1, .int B.2])) hm9
    ⟨_, s1.gs, rfl, w9, b9, ok9, rfl, hbl9⟩ (fun j σ' H' _ ⟨_, _, _, w, _⟩ => w.m) ?_ ?_
  · rintro j y σ' H2 hj ⟨y6, gs', rfl, w2, b2, ok2, hgl2, hb2⟩
    obtain ⟨x, hxj, rfl⟩ := Xk.of_map_at hj
    have hjl := Xk.at_lt hxj
    have so2 := w2.so
    simp only at so2
    wtm_at "xs"
    intro t H3 ht s3 ht3
    have w3 := w2.same s3
    have so3 := w3.so
    simp only at so3
    wtm_at "xs"
    obtain ⟨w4, f4⟩ := w3.soup (a := t) (g := .ask x B) ⟨bl, Xk.st_of ht3, s3 _ _ hb2⟩
    refine ⟨_, gs' ++ [(t, .ask x B)], rfl, w4, (b2.same s3).go f4 (fun c z => .inr (.inr (.inl z))) fun c z => .inl z, ⟨ok2.iv, fun z hz => ?_, ok2.h6⟩, by rw [List.length_append, hgl2]; rfl, f4.tu.tp _ _ (s3 _ _ hb2)⟩
    rcases List.mem_append.mp hz with hz | hz
    · exact ok2.mg z hz
    · rw [List.mem_singleton.mp hz]
      exact ⟨List.mem_of_getElem? hxj, hBx1⟩
  · rintro σ' H2 ⟨y6, gs', rfl, w2, b2, ok2, hgl2, hb2⟩
    rw [List.length_map] at hgl2
    wtm_at "xs"
    exact q H2 _ w2 b2 ok2 (by show gs'.length ≤ _; omega) (by show s1.vs.length ≤ _; omega) (by show s1.akv = _; rw [← hst])
--CUT--
theorem x_forKT {g : TG} {tu : TS} {D : Ends} {σ : L2.St} {a : Nat} {r : Addr} {H : Hp} {od : Obj} {kvs : List (List Key × V)} (ea : σ[a]? = some (some (.ref r))) (hr : H r = some (.frz od (.dT kvs))) (Pv : Nat → L2.St → Prop) (p0 : Pv 0 σ)
    (ps : ∀ i k v q σ', kvs[i]? = some (k, v) → H q = some (.tup (k.map kV)) → Pv i σ' → g (.ref q) σ' H fun σ2 H2 => tu { D with nx := fun s h => h = H ∧ Pv (i + 1) s, ct := fun s h => h = H ∧ Pv (i + 1) s, bk := D.nx } σ2 H2) (pd : ∀ σ', Pv kvs.length σ' → D.nx σ' H) : tFor (iKeys (tVar a)) g tu D σ H := by
  refine ⟨.ref r, ea, r, od, rfl, .inr ⟨kvs, hr, for_it walk_keysT (fun i s h => h = H ∧ Pv i s) ⟨rfl, p0⟩ (fun i s h _ p => by rw [p.1]; exact hr) (fun i x s h h' _ p y => ?_) fun s h p => by rw [p.1]; exact pd s p.2⟩⟩
  obtain ⟨rfl, pv⟩ := p
  obtain ⟨rfl, k, v, q, e1, rfl, e2⟩ := y
  exact ps i k v q s e1 e2 pv
theorem upd_back {H : Hp} {a : Addr} {o u : HO} (h : H a = some u) : upd (upd H a o) a u = H := funext fun c => by
  by_cases z : c = a
  · rw [z, upd_same, h]
  · rw [upd_ne z, upd_ne z]
theorem ent_non {H : Hp} {v : V} {k : En} (h : Xk.Pk K H 4 v (ent k)) : v ≠ .non := fun z => by
  subst z
  have h := h.1
  cases k
  cases h
def sp__law_sound (K : PySem.W.Frag) (CA CT : Addr) : Sp := fun vs H Q _ => ∃ (ms : List Int) (d : Ad) (s : Stt), vs = [.ref d.M, .ref d.vl, .ref d.dt] ∧ Wd K CA CT H ms d s ∧ Ok ms s ∧ ms.Pairwise (· < ·) ∧ ms.length ≤ 10 ∧ s.vs.length ≤ 95 ∧ ∀ H', Same H H' → Q (.bl true) H'
theorem ok__law_sound (T : Txt K mg) : FnOk P w K mg base CX0 5 T.f__law_sound T.d__law_sound ["members", "votes", "attempts"] (sp__law_sound K T.C_Acceptor T.C_Attempt) := by
  refine T.F__law_sound.ok sc__law_sound (fun vs H Q E h => ?_) (fun cdv A outer s H vs Q E hr h => ?_)
  · obtain ⟨ms, d, s, rfl, _⟩ := h
    rfl
  obtain ⟨ms, d, s, rfl, w0, ok, hasc, hml, hvl, q⟩ := h
  have c2 := T.Cls_Attempt
  have c3 := T.A_Attempt_stage
  have c4 := T.A_Attempt_entry
  have gd := ok.iv.gd
  have hm0 := w0.m
  have hv0 : VsAt K H d.vl s.vs := ⟨Xk.sq_of w0.vl, w0.vat⟩
  have rg : ∀ v ∈ s.vs, Rg v := fun v hv => by
    obtain ⟨a, a1, a2, _⟩ := ok.iv.vt v hv
    obtain ⟨h, h1, rfl⟩ := List.mem_map.mp a1
    have z := (w0.hat h h1).rg
    rw [a2] at z
    exact z
  refine ⟨_, (Evl.pss_cut (ps_if (pt_cmpR Xk.op_nNotN (pe_call (ok_unlawful_ballot T) (hr.mono (by decide)) (by rfl) T.g_unlawful_ballot T.F_unlawful_ballot.kp T.b_unlawful_ballot .nil pass0 (pa_cons (pv 0) (pa_cons (pv 1) pa_nil))) (pe_non) (nomark _)) (pss_one (ps_ret (pe_bl))) pss_nil)
      (pss_cons (ps_set (i := 3) sc__law_sound.nd rfl (Or.inl rfl) (pe_call (ok_choice_of T) (hr.mono (by decide)) (by rfl) T.g_choice_of T.F_choice_of.kp T.b_choice_of .nil pass0 (pa_cons (pv 0) (pa_cons (pv 1) pa_nil))))
      (pss_cons (ps_lock (ps_for PassesOwn.never rfl (pi_keys (pv 2)) (pg_name (i := 4) sc__law_sound.nd rfl (Or.inl rfl)) (pss_one (ps_if (PW.pt (pw_and (pt_cmpR op_eq (Xk.k_fld (K := K) (by rfl) (pe_dget (hu_of hr) (pv 2) (pv 4) (fun _ _ => rfl)) rfl) (pe_str) (nomark _)) (pw_and1 (PW.pt (pw_or (pt_cmpR Xk.op_nIsN (pv 3) (pe_non) (nomark _)) (pw_or1 (pt_cmpR (Xk.k_neD (K := K) hr.units (by rfl)) (Xk.k_fld (K := K) (by rfl) (pe_dget (hu_of hr) (pv 2) (pv 4) (fun _ _ => rfl)) rfl) (pv 3) (nomark _)))))))) (pss_one (ps_ret (pe_bl))) pss_nil))))
      (Evl.pss_cut (ps_if (pt_cmpR Xk.op_nIsN (pv 3) (pe_non) (nomark _)) (pss_one (ps_ret (pe_bl))) pss_nil)
      (pss_cons (ps_for PassesOwn.never rfl (pi_list (pv 1)) (pg_name (i := 5) sc__law_sound.nd rfl (Or.inr rfl)) (pss_cons (ps_setLc (i := 6) (own := [("index", 7)]) (g := gName 7) rfl sc__law_sound.nd rfl rfl (sw_true rfl rfl rfl (by decide +kernel)) (pi_tup (pv 0)) (blkOk_by (N := N__law_sound) (sc := defScope s__law_sound) (own := [("index", 7)]) (by decide +kernel)) (fun _ _ _ _ _ => pg_name (i := 7) sc__law_sound.nd rfl (Or.inl rfl)) (fun _ _ _ _ _ => pts_one (pt_cmpR (Xk.k_inD (K := K) (Xk.u65 hr) (by rfl)) (pe_tup (pa_cons (pv 7) (pa_cons (pe_ix (Xk.k_ixT (K := K) (by rfl)) (pv 5) (pe_int) (fun _ _ => rfl)) (pa_cons (pe_ix (Xk.k_ixT (K := K) (by rfl)) (pv 5) (pe_int) (fun _ _ => rfl)) pa_nil)))) (pv 1) (by rfl))) (fun _ _ _ _ _ => (pv 7)))
      (pss_one (ps_if (PW.pt (pw_and (pt_cmpR op_gt (pe_op op_mul (pe_int) (pe_callB (Xk.k_len (K := K) (by rfl)) (by rfl) T.m_len PySem.boot_len (pa_cons (pv 6) pa_nil))) (pe_callB (Xk.k_len (K := K) (by rfl)) (by rfl) T.m_len PySem.boot_len (pa_cons (pv 0) pa_nil)) (nomark _)) (pw_and1 (pt_cmpR (Xk.k_neD (K := K) hr.units (by rfl)) (pe_ix (Xk.k_ixT (K := K) (by rfl)) (pv 5) (pe_int) (fun _ _ => rfl)) (pv 3) (nomark _))))) (pss_one (ps_ret (pe_bl))) pss_nil))))
      (pss_one (ps_ret (pe_call (ok_are_grounds T) (hr.mono (by decide)) (by rfl) T.g_are_grounds T.F_are_grounds.kp T.b_are_grounds .nil pass0 (pa_cons (pv 0) (pa_cons (pv 1) (pa_cons (pe_call (ok_grounds_of T) (hr.mono (by decide)) (by rfl) T.g_grounds_of T.F_grounds_of.kp T.b_grounds_of .nil pass0 (pa_cons (pv 0) (pa_cons (pv 1) pa_nil))) pa_nil))))))))))), ?_⟩
  wtm_at "x0"
  wtm_at "xs"
  refine Xk.x_cut (fun σ' H' => σ' = [some (.ref d.M), some (.ref d.vl), some (.ref d.dt), none, none, none, none, none] ∧ Same H H') ?_ ?_
  · wtm_at "xs"
    refine ⟨d.M, d.vl, ms, s.vs, rfl, hm0, hml, hv0, by omega, fun H1 s1 _ => ?_, fun H1 qb B s1 _ hle => (hle.not gd).elim⟩
    wtm_at "xs"
    exact ⟨rfl, s1⟩
  rintro σ' H1 ⟨rfl, s1⟩
  have w1 := w0.same s1
  have hm1 := Xk.st_same hm0 s1
  have hv1 := hv0.same s1
  clear hm0 hv0
  have kvs_at : ∀ (i : Nat) (k : List Key) (v : V), (s.hs.map fun h => (ky h.g.B.1 h.g.B.2, V.ref h.a))[i]? = some (k, v) → ∃ h, h ∈ s.hs ∧ k = ky h.g.B.1 h.g.B.2 ∧ v = V.ref h.a := fun i k v e => by
    rw [List.getElem?_map] at e
    cases z : s.hs[i]? with
    | none => rw [z] at e; cases e
    | some h =>
      rw [z] at e
      cases e
      exact ⟨h, List.mem_of_getElem? z, rfl, rfl⟩
  have getv : ∀ h ∈ s.hs, valV (s.hs.map fun h => (ky h.g.B.1 h.g.B.2, V.ref h.a)) (ky h.g.B.1 h.g.B.2) = some (V.ref h.a) := fun h hh => val_nodup (keys_nd ok.iv.nb) (ky h.g.B.1 h.g.B.2, V.ref h.a) (List.mem_map.mpr ⟨h, hh, rfl⟩)
  have frzH : ∀ (H2 : Hp) (od : Obj), Wd K T.C_Acceptor T.C_Attempt H2 ms d s → ∀ h ∈ s.hs, HaAt K T.C_Attempt (upd H2 d.dt (.frz od (.dT (s.hs.map fun h => (ky h.g.B.1 h.g.B.2, V.ref h.a))))) d.M ms h := fun H2 od w h hh => by
    have f : Fy K (fun c => c = d.dt) H2 (upd H2 d.dt (.frz od (.dT (s.hs.map fun h => (ky h.g.B.1 h.g.B.2, V.ref h.a))))) := .dictT w.dt (Xk.but_mut (Xk.But.refl _ _))
    have g := w.hat h hh
    exact g.fy f (ne_of_obj g.at_.o w.dt (fun z => by cases z)) (ne_of_obj g.at_.hp w.dt (fun z => by cases z)) (ne_of_obj g.at_.hv w.dt (fun z => by cases z))
  wtm_at "xs"
  refine ⟨d.M, d.vl, ms, s.vs, rfl, hm1, hasc, hml, hv1, by omega, fun H2 s2 hno => ?_, fun H2 e i0 v0 s2 hpe _ hF => ?_⟩
  · have w2 := w1.same s2
    wtm_at "xs"
    refine ⟨d.dt, _, w2.dt, trivial, fun od => ?_⟩
    refine x_forKT (a := 2) rfl upd_same (fun i σ' => ∃ y4 : Option V, σ' = [some (.ref d.M), some (.ref d.vl), some (.ref d.dt), some .non, y4, none, none, none]) ⟨_, rfl⟩ ?_ ?_
    · rintro i k v q' σ' hi hq' ⟨y4, rfl⟩
      obtain ⟨h, hh, rfl, rfl⟩ := kvs_at i k v hi
      have gF := frzH H2 od w2 h hh
      have oF := gF.at_.o
      wtm_at "xs"
      refine ⟨d.dt, _, rfl, (by rw [← getv h hh]; exact .inr ⟨_, _, q', .inr ⟨od, upd_same⟩, rfl, hq', rfl⟩), ?_⟩
      wtm_at "xs"
      refine Xk.x_itd (fun hw => ?_) (fun hw => ?_)
      · have hw' : h.g.S.st = "won" := by injection hw
        obtain ⟨v, v1, v2, _⟩ := ok.iv.won (List.mem_map_of_mem hh) hw'
        obtain ⟨u, u1, u2, _⟩ := v2.hit
        rw [hno u u1] at u2
        cases u2
      · wtm_at "xs"
        exact ⟨rfl, _, rfl⟩
    · rintro σ' ⟨y4, rfl⟩
      refine ⟨upd_same, ?_⟩
      rw [upd_back w2.dt]
      refine Xk.x_cut (fun _ _ => False) ?_ (fun _ _ z => z.elim)
      wtm_at "xs"
      exact q H2 (s1.trans s2)
  · have w2 := w1.same s2
    have hM : Mj ms s.vs v0 := (hit_iff.mp hF.ht).2
    have hvm0 := List.mem_of_getElem? hF.1
    have hen := ent_non hpe
    have hk0 : v0.k < 6 := (w0.vat v0 hvm0).kl
    have same_e : ∀ v ∈ s.vs, Mj ms s.vs v → v.k = v0.k := fun v _ h => agree rg gd h hM
    wtm_at "xs"
    refine ⟨d.dt, _, w2.dt, trivial, fun od => ?_⟩
    refine x_forKT (a := 2) rfl upd_same (fun i σ' => ∃ y4 : Option V, σ' = [some (.ref d.M), some (.ref d.vl), some (.ref d.dt), some e, y4, none, none, none]) ⟨_, rfl⟩ ?_ ?_
    · rintro i k v q' σ' hi hq' ⟨y4, rfl⟩
      obtain ⟨h, hh, rfl, rfl⟩ := kvs_at i k v hi
      have gF := frzH H2 od w2 h hh
      have oF := gF.at_.o
      have tF : Tu K H2 (upd H2 d.dt (.frz od (.dT (s.hs.map fun h => (ky h.g.B.1 h.g.B.2, V.ref h.a))))) := (Fy.dictT (K := K) w2.dt (Xk.but_mut (Xk.But.refl _ _))).tu
      have peF := hpe.st tF.st
      wtm_at "xs"
      refine ⟨d.dt, _, rfl, (by rw [← getv h hh]; exact .inr ⟨_, _, q', .inr ⟨od, upd_same⟩, rfl, hq', rfl⟩), ?_⟩
      wtm_at "xs"
      refine Xk.x_itd (fun hw => ?_) (fun hw => ?_)
      · have hw' : h.g.S.st = "won" := by injection hw
        obtain ⟨v, v1, v2, v3⟩ := ok.iv.won (List.mem_map_of_mem hh) hw'
        have ek : h.g.k = v0.k := v3.symm.trans (same_e v v1 v2)
        wtm_at "xs"
        refine ⟨d.dt, _, rfl, (by rw [← getv h hh]; exact .inr ⟨_, _, q', .inr ⟨od, upd_same⟩, rfl, hq', rfl⟩), ?_⟩
        wtm_at "xs"
        refine x_neEnt gF.en peF (by rw [ek]; exact hk0) hk0 ?_
        rw [ek, decide_eq_true (show v0.k = v0.k from rfl)]
        wtm_at "xs"
        exact ⟨rfl, _, rfl⟩
      · wtm_at "xs"
        exact ⟨rfl, _, rfl⟩
    rintro σ' ⟨y4, rfl⟩
    refine ⟨upd_same, ?_⟩
    rw [upd_back w2.dt]
    refine Xk.x_nocut ?_
    wtm_at "xs"
    have hv2 := hv1.same s2
    have hm2 := Xk.st_same hm1 s2
    refine Xk.x_forL (xs := s.vs.map fun v => V.ref v.a) (fun i σ' H' => ∃ (y4 y5 y6 : Option V), σ' = [some (.ref d.M), some (.ref d.vl), some (.ref d.dt), some e, y4, y5, y6, none] ∧ Same H2 H') hv2.1 ⟨_, _, _, rfl, .refl _⟩ (fun i σ' H' _ ⟨_, _, _, _, z⟩ => Xk.sq_same hv2.1 z) ?_ ?_
    · rintro i a σ' H3 hi ⟨y4, y5, y6, rfl, s3⟩
      obtain ⟨v, hvi, rfl⟩ := Xk.of_map_at hi
      have hvm := List.mem_of_getElem? hvi
      have hv3 := hv2.same s3
      have hva3 := hv3.2 v hvm
      have hm3 := Xk.st_same hm2 s3
      wtm_at "xs"
      refine Xk.x_lcT (xs := ms.map V.int) (fun Dl a H' => Same H3 H' ∧ H' Dl = some (.lst (((ms.take a).filter fun m => s.vs.any fun u => decide (u.ix = m) && alk u v).map V.int))) hm3 ?_ ?_ ?_ ?_
      · exact fun Dl hD => ⟨Xk.same_fr hD, upd_same⟩
      · exact fun Dl a H' hD ⟨s, _⟩ => Xk.st_same hm3 s
      · rintro Dl hD a x H4 hx ⟨s4, g4⟩
        obtain ⟨mm, hmm, rfl⟩ := Xk.of_map_at hx
        have hva4 := hva3.same s4
        have htp4 := hva4.tp
        have lsz : ((ms.take a).filter fun m => s.vs.any fun u => decide (u.ix = m) && alk u v).length ≤ 10 := by
          refine Nat.le_trans (List.length_filter_le ..) ?_
          rw [List.length_take]
          omega
        wtm_at "xs"
        refine ⟨rfl, ?_⟩
        wtm_at "xs"
        intro tq H5 htq s5 h5
        have s35 := s4.trans s5
        have hv5 := hv3.same s35
        have hva5 := hva4.same s5
        have g5 := s5 _ _ g4
        wtm_at "xs"
        refine Xk.x_inPk (n := 6) (m := 6) (Xk.pk_tup3 (n := 5) (Xk.st_of h5) Xk.pk_int (Xk.pk_tup2 (n := 4) (Xk.st_of hva5.bl) Xk.pk_int Xk.pk_int) (hva5.en.mono (by decide))) hv5.1 (pk_vts s.vs hv5.2) ?_
        rw [vd_in hva5.kl s.vs fun u hu => (hv5.2 u hu).kl]
        refine ⟨_, rfl, Xk.x_itb (fun hin => ?_) (fun hin => ?_)⟩
        · wtm_at "xs"
          refine ⟨_, g5, Xk.size_lt (by rw [List.length_map]; omega), Xk.same_mut s35 hD, ?_⟩
          rw [upd_same, List.take_add_one, hmm, List.filter_append]
          simp [hin]
        · refine ⟨s35, ?_⟩
          rw [g5, List.take_add_one, hmm, List.filter_append]
          simp [hin]
      · rintro Dl H4 hD ⟨s4, g4⟩
        rw [List.length_map, List.take_length] at g4
        replace g4 : H4 Dl = some (.lst ((vot ms s.vs v).map V.int)) := g4
        have s24 := s3.trans s4
        have hva4 := hva3.same s4
        have htp4 := hva4.tp
        have hm4 := Xk.st_same hm3 s4
        have pe4 := hpe.same s24
        wtm_at "xs"
        rw [List.length_map, List.length_map]
        refine Xk.x_itd (fun hc => ?_) (fun hc => ?_)
        · have hMv : Mj ms s.vs v := by
            unfold Mj
            omega
          have ek := same_e v hvm hMv
          wtm_at "xs"
          refine x_neEnt hva4.en pe4 hva4.kl hk0 ?_
          rw [ek, decide_eq_true (show v0.k = v0.k from rfl)]
          wtm_at "xs"
          exact ⟨_, _, _, rfl, s24⟩
        · wtm_at "xs"
          exact ⟨_, _, _, rfl, s24⟩
    · rintro σ' H3 ⟨y4, y5, y6, rfl, s3⟩
      have hv3 := hv2.same s3
      have hm3 := Xk.st_same hm2 s3
      have s03 := s1.trans (s2.trans s3)
      wtm_at "xs"
      refine ⟨d.M, d.vl, ms, s.vs, rfl, hm3, hasc, hml, hv3, by omega, fun H4 s4 hno => ?_, fun H4 qg j v s4 hG hF4 => ?_⟩
      · have z := hno v0 hvm0
        rw [hF.ht] at z
        cases z
      · obtain ⟨b, e4, wx, g1, g2, g3, g4, g5⟩ := hG
        wtm_at "xs"
        refine ⟨d.M, d.vl, qg, b, wx, e4, ms, vot ms s.vs v, s.vs, bp v, v.k, rfl, Xk.st_same hm3 s4, hml, hv3.same s4, by omega, ⟨Xk.st_of g1, g2, g3, g4, g5⟩, by have := vot_len (ms := ms) (vs := s.vs) (v := v); omega, fun H5 r s5 hr => ?_⟩
        have z := hr.mpr ((isg_vot hF4.ht).mpr gd)
        subst z
        exact q H5 (s03.trans (s4.trans s5))
--CUT--
/-- an acceptor stands for a member -/
theorem Wd.fork {CA CT : Addr} {H H2 : Hp} {ms : List Int} {d : Ad} {s : Stt} (h : Wd K CA CT H ms d s) (e : Same H H2) {x : Int} {f : Addr} (hf : Xk.Fr f H) (ha : AcAt K CA H2 f (s.pr x) (s.ac x)) :
    Wd K CA CT (upd H2 d.da (.dK (putK s.akv (Sum.inl x) (.ref f)))) ms { d with aa := fun y => if y = x then f else d.aa y } { s with akv := putK s.akv (Sum.inl x) (.ref f) } ∧ Fy K (fun c => c = d.da) H (upd H2 d.da (.dK (putK s.akv (Sum.inl x) (.ref f)))) := by
  have h2 := h.same e
  have g : Fy K (fun c => c = d.da) H2 (upd H2 d.da (.dK (putK s.akv (Sum.inl x) (.ref f)))) := .dict h2.da (Xk.but_mut (Xk.But.refl _ _))
  have nf : ∀ y ∈ ms, f ≠ d.aa y := fun y hy => by
    obtain ⟨dx, p, v, h1, _⟩ := h.aat y hy
    exact (Xk.ne_new hf h1).symm
  refine ⟨⟨g.tu.st.t _ _ h2.m, upd_same, fun y hy => ?_, fun y hy => ?_, fun y hy z hz c => ?_, g.at_ _ _ h2.dt (ne_of_obj h2.dt h2.da (fun z => by cases z)), fun y hy => ?_, h.hn, g.at_ _ _ h2.so (ne_of_obj h2.so h2.da (fun z => by cases z)), fun y hy => (h2.gat y hy).tu g.tu, g.at_ _ _ h2.vl (ne_of_obj h2.vl h2.da (fun z => by cases z)), fun y hy => (h2.vat y hy).tu g.tu, h.sv, h.hsv⟩, (Fy.same e).trans g⟩
  · show valV (putK s.akv (Sum.inl x) (.ref f)) (Sum.inl y) = some (.ref (if y = x then f else d.aa y))
    rw [valV_put]
    by_cases c : y = x
    · rw [if_pos (by rw [c]), if_pos c]
    · rw [if_neg (fun z => c (Sum.inl.inj z)), if_neg c]
      exact h.dv y hy
  · show AcAt K CA _ (if y = x then f else d.aa y) (s.pr y) (s.ac y)
    have go : ∀ {a : Addr} {P : Int × Int} {acc : Acc}, AcAt K CA H2 a P acc → AcAt K CA (upd H2 d.da (.dK (putK s.akv (Sum.inl x) (.ref f)))) a P acc := fun k => by
      refine k.fy g ?_
      obtain ⟨dx, p, v, h1, _⟩ := k
      exact ne_of_obj h1 h2.da (fun z => by cases z)
    by_cases c : y = x
    · rw [if_pos c, c]
      exact go ha
    · rw [if_neg c]
      exact go (h2.aat y hy)
  · have c' : (if y = x then f else d.aa y) = (if z = x then f else d.aa z) := c
    by_cases c1 : y = x
    · by_cases c2 : z = x
      · rw [c1, c2]
      · rw [if_pos c1, if_neg c2] at c'
        exact absurd c' (nf z hz)
    · by_cases c2 : z = x
      · rw [if_neg c1, if_pos c2] at c'
        exact absurd c'.symm (nf y hy)
      · rw [if_neg c1, if_neg c2] at c'
        exact h.ainj y hy z hz c'
  · have k := h2.hat y hy
    exact k.fy g (ne_of_obj k.at_.o h2.da (fun z => by cases z)) (ne_of_obj k.at_.hp h2.da (fun z => by cases z)) (ne_of_obj k.at_.hv h2.da (fun z => by cases z))
/-- the soup is another -/
theorem Wd.sset {CA CT : Addr} {H : Hp} {ms : List Int} {d : Ad} {s : Stt} (h : Wd K CA CT H ms d s) {gs : List (Addr × Mg)} (hg : ∀ g ∈ gs, g ∈ s.gs) :
    Wd K CA CT (upd H d.so (.lst (gs.map fun g => V.ref g.1))) ms d { s with gs := gs } ∧ Fy K (fun c => c = d.so) H (upd H d.so (.lst (gs.map fun g => V.ref g.1))) := by
  have f : Fy K (fun c => c = d.so) H (upd H d.so (.lst (gs.map fun g => V.ref g.1))) := .list h.so (Xk.but_mut (Xk.But.refl _ _))
  have nda : d.da ≠ d.so := ne_of_obj h.da h.so (fun z => by cases z)
  have ndt : d.dt ≠ d.so := ne_of_obj h.dt h.so (fun z => by cases z)
  refine ⟨⟨f.tu.st.t _ _ h.m, f.at_ _ _ h.da nda, h.dv, fun x hx => (h.aat x hx).fy f ?_, h.ainj, f.at_ _ _ h.dt ndt, fun x hx => (h.hat x hx).fy f ?_ (h.hsv x hx).1 (h.hsv x hx).2.2.1, h.hn, upd_same, fun x hx => (h.gat x (hg x hx)).tu f.tu, f.at_ _ _ h.vl h.sv.symm, fun x hx => (h.vat x hx).tu f.tu, h.sv, h.hsv⟩, f⟩
  · obtain ⟨dx, p, v, h1, _⟩ := h.aat x hx
    exact ne_of_obj h1 h.so (fun z => by cases z)
  · exact ne_of_obj (h.hat x hx).at_.o h.so (fun z => by cases z)
theorem erase_map {α β : Type} (f : α → β) : ∀ (l : List α) (j : Nat), (l.map f).eraseIdx j = (l.eraseIdx j).map f
  | [], _ => rfl
  | _ :: _, 0 => rfl
  | x :: r, j + 1 => congrArg (f x :: ·) (erase_map f r j)
theorem seqN {j n : Nat} (h : j < n) : seqIndex? (j : Int) n = some j := by
  unfold seqIndex?
  have h0 : ¬ (j : Int) < 0 := by omega
  simp [h0, h]
def sp_law (K : PySem.W.Frag) : Sp := fun vs H Q _ => ∃ (a : Addr) (ns : List Int), vs = [.ref a] ∧ SqL K H a (ns.map V.int) ∧ ns.length ≤ 63 ∧ ∀ H', Q (.bl true) H'
theorem ok_law (T : Txt K mg) : FnOk P w K mg base CX0 6 T.f_law T.d_law ["script"] (sp_law K) := by
  refine T.F_law.ok sc_law (fun vs H Q E h => ?_) (fun cdv A outer s H vs Q E hr h => ?_)
  · obtain ⟨a, ns, rfl, _⟩ := h
    rfl
  obtain ⟨a, ns, rfl, hS, hl, q⟩ := h
  have c0 := T.Cls_Acceptor
  have c2 := T.Cls_Attempt
  refine ⟨_, (pss_cons (ps_set (i := 1) sc_law.nd rfl (Or.inl rfl) (pe_lst (pa_cons (pe_call (ok__law_row T) (hr.mono (by decide)) (by rfl) T.g__law_row T.F__law_row.kp T.b__law_row .nil pass0 (pa_cons (pv 0) (pa_cons (pe_int) pa_nil))) pa_nil)))
      (pss_cons (ps_set (i := 2) sc_law.nd rfl (Or.inl rfl) (pe_call (ok__law_members T) (hr.mono (by decide)) (by rfl) T.g__law_members T.F__law_members.kp T.b__law_members .nil pass0 (pa_cons (pv 1) (pa_cons (pe_int) pa_nil))))
      (pss_cons (ps_set (i := 3) sc_law.nd rfl (Or.inl rfl) (pe_dnewK))
      (pss_cons (ps_for PassesOwn.never rfl (pi_tup (pv 2)) (pg_name (i := 4) sc_law.nd rfl (Or.inl rfl)) (pss_one (ps_dput (hu_of hr) (pv 3) (pv 4) (pe_make0 T.Mk_Acceptor (ok_Acceptor___init__ T) (hr.mono (by decide)) (by rfl) T.g_Acceptor T.b0_Acceptor___init__ T.V0_Acceptor___init__ pass0) rfl)))
      (pss_cons (ps_set (i := 5) sc_law.nd rfl (Or.inl rfl) (pe_dnewT))
      (pss_cons (ps_set (i := 6) sc_law.nd rfl (Or.inl rfl) (pe_lst pa_nil))
      (pss_cons (ps_set (i := 7) sc_law.nd rfl (Or.inl rfl) (pe_lst pa_nil))
      (pss_cons (ps_for PassesOwn.never rfl (pi_range1 (by rfl) T.m_range (pa_cons (pe_int) pa_nil)) (pg_name (i := 8) sc_law.nd rfl (Or.inl rfl)) (pss_cons (ps_set (i := 1) sc_law.nd rfl (Or.inl rfl) (pe_lst (pa_cons (pe_call (ok__law_row T) (hr.mono (by decide)) (by rfl) T.g__law_row T.F__law_row.kp T.b__law_row .nil pass0 (pa_cons (pv 0) (pa_cons (pe_op op_add (pe_int) (pv 8)) pa_nil))) pa_nil)))
      (pss_cons (ps_set (i := 9) sc_law.nd rfl (Or.inl rfl) (pe_call (ok__law_take T) (hr.mono (by decide)) (by rfl) T.g__law_take T.F__law_take.kp T.b__law_take .nil pass0 (pa_cons (pv 1) (pa_cons (pe_int) pa_nil))))
      (pss_one (ps_if (PW.pt (pw_or (pt_cmpR op_eq (pv 9) (pe_int) (nomark _)) (pw_or1 (pt_cmpR op_eq (pe_callB (Xk.k_len (K := K) (by rfl)) (by rfl) T.m_len PySem.boot_len (pa_cons (pv 6) pa_nil)) (pe_int) (nomark _))))) (pss_one (ps_expr (pe_call (ok__law_begin T) (hr.mono (by decide)) (by rfl) T.g__law_begin T.F__law_begin.kp T.b__law_begin .nil pass0 (pa_cons (pv 1) (pa_cons (pv 5) (pa_cons (pv 6) (pa_cons (pv 2) pa_nil))))))) (pss_one (ps_if (pt_cmpR op_eq (pv 9) (pe_int) (nomark _)) (pss_cons (ps_set (i := 4) sc_law.nd rfl (Or.inl rfl) (pe_ix (Xk.k_ixT (K := K) (by rfl)) (pv 2) (pe_call (ok__law_take T) (hr.mono (by decide)) (by rfl) T.g__law_take T.F__law_take.kp T.b__law_take .nil pass0 (pa_cons (pv 1) (pa_cons (pe_callB (Xk.k_len (K := K) (by rfl)) (by rfl) T.m_len PySem.boot_len (pa_cons (pv 2) pa_nil)) pa_nil))) (fun _ _ => rfl)))
      (pss_one (ps_dput (hu_of hr) (pv 3) (pv 4) (pe_meth0 (pe_dget (hu_of hr) (pv 3) (pv 4) (fun _ _ => rfl)) T.Cls_Acceptor T.M_Acceptor_fork (ok_Acceptor_fork T) (hr.mono (by decide)) T.b_Acceptor_fork .nil pass0) rfl))) (pss_cons (ps_set (i := 10) sc_law.nd rfl (Or.inl rfl) (pe_call (ok__law_take T) (hr.mono (by decide)) (by rfl) T.g__law_take T.F__law_take.kp T.b__law_take .nil pass0 (pa_cons (pv 1) (pa_cons (pe_callB (Xk.k_len (K := K) (by rfl)) (by rfl) T.m_len PySem.boot_len (pa_cons (pv 6) pa_nil)) pa_nil))))
      (pss_cons (ps_set (i := 11) sc_law.nd rfl (Or.inl rfl) (pe_ix (Xk.k_ixL (K := K) (by rfl)) (pv 6) (pv 10) (fun _ _ => rfl)))
      (pss_cons (ps_set (i := 12) sc_law.nd rfl (Or.inl rfl) (pe_callB (Xk.k_len (K := K) (by rfl)) (by rfl) T.m_len PySem.boot_len (pa_cons (pv 7) pa_nil)))
      (Evl.pss_cut (ps_if (pt_cmpR op_gt (pv 9) (pe_int) (nomark _)) (pss_one (ps_expr (pe_bm PySem.F.plainAttrs_list PySem.F.slot_list_pop PySem.F.type_list_pop mt_popAt (pv 6) (pa_cons (pv 10) pa_nil)))) pss_nil)
      (pss_cons (ps_expr (pe_call (ok__law_event T) (hr.mono (by decide)) (by rfl) T.g__law_event T.F__law_event.kp T.b__law_event .nil pass0 (pa_cons (pv 11) (pa_cons (pv 3) (pa_cons (pv 5) (pa_cons (pv 6) (pa_cons (pv 7) pa_nil)))))))
      (pss_one (ps_if (PW.pt (pw_and (pt_cmpR op_gt (pe_callB (Xk.k_len (K := K) (by rfl)) (by rfl) T.m_len PySem.boot_len (pa_cons (pv 7) pa_nil)) (pv 12) (nomark _)) (pw_and (pt_cmpR op_eq (pe_op op_mod (pe_callB (Xk.k_len (K := K) (by rfl)) (by rfl) T.m_len PySem.boot_len (pa_cons (pv 7) pa_nil)) (pe_int)) (pe_int) (nomark _)) (pw_and1 (pt_not (pt_val (pe_call (ok__law_sound T) (hr.mono (by decide)) (by rfl) T.g__law_sound T.F__law_sound.kp T.b__law_sound .nil pass0 (pa_cons (pv 2) (pa_cons (pv 7) (pa_cons (pv 5) pa_nil)))))))))) (pss_one (ps_ret (pe_bl))) pss_nil))))))))))))))
      (pss_one (ps_ret (pe_call (ok__law_sound T) (hr.mono (by decide)) (by rfl) T.g__law_sound T.F__law_sound.kp T.b__law_sound .nil pass0 (pa_cons (pv 2) (pa_cons (pv 7) (pa_cons (pv 5) pa_nil)))))))))))))), ?_⟩
  wtm_at "x0"
  wtm_at "xs"
  refine ⟨_, _, ns, rfl, hS, hl, by omega, by omega, fun n1 hn1 => ?_⟩
  wtm_at "xs"
  intro b H1 hb s1 hb1
  wtm_at "xs"
  refine ⟨b, 7, n1, rfl, hb1, by decide, by decide, fun m H2 ms n2 hm bt hb2 hm2 hml hm1 hasc => ?_⟩
  have s2 : Same H H2 := Xk.same_but bt hb s1
  have hnd : ms.Nodup := hasc.imp fun h => Int.ne_of_lt h
  clear hb1 hb2 s1 bt hm hb
  wtm_at "xs"
  intro p H3 hp s3 hp3
  have hp0 : Xk.Fr p H := fr_back hp s2
  have s03 := s2.trans s3
  have hm3 := s3 _ _ hm2
  clear hp s2 s3 hm2
  wtm_at "xs"
  refine Xk.x_forT (xs := ms.map V.int) (fun i σ' H' => ∃ (y4 : Option V) (akv : List (Key × V)) (aa : Int → Addr), σ' = [some (.ref a), some (.ref b), some (.ref m), some (.ref p), y4, none, none, none, none, none, none, none, none] ∧ Same H H' ∧ H' m = some (.tup (ms.map V.int)) ∧ H' p = some (.dK akv) ∧ akv.length ≤ i ∧
      (∀ x ∈ ms.take i, valV akv (Sum.inl x) = some (.ref (aa x)) ∧ AcAt K T.C_Acceptor H' (aa x) (0, 0) none ∧ H (aa x) = none) ∧ ∀ x ∈ ms.take i, ∀ y ∈ ms.take i, aa x = aa y → x = y) (Xk.st_of hm3)
    ⟨_, [], fun _ => p, rfl, s03, hm3, hp3, Nat.le_refl _, fun x hx => (by cases hx), fun x hx => (by cases hx)⟩ (fun i σ' H' _ ⟨_, _, _, _, _, z, _⟩ => Xk.st_of z) ?_ ?_
  · rintro i x σ' H4 hi ⟨y4, akv, aa, rfl, s4, hm4, hp4, hal, hat, hinj⟩
    obtain ⟨x, hxi, rfl⟩ := Xk.of_map_at hi
    wtm_at "xs"
    refine Xk.x_rMake fun o dx H5 ho hd hn s5 h5 h6 => ?_
    refine ⟨o, dx, _, _, rfl, h6, fun H6 b6 h7 => ⟨rfl, ?_⟩⟩
    have s46 : Same H4 H6 := Xk.same_but b6 ho s5
    wtm_at "xs"
    have hp6 := s46 _ _ hp4
    have hil := Xk.at_lt hxi
    refine ⟨p, _, rfl, DPut.k (k := Sum.inl x) hp6 (Xk.size_lt (by omega)), ?_⟩
    have g : Fy K (fun c => c = p) H4 (upd H6 p (.dK (putK akv (Sum.inl x) (.ref o)))) := (Fy.same s46).trans (.dict hp6 (Xk.but_mut (Xk.But.refl _ _)))
    have g6 : Fy K (fun c => c = p) H6 (upd H6 p (.dK (putK akv (Sum.inl x) (.ref o)))) := .dict hp6 (Xk.but_mut (Xk.But.refl _ _))
    have et : ms.take (i + 1) = ms.take i ++ [x] := by
      rw [List.take_add_one, hxi]
      rfl
    have nx : x ∉ ms.take i := fun z => by
      have nd := hnd
      rw [← List.take_append_drop (i + 1) ms, et] at nd
      have z2 := (List.nodup_append.mp nd).1
      exact (List.nodup_append.mp z2).2.2 x z x (List.mem_singleton.mpr rfl) rfl
    have no : ∀ y ∈ ms.take i, o ≠ aa y := fun y hy => by
      obtain ⟨_, ⟨dx, p', v, h1, _⟩, _⟩ := hat y hy
      exact (Xk.ne_new ho h1).symm
    refine ⟨_, _, fun y => if y = x then o else aa y, rfl, Xk.same_mut (s4.trans s46) hp0, g.tu.tp _ _ hm4, upd_same, ?_, ?_, ?_⟩
    · have := length_putK akv (Sum.inl x) (.ref o)
      omega
    · intro y hy
      rw [et] at hy
      rw [valV_put]
      rcases List.mem_append.mp hy with hy | hy
      · have c : y ≠ x := fun z => nx (z ▸ hy)
        obtain ⟨k1, k2, k3⟩ := hat y hy
        rw [if_neg (fun z => c (Sum.inl.inj z))]
        dsimp only
        rw [if_neg c]
        refine ⟨k1, k2.fy g ?_, k3⟩
        obtain ⟨dx, p', v, h1, _⟩ := k2
        exact ne_of_obj h1 hp4 (fun z => by cases z)
      · have c := List.mem_singleton.mp hy
        subst c
        rw [if_pos rfl]
        dsimp only
        rw [if_pos rfl]
        exact ⟨rfl, ⟨dx, _, _, g6.at_ _ _ h7 (ne_of_obj h7 hp6 (fun z => by cases z)), T.l_NO_BALLOT _, rfl⟩, (fr_back ho s4).is⟩
    · intro y hy z hz e
      rw [et] at hy hz
      dsimp only at e
      rcases List.mem_append.mp hy with hy | hy
      · have c : y ≠ x := fun z => nx (z ▸ hy)
        rw [if_neg c] at e
        rcases List.mem_append.mp hz with hz | hz
        · have c2 : z ≠ x := fun w => nx (w ▸ hz)
          rw [if_neg c2] at e
          exact hinj y hy z hz e
        · rw [if_pos (List.mem_singleton.mp hz)] at e
          exact absurd e.symm (no y hy)
      · rw [if_pos (List.mem_singleton.mp hy)] at e
        rcases List.mem_append.mp hz with hz | hz
        · have c2 : z ≠ x := fun w => nx (w ▸ hz)
          rw [if_neg c2] at e
          exact absurd e (no z hz)
        · rw [List.mem_singleton.mp hy, List.mem_singleton.mp hz]
  · rintro σ' H4 ⟨y4, akv, aa, rfl, s4, hm4, hp4, hal, hat, hinj⟩
    rw [List.length_map, List.take_length] at hat
    rw [List.length_map, List.take_length] at hinj
    clear s03 hp3 hm3
    wtm_at "xs"
    intro dt hdt
    have s5 : Same H4 (upd H4 dt (.dT [])) := Xk.same_new hdt
    have hdt5 : upd H4 dt (.dT []) dt = some (.dT []) := upd_same
    have hdt0 : H dt = none := Same.free s4 hdt
    generalize upd H4 dt (.dT []) = H5 at *
    wtm_at "xs"
    intro so H6 hso s6 hso6
    wtm_at "xs"
    intro vl H7 hvl s7 hvl7
    have s47 := s5.trans (s6.trans s7)
    have w7 : Wd K T.C_Acceptor T.C_Attempt H7 ms ⟨m, p, dt, so, vl, aa⟩ ⟨fun _ => (0, 0), fun _ => none, [], [], [], akv⟩ := by
      have f : Fy K (fun _ => False) H4 H7 := .same s47
      exact ⟨Xk.st_of (s47 _ _ hm4), s47 _ _ hp4, fun x hx => (hat x hx).1, fun x hx => (hat x hx).2.1.fy f id, hinj, (s6.trans s7) _ _ hdt5, fun x hx => (by cases hx), .nil, s7 _ _ hso6, fun x hx => (by cases hx), hvl7, fun x hx => (by cases hx), Xk.ne_new hvl hso6, fun x hx => (by cases hx)⟩
    have b7 : Bq H H7 ⟨m, p, dt, so, vl, aa⟩ ms ⟨fun _ => (0, 0), fun _ => none, [], [], [], akv⟩ := by
      refine ⟨s4.trans s47, fun c z => ?_⟩
      rcases z with rfl | rfl | rfl | rfl | ⟨x, hx, rfl⟩ | ⟨q, hq, _⟩
      · exact hp0.is
      · exact hdt0
      · exact (fr_back hso (s4.trans s5)).is
      · exact (fr_back hvl (s4.trans (s5.trans s6))).is
      · exact (hat x hx).2.2
      · cases hq
    have ok7 : Ok ms ⟨fun _ => (0, 0), fun _ => none, [], [], [], akv⟩ := by
      refine ⟨⟨fun v hv => (by cases hv), fun m _ v hv => (by cases hv), fun m B k e => (by cases e), fun v hv => (by cases hv), fun v hv => (by cases hv), .nil, fun a ha => (by cases ha), fun a ha => (by cases ha), fun a ha => (by cases ha), fun a ha => (by cases ha), fun a ha => (by cases ha)⟩, fun g hg => (by cases hg), Nat.zero_le _⟩
    generalize hst : (⟨fun _ => (0, 0), fun _ => none, [], [], [], akv⟩ : Stt) = st0 at *
    have lg : st0.gs.length = 0 := by rw [← hst]; rfl
    have lv : st0.vs.length = 0 := by rw [← hst]; rfl
    have la : st0.akv.length ≤ 5 := by
      rw [← hst]
      show akv.length ≤ 5
      rw [List.length_map] at hal
      omega
    clear hst s4 hm4 hp4 hat hinj s5 hdt5 hdt0 s6 hso6 s7 hvl7 s47 hdt hso hvl hp0
    clear hal
    clear akv
    wtm_at "xs"
    refine Xk.x_range (fun i σ' H' => ∃ (b : Addr) (y4 y8 y9 y10 y11 y12 : Option V) (aa : Int → Addr) (s : Stt), σ' = [some (.ref a), some (.ref b), some (.ref m), some (.ref p), y4, some (.ref dt), some (.ref so), some (.ref vl), y8, y9, y10, y11, y12] ∧ Wd K T.C_Acceptor T.C_Attempt H' ms ⟨m, p, dt, so, vl, aa⟩ s ∧ Bq H H' ⟨m, p, dt, so, vl, aa⟩ ms s ∧ Ok ms s ∧ s.gs.length ≤ 10 * i ∧ s.vs.length ≤ i ∧ s.akv.length ≤ 10 + i)
      ⟨by omega, by omega⟩ ⟨b, _, _, _, _, _, _, aa, st0, rfl, w7, b7, ok7, by omega, by omega, by omega⟩ ?_ ?_
    · clear w7 b7 ok7 lg lv la
      clear aa st0 H7 H6 H5 H4 H3 H2
      rintro i σ' H1 hi ⟨b0, y4, y8, y9, y10, y11, y12, aa, s, rfl, w1, b1, ok, hgl, hvl, hal⟩
      have hS1 := Xk.sq_same hS b1.sa
      wtm_at "xs"
      refine ⟨_, _, ns, rfl, hS1, hl, by omega, by omega, fun n hn => ?_⟩
      wtm_at "xs"
      intro b H2 hb s2 hb2
      have w2 := w1.same s2
      have b2 := b1.same s2
      have hb0 : Xk.Fr b H := fr_back hb b1.sa
      have hob : ¬ Own ⟨m, p, dt, so, vl, aa⟩ ms s b := fun z => w1.own z hb.is
      clear w1 b1 s2 hS1 hb
      wtm_at "xs"
      refine ⟨b, 12, n, rfl, hb2, by decide, by decide, fun e1 e2 => ?_⟩
      have hb3 : upd H2 b (.lst [.int (n / 12)]) b = some (.lst [.int (n / 12)]) := upd_same
      have F3 : Fy K (fun c => c = b) H2 (upd H2 b (.lst [.int (n / 12)])) := .list hb2 (Xk.but_mut (Xk.But.refl _ _))
      have w3 := w2.box F3 hob
      have b3 : Bq H (upd H2 b (.lst [.int (n / 12)])) ⟨m, p, dt, so, vl, aa⟩ ms s := ⟨Xk.same_mut b2.sa hb0, b2.fr⟩
      clear F3 w2 b2 hb2
      generalize upd H2 b (.lst [.int (n / 12)]) = H3 at *
      generalize (n % 12 : Int) = kind at *
      generalize (n / 12 : Int) = n2 at *
      clear e1 e2 hn
      have so3 := w3.so
      have vl3 := w3.vl
      have da3 := w3.da
      have hm3 := w3.m
      dsimp only at so3 vl3 da3 hm3
      have beg : ∀ y10 y11 y12 : Option V, sp__law_begin K T.C_Acceptor T.C_Attempt [.ref b, .ref dt, .ref so, .ref m] H3 (fun _ H' => ∃ (b' : Addr) (y4' y8' y9' y10' y11' y12' : Option V) (aa : Int → Addr) (s : Stt), ([some (.ref a), some (.ref b), some (.ref m), some (.ref p), y4, some (.ref dt), some (.ref so), some (.ref vl), some (.int i), some (.int kind), y10, y11, y12] : L2.St) = [some (.ref a), some (.ref b'), some (.ref m), some (.ref p), y4', some (.ref dt), some (.ref so), some (.ref vl), y8', y9', y10', y11', y12'] ∧ Wd K T.C_Acceptor T.C_Attempt H' ms ⟨m, p, dt, so, vl, aa⟩ s ∧ Bq H H' ⟨m, p, dt, so, vl, aa⟩ ms s ∧ Ok ms s ∧ s.gs.length ≤ 10 * (i + 1) ∧ s.vs.length ≤ i + 1 ∧ s.akv.length ≤ 10 + (i + 1)) E0 := fun y10 y11 y12 =>
        ⟨H, ms, ⟨m, p, dt, so, vl, aa⟩, s, b, n2, rfl, w3, b3, ok, hb3, hb0, hob, by omega, by omega, fun H4 s4 w4 b4 ok4 l1 l2 l3 => ⟨_, _, _, _, _, _, _, aa, s4, rfl, w4, b4, ok4, by omega, by omega, by rw [l3]; omega⟩⟩
      wtm_at "xs"
      refine Xk.x_itd (fun _ => ?_) (fun hk0 => ?_)
      · wtm_at "xs"
        exact beg _ _ _
      wtm_at "xs"
      refine Xk.x_itd (fun _ => ?_) (fun hg0 => ?_)
      · wtm_at "xs"
        exact beg _ _ _
      have hg1 : 1 ≤ s.gs.length := by
        rcases Nat.eq_zero_or_pos s.gs.length with e | e
        · exact absurd (by rw [List.length_map, e]; rfl) hg0
        · exact e
      wtm_at "xs"
      refine Xk.x_itd (fun _ => ?_) (fun hk1 => ?_)
      · wtm_at "xs"
        rw [List.length_map]
        refine ⟨b, _, n2, rfl, hb3, by omega, by omega, fun e3 e4 => ?_⟩
        have hb4 : upd H3 b (.lst [.int (n2 / ms.length)]) b = some (.lst [.int (n2 / ms.length)]) := upd_same
        have F4 : Fy K (fun c => c = b) H3 (upd H3 b (.lst [.int (n2 / ms.length)])) := .list hb3 (Xk.but_mut (Xk.But.refl _ _))
        have w4 := w3.box F4 hob
        have b4 : Bq H (upd H3 b (.lst [.int (n2 / ms.length)])) ⟨m, p, dt, so, vl, aa⟩ ms s := ⟨Xk.same_mut b3.sa hb0, b3.fr⟩
        clear F4 w3 b3 beg
        generalize upd H3 b (.lst [.int (n2 / ms.length)]) = H4 at *
        obtain ⟨j, hj⟩ := Int.eq_ofNat_of_zero_le e3
        rw [hj] at e4 ⊢
        have hjl : j < ms.length := by omega
        obtain ⟨x, hx⟩ : ∃ x, ms[j]? = some x := ⟨_, List.getElem?_eq_getElem hjl⟩
        have hxm := List.mem_of_getElem? hx
        wtm_at "xs"
        refine Xk.x_ixT w4.m (atI_nat (j := j) (v := .int x) (by rw [List.getElem?_map, hx]; rfl)) ?_
        wtm_at "xs"
        obtain ⟨dx, p', v, k1, k2, k3⟩ := w4.aat x hxm
        unfold AO at k1
        refine w4.rdA hxm ?_
        wtm_at "xs"
        refine ⟨aa x, dx, _, v, rfl, k1, fun H5 f fx hf s5 h5 => ?_⟩
        obtain ⟨w6, f6⟩ := w4.fork s5 (x := x) hf ⟨fx, p', v, h5, Xk.st_same k2 s5, k3.tu (.same s5)⟩
        have da5 := s5 _ _ w4.da
        dsimp only at da5 w6 f6
        wtm_at "xs"
        refine ⟨p, _, rfl, DPut.k (k := Sum.inl x) da5 (Xk.size_lt (by omega)), ?_⟩
        have lp := length_putK s.akv (Sum.inl x) (.ref f)
        exact ⟨b, _, _, _, _, _, _, _, { s with akv := putK s.akv (Sum.inl x) (.ref f) }, rfl, w6, b4.go f6 (fun c z => .inl z) (fun c z => by
          rcases z with z | z | z | z | ⟨y, hy, z⟩ | z
          · exact .inl (.inl z)
          · exact .inl (.inr (.inl z))
          · exact .inl (.inr (.inr (.inl z)))
          · exact .inl (.inr (.inr (.inr (.inl z))))
          · dsimp only at z
            by_cases c : y = x
            · rw [if_pos c] at z
              rw [z]
              exact .inr hf.is
            · rw [if_neg c] at z
              exact .inl (.inr (.inr (.inr (.inr (.inl ⟨y, hy, z⟩)))))
          · exact .inl (.inr (.inr (.inr (.inr (.inr z)))))), ⟨ok.iv, ok.mg, ok.h6⟩, by show s.gs.length ≤ _; omega, by show s.vs.length ≤ _; omega, by show (putK s.akv (Sum.inl x) (.ref f)).length ≤ _; omega⟩
      clear beg
      wtm_at "xs"
      rw [List.length_map]
      refine ⟨b, _, n2, rfl, hb3, by omega, by omega, fun e3 e4 => ?_⟩
      have hb4 : upd H3 b (.lst [.int (n2 / s.gs.length)]) b = some (.lst [.int (n2 / s.gs.length)]) := upd_same
      have F4 : Fy K (fun c => c = b) H3 (upd H3 b (.lst [.int (n2 / s.gs.length)])) := .list hb3 (Xk.but_mut (Xk.But.refl _ _))
      have w4 := w3.box F4 hob
      have b4 : Bq H (upd H3 b (.lst [.int (n2 / s.gs.length)])) ⟨m, p, dt, so, vl, aa⟩ ms s := ⟨Xk.same_mut b3.sa hb0, b3.fr⟩
      clear F4 w3 b3 so3 vl3 da3 hm3 hb3
      generalize upd H3 b (.lst [.int (n2 / s.gs.length)]) = H4 at *
      obtain ⟨j, hj⟩ := Int.eq_ofNat_of_zero_le e3
      rw [hj] at e4 ⊢
      have hjl : j < s.gs.length := by omega
      obtain ⟨g, hg⟩ : ∃ g, s.gs[j]? = some g := ⟨_, List.getElem?_eq_getElem hjl⟩
      have hgm := List.mem_of_getElem? hg
      have so4 := w4.so
      have vl4 := w4.vl
      dsimp only at so4 vl4
      wtm_at "xs"
      refine Xk.x_cut (fun σ' H' => ∃ s' : Stt, σ' = [some (.ref a), some (.ref b), some (.ref m), some (.ref p), y4, some (.ref dt), some (.ref so), some (.ref vl), some (.int i), some (.int kind), some (.int j), some (.ref g.1), some (.int s.vs.length)] ∧ Wd K T.C_Acceptor T.C_Attempt H' ms ⟨m, p, dt, so, vl, aa⟩ s' ∧ Bq H H' ⟨m, p, dt, so, vl, aa⟩ ms s' ∧ Ok ms s' ∧ MsAt K H' g.1 g.2 ∧ MgOk ms s'.pr s'.vs (s'.hs.map (·.g)) g.2 ∧ s'.gs.length ≤ s.gs.length ∧ s'.vs.length = s.vs.length ∧ s'.akv = s.akv) ?_ ?_
      · rw [List.length_map]
        wtm_at "xs"
        refine Xk.x_itd (fun _ => ?_) (fun _ => ?_)
        · wtm_at "xs"
          refine ⟨so, _, (j : Int), j, .ref g.1, rfl, rfl, so4, by omega, by omega, seqN (by rw [List.length_map]; exact hjl), by rw [List.getElem?_map, hg]; rfl, ?_⟩
          rw [erase_map]
          have sub : ∀ g' ∈ s.gs.eraseIdx j, g' ∈ s.gs := fun g' h => (List.eraseIdx_sublist _ _).subset h
          obtain ⟨w5, f5⟩ := w4.sset sub
          exact ⟨{ s with gs := s.gs.eraseIdx j }, rfl, w5, b4.go f5 (fun c z => .inr (.inr (.inl z))) (fun c z => .inl z), ⟨ok.iv, fun x hx => ok.mg x (sub x hx), ok.h6⟩, (w4.gat g hgm).tu f5.tu, ok.mg g hgm, by show (s.gs.eraseIdx j).length ≤ _; exact (List.eraseIdx_sublist _ _).length_le, rfl, rfl⟩
        · wtm_at "xs"
          exact ⟨s, rfl, w4, b4, ok, w4.gat g hgm, ok.mg g hgm, Nat.le_refl _, rfl, rfl⟩
      rintro σ' H5 ⟨s5, rfl, w5, b5, ok5, hm5, hk5, l1, l2, l3⟩
      wtm_at "xs"
      refine ⟨H, ms, ⟨m, p, dt, so, vl, aa⟩, s5, g.1, g.2, rfl, w5, b5, ok5, hm5, hk5, hnd, by omega, by omega, by omega, fun H6 s6 w6 b6 ok6 k1 k2 k3 => ?_⟩
      have vl6 := w6.vl
      dsimp only at vl6
      wtm_at "xs"
      refine Xk.x_itd (fun _ => ?_) (fun _ => ?_)
      · wtm_at "xs"
        refine Xk.x_itd (fun _ => ?_) (fun _ => ?_)
        · wtm_at "xs"
          refine ⟨ms, ⟨m, p, dt, so, vl, aa⟩, s6, rfl, w6, ok6, hasc, by omega, by omega, fun H7 s7 => ?_⟩
          wtm_at "xs"
          exact ⟨b, _, _, _, _, _, _, aa, s6, rfl, w6.same s7, b6.same s7, ok6, by omega, by omega, by rw [k3, l3]; omega⟩
        · wtm_at "xs"
          exact ⟨b, _, _, _, _, _, _, aa, s6, rfl, w6, b6, ok6, by omega, by omega, by rw [k3, l3]; omega⟩
      · wtm_at "xs"
        exact ⟨b, _, _, _, _, _, _, aa, s6, rfl, w6, b6, ok6, by omega, by omega, by rw [k3, l3]; omega⟩
    · rintro σ' H1 ⟨b, y4, y8, y9, y10, y11, y12, aa, s, rfl, w1, b1, ok, hgl, hvl, hal⟩
      have hvl' : s.vs.length ≤ 90 := hvl
      wtm_at "xs"
      exact ⟨ms, ⟨m, p, dt, so, vl, aa⟩, s, rfl, w1, ok, hasc, by omega, by omega, fun H' _ => q H'⟩
end
theorem all_mk {l : PySem.W.OpenLaw} {w : World} {K : PySem.W.Frag} {h : Heap} {mg : Str → Option Value} {fa C_Acceptor C_Attempt f_more_than_half f_Acceptor___init__ dT_Acceptor___init__ f_Acceptor_hears f_Acceptor_promise f_Acceptor_accept f_Acceptor_fork f_Attempt___init__ f_Attempt_hear_promise f_Attempt_hear_vote f_Attempt__is_new f_Attempt_fork f_choice_of f_grounds_of f_are_grounds f_unlawful_ballot f__may_follow f__by_ballot f__law_row f__law_take f__law_members f__law_begin f__law_told f__law_event f__law_sound f_law a_NO_BALLOT : Addr} (X : K.In h) (G : h.Ns mainGlobals mg) (hfa : mg "law" = some (.ref fa))
    {od_more_than_half an_more_than_half od_Acceptor___init__ an_Acceptor___init__ dn_Acceptor___init__ od_Acceptor_hears an_Acceptor_hears od_Acceptor_promise an_Acceptor_promise od_Acceptor_accept an_Acceptor_accept od_Acceptor_fork an_Acceptor_fork od_Attempt___init__ an_Attempt___init__ od_Attempt_hear_promise an_Attempt_hear_promise od_Attempt_hear_vote an_Attempt_hear_vote od_Attempt__is_new an_Attempt__is_new od_Attempt_fork an_Attempt_fork od_choice_of an_choice_of od_grounds_of an_grounds_of od_are_grounds an_are_grounds od_unlawful_ballot an_unlawful_ballot od__may_follow an__may_follow od__by_ballot an__by_ballot od__law_row an__law_row od__law_take an__law_take od__law_members an__law_members od__law_begin an__law_begin od__law_told an__law_told od__law_event an__law_event od__law_sound an__law_sound od_law an_law : Option Addr} {sl_more_than_half sl_Acceptor___init__ sd_Acceptor___init__ sl_Acceptor_hears sl_Acceptor_promise sl_Acceptor_accept sl_Acceptor_fork sl_Attempt___init__ sl_Attempt_hear_promise sl_Attempt_hear_vote sl_Attempt__is_new sl_Attempt_fork sl_choice_of sl_grounds_of sl_are_grounds sl_unlawful_ballot sl__may_follow sl__by_ballot sl__law_row sl__law_take sl__law_members sl__law_begin sl__law_told sl__law_event sl__law_sound sl_law : Array (Option Value)} {oc_more_than_half kV_more_than_half dc_more_than_half pm_more_than_half cd_more_than_half ct_more_than_half oc_Acceptor___init__ kV_Acceptor___init__ dc_Acceptor___init__ pm_Acceptor___init__ cd_Acceptor___init__ ct_Acceptor___init__ oc_Acceptor_hears kV_Acceptor_hears dc_Acceptor_hears pm_Acceptor_hears cd_Acceptor_hears ct_Acceptor_hears oc_Acceptor_promise kV_Acceptor_promise dc_Acceptor_promise pm_Acceptor_promise cd_Acceptor_promise ct_Acceptor_promise oc_Acceptor_accept kV_Acceptor_accept dc_Acceptor_accept pm_Acceptor_accept cd_Acceptor_accept ct_Acceptor_accept oc_Acceptor_fork kV_Acceptor_fork dc_Acceptor_fork pm_Acceptor_fork cd_Acceptor_fork ct_Acceptor_fork oc_Attempt___init__ kV_Attempt___init__ dc_Attempt___init__ pm_Attempt___init__ cd_Attempt___init__ ct_Attempt___init__ oc_Attempt_hear_promise kV_Attempt_hear_promise dc_Attempt_hear_promise pm_Attempt_hear_promise cd_Attempt_hear_promise ct_Attempt_hear_promise oc_Attempt_hear_vote kV_Attempt_hear_vote dc_Attempt_hear_vote pm_Attempt_hear_vote cd_Attempt_hear_vote ct_Attempt_hear_vote oc_Attempt__is_new kV_Attempt__is_new dc_Attempt__is_new pm_Attempt__is_new cd_Attempt__is_new ct_Attempt__is_new oc_Attempt_fork kV_Attempt_fork dc_Attempt_fork pm_Attempt_fork cd_Attempt_fork ct_Attempt_fork oc_choice_of kV_choice_of dc_choice_of pm_choice_of cd_choice_of ct_choice_of oc_grounds_of kV_grounds_of dc_grounds_of pm_grounds_of cd_grounds_of ct_grounds_of oc_are_grounds kV_are_grounds dc_are_grounds pm_are_grounds cd_are_grounds ct_are_grounds oc_unlawful_ballot kV_unlawful_ballot dc_unlawful_ballot pm_unlawful_ballot cd_unlawful_ballot ct_unlawful_ballot oc__may_follow kV__may_follow dc__may_follow pm__may_follow cd__may_follow ct__may_follow oc__by_ballot kV__by_ballot dc__by_ballot pm__by_ballot cd__by_ballot ct__by_ballot oc__law_row kV__law_row dc__law_row pm__law_row cd__law_row ct__law_row oc__law_take kV__law_take dc__law_take pm__law_take cd__law_take ct__law_take oc__law_members kV__law_members dc__law_members pm__law_members cd__law_members ct__law_members oc__law_begin kV__law_begin dc__law_begin pm__law_begin cd__law_begin ct__law_begin oc__law_told kV__law_told dc__law_told pm__law_told cd__law_told ct__law_told oc__law_event kV__law_event dc__law_event pm__law_event cd__law_event ct__law_event oc__law_sound kV__law_sound dc__law_sound pm__law_sound cd__law_sound ct__law_sound oc_law kV_law dc_law pm_law cd_law ct_law : Value} {t_ASKING t_TELLING t_WON : Tok} {nd_Acceptor___init__ : Nat} {t_NB1 t_NB2 : Tok} {dn_NB : Option Addr} {n_NB : Nat} {sl_NB : Array (Option Value)}
    (aC_Acceptor : PySem.W.nsIn K mainGlobals "Acceptor" = some (some (.ref C_Acceptor)))
    (pg_Acceptor : PySem.W.plainGet K C_Acceptor Str.empty = true)
    (hd_Acceptor : PySem.W.hasDictIn K C_Acceptor = true)
    (po_Acceptor : PySem.W.plainOver K C_Acceptor = true)
    (sa_Acceptor : PySem.W.findIn K (.ref C_Acceptor) "__setattr__" = some (some (.builtin "object.__setattr__")))
    (mk_Acceptor : PySem.W.makesIn K C_Acceptor = true)
    (kc_Acceptor : PySem.W.keepIn K (.ref C_Acceptor) = true)
    (na_Acceptor_promised : PySem.W.findIn K (.ref C_Acceptor) "promised" = some none)
    (na_Acceptor_accepted : PySem.W.findIn K (.ref C_Acceptor) "accepted" = some none)
    (aC_Attempt : PySem.W.nsIn K mainGlobals "Attempt" = some (some (.ref C_Attempt)))
    (pg_Attempt : PySem.W.plainGet K C_Attempt Str.empty = true)
    (hd_Attempt : PySem.W.hasDictIn K C_Attempt = true)
    (po_Attempt : PySem.W.plainOver K C_Attempt = true)
    (sa_Attempt : PySem.W.findIn K (.ref C_Attempt) "__setattr__" = some (some (.builtin "object.__setattr__")))
    (mk_Attempt : PySem.W.makesIn K C_Attempt = true)
    (kc_Attempt : PySem.W.keepIn K (.ref C_Attempt) = true)
    (na_Attempt_ballot : PySem.W.findIn K (.ref C_Attempt) "ballot" = some none)
    (na_Attempt_entry : PySem.W.findIn K (.ref C_Attempt) "entry" = some none)
    (na_Attempt_members : PySem.W.findIn K (.ref C_Attempt) "members" = some none)
    (na_Attempt_stage : PySem.W.findIn K (.ref C_Attempt) "stage" = some none)
    (na_Attempt_promised_by : PySem.W.findIn K (.ref C_Attempt) "promised_by" = some none)
    (na_Attempt_voted_by : PySem.W.findIn K (.ref C_Attempt) "voted_by" = some none)
    (na_Attempt_bound : PySem.W.findIn K (.ref C_Attempt) "bound" = some none)
    (a_more_than_half : PySem.W.nsIn K mainGlobals "more_than_half" = some (some (.ref f_more_than_half)))
    (l_more_than_half : K.lookup f_more_than_half = some ⟨oc_more_than_half, od_more_than_half, .func (PySem.W.fnOf "more_than_half" "more_than_half" (defArgs s_more_than_half) (defBody s_more_than_half) (defScope s_more_than_half) .none kV_more_than_half dc_more_than_half pm_more_than_half an_more_than_half cd_more_than_half ct_more_than_half), sl_more_than_half⟩)
    (c_more_than_half : PySem.W.codeIn K cd_more_than_half "more_than_half" = true)
    (k_more_than_half : PySem.W.keepIn K (.ref f_more_than_half) = true)
    (a_Acceptor___init__ : PySem.W.findIn K (.ref C_Acceptor) "__init__" = some (some (.ref f_Acceptor___init__)))
    (i_Acceptor___init__ : PySem.W.isFn K (.ref f_Acceptor___init__) = true)
    (l_Acceptor___init__ : K.lookup f_Acceptor___init__ = some ⟨oc_Acceptor___init__, od_Acceptor___init__, .func (PySem.W.fnOf "__init__" "Acceptor.__init__" (defArgs s_Acceptor___init__) (defBody s_Acceptor___init__) (defScope s_Acceptor___init__) (.ref dT_Acceptor___init__) kV_Acceptor___init__ dc_Acceptor___init__ pm_Acceptor___init__ an_Acceptor___init__ cd_Acceptor___init__ ct_Acceptor___init__), sl_Acceptor___init__⟩)
    (c_Acceptor___init__ : PySem.W.codeIn K cd_Acceptor___init__ "Acceptor.__init__" = true)
    (k_Acceptor___init__ : PySem.W.keepIn K (.ref f_Acceptor___init__) = true)
    (a_Acceptor_hears : PySem.W.findIn K (.ref C_Acceptor) "hears" = some (some (.ref f_Acceptor_hears)))
    (i_Acceptor_hears : PySem.W.isFn K (.ref f_Acceptor_hears) = true)
    (l_Acceptor_hears : K.lookup f_Acceptor_hears = some ⟨oc_Acceptor_hears, od_Acceptor_hears, .func (PySem.W.fnOf "hears" "Acceptor.hears" (defArgs s_Acceptor_hears) (defBody s_Acceptor_hears) (defScope s_Acceptor_hears) .none kV_Acceptor_hears dc_Acceptor_hears pm_Acceptor_hears an_Acceptor_hears cd_Acceptor_hears ct_Acceptor_hears), sl_Acceptor_hears⟩)
    (c_Acceptor_hears : PySem.W.codeIn K cd_Acceptor_hears "Acceptor.hears" = true)
    (k_Acceptor_hears : PySem.W.keepIn K (.ref f_Acceptor_hears) = true)
    (a_Acceptor_promise : PySem.W.findIn K (.ref C_Acceptor) "promise" = some (some (.ref f_Acceptor_promise)))
    (i_Acceptor_promise : PySem.W.isFn K (.ref f_Acceptor_promise) = true)
    (l_Acceptor_promise : K.lookup f_Acceptor_promise = some ⟨oc_Acceptor_promise, od_Acceptor_promise, .func (PySem.W.fnOf "promise" "Acceptor.promise" (defArgs s_Acceptor_promise) (defBody s_Acceptor_promise) (defScope s_Acceptor_promise) .none kV_Acceptor_promise dc_Acceptor_promise pm_Acceptor_promise an_Acceptor_promise cd_Acceptor_promise ct_Acceptor_promise), sl_Acceptor_promise⟩)
    (c_Acceptor_promise : PySem.W.codeIn K cd_Acceptor_promise "Acceptor.promise" = true)
    (k_Acceptor_promise : PySem.W.keepIn K (.ref f_Acceptor_promise) = true)
    (a_Acceptor_accept : PySem.W.findIn K (.ref C_Acceptor) "accept" = some (some (.ref f_Acceptor_accept)))
    (i_Acceptor_accept : PySem.W.isFn K (.ref f_Acceptor_accept) = true)
    (l_Acceptor_accept : K.lookup f_Acceptor_accept = some ⟨oc_Acceptor_accept, od_Acceptor_accept, .func (PySem.W.fnOf "accept" "Acceptor.accept" (defArgs s_Acceptor_accept) (defBody s_Acceptor_accept) (defScope s_Acceptor_accept) .none kV_Acceptor_accept dc_Acceptor_accept pm_Acceptor_accept an_Acceptor_accept cd_Acceptor_accept ct_Acceptor_accept), sl_Acceptor_accept⟩)
    (c_Acceptor_accept : PySem.W.codeIn K cd_Acceptor_accept "Acceptor.accept" = true)
    (k_Acceptor_accept : PySem.W.keepIn K (.ref f_Acceptor_accept) = true)
    (a_Acceptor_fork : PySem.W.findIn K (.ref C_Acceptor) "fork" = some (some (.ref f_Acceptor_fork)))
    (i_Acceptor_fork : PySem.W.isFn K (.ref f_Acceptor_fork) = true)
    (l_Acceptor_fork : K.lookup f_Acceptor_fork = some ⟨oc_Acceptor_fork, od_Acceptor_fork, .func (PySem.W.fnOf "fork" "Acceptor.fork" (defArgs s_Acceptor_fork) (defBody s_Acceptor_fork) (defScope s_Acceptor_fork) .none kV_Acceptor_fork dc_Acceptor_fork pm_Acceptor_fork an_Acceptor_fork cd_Acceptor_fork ct_Acceptor_fork), sl_Acceptor_fork⟩)
    (c_Acceptor_fork : PySem.W.codeIn K cd_Acceptor_fork "Acceptor.fork" = true)
    (k_Acceptor_fork : PySem.W.keepIn K (.ref f_Acceptor_fork) = true)
    (a_Attempt___init__ : PySem.W.findIn K (.ref C_Attempt) "__init__" = some (some (.ref f_Attempt___init__)))
    (i_Attempt___init__ : PySem.W.isFn K (.ref f_Attempt___init__) = true)
    (l_Attempt___init__ : K.lookup f_Attempt___init__ = some ⟨oc_Attempt___init__, od_Attempt___init__, .func (PySem.W.fnOf "__init__" "Attempt.__init__" (defArgs s_Attempt___init__) (defBody s_Attempt___init__) (defScope s_Attempt___init__) .none kV_Attempt___init__ dc_Attempt___init__ pm_Attempt___init__ an_Attempt___init__ cd_Attempt___init__ ct_Attempt___init__), sl_Attempt___init__⟩)
    (c_Attempt___init__ : PySem.W.codeIn K cd_Attempt___init__ "Attempt.__init__" = true)
    (k_Attempt___init__ : PySem.W.keepIn K (.ref f_Attempt___init__) = true)
    (a_Attempt_hear_promise : PySem.W.findIn K (.ref C_Attempt) "hear_promise" = some (some (.ref f_Attempt_hear_promise)))
    (i_Attempt_hear_promise : PySem.W.isFn K (.ref f_Attempt_hear_promise) = true)
    (l_Attempt_hear_promise : K.lookup f_Attempt_hear_promise = some ⟨oc_Attempt_hear_promise, od_Attempt_hear_promise, .func (PySem.W.fnOf "hear_promise" "Attempt.hear_promise" (defArgs s_Attempt_hear_promise) (defBody s_Attempt_hear_promise) (defScope s_Attempt_hear_promise) .none kV_Attempt_hear_promise dc_Attempt_hear_promise pm_Attempt_hear_promise an_Attempt_hear_promise cd_Attempt_hear_promise ct_Attempt_hear_promise), sl_Attempt_hear_promise⟩)
    (c_Attempt_hear_promise : PySem.W.codeIn K cd_Attempt_hear_promise "Attempt.hear_promise" = true)
    (k_Attempt_hear_promise : PySem.W.keepIn K (.ref f_Attempt_hear_promise) = true)
    (a_Attempt_hear_vote : PySem.W.findIn K (.ref C_Attempt) "hear_vote" = some (some (.ref f_Attempt_hear_vote)))
    (i_Attempt_hear_vote : PySem.W.isFn K (.ref f_Attempt_hear_vote) = true)
    (l_Attempt_hear_vote : K.lookup f_Attempt_hear_vote = some ⟨oc_Attempt_hear_vote, od_Attempt_hear_vote, .func (PySem.W.fnOf "hear_vote" "Attempt.hear_vote" (defArgs s_Attempt_hear_vote) (defBody s_Attempt_hear_vote) (defScope s_Attempt_hear_vote) .none kV_Attempt_hear_vote dc_Attempt_hear_vote pm_Attempt_hear_vote an_Attempt_hear_vote cd_Attempt_hear_vote ct_Attempt_hear_vote), sl_Attempt_hear_vote⟩)
    (c_Attempt_hear_vote : PySem.W.codeIn K cd_Attempt_hear_vote "Attempt.hear_vote" = true)
    (k_Attempt_hear_vote : PySem.W.keepIn K (.ref f_Attempt_hear_vote) = true)
    (a_Attempt__is_new : PySem.W.findIn K (.ref C_Attempt) "_is_new" = some (some (.ref f_Attempt__is_new)))
    (i_Attempt__is_new : PySem.W.isFn K (.ref f_Attempt__is_new) = true)
    (l_Attempt__is_new : K.lookup f_Attempt__is_new = some ⟨oc_Attempt__is_new, od_Attempt__is_new, .func (PySem.W.fnOf "_is_new" "Attempt._is_new" (defArgs s_Attempt__is_new) (defBody s_Attempt__is_new) (defScope s_Attempt__is_new) .none kV_Attempt__is_new dc_Attempt__is_new pm_Attempt__is_new an_Attempt__is_new cd_Attempt__is_new ct_Attempt__is_new), sl_Attempt__is_new⟩)
    (c_Attempt__is_new : PySem.W.codeIn K cd_Attempt__is_new "Attempt._is_new" = true)
    (k_Attempt__is_new : PySem.W.keepIn K (.ref f_Attempt__is_new) = true)
    (a_Attempt_fork : PySem.W.findIn K (.ref C_Attempt) "fork" = some (some (.ref f_Attempt_fork)))
    (i_Attempt_fork : PySem.W.isFn K (.ref f_Attempt_fork) = true)
    (l_Attempt_fork : K.lookup f_Attempt_fork = some ⟨oc_Attempt_fork, od_Attempt_fork, .func (PySem.W.fnOf "fork" "Attempt.fork" (defArgs s_Attempt_fork) (defBody s_Attempt_fork) (defScope s_Attempt_fork) .none kV_Attempt_fork dc_Attempt_fork pm_Attempt_fork an_Attempt_fork cd_Attempt_fork ct_Attempt_fork), sl_Attempt_fork⟩)
    (c_Attempt_fork : PySem.W.codeIn K cd_Attempt_fork "Attempt.fork" = true)
    (k_Attempt_fork : PySem.W.keepIn K (.ref f_Attempt_fork) = true)
    (a_choice_of : PySem.W.nsIn K mainGlobals "choice_of" = some (some (.ref f_choice_of)))
    (l_choice_of : K.lookup f_choice_of = some ⟨oc_choice_of, od_choice_of, .func (PySem.W.fnOf "choice_of" "choice_of" (defArgs s_choice_of) (defBody s_choice_of) (defScope s_choice_of) .none kV_choice_of dc_choice_of pm_choice_of an_choice_of cd_choice_of ct_choice_of), sl_choice_of⟩)
    (c_choice_of : PySem.W.codeIn K cd_choice_of "choice_of" = true)
    (k_choice_of : PySem.W.keepIn K (.ref f_choice_of) = true)
    (a_grounds_of : PySem.W.nsIn K mainGlobals "grounds_of" = some (some (.ref f_grounds_of)))
    (l_grounds_of : K.lookup f_grounds_of = some ⟨oc_grounds_of, od_grounds_of, .func (PySem.W.fnOf "grounds_of" "grounds_of" (defArgs s_grounds_of) (defBody s_grounds_of) (defScope s_grounds_of) .none kV_grounds_of dc_grounds_of pm_grounds_of an_grounds_of cd_grounds_of ct_grounds_of), sl_grounds_of⟩)
    (c_grounds_of : PySem.W.codeIn K cd_grounds_of "grounds_of" = true)
    (k_grounds_of : PySem.W.keepIn K (.ref f_grounds_of) = true)
    (a_are_grounds : PySem.W.nsIn K mainGlobals "are_grounds" = some (some (.ref f_are_grounds)))
    (l_are_grounds : K.lookup f_are_grounds = some ⟨oc_are_grounds, od_are_grounds, .func (PySem.W.fnOf "are_grounds" "are_grounds" (defArgs s_are_grounds) (defBody s_are_grounds) (defScope s_are_grounds) .none kV_are_grounds dc_are_grounds pm_are_grounds an_are_grounds cd_are_grounds ct_are_grounds), sl_are_grounds⟩)
    (c_are_grounds : PySem.W.codeIn K cd_are_grounds "are_grounds" = true)
    (k_are_grounds : PySem.W.keepIn K (.ref f_are_grounds) = true)
    (a_unlawful_ballot : PySem.W.nsIn K mainGlobals "unlawful_ballot" = some (some (.ref f_unlawful_ballot)))
    (l_unlawful_ballot : K.lookup f_unlawful_ballot = some ⟨oc_unlawful_ballot, od_unlawful_ballot, .func (PySem.W.fnOf "unlawful_ballot" "unlawful_ballot" (defArgs s_unlawful_ballot) (defBody s_unlawful_ballot) (defScope s_unlawful_ballot) .none kV_unlawful_ballot dc_unlawful_ballot pm_unlawful_ballot an_unlawful_ballot cd_unlawful_ballot ct_unlawful_ballot), sl_unlawful_ballot⟩)
    (c_unlawful_ballot : PySem.W.codeIn K cd_unlawful_ballot "unlawful_ballot" = true)
    (k_unlawful_ballot : PySem.W.keepIn K (.ref f_unlawful_ballot) = true)
    (a__may_follow : PySem.W.nsIn K mainGlobals "_may_follow" = some (some (.ref f__may_follow)))
    (l__may_follow : K.lookup f__may_follow = some ⟨oc__may_follow, od__may_follow, .func (PySem.W.fnOf "_may_follow" "_may_follow" (defArgs s__may_follow) (defBody s__may_follow) (defScope s__may_follow) .none kV__may_follow dc__may_follow pm__may_follow an__may_follow cd__may_follow ct__may_follow), sl__may_follow⟩)
    (c__may_follow : PySem.W.codeIn K cd__may_follow "_may_follow" = true)
    (k__may_follow : PySem.W.keepIn K (.ref f__may_follow) = true)
    (a__by_ballot : PySem.W.nsIn K mainGlobals "_by_ballot" = some (some (.ref f__by_ballot)))
    (l__by_ballot : K.lookup f__by_ballot = some ⟨oc__by_ballot, od__by_ballot, .func (PySem.W.fnOf "_by_ballot" "_by_ballot" (defArgs s__by_ballot) (defBody s__by_ballot) (defScope s__by_ballot) .none kV__by_ballot dc__by_ballot pm__by_ballot an__by_ballot cd__by_ballot ct__by_ballot), sl__by_ballot⟩)
    (c__by_ballot : PySem.W.codeIn K cd__by_ballot "_by_ballot" = true)
    (k__by_ballot : PySem.W.keepIn K (.ref f__by_ballot) = true)
    (a__law_row : PySem.W.nsIn K mainGlobals "_law_row" = some (some (.ref f__law_row)))
    (l__law_row : K.lookup f__law_row = some ⟨oc__law_row, od__law_row, .func (PySem.W.fnOf "_law_row" "_law_row" (defArgs s__law_row) (defBody s__law_row) (defScope s__law_row) .none kV__law_row dc__law_row pm__law_row an__law_row cd__law_row ct__law_row), sl__law_row⟩)
    (c__law_row : PySem.W.codeIn K cd__law_row "_law_row" = true)
    (k__law_row : PySem.W.keepIn K (.ref f__law_row) = true)
    (a__law_take : PySem.W.nsIn K mainGlobals "_law_take" = some (some (.ref f__law_take)))
    (l__law_take : K.lookup f__law_take = some ⟨oc__law_take, od__law_take, .func (PySem.W.fnOf "_law_take" "_law_take" (defArgs s__law_take) (defBody s__law_take) (defScope s__law_take) .none kV__law_take dc__law_take pm__law_take an__law_take cd__law_take ct__law_take), sl__law_take⟩)
    (c__law_take : PySem.W.codeIn K cd__law_take "_law_take" = true)
    (k__law_take : PySem.W.keepIn K (.ref f__law_take) = true)
    (a__law_members : PySem.W.nsIn K mainGlobals "_law_members" = some (some (.ref f__law_members)))
    (l__law_members : K.lookup f__law_members = some ⟨oc__law_members, od__law_members, .func (PySem.W.fnOf "_law_members" "_law_members" (defArgs s__law_members) (defBody s__law_members) (defScope s__law_members) .none kV__law_members dc__law_members pm__law_members an__law_members cd__law_members ct__law_members), sl__law_members⟩)
    (c__law_members : PySem.W.codeIn K cd__law_members "_law_members" = true)
    (k__law_members : PySem.W.keepIn K (.ref f__law_members) = true)
    (a__law_begin : PySem.W.nsIn K mainGlobals "_law_begin" = some (some (.ref f__law_begin)))
    (l__law_begin : K.lookup f__law_begin = some ⟨oc__law_begin, od__law_begin, .func (PySem.W.fnOf "_law_begin" "_law_begin" (defArgs s__law_begin) (defBody s__law_begin) (defScope s__law_begin) .none kV__law_begin dc__law_begin pm__law_begin an__law_begin cd__law_begin ct__law_begin), sl__law_begin⟩)
    (c__law_begin : PySem.W.codeIn K cd__law_begin "_law_begin" = true)
    (k__law_begin : PySem.W.keepIn K (.ref f__law_begin) = true)
    (a__law_told : PySem.W.nsIn K mainGlobals "_law_told" = some (some (.ref f__law_told)))
    (l__law_told : K.lookup f__law_told = some ⟨oc__law_told, od__law_told, .func (PySem.W.fnOf "_law_told" "_law_told" (defArgs s__law_told) (defBody s__law_told) (defScope s__law_told) .none kV__law_told dc__law_told pm__law_told an__law_told cd__law_told ct__law_told), sl__law_told⟩)
    (c__law_told : PySem.W.codeIn K cd__law_told "_law_told" = true)
    (k__law_told : PySem.W.keepIn K (.ref f__law_told) = true)
    (a__law_event : PySem.W.nsIn K mainGlobals "_law_event" = some (some (.ref f__law_event)))
    (l__law_event : K.lookup f__law_event = some ⟨oc__law_event, od__law_event, .func (PySem.W.fnOf "_law_event" "_law_event" (defArgs s__law_event) (defBody s__law_event) (defScope s__law_event) .none kV__law_event dc__law_event pm__law_event an__law_event cd__law_event ct__law_event), sl__law_event⟩)
    (c__law_event : PySem.W.codeIn K cd__law_event "_law_event" = true)
    (k__law_event : PySem.W.keepIn K (.ref f__law_event) = true)
    (a__law_sound : PySem.W.nsIn K mainGlobals "_law_sound" = some (some (.ref f__law_sound)))
    (l__law_sound : K.lookup f__law_sound = some ⟨oc__law_sound, od__law_sound, .func (PySem.W.fnOf "_law_sound" "_law_sound" (defArgs s__law_sound) (defBody s__law_sound) (defScope s__law_sound) .none kV__law_sound dc__law_sound pm__law_sound an__law_sound cd__law_sound ct__law_sound), sl__law_sound⟩)
    (c__law_sound : PySem.W.codeIn K cd__law_sound "_law_sound" = true)
    (k__law_sound : PySem.W.keepIn K (.ref f__law_sound) = true)
    (a_law : PySem.W.nsIn K mainGlobals "law" = some (some (.ref f_law)))
    (l_law : K.lookup f_law = some ⟨oc_law, od_law, .func (PySem.W.fnOf "law" "law" (defArgs s_law) (defBody s_law) (defScope s_law) .none kV_law dc_law pm_law an_law cd_law ct_law), sl_law⟩)
    (c_law : PySem.W.codeIn K cd_law "law" = true)
    (k_law : PySem.W.keepIn K (.ref f_law) = true)
    (z_ASKING : PySem.W.nsIn K mainGlobals "ASKING" = some (some (.str "asking" t_ASKING)))
    (z_NO_BALLOT : PySem.W.nsIn K mainGlobals "NO_BALLOT" = some (some (.ref a_NO_BALLOT)))
    (zl_NO_BALLOT : K.lookup a_NO_BALLOT = some ⟨.type "tuple", dn_NB, .seq #[.int 0 t_NB1, .int 0 t_NB2] n_NB, sl_NB⟩)
    (z_TELLING : PySem.W.nsIn K mainGlobals "TELLING" = some (some (.str "telling" t_TELLING)))
    (z_WON : PySem.W.nsIn K mainGlobals "WON" = some (some (.str "won" t_WON)))
    (lT_Acceptor___init__ : K.lookup dT_Acceptor___init__ = some ⟨.type "tuple", dn_Acceptor___init__, .seq #[.ref a_NO_BALLOT, .none] nd_Acceptor___init__, sd_Acceptor___init__⟩)
    (z_all : PySem.W.nsIn K mainGlobals "all" = some none)
    (z_any : PySem.W.nsIn K mainGlobals "any" = some none)
    (z_int : PySem.W.nsIn K mainGlobals "int" = some none)
    (z_len : PySem.W.nsIn K mainGlobals "len" = some none)
    (z_list : PySem.W.nsIn K mainGlobals "list" = some none)
    (z_range : PySem.W.nsIn K mainGlobals "range" = some none)
    (z_set : PySem.W.nsIn K mainGlobals "set" = some none)
    (z_sorted : PySem.W.nsIn K mainGlobals "sorted" = some none)
    (z_tuple : PySem.W.nsIn K mainGlobals "tuple" = some none)
    : ∃ fd : FuncData, (∀ (s : Shared) (v : Value), BindsTo s fd ⟨[v], []⟩ [("script", v)]) ∧ ∀ base : Heap, K.In base → base.Ns mainGlobals mg → FnOk l.prog w K mg base CX0 6 fa fd ["script"] (sp_law K) := by
  have e := hfa.symm.trans (PySem.W.mg_of X G a_law)
  cases e
  have F_more_than_half := fun_mk (st := s_more_than_half) l_more_than_half c_more_than_half k_more_than_half
  have b_more_than_half := F_more_than_half.binds (ps := ["members", "indexes"]) fun _ _ _ _ _ _ us hl => match us, hl with | [_, _], _ => rfl
  have F_Acceptor___init__ := Xk.funD_mk (st := s_Acceptor___init__) (dvs := [.ref a_NO_BALLOT, .non]) l_Acceptor___init__ c_Acceptor___init__ k_Acceptor___init__ (by simp) lT_Acceptor___init__ rfl (its := [.ref a_NO_BALLOT, .none]) (.cons rfl (.cons rfl Paired.nil))
  obtain ⟨D0_Acceptor___init__, V0_Acceptor___init__, b0_Acceptor___init__⟩ := F_Acceptor___init__.binds1 (ps := ["self", "promised", "accepted"]) 1 0 (by simp) rfl fun _ _ _ _ _ _ _ us its h1 h2 => match us, h1, its, h2 with | [_], _, [_, _], _ => ⟨_, rfl, rfl⟩
  obtain ⟨D1_Acceptor___init__, V1_Acceptor___init__, b1_Acceptor___init__⟩ := F_Acceptor___init__.binds1 (ps := ["self", "promised", "accepted"]) 2 1 (by simp) rfl fun _ _ _ _ _ _ _ us its h1 h2 => match us, h1, its, h2 with | [_, _], _, [_, _], _ => ⟨_, rfl, rfl⟩
  obtain ⟨D2_Acceptor___init__, V2_Acceptor___init__, b2_Acceptor___init__⟩ := F_Acceptor___init__.binds1 (ps := ["self", "promised", "accepted"]) 3 2 (by simp) rfl fun _ _ _ _ _ _ _ us its h1 h2 => match us, h1, its, h2 with | [_, _, _], _, [_, _], _ => ⟨_, rfl, rfl⟩
  have F_Acceptor_hears := fun_mk (st := s_Acceptor_hears) l_Acceptor_hears c_Acceptor_hears k_Acceptor_hears
  have b_Acceptor_hears := F_Acceptor_hears.binds (ps := ["self", "ballot"]) fun _ _ _ _ _ _ us hl => match us, hl with | [_, _], _ => rfl
  have F_Acceptor_promise := fun_mk (st := s_Acceptor_promise) l_Acceptor_promise c_Acceptor_promise k_Acceptor_promise
  have b_Acceptor_promise := F_Acceptor_promise.binds (ps := ["self", "ballot"]) fun _ _ _ _ _ _ us hl => match us, hl with | [_, _], _ => rfl
  have F_Acceptor_accept := fun_mk (st := s_Acceptor_accept) l_Acceptor_accept c_Acceptor_accept k_Acceptor_accept
  have b_Acceptor_accept := F_Acceptor_accept.binds (ps := ["self", "ballot", "entry"]) fun _ _ _ _ _ _ us hl => match us, hl with | [_, _, _], _ => rfl
  have F_Acceptor_fork := fun_mk (st := s_Acceptor_fork) l_Acceptor_fork c_Acceptor_fork k_Acceptor_fork
  have b_Acceptor_fork := F_Acceptor_fork.binds (ps := ["self"]) fun _ _ _ _ _ _ us hl => match us, hl with | [_], _ => rfl
  have F_Attempt___init__ := fun_mk (st := s_Attempt___init__) l_Attempt___init__ c_Attempt___init__ k_Attempt___init__
  have b_Attempt___init__ := F_Attempt___init__.binds (ps := ["self", "ballot", "entry", "members"]) fun _ _ _ _ _ _ us hl => match us, hl with | [_, _, _, _], _ => rfl
  have F_Attempt_hear_promise := fun_mk (st := s_Attempt_hear_promise) l_Attempt_hear_promise c_Attempt_hear_promise k_Attempt_hear_promise
  have b_Attempt_hear_promise := F_Attempt_hear_promise.binds (ps := ["self", "index", "accepted"]) fun _ _ _ _ _ _ us hl => match us, hl with | [_, _, _], _ => rfl
  have F_Attempt_hear_vote := fun_mk (st := s_Attempt_hear_vote) l_Attempt_hear_vote c_Attempt_hear_vote k_Attempt_hear_vote
  have b_Attempt_hear_vote := F_Attempt_hear_vote.binds (ps := ["self", "index"]) fun _ _ _ _ _ _ us hl => match us, hl with | [_, _], _ => rfl
  have F_Attempt__is_new := fun_mk (st := s_Attempt__is_new) l_Attempt__is_new c_Attempt__is_new k_Attempt__is_new
  have b_Attempt__is_new := F_Attempt__is_new.binds (ps := ["self", "index", "heard"]) fun _ _ _ _ _ _ us hl => match us, hl with | [_, _, _], _ => rfl
  have F_Attempt_fork := fun_mk (st := s_Attempt_fork) l_Attempt_fork c_Attempt_fork k_Attempt_fork
  have b_Attempt_fork := F_Attempt_fork.binds (ps := ["self"]) fun _ _ _ _ _ _ us hl => match us, hl with | [_], _ => rfl
  have F_choice_of := fun_mk (st := s_choice_of) l_choice_of c_choice_of k_choice_of
  have b_choice_of := F_choice_of.binds (ps := ["members", "votes"]) fun _ _ _ _ _ _ us hl => match us, hl with | [_, _], _ => rfl
  have F_grounds_of := fun_mk (st := s_grounds_of) l_grounds_of c_grounds_of k_grounds_of
  have b_grounds_of := F_grounds_of.binds (ps := ["members", "votes"]) fun _ _ _ _ _ _ us hl => match us, hl with | [_, _], _ => rfl
  have F_are_grounds := fun_mk (st := s_are_grounds) l_are_grounds c_are_grounds k_are_grounds
  have b_are_grounds := F_are_grounds.binds (ps := ["members", "votes", "grounds"]) fun _ _ _ _ _ _ us hl => match us, hl with | [_, _, _], _ => rfl
  have F_unlawful_ballot := fun_mk (st := s_unlawful_ballot) l_unlawful_ballot c_unlawful_ballot k_unlawful_ballot
  have b_unlawful_ballot := F_unlawful_ballot.binds (ps := ["members", "votes"]) fun _ _ _ _ _ _ us hl => match us, hl with | [_, _], _ => rfl
  have F__may_follow := fun_mk (st := s__may_follow) l__may_follow c__may_follow k__may_follow
  have b__may_follow := F__may_follow.binds (ps := ["members", "told", "last", "entry"]) fun _ _ _ _ _ _ us hl => match us, hl with | [_, _, _, _], _ => rfl
  have F__by_ballot := fun_mk (st := s__by_ballot) l__by_ballot c__by_ballot k__by_ballot
  have b__by_ballot := F__by_ballot.binds (ps := ["members", "votes"]) fun _ _ _ _ _ _ us hl => match us, hl with | [_, _], _ => rfl
  have F__law_row := fun_mk (st := s__law_row) l__law_row c__law_row k__law_row
  have b__law_row := F__law_row.binds (ps := ["script", "k"]) fun _ _ _ _ _ _ us hl => match us, hl with | [_, _], _ => rfl
  have F__law_take := fun_mk (st := s__law_take) l__law_take c__law_take k__law_take
  have b__law_take := F__law_take.binds (ps := ["box", "size"]) fun _ _ _ _ _ _ us hl => match us, hl with | [_, _], _ => rfl
  have F__law_members := fun_mk (st := s__law_members) l__law_members c__law_members k__law_members
  have b__law_members := F__law_members.binds (ps := ["box", "size"]) fun _ _ _ _ _ _ us hl => match us, hl with | [_, _], _ => rfl
  have F__law_begin := fun_mk (st := s__law_begin) l__law_begin c__law_begin k__law_begin
  have b__law_begin := F__law_begin.binds (ps := ["box", "attempts", "soup", "members"]) fun _ _ _ _ _ _ us hl => match us, hl with | [_, _, _, _], _ => rfl
  have F__law_told := fun_mk (st := s__law_told) l__law_told c__law_told k__law_told
  have b__law_told := F__law_told.binds (ps := ["acceptors", "member", "ballot"]) fun _ _ _ _ _ _ us hl => match us, hl with | [_, _, _], _ => rfl
  have F__law_event := fun_mk (st := s__law_event) l__law_event c__law_event k__law_event
  have b__law_event := F__law_event.binds (ps := ["message", "acceptors", "attempts", "soup", "votes"]) fun _ _ _ _ _ _ us hl => match us, hl with | [_, _, _, _, _], _ => rfl
  have F__law_sound := fun_mk (st := s__law_sound) l__law_sound c__law_sound k__law_sound
  have b__law_sound := F__law_sound.binds (ps := ["members", "votes", "attempts"]) fun _ _ _ _ _ _ us hl => match us, hl with | [_, _, _], _ => rfl
  have F_law := fun_mk (st := s_law) l_law c_law k_law
  have b_law := F_law.binds (ps := ["script"]) fun _ _ _ _ _ _ us hl => match us, hl with | [_], _ => rfl
  let T : Txt K mg := ⟨C_Acceptor, ⟨pg_Acceptor, hd_Acceptor, po_Acceptor, sa_Acceptor⟩, PySem.W.mg_of X G aC_Acceptor, na_Acceptor_promised, na_Acceptor_accepted, C_Attempt, ⟨pg_Attempt, hd_Attempt, po_Attempt, sa_Attempt⟩, PySem.W.mg_of X G aC_Attempt, na_Attempt_ballot, na_Attempt_entry, na_Attempt_members, na_Attempt_stage, na_Attempt_promised_by, na_Attempt_voted_by, na_Attempt_bound, t_ASKING, PySem.W.mg_of X G z_ASKING, a_NO_BALLOT, PySem.W.mg_of X G z_NO_BALLOT, (fun H => Or.inr ⟨_, _, _, zl_NO_BALLOT, rfl, rfl, (by show 2 ≤ sizeLine; decide), .cons ⟨_, rfl⟩ (.cons ⟨_, rfl⟩ .nil)⟩), t_TELLING, PySem.W.mg_of X G z_TELLING, t_WON, PySem.W.mg_of X G z_WON, f_more_than_half, _, F_more_than_half, b_more_than_half, PySem.W.mg_of X G a_more_than_half, f_Acceptor___init__, _, F_Acceptor___init__, D0_Acceptor___init__, V0_Acceptor___init__, b0_Acceptor___init__, D1_Acceptor___init__, V1_Acceptor___init__, b1_Acceptor___init__, D2_Acceptor___init__, V2_Acceptor___init__, b2_Acceptor___init__, ⟨mk_Acceptor, a_Acceptor___init__, i_Acceptor___init__, kc_Acceptor⟩, f_Acceptor_hears, _, F_Acceptor_hears, b_Acceptor_hears, ⟨a_Acceptor_hears, i_Acceptor_hears, k_Acceptor_hears⟩, f_Acceptor_promise, _, F_Acceptor_promise, b_Acceptor_promise, ⟨a_Acceptor_promise, i_Acceptor_promise, k_Acceptor_promise⟩, f_Acceptor_accept, _, F_Acceptor_accept, b_Acceptor_accept, ⟨a_Acceptor_accept, i_Acceptor_accept, k_Acceptor_accept⟩, f_Acceptor_fork, _, F_Acceptor_fork, b_Acceptor_fork, ⟨a_Acceptor_fork, i_Acceptor_fork, k_Acceptor_fork⟩, f_Attempt___init__, _, F_Attempt___init__, b_Attempt___init__, ⟨mk_Attempt, a_Attempt___init__, i_Attempt___init__, kc_Attempt⟩, f_Attempt_hear_promise, _, F_Attempt_hear_promise, b_Attempt_hear_promise, ⟨a_Attempt_hear_promise, i_Attempt_hear_promise, k_Attempt_hear_promise⟩, f_Attempt_hear_vote, _, F_Attempt_hear_vote, b_Attempt_hear_vote, ⟨a_Attempt_hear_vote, i_Attempt_hear_vote, k_Attempt_hear_vote⟩, f_Attempt__is_new, _, F_Attempt__is_new, b_Attempt__is_new, ⟨a_Attempt__is_new, i_Attempt__is_new, k_Attempt__is_new⟩, f_Attempt_fork, _, F_Attempt_fork, b_Attempt_fork, ⟨a_Attempt_fork, i_Attempt_fork, k_Attempt_fork⟩, f_choice_of, _, F_choice_of, b_choice_of, PySem.W.mg_of X G a_choice_of, f_grounds_of, _, F_grounds_of, b_grounds_of, PySem.W.mg_of X G a_grounds_of, f_are_grounds, _, F_are_grounds, b_are_grounds, PySem.W.mg_of X G a_are_grounds, f_unlawful_ballot, _, F_unlawful_ballot, b_unlawful_ballot, PySem.W.mg_of X G a_unlawful_ballot, f__may_follow, _, F__may_follow, b__may_follow, PySem.W.mg_of X G a__may_follow, f__by_ballot, _, F__by_ballot, b__by_ballot, PySem.W.mg_of X G a__by_ballot, f__law_row, _, F__law_row, b__law_row, PySem.W.mg_of X G a__law_row, f__law_take, _, F__law_take, b__law_take, PySem.W.mg_of X G a__law_take, f__law_members, _, F__law_members, b__law_members, PySem.W.mg_of X G a__law_members, f__law_begin, _, F__law_begin, b__law_begin, PySem.W.mg_of X G a__law_begin, f__law_told, _, F__law_told, b__law_told, PySem.W.mg_of X G a__law_told, f__law_event, _, F__law_event, b__law_event, PySem.W.mg_of X G a__law_event, f__law_sound, _, F__law_sound, b__law_sound, PySem.W.mg_of X G a__law_sound, fa, _, F_law, b_law, PySem.W.mg_of X G a_law, PySem.W.mg_none_of X G z_all, PySem.W.mg_none_of X G z_any, PySem.W.mg_none_of X G z_int, PySem.W.mg_none_of X G z_len, PySem.W.mg_none_of X G z_list, PySem.W.mg_none_of X G z_range, PySem.W.mg_none_of X G z_set, PySem.W.mg_none_of X G z_sorted, PySem.W.mg_none_of X G z_tuple⟩
  exact ⟨PySem.W.fnOf "law" "law" (defArgs s_law) (defBody s_law) (defScope s_law) .none kV_law dc_law pm_law an_law cd_law ct_law, fun s v => .of_eq rfl, fun base _ _ => ok_law T⟩
end K37
open PySem PySem.W PyProof.Rows
set_option maxRecDepth 100000 in
set_option maxHeartbeats 0 in
theorem PySem.Challenge.cw_crosskeep_k37_whole_acceptors_make_lawfu_holds : PySem.Challenge.rw_crosskeep_k37_whole_acceptors_make_lawfu.Holds := by
  w_on; o_law; k_head; (case hw => w_witness2)
  k_fill
  refine L2.walk_of (l := PySem.Challenge.rw_crosskeep_k37_whole_acceptors_make_lawfu) (n := 63) (k := 6) (x := "script") (CX := fun _ => L2.CX0) (sp := fun w => K37.sp_law _) rfl (by decide) rfl ⟨rfl, by decide, by decide⟩ (fun w h Y => PySem.W.kIn_of Y) ?F (fun _ _ a ns hl _ hS => ⟨a, ns, rfl, hS, hl, fun _ => rfl⟩) (fun _ _ _ _ _ h => h)
  case F =>
    intro w mg fa h KX G hmg
    refine' K37.all_mk KX G hmg ?aC_Acceptor ?pg_Acceptor ?hd_Acceptor ?po_Acceptor ?sa_Acceptor ?mk_Acceptor ?kc_Acceptor ?na_Acceptor_promised ?na_Acceptor_accepted ?aC_Attempt ?pg_Attempt ?hd_Attempt ?po_Attempt ?sa_Attempt ?mk_Attempt ?kc_Attempt ?na_Attempt_ballot ?na_Attempt_entry ?na_Attempt_members ?na_Attempt_stage ?na_Attempt_promised_by ?na_Attempt_voted_by ?na_Attempt_bound ?a_more_than_half ?l_more_than_half ?c_more_than_half ?k_more_than_half ?a_Acceptor___init__ ?i_Acceptor___init__ ?l_Acceptor___init__ ?c_Acceptor___init__ ?k_Acceptor___init__ ?a_Acceptor_hears ?i_Acceptor_hears ?l_Acceptor_hears ?c_Acceptor_hears ?k_Acceptor_hears ?a_Acceptor_promise ?i_Acceptor_promise ?l_Acceptor_promise ?c_Acceptor_promise ?k_Acceptor_promise ?a_Acceptor_accept ?i_Acceptor_accept ?l_Acceptor_accept ?c_Acceptor_accept ?k_Acceptor_accept ?a_Acceptor_fork ?i_Acceptor_fork ?l_Acceptor_fork ?c_Acceptor_fork ?k_Acceptor_fork ?a_Attempt___init__ ?i_Attempt___init__ ?l_Attempt___init__ ?c_Attempt___init__ ?k_Attempt___init__ ?a_Attempt_hear_promise ?i_Attempt_hear_promise ?l_Attempt_hear_promise ?c_Attempt_hear_promise ?k_Attempt_hear_promise ?a_Attempt_hear_vote ?i_Attempt_hear_vote ?l_Attempt_hear_vote ?c_Attempt_hear_vote ?k_Attempt_hear_vote ?a_Attempt__is_new ?i_Attempt__is_new ?l_Attempt__is_new ?c_Attempt__is_new ?k_Attempt__is_new ?a_Attempt_fork ?i_Attempt_fork ?l_Attempt_fork ?c_Attempt_fork ?k_Attempt_fork ?a_choice_of ?l_choice_of ?c_choice_of ?k_choice_of ?a_grounds_of ?l_grounds_of ?c_grounds_of ?k_grounds_of ?a_are_grounds ?l_are_grounds ?c_are_grounds ?k_are_grounds ?a_unlawful_ballot ?l_unlawful_ballot ?c_unlawful_ballot ?k_unlawful_ballot ?a__may_follow ?l__may_follow ?c__may_follow ?k__may_follow ?a__by_ballot ?l__by_ballot ?c__by_ballot ?k__by_ballot ?a__law_row ?l__law_row ?c__law_row ?k__law_row ?a__law_take ?l__law_take ?c__law_take ?k__law_take ?a__law_members ?l__law_members ?c__law_members ?k__law_members ?a__law_begin ?l__law_begin ?c__law_begin ?k__law_begin ?a__law_told ?l__law_told ?c__law_told ?k__law_told ?a__law_event ?l__law_event ?c__law_event ?k__law_event ?a__law_sound ?l__law_sound ?c__law_sound ?k__law_sound ?a_law ?l_law ?c_law ?k_law ?z_ASKING ?z_NO_BALLOT ?zl_NO_BALLOT ?z_TELLING ?z_WON ?lT_Acceptor___init__ ?z_all ?z_any ?z_int ?z_len ?z_list ?z_range ?z_set ?z_sorted ?z_tuple
    (case aC_Acceptor => k_is)
    (case pg_Acceptor => k_is)
    (case hd_Acceptor => k_is)
    (case po_Acceptor => k_is)
    (case sa_Acceptor => k_is)
    (case mk_Acceptor => k_is)
    (case kc_Acceptor => k_is)
    (case na_Acceptor_promised => k_is)
    (case na_Acceptor_accepted => k_is)
    (case aC_Attempt => k_is)
    (case pg_Attempt => k_is)
    (case hd_Attempt => k_is)
    (case po_Attempt => k_is)
    (case sa_Attempt => k_is)
    (case mk_Attempt => k_is)
    (case kc_Attempt => k_is)
    (case na_Attempt_ballot => k_is)
    (case na_Attempt_entry => k_is)
    (case na_Attempt_members => k_is)
    (case na_Attempt_stage => k_is)
    (case na_Attempt_promised_by => k_is)
    (case na_Attempt_voted_by => k_is)
    (case na_Attempt_bound => k_is)
    (case a_more_than_half => k_is)
    (case l_more_than_half => k_is)
    (case c_more_than_half => k_is)
    (case k_more_than_half => k_is)
    (case a_Acceptor___init__ => k_is)
    (case i_Acceptor___init__ => k_is)
    (case l_Acceptor___init__ => k_is)
    (case c_Acceptor___init__ => k_is)
    (case k_Acceptor___init__ => k_is)
    (case a_Acceptor_hears => k_is)
    (case i_Acceptor_hears => k_is)
    (case l_Acceptor_hears => k_is)
    (case c_Acceptor_hears => k_is)
    (case k_Acceptor_hears => k_is)
    (case a_Acceptor_promise => k_is)
    (case i_Acceptor_promise => k_is)
    (case l_Acceptor_promise => k_is)
    (case c_Acceptor_promise => k_is)
    (case k_Acceptor_promise => k_is)
    (case a_Acceptor_accept => k_is)
    (case i_Acceptor_accept => k_is)
    (case l_Acceptor_accept => k_is)
    (case c_Acceptor_accept => k_is)
    (case k_Acceptor_accept => k_is)
    (case a_Acceptor_fork => k_is)
    (case i_Acceptor_fork => k_is)
    (case l_Acceptor_fork => k_is)
    (case c_Acceptor_fork => k_is)
    (case k_Acceptor_fork => k_is)
    (case a_Attempt___init__ => k_is)
    (case i_Attempt___init__ => k_is)
    (case l_Attempt___init__ => k_is)
    (case c_Attempt___init__ => k_is)
    (case k_Attempt___init__ => k_is)
    (case a_Attempt_hear_promise => k_is)
    (case i_Attempt_hear_promise => k_is)
    (case l_Attempt_hear_promise => k_is)
    (case c_Attempt_hear_promise => k_is)
    (case k_Attempt_hear_promise => k_is)
    (case a_Attempt_hear_vote => k_is)
    (case i_Attempt_hear_vote => k_is)
    (case l_Attempt_hear_vote => k_is)
    (case c_Attempt_hear_vote => k_is)
    (case k_Attempt_hear_vote => k_is)
    (case a_Attempt__is_new => k_is)
    (case i_Attempt__is_new => k_is)
    (case l_Attempt__is_new => k_is)
    (case c_Attempt__is_new => k_is)
    (case k_Attempt__is_new => k_is)
    (case a_Attempt_fork => k_is)
    (case i_Attempt_fork => k_is)
    (case l_Attempt_fork => k_is)
    (case c_Attempt_fork => k_is)
    (case k_Attempt_fork => k_is)
    (case a_choice_of => k_is)
    (case l_choice_of => k_is)
    (case c_choice_of => k_is)
    (case k_choice_of => k_is)
    (case a_grounds_of => k_is)
    (case l_grounds_of => k_is)
    (case c_grounds_of => k_is)
    (case k_grounds_of => k_is)
    (case a_are_grounds => k_is)
    (case l_are_grounds => k_is)
    (case c_are_grounds => k_is)
    (case k_are_grounds => k_is)
    (case a_unlawful_ballot => k_is)
    (case l_unlawful_ballot => k_is)
    (case c_unlawful_ballot => k_is)
    (case k_unlawful_ballot => k_is)
    (case a__may_follow => k_is)
    (case l__may_follow => k_is)
    (case c__may_follow => k_is)
    (case k__may_follow => k_is)
    (case a__by_ballot => k_is)
    (case l__by_ballot => k_is)
    (case c__by_ballot => k_is)
    (case k__by_ballot => k_is)
    (case a__law_row => k_is)
    (case l__law_row => k_is)
    (case c__law_row => k_is)
    (case k__law_row => k_is)
    (case a__law_take => k_is)
    (case l__law_take => k_is)
    (case c__law_take => k_is)
    (case k__law_take => k_is)
    (case a__law_members => k_is)
    (case l__law_members => k_is)
    (case c__law_members => k_is)
    (case k__law_members => k_is)
    (case a__law_begin => k_is)
    (case l__law_begin => k_is)
    (case c__law_begin => k_is)
    (case k__law_begin => k_is)
    (case a__law_told => k_is)
    (case l__law_told => k_is)
    (case c__law_told => k_is)
    (case k__law_told => k_is)
    (case a__law_event => k_is)
    (case l__law_event => k_is)
    (case c__law_event => k_is)
    (case k__law_event => k_is)
    (case a__law_sound => k_is)
    (case l__law_sound => k_is)
    (case c__law_sound => k_is)
    (case k__law_sound => k_is)
    (case a_law => k_is)
    (case l_law => k_is)
    (case c_law => k_is)
    (case k_law => k_is)
    (case z_ASKING => k_is)
    (case z_NO_BALLOT => k_is)
    (case zl_NO_BALLOT => k_is)
    (case z_TELLING => k_is)
    (case z_WON => k_is)
    (case lT_Acceptor___init__ => k_is)
    (case z_all => k_is)
    (case z_any => k_is)
    (case z_int => k_is)
    (case z_len => k_is)
    (case z_list => k_is)
    (case z_range => k_is)
    (case z_set => k_is)
    (case z_sorted => k_is)
    (case z_tuple => k_is)
#print axioms PySem.Challenge.cw_crosskeep_k37_whole_acceptors_make_lawfu_holds

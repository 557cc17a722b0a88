import PyProof.Rows.All
import Wide.All
import OpenK.AllK
import Wide.FinOn
import HandS.ForMost
import HandS.ForExc
import HandS.More
import HandS.Walk
import HandS.SortInts
import HandS.SetFor
import HandS.Style
import HandS.RevRange
import HandS.TupAny
import HandS.TupMul
import HandS.IsInst
import HandS.Conv
import HandS.ExcIs
import HandS.ExcCtx
import HandS.SortKw
import HandS.Remove
import HandS.TupLe
import HandS.Small
import KE.DatumOrd
import KE.DatumMore
import KE.KSortedM
import KE.KStateDown
import KE.KDictPairs
import PySem.Challenge.RW_berthrow_k01_placed
set_option Elab.async false
set_option linter.all false
set_option maxRecDepth 100000
set_option maxHeartbeats 4000000
namespace Br
open PySem PySem.Spec PyProof.Rows L2
/-! ### addresses of what the top has made, by name -/
structure Ad where
  f_is_number : Addr := 0
  f_is_from_to : Addr := 0
  f_is_row : Addr := 0
  f_check_quay : Addr := 0
  f_check_wishes : Addr := 0
  f_first_free : Addr := 0
  f_placed : Addr := 0
  f_taken : Addr := 0
  f_gone_on : Addr := 0
  f_is_good : Addr := 0
  f_crowded : Addr := 0
  f_placed_round : Addr := 0
  f_left_over : Addr := 0
  f_turned : Addr := 0
  f_turning : Addr := 0
  f_how_many : Addr := 0
  f_first_row : Addr := 0
  f_last_row : Addr := 0
  f_next_row : Addr := 0
  f_p_check_ships : Addr := 0
  f_l_cell_at : Addr := 0
  f_l_mix : Addr := 0
  f_l_quay : Addr := 0
  f_l_wishes : Addr := 0
  f_l_placed : Addr := 0
  f_l_whole : Addr := 0
  f_l_good : Addr := 0
  f_l_crowded : Addr := 0
  f_l_order : Addr := 0
  f_l_round : Addr := 0
  f_l_refused : Addr := 0
  f_l_due : Addr := 0
  f_l_caught : Addr := 0
  f_l_lowered : Addr := 0
  f_first_free_round : Addr := 0
  f_check_full_row : Addr := 0
  f_tree_of : Addr := 0
  f_wishes_of : Addr := 0
  f_p_check_knots : Addr := 0
  f_lies : Addr := 0
  f_reaches : Addr := 0
  f_rows_to : Addr := 0
  f_p_check_order : Addr := 0
  f_is_name : Addr := 0
  f_written : Addr := 0
  f_read : Addr := 0
  f_p_parts : Addr := 0
  f_p_pair : Addr := 0
  f_p_number : Addr := 0
  f_p_check_name : Addr := 0
  f_l_asked : Addr := 0
  f_l_word : Addr := 0
  f_l_told : Addr := 0
  f_l_odd : Addr := 0
  f_l_no_quay : Addr := 0
  f_l_full : Addr := 0
  f_l_tree : Addr := 0
  f_l_drawn : Addr := 0
  f_l_hangs : Addr := 0
  f_l_right : Addr := 0
  f_l_lying : Addr := 0
  f_l_words : Addr := 0
  f_l_done : Addr := 0
  f_l_stands : Addr := 0
  f_l_nearer : Addr := 0
  f_l_read : Addr := 0
  f_l_text : Addr := 0
  f_l_odd_text : Addr := 0
  f_law : Addr := 0
  e_BerthError : Addr := 0
  e_NoQuay : Addr := 0
  e_NoWishes : Addr := 0
  e_TooMany : Addr := 0
  e_NoCount : Addr := 0
  e_NoTree : Addr := 0
  e_NoOrder : Addr := 0
  e_NoName : Addr := 0
  e_Taken : Addr := 0
  e_NoWish : Addr := 0
  e_NoRoom : Addr := 0
  e_NoShip : Addr := 0
  e_NoText : Addr := 0
/-- a def as it stands behind the top -/
structure DF (K : PySem.W.Frag) (mg : Str → Option Value) (x : Str) (st : Stmt) (ps : List Str) (f : Addr) : Prop where
  ex : ∃ fd, Fun K x x st f fd ∧ Binds K fd ps []
  g : mg x = some (.ref f)
/-- a def that keeps its promise, ready to be called by its name -/
structure Cb (P : Program) (w : World) (K : PySem.W.Frag) (mg : Str → Option Value) (base : Heap) (CX : CXT) (k : Nat) (x : Str) (f : Addr) (ps : List Str) (sp : Sp) : Prop where
  ex : ∃ fd, FnOk P w K mg base CX k f fd ps sp ∧ Binds K fd ps []
  g : mg x = some (.ref f)
  kp : PySem.W.keepIn K (.ref f) = true
/-- an own exception's class -/
structure ExF (K : PySem.W.Frag) (mg : Str → Option Value) (x : Str) (c : Addr) : Prop where
  g : mg x = some (.ref c)
  x : PySem.W.excIn K c [.type "ValueError", .type "Exception", .type "BaseException", .type "object"] "ValueError.__new__" = true
  k : PySem.W.keepIn K (.ref c) = true
  b : PySem.W.subIn K (.ref c) (.type "BaseException") = some true
  t : PySem.W.typeIn K (.ref c) = some (.type "type")
theorem df_mk {K : PySem.W.Frag} {mg : Str → Option Value} {x : Str} {st : Stmt} {ps : List Str} {f : Addr} {fd : FuncData} (F : Fun K x x st f fd)
    (h : ∀ (kV doc pm : Value) (an : Option Addr) (cdv ct : Value) (us : List Value), us.length = ps.length → bindArgs (PySem.W.fnOf x x (defArgs st) (defBody st) (defScope st) .none kV doc pm an cdv ct) ⟨us, []⟩ = pure (ps.zip us)) (g : mg x = some (.ref f)) : DF K mg x st ps f :=
  ⟨⟨fd, F, F.binds h⟩, g⟩
/-! ### readings by short names -/
def rAddI : R2 := rI0 fun i j => .int (i + j)
def rSubI : R2 := rI0 fun i j => .int (i - j)
def rMulI : R2 := rI CMul fun i j => .int (i * j)
def rModI : R2 := rI (fun _ j => 0 < j) fun i j => .int (i % j)
def rDivI : R2 := rI CDiv fun i j => .int (i / j)
def rPowI : R2 := rI CPow fun i j => .int (i ^ j.toNat)
def rLtI : R2 := rI0 fun i j => .bl (decide (i < j))
def rLeI : R2 := rI0 fun i j => .bl (decide (i ≤ j))
def rGtI : R2 := rI0 fun i j => .bl (decide (j < i))
def rGeI : R2 := rI0 fun i j => .bl (decide (j ≤ i))
def rIsTyB : R2 := fun x y H Q => ∃ a b, x = .ty a ∧ y = .ty b ∧ Q (.bl (decide (a = b))) H
def rIsB1 : R2 := fun x y H Q => ∃ a b, x = .bl a ∧ y = .bl b ∧ Q (.bl (decide (a = b))) H
def rLenSq (K : PySem.W.Frag) : List V → Hp → VK → Prop := fun xs H Q => ∃ p ys, xs = [.ref p] ∧ (SqL K H p ys ∨ SqT K H p ys) ∧ Q (.int ys.length) H
def rMin2 : List V → Hp → VK → Prop := fun xs H Q => ∃ i j, xs = [.int i, .int j] ∧ Q (.int (if j < i then j else i)) H
def rMax2 : List V → Hp → VK → Prop := fun xs H Q => ∃ i j, xs = [.int i, .int j] ∧ Q (.int (if j > i then j else i)) H
def rInt1 : List V → Hp → VK → Prop := fun xs H Q => (∃ i, xs = [.int i] ∧ Q (.int i) H) ∨ ∃ k, xs = [.bl k] ∧ Q (.int (if k then 1 else 0)) H
def rListOf (K : PySem.W.Frag) : List V → Hp → VK → Prop := fun xs H Q => ∃ p ys, xs = [.ref p] ∧ (SqL K H p ys ∨ SqT K H p ys) ∧ ∀ l, H l = none → Q (.ref l) (upd H l (.lst ys))
def rTupleOf (K : PySem.W.Frag) : List V → Hp → VK → Prop := fun xs H Q => ∃ p ys, xs = [.ref p] ∧ ((SqL K H p ys ∧ ∀ l, H l = none → Q (.ref l) (upd H l (.tup ys))) ∨ (SqT K H p ys ∧ Q (.ref p) H))
def ipAdd : TIp := ipI fun i j => i + j
def ipSub : TIp := ipI fun i j => i - j
def tTru (K : PySem.W.Frag) (te : TE) : TT := fun σ H Q => te σ H fun x H' => ∃ k, TruV K x H' k ∧ Q k H'
def tRaise (c : Addr) (E : XK) : TS := fun _ _ H => E (.ref c) none H
def iSeq (K : PySem.W.Frag) (tl : TE) : TI := fun σ H R => iList K tl σ H R ∨ iTup K tl σ H R
def SqA (K : PySem.W.Frag) (H : Hp) (a : Addr) (xs : List V) : Prop := SqL K H a xs ∨ SqT K H a xs
theorem item_of0 {ns : List Int} {i : Nat} {y : V} (hi : (ns.map V.int)[i]? = some y) : ∃ z, ns[i]? = some z ∧ y = V.int z := by
  rw [List.getElem?_map] at hi
  cases e : ns[i]? with
  | none => rw [e] at hi; cases hi
  | some z => rw [e] at hi; exact ⟨z, rfl, (Option.some.inj hi).symm⟩
/-! ### rules -/
section
variable {X : Cx}
theorem pe_gl {x : Str} {v : V} {pos : Pos} (hg : Gl X x) (h : ∃ u, X.mg x = some u ∧ RelV v u) (hd : (x == ("__debug__" : Str)) = false := by decide) : PE X (.Name x pos) (tC v) := by
  obtain ⟨u, hm, r⟩ := h
  exact pe_glob hg hm r hd
theorem pe_cb {CX : CXT} {k : Nat} {f : Addr} {ps : List Str} {sp : Sp} {E : XK} {x : Str} {p pos : Pos} {e : Expr} {es : List Expr} {t : TA} (G : Cb X.prog X.w X.K X.mg X.base CX k x f ps sp) (hr : Room k X.A) (hg : Gl X x) (hx : Passes CX X E) (ha : PA X (e :: es) t)
    (hdb : (x == ("__debug__" : Str)) = false := by decide) (he : starEach (e :: es) X.env = (false, eval e X.env) :: starEach es X.env := by rfl) (hpl : (backTo pos (starEach es X.env)).any (·.1) = false := by rfl) :
    PE X (.Call (.Name x p) (e :: es) [] pos) (tCall sp [] E t) := by
  obtain ⟨⟨fd, F, b⟩, g, kp⟩ := G
  exact pe_call F hr hg g kp b .nil hx ha hdb he hpl
theorem pe_cbS {CX : CXT} {k : Nat} {f : Addr} {ps : List Str} {sp : Sp} {E : L2.St → XK} {x : Str} {p pos : Pos} {e : Expr} {es : List Expr} {t : TA} (G : Cb X.prog X.w X.K X.mg X.base CX k x f ps sp) (hr : Room k X.A) (hg : Gl X x) (hx : ∀ σ, PassesAt CX X σ (E σ)) (ha : PA X (e :: es) t)
    (hdb : (x == ("__debug__" : Str)) = false := by decide) (he : starEach (e :: es) X.env = (false, eval e X.env) :: starEach es X.env := by rfl) (hpl : (backTo pos (starEach es X.env)).any (·.1) = false := by rfl) :
    PE X (.Call (.Name x p) (e :: es) [] pos) (tCallS sp E t) := by
  obtain ⟨⟨fd, F, b⟩, g, kp⟩ := G
  exact pe_callS F hr hg g kp b hx ha hdb he hpl
theorem pi_seq {tg l : Expr} {tl : TE} (hl : PE X l tl) : PI X tg l (iSeq X.K tl) :=
  ⟨fun pins s σ H R I h => h.elim (fun h => (pi_list hl).run pins s σ H R I h) (fun h => (pi_tup hl).run pins s σ H R I h)⟩
/-- xs[i], by values: for xs[i] += e -/
theorem gt_list : PGet X (rIxL X.K) := by
  intro pins s σ H x y v u Q I rx ry h
  obtain ⟨p, xs, i, z, rfl, rfl, hq, he, q⟩ := h
  cases rx
  obtain ⟨t, rfl⟩ := ry
  obtain ⟨its, r, pl, hz⟩ := I.list hq
  obtain ⟨j, h1, h2, h3, h4, h5⟩ := atI_get he
  obtain ⟨w, ew, rw'⟩ := r.get h2
  have hl := r.length
  have hn := line63
  have fin : EP X pins σ Q w s := ⟨z, H, I, rw', q⟩
  by_cases h0 : 0 ≤ i
  · have hj : i.toNat = j := by
      rw [seqIndex_of h0 h5] at h1
      exact Option.some.inj h1
    exact wpAny_getItem_list pl.isList h0 (by omega) (by rw [hj]; simpa using ew) fin
  · have hj : (i + (its.toArray.size : Int)).toNat = j := by
      rw [seqIndex_neg (by omega) h4] at h1
      rw [List.size_toArray, ← hl]
      exact Option.some.inj h1
    exact wpAny_getItem_list_neg pl.isList (by omega) (by rw [List.size_toArray] <;> omega) (by omega) (by rw [hj]; simpa using ew) fin
/-! ### min(xs, default=d), xs a list of whole numbers -/
theorem minOf_int : ∀ (ys : List Int) (y : Int), PySem.W.minOf y ys ∈ y :: ys ∧ ∀ z ∈ y :: ys, PySem.W.minOf y ys ≤ z
  | [], y => ⟨List.mem_singleton.mpr rfl, fun z hz => by rw [List.mem_singleton.mp hz]; exact Int.le_refl _⟩
  | x :: r, y => by
    have e : PySem.W.minOf y (x :: r) = PySem.W.minOf (if x < y then x else y) r := by
      show PySem.W.minOf (if (decide (x < y)) = true then x else y) r = _
      by_cases h : x < y <;> simp [h]
    obtain ⟨h1, h2⟩ := minOf_int r (if x < y then x else y)
    rw [e]
    refine ⟨?_, fun z hz => ?_⟩
    · rcases List.mem_cons.mp h1 with k | k
      · rw [k]
        by_cases h : x < y <;> simp [h]
      · simp [k]
    · have hc := h2 _ (List.mem_cons_self)
      rcases List.mem_cons.mp hz with k | k
      · subst k
        by_cases h : x < z
        · rw [if_pos h] at hc ⊢
          omega
        · rw [if_neg h] at hc ⊢
          exact hc
      · rcases List.mem_cons.mp k with k | k
        · subst k
          by_cases h : z < y
          · rw [if_pos h] at hc ⊢
            exact hc
          · rw [if_neg h] at hc ⊢
            omega
        · exact h2 z (List.mem_cons_of_mem _ k)
def rMinD (K : PySem.W.Frag) : List V → List V → Hp → VK → Prop := fun vs zs H Q => ∃ (p : Addr) (d : V) (ns : List Int), vs = [.ref p] ∧ zs = [d] ∧ SqL K H p (ns.map V.int) ∧
  (ns = [] → Q d H) ∧ ∀ m, m ∈ ns → (∀ y ∈ ns, m ≤ y) → Q (.int m) H
def tMinD (K : PySem.W.Frag) (ta td : TE) : TE := tCKw (rMinD K) (tCons ta tNil) (tCons td tNil)
theorem dp_ints {K : PySem.W.Frag} {H : Hp} : ∀ ns : List Int, DpAll K H (ns.map V.int) (ns.map PyData.int)
  | [] => .nil
  | n :: r => .cons (.int n) (dp_ints r)
theorem cr_minD (hc : X.calm = true) (hu : X.A.units + 64 < cLine) : CallRK X (.builtin "min") [Str.ofString "default"] (rMinD X.K) := by
  intro pins s σ H vs zs us ws Q I r rz h
  obtain ⟨p, d, ns, rfl, rfl, hs, q0, q1⟩ := h
  obtain ⟨w, rfl, rw'⟩ := vals1 rz
  obtain ⟨its, rv, hl, _⟩ := I.list hs
  rw [Vals.ref1 r]
  obtain ⟨as, ra⟩ := Dp.readsAll I (ns.map PyData.int) _ its (dp_ints ns) rv
  have HA : PySem.W.HoldAll s.heap its.toArray.toList ns := ⟨as, ra⟩
  refine PySem.W.min_list_datum_default (I.ok.hd hc) hl.isList HA (by show X.A.units + 1 + PySem.W.Datum.depth Int < cLine; have e : PySem.W.Datum.depth Int = 0 := rfl; rw [e]; omega) (fun e h' tk hk => ⟨d, H, I.kept hk, rw', q0 e⟩) fun y ys i v h' tk e hi hv hk => ?_
  subst e
  obtain ⟨as2, r2⟩ := hv
  have hi' : its[i]? = some v := by simpa using hi
  have hlen := rv.length
  have hlt : i < ((y :: ys).map V.int).length := by rw [hlen]; exact (List.getElem?_eq_some_iff.mp hi').1
  obtain ⟨u, hu1, hu2⟩ := rv.get (List.getElem?_eq_getElem hlt)
  rw [hi'] at hu1
  cases hu1
  obtain ⟨z, hz, ez⟩ := item_of0 (List.getElem?_eq_getElem hlt)
  rw [ez] at hu2
  obtain ⟨t, rfl⟩ := hu2
  have em : PySem.W.minOf y ys = z := by
    have r2' : Reads h' (.int z t) (.int (PySem.W.minOf y ys)) as2 := r2
    cases r2'
    rfl
  obtain ⟨m1, m2⟩ := minOf_int ys y
  rw [em] at m1 m2
  exact ⟨.int z, H, I.kept hk, ⟨_, rfl⟩, q1 z m1 m2⟩
theorem pe_minD {p pos kpos : Pos} {e d : Expr} {ta td : TE} (hc : X.calm = true) (hu : X.A.units + 64 < cLine) (hg : Gl X "min") (hm : X.mg "min" = none) (ha : PE X e ta) (hd : PE X d td)
    (he : backTo pos (starEach (e :: []) X.env) = (false, eval e X.env) :: backTo pos (starEach [] X.env) := by rfl) (hse : starEach (e :: []) X.env = (false, eval e X.env) :: starEach [] X.env := by rfl) (hpl : (backTo pos (starEach (e :: []) X.env)).any (·.1) = false := by rfl)
    (hall : (backToKw pos (keywordEach [⟨some (Str.ofString "default"), d, kpos⟩] X.env)).all (·.1.isSome) = true := by rfl) (hnone : (backToKw pos (keywordEach [⟨some (Str.ofString "default"), d, kpos⟩] X.env)).any (·.1.isNone) = false := by rfl)
    (hks : (backToKw pos (keywordEach [⟨some (Str.ofString "default"), d, kpos⟩] X.env)).filterMap (·.1) = [Str.ofString "default"] := by rfl) :
    PE X (.Call (.Name "min" p) [e] [⟨some (Str.ofString "default"), d, kpos⟩] pos) (tMinD X.K ta td) :=
  pe_callBK (cr_minD hc hu) hg hm (by decide +kernel) (pa_cons ha pa_nil hse) (pk_cons hd pk_nil) (by decide) (by decide) he hpl hall hnone hks
end
/-! ### == and != of data -/
def rEqT (K : PySem.W.Frag) : R2 := fun x y H Q => ∃ (α : Type) (_ : DecidableEq α) (_ : PySem.W.Datum α) (a b : α), Dp K H x (PySem.W.Datum.toD a) ∧ Dp K H y (PySem.W.Datum.toD b) ∧ PySem.W.Datum.depth α ≤ 64 ∧ Q (.bl (decide (a = b))) H
def rNeT (K : PySem.W.Frag) : R2 := fun x y H Q => ∃ (α : Type) (_ : DecidableEq α) (_ : PySem.W.Datum α) (a b : α), Dp K H x (PySem.W.Datum.toD a) ∧ Dp K H y (PySem.W.Datum.toD b) ∧ PySem.W.Datum.depth α ≤ 64 ∧ Q (.bl (decide (a ≠ b))) H
section
variable {X : Cx}
theorem op_eqT (hu : X.A.units + 64 < cLine) : OpR X (compareOp .Eq) (rEqT X.K) := by
  intro pins s σ H x y v u Q I rx ry h
  obtain ⟨α, d1, d2, a, b, ha, hb, hd, q⟩ := h
  exact PySem.W.eq_datum (Dp.reads I _ x v ha rx) (Dp.reads I _ y u hb ry) (by omega) ⟨.bl _, H, I, rfl, q⟩
theorem op_neT (hu : X.A.units + 64 < cLine) : OpR X (compareOp .NotEq) (rNeT X.K) := by
  intro pins s σ H x y v u Q I rx ry h
  obtain ⟨α, d1, d2, a, b, ha, hb, hd, q⟩ := h
  exact PySem.W.ne_datum (Dp.reads I _ x v ha rx) (Dp.reads I _ y u hb ry) (by omega) ⟨.bl _, H, I, rfl, q⟩
end
theorem eqT_of {K : PySem.W.Frag} {x y : V} {H : Hp} {Q : VK} {α : Type} [DecidableEq α] [PySem.W.Datum α] {a b : α} (ha : Dp K H x (PySem.W.Datum.toD a)) (hb : Dp K H y (PySem.W.Datum.toD b)) (hd : PySem.W.Datum.depth α ≤ 64) (q : Q (.bl (decide (a = b))) H) : rEqT K x y H Q := ⟨α, _, _, a, b, ha, hb, hd, q⟩
theorem neT_of {K : PySem.W.Frag} {x y : V} {H : Hp} {Q : VK} {α : Type} [DecidableEq α] [PySem.W.Datum α] {a b : α} (ha : Dp K H x (PySem.W.Datum.toD a)) (hb : Dp K H y (PySem.W.Datum.toD b)) (hd : PySem.W.Datum.depth α ≤ 64) (q : Q (.bl (decide (a ≠ b))) H) : rNeT K x y H Q := ⟨α, _, _, a, b, ha, hb, hd, q⟩
theorem ho_ints {K : PySem.W.Frag} {H : Hp} {p : Addr} {ns : List Int} (h : SqL K H p (ns.map V.int)) : Dp K H (.ref p) (PySem.W.Datum.toD ns) := .lst h (dp_ints ns)
/-! ### heaps -/
theorem same_new {H : Hp} {p : Addr} {o : HO} (h : H p = none) : Same H (upd H p o) := fun b x e => by
  rw [upd_ne (ne_of_none e h)]
  exact e
/-- what stood ahead of an object's making stands behind a store into it -/
theorem _root_.L2.Same.store {H H' : Hp} {p : Addr} {o : HO} (s : Same H H') (h : H p = none) : Same H (upd H' p o) := fun b x e => by
  rw [upd_ne (ne_of_none e h)]
  exact s b x e
theorem _root_.L2.Same.seqT {K : PySem.W.Frag} {H H' : Hp} {a : Addr} {xs : List V} (e : Same H H') (h : SqT K H a xs) : SqT K H' a xs := by
  rcases h with (h | ⟨o, h⟩) | h
  · exact .inl (.inl (e _ _ h))
  · exact .inl (.inr ⟨o, e _ _ h⟩)
  · exact .inr h
theorem _root_.L2.Same.seqA {K : PySem.W.Frag} {H H' : Hp} {a : Addr} {xs : List V} (e : Same H H') (h : SqA K H a xs) : SqA K H' a xs := h.elim (fun h => .inl (e.seq h)) (fun h => .inr (e.seqT h))
theorem sqL_of {K : PySem.W.Frag} {H : Hp} {a : Addr} {xs : List V} (h : H a = some (.lst xs)) : SqL K H a xs := .inl (.inl h)
theorem sqT_of {K : PySem.W.Frag} {H : Hp} {a : Addr} {xs : List V} (h : H a = some (.tup xs)) : SqT K H a xs := .inl (.inl h)
/-! ### loops and comprehensions in short -/
theorem for_seq {K : PySem.W.Frag} {a : Addr} {xs : List V} {tl : TE} {g : TG} {tb : TS} {D : Ends} {σ : L2.St} {H0 H : Hp} (ht : ∀ Q : VK, Q (.ref a) H → tl σ H Q) (hA : SqA K H0 a xs) (Pv : Nat → L2.St → Hp → Prop) (h0 : Pv 0 σ H) (hl : ∀ i σ H', Pv i σ H' → Same H0 H')
    (hs : ∀ i x σ H, xs[i]? = some x → Pv i σ H → g x σ H fun σ2 H2 => tb { D with nx := Pv (i + 1), ct := Pv (i + 1), bk := D.nx } σ2 H2) (hd : ∀ σ H, Pv xs.length σ H → D.nx σ H) : tFor (iSeq K tl) g tb D σ H := by
  rcases hA with h | h
  · exact .inl (ht _ ⟨a, rfl, ⟨_, (hl _ _ _ h0).seq h⟩, for_list (K := K) (a := a) Pv h0 (fun i σ H' _ p => (hl i σ H' p).seq h) hs hd⟩)
  · exact .inr (ht _ ⟨a, rfl, ⟨_, (hl _ _ _ h0).seqT h⟩, for_tup (K := K) (a := a) Pv h0 (fun i σ H' _ p => (hl i σ H' p).seqT h) hs hd⟩)
theorem take_more {α : Type} : ∀ {l : List α} {i : Nat} {x : α}, l[i]? = some x → l.take (i + 1) = l.take i ++ [x] := fun {l i x} h => by
  rw [List.take_add_one, h]
  rfl
theorem item_of {ns : List Int} {i : Nat} {y : V} (hi : (ns.map V.int)[i]? = some y) : ∃ z, ns[i]? = some z ∧ y = V.int z := by
  rw [List.getElem?_map] at hi
  cases e : ns[i]? with
  | none => rw [e] at hi; cases hi
  | some z => rw [e] at hi; exact ⟨z, rfl, (Option.some.inj hi).symm⟩
/-- a comprehension over anything that gives n values it 0, it 1 .. and leaves what is tracked; p the test, f the element -/
theorem lc_pure {J : It} {n : Nat} {G : Hp → Prop} {tt : TT} {te : TE} {g : TG} {vs : List Nat} {σ : L2.St} {H1 : Hp} {Qd : Addr → Hp → Prop} {Y : Nat → Hp → V → Hp → Prop} {α : Type} (w : Walk J n G Y) (hn : n < sizeLine) (xs : List α) (hx : xs.length = n) (p : α → Bool) (f : α → V) (hG : ∀ H', Same H1 H' → G H')
    (hs : ∀ i (x : α) (v : V) (H H' : Hp) (R : Bool → V → Hp → Prop), xs[i]? = some x → Same H1 H → Y i H v H' → (∀ y H'', Same H H'' → (p x = true → y = f x) → R (p x) y H'') →
      g v (wipe σ vs) H' fun σ2 H2 => wipe σ2 vs = wipe σ vs ∧ tt σ2 H2 fun b H3 => if b = true then te σ2 H3 fun y H4 => R true y H4 else R false .non H3)
    (hQ : ∀ D H', H1 D = none → Same H1 H' → H' D = some (.lst ((xs.filter p).map f)) → Qd D H') :
    ∀ D, H1 D = none → ∃ W : Nat → Nat → Hp → Prop, (∃ m, W 0 m (upd H1 D (.lst []))) ∧ ∀ i m H, W i m H →
      (J.stop i H ∧ Qd D H) ∨ (J.go i H ∧ ∃ Nx : Hp → Prop, (∀ H', Nx H' → ∃ m', m' < m ∧ W (i + 1) m' H') ∧ ∀ x H', J.yld i H x H' → g x (wipe σ vs) H' fun σ2 H2 => wipe σ2 vs = wipe σ vs ∧ tt σ2 H2 fun b H3 =>
        if b = true then te σ2 H3 fun y H4 => ∃ acc, H4 D = some (.lst acc) ∧ acc.length < sizeLine ∧ Nx (upd H4 D (.lst (acc ++ [y]))) else Nx H3) := by
  intro D hD
  refine lc_it w (fun i H => Same H1 H ∧ H D = some (.lst (((xs.take i).filter p).map f))) ⟨same_new hD, upd_same⟩ (fun i H _ h => hG H h.1) ?_ ?_
  · intro i v H H' hi ⟨s, e⟩ y
    have hi' : i < xs.length := by omega
    have hx' : xs[i]? = some xs[i] := List.getElem?_eq_getElem hi'
    have fin := hs i xs[i] v H H' (fun b y H4 => if b = true then ∃ acc, H4 D = some (.lst acc) ∧ acc.length < sizeLine ∧ (Same H1 (upd H4 D (.lst (acc ++ [y]))) ∧ (upd H4 D (.lst (acc ++ [y]))) D = some (.lst (((xs.take (i + 1)).filter p).map f))) else Same H1 H4 ∧ H4 D = some (.lst (((xs.take (i + 1)).filter p).map f))) hx' s y ?_
    · exact fin
    · intro y H4 s4 hy
      have e4 := s4 _ _ e
      rw [take_more hx', List.filter_append, List.map_append]
      cases hp : p xs[i] with
      | true =>
        rw [if_pos rfl]
        refine ⟨_, e4, ?_, (s.trans s4).store hD, ?_⟩
        · rw [List.length_map]
          refine Nat.lt_of_le_of_lt (List.length_filter_le _ _) (Nat.lt_of_le_of_lt (List.length_take_le _ _) ?_)
          omega
        · rw [upd_same, hy hp]
          simp [List.filter, hp]
      | false =>
        rw [if_neg Bool.false_ne_true]
        refine ⟨s.trans s4, ?_⟩
        rw [e4]
        simp [List.filter, hp]
  · intro H ⟨s, e⟩
    rw [← hx, List.take_length] at e
    exact hQ D H hD s e

/-! ### what is a number, a quay, wishes -/
def isInt : V → Bool
  | .int _ => true
  | _ => false
def inB (lo hi : Int) : V → Bool
  | .int i => decide (lo ≤ i) && decide (i ≤ hi)
  | _ => false
def goodW (n : Nat) (xs : List V) : Bool := decide (xs.length ≤ 400) && xs.all (inB 1 n)
/-- what a check of a quay and of wishes for it comes to: R behind a good one -/
def ChkQ (K : PySem.W.Frag) (a : Ad) (b : V) (H : Hp) (E : XK) (R : Nat → Prop) : Prop := ∃ T, TyB K H b T ∧ ((inB 1 400 b = false ∧ E (.ref a.e_NoQuay) none H) ∨ ∃ n : Nat, b = .int n ∧ 1 ≤ n ∧ n ≤ 400 ∧ R n)
def ChkW (K : PySem.W.Frag) (a : Ad) (b w : V) (H : Hp) (E : XK) (R : Nat → List Int → Addr → Prop) : Prop := ChkQ K a b H E fun n =>
  (∃ T, TyB K H w T ∧ T ≠ "list" ∧ T ≠ "tuple" ∧ E (.ref a.e_NoWishes) none H) ∨
  ∃ p xs, w = .ref p ∧ SqA K H p xs ∧ (∀ x ∈ xs, ∃ T, TyB K H x T) ∧ ((goodW n xs = false ∧ E (.ref a.e_NoWishes) none H) ∨
    ∃ ws : List Int, xs = ws.map V.int ∧ ws.length ≤ 400 ∧ (∀ x ∈ ws, 1 ≤ x ∧ x ≤ n) ∧ R n ws p)
theorem ChkQ.imp {K : PySem.W.Frag} {a : Ad} {b : V} {H : Hp} {E : XK} {R R' : Nat → Prop} (h : ChkQ K a b H E R) (k : ∀ n : Nat, b = .int n → 1 ≤ n → n ≤ 400 → R n → R' n) : ChkQ K a b H E R' := by
  obtain ⟨T, ty, h | ⟨n, e, h1, h2, r⟩⟩ := h
  · exact ⟨T, ty, .inl h⟩
  · exact ⟨T, ty, .inr ⟨n, e, h1, h2, k n e h1 h2 r⟩⟩
theorem ChkW.imp {K : PySem.W.Frag} {a : Ad} {b w : V} {H : Hp} {E : XK} {R R' : Nat → List Int → Addr → Prop} (h : ChkW K a b w H E R)
    (k : ∀ (n : Nat) (ws : List Int) (p : Addr), b = .int n → w = .ref p → 1 ≤ n → n ≤ 400 → SqA K H p (ws.map V.int) → ws.length ≤ 400 → (∀ x ∈ ws, 1 ≤ x ∧ x ≤ n) → R n ws p → R' n ws p) : ChkW K a b w H E R' := by
  refine ChkQ.imp h fun n e h1 h2 r => ?_
  rcases r with r | ⟨p, xs, ew, hs, ht, r | ⟨ws, ex, hl, hb, r⟩⟩
  · exact .inl r
  · exact .inr ⟨p, xs, ew, hs, ht, .inl r⟩
  · exact .inr ⟨p, xs, ew, hs, ht, .inr ⟨ws, ex, hl, hb, k n ws p e ew h1 h2 (ex ▸ hs) hl hb r⟩⟩
/-- a check that is passed -/
theorem ChkQ.ok {K : PySem.W.Frag} {a : Ad} {H : Hp} {E : XK} {R : Nat → Prop} {n : Nat} (h1 : 1 ≤ n) (h2 : n ≤ 400) (r : R n) : ChkQ K a (.int n) H E R := ⟨_, .int _, .inr ⟨n, rfl, h1, h2, r⟩⟩
theorem ChkW.ok {K : PySem.W.Frag} {a : Ad} {H : Hp} {E : XK} {R : Nat → List Int → Addr → Prop} {n : Nat} {ws : List Int} {p : Addr} (h1 : 1 ≤ n) (h2 : n ≤ 400) (hs : SqA K H p (ws.map V.int)) (hl : ws.length ≤ 400) (hb : ∀ x ∈ ws, 1 ≤ x ∧ x ≤ n) (r : R n ws p) : ChkW K a (.int n) (.ref p) H E R :=
  ChkQ.ok h1 h2 (.inr ⟨p, _, rfl, hs, fun x hx => by
    obtain ⟨i, _, rfl⟩ := List.mem_map.mp hx
    exact ⟨_, .int i⟩, .inr ⟨ws, rfl, hl, hb, r⟩⟩)
theorem goodW_ints {n : Nat} {ws : List Int} : goodW n (ws.map V.int) = true ↔ ws.length ≤ 400 ∧ ∀ x ∈ ws, 1 ≤ x ∧ x ≤ n := by
  unfold goodW
  simp [inB]
theorem inB_int {lo hi : Int} {v : V} (h : inB lo hi v = true) : ∃ i, v = .int i ∧ lo ≤ i ∧ i ≤ hi := by
  cases v with
  | int i =>
    simp only [inB, Bool.and_eq_true, decide_eq_true_eq] at h
    exact ⟨i, rfl, h⟩
  | _ => cases h
theorem goodW_of {n : Nat} {xs : List V} (h : goodW n xs = true) : ∃ ws : List Int, xs = ws.map V.int ∧ ws.length ≤ 400 ∧ ∀ x ∈ ws, 1 ≤ x ∧ x ≤ n := by
  unfold goodW at h
  simp only [Bool.and_eq_true, decide_eq_true_eq, List.all_eq_true] at h
  obtain ⟨h1, h2⟩ := h
  have e : ∃ ws : List Int, xs = ws.map V.int := by
    clear h1
    induction xs with
    | nil => exact ⟨[], rfl⟩
    | cons x r ih =>
      obtain ⟨ws, e⟩ := ih fun y hy => h2 y (List.mem_cons_of_mem _ hy)
      obtain ⟨i, ei, _⟩ := inB_int (h2 x List.mem_cons_self)
      exact ⟨i :: ws, by rw [ei, e]; rfl⟩
  obtain ⟨ws, rfl⟩ := e
  refine ⟨ws, rfl, by simpa using h1, fun x hx => ?_⟩
  obtain ⟨i, ei, h3, h4⟩ := inB_int (h2 (.int x) (List.mem_map_of_mem hx))
  cases ei
  exact ⟨h3, h4⟩
theorem tyb_int {K : PySem.W.Frag} {H : Hp} {x : V} {T : String} (h : TyB K H x T) : decide (T = "int") = isInt x := by
  cases h <;> first | rfl | decide
theorem tyb_ref {K : PySem.W.Frag} {H : Hp} {x : V} {T : String} (h : TyB K H x T) (e : T = "list" ∨ T = "tuple") : ∃ p xs, x = .ref p ∧ SqA K H p xs := by
  cases h with
  | lst h => exact ⟨_, _, rfl, .inl h⟩
  | tup h => exact ⟨_, _, rfl, .inr h⟩
  | non => rcases e with e | e <;> exact absurd e (by decide)
  | bl => rcases e with e | e <;> exact absurd e (by decide)
  | int => rcases e with e | e <;> exact absurd e (by decide)
  | str => rcases e with e | e <;> exact absurd e (by decide)
  | byt => rcases e with e | e <;> exact absurd e (by decide)
  | dK => rcases e with e | e <;> exact absurd e (by decide)
theorem SqA.ty {K : PySem.W.Frag} {H : Hp} {p : Addr} {xs : List V} (h : SqA K H p xs) : ∃ T, TyB K H (.ref p) T ∧ (decide (T = "list") || decide (T = "tuple")) = true := by
  rcases h with h | h
  · exact ⟨_, .lst h, by decide⟩
  · exact ⟨_, .tup h, by decide⟩
/-! is_number, is_from_to, is_row -/
def sp_is_number (K : PySem.W.Frag) (a : Ad) : Sp := fun vs H Q _ => ∃ x T, vs = [x] ∧ TyB K H x T ∧ Q (.bl (isInt x)) H
abbrev N_is_number : List Str := ["thing"]
def t_is_number (K : PySem.W.Frag) (a : Ad) : TS :=
  (tRet (tOp rIsTyB (tCB (rTyp K) (tCons (tVar 0) tNil)) (tC (.ty "int"))))
theorem len_is_number {K : PySem.W.Frag} {a : Ad} {vs : List V} {H : Hp} {Q : VK} {E : XK} (h : sp_is_number K a vs H Q E) : vs.length = 1 := by
  obtain ⟨x, T, rfl, _⟩ := h
  rfl
theorem pu_is_number {K : PySem.W.Frag} {a : Ad} {vs : List V} {H : Hp} {Q : VK} {E : XK} (h : sp_is_number K a vs H Q E) : t_is_number K a { nx := fun _ H' => Q .non H', rt := Q } (start N_is_number vs) H := by
  obtain ⟨x, T, rfl, ty, q⟩ := h
  refine ⟨x, rfl, x, T, rfl, ty, _, _, rfl, rfl, ?_⟩
  rw [tyb_int ty]
  exact q
def sp_is_from_to (K : PySem.W.Frag) (a : Ad) : Sp := fun vs H Q _ => ∃ lo hi x T, vs = [.int lo, .int hi, x] ∧ TyB K H x T ∧ Q (.bl (inB lo hi x)) H
abbrev N_is_from_to : List Str := ["low", "high", "thing"]
def t_is_from_to (K : PySem.W.Frag) (a : Ad) : TS :=
  (tRet (tAndV (tCall (sp_is_number K a) [] E0 (tCons (tVar 2) tNil)) (tChain rLeI rLeI (tVar 0) (tVar 2) (tVar 1))))
theorem len_is_from_to {K : PySem.W.Frag} {a : Ad} {vs : List V} {H : Hp} {Q : VK} {E : XK} (h : sp_is_from_to K a vs H Q E) : vs.length = 3 := by
  obtain ⟨lo, hi, x, T, rfl, _⟩ := h
  rfl
theorem pu_is_from_to {K : PySem.W.Frag} {a : Ad} {vs : List V} {H : Hp} {Q : VK} {E : XK} (h : sp_is_from_to K a vs H Q E) : t_is_from_to K a { nx := fun _ H' => Q .non H', rt := Q } (start N_is_from_to vs) H := by
  obtain ⟨lo, hi, x, T, rfl, ty, q⟩ := h
  refine ⟨x, rfl, x, T, rfl, ty, isInt x, rfl, ?_⟩
  cases x with
  | int i =>
    refine iteT ⟨_, rfl, _, rfl, lo, i, rfl, rfl, _, rfl, ?_⟩
    by_cases h1 : lo ≤ i
    · rw [decide_eq_true h1]
      refine iteT ⟨_, rfl, i, hi, rfl, rfl, ?_⟩
      have e : inB lo hi (.int i) = decide (i ≤ hi) := by simp [inB, h1]
      rw [e] at q
      exact q
    · rw [decide_eq_false h1]
      have e : inB lo hi (.int i) = false := by simp [inB, h1]
      rw [e] at q
      exact iteF q
  | _ => exact iteF q
def sp_is_row (K : PySem.W.Frag) (a : Ad) : Sp := fun vs H Q _ => ∃ x T, vs = [x] ∧ TyB K H x T ∧ Q (.bl (decide (T = "list") || decide (T = "tuple"))) H
abbrev N_is_row : List Str := ["thing"]
def t_is_row (K : PySem.W.Frag) (a : Ad) : TS :=
  (tRet (tOrV (tOp rIsTyB (tCB (rTyp K) (tCons (tVar 0) tNil)) (tC (.ty "list"))) (tOp rIsTyB (tCB (rTyp K) (tCons (tVar 0) tNil)) (tC (.ty "tuple")))))
theorem len_is_row {K : PySem.W.Frag} {a : Ad} {vs : List V} {H : Hp} {Q : VK} {E : XK} (h : sp_is_row K a vs H Q E) : vs.length = 1 := by
  obtain ⟨x, T, rfl, _⟩ := h
  rfl
theorem pu_is_row {K : PySem.W.Frag} {a : Ad} {vs : List V} {H : Hp} {Q : VK} {E : XK} (h : sp_is_row K a vs H Q E) : t_is_row K a { nx := fun _ H' => Q .non H', rt := Q } (start N_is_row vs) H := by
  obtain ⟨x, T, rfl, ty, q⟩ := h
  refine ⟨x, rfl, x, T, rfl, ty, _, _, rfl, rfl, _, rfl, ?_⟩
  by_cases h1 : T = "list"
  · rw [decide_eq_true h1] at q ⊢
    exact iteT q
  · rw [decide_eq_false h1] at q ⊢
    exact iteF ⟨x, rfl, x, T, rfl, ty, _, _, rfl, rfl, q⟩
/-! check_quay, check_wishes -/
def sp_check_quay (K : PySem.W.Frag) (a : Ad) : Sp := fun vs H Q E => ∃ b, vs = [b] ∧ ChkQ K a b H E fun _ => Q .non H
abbrev N_check_quay : List Str := ["berths"]
def t_check_quay (K : PySem.W.Frag) (a : Ad) (E : XK) : TS :=
  (tIfS (tNot (tB (tCall (sp_is_from_to K a) [] E0 (tCons (tC (.int 1)) (tCons (tC (.int 400)) (tCons (tVar 0) tNil)))))) (tRaise a.e_NoQuay E) tNext)
theorem len_check_quay {K : PySem.W.Frag} {a : Ad} {vs : List V} {H : Hp} {Q : VK} {E : XK} (h : sp_check_quay K a vs H Q E) : vs.length = 1 := by
  obtain ⟨b, rfl, _⟩ := h
  rfl
theorem pu_check_quay {K : PySem.W.Frag} {a : Ad} {vs : List V} {H : Hp} {Q : VK} {E : XK} (h : sp_check_quay K a vs H Q E) : t_check_quay K a E { nx := fun _ H' => Q .non H', rt := Q } (start N_check_quay vs) H := by
  obtain ⟨b, rfl, T, ty, h⟩ := h
  refine ⟨b, rfl, 1, 400, b, T, rfl, ty, inB 1 400 b, rfl, ?_⟩
  rcases h with ⟨e, q⟩ | ⟨n, rfl, h1, h2, q⟩
  · rw [e]
    exact iteT q
  · have e : inB 1 400 (.int n) = true := by simp [inB]; omega
    rw [e]
    exact iteF q
def sp_check_wishes (K : PySem.W.Frag) (a : Ad) : Sp := fun vs H Q E => ∃ b w, vs = [b, w] ∧ ChkW K a b w H E fun _ _ _ => Q .non H
abbrev N_check_wishes : List Str := ["berths", "wishes", "wish"]
def t_check_wishes (K : PySem.W.Frag) (a : Ad) (E : XK) : TS :=
  (tSeq (tDrop (tCall (sp_check_quay K a) [] E (tCons (tVar 0) tNil)))
    (tSeq (tIfS (tNot (tB (tCall (sp_is_row K a) [] E0 (tCons (tVar 1) tNil)))) (tRaise a.e_NoWishes E) tNext)
    (tSeq (tIfS (tTest (tOp rGtI (tCB (rLenSq K) (tCons (tVar 1) tNil)) (tC (.int 400)))) (tRaise a.e_NoWishes E) tNext)
    (tFor (iSeq K (tVar 1)) (gName 2)
    (tIfS (tNot (tB (tCall (sp_is_from_to K a) [] E0 (tCons (tC (.int 1)) (tCons (tVar 0) (tCons (tVar 2) tNil)))))) (tRaise a.e_NoWishes E) tNext)))))
theorem len_check_wishes {K : PySem.W.Frag} {a : Ad} {vs : List V} {H : Hp} {Q : VK} {E : XK} (h : sp_check_wishes K a vs H Q E) : vs.length = 2 := by
  obtain ⟨b, w, rfl, _⟩ := h
  rfl
theorem pu_check_wishes {K : PySem.W.Frag} {a : Ad} {vs : List V} {H : Hp} {Q : VK} {E : XK} (h : sp_check_wishes K a vs H Q E) : t_check_wishes K a E { nx := fun _ H' => Q .non H', rt := Q } (start N_check_wishes vs) H := by
  obtain ⟨b, w, rfl, h⟩ := h
  refine ⟨b, rfl, b, rfl, ChkQ.imp h fun n e h1 h2 r => ?_⟩
  rcases r with ⟨T, ty, n1, n2, q⟩ | ⟨p, xs, rfl, hs, ht, r⟩
  · refine ⟨w, rfl, w, T, rfl, ty, _, rfl, ?_⟩
    rw [decide_eq_false n1, decide_eq_false n2]
    exact iteT q
  · obtain ⟨T, ty, eT⟩ := hs.ty
    refine ⟨.ref p, rfl, .ref p, T, rfl, ty, _, rfl, ?_⟩
    rw [eT]
    refine iteF ⟨.ref p, rfl, p, xs, rfl, hs, _, _, rfl, rfl, _, rfl, ?_⟩
    have done : (goodW n xs = false → E (.ref a.e_NoWishes) none H) ∧ (goodW n xs = true → Q .non H) := by
      rcases r with ⟨g, q⟩ | ⟨ws, ex, hl, hb, q⟩
      · exact ⟨fun _ => q, fun g' => by rw [g] at g'; cases g'⟩
      · have g : goodW n xs = true := by rw [ex]; exact goodW_ints.mpr ⟨hl, hb⟩
        exact ⟨fun g' => (by rw [g] at g'; cases g'), fun _ => q⟩
    by_cases hl : xs.length ≤ 400
    · rw [decide_eq_false (show ¬ ((400 : Int) < (xs.length : Int)) by omega)]
      refine iteF (for_seq (K := K) (H0 := H) (fun Q q => ⟨.ref p, rfl, q⟩) hs (fun i σ H' => H' = H ∧ (xs.take i).all (inB 1 n) = true ∧ ∃ y, σ = [some b, some (.ref p), y]) ⟨rfl, rfl, none, rfl⟩ (fun i σ H' e => by rw [e.1]; exact Same.refl H) ?_ ?_)
      · rintro i x σ H' hx ⟨rfl, ha, y, rfl⟩
        obtain ⟨T, ty⟩ := ht x (List.mem_of_getElem? hx)
        refine ⟨b, rfl, x, rfl, 1, n, x, T, by rw [e] <;> rfl, ty, inB 1 n x, rfl, ?_⟩
        cases g : inB 1 n x with
        | true => exact iteF ⟨rfl, by rw [take_more hx, List.all_append, ha]; simp [g], some x, rfl⟩
        | false =>
          refine iteT (done.1 ?_)
          unfold goodW
          have : xs.all (inB 1 n) = false := by
            cases z : xs.all (inB 1 n) with
            | false => rfl
            | true =>
              rw [List.all_eq_true] at z
              rw [z x (List.mem_of_getElem? hx)] at g
              cases g
          rw [this, Bool.and_false]
      · rintro σ H' ⟨rfl, ha, y, rfl⟩
        rw [List.take_length] at ha
        refine done.2 ?_
        unfold goodW
        rw [ha, decide_eq_true hl]
        rfl
    · rw [decide_eq_true (show (400 : Int) < (xs.length : Int) by omega)]
      refine iteT (done.1 ?_)
      unfold goodW
      rw [decide_eq_false hl]
      rfl

/-! ### the straight quay: the mathematics of laying -/
/-- the first free one of k berths from w on -/
def ffr (occ : Int → Bool) : Nat → Int → Option Int
  | 0, _ => none
  | k + 1, w => if occ w = true then ffr occ k (w + 1) else some w
def ffree (n : Nat) (occ : Int → Bool) (w : Int) : Option Int := ffr occ ((n : Int) + 1 - w).toNat w
def setO (occ : Int → Bool) (b : Int) : Int → Bool := fun x => decide (x = b) || occ x
def pstep (n : Nat) (s : (Int → Bool) × List (Option Int)) (w : Int) : (Int → Bool) × List (Option Int) :=
  match ffree n s.1 w with
  | none => (s.1, s.2 ++ [none])
  | some b => (setO s.1 b, s.2 ++ [some b])
def prun (n : Nat) (ws : List Int) : (Int → Bool) × List (Option Int) := ws.foldl (pstep n) (fun _ => false, [])
def placedL (n : Nat) (ws : List Int) : List (Option Int) := (prun n ws).2
def vO : Option Int → V
  | none => .non
  | some b => .int b
def heldL (n : Nat) (occ : Int → Bool) : List V := (List.range (n + 1)).map fun (i : Nat) => V.bl (occ (i : Int))
theorem ffr_spec {occ : Int → Bool} : ∀ (k : Nat) (w : Int), (∀ b, ffr occ k w = some b → w ≤ b ∧ b < w + k ∧ occ b = false ∧ ∀ x, w ≤ x → x < b → occ x = true) ∧ (ffr occ k w = none → ∀ x, w ≤ x → x < w + k → occ x = true)
  | 0, w => ⟨fun b h => (by cases h), fun _ x h1 h2 => by omega⟩
  | k + 1, w => by
    obtain ⟨i1, i2⟩ := ffr_spec (occ := occ) k (w + 1)
    unfold ffr
    cases e : occ w with
    | true =>
      rw [if_pos rfl]
      refine ⟨fun b h => ?_, fun h x h1 h2 => ?_⟩
      · obtain ⟨j1, j2, j3, j4⟩ := i1 b h
        refine ⟨by omega, by omega, j3, fun x h1 h2 => ?_⟩
        by_cases z : x = w
        · rw [z]; exact e
        · exact j4 x (by omega) h2
      · by_cases z : x = w
        · rw [z]; exact e
        · exact i2 h x (by omega) (by omega)
    | false =>
      rw [if_neg Bool.false_ne_true]
      refine ⟨fun b h => ?_, fun h => (by cases h)⟩
      cases h
      exact ⟨Int.le_refl _, by omega, e, fun x h1 h2 => by omega⟩
theorem ffree_some {n : Nat} {occ : Int → Bool} {w b : Int} (h : ffree n occ w = some b) : w ≤ b ∧ b ≤ n ∧ occ b = false ∧ ∀ x, w ≤ x → x < b → occ x = true := by
  obtain ⟨h1, h2, h3, h4⟩ := (ffr_spec _ _).1 b h
  exact ⟨h1, by omega, h3, h4⟩
theorem ffree_none {n : Nat} {occ : Int → Bool} {w : Int} (h : ffree n occ w = none) : ∀ x, w ≤ x → x ≤ n → occ x = true := fun x h1 h2 => (ffr_spec _ _).2 h x h1 (by omega)
theorem prun_more {n : Nat} {ws : List Int} {i : Nat} {w : Int} (h : ws[i]? = some w) : prun n (ws.take (i + 1)) = pstep n (prun n (ws.take i)) w := by
  unfold prun
  rw [take_more h, List.foldl_append]
  rfl
theorem prun_snoc {n : Nat} {ws : List Int} {w : Int} : prun n (ws ++ [w]) = pstep n (prun n ws) w := by
  unfold prun
  rw [List.foldl_append]
  rfl
theorem pstep_len {n : Nat} {s : (Int → Bool) × List (Option Int)} {w : Int} : (pstep n s w).2.length = s.2.length + 1 := by
  unfold pstep
  cases ffree n s.1 w <;> simp
theorem snoc_ind {α : Type} {p : List α → Prop} (h0 : p []) (h1 : ∀ l x, p l → p (l ++ [x])) : ∀ l, p l := fun l => by
  have : ∀ n, ∀ l : List α, l.length = n → p l := by
    intro n
    induction n with
    | zero => intro l h; rw [List.length_eq_zero_iff.mp h]; exact h0
    | succ n ih =>
      intro l h
      have hne : l ≠ [] := fun z => by rw [z] at h; cases h
      rw [← List.dropLast_concat_getLast hne]
      exact h1 _ _ (ih _ (by rw [List.length_dropLast, h]; rfl))
  exact this _ l rfl
theorem prun_len {n : Nat} : ∀ ws : List Int, (prun n ws).2.length = ws.length := snoc_ind rfl fun ws w ih => by
  rw [prun_snoc, pstep_len, ih]
  simp
theorem placedL_len {n : Nat} {ws : List Int} : (placedL n ws).length = ws.length := prun_len ws
theorem heldL_at {n : Nat} {occ : Int → Bool} {i : Nat} (h : i ≤ n) : (heldL n occ)[i]? = some (.bl (occ (i : Int))) := by
  unfold heldL
  rw [List.getElem?_map, List.getElem?_range (by omega)]
  rfl
theorem heldL_len {n : Nat} {occ : Int → Bool} : (heldL n occ).length = n + 1 := by simp [heldL]
theorem heldL_set {n : Nat} {occ : Int → Bool} {b : Int} (h0 : 0 ≤ b) (h : b ≤ n) : (heldL n occ).set b.toNat (.bl true) = heldL n (setO occ b) := by
  apply List.ext_getElem?
  intro i
  by_cases hi : i ≤ n
  · rw [heldL_at hi]
    by_cases e : i = b.toNat
    · subst e
      rw [List.getElem?_set_self (by rw [heldL_len]; omega)]
      have : ((b.toNat : Nat) : Int) = b := by omega
      simp [setO, this]
    · rw [List.getElem?_set_ne (Ne.symm e), heldL_at hi]
      have : ¬ ((i : Nat) : Int) = b := by omega
      simp [setO, this]
  · rw [List.getElem?_eq_none (show ((heldL n occ).set b.toNat (V.bl true)).length ≤ i by rw [List.length_set, heldL_len]; omega), List.getElem?_eq_none (show (heldL n (setO occ b)).length ≤ i by rw [heldL_len]; omega)]
theorem heldL_new {n : Nat} : (List.replicate (n + 1) [V.bl false]).flatten = heldL n (fun _ => false) := by
  apply List.ext_getElem?
  intro i
  have e : (List.replicate (n + 1) [V.bl false]).flatten = List.replicate (n + 1) (V.bl false) := by
    generalize n + 1 = m
    induction m with
    | zero => rfl
    | succ m ih => rw [List.replicate_succ, List.replicate_succ, List.flatten_cons, ih]; rfl
  rw [e]
  by_cases hi : i ≤ n
  · rw [heldL_at hi, List.getElem?_replicate_of_lt (by omega)]
  · rw [List.getElem?_eq_none (show (List.replicate (n + 1) (V.bl false)).length ≤ i by rw [List.length_replicate]; omega), List.getElem?_eq_none (show (heldL n fun _ => false).length ≤ i by rw [heldL_len]; omega)]
theorem l1000 {n : Nat} (h : n ≤ 1000) : n ≤ sizeLine := Nat.le_of_lt (small1000 h)
/-! ### first_free -/
def sp_first_free (K : PySem.W.Frag) (a : Ad) : Sp := fun vs H Q _ => ∃ (h : Addr) (n : Nat) (occ : Int → Bool) (w : Int), vs = [.ref h, .int w] ∧ SqL K H h (heldL n occ) ∧ n ≤ 900 ∧ 0 ≤ w ∧ w ≤ 1000 ∧ Q (vO (ffree n occ w)) H
abbrev N_first_free : List Str := ["held", "wish", "berth"]
def t_first_free (K : PySem.W.Frag) (a : Ad) : TS :=
  (tSeq (tFor (iRng2 (tCons (tVar 1) (tCons (tCB (rLenSq K) (tCons (tVar 0) tNil)) tNil))) (gName 2)
    (tIfS (tNot (tB (tOp (rIxL K) (tVar 0) (tVar 2)))) (tRet (tVar 2)) tNext))
    (tRet (tC .non)))
theorem len_first_free {K : PySem.W.Frag} {a : Ad} {vs : List V} {H : Hp} {Q : VK} {E : XK} (h : sp_first_free K a vs H Q E) : vs.length = 2 := by
  obtain ⟨h, n, occ, w, rfl, _⟩ := h
  rfl
theorem pu_first_free {K : PySem.W.Frag} {a : Ad} {vs : List V} {H : Hp} {Q : VK} {E : XK} (h : sp_first_free K a vs H Q E) : t_first_free K a { nx := fun _ H' => Q .non H', rt := Q } (start N_first_free vs) H := by
  obtain ⟨h, n, occ, w, rfl, hs, hn, h0, hw, q⟩ := h
  refine ⟨.int w, rfl, .ref h, rfl, h, _, rfl, .inl hs, w, ((heldL n occ).length : Nat), rfl, ?_, ?_⟩
  · rw [heldL_len]
    omega
  rw [heldL_len]
  have en : (((n + 1 : Nat) : Int) - w).toNat = ((n : Int) + 1 - w).toNat := by omega
  rw [en]
  refine for_range (fun i σ H' => H' = H ∧ ffree n occ w = ffr occ (((n : Int) + 1 - w).toNat - i) (w + i) ∧ ∃ y, σ = [some (.ref h), some (.int w), y]) ⟨rfl, by simp [ffree], none, rfl⟩ ?_ ?_
  · rintro i σ H' hi ⟨rfl, e, y, rfl⟩
    have hx : (heldL n occ)[(w + i).toNat]? = some (.bl (occ (w + i))) := by
      rw [heldL_at (by omega)]
      have : (((w + i).toNat : Nat) : Int) = w + i := by omega
      rw [this]
    refine ⟨.ref h, rfl, .int (w + i), rfl, h, _, _, .bl (occ (w + i)), rfl, rfl, hs, at_of (by omega) hx, occ (w + i), rfl, ?_⟩
    have e2 : ((n : Int) + 1 - w).toNat - i = (((n : Int) + 1 - w).toNat - (i + 1)) + 1 := by omega
    rw [e2] at e
    unfold ffr at e
    cases o : occ (w + i) with
    | true =>
      rw [o, if_pos rfl] at e
      refine iteF ⟨rfl, ?_, some (.int (w + i)), rfl⟩
      rw [e]
      congr 1
      omega
    | false =>
      rw [o, if_neg Bool.false_ne_true] at e
      refine iteT ⟨.int (w + i), rfl, ?_⟩
      rw [e] at q
      exact q
  · rintro σ H' ⟨rfl, e, y, rfl⟩
    rw [Nat.sub_self] at e
    rw [e] at q
    exact q
/-! ### placed -/
def sp_placed (K : PySem.W.Frag) (a : Ad) : Sp := fun vs H Q E => ∃ b w, vs = [b, w] ∧ ChkW K a b w H E fun n ws _ => ∀ (l : Addr) (H' : Hp), H l = none → Same H H' → H' l = some (.lst ((placedL n ws).map vO)) → Q (.ref l) H'
abbrev N_placed : List Str := ["berths", "wishes", "held", "found", "wish", "berth"]
def t_placed (K : PySem.W.Frag) (a : Ad) (E : XK) : TS :=
  (tSeq (tDrop (tCall (sp_check_wishes K a) [] E (tCons (tVar 0) (tCons (tVar 1) tNil))))
    (tSeq (tAsg (tOp rRep (tLst (tCons (tC (.bl false)) tNil)) (tOp rAddI (tVar 0) (tC (.int 1)))) (gName 2))
    (tSeq (tAsg (tLst tNil) (gName 3))
    (tSeq (tFor (iSeq K (tVar 1)) (gName 4)
    (tSeq (tAsg (tCall (sp_first_free K a) [] E0 (tCons (tVar 2) (tCons (tVar 4) tNil))) (gName 5))
    (tSeq (tIfS (tB (tNotN (tVar 5))) (tAsg (tC (.bl true)) (gSub (tVar 2) (tVar 5) rSetL)) tNext)
    (tDrop (tBM K "list" rAppend (tVar 3) (tCons (tVar 5) tNil))))))
    (tRet (tVar 3))))))
theorem len_placed {K : PySem.W.Frag} {a : Ad} {vs : List V} {H : Hp} {Q : VK} {E : XK} (h : sp_placed K a vs H Q E) : vs.length = 2 := by
  obtain ⟨b, w, rfl, _⟩ := h
  rfl
theorem pu_placed {K : PySem.W.Frag} {a : Ad} {vs : List V} {H : Hp} {Q : VK} {E : XK} (h : sp_placed K a vs H Q E) : t_placed K a E { nx := fun _ H' => Q .non H', rt := Q } (start N_placed vs) H := by
  obtain ⟨b, w, rfl, h⟩ := h
  refine ⟨b, rfl, w, rfl, b, w, rfl, ChkW.imp h fun n ws p eb ew h1 h2 hs hl hb q => ?_⟩
  subst eb
  subst ew
  -- held = [False] * (berths + 1)
  refine ⟨by decide, fun l0 nl0 => ⟨.int n, rfl, n, 1, rfl, rfl, l0, _, _, rfl, rfl, upd_same, by omega, by omega, ?_, fun l1 nl1 => ?_⟩⟩
  · refine l1000 ?_
    show 1 * _ ≤ _
    omega
  have e1 : ((n : Int) + 1).toNat = n + 1 := by omega
  rw [e1, heldL_new]
  have s0 : Same H (upd H l0 (.lst [.bl false])) := same_new nl0
  have n1 : H l1 = none := s0.free nl1
  have s1 := s0.store n1 (o := .lst (heldL n fun _ => false))
  -- found = []
  refine ⟨Nat.zero_le _, fun l2 nl2 => ?_⟩
  have n2 : H l2 = none := s1.free nl2
  have hne : l1 ≠ l2 := ne_of_none upd_same nl2
  refine for_seq (K := K) (H0 := H) (fun Q q => ⟨.ref p, rfl, q⟩) hs (fun i σ H' => (∃ y z, σ = [some (.int n), some (.ref p), some (.ref l1), some (.ref l2), y, z]) ∧ Same H H' ∧ H' l1 = some (.lst (heldL n (prun n (ws.take i)).1)) ∧ H' l2 = some (.lst ((prun n (ws.take i)).2.map vO))) ⟨⟨none, none, rfl⟩, s1.store n2, by rw [upd_ne hne]; exact upd_same, upd_same⟩ (fun i σ H' h => h.2.1) ?_ ?_
  · rintro i x σ H' hx ⟨⟨y, z, rfl⟩, s, eh, ef⟩
    obtain ⟨w, hw, rfl⟩ := item_of hx
    have bw := hb w (List.mem_of_getElem? hw)
    refine ⟨.ref l1, rfl, .int w, rfl, l1, n, _, w, rfl, .inl (.inl eh), by omega, by omega, by omega, ?_⟩
    have step := prun_more (n := n) hw
    have fl : (prun n (ws.take i)).2.length < sizeLine := by
      rw [prun_len, List.length_take]
      exact small1000 (by omega)
    cases e : ffree n (prun n (ws.take i)).1 w with
    | none =>
      have step' : prun n (ws.take (i + 1)) = ((prun n (ws.take i)).1, (prun n (ws.take i)).2 ++ [none]) := by rw [step]; simp only [pstep, e]
      refine ⟨.non, rfl, false, rfl, iteF ⟨.ref l2, rfl, .inl ⟨rfl, _, .inl (.inl ef)⟩, .non, rfl, l2, _, _, rfl, rfl, ef, by rw [List.length_map]; exact fl, ?_⟩⟩
      refine ⟨⟨_, _, rfl⟩, s.store n2, ?_, ?_⟩
      · rw [upd_ne hne, step']
        exact eh
      · rw [upd_same, step', List.map_append]
        rfl
    | some b =>
      have step' : prun n (ws.take (i + 1)) = (setO (prun n (ws.take i)).1 b, (prun n (ws.take i)).2 ++ [some b]) := by rw [step]; simp only [pstep, e]
      obtain ⟨b1, b2, _⟩ := ffree_some e
      refine ⟨.int b, rfl, true, rfl, iteT ⟨.ref l1, rfl, .int b, rfl, l1, _, b, b.toNat, rfl, rfl, eh, ?_, ?_⟩⟩
      · unfold ixN
        rw [if_pos (by omega), heldL_len, if_pos (by omega)]
      rw [heldL_set (by omega) b2]
      have ef' : (upd H' l1 (.lst (heldL n (setO (prun n (ws.take i)).1 b)))) l2 = some (.lst ((prun n (ws.take i)).2.map vO)) := by rw [upd_ne hne.symm]; exact ef
      refine ⟨.ref l2, rfl, .inl ⟨rfl, _, .inl (.inl ef')⟩, .int b, rfl, l2, _, _, rfl, rfl, ef', by rw [List.length_map]; exact fl, ?_⟩
      refine ⟨⟨_, _, rfl⟩, (s.store n1).store n2, ?_, ?_⟩
      · rw [upd_ne hne, upd_same, step']
      · rw [upd_same, step', List.map_append]
        rfl
  · rintro σ H' ⟨⟨y, z, rfl⟩, s, eh, ef⟩
    rw [List.length_map, List.take_length] at ef
    exact ⟨.ref l2, rfl, q l2 H' n2 s ef⟩

/-! ### taken, gone_on -/
def somes (l : List (Option Int)) : List Int := l.filterMap id
def sortI (l : List Int) : List Int := l.mergeSort fun x y => decide (x ≤ y)
theorem sortI_perm (l : List Int) : (sortI l).Perm l := List.mergeSort_perm l _
theorem sortI_sorted (l : List Int) : (sortI l).Pairwise (· ≤ ·) := by
  have h := List.pairwise_mergeSort (le := fun (x y : Int) => decide (x ≤ y)) (fun a b c h1 h2 => by simp only [decide_eq_true_eq] at *; omega) (fun a b => by simp only [Bool.or_eq_true, decide_eq_true_eq]; omega) l
  exact List.Pairwise.imp (fun h => of_decide_eq_true h) h
theorem sortI_uniq {l l' : List Int} (hp : l'.Perm l) (hs : l'.Pairwise (· ≤ ·)) : l' = sortI l := PySem.W.ksm_same (hp.trans (sortI_perm l).symm) hs (sortI_sorted l)
def takenL (n : Nat) (ws : List Int) : List Int := sortI (somes (placedL n ws))
/-- of each ship that lies, how far behind its wish -/
def goneL (ws : List Int) (bs : List (Option Int)) : List Int := (ws.zip bs).filterMap fun p => p.2.map fun b => b - p.1
theorem filter_some : ∀ l : List (Option Int), (l.filter Option.isSome).map vO = (somes l).map V.int
  | [] => rfl
  | none :: l => filter_some l
  | some b :: l => congrArg (V.int b :: ·) (filter_some l)
theorem vO_not (o : Option Int) : (!decide (vO o = .non)) = o.isSome := by
  cases o <;> rfl
def sp_taken (K : PySem.W.Frag) (a : Ad) : Sp := fun vs H Q E => ∃ b w, vs = [b, w] ∧ ChkW K a b w H E fun n ws _ => ∀ (l : Addr) (H' : Hp), H l = none → Same H H' → H' l = some (.lst ((takenL n ws).map V.int)) → Q (.ref l) H'
abbrev N_taken : List Str := ["berths", "wishes", "berth"]
def t_taken (K : PySem.W.Frag) (a : Ad) (E : XK) : TS :=
  (tRet (tCB (rSortedI K) (tCons (tLc (iList K (tCall (sp_placed K a) [] E (tCons (tVar 0) (tCons (tVar 1) tNil)))) (gName 2) (tB (tNotN (tVar 2))) (tVar 2) [2]) tNil)))
theorem len_taken {K : PySem.W.Frag} {a : Ad} {vs : List V} {H : Hp} {Q : VK} {E : XK} (h : sp_taken K a vs H Q E) : vs.length = 2 := by
  obtain ⟨b, w, rfl, _⟩ := h
  rfl
theorem pu_taken {K : PySem.W.Frag} {a : Ad} {vs : List V} {H : Hp} {Q : VK} {E : XK} (h : sp_taken K a vs H Q E) : t_taken K a E { nx := fun _ H' => Q .non H', rt := Q } (start N_taken vs) H := by
  obtain ⟨b, w, rfl, h⟩ := h
  refine ⟨b, rfl, w, rfl, b, w, rfl, ChkW.imp h fun n ws p eb ew h1 h2 hs hl hb q => ?_⟩
  intro l H1 nl s el
  have sl : (placedL n ws).length < sizeLine := by rw [placedL_len]; exact small1000 (by omega)
  refine ⟨l, rfl, ⟨_, sqL_of el⟩, lc_pure (walk_list (K := K) (a := l) (xs := (placedL n ws).map vO)) (by rw [List.length_map]; exact sl) (placedL n ws) (by rw [List.length_map]) Option.isSome vO (fun H' s' => s'.seq (sqL_of el)) ?_ ?_⟩
  · intro i x v H2 H3 R hx s2 hy k
    obtain ⟨rfl, hv⟩ := hy
    rw [List.getElem?_map, hx] at hv
    cases hv
    refine ⟨rfl, vO x, rfl, x.isSome, by rw [vO_not], ?_⟩
    have kk := k (vO x) _ (Same.refl _) fun _ => rfl
    cases e : x.isSome with
    | true =>
      rw [e] at kk
      exact iteT ⟨vO x, rfl, kk⟩
    | false =>
      refine iteF ?_
      have kk := k .non _ (Same.refl _) fun z => by rw [e] at z; cases z
      rw [e] at kk
      exact kk
  · intro D H2 nD s2 eD
    rw [filter_some] at eD
    refine ⟨D, _, rfl, sqL_of eD, fun ns' p' hp hs' np => ?_⟩
    rw [sortI_uniq hp hs']
    have s3 := s.trans s2
    exact q p' _ (s3.free np) (s3.trans (same_new np)) upd_same
def sp_gone_on (K : PySem.W.Frag) (a : Ad) : Sp := fun vs H Q E => ∃ b w, vs = [b, w] ∧ ChkW K a b w H E fun n ws p => SqL K H p (ws.map V.int) ∧ ∀ (H' : Hp), Same H H' → Q (.int (goneL ws (placedL n ws)).sum) H'
abbrev N_gone_on : List Str := ["berths", "wishes", "found", "wish", "berth"]
def t_gone_on (K : PySem.W.Frag) (a : Ad) (E : XK) : TS :=
  (tSeq (tAsg (tCall (sp_placed K a) [] E (tCons (tVar 0) (tCons (tVar 1) tNil))) (gName 2))
    (tRet (tCB (rSum K) (tCons (tLc (iZip K (tCons (tVar 1) (tCons (tVar 2) tNil))) (gTup K 2 (gCons (gName 3) (gCons (gName 4) gNil))) (tB (tNotN (tVar 4))) (tOp rSubI (tVar 4) (tVar 3)) [3, 4]) tNil))))
theorem len_gone_on {K : PySem.W.Frag} {a : Ad} {vs : List V} {H : Hp} {Q : VK} {E : XK} (h : sp_gone_on K a vs H Q E) : vs.length = 2 := by
  obtain ⟨b, w, rfl, _⟩ := h
  rfl
theorem zip_gone : ∀ (ws : List Int) (bs : List (Option Int)), ((ws.zip bs).filter fun p => p.2.isSome).map (fun p => V.int ((p.2.getD 0) - p.1)) = (goneL ws bs).map V.int
  | [], _ => by simp [goneL]
  | _ :: _, [] => by simp [goneL]
  | w :: ws, none :: bs => by
    have ih := zip_gone ws bs
    simp only [List.zip_cons_cons, goneL] at ih ⊢
    simpa using ih
  | w :: ws, some b :: bs => by
    have ih := zip_gone ws bs
    simp only [List.zip_cons_cons, goneL] at ih ⊢
    simpa using ih
theorem zip_at {ws : List Int} {bs : List (Option Int)} {i : Nat} {x : Int × Option Int} (h : (ws.zip bs)[i]? = some x) : ws[i]? = some x.1 ∧ bs[i]? = some x.2 := by
  rw [List.getElem?_zip_eq_some] at h
  exact h
theorem pu_gone_on {K : PySem.W.Frag} {a : Ad} {vs : List V} {H : Hp} {Q : VK} {E : XK} (h : sp_gone_on K a vs H Q E) : t_gone_on K a E { nx := fun _ H' => Q .non H', rt := Q } (start N_gone_on vs) H := by
  obtain ⟨b, w, rfl, h⟩ := h
  refine ⟨b, rfl, w, rfl, b, w, rfl, ChkW.imp h fun n ws p eb ew h1 h2 hs hl hb q => ?_⟩
  obtain ⟨hL, q⟩ := q
  intro l H1 nl s el
  have sl : (placedL n ws).length < sizeLine := by rw [placedL_len]; exact small1000 (by omega)
  have hz : min (ws.map V.int).length ((placedL n ws).map vO).length = ws.length := by
    rw [List.length_map, List.length_map, placedL_len]
    exact Nat.min_self _
  refine ⟨w, rfl, .ref l, rfl, p, l, _, _, by rw [ew], s.seq hL, sqL_of el, lc_pure (walk_zip (K := K) (a := p) (b := l) (xs := ws.map V.int) (ys := (placedL n ws).map vO) rfl) (by rw [hz]; exact small1000 (by omega)) (ws.zip (placedL n ws)) (by rw [hz, List.length_zip, placedL_len]; exact Nat.min_self _) (fun x => x.2.isSome) (fun x => V.int ((x.2.getD 0) - x.1)) (fun H' s' => ⟨(s.trans s').seq hL, s'.seq (sqL_of el)⟩) ?_ ?_⟩
  · intro i x v H2 H3 R hx s2 hy k
    obtain ⟨T, u1, u2, rfl, nT, rfl, e1, e2⟩ := hy
    obtain ⟨x1, x2⟩ := zip_at hx
    replace e1 : (ws.map V.int)[i]? = some u1 := e1
    replace e2 : ((placedL n ws).map vO)[i]? = some u2 := e2
    rw [List.getElem?_map, x1] at e1
    rw [List.getElem?_map, x2] at e2
    cases e1
    cases e2
    refine ⟨T, _, rfl, sqT_of upd_same, rfl, _, _, rfl, _, _, rfl, rfl, rfl, vO x.2, rfl, x.2.isSome, by rw [vO_not], ?_⟩
    obtain ⟨xa, xb⟩ := x
    cases xb with
    | some y =>
      exact iteT ⟨.int y, rfl, .int xa, rfl, y, xa, rfl, rfl, k (.int (y - xa)) _ (same_new nT) fun _ => rfl⟩
    | none =>
      exact iteF (k .non _ (same_new nT) fun z => by cases z)
  · intro D H2 nD s2 eD
    rw [zip_gone] at eD
    exact ⟨D, _, rfl, sqL_of eD, q H2 (s.trans s2)⟩

/-! ### what the laws read of a script -/
def cellAt (ns : List Int) (k : Int) : Int := ns.getD k.toNat 0
theorem cut_drop (xs : List V) (k : Nat) : cutV xs (some (k : Int)) none = xs.drop k := by
  unfold cutV
  rw [HT.sIx_nat, HT.sIx_none]
  by_cases h : k ≤ xs.length
  · rw [Nat.min_eq_left h]
    exact List.take_of_length_le (by rw [List.length_drop]; omega)
  · rw [Nat.min_eq_right (by omega), Nat.sub_self, List.take_zero, List.drop_eq_nil_of_le (by omega)]
theorem cut2 (xs : List V) : cutV xs (some 2) none = xs.drop 2 := cut_drop xs 2
theorem atI_lit (xs : List V) (j : Nat) {v : V} (h : xs[j]? = some v) : atI xs (j : Int) = some v := atI_nat h
def sp_l_cell_at (K : PySem.W.Frag) : Sp := fun vs H Q _ => ∃ (s : Addr) (ns : List Int) (k : Int), vs = [.ref s, .int k] ∧ SqL K H s (ns.map V.int) ∧ 0 ≤ k ∧ Q (.int (cellAt ns k)) H
abbrev N_l_cell_at : List Str := ["_law_script", "_law_k"]
def t_l_cell_at (K : PySem.W.Frag) (a : Ad) : TS :=
  (tSeq (tIfS (tTest (tOp rLtI (tVar 1) (tCB (rLenSq K) (tCons (tVar 0) tNil)))) (tRet (tOp (rIxL K) (tVar 0) (tVar 1))) tNext)
    (tRet (tC (.int 0))))
theorem len_l_cell_at {K : PySem.W.Frag} {vs : List V} {H : Hp} {Q : VK} {E : XK} (h : sp_l_cell_at K vs H Q E) : vs.length = 2 := by
  obtain ⟨s, ns, k, rfl, _⟩ := h
  rfl
theorem pu_l_cell_at {K : PySem.W.Frag} {a : Ad} {vs : List V} {H : Hp} {Q : VK} {E : XK} (h : sp_l_cell_at K vs H Q E) : t_l_cell_at K a { nx := fun _ H' => Q .non H', rt := Q } (start N_l_cell_at vs) H := by
  obtain ⟨s, ns, k, rfl, hs, h0, q⟩ := h
  refine ⟨.int k, rfl, .ref s, rfl, s, _, rfl, .inl hs, _, _, rfl, rfl, _, rfl, ?_⟩
  by_cases h : k < ((ns.map V.int).length : Nat)
  · rw [decide_eq_true h]
    rw [List.length_map] at h
    have e : ns[k.toNat]? = some (cellAt ns k) := by
      unfold cellAt
      rw [List.getD_eq_getElem?_getD, List.getElem?_eq_getElem (by omega)]
      rfl
    refine iteT ⟨.ref s, rfl, .int k, rfl, s, _, k, _, rfl, rfl, hs, at_of (j := k.toNat) (by omega) (by rw [List.getElem?_map, e]; rfl), q⟩
  · rw [decide_eq_false h]
    rw [List.length_map] at h
    have e : cellAt ns k = 0 := by
      unfold cellAt
      rw [List.getD_eq_getElem?_getD, List.getElem?_eq_none (by omega)]
      rfl
    rw [e] at q
    exact iteF q
def sp_l_quay (K : PySem.W.Frag) : Sp := fun vs H Q _ => ∃ (s : Addr) (ns : List Int), vs = [.ref s] ∧ SqL K H s (ns.map V.int) ∧ ∀ (n : Nat) (H' : Hp), 1 ≤ n → n ≤ 400 → Same H H' → Q (.int n) H'
abbrev N_l_quay : List Str := ["_law_script"]
def t_l_quay (K : PySem.W.Frag) (a : Ad) : TS :=
  (tRet (tOp rAddI (tC (.int 1)) (tOp rModI (tCall (sp_l_cell_at K) [] E0 (tCons (tVar 0) (tCons (tC (.int 0)) tNil))) (tOp (rIxL K) (tLst (tCons (tC (.int 6)) (tCons (tC (.int 40)) (tCons (tC (.int 400)) tNil)))) (tOp rModI (tCall (sp_l_cell_at K) [] E0 (tCons (tVar 0) (tCons (tC (.int 1)) tNil))) (tC (.int 3)))))))
theorem len_l_quay {K : PySem.W.Frag} {vs : List V} {H : Hp} {Q : VK} {E : XK} (h : sp_l_quay K vs H Q E) : vs.length = 1 := by
  obtain ⟨s, ns, rfl, _⟩ := h
  rfl
theorem p3 : (0 : Int) < 3 := by decide
theorem p4 : (0 : Int) < 4 := by decide
theorem d2 {n : Int} : CDiv n 2 := ⟨by decide, by decide⟩
theorem d3 {n : Int} : CDiv n 3 := ⟨by decide, by decide⟩
theorem d12 {n : Int} : CDiv n 12 := ⟨by decide, by decide⟩
theorem pick3 (c : Int) (x y z : V) : ∃ v, atI [x, y, z] (c % 3) = some v ∧ (v = x ∨ v = y ∨ v = z) := by
  have h : c % 3 = 0 ∨ c % 3 = 1 ∨ c % 3 = 2 := by omega
  rcases h with h | h | h <;> rw [h]
  · exact ⟨x, rfl, .inl rfl⟩
  · exact ⟨y, rfl, .inr (.inl rfl)⟩
  · exact ⟨z, rfl, .inr (.inr rfl)⟩
theorem pick4 (c : Int) (x y z u : V) : ∃ v, atI [x, y, z, u] (c % 4) = some v ∧ (v = x ∨ v = y ∨ v = z ∨ v = u) := by
  have h : c % 4 = 0 ∨ c % 4 = 1 ∨ c % 4 = 2 ∨ c % 4 = 3 := by omega
  rcases h with h | h | h | h <;> rw [h]
  · exact ⟨x, rfl, .inl rfl⟩
  · exact ⟨y, rfl, .inr (.inl rfl)⟩
  · exact ⟨z, rfl, .inr (.inr (.inl rfl))⟩
  · exact ⟨u, rfl, .inr (.inr (.inr rfl))⟩
theorem pu_l_quay {K : PySem.W.Frag} {a : Ad} {vs : List V} {H : Hp} {Q : VK} {E : XK} (h : sp_l_quay K vs H Q E) : t_l_quay K a { nx := fun _ H' => Q .non H', rt := Q } (start N_l_quay vs) H := by
  obtain ⟨s, ns, rfl, hs, q⟩ := h
  refine ⟨.ref s, rfl, s, ns, 0, rfl, hs, Int.le_refl _, by decide, fun l nl => ?_⟩
  have s1 := same_new nl (o := .lst [.int 6, .int 40, .int 400])
  refine ⟨.ref s, rfl, s, ns, 1, rfl, s1.seq hs, by decide, _, 3, rfl, rfl, p3, ?_⟩
  obtain ⟨v, e, hv⟩ := pick3 (cellAt ns 1) (.int 6) (.int 40) (.int 400)
  obtain ⟨m, rfl, m1, m2⟩ : ∃ m, v = .int m ∧ 1 ≤ m ∧ m ≤ 400 := by
    rcases hv with h | h | h <;> subst h <;> exact ⟨_, rfl, by decide, by decide⟩
  refine ⟨l, _, _, _, rfl, rfl, sqL_of upd_same, e, _, m, rfl, rfl, (by show 0 < m; omega), 1, _, rfl, rfl, ?_⟩
  have b1 := Int.emod_nonneg (cellAt ns 0) (show m ≠ 0 by omega)
  have b2 := Int.emod_lt_of_pos (cellAt ns 0) (show 0 < m by omega)
  have e2 : 1 + cellAt ns 0 % m = ((1 + cellAt ns 0 % m).toNat : Nat) := by omega
  show Q (.int (1 + cellAt ns 0 % m)) _
  rw [e2]
  exact q _ _ (by omega) (by omega) s1
def sp_l_wishes (K : PySem.W.Frag) : Sp := fun vs H Q _ => ∃ (s : Addr) (ns : List Int) (n : Nat) (most : Int), vs = [.ref s, .int n, .int most] ∧ SqL K H s (ns.map V.int) ∧ 1 ≤ n ∧ n ≤ 400 ∧ 0 ≤ most ∧ ns.length ≤ 63 ∧
  ∀ (l : Addr) (H' : Hp) (ws : List Int), H l = none → Same H H' → H' l = some (.lst (ws.map V.int)) → (∀ x ∈ ws, 1 ≤ x ∧ x ≤ n) → ws.length ≤ 61 → (ws.length : Int) ≤ most → Q (.ref l) H'
abbrev N_l_wishes : List Str := ["_law_script", "_law_berths", "_law_most", "_law_near", "_law_far", "_law_wishes_here", "_law_cell"]
def t_l_wishes (K : PySem.W.Frag) (a : Ad) : TS :=
  (tSeq (tAsg (tOp (rIxL K) (tLst (tCons (tVar 1) (tCons (tOp rAddI (tC (.int 1)) (tOp rDivI (tVar 1) (tC (.int 2)))) (tCons (tCB rMin2 (tCons (tVar 1) (tCons (tC (.int 3)) tNil))) (tCons (tVar 1) tNil))))) (tOp rModI (tOp rDivI (tCall (sp_l_cell_at K) [] E0 (tCons (tVar 0) (tCons (tC (.int 1)) tNil))) (tC (.int 3))) (tC (.int 4)))) (gName 3))
    (tSeq (tAsg (tOp rModI (tOp rDivI (tCall (sp_l_cell_at K) [] E0 (tCons (tVar 0) (tCons (tC (.int 1)) tNil))) (tC (.int 12))) (tVar 1)) (gName 4))
    (tSeq (tAsg (tLst tNil) (gName 5))
    (tSeq (tFor (iList K (tSl (rSlL K) (tVar 0) (tPart (tC (.int 2))) tNoPart)) (gName 6)
    (tIfS (tTest (tOp rLtI (tCB (rLenSq K) (tCons (tVar 5) tNil)) (tVar 2))) (tDrop (tBM K "list" rAppend (tVar 5) (tCons (tOp rAddI (tOp rModI (tOp rAddI (tOp rModI (tVar 6) (tVar 3)) (tVar 4)) (tVar 1)) (tC (.int 1))) tNil))) tNext))
    (tRet (tVar 5))))))
theorem len_l_wishes {K : PySem.W.Frag} {vs : List V} {H : Hp} {Q : VK} {E : XK} (h : sp_l_wishes K vs H Q E) : vs.length = 3 := by
  obtain ⟨s, ns, n, most, rfl, _⟩ := h
  rfl
theorem pu_l_wishes {K : PySem.W.Frag} {a : Ad} {vs : List V} {H : Hp} {Q : VK} {E : XK} (h : sp_l_wishes K vs H Q E) : t_l_wishes K a { nx := fun _ H' => Q .non H', rt := Q } (start N_l_wishes vs) H := by
  obtain ⟨s, ns, n, most, rfl, hs, h1, h2, h0, hl, q⟩ := h
  -- near
  refine ⟨.int n, rfl, .int n, rfl, n, 2, rfl, rfl, d2, 1, _, rfl, rfl, .int n, rfl, n, 3, rfl, .int n, rfl, l1000 (by show 4 ≤ 1000; decide), fun l0 nl0 => ?_⟩
  have s0 := same_new nl0 (o := .lst [.int n, .int (1 + n / 2), .int (if (3 : Int) < n then 3 else n), .int n])
  refine ⟨.ref s, rfl, s, ns, 1, rfl, s0.seq hs, by decide, _, 3, rfl, rfl, d3, _, 4, rfl, rfl, p4, ?_⟩
  obtain ⟨v, e, hv⟩ := pick4 (cellAt ns 1 / 3) (.int n) (.int (1 + n / 2)) (.int (if (3 : Int) < n then 3 else n)) (.int n)
  obtain ⟨near, rfl, m1⟩ : ∃ m, v = .int m ∧ 1 ≤ m := by
    rcases hv with h | h | h | h <;> subst h
    · exact ⟨_, rfl, by omega⟩
    · exact ⟨_, rfl, by omega⟩
    · refine ⟨_, rfl, ?_⟩
      split <;> omega
    · exact ⟨_, rfl, by omega⟩
  refine ⟨l0, _, _, _, rfl, rfl, sqL_of upd_same, e, ?_⟩
  -- far
  refine ⟨.ref s, rfl, s, ns, 1, rfl, s0.seq hs, by decide, _, 12, rfl, rfl, d12, .int n, rfl, _, _, rfl, rfl, (by show (0 : Int) < n; omega), ?_⟩
  -- the list
  refine ⟨Nat.zero_le _, fun l nl => ?_⟩
  have nlH : H l = none := s0.free nl
  have s1 := s0.store nlH (o := .lst [])
  -- the script's rest
  refine ⟨.ref s, rfl, 2, rfl, s, _, rfl, s1.seq hs, fun c nc => ?_⟩
  have ncH : H c = none := s1.free nc
  have ncl : l ≠ c := ne_of_none upd_same nc
  have s2 := s1.store ncH (o := .lst (cutV (ns.map V.int) (some 2) none))
  refine ⟨c, rfl, ⟨_, sqL_of upd_same⟩, for_list (K := K) (a := c) (xs := (ns.drop 2).map V.int) (fun i σ H' => ∃ (ws : List Int) (y : Option V), σ = [some (.ref s), some (.int n), some (.int most), some (.int near), some (.int (cellAt ns 1 / 12 % n)), some (.ref l), y] ∧ Same H H' ∧
    H' c = some (.lst ((ns.drop 2).map V.int)) ∧ H' l = some (.lst (ws.map V.int)) ∧ (∀ x ∈ ws, 1 ≤ x ∧ x ≤ n) ∧ ws.length ≤ i ∧ (ws.length : Int) ≤ most) ?_ (fun i σ H' _ ⟨_, _, _, _, h, _⟩ => sqL_of h) ?_ ?_⟩
  · refine ⟨[], none, rfl, s2, ?_, ?_, fun x hx => absurd hx (by simp), Nat.le_refl _, by simpa using h0⟩
    · rw [upd_same, cut2, List.map_drop]
    · rw [upd_ne ncl, upd_same]
      rfl
  · rintro i x σ H' hx ⟨ws, y, rfl, s3, hc, hw, hb, hi, hm⟩
    obtain ⟨z, hz, rfl⟩ := item_of hx
    have hi2 : i < (ns.drop 2).length := (List.getElem?_eq_some_iff.mp hz).1
    rw [List.length_drop] at hi2
    refine ⟨.ref l, rfl, l, _, rfl, .inl (sqL_of hw), .int most, rfl, _, _, rfl, rfl, _, rfl, ?_⟩
    by_cases hlt : (((ws.map V.int).length : Nat) : Int) < most
    · rw [decide_eq_true hlt]
      rw [List.length_map] at hlt
      refine iteT ⟨.ref l, rfl, .inl ⟨rfl, _, sqL_of hw⟩, .int z, rfl, .int near, rfl, z, near, rfl, rfl, (by show 0 < near; omega), .int (cellAt ns 1 / 12 % n), rfl, _, _, rfl, rfl, .int n, rfl, _, n, rfl, rfl, (by show (0 : Int) < n; omega), _, 1, rfl, rfl, l, _, _, rfl, rfl, hw, by rw [List.length_map]; exact small1000 (by omega), ?_⟩
      have b1 := Int.emod_nonneg (z % near + cellAt ns 1 / 12 % n) (show (n : Int) ≠ 0 by omega)
      have b2 := Int.emod_lt_of_pos (z % near + cellAt ns 1 / 12 % n) (show (0 : Int) < n by omega)
      refine ⟨ws ++ [(z % near + cellAt ns 1 / 12 % n) % n + 1], some (.int z), rfl, s3.store nlH, ?_, ?_, ?_, ?_, ?_⟩
      · rw [upd_ne ncl.symm]
        exact hc
      · rw [upd_same, List.map_append]
        rfl
      · intro x hx
        rcases List.mem_append.mp hx with k | k
        · exact hb x k
        · rw [List.mem_singleton.mp k]
          omega
      · rw [List.length_append, List.length_singleton]
        omega
      · rw [List.length_append, List.length_singleton]
        omega
    · rw [decide_eq_false hlt]
      exact iteF ⟨ws, some (.int z), rfl, s3, hc, hw, hb, by omega, hm⟩
  · rintro σ H' ⟨ws, y, rfl, s3, hc, hw, hb, hi, hm⟩
    rw [List.length_map, List.length_drop] at hi
    exact ⟨.ref l, rfl, q l H' ws nlH s3 hw hb (by omega) hm⟩

/-! ### a whole number -/
def sp_l_whole (K : PySem.W.Frag) : Sp := fun vs H Q _ => ∃ (i : Int), vs = [.int i] ∧ Q (.bl true) H
abbrev N_l_whole : List Str := ["_law_found"]
def t_l_whole (K : PySem.W.Frag) (a : Ad) : TS :=
  (tRet (tAndV (tCB (rIsi K) (tCons (tVar 0) (tCons (tC (.ty "int")) tNil))) (tNotV (tCB (rIsi K) (tCons (tVar 0) (tCons (tC (.ty "bool")) tNil))))))
theorem len_l_whole {K : PySem.W.Frag} {vs : List V} {H : Hp} {Q : VK} {E : XK} (h : sp_l_whole K vs H Q E) : vs.length = 1 := by
  obtain ⟨i, rfl, _⟩ := h
  rfl
theorem kit_ii {K : PySem.W.Frag} : PySem.W.kitOne K (.type "int") (.type "int") = some true := kit_ty (by decide +kernel)
theorem kit_ib {K : PySem.W.Frag} : PySem.W.kitOne K (.type "int") (.type "bool") = some false := kit_ty (by decide +kernel)
theorem kit_ll {K : PySem.W.Frag} : PySem.W.kitOne K (.type "list") (.type "list") = some true := kit_ty (by decide +kernel)
theorem pu_l_whole {K : PySem.W.Frag} {a : Ad} {vs : List V} {H : Hp} {Q : VK} {E : XK} (h : sp_l_whole K vs H Q E) : t_l_whole K a { nx := fun _ H' => Q .non H', rt := Q } (start N_l_whole vs) H := by
  obtain ⟨i, rfl, q⟩ := h
  exact ⟨.int i, rfl, .int i, _, _, _, true, rfl, .ty _, .base (.int i), kit_ii, true, rfl, iteT ⟨.int i, rfl, .int i, _, _, _, false, rfl, .ty _, .base (.int i), kit_ib, false, rfl, q⟩⟩

/-! ### law k01 -/
theorem dp_opts {K : PySem.W.Frag} {H : Hp} : ∀ os : List (Option Int), DpAll K H (os.map vO) (os.map PySem.W.Datum.toD)
  | [] => .nil
  | none :: r => .cons .non (dp_opts r)
  | some b :: r => .cons (.int b) (dp_opts r)
theorem ho_opts {K : PySem.W.Frag} {H : Hp} {p : Addr} {os : List (Option Int)} (h : SqL K H p (os.map vO)) : Dp K H (.ref p) (PySem.W.Datum.toD os) := .lst h (dp_opts os)
def freeL (n : Nat) (occ : Int → Bool) : List Int := ((List.range n).map fun (i : Nat) => (i : Int) + 1).filter fun b => !occ b
theorem mem_free {n : Nat} {occ : Int → Bool} {b : Int} : b ∈ freeL n occ ↔ 1 ≤ b ∧ b ≤ n ∧ occ b = false := by
  unfold freeL
  simp only [List.mem_filter, List.mem_map, List.mem_range, Bool.not_eq_true']
  constructor
  · rintro ⟨⟨i, hi, rfl⟩, h⟩
    exact ⟨by omega, by omega, h⟩
  · rintro ⟨h1, h2, h3⟩
    exact ⟨⟨(b - 1).toNat, by omega, by omega⟩, h3⟩
theorem free_sorted {n : Nat} {occ : Int → Bool} : (freeL n occ).Pairwise (· < ·) := by
  unfold freeL
  refine List.Pairwise.filter _ ?_
  rw [List.pairwise_map]
  exact List.Pairwise.imp (fun h => by omega) List.pairwise_lt_range
theorem free_nodup {n : Nat} {occ : Int → Bool} : (freeL n occ).Nodup := List.Pairwise.imp (fun h => Int.ne_of_lt h) free_sorted
theorem free_len {n : Nat} {occ : Int → Bool} : (freeL n occ).length ≤ n := by
  unfold freeL
  refine Nat.le_trans (List.length_filter_le _ _) ?_
  simp
theorem free_erase {n : Nat} {occ : Int → Bool} {b : Int} : (freeL n occ).erase b = freeL n (setO occ b) := by
  rw [free_nodup.erase_eq_filter]
  unfold freeL
  rw [List.filter_filter]
  congr 1
  funext x
  unfold setO
  by_cases h : x = b <;> simp [h]
theorem free_new {n : Nat} : rgV 1 ((n : Int) + 1) = (freeL n fun _ => false).map V.int := by
  unfold rgV freeL
  have e : (((n : Int) + 1) - 1).toNat = n := by omega
  rw [e]
  have e2 : ((List.range n).map fun (i : Nat) => (i : Int) + 1).filter (fun b => !(fun _ : Int => false) b) = (List.range n).map fun (i : Nat) => (i : Int) + 1 := List.filter_eq_self.mpr fun _ _ => rfl
  rw [e2, List.map_map]
  refine List.map_congr_left fun i _ => ?_
  show V.int (1 + (i : Nat)) = V.int ((i : Int) + 1)
  congr 1
  omega
theorem behind_none {n : Nat} {occ : Int → Bool} {w : Int} (hw : 1 ≤ w) (h : ffree n occ w = none) : (freeL n occ).filter (fun b => decide (w ≤ b)) = [] := by
  rw [List.filter_eq_nil_iff]
  intro b hb
  obtain ⟨h1, h2, h3⟩ := mem_free.mp hb
  simp only [decide_eq_true_eq]
  intro h4
  rw [ffree_none h b h4 h2] at h3
  cases h3
theorem behind_some {n : Nat} {occ : Int → Bool} {w b : Int} (hw : 1 ≤ w) (h : ffree n occ w = some b) : ∃ r, (freeL n occ).filter (fun b => decide (w ≤ b)) = b :: r ∧ ∀ y ∈ b :: r, b ≤ y := by
  obtain ⟨h1, h2, h3, h4⟩ := ffree_some h
  have hm : b ∈ (freeL n occ).filter (fun b => decide (w ≤ b)) := List.mem_filter.mpr ⟨mem_free.mpr ⟨by omega, h2, h3⟩, by simpa using h1⟩
  have hp : ((freeL n occ).filter (fun b => decide (w ≤ b))).Pairwise (· < ·) := List.Pairwise.filter _ free_sorted
  have hall : ∀ y ∈ (freeL n occ).filter (fun b => decide (w ≤ b)), b ≤ y := fun y hy => by
    obtain ⟨k1, k2⟩ := List.mem_filter.mp hy
    obtain ⟨k3, k4, k5⟩ := mem_free.mp k1
    have k6 : w ≤ y := by simpa using k2
    by_cases z : b ≤ y
    · exact z
    · rw [h4 y k6 (by omega)] at k5
      cases k5
  cases e : (freeL n occ).filter (fun b => decide (w ≤ b)) with
  | nil => rw [e] at hm; cases hm
  | cons x r =>
    rw [e] at hm hp hall
    have hx : x = b := by
      rcases List.mem_cons.mp hm with k | k
      · exact k.symm
      · have := (List.pairwise_cons.mp hp).1 b k
        have := hall x List.mem_cons_self
        omega
    subst hx
    exact ⟨r, rfl, hall⟩
def sp_l_placed (K : PySem.W.Frag) : Sp := fun vs H Q _ => ∃ (n : Nat) (p : Addr) (ws : List Int), vs = [.int n, .ref p] ∧ SqL K H p (ws.map V.int) ∧ n ≤ 400 ∧ ws.length ≤ 400 ∧ (∀ x ∈ ws, 1 ≤ x ∧ x ≤ n) ∧
  ∀ (l : Addr) (H' : Hp), H l = none → Same H H' → H' l = some (.lst ((placedL n ws).map vO)) → Q (.ref l) H'
abbrev N_l_placed : List Str := ["_law_berths", "_law_wishes_here", "_law_free", "_law_found", "_law_wish", "_law_behind", "_law_berth"]
def t_l_placed (K : PySem.W.Frag) (a : Ad) : TS :=
  (tSeq (tAsg (tLstRg (tRg2 (tC (.int 1)) (tOp rAddI (tVar 0) (tC (.int 1))))) (gName 2))
    (tSeq (tAsg (tLst tNil) (gName 3))
    (tSeq (tFor (iList K (tVar 1)) (gName 4)
    (tSeq (tAsg (tLc (iList K (tVar 2)) (gName 6) (tTest (tOp rGeI (tVar 6) (tVar 4))) (tVar 6) [6]) (gName 5))
    (tSeq (tDrop (tBM K "list" rAppend (tVar 3) (tCons (tMinD K (tVar 5) (tC .non)) tNil)))
    (tIfS (tTest (tOp (rNeT K) (tVar 5) (tLst tNil))) (tDrop (tBM K "list" rRemI (tVar 2) (tCons (tOp (rIxL K) (tVar 5) (tC (.int 0))) tNil))) tNext))))
    (tRet (tVar 3)))))
theorem len_l_placed {K : PySem.W.Frag} {vs : List V} {H : Hp} {Q : VK} {E : XK} (h : sp_l_placed K vs H Q E) : vs.length = 2 := by
  obtain ⟨n, p, ws, rfl, _⟩ := h
  rfl
theorem pu_l_placed {K : PySem.W.Frag} {a : Ad} {vs : List V} {H : Hp} {Q : VK} {E : XK} (h : sp_l_placed K vs H Q E) : t_l_placed K a { nx := fun _ H' => Q .non H', rt := Q } (start N_l_placed vs) H := by
  obtain ⟨n, p, ws, rfl, hs, h2, hl, hb, q⟩ := h
  refine ⟨.int n, rfl, n, 1, rfl, rfl, 1, _, rfl, rfl, ⟨by omega, by omega, by omega, by omega, by omega⟩, fun lf nlf => ?_⟩
  have s1 := same_new nlf (o := .lst (rgV 1 ((n : Int) + 1)))
  refine ⟨Nat.zero_le _, fun l nl => ?_⟩
  have nlH : H l = none := s1.free nl
  have s2 := s1.store nlH (o := .lst [])
  have hne : lf ≠ l := ne_of_none upd_same nl
  refine ⟨.ref p, rfl, p, rfl, ⟨_, s2.seq hs⟩, for_list (K := K) (a := p) (xs := ws.map V.int) (fun i σ H' => (∃ x y z, σ = [some (.int n), some (.ref p), some (.ref lf), some (.ref l), x, y, z]) ∧ Same H H' ∧ H' lf = some (.lst ((freeL n (prun n (ws.take i)).1).map V.int)) ∧ H' l = some (.lst ((prun n (ws.take i)).2.map vO)))
    ⟨⟨none, none, none, rfl⟩, s2, by rw [upd_ne hne, upd_same, free_new]; rfl, upd_same⟩ (fun i σ H' _ h => h.2.1.seq hs) ?_ ?_⟩
  · rintro i x σ H' hx ⟨⟨y1, y2, y3, rfl⟩, s, ef, el⟩
    obtain ⟨w, hw, rfl⟩ := item_of hx
    have bw := hb w (List.mem_of_getElem? hw)
    have step := prun_more (n := n) hw
    have fl : (prun n (ws.take i)).2.length < sizeLine := by
      rw [prun_len, List.length_take]
      exact small1000 (by omega)
    -- behind
    refine ⟨.ref lf, rfl, lf, rfl, ⟨_, sqL_of ef⟩, lc_pure (walk_list (K := K) (a := lf) (xs := (freeL n (prun n (ws.take i)).1).map V.int)) (by rw [List.length_map]; exact small1000 (by have := free_len (n := n) (occ := (prun n (ws.take i)).1); omega)) (freeL n (prun n (ws.take i)).1) (by rw [List.length_map]) (fun b => decide (w ≤ b)) V.int (fun H2 s' => s'.seq (sqL_of ef)) ?_ ?_⟩
    · intro j x v H2 H3 R hx2 s2 hy k
      obtain ⟨rfl, hv⟩ := hy
      rw [List.getElem?_map, hx2] at hv
      cases hv
      refine ⟨rfl, .int x, rfl, .int w, rfl, x, w, rfl, rfl, _, rfl, ?_⟩
      have kk := k (.int x) _ (Same.refl _) fun _ => rfl
      by_cases h : w ≤ x
      · rw [decide_eq_true h] at kk ⊢
        exact iteT ⟨.int x, rfl, kk⟩
      · have kk := k .non _ (Same.refl _) fun z => absurd (of_decide_eq_true z) h
        rw [decide_eq_false h] at kk ⊢
        exact iteF kk
    · intro D H2 nD s2 eD
      have elD := s2 _ _ el
      have efD := s2 _ _ ef
      have neD : l ≠ D := ne_of_none el nD
      have nfD : lf ≠ D := ne_of_none ef nD
      have sD := s.trans s2
      cases e : ffree n (prun n (ws.take i)).1 w with
      | none =>
        have step' : prun n (ws.take (i + 1)) = ((prun n (ws.take i)).1, (prun n (ws.take i)).2 ++ [none]) := by rw [step]; simp only [pstep, e]
        rw [behind_none bw.1 e] at eD
        refine ⟨.ref l, rfl, .inl ⟨rfl, _, sqL_of elD⟩, .ref D, rfl, D, .non, [], rfl, rfl, sqL_of eD, fun _ => ?_, fun m hm => by cases hm⟩
        refine ⟨l, _, _, rfl, rfl, elD, by rw [List.length_map]; exact fl, ?_⟩
        have eD' : (upd H2 l (.lst ((prun n (ws.take i)).2.map vO ++ [.non]))) D = some (.lst []) := by rw [upd_ne neD.symm]; exact eD
        refine ⟨.ref D, rfl, Nat.zero_le _, fun z nz => neT_of (a := ([] : List Int)) (b := []) (.lst (sqL_of (by rw [upd_ne (ne_of_none eD' nz)]; exact eD')) .nil) (.lst (sqL_of upd_same) .nil) (by decide) ⟨_, rfl, iteF ?_⟩⟩
        refine ⟨⟨_, _, _, rfl⟩, (sD.store nlH).trans (same_new nz), ?_, ?_⟩
        · rw [upd_ne (ne_of_none (by rw [upd_ne hne]; exact efD) nz), upd_ne hne, step']
          exact efD
        · rw [upd_ne (ne_of_none upd_same nz), upd_same, step', List.map_append]
          rfl
      | some b =>
        have step' : prun n (ws.take (i + 1)) = (setO (prun n (ws.take i)).1 b, (prun n (ws.take i)).2 ++ [some b]) := by rw [step]; simp only [pstep, e]
        obtain ⟨b1, b2, b3, b4⟩ := ffree_some e
        obtain ⟨r, er, hr⟩ := behind_some bw.1 e
        rw [er] at eD
        refine ⟨.ref l, rfl, .inl ⟨rfl, _, sqL_of elD⟩, .ref D, rfl, D, .non, b :: r, rfl, rfl, sqL_of eD, fun z => by (cases z), fun m hm hle => ?_⟩
        have em : m = b := by
          have h1 := hle b List.mem_cons_self
          have h2 := hr m hm
          omega
        subst em
        refine ⟨l, _, _, rfl, rfl, elD, by rw [List.length_map]; exact fl, ?_⟩
        have eD' : (upd H2 l (.lst ((prun n (ws.take i)).2.map vO ++ [.int m]))) D = some (.lst ((m :: r).map V.int)) := by rw [upd_ne neD.symm]; exact eD
        refine ⟨.ref D, rfl, Nat.zero_le _, fun z nz => neT_of (a := m :: r) (b := []) (ho_ints (sqL_of (by rw [upd_ne (ne_of_none eD' nz)]; exact eD'))) (.lst (sqL_of upd_same) .nil) (by decide) ⟨_, rfl, iteT ?_⟩⟩
        have ef2 : (upd (upd H2 l (.lst ((prun n (ws.take i)).2.map vO ++ [.int m]))) z (.lst [])) lf = some (.lst ((freeL n (prun n (ws.take i)).1).map V.int)) := by
          rw [upd_ne (ne_of_none (by rw [upd_ne hne]; exact efD) nz), upd_ne hne]
          exact efD
        have eD2 : (upd (upd H2 l (.lst ((prun n (ws.take i)).2.map vO ++ [.int m]))) z (.lst [])) D = some (.lst ((m :: r).map V.int)) := by rw [upd_ne (ne_of_none eD' nz)]; exact eD'
        obtain ⟨j, j1, j2, j3, j4⟩ := L2.first_at (mem_free.mpr ⟨by omega, b2, b3⟩ : m ∈ freeL n (prun n (ws.take i)).1)
        refine ⟨.ref lf, rfl, .inl ⟨rfl, _, sqL_of ef2⟩, .ref D, rfl, D, _, 0, _, rfl, rfl, sqL_of eD2, atI_lit _ 0 rfl, lf, _, m, j, rfl, rfl, ef2, j2, j3, ?_⟩
        have nlf2 : H lf = none := nlf
        refine ⟨⟨_, _, _, rfl⟩, ((sD.store nlH).trans (same_new nz)).store nlf2, ?_, ?_⟩
        · rw [upd_same, j4, free_erase, step']
        · rw [upd_ne hne.symm, upd_ne (ne_of_none upd_same nz), upd_same, step', List.map_append]
          rfl
  · rintro σ H' ⟨⟨y1, y2, y3, rfl⟩, s, ef, el⟩
    rw [List.length_map, List.take_length] at el
    exact ⟨.ref l, rfl, q l H' nlH s el⟩
theorem somes_len : ∀ l : List (Option Int), (somes l).length ≤ l.length
  | [] => Nat.le_refl _
  | none :: l => Nat.le_succ_of_le (somes_len l)
  | some b :: l => Nat.succ_le_succ (somes_len l)
def sp_law (K : PySem.W.Frag) : Sp := fun vs H Q _ => ∃ (s : Addr) (ns : List Int), vs = [.ref s] ∧ SqL K H s (ns.map V.int) ∧ ns.length ≤ 63 ∧ ∀ H', Q (.bl true) H'
abbrev N_law : List Str := ["_law_script", "_law_berths", "_law_wishes_here", "_law_due", "_law_handed", "_law_found", "_law_held", "_law_steps", "_law_more", "_law_again", "_law_berth", "_law_wish", "_law_one"]
def t_law (K : PySem.W.Frag) (a : Ad) : TS :=
  (tSeq (tAsg (tCall (sp_l_quay K) [] E0 (tCons (tVar 0) tNil)) (gName 1))
    (tSeq (tAsg (tCall (sp_l_wishes K) [] E0 (tCons (tVar 0) (tCons (tVar 1) (tCons (tC (.int 400)) tNil)))) (gName 2))
    (tSeq (tAsg (tCall (sp_l_placed K) [] E0 (tCons (tVar 1) (tCons (tVar 2) tNil))) (gName 3))
    (tSeq (tAsg (tCB (rListOf K) (tCons (tVar 2) tNil)) (gName 4))
    (tSeq (tAsg (tCall (sp_placed K a) [] E0 (tCons (tVar 1) (tCons (tVar 4) tNil))) (gName 5))
    (tSeq (tIfS (tOr (tNot (tB (tCB (rIsi K) (tCons (tVar 5) (tCons (tC (.ty "list")) tNil))))) (tOr (tTest (tOp (rNeT K) (tVar 5) (tVar 3))) (tTest (tOp (rNeT K) (tVar 4) (tVar 2))))) (tRet (tC (.bl false))) tNext)
    (tSeq (tAsg (tCall (sp_taken K a) [] E0 (tCons (tVar 1) (tCons (tCB (rTupleOf K) (tCons (tVar 2) tNil)) tNil))) (gName 6))
    (tSeq (tIfS (tOr (tNot (tB (tCB (rIsi K) (tCons (tVar 6) (tCons (tC (.ty "list")) tNil))))) (tTest (tOp (rNeT K) (tVar 6) (tCB (rSortedI K) (tCons (tLc (iList K (tVar 3)) (gName 10) (tB (tNotN (tVar 10))) (tVar 10) [10]) tNil))))) (tRet (tC (.bl false))) tNext)
    (tSeq (tAsg (tCall (sp_gone_on K a) [] E0 (tCons (tVar 1) (tCons (tVar 2) tNil))) (gName 7))
    (tSeq (tAsg (tLc (iZip K (tCons (tVar 3) (tCons (tVar 2) tNil))) (gTup K 2 (gCons (gName 10) (gCons (gName 11) gNil))) (tB (tNotN (tVar 10))) (tOp rSubI (tVar 10) (tVar 11)) [10, 11]) (gName 8))
    (tSeq (tIfS (tOr (tNot (tB (tCall (sp_l_whole K) [] E0 (tCons (tVar 7) tNil)))) (tTest (tOp rNe (tVar 7) (tCB (rSum K) (tCons (tVar 8) tNil))))) (tRet (tC (.bl false))) tNext)
    (tSeq (tDrop (tBM K "list" rAppend (tVar 5) (tCons (tC (.int 0)) tNil)))
    (tSeq (tDrop (tBM0 K "list" rClear (tVar 6)))
    (tSeq (tDrop (tBM0 K "list" rClear (tVar 4)))
    (tSeq (tAsg (tCB (rSortedI K) (tCons (tLc (iList K (tVar 3)) (gName 12) (tB (tNotN (tVar 12))) (tVar 12) [12]) tNil)) (gName 9))
    (tRet (tAndV (tOp (rEqT K) (tCall (sp_placed K a) [] E0 (tCons (tVar 1) (tCons (tCB (rTupleOf K) (tCons (tVar 2) tNil)) tNil))) (tVar 3)) (tOp (rEqT K) (tCall (sp_taken K a) [] E0 (tCons (tVar 1) (tCons (tVar 2) tNil))) (tVar 9)))))))))))))))))))
theorem len_law {K : PySem.W.Frag} {vs : List V} {H : Hp} {Q : VK} {E : XK} (h : sp_law K vs H Q E) : vs.length = 1 := by
  obtain ⟨s, ns, rfl, _⟩ := h
  rfl
/-- sorted([b for b in due if b is not None]), due a list of berths, None of some -/
theorem pu_sorted_some {K : PySem.W.Frag} {j : Nat} {tl : TE} {σ : L2.St} {H : Hp} {Q : VK} {p : Addr} {os : List (Option Int)} (ht : ∀ Q' : VK, Q' (.ref p) H → tl σ H Q') (hp : SqL K H p (os.map vO)) (hj : j < σ.length) (hl : os.length ≤ 1000)
    (q : ∀ (l : Addr) (H' : Hp), H l = none → Same H H' → H' l = some (.lst ((sortI (somes os)).map V.int)) → Q (.ref l) H') : (tCB (rSortedI K) (tCons (tLc (iList K tl) (gName j) (tB (tNotN (tVar j))) (tVar j) [j]) tNil)) σ H Q := by
  refine ht _ ⟨p, rfl, ⟨_, hp⟩, lc_pure (walk_list (K := K) (a := p) (xs := os.map vO)) (by rw [List.length_map]; exact small1000 hl) os (by rw [List.length_map]) Option.isSome vO (fun H' s' => s'.seq hp) ?_ ?_⟩
  · intro i x v H2 H3 R hx s2 hy k
    obtain ⟨rfl, hv⟩ := hy
    rw [List.getElem?_map, hx] at hv
    cases hv
    have at_j : ((wipe σ [j]).set j (some (vO x)))[j]? = some (some (vO x)) := by
      rw [List.getElem?_set_self]
      rw [wipe_length]
      exact hj
    refine ⟨?_, vO x, at_j, x.isSome, by rw [vO_not], ?_⟩
    · show (((σ.set j none).set j (some (vO x))).set j none) = σ.set j none
      simp
    have kk := k (vO x) _ (Same.refl _) fun _ => rfl
    cases e : x.isSome with
    | true =>
      rw [e] at kk
      exact iteT ⟨vO x, at_j, kk⟩
    | false =>
      refine iteF ?_
      have kk := k .non _ (Same.refl _) fun z => by rw [e] at z; cases z
      rw [e] at kk
      exact kk
  · intro D H2 nD s2 eD
    rw [filter_some] at eD
    refine ⟨D, _, rfl, sqL_of eD, fun ns' p' hp hs' np => ?_⟩
    rw [sortI_uniq hp hs']
    exact q p' _ (s2.free np) (s2.trans (same_new np)) upd_same
theorem zip_gone2 : ∀ (ws : List Int) (bs : List (Option Int)), ((bs.zip ws).filter fun p => p.1.isSome).map (fun p => V.int ((p.1.getD 0) - p.2)) = (goneL ws bs).map V.int
  | [], bs => by simp [goneL]
  | _ :: _, [] => by simp [goneL]
  | w :: ws, none :: bs => by
    have ih := zip_gone2 ws bs
    simp only [List.zip_cons_cons, goneL] at ih ⊢
    simpa using ih
  | w :: ws, some b :: bs => by
    have ih := zip_gone2 ws bs
    simp only [List.zip_cons_cons, goneL] at ih ⊢
    simpa using ih
theorem pu_law {K : PySem.W.Frag} {a : Ad} {vs : List V} {H : Hp} {Q : VK} {E : XK} (h : sp_law K vs H Q E) : t_law K a { nx := fun _ H' => Q .non H', rt := Q } (start N_law vs) H := by
  obtain ⟨s, ns, rfl, hs, hl, q⟩ := h
  refine ⟨.ref s, rfl, s, ns, rfl, hs, fun n H1 n1 n2 s1 => ?_⟩
  refine ⟨.ref s, rfl, .int n, rfl, s, ns, n, 400, rfl, s1.seq hs, n1, n2, by decide, hl, fun p H2 ws np2 s2 ep hb hw _ => ?_⟩
  have hw4 : ws.length ≤ 400 := by omega
  refine ⟨.int n, rfl, .ref p, rfl, n, p, ws, rfl, sqL_of ep, n2, hw4, hb, fun due H3 nd3 s3 ed => ?_⟩
  have sp3 := sqL_of (K := K) (s3 _ _ ep)
  -- handed
  refine ⟨.ref p, rfl, p, _, rfl, .inl sp3, fun hd nhd => ?_⟩
  have s4 := same_new nhd (o := .lst (ws.map V.int))
  -- found
  refine ⟨.int n, rfl, .ref hd, rfl, _, _, rfl, ChkW.ok n1 n2 (.inl (sqL_of upd_same)) hw4 hb fun fo H5 nf5 s5 ef => ?_⟩
  have edue5 := s5 _ _ (s4 _ _ ed)
  have ep5 := s5 _ _ (s4 _ _ (s3 _ _ ep))
  have ehd5 : H5 hd = some (.lst (ws.map V.int)) := s5 _ _ upd_same
  -- the first test
  refine ⟨.ref fo, rfl, .ref fo, _, _, _, true, rfl, .ty _, .base (.lst ef), kit_ll, true, rfl, iteF ?_⟩
  refine ⟨.ref fo, rfl, .ref due, rfl, neT_of (ho_opts (sqL_of ef)) (ho_opts (sqL_of edue5)) (by decide) ⟨_, rfl, ?_⟩⟩
  rw [decide_eq_false (fun z => z rfl)]
  refine iteF ⟨.ref hd, rfl, .ref p, rfl, neT_of (ho_ints (sqL_of ehd5)) (ho_ints (sqL_of ep5)) (by decide) ⟨_, rfl, ?_⟩⟩
  rw [decide_eq_false (fun z => z rfl)]
  refine iteF ?_
  -- taken, of a tuple
  refine ⟨.int n, rfl, .ref p, rfl, p, _, rfl, .inl ⟨sqL_of ep5, fun tu ntu => ?_⟩⟩
  have s6 := same_new ntu (o := .tup (ws.map V.int))
  refine ⟨_, _, rfl, ChkW.ok n1 n2 (.inr (sqT_of upd_same)) hw4 hb fun he H7 nh7 s7 eh => ?_⟩
  have edue7 := s7 _ _ (s6 _ _ edue5)
  have ep7 := s7 _ _ (s6 _ _ ep5)
  refine ⟨.ref he, rfl, .ref he, _, _, _, true, rfl, .ty _, .base (.lst eh), kit_ll, true, rfl, iteF ?_⟩
  refine ⟨.ref he, rfl, pu_sorted_some (K := K) (fun Q' q' => ⟨.ref due, rfl, q'⟩) (sqL_of edue7) (by show 10 < 13; decide) (by rw [placedL_len]; omega) fun so H8 nso s8 eso => ?_⟩
  refine neT_of (ho_ints (sqL_of (s8 _ _ eh))) (ho_ints (sqL_of eso)) (by decide) ⟨_, rfl, ?_⟩
  rw [decide_eq_false (fun z => z rfl)]
  refine iteF ?_
  -- gone_on
  have s68 := (s6.trans s7).trans s8
  have edue8 := s8 _ _ edue7
  have ep8 := s8 _ _ ep7
  refine ⟨.int n, rfl, .ref p, rfl, _, _, rfl, ChkW.ok n1 n2 (.inl (sqL_of ep8)) hw4 hb ⟨sqL_of ep8, fun H9 s9 => ?_⟩⟩
  have edue9 := s9 _ _ edue8
  have ep9 := s9 _ _ ep8
  have hz : min ((placedL n ws).map vO).length (ws.map V.int).length = ws.length := by
    rw [List.length_map, List.length_map, placedL_len]
    exact Nat.min_self _
  refine ⟨.ref due, rfl, .ref p, rfl, due, p, _, _, rfl, sqL_of edue9, sqL_of ep9, lc_pure (walk_zip (K := K) (a := due) (b := p) (xs := (placedL n ws).map vO) (ys := ws.map V.int) rfl) (by rw [hz]; exact small1000 (by omega)) ((placedL n ws).zip ws) (by rw [hz, List.length_zip, placedL_len]; exact Nat.min_self _) (fun x => x.1.isSome) (fun x => V.int ((x.1.getD 0) - x.2)) (fun H' s' => ⟨s'.seq (sqL_of edue9), s'.seq (sqL_of ep9)⟩) ?_ ?_⟩
  · intro i x v H2 H3 R hx s2 hy k
    obtain ⟨T, u1, u2, rfl, nT, rfl, e1, e2⟩ := hy
    obtain ⟨x1, x2⟩ := List.getElem?_zip_eq_some.mp hx
    replace e1 : ((placedL n ws).map vO)[i]? = some u1 := e1
    replace e2 : (ws.map V.int)[i]? = some u2 := e2
    rw [List.getElem?_map, x1] at e1
    rw [List.getElem?_map, x2] at e2
    cases e1
    cases e2
    refine ⟨T, _, rfl, sqT_of upd_same, rfl, _, _, rfl, _, _, rfl, rfl, rfl, vO x.1, rfl, x.1.isSome, by rw [vO_not], ?_⟩
    obtain ⟨xa, xb⟩ := x
    cases xa with
    | some y => exact iteT ⟨.int y, rfl, .int xb, rfl, y, xb, rfl, rfl, k (.int (y - xb)) _ (same_new nT) fun _ => rfl⟩
    | none => exact iteF (k .non _ (same_new nT) fun z => by cases z)
  intro mo H10 nmo s10 emo
  rw [zip_gone2] at emo
  -- the second test
  refine ⟨_, rfl, _, rfl, true, rfl, iteF ⟨_, rfl, .ref mo, rfl, mo, _, rfl, sqL_of emo, rfl, ?_⟩⟩
  refine ⟨_, rfl, ?_⟩
  rw [decide_eq_true rfl]
  refine iteF ?_
  -- the changes
  have t9 := s9.trans s10
  have edue10 := t9 _ _ edue8
  have ep10 := t9 _ _ ep8
  have ef10 : H10 fo = some (.lst ((placedL n ws).map vO)) := t9 _ _ (s68 _ _ ef)
  have eh10 : H10 he = some (.lst ((takenL n ws).map V.int)) := t9 _ _ (s8 _ _ eh)
  have ehd10 : H10 hd = some (.lst (ws.map V.int)) := t9 _ _ (s68 _ _ ehd5)
  have ned1 : due ≠ fo := ne_of_none (s4 _ _ ed) nf5
  have ned2 : due ≠ he := ne_of_none (s6 _ _ edue5) nh7
  have ned3 : due ≠ hd := ne_of_none ed nhd
  have nep1 : p ≠ fo := ne_of_none (s4 _ _ (s3 _ _ ep)) nf5
  have nep2 : p ≠ he := ne_of_none (s6 _ _ ep5) nh7
  have nep3 : p ≠ hd := ne_of_none (s3 _ _ ep) nhd
  have nfh : he ≠ fo := ne_of_none (s6 _ _ ef) nh7 |>.symm
  have nhf : hd ≠ fo := ne_of_none upd_same nf5
  have nhh : hd ≠ he := ne_of_none (s6 _ _ ehd5) nh7
  refine ⟨.ref fo, rfl, .inl ⟨rfl, _, sqL_of ef10⟩, fo, _, _, rfl, rfl, ef10, by rw [List.length_map, placedL_len]; exact small1000 (by omega), ?_⟩
  have eh11 : (upd H10 fo (.lst ((placedL n ws).map vO ++ [.int 0]))) he = some (.lst ((takenL n ws).map V.int)) := by rw [upd_ne nfh]; exact eh10
  refine ⟨.ref he, rfl, .inl ⟨rfl, _, sqL_of eh11⟩, he, _, rfl, rfl, eh11, ?_⟩
  have ehd12 : (upd (upd H10 fo (.lst ((placedL n ws).map vO ++ [.int 0]))) he (.lst [])) hd = some (.lst (ws.map V.int)) := by rw [upd_ne nhh, upd_ne nhf]; exact ehd10
  refine ⟨.ref hd, rfl, .inl ⟨rfl, _, sqL_of ehd12⟩, hd, _, rfl, rfl, ehd12, ?_⟩
  have edue13 : (upd (upd (upd H10 fo (.lst ((placedL n ws).map vO ++ [.int 0]))) he (.lst [])) hd (.lst [])) due = some (.lst ((placedL n ws).map vO)) := by rw [upd_ne ned3, upd_ne ned2, upd_ne ned1]; exact edue10
  have ep13 : (upd (upd (upd H10 fo (.lst ((placedL n ws).map vO ++ [.int 0]))) he (.lst [])) hd (.lst [])) p = some (.lst (ws.map V.int)) := by rw [upd_ne nep3, upd_ne nep2, upd_ne nep1]; exact ep10
  -- again
  change (tCB (rSortedI K) (tCons (tLc (iList K (tVar 3)) (gName 12) (tB (tNotN (tVar 12))) (tVar 12) [12]) tNil)) _ _ _
  refine pu_sorted_some (K := K) (fun Q' q' => ⟨.ref due, rfl, q'⟩) (sqL_of edue13) (by show 12 < 13; decide) (by rw [placedL_len]; omega) fun ag H14 nag s14 eag => ?_
  have edue14 := s14 _ _ edue13
  have ep14 := s14 _ _ ep13
  -- the answer
  refine ⟨.int n, rfl, .ref p, rfl, p, _, rfl, .inl ⟨sqL_of ep14, fun t2 nt2 => ?_⟩⟩
  have s15 := same_new nt2 (o := .tup (ws.map V.int))
  refine ⟨_, _, rfl, ChkW.ok n1 n2 (.inr (sqT_of upd_same)) hw4 hb fun f2 H16 nf2 s16 ef2 => ?_⟩
  have edue16 := s16 _ _ (s15 _ _ edue14)
  have ep16 := s16 _ _ (s15 _ _ ep14)
  have eag16 := s16 _ _ (s15 _ _ eag)
  refine ⟨.ref due, rfl, eqT_of (ho_opts (sqL_of ef2)) (ho_opts (sqL_of edue16)) (by decide) ⟨_, rfl, ?_⟩⟩
  rw [decide_eq_true rfl]
  refine iteT ⟨.int n, rfl, .ref p, rfl, _, _, rfl, ChkW.ok n1 n2 (.inl (sqL_of ep16)) hw4 hb fun h2 H17 nh2 s17 eh2 => ?_⟩
  refine ⟨.ref ag, rfl, eqT_of (ho_ints (sqL_of eh2)) (ho_ints (sqL_of (s17 _ _ eag16))) (by decide) ?_⟩
  have e : decide (takenL n ws = sortI (somes (placedL n ws))) = true := decide_eq_true rfl
  rw [e]
  exact q _

section
variable {P : Program} {w : World} {K : PySem.W.Frag} {mg : Str → Option Value} {base : Heap} {a : Ad}
def topS (i : Nat) : Stmt := PySem.Challenge.pw_berthrow_k01_placed.main.body.getD i (.Pass ⟨0, 0, 0, 0⟩)
structure Txt (K : PySem.W.Frag) (mg : Str → Option Value) (a : Ad) : Prop where
  t_0 : True
  b_bool : mg "bool" = none
  b_int : mg "int" = none
  b_isinstance : mg "isinstance" = none
  b_len : mg "len" = none
  b_list : mg "list" = none
  b_min : mg "min" = none
  b_range : mg "range" = none
  b_sorted : mg "sorted" = none
  b_sum : mg "sum" = none
  b_tuple : mg "tuple" = none
  b_type : mg "type" = none
  b_zip : mg "zip" = none
  c_MOST : ∃ u, mg "MOST" = some u ∧ RelV (.int 400) u
  e_NoQuay : ExF K mg "NoQuay" a.e_NoQuay
  e_NoWishes : ExF K mg "NoWishes" a.e_NoWishes
abbrev s_is_number : Stmt := topS 6
theorem sc_is_number : FnScope N_is_number ["thing"] (defScope s_is_number) := ⟨rfl, rfl, rfl, by decide +kernel, rfl, by decide +kernel, by decide +kernel⟩
theorem ok_is_number (D : DF K mg "is_number" s_is_number ["thing"] a.f_is_number) (T : Txt K mg a) : Cb P w K mg base CX0 1 "is_number" a.f_is_number ["thing"] (sp_is_number K a) := by
  obtain ⟨⟨fd, F, bb⟩, gg⟩ := D
  refine ⟨⟨fd, F.ok sc_is_number (fun vs H Q E h => len_is_number h) (fun cdv A outer s H vs Q E hr h => ⟨t_is_number K a, ?_, pu_is_number h⟩), bb⟩, gg, F.kp⟩
  exact (pss_one (ps_ret (pe_cmpR op_isTyB (pe_callTy call_type1 (by rfl) T.b_type (by decide +kernel) (pa_cons (pv 0) pa_nil)) (pe_bltn (by rfl) T.b_int (by decide +kernel) rfl) (nomark _))))

abbrev s_is_from_to : Stmt := topS 7
theorem sc_is_from_to : FnScope N_is_from_to ["low", "high", "thing"] (defScope s_is_from_to) := ⟨rfl, rfl, rfl, by decide +kernel, rfl, by decide +kernel, by decide +kernel⟩
theorem ok_is_from_to (D : DF K mg "is_from_to" s_is_from_to ["low", "high", "thing"] a.f_is_from_to) (T : Txt K mg a) (g_is_number : Cb P w K mg base CX0 1 "is_number" a.f_is_number ["thing"] (sp_is_number K a)) : Cb P w K mg base CX0 2 "is_from_to" a.f_is_from_to ["low", "high", "thing"] (sp_is_from_to K a) := by
  obtain ⟨⟨fd, F, bb⟩, gg⟩ := D
  refine ⟨⟨fd, F.ok sc_is_from_to (fun vs H Q E h => len_is_from_to h) (fun cdv A outer s H vs Q E hr h => ⟨t_is_from_to K a, ?_, pu_is_from_to h⟩), bb⟩, gg, F.kp⟩
  exact (pss_one (ps_ret (pe_and (pe_cb g_is_number (hr.mono (by decide)) (by rfl) pass0 (pa_cons (pv 2) pa_nil)) (pe_one (pe_chain op_le op_le (pv 0) (pv 2) (pv 1))))))

abbrev s_is_row : Stmt := topS 8
theorem sc_is_row : FnScope N_is_row ["thing"] (defScope s_is_row) := ⟨rfl, rfl, rfl, by decide +kernel, rfl, by decide +kernel, by decide +kernel⟩
theorem ok_is_row (D : DF K mg "is_row" s_is_row ["thing"] a.f_is_row) (T : Txt K mg a) : Cb P w K mg base CX0 1 "is_row" a.f_is_row ["thing"] (sp_is_row K a) := by
  obtain ⟨⟨fd, F, bb⟩, gg⟩ := D
  refine ⟨⟨fd, F.ok sc_is_row (fun vs H Q E h => len_is_row h) (fun cdv A outer s H vs Q E hr h => ⟨t_is_row K a, ?_, pu_is_row h⟩), bb⟩, gg, F.kp⟩
  exact (pss_one (ps_ret (pe_or (pe_cmpR op_isTyB (pe_callTy call_type1 (by rfl) T.b_type (by decide +kernel) (pa_cons (pv 0) pa_nil)) (pe_bltn (by rfl) T.b_list (by decide +kernel) rfl) (nomark _)) (pe_one (pe_cmpR op_isTyB (pe_callTy call_type1 (by rfl) T.b_type (by decide +kernel) (pa_cons (pv 0) pa_nil)) (pe_bltn (by rfl) T.b_tuple (by decide +kernel) rfl) (nomark _))))))

abbrev s_check_quay : Stmt := topS 9
theorem sc_check_quay : FnScope N_check_quay ["berths"] (defScope s_check_quay) := ⟨rfl, rfl, rfl, by decide +kernel, rfl, by decide +kernel, by decide +kernel⟩
theorem ok_check_quay (D : DF K mg "check_quay" s_check_quay ["berths"] a.f_check_quay) (T : Txt K mg a) (g_is_from_to : Cb P w K mg base CX0 2 "is_from_to" a.f_is_from_to ["low", "high", "thing"] (sp_is_from_to K a)) : Cb P w K mg base (L2.CX P w) 3 "check_quay" a.f_check_quay ["berths"] (sp_check_quay K a) := by
  obtain ⟨⟨fd, F, bb⟩, gg⟩ := D
  refine ⟨⟨fd, F.okX sc_check_quay (fun vs H Q E h => len_check_quay h) (fun cdv A outer s H vs Q E hr h => ⟨t_check_quay K a E, ?_, pu_check_quay h⟩), bb⟩, gg, F.kp⟩
  exact (pss_one (ps_if (pt_not (pt_val (pe_cb g_is_from_to (hr.mono (by decide)) (by rfl) pass0 (pa_cons pe_int (pa_cons (pe_gl (by rfl) T.c_MOST) (pa_cons (pv 0) pa_nil)))))) (pss_one (ps_raise rfl (takes_of rfl rfl rfl rfl) (pmk_own PySem.F.excBase_ValueError T.e_NoQuay.x T.e_NoQuay.g T.e_NoQuay.k (raises_own T.e_NoQuay.b T.e_NoQuay.t) (by exact rfl)))) pss_nil))

abbrev s_check_wishes : Stmt := topS 10
theorem sc_check_wishes : FnScope N_check_wishes ["berths", "wishes"] (defScope s_check_wishes) := ⟨rfl, rfl, rfl, by decide +kernel, rfl, by decide +kernel, by decide +kernel⟩
theorem ok_check_wishes (D : DF K mg "check_wishes" s_check_wishes ["berths", "wishes"] a.f_check_wishes) (T : Txt K mg a) (g_is_from_to : Cb P w K mg base CX0 2 "is_from_to" a.f_is_from_to ["low", "high", "thing"] (sp_is_from_to K a)) (g_is_row : Cb P w K mg base CX0 1 "is_row" a.f_is_row ["thing"] (sp_is_row K a)) (g_check_quay : Cb P w K mg base (L2.CX P w) 3 "check_quay" a.f_check_quay ["berths"] (sp_check_quay K a)) : Cb P w K mg base (L2.CX P w) 4 "check_wishes" a.f_check_wishes ["berths", "wishes"] (sp_check_wishes K a) := by
  obtain ⟨⟨fd, F, bb⟩, gg⟩ := D
  refine ⟨⟨fd, F.okX sc_check_wishes (fun vs H Q E h => len_check_wishes h) (fun cdv A outer s H vs Q E hr h => ⟨t_check_wishes K a E, ?_, pu_check_wishes h⟩), bb⟩, gg, F.kp⟩
  exact (pss_cons (ps_expr (pe_cb g_check_quay (hr.mono (by decide)) (by rfl) (passes_call (takes_of rfl rfl rfl rfl) (fun _ _ _ _ h => h)) (pa_cons (pv 0) pa_nil)))
    (pss_cons (ps_if (pt_not (pt_val (pe_cb g_is_row (hr.mono (by decide)) (by rfl) pass0 (pa_cons (pv 1) pa_nil)))) (pss_one (ps_raise rfl (takes_of rfl rfl rfl rfl) (pmk_own PySem.F.excBase_ValueError T.e_NoWishes.x T.e_NoWishes.g T.e_NoWishes.k (raises_own T.e_NoWishes.b T.e_NoWishes.t) (by exact rfl)))) pss_nil)
    (pss_cons (ps_if (pt_cmpR op_gt (pe_callB call_len_seq (by rfl) T.b_len (by decide +kernel) (pa_cons (pv 1) pa_nil)) (pe_gl (by rfl) T.c_MOST) (nomark _)) (pss_one (ps_raise rfl (takes_of rfl rfl rfl rfl) (pmk_own PySem.F.excBase_ValueError T.e_NoWishes.x T.e_NoWishes.g T.e_NoWishes.k (raises_own T.e_NoWishes.b T.e_NoWishes.t) (by exact rfl)))) pss_nil)
    (pss_one (ps_for (passes_of rfl) rfl (pi_seq (pv 1)) (pg_name (i := 2) sc_check_wishes.nd rfl (by first | exact Or.inl rfl | exact Or.inr rfl))
    (pss_one (ps_if (pt_not (pt_val (pe_cb g_is_from_to (hr.mono (by decide)) (by rfl) pass0 (pa_cons pe_int (pa_cons (pv 0) (pa_cons (pv 2) pa_nil)))))) (pss_one (ps_raise rfl (takes_of rfl rfl rfl rfl) (pmk_own PySem.F.excBase_ValueError T.e_NoWishes.x T.e_NoWishes.g T.e_NoWishes.k (raises_own T.e_NoWishes.b T.e_NoWishes.t) (by exact rfl)))) pss_nil)))))))

abbrev s_first_free : Stmt := topS 12
theorem sc_first_free : FnScope N_first_free ["held", "wish"] (defScope s_first_free) := ⟨rfl, rfl, rfl, by decide +kernel, rfl, by decide +kernel, by decide +kernel⟩
theorem ok_first_free (D : DF K mg "first_free" s_first_free ["held", "wish"] a.f_first_free) (T : Txt K mg a) : Cb P w K mg base CX0 1 "first_free" a.f_first_free ["held", "wish"] (sp_first_free K a) := by
  obtain ⟨⟨fd, F, bb⟩, gg⟩ := D
  refine ⟨⟨fd, F.ok sc_first_free (fun vs H Q E h => len_first_free h) (fun cdv A outer s H vs Q E hr h => ⟨t_first_free K a, ?_, pu_first_free h⟩), bb⟩, gg, F.kp⟩
  exact (pss_cons (ps_for PassesOwn.never rfl (pi_range2 (by rfl) T.b_range (pa_cons (pv 1) (pa_cons (pe_callB call_len_seq (by rfl) T.b_len (by decide +kernel) (pa_cons (pv 0) pa_nil)) pa_nil))) (pg_name (i := 2) sc_first_free.nd rfl (by first | exact Or.inl rfl | exact Or.inr rfl))
    (pss_one (ps_if (pt_not (pt_val (pe_ix ix_list (pv 0) (pv 2) (fun _ _ => rfl)))) (pss_one (ps_ret (pv 2))) pss_nil)))
    (pss_one (ps_ret pe_non)))

abbrev s_placed : Stmt := topS 13
theorem sc_placed : FnScope N_placed ["berths", "wishes"] (defScope s_placed) := ⟨rfl, rfl, rfl, by decide +kernel, rfl, by decide +kernel, by decide +kernel⟩
theorem ok_placed (D : DF K mg "placed" s_placed ["berths", "wishes"] a.f_placed) (T : Txt K mg a) (g_check_wishes : Cb P w K mg base (L2.CX P w) 4 "check_wishes" a.f_check_wishes ["berths", "wishes"] (sp_check_wishes K a)) (g_first_free : Cb P w K mg base CX0 1 "first_free" a.f_first_free ["held", "wish"] (sp_first_free K a)) : Cb P w K mg base (L2.CX P w) 5 "placed" a.f_placed ["berths", "wishes"] (sp_placed K a) := by
  obtain ⟨⟨fd, F, bb⟩, gg⟩ := D
  refine ⟨⟨fd, F.okX sc_placed (fun vs H Q E h => len_placed h) (fun cdv A outer s H vs Q E hr h => ⟨t_placed K a E, ?_, pu_placed h⟩), bb⟩, gg, F.kp⟩
  exact (pss_cons (ps_expr (pe_cb g_check_wishes (hr.mono (by decide)) (by rfl) (passes_call (takes_of rfl rfl rfl rfl) (fun _ _ _ _ h => h)) (pa_cons (pv 0) (pa_cons (pv 1) pa_nil))))
    (pss_cons (ps_set (i := 2) sc_placed.nd rfl (by first | exact Or.inl rfl | exact Or.inr rfl) (pe_op op_rep (pe_lst (pa_cons pe_bl pa_nil)) (pe_op op_add (pv 0) pe_int)))
    (pss_cons (ps_set (i := 3) sc_placed.nd rfl (by first | exact Or.inl rfl | exact Or.inr rfl) (pe_lst pa_nil))
    (pss_cons (ps_for (passes_of rfl) rfl (pi_seq (pv 1)) (pg_name (i := 4) sc_placed.nd rfl (by first | exact Or.inl rfl | exact Or.inr rfl))
    (pss_cons (ps_set (i := 5) sc_placed.nd rfl (by first | exact Or.inl rfl | exact Or.inr rfl) (pe_cb g_first_free (hr.mono (by decide)) (by rfl) pass0 (pa_cons (pv 2) (pa_cons (pv 4) pa_nil))))
    (pss_cons (ps_if (pt_cmp (pc_notN (pv 5)) rfl) (pss_one (ps_asg pe_bl (pg_sub (pv 2) (pv 5) set_list))) pss_nil)
    (pss_one (ps_expr (pe_bm PySem.F.plainAttrs_list PySem.F.slot_list_append PySem.F.type_list_append mt_append (pv 3) (pa_cons (pv 5) pa_nil)))))))
    (pss_one (ps_ret (pv 3)))))))

abbrev s_taken : Stmt := topS 14
theorem sc_taken : FnScope N_taken ["berths", "wishes"] (defScope s_taken) := ⟨rfl, rfl, rfl, by decide +kernel, rfl, by decide +kernel, by decide +kernel⟩
theorem ok_taken (D : DF K mg "taken" s_taken ["berths", "wishes"] a.f_taken) (T : Txt K mg a) (g_placed : Cb P w K mg base (L2.CX P w) 5 "placed" a.f_placed ["berths", "wishes"] (sp_placed K a)) : Cb P w K mg base (L2.CX P w) 6 "taken" a.f_taken ["berths", "wishes"] (sp_taken K a) := by
  obtain ⟨⟨fd, F, bb⟩, gg⟩ := D
  refine ⟨⟨fd, F.okX sc_taken (fun vs H Q E h => len_taken h) (fun cdv A outer s H vs Q E hr h => ⟨t_taken K a E, ?_, pu_taken h⟩), bb⟩, gg, F.kp⟩
  exact (pss_one (ps_ret (pe_callB cr_sortedI (by rfl) T.b_sorted (by decide +kernel) (pa_cons (pe_lc (own := [("berth", 2)]) rfl sc_taken.nd (pi_list (pe_cb g_placed (hr.mono (by decide)) (by rfl) (passes_call (takes_of rfl rfl rfl rfl) (fun _ _ _ _ h => h)) (pa_cons (pv 0) (pa_cons (pv 1) pa_nil)))) (blkOk_by (N := N_taken) (sc := defScope s_taken) (by decide +kernel)) (fun _ _ _ _ _ => (pg_name (i := 2) sc_taken.nd rfl (by first | exact Or.inl rfl | exact Or.inr rfl))) (fun _ _ _ _ _ => (pts_one (pt_cmp (pc_notN (pv 2)) rfl))) (fun _ _ _ _ _ => (pv 2))) pa_nil))))

abbrev s_gone_on : Stmt := topS 15
theorem sc_gone_on : FnScope N_gone_on ["berths", "wishes"] (defScope s_gone_on) := ⟨rfl, rfl, rfl, by decide +kernel, rfl, by decide +kernel, by decide +kernel⟩
theorem ok_gone_on (D : DF K mg "gone_on" s_gone_on ["berths", "wishes"] a.f_gone_on) (T : Txt K mg a) (g_placed : Cb P w K mg base (L2.CX P w) 5 "placed" a.f_placed ["berths", "wishes"] (sp_placed K a)) : Cb P w K mg base (L2.CX P w) 6 "gone_on" a.f_gone_on ["berths", "wishes"] (sp_gone_on K a) := by
  obtain ⟨⟨fd, F, bb⟩, gg⟩ := D
  refine ⟨⟨fd, F.okX sc_gone_on (fun vs H Q E h => len_gone_on h) (fun cdv A outer s H vs Q E hr h => ⟨t_gone_on K a E, ?_, pu_gone_on h⟩), bb⟩, gg, F.kp⟩
  exact (pss_cons (ps_set (i := 2) sc_gone_on.nd rfl (by first | exact Or.inl rfl | exact Or.inr rfl) (pe_cb g_placed (hr.mono (by decide)) (by rfl) (passes_call (takes_of rfl rfl rfl rfl) (fun _ _ _ _ h => h)) (pa_cons (pv 0) (pa_cons (pv 1) pa_nil))))
    (pss_one (ps_ret (pe_callB (cr_sum rfl) (by rfl) T.b_sum (by decide +kernel) (pa_cons (pe_lc (own := [("wish", 3), ("berth", 4)]) rfl sc_gone_on.nd (pi_zip (by rfl) T.b_zip (pa_cons (pv 1) (pa_cons (pv 2) pa_nil))) (blkOk_by (N := N_gone_on) (sc := defScope s_gone_on) (by decide +kernel)) (fun _ _ _ _ _ => (pg_tup rfl (pgs_cons (pg_name (i := 3) sc_gone_on.nd rfl (by first | exact Or.inl rfl | exact Or.inr rfl)) (pgs_cons (pg_name (i := 4) sc_gone_on.nd rfl (by first | exact Or.inl rfl | exact Or.inr rfl)) pgs_nil)))) (fun _ _ _ _ _ => (pts_one (pt_cmp (pc_notN (pv 4)) rfl))) (fun _ _ _ _ _ => (pe_op op_sub (pv 4) (pv 3)))) pa_nil)))))

abbrev s_l_cell_at : Stmt := topS 17
theorem sc_l_cell_at : FnScope N_l_cell_at ["_law_script", "_law_k"] (defScope s_l_cell_at) := ⟨rfl, rfl, rfl, by decide +kernel, rfl, by decide +kernel, by decide +kernel⟩
theorem ok_l_cell_at (D : DF K mg "_law_cell_at" s_l_cell_at ["_law_script", "_law_k"] a.f_l_cell_at) (T : Txt K mg a) : Cb P w K mg base CX0 1 "_law_cell_at" a.f_l_cell_at ["_law_script", "_law_k"] (sp_l_cell_at K) := by
  obtain ⟨⟨fd, F, bb⟩, gg⟩ := D
  refine ⟨⟨fd, F.ok sc_l_cell_at (fun vs H Q E h => len_l_cell_at h) (fun cdv A outer s H vs Q E hr h => ⟨t_l_cell_at K a, ?_, pu_l_cell_at h⟩), bb⟩, gg, F.kp⟩
  exact (pss_cons (ps_if (pt_cmpR op_lt (pv 1) (pe_callB call_len_seq (by rfl) T.b_len (by decide +kernel) (pa_cons (pv 0) pa_nil)) (nomark _)) (pss_one (ps_ret (pe_ix ix_list (pv 0) (pv 1) (fun _ _ => rfl)))) pss_nil)
    (pss_one (ps_ret pe_int)))

abbrev s_l_quay : Stmt := topS 18
theorem sc_l_quay : FnScope N_l_quay ["_law_script"] (defScope s_l_quay) := ⟨rfl, rfl, rfl, by decide +kernel, rfl, by decide +kernel, by decide +kernel⟩
theorem ok_l_quay (D : DF K mg "_law_quay" s_l_quay ["_law_script"] a.f_l_quay) (T : Txt K mg a) (g_l_cell_at : Cb P w K mg base CX0 1 "_law_cell_at" a.f_l_cell_at ["_law_script", "_law_k"] (sp_l_cell_at K)) : Cb P w K mg base CX0 2 "_law_quay" a.f_l_quay ["_law_script"] (sp_l_quay K) := by
  obtain ⟨⟨fd, F, bb⟩, gg⟩ := D
  refine ⟨⟨fd, F.ok sc_l_quay (fun vs H Q E h => len_l_quay h) (fun cdv A outer s H vs Q E hr h => ⟨t_l_quay K a, ?_, pu_l_quay h⟩), bb⟩, gg, F.kp⟩
  exact (pss_one (ps_ret (pe_op op_add pe_int (pe_op op_mod (pe_cb g_l_cell_at (hr.mono (by decide)) (by rfl) pass0 (pa_cons (pv 0) (pa_cons pe_int pa_nil))) (pe_ix ix_list (pe_lst (pa_cons pe_int (pa_cons pe_int (pa_cons pe_int pa_nil)))) (pe_op op_mod (pe_cb g_l_cell_at (hr.mono (by decide)) (by rfl) pass0 (pa_cons (pv 0) (pa_cons pe_int pa_nil))) pe_int) (fun _ _ => rfl))))))

abbrev s_l_wishes : Stmt := topS 19
theorem sc_l_wishes : FnScope N_l_wishes ["_law_script", "_law_berths", "_law_most"] (defScope s_l_wishes) := ⟨rfl, rfl, rfl, by decide +kernel, rfl, by decide +kernel, by decide +kernel⟩
theorem ok_l_wishes (D : DF K mg "_law_wishes" s_l_wishes ["_law_script", "_law_berths", "_law_most"] a.f_l_wishes) (T : Txt K mg a) (g_l_cell_at : Cb P w K mg base CX0 1 "_law_cell_at" a.f_l_cell_at ["_law_script", "_law_k"] (sp_l_cell_at K)) : Cb P w K mg base CX0 2 "_law_wishes" a.f_l_wishes ["_law_script", "_law_berths", "_law_most"] (sp_l_wishes K) := by
  obtain ⟨⟨fd, F, bb⟩, gg⟩ := D
  refine ⟨⟨fd, F.ok sc_l_wishes (fun vs H Q E h => len_l_wishes h) (fun cdv A outer s H vs Q E hr h => ⟨t_l_wishes K a, ?_, pu_l_wishes h⟩), bb⟩, gg, F.kp⟩
  exact (pss_cons (ps_set (i := 3) sc_l_wishes.nd rfl (by first | exact Or.inl rfl | exact Or.inr rfl) (pe_ix ix_list (pe_lst (pa_cons (pv 1) (pa_cons (pe_op op_add pe_int (pe_op op_fdiv (pv 1) pe_int)) (pa_cons (pe_callB (call_min2 rfl) (by rfl) T.b_min (by decide +kernel) (pa_cons (pv 1) (pa_cons pe_int pa_nil))) (pa_cons (pv 1) pa_nil))))) (pe_op op_mod (pe_op op_fdiv (pe_cb g_l_cell_at (hr.mono (by decide)) (by rfl) pass0 (pa_cons (pv 0) (pa_cons pe_int pa_nil))) pe_int) pe_int) (fun _ _ => rfl)))
    (pss_cons (ps_set (i := 4) sc_l_wishes.nd rfl (by first | exact Or.inl rfl | exact Or.inr rfl) (pe_op op_mod (pe_op op_fdiv (pe_cb g_l_cell_at (hr.mono (by decide)) (by rfl) pass0 (pa_cons (pv 0) (pa_cons pe_int pa_nil))) pe_int) (pv 1)))
    (pss_cons (ps_set (i := 5) sc_l_wishes.nd rfl (by first | exact Or.inl rfl | exact Or.inr rfl) (pe_lst pa_nil))
    (pss_cons (ps_for PassesOwn.never rfl (pi_list (pe_slice sl_list (pv 0) (po_some pe_int) po_none)) (pg_name (i := 6) sc_l_wishes.nd rfl (by first | exact Or.inl rfl | exact Or.inr rfl))
    (pss_one (ps_if (pt_cmpR op_lt (pe_callB call_len_seq (by rfl) T.b_len (by decide +kernel) (pa_cons (pv 5) pa_nil)) (pv 2) (nomark _)) (pss_one (ps_expr (pe_bm PySem.F.plainAttrs_list PySem.F.slot_list_append PySem.F.type_list_append mt_append (pv 5) (pa_cons (pe_op op_add (pe_op op_mod (pe_op op_add (pe_op op_mod (pv 6) (pv 3)) (pv 4)) (pv 1)) pe_int) pa_nil)))) pss_nil)))
    (pss_one (ps_ret (pv 5)))))))

abbrev s_l_placed : Stmt := topS 20
theorem sc_l_placed : FnScope N_l_placed ["_law_berths", "_law_wishes_here"] (defScope s_l_placed) := ⟨rfl, rfl, rfl, by decide +kernel, rfl, by decide +kernel, by decide +kernel⟩
theorem ok_l_placed (D : DF K mg "_law_placed" s_l_placed ["_law_berths", "_law_wishes_here"] a.f_l_placed) (T : Txt K mg a) : Cb P w K mg base CX0 1 "_law_placed" a.f_l_placed ["_law_berths", "_law_wishes_here"] (sp_l_placed K) := by
  obtain ⟨⟨fd, F, bb⟩, gg⟩ := D
  refine ⟨⟨fd, F.ok sc_l_placed (fun vs H Q E h => len_l_placed h) (fun cdv A outer s H vs Q E hr h => ⟨t_l_placed K a, ?_, pu_l_placed h⟩), bb⟩, gg, F.kp⟩
  exact (pss_cons (ps_set (i := 2) sc_l_placed.nd rfl (by first | exact Or.inl rfl | exact Or.inr rfl) (pe_listRg rfl (by rfl) T.b_list (prg_2 (by rfl) T.b_range pe_int (pe_op op_add (pv 0) pe_int))))
    (pss_cons (ps_set (i := 3) sc_l_placed.nd rfl (by first | exact Or.inl rfl | exact Or.inr rfl) (pe_lst pa_nil))
    (pss_cons (ps_for PassesOwn.never rfl (pi_list (pv 1)) (pg_name (i := 4) sc_l_placed.nd rfl (by first | exact Or.inl rfl | exact Or.inr rfl))
    (pss_cons (ps_setLc (i := 5) (own := [("_law_berth", 6)]) rfl sc_l_placed.nd rfl rfl (sw_true rfl rfl rfl (by decide +kernel)) (pi_list (pv 2)) (blkOk_by (N := N_l_placed) (sc := defScope s_l_placed) (by decide +kernel)) (fun _ _ _ _ _ => (pg_name (i := 6) sc_l_placed.nd rfl (by first | exact Or.inl rfl | exact Or.inr rfl))) (fun _ _ _ _ _ => (pts_one (pt_cmpR op_ge (pv 6) (pv 4) (nomark _)))) (fun _ _ _ _ _ => (pv 6)))
    (pss_cons (ps_expr (pe_bm PySem.F.plainAttrs_list PySem.F.slot_list_append PySem.F.type_list_append mt_append (pv 3) (pa_cons (pe_minD rfl hr.units (by rfl) T.b_min (pv 5) pe_non) pa_nil)))
    (pss_one (ps_if (pt_cmpR (op_neT hr.units) (pv 5) (pe_lst pa_nil) (nomark _)) (pss_one (ps_expr (pe_bm PySem.F.plainAttrs_list PySem.F.slot_list_remove PySem.F.type_list_remove mt_remove (pv 2) (pa_cons (pe_ix ix_list (pv 5) pe_int (fun _ _ => rfl)) pa_nil)))) pss_nil)))))
    (pss_one (ps_ret (pv 3))))))

abbrev s_l_whole : Stmt := topS 21
theorem sc_l_whole : FnScope N_l_whole ["_law_found"] (defScope s_l_whole) := ⟨rfl, rfl, rfl, by decide +kernel, rfl, by decide +kernel, by decide +kernel⟩
theorem ok_l_whole (D : DF K mg "_law_whole" s_l_whole ["_law_found"] a.f_l_whole) (T : Txt K mg a) : Cb P w K mg base CX0 1 "_law_whole" a.f_l_whole ["_law_found"] (sp_l_whole K) := by
  obtain ⟨⟨fd, F, bb⟩, gg⟩ := D
  refine ⟨⟨fd, F.ok sc_l_whole (fun vs H Q E h => len_l_whole h) (fun cdv A outer s H vs Q E hr h => ⟨t_l_whole K a, ?_, pu_l_whole h⟩), bb⟩, gg, F.kp⟩
  exact (pss_one (ps_ret (pe_and (pe_callB call_isi (by rfl) T.b_isinstance (by decide +kernel) (pa_cons (pv 0) (pa_cons (pe_bltn (by rfl) T.b_int (by decide +kernel) rfl) pa_nil))) (pe_one (pe_not (pe_callB call_isi (by rfl) T.b_isinstance (by decide +kernel) (pa_cons (pv 0) (pa_cons (pe_bltn (by rfl) T.b_bool (by decide +kernel) rfl) pa_nil))))))))

abbrev s_law : Stmt := topS 22
theorem sc_law : FnScope N_law ["_law_script"] (defScope s_law) := ⟨rfl, rfl, rfl, by decide +kernel, rfl, by decide +kernel, by decide +kernel⟩
theorem ok_law {f : Addr} {fd : FuncData} (F : Fun K "law" "law" s_law f fd) (T : Txt K mg a) (g_placed : Cb P w K mg base (L2.CX P w) 5 "placed" a.f_placed ["berths", "wishes"] (sp_placed K a)) (g_taken : Cb P w K mg base (L2.CX P w) 6 "taken" a.f_taken ["berths", "wishes"] (sp_taken K a)) (g_gone_on : Cb P w K mg base (L2.CX P w) 6 "gone_on" a.f_gone_on ["berths", "wishes"] (sp_gone_on K a)) (g_l_quay : Cb P w K mg base CX0 2 "_law_quay" a.f_l_quay ["_law_script"] (sp_l_quay K)) (g_l_wishes : Cb P w K mg base CX0 2 "_law_wishes" a.f_l_wishes ["_law_script", "_law_berths", "_law_most"] (sp_l_wishes K)) (g_l_placed : Cb P w K mg base CX0 1 "_law_placed" a.f_l_placed ["_law_berths", "_law_wishes_here"] (sp_l_placed K)) (g_l_whole : Cb P w K mg base CX0 1 "_law_whole" a.f_l_whole ["_law_found"] (sp_l_whole K)) : FnOk P w K mg base CX0 7 f fd ["_law_script"] (sp_law K) := by
  refine F.ok sc_law (fun vs H Q E h => len_law h) (fun cdv A outer s H vs Q E hr h => ⟨t_law K a, ?_, pu_law h⟩)
  exact (pss_cons (ps_set (i := 1) sc_law.nd rfl (by first | exact Or.inl rfl | exact Or.inr rfl) (pe_cb g_l_quay (hr.mono (by decide)) (by rfl) pass0 (pa_cons (pv 0) pa_nil)))
    (pss_cons (ps_set (i := 2) sc_law.nd rfl (by first | exact Or.inl rfl | exact Or.inr rfl) (pe_cb g_l_wishes (hr.mono (by decide)) (by rfl) pass0 (pa_cons (pv 0) (pa_cons (pv 1) (pa_cons pe_int pa_nil)))))
    (pss_cons (ps_set (i := 3) sc_law.nd rfl (by first | exact Or.inl rfl | exact Or.inr rfl) (pe_cb g_l_placed (hr.mono (by decide)) (by rfl) pass0 (pa_cons (pv 1) (pa_cons (pv 2) pa_nil))))
    (pss_cons (ps_set (i := 4) sc_law.nd rfl (by first | exact Or.inl rfl | exact Or.inr rfl) (pe_callTy call_list_of (by rfl) T.b_list (by decide +kernel) (pa_cons (pv 2) pa_nil)))
    (pss_cons (ps_set (i := 5) sc_law.nd rfl (by first | exact Or.inl rfl | exact Or.inr rfl) (pe_cb g_placed (hr.mono (by decide)) (by rfl) passL (pa_cons (pv 1) (pa_cons (pv 4) pa_nil))))
    (pss_cons (ps_if (PW.pt (pw_or (pt_not (pt_val (pe_callB call_isi (by rfl) T.b_isinstance (by decide +kernel) (pa_cons (pv 5) (pa_cons (pe_bltn (by rfl) T.b_list (by decide +kernel) rfl) pa_nil))))) (pw_or (pt_cmpR (op_neT hr.units) (pv 5) (pv 3) (nomark _)) (pw_or1 (pt_cmpR (op_neT hr.units) (pv 4) (pv 2) (nomark _)))))) (pss_one (ps_ret pe_bl)) pss_nil)
    (pss_cons (ps_set (i := 6) sc_law.nd rfl (by first | exact Or.inl rfl | exact Or.inr rfl) (pe_cb g_taken (hr.mono (by decide)) (by rfl) passL (pa_cons (pv 1) (pa_cons (pe_callTy call_tuple_of (by rfl) T.b_tuple (by decide +kernel) (pa_cons (pv 2) pa_nil)) pa_nil))))
    (pss_cons (ps_if (PW.pt (pw_or (pt_not (pt_val (pe_callB call_isi (by rfl) T.b_isinstance (by decide +kernel) (pa_cons (pv 6) (pa_cons (pe_bltn (by rfl) T.b_list (by decide +kernel) rfl) pa_nil))))) (pw_or1 (pt_cmpR (op_neT hr.units) (pv 6) (pe_callB cr_sortedI (by rfl) T.b_sorted (by decide +kernel) (pa_cons (pe_lc (own := [("_law_berth", 10)]) rfl sc_law.nd (pi_list (pv 3)) (blkOk_by (N := N_law) (sc := defScope s_law) (by decide +kernel)) (fun _ _ _ _ _ => (pg_name (i := 10) sc_law.nd rfl (by first | exact Or.inl rfl | exact Or.inr rfl))) (fun _ _ _ _ _ => (pts_one (pt_cmp (pc_notN (pv 10)) rfl))) (fun _ _ _ _ _ => (pv 10))) pa_nil)) (nomark _))))) (pss_one (ps_ret pe_bl)) pss_nil)
    (pss_cons (ps_set (i := 7) sc_law.nd rfl (by first | exact Or.inl rfl | exact Or.inr rfl) (pe_cb g_gone_on (hr.mono (by decide)) (by rfl) passL (pa_cons (pv 1) (pa_cons (pv 2) pa_nil))))
    (pss_cons (ps_setLc (i := 8) (own := [("_law_berth", 10), ("_law_wish", 11)]) rfl sc_law.nd rfl rfl (sw_true rfl rfl rfl (by decide +kernel)) (pi_zip (by rfl) T.b_zip (pa_cons (pv 3) (pa_cons (pv 2) pa_nil))) (blkOk_by (N := N_law) (sc := defScope s_law) (by decide +kernel)) (fun _ _ _ _ _ => (pg_tup rfl (pgs_cons (pg_name (i := 10) sc_law.nd rfl (by first | exact Or.inl rfl | exact Or.inr rfl)) (pgs_cons (pg_name (i := 11) sc_law.nd rfl (by first | exact Or.inl rfl | exact Or.inr rfl)) pgs_nil)))) (fun _ _ _ _ _ => (pts_one (pt_cmp (pc_notN (pv 10)) rfl))) (fun _ _ _ _ _ => (pe_op op_sub (pv 10) (pv 11))))
    (pss_cons (ps_if (PW.pt (pw_or (pt_not (pt_val (pe_cb g_l_whole (hr.mono (by decide)) (by rfl) pass0 (pa_cons (pv 7) pa_nil)))) (pw_or1 (pt_cmpR op_ne (pv 7) (pe_callB (cr_sum rfl) (by rfl) T.b_sum (by decide +kernel) (pa_cons (pv 8) pa_nil)) (nomark _))))) (pss_one (ps_ret pe_bl)) pss_nil)
    (pss_cons (ps_expr (pe_bm PySem.F.plainAttrs_list PySem.F.slot_list_append PySem.F.type_list_append mt_append (pv 5) (pa_cons pe_int pa_nil)))
    (pss_cons (ps_expr (pe_bm0 PySem.F.plainAttrs_list PySem.F.slot_list_clear PySem.F.type_list_clear mt_clear (pv 6)))
    (pss_cons (ps_expr (pe_bm0 PySem.F.plainAttrs_list PySem.F.slot_list_clear PySem.F.type_list_clear mt_clear (pv 4)))
    (pss_cons (ps_set (i := 9) sc_law.nd rfl (by first | exact Or.inl rfl | exact Or.inr rfl) (pe_callB cr_sortedI (by rfl) T.b_sorted (by decide +kernel) (pa_cons (pe_lc (own := [("_law_one", 12)]) rfl sc_law.nd (pi_list (pv 3)) (blkOk_by (N := N_law) (sc := defScope s_law) (by decide +kernel)) (fun _ _ _ _ _ => (pg_name (i := 12) sc_law.nd rfl (by first | exact Or.inl rfl | exact Or.inr rfl))) (fun _ _ _ _ _ => (pts_one (pt_cmp (pc_notN (pv 12)) rfl))) (fun _ _ _ _ _ => (pv 12))) pa_nil)))
    (pss_one (ps_ret (pe_and (pe_cmpR (op_eqT hr.units) (pe_cb g_placed (hr.mono (by decide)) (by rfl) passL (pa_cons (pv 1) (pa_cons (pe_callTy call_tuple_of (by rfl) T.b_tuple (by decide +kernel) (pa_cons (pv 2) pa_nil)) pa_nil))) (pv 3) (nomark _)) (pe_one (pe_cmpR (op_eqT hr.units) (pe_cb g_taken (hr.mono (by decide)) (by rfl) passL (pa_cons (pv 1) (pa_cons (pv 2) pa_nil))) (pv 9) (nomark _)))))))))))))))))))))
end
theorem all_mk {P : Program} {w : World} {K : PySem.W.Frag} {h : Heap} {mg : Str → Option Value} {fa : Addr} (X : K.In h) (G : h.Ns mainGlobals mg) (hfa : mg "law" = some (.ref fa))
    {f_is_number f_is_from_to f_is_row f_check_quay f_check_wishes f_first_free f_placed f_taken f_gone_on f_l_cell_at f_l_quay f_l_wishes f_l_placed f_l_whole f_law e_NoQuay e_NoWishes : Addr}
    {od_is_number an_is_number od_is_from_to an_is_from_to od_is_row an_is_row od_check_quay an_check_quay od_check_wishes an_check_wishes od_first_free an_first_free od_placed an_placed od_taken an_taken od_gone_on an_gone_on od_l_cell_at an_l_cell_at od_l_quay an_l_quay od_l_wishes an_l_wishes od_l_placed an_l_placed od_l_whole an_l_whole od_law an_law : Option Addr}
    {sl_is_number sl_is_from_to sl_is_row sl_check_quay sl_check_wishes sl_first_free sl_placed sl_taken sl_gone_on sl_l_cell_at sl_l_quay sl_l_wishes sl_l_placed sl_l_whole sl_law : Array (Option Value)}
    {oc_is_number kV_is_number dc_is_number pm_is_number cd_is_number ct_is_number oc_is_from_to kV_is_from_to dc_is_from_to pm_is_from_to cd_is_from_to ct_is_from_to oc_is_row kV_is_row dc_is_row pm_is_row cd_is_row ct_is_row oc_check_quay kV_check_quay dc_check_quay pm_check_quay cd_check_quay ct_check_quay oc_check_wishes kV_check_wishes dc_check_wishes pm_check_wishes cd_check_wishes ct_check_wishes oc_first_free kV_first_free dc_first_free pm_first_free cd_first_free ct_first_free oc_placed kV_placed dc_placed pm_placed cd_placed ct_placed oc_taken kV_taken dc_taken pm_taken cd_taken ct_taken oc_gone_on kV_gone_on dc_gone_on pm_gone_on cd_gone_on ct_gone_on oc_l_cell_at kV_l_cell_at dc_l_cell_at pm_l_cell_at cd_l_cell_at ct_l_cell_at oc_l_quay kV_l_quay dc_l_quay pm_l_quay cd_l_quay ct_l_quay oc_l_wishes kV_l_wishes dc_l_wishes pm_l_wishes cd_l_wishes ct_l_wishes oc_l_placed kV_l_placed dc_l_placed pm_l_placed cd_l_placed ct_l_placed oc_l_whole kV_l_whole dc_l_whole pm_l_whole cd_l_whole ct_l_whole oc_law kV_law dc_law pm_law cd_law ct_law : Value}
    {t_MOST : Tok}
    (a_is_number : PySem.W.nsIn K mainGlobals "is_number" = some (some (.ref f_is_number))) (l_is_number : K.lookup f_is_number = some ⟨oc_is_number, od_is_number, .func (PySem.W.fnOf "is_number" "is_number" (defArgs s_is_number) (defBody s_is_number) (defScope s_is_number) .none kV_is_number dc_is_number pm_is_number an_is_number cd_is_number ct_is_number), sl_is_number⟩) (cI_is_number : PySem.W.codeIn K cd_is_number "is_number" = true) (kI_is_number : PySem.W.keepIn K (.ref f_is_number) = true)
    (a_is_from_to : PySem.W.nsIn K mainGlobals "is_from_to" = some (some (.ref f_is_from_to))) (l_is_from_to : K.lookup f_is_from_to = some ⟨oc_is_from_to, od_is_from_to, .func (PySem.W.fnOf "is_from_to" "is_from_to" (defArgs s_is_from_to) (defBody s_is_from_to) (defScope s_is_from_to) .none kV_is_from_to dc_is_from_to pm_is_from_to an_is_from_to cd_is_from_to ct_is_from_to), sl_is_from_to⟩) (cI_is_from_to : PySem.W.codeIn K cd_is_from_to "is_from_to" = true) (kI_is_from_to : PySem.W.keepIn K (.ref f_is_from_to) = true)
    (a_is_row : PySem.W.nsIn K mainGlobals "is_row" = some (some (.ref f_is_row))) (l_is_row : K.lookup f_is_row = some ⟨oc_is_row, od_is_row, .func (PySem.W.fnOf "is_row" "is_row" (defArgs s_is_row) (defBody s_is_row) (defScope s_is_row) .none kV_is_row dc_is_row pm_is_row an_is_row cd_is_row ct_is_row), sl_is_row⟩) (cI_is_row : PySem.W.codeIn K cd_is_row "is_row" = true) (kI_is_row : PySem.W.keepIn K (.ref f_is_row) = true)
    (a_check_quay : PySem.W.nsIn K mainGlobals "check_quay" = some (some (.ref f_check_quay))) (l_check_quay : K.lookup f_check_quay = some ⟨oc_check_quay, od_check_quay, .func (PySem.W.fnOf "check_quay" "check_quay" (defArgs s_check_quay) (defBody s_check_quay) (defScope s_check_quay) .none kV_check_quay dc_check_quay pm_check_quay an_check_quay cd_check_quay ct_check_quay), sl_check_quay⟩) (cI_check_quay : PySem.W.codeIn K cd_check_quay "check_quay" = true) (kI_check_quay : PySem.W.keepIn K (.ref f_check_quay) = true)
    (a_check_wishes : PySem.W.nsIn K mainGlobals "check_wishes" = some (some (.ref f_check_wishes))) (l_check_wishes : K.lookup f_check_wishes = some ⟨oc_check_wishes, od_check_wishes, .func (PySem.W.fnOf "check_wishes" "check_wishes" (defArgs s_check_wishes) (defBody s_check_wishes) (defScope s_check_wishes) .none kV_check_wishes dc_check_wishes pm_check_wishes an_check_wishes cd_check_wishes ct_check_wishes), sl_check_wishes⟩) (cI_check_wishes : PySem.W.codeIn K cd_check_wishes "check_wishes" = true) (kI_check_wishes : PySem.W.keepIn K (.ref f_check_wishes) = true)
    (a_first_free : PySem.W.nsIn K mainGlobals "first_free" = some (some (.ref f_first_free))) (l_first_free : K.lookup f_first_free = some ⟨oc_first_free, od_first_free, .func (PySem.W.fnOf "first_free" "first_free" (defArgs s_first_free) (defBody s_first_free) (defScope s_first_free) .none kV_first_free dc_first_free pm_first_free an_first_free cd_first_free ct_first_free), sl_first_free⟩) (cI_first_free : PySem.W.codeIn K cd_first_free "first_free" = true) (kI_first_free : PySem.W.keepIn K (.ref f_first_free) = true)
    (a_placed : PySem.W.nsIn K mainGlobals "placed" = some (some (.ref f_placed))) (l_placed : K.lookup f_placed = some ⟨oc_placed, od_placed, .func (PySem.W.fnOf "placed" "placed" (defArgs s_placed) (defBody s_placed) (defScope s_placed) .none kV_placed dc_placed pm_placed an_placed cd_placed ct_placed), sl_placed⟩) (cI_placed : PySem.W.codeIn K cd_placed "placed" = true) (kI_placed : PySem.W.keepIn K (.ref f_placed) = true)
    (a_taken : PySem.W.nsIn K mainGlobals "taken" = some (some (.ref f_taken))) (l_taken : K.lookup f_taken = some ⟨oc_taken, od_taken, .func (PySem.W.fnOf "taken" "taken" (defArgs s_taken) (defBody s_taken) (defScope s_taken) .none kV_taken dc_taken pm_taken an_taken cd_taken ct_taken), sl_taken⟩) (cI_taken : PySem.W.codeIn K cd_taken "taken" = true) (kI_taken : PySem.W.keepIn K (.ref f_taken) = true)
    (a_gone_on : PySem.W.nsIn K mainGlobals "gone_on" = some (some (.ref f_gone_on))) (l_gone_on : K.lookup f_gone_on = some ⟨oc_gone_on, od_gone_on, .func (PySem.W.fnOf "gone_on" "gone_on" (defArgs s_gone_on) (defBody s_gone_on) (defScope s_gone_on) .none kV_gone_on dc_gone_on pm_gone_on an_gone_on cd_gone_on ct_gone_on), sl_gone_on⟩) (cI_gone_on : PySem.W.codeIn K cd_gone_on "gone_on" = true) (kI_gone_on : PySem.W.keepIn K (.ref f_gone_on) = true)
    (a_l_cell_at : PySem.W.nsIn K mainGlobals "_law_cell_at" = some (some (.ref f_l_cell_at))) (l_l_cell_at : K.lookup f_l_cell_at = some ⟨oc_l_cell_at, od_l_cell_at, .func (PySem.W.fnOf "_law_cell_at" "_law_cell_at" (defArgs s_l_cell_at) (defBody s_l_cell_at) (defScope s_l_cell_at) .none kV_l_cell_at dc_l_cell_at pm_l_cell_at an_l_cell_at cd_l_cell_at ct_l_cell_at), sl_l_cell_at⟩) (cI_l_cell_at : PySem.W.codeIn K cd_l_cell_at "_law_cell_at" = true) (kI_l_cell_at : PySem.W.keepIn K (.ref f_l_cell_at) = true)
    (a_l_quay : PySem.W.nsIn K mainGlobals "_law_quay" = some (some (.ref f_l_quay))) (l_l_quay : K.lookup f_l_quay = some ⟨oc_l_quay, od_l_quay, .func (PySem.W.fnOf "_law_quay" "_law_quay" (defArgs s_l_quay) (defBody s_l_quay) (defScope s_l_quay) .none kV_l_quay dc_l_quay pm_l_quay an_l_quay cd_l_quay ct_l_quay), sl_l_quay⟩) (cI_l_quay : PySem.W.codeIn K cd_l_quay "_law_quay" = true) (kI_l_quay : PySem.W.keepIn K (.ref f_l_quay) = true)
    (a_l_wishes : PySem.W.nsIn K mainGlobals "_law_wishes" = some (some (.ref f_l_wishes))) (l_l_wishes : K.lookup f_l_wishes = some ⟨oc_l_wishes, od_l_wishes, .func (PySem.W.fnOf "_law_wishes" "_law_wishes" (defArgs s_l_wishes) (defBody s_l_wishes) (defScope s_l_wishes) .none kV_l_wishes dc_l_wishes pm_l_wishes an_l_wishes cd_l_wishes ct_l_wishes), sl_l_wishes⟩) (cI_l_wishes : PySem.W.codeIn K cd_l_wishes "_law_wishes" = true) (kI_l_wishes : PySem.W.keepIn K (.ref f_l_wishes) = true)
    (a_l_placed : PySem.W.nsIn K mainGlobals "_law_placed" = some (some (.ref f_l_placed))) (l_l_placed : K.lookup f_l_placed = some ⟨oc_l_placed, od_l_placed, .func (PySem.W.fnOf "_law_placed" "_law_placed" (defArgs s_l_placed) (defBody s_l_placed) (defScope s_l_placed) .none kV_l_placed dc_l_placed pm_l_placed an_l_placed cd_l_placed ct_l_placed), sl_l_placed⟩) (cI_l_placed : PySem.W.codeIn K cd_l_placed "_law_placed" = true) (kI_l_placed : PySem.W.keepIn K (.ref f_l_placed) = true)
    (a_l_whole : PySem.W.nsIn K mainGlobals "_law_whole" = some (some (.ref f_l_whole))) (l_l_whole : K.lookup f_l_whole = some ⟨oc_l_whole, od_l_whole, .func (PySem.W.fnOf "_law_whole" "_law_whole" (defArgs s_l_whole) (defBody s_l_whole) (defScope s_l_whole) .none kV_l_whole dc_l_whole pm_l_whole an_l_whole cd_l_whole ct_l_whole), sl_l_whole⟩) (cI_l_whole : PySem.W.codeIn K cd_l_whole "_law_whole" = true) (kI_l_whole : PySem.W.keepIn K (.ref f_l_whole) = true)
    (a_law : PySem.W.nsIn K mainGlobals "law" = some (some (.ref f_law))) (l_law : K.lookup f_law = some ⟨oc_law, od_law, .func (PySem.W.fnOf "law" "law" (defArgs s_law) (defBody s_law) (defScope s_law) .none kV_law dc_law pm_law an_law cd_law ct_law), sl_law⟩) (cI_law : PySem.W.codeIn K cd_law "law" = true) (kI_law : PySem.W.keepIn K (.ref f_law) = true)
    (z_bool : PySem.W.nsIn K mainGlobals "bool" = some none)
    (z_int : PySem.W.nsIn K mainGlobals "int" = some none)
    (z_isinstance : PySem.W.nsIn K mainGlobals "isinstance" = some none)
    (z_len : PySem.W.nsIn K mainGlobals "len" = some none)
    (z_list : PySem.W.nsIn K mainGlobals "list" = some none)
    (z_min : PySem.W.nsIn K mainGlobals "min" = some none)
    (z_range : PySem.W.nsIn K mainGlobals "range" = some none)
    (z_sorted : PySem.W.nsIn K mainGlobals "sorted" = some none)
    (z_sum : PySem.W.nsIn K mainGlobals "sum" = some none)
    (z_tuple : PySem.W.nsIn K mainGlobals "tuple" = some none)
    (z_type : PySem.W.nsIn K mainGlobals "type" = some none)
    (z_zip : PySem.W.nsIn K mainGlobals "zip" = some none)
    (y_MOST : PySem.W.nsIn K mainGlobals "MOST" = some (some (.int 400 t_MOST)))
    (xg_NoQuay : PySem.W.nsIn K mainGlobals "NoQuay" = some (some (.ref e_NoQuay)))
    (xx_NoQuay : PySem.W.excIn K e_NoQuay [.type "ValueError", .type "Exception", .type "BaseException", .type "object"] "ValueError.__new__" = true)
    (xk_NoQuay : PySem.W.keepIn K (.ref e_NoQuay) = true)
    (xb_NoQuay : PySem.W.subIn K (.ref e_NoQuay) (.type "BaseException") = some true)
    (xt_NoQuay : PySem.W.typeIn K (.ref e_NoQuay) = some (.type "type"))
    (xg_NoWishes : PySem.W.nsIn K mainGlobals "NoWishes" = some (some (.ref e_NoWishes)))
    (xx_NoWishes : PySem.W.excIn K e_NoWishes [.type "ValueError", .type "Exception", .type "BaseException", .type "object"] "ValueError.__new__" = true)
    (xk_NoWishes : PySem.W.keepIn K (.ref e_NoWishes) = true)
    (xb_NoWishes : PySem.W.subIn K (.ref e_NoWishes) (.type "BaseException") = some true)
    (xt_NoWishes : PySem.W.typeIn K (.ref e_NoWishes) = some (.type "type"))
    : ∃ fd : FuncData, (∀ (s : Shared) (v : Value), BindsTo s fd ⟨[v], []⟩ [("_law_script", v)]) ∧ ∀ base : Heap, K.In base → base.Ns mainGlobals mg → FnOk P w K mg base CX0 7 fa fd ["_law_script"] (sp_law K) := by
  have e := hfa.symm.trans (PySem.W.mg_of X G a_law)
  cases e
  have T : Txt K mg ({ f_is_number := f_is_number, f_is_from_to := f_is_from_to, f_is_row := f_is_row, f_check_quay := f_check_quay, f_check_wishes := f_check_wishes, f_first_free := f_first_free, f_placed := f_placed, f_taken := f_taken, f_gone_on := f_gone_on, f_l_cell_at := f_l_cell_at, f_l_quay := f_l_quay, f_l_wishes := f_l_wishes, f_l_placed := f_l_placed, f_l_whole := f_l_whole, e_NoQuay := e_NoQuay, e_NoWishes := e_NoWishes } : Ad) := ⟨trivial,
    PySem.W.mg_none_of X G z_bool,
    PySem.W.mg_none_of X G z_int,
    PySem.W.mg_none_of X G z_isinstance,
    PySem.W.mg_none_of X G z_len,
    PySem.W.mg_none_of X G z_list,
    PySem.W.mg_none_of X G z_min,
    PySem.W.mg_none_of X G z_range,
    PySem.W.mg_none_of X G z_sorted,
    PySem.W.mg_none_of X G z_sum,
    PySem.W.mg_none_of X G z_tuple,
    PySem.W.mg_none_of X G z_type,
    PySem.W.mg_none_of X G z_zip,
    ⟨_, PySem.W.mg_of X G y_MOST, ⟨_, rfl⟩⟩,
    ⟨PySem.W.mg_of X G xg_NoQuay, xx_NoQuay, xk_NoQuay, xb_NoQuay, xt_NoQuay⟩,
    ⟨PySem.W.mg_of X G xg_NoWishes, xx_NoWishes, xk_NoWishes, xb_NoWishes, xt_NoWishes⟩⟩
  have D_is_number : DF K mg "is_number" s_is_number ["thing"] f_is_number := df_mk (fun_mk (st := s_is_number) l_is_number cI_is_number kI_is_number) (fun _ _ _ _ _ _ us hl => match us, hl with | [_], _ => rfl) (PySem.W.mg_of X G a_is_number)
  have D_is_from_to : DF K mg "is_from_to" s_is_from_to ["low", "high", "thing"] f_is_from_to := df_mk (fun_mk (st := s_is_from_to) l_is_from_to cI_is_from_to kI_is_from_to) (fun _ _ _ _ _ _ us hl => match us, hl with | [_, _, _], _ => rfl) (PySem.W.mg_of X G a_is_from_to)
  have D_is_row : DF K mg "is_row" s_is_row ["thing"] f_is_row := df_mk (fun_mk (st := s_is_row) l_is_row cI_is_row kI_is_row) (fun _ _ _ _ _ _ us hl => match us, hl with | [_], _ => rfl) (PySem.W.mg_of X G a_is_row)
  have D_check_quay : DF K mg "check_quay" s_check_quay ["berths"] f_check_quay := df_mk (fun_mk (st := s_check_quay) l_check_quay cI_check_quay kI_check_quay) (fun _ _ _ _ _ _ us hl => match us, hl with | [_], _ => rfl) (PySem.W.mg_of X G a_check_quay)
  have D_check_wishes : DF K mg "check_wishes" s_check_wishes ["berths", "wishes"] f_check_wishes := df_mk (fun_mk (st := s_check_wishes) l_check_wishes cI_check_wishes kI_check_wishes) (fun _ _ _ _ _ _ us hl => match us, hl with | [_, _], _ => rfl) (PySem.W.mg_of X G a_check_wishes)
  have D_first_free : DF K mg "first_free" s_first_free ["held", "wish"] f_first_free := df_mk (fun_mk (st := s_first_free) l_first_free cI_first_free kI_first_free) (fun _ _ _ _ _ _ us hl => match us, hl with | [_, _], _ => rfl) (PySem.W.mg_of X G a_first_free)
  have D_placed : DF K mg "placed" s_placed ["berths", "wishes"] f_placed := df_mk (fun_mk (st := s_placed) l_placed cI_placed kI_placed) (fun _ _ _ _ _ _ us hl => match us, hl with | [_, _], _ => rfl) (PySem.W.mg_of X G a_placed)
  have D_taken : DF K mg "taken" s_taken ["berths", "wishes"] f_taken := df_mk (fun_mk (st := s_taken) l_taken cI_taken kI_taken) (fun _ _ _ _ _ _ us hl => match us, hl with | [_, _], _ => rfl) (PySem.W.mg_of X G a_taken)
  have D_gone_on : DF K mg "gone_on" s_gone_on ["berths", "wishes"] f_gone_on := df_mk (fun_mk (st := s_gone_on) l_gone_on cI_gone_on kI_gone_on) (fun _ _ _ _ _ _ us hl => match us, hl with | [_, _], _ => rfl) (PySem.W.mg_of X G a_gone_on)
  have D_l_cell_at : DF K mg "_law_cell_at" s_l_cell_at ["_law_script", "_law_k"] f_l_cell_at := df_mk (fun_mk (st := s_l_cell_at) l_l_cell_at cI_l_cell_at kI_l_cell_at) (fun _ _ _ _ _ _ us hl => match us, hl with | [_, _], _ => rfl) (PySem.W.mg_of X G a_l_cell_at)
  have D_l_quay : DF K mg "_law_quay" s_l_quay ["_law_script"] f_l_quay := df_mk (fun_mk (st := s_l_quay) l_l_quay cI_l_quay kI_l_quay) (fun _ _ _ _ _ _ us hl => match us, hl with | [_], _ => rfl) (PySem.W.mg_of X G a_l_quay)
  have D_l_wishes : DF K mg "_law_wishes" s_l_wishes ["_law_script", "_law_berths", "_law_most"] f_l_wishes := df_mk (fun_mk (st := s_l_wishes) l_l_wishes cI_l_wishes kI_l_wishes) (fun _ _ _ _ _ _ us hl => match us, hl with | [_, _, _], _ => rfl) (PySem.W.mg_of X G a_l_wishes)
  have D_l_placed : DF K mg "_law_placed" s_l_placed ["_law_berths", "_law_wishes_here"] f_l_placed := df_mk (fun_mk (st := s_l_placed) l_l_placed cI_l_placed kI_l_placed) (fun _ _ _ _ _ _ us hl => match us, hl with | [_, _], _ => rfl) (PySem.W.mg_of X G a_l_placed)
  have D_l_whole : DF K mg "_law_whole" s_l_whole ["_law_found"] f_l_whole := df_mk (fun_mk (st := s_l_whole) l_l_whole cI_l_whole kI_l_whole) (fun _ _ _ _ _ _ us hl => match us, hl with | [_], _ => rfl) (PySem.W.mg_of X G a_l_whole)
  refine ⟨PySem.W.fnOf "law" "law" (defArgs s_law) (defBody s_law) (defScope s_law) .none kV_law dc_law pm_law an_law cd_law ct_law, fun s v => .of_eq rfl, fun base _ _ => ?_⟩
  have g_is_number := ok_is_number (P := P) (w := w) (base := base) D_is_number T
  have g_is_from_to := ok_is_from_to (P := P) (w := w) (base := base) D_is_from_to T g_is_number
  have g_is_row := ok_is_row (P := P) (w := w) (base := base) D_is_row T
  have g_check_quay := ok_check_quay (P := P) (w := w) (base := base) D_check_quay T g_is_from_to
  have g_check_wishes := ok_check_wishes (P := P) (w := w) (base := base) D_check_wishes T g_is_from_to g_is_row g_check_quay
  have g_first_free := ok_first_free (P := P) (w := w) (base := base) D_first_free T
  have g_placed := ok_placed (P := P) (w := w) (base := base) D_placed T g_check_wishes g_first_free
  have g_taken := ok_taken (P := P) (w := w) (base := base) D_taken T g_placed
  have g_gone_on := ok_gone_on (P := P) (w := w) (base := base) D_gone_on T g_placed
  have g_l_cell_at := ok_l_cell_at (P := P) (w := w) (base := base) D_l_cell_at T
  have g_l_quay := ok_l_quay (P := P) (w := w) (base := base) D_l_quay T g_l_cell_at
  have g_l_wishes := ok_l_wishes (P := P) (w := w) (base := base) D_l_wishes T g_l_cell_at
  have g_l_placed := ok_l_placed (P := P) (w := w) (base := base) D_l_placed T
  have g_l_whole := ok_l_whole (P := P) (w := w) (base := base) D_l_whole T
  exact ok_law (fun_mk (st := s_law) l_law cI_law kI_law) T g_placed g_taken g_gone_on g_l_quay g_l_wishes g_l_placed g_l_whole
end Br
open PySem PySem.W PyProof.Rows
set_option maxHeartbeats 0 in
theorem PySem.Challenge.cw_berthrow_k01_placed_holds : PySem.Challenge.rw_berthrow_k01_placed.Holds := by
  w_on; o_law; k_head; (case hw => w_witness2)
  k_fill
  refine L2.walk_of (l := PySem.Challenge.rw_berthrow_k01_placed) (n := 63) (k := 7) (x := "_law_script") (CX := fun _ => L2.CX0) (sp := fun w => Br.sp_law _) rfl (by decide) rfl ⟨rfl, by decide, by decide⟩ (fun w h Y => PySem.W.kIn_of Y) ?F (fun _ _ a ns hl _ hS => ⟨a, ns, rfl, hS, hl, fun _ => rfl⟩) (fun _ _ _ _ _ h => h)
  case F =>
    intro w mg fa h KX G hmg
    refine' Br.all_mk KX G hmg ?a_is_number ?l_is_number ?cI_is_number ?kI_is_number ?a_is_from_to ?l_is_from_to ?cI_is_from_to ?kI_is_from_to ?a_is_row ?l_is_row ?cI_is_row ?kI_is_row ?a_check_quay ?l_check_quay ?cI_check_quay ?kI_check_quay ?a_check_wishes ?l_check_wishes ?cI_check_wishes ?kI_check_wishes ?a_first_free ?l_first_free ?cI_first_free ?kI_first_free ?a_placed ?l_placed ?cI_placed ?kI_placed ?a_taken ?l_taken ?cI_taken ?kI_taken ?a_gone_on ?l_gone_on ?cI_gone_on ?kI_gone_on ?a_l_cell_at ?l_l_cell_at ?cI_l_cell_at ?kI_l_cell_at ?a_l_quay ?l_l_quay ?cI_l_quay ?kI_l_quay ?a_l_wishes ?l_l_wishes ?cI_l_wishes ?kI_l_wishes ?a_l_placed ?l_l_placed ?cI_l_placed ?kI_l_placed ?a_l_whole ?l_l_whole ?cI_l_whole ?kI_l_whole ?a_law ?l_law ?cI_law ?kI_law ?z_bool ?z_int ?z_isinstance ?z_len ?z_list ?z_min ?z_range ?z_sorted ?z_sum ?z_tuple ?z_type ?z_zip ?y_MOST ?xg_NoQuay ?xx_NoQuay ?xk_NoQuay ?xb_NoQuay ?xt_NoQuay ?xg_NoWishes ?xx_NoWishes ?xk_NoWishes ?xb_NoWishes ?xt_NoWishes
    (case a_is_number => k_is)
    (case l_is_number => k_is)
    (case cI_is_number => k_is)
    (case kI_is_number => k_is)
    (case a_is_from_to => k_is)
    (case l_is_from_to => k_is)
    (case cI_is_from_to => k_is)
    (case kI_is_from_to => k_is)
    (case a_is_row => k_is)
    (case l_is_row => k_is)
    (case cI_is_row => k_is)
    (case kI_is_row => k_is)
    (case a_check_quay => k_is)
    (case l_check_quay => k_is)
    (case cI_check_quay => k_is)
    (case kI_check_quay => k_is)
    (case a_check_wishes => k_is)
    (case l_check_wishes => k_is)
    (case cI_check_wishes => k_is)
    (case kI_check_wishes => k_is)
    (case a_first_free => k_is)
    (case l_first_free => k_is)
    (case cI_first_free => k_is)
    (case kI_first_free => k_is)
    (case a_placed => k_is)
    (case l_placed => k_is)
    (case cI_placed => k_is)
    (case kI_placed => k_is)
    (case a_taken => k_is)
    (case l_taken => k_is)
    (case cI_taken => k_is)
    (case kI_taken => k_is)
    (case a_gone_on => k_is)
    (case l_gone_on => k_is)
    (case cI_gone_on => k_is)
    (case kI_gone_on => k_is)
    (case a_l_cell_at => k_is)
    (case l_l_cell_at => k_is)
    (case cI_l_cell_at => k_is)
    (case kI_l_cell_at => k_is)
    (case a_l_quay => k_is)
    (case l_l_quay => k_is)
    (case cI_l_quay => k_is)
    (case kI_l_quay => k_is)
    (case a_l_wishes => k_is)
    (case l_l_wishes => k_is)
    (case cI_l_wishes => k_is)
    (case kI_l_wishes => k_is)
    (case a_l_placed => k_is)
    (case l_l_placed => k_is)
    (case cI_l_placed => k_is)
    (case kI_l_placed => k_is)
    (case a_l_whole => k_is)
    (case l_l_whole => k_is)
    (case cI_l_whole => k_is)
    (case kI_l_whole => k_is)
    (case a_law => k_is)
    (case l_law => k_is)
    (case cI_law => k_is)
    (case kI_law => k_is)
    (case z_bool => k_is)
    (case z_int => k_is)
    (case z_isinstance => k_is)
    (case z_len => k_is)
    (case z_list => k_is)
    (case z_min => k_is)
    (case z_range => k_is)
    (case z_sorted => k_is)
    (case z_sum => k_is)
    (case z_tuple => k_is)
    (case z_type => k_is)
    (case z_zip => k_is)
    (case y_MOST => k_is)
    (case xg_NoQuay => k_is)
    (case xx_NoQuay => k_exc)
    (case xk_NoQuay => k_is)
    (case xb_NoQuay => k_is)
    (case xt_NoQuay => k_is)
    (case xg_NoWishes => k_is)
    (case xx_NoWishes => k_exc)
    (case xk_NoWishes => k_is)
    (case xb_NoWishes => k_is)
    (case xt_NoWishes => k_is)

import PyProof.Rows.All
import Wide.All
import OpenK.AllK
import Wide.FinOn
import HandS.ForMost
import HandS.ForExc
import HandS.More
import HandS.Walk
import HandS.SortInts
import HandS.SetFor
import HandS.Style
import HandS.RevRange
import HandS.TupAny
import HandS.TupMul
import HandS.IsInst
import HandS.Conv
import HandS.ExcIs
import HandS.ExcCtx
import HandS.SortKw
import HandS.Remove
import HandS.TupLe
import HandS.Zip
import HandS.Small
import KE.DatumOrd
import KE.DatumMore
import KE.KSortedM
import KE.KStateDown
import KE.KDictPairs
import PySem.Challenge.RW_berthrow_k07_next_wishes
set_option Elab.async false
set_option linter.all false
set_option maxRecDepth 100000
set_option maxHeartbeats 4000000
namespace Br
open PySem PySem.Spec PyProof.Rows L2
/-! ### addresses of what the top has made, by name -/
structure Ad where
  f_is_number : Addr := 0
  f_is_from_to : Addr := 0
  f_is_row : Addr := 0
  f_check_quay : Addr := 0
  f_check_wishes : Addr := 0
  f_first_free : Addr := 0
  f_placed : Addr := 0
  f_taken : Addr := 0
  f_gone_on : Addr := 0
  f_is_good : Addr := 0
  f_crowded : Addr := 0
  f_placed_round : Addr := 0
  f_left_over : Addr := 0
  f_turned : Addr := 0
  f_turning : Addr := 0
  f_how_many : Addr := 0
  f_first_row : Addr := 0
  f_last_row : Addr := 0
  f_next_row : Addr := 0
  f_p_check_ships : Addr := 0
  f_l_cell_at : Addr := 0
  f_l_mix : Addr := 0
  f_l_quay : Addr := 0
  f_l_wishes : Addr := 0
  f_l_placed : Addr := 0
  f_l_whole : Addr := 0
  f_l_good : Addr := 0
  f_l_crowded : Addr := 0
  f_l_order : Addr := 0
  f_l_round : Addr := 0
  f_l_refused : Addr := 0
  f_l_due : Addr := 0
  f_l_caught : Addr := 0
  f_l_lowered : Addr := 0
  f_first_free_round : Addr := 0
  f_check_full_row : Addr := 0
  f_tree_of : Addr := 0
  f_wishes_of : Addr := 0
  f_p_check_knots : Addr := 0
  f_lies : Addr := 0
  f_reaches : Addr := 0
  f_rows_to : Addr := 0
  f_p_check_order : Addr := 0
  f_is_name : Addr := 0
  f_written : Addr := 0
  f_read : Addr := 0
  f_p_parts : Addr := 0
  f_p_pair : Addr := 0
  f_p_number : Addr := 0
  f_p_check_name : Addr := 0
  f_l_asked : Addr := 0
  f_l_word : Addr := 0
  f_l_told : Addr := 0
  f_l_odd : Addr := 0
  f_l_no_quay : Addr := 0
  f_l_full : Addr := 0
  f_l_tree : Addr := 0
  f_l_drawn : Addr := 0
  f_l_hangs : Addr := 0
  f_l_right : Addr := 0
  f_l_lying : Addr := 0
  f_l_words : Addr := 0
  f_l_done : Addr := 0
  f_l_stands : Addr := 0
  f_l_nearer : Addr := 0
  f_l_read : Addr := 0
  f_l_text : Addr := 0
  f_l_odd_text : Addr := 0
  f_law : Addr := 0
  e_BerthError : Addr := 0
  e_NoQuay : Addr := 0
  e_NoWishes : Addr := 0
  e_TooMany : Addr := 0
  e_NoCount : Addr := 0
  e_NoTree : Addr := 0
  e_NoOrder : Addr := 0
  e_NoName : Addr := 0
  e_Taken : Addr := 0
  e_NoWish : Addr := 0
  e_NoRoom : Addr := 0
  e_NoShip : Addr := 0
  e_NoText : Addr := 0
/-- a def as it stands behind the top -/
structure DF (K : PySem.W.Frag) (mg : Str → Option Value) (x : Str) (st : Stmt) (ps : List Str) (f : Addr) : Prop where
  ex : ∃ fd, Fun K x x st f fd ∧ Binds K fd ps []
  g : mg x = some (.ref f)
/-- a def that keeps its promise, ready to be called by its name -/
structure Cb (P : Program) (w : World) (K : PySem.W.Frag) (mg : Str → Option Value) (base : Heap) (CX : CXT) (k : Nat) (x : Str) (f : Addr) (ps : List Str) (sp : Sp) : Prop where
  ex : ∃ fd, FnOk P w K mg base CX k f fd ps sp ∧ Binds K fd ps []
  g : mg x = some (.ref f)
  kp : PySem.W.keepIn K (.ref f) = true
/-- an own exception's class -/
structure ExF (K : PySem.W.Frag) (mg : Str → Option Value) (x : Str) (c : Addr) : Prop where
  g : mg x = some (.ref c)
  x : PySem.W.excIn K c [.type "ValueError", .type "Exception", .type "BaseException", .type "object"] "ValueError.__new__" = true
  k : PySem.W.keepIn K (.ref c) = true
  b : PySem.W.subIn K (.ref c) (.type "BaseException") = some true
  t : PySem.W.typeIn K (.ref c) = some (.type "type")
theorem df_mk {K : PySem.W.Frag} {mg : Str → Option Value} {x : Str} {st : Stmt} {ps : List Str} {f : Addr} {fd : FuncData} (F : Fun K x x st f fd)
    (h : ∀ (kV doc pm : Value) (an : Option Addr) (cdv ct : Value) (us : List Value), us.length = ps.length → bindArgs (PySem.W.fnOf x x (defArgs st) (defBody st) (defScope st) .none kV doc pm an cdv ct) ⟨us, []⟩ = pure (ps.zip us)) (g : mg x = some (.ref f)) : DF K mg x st ps f :=
  ⟨⟨fd, F, F.binds h⟩, g⟩
/-! ### readings by short names -/
def rAddI : R2 := rI0 fun i j => .int (i + j)
def rSubI : R2 := rI0 fun i j => .int (i - j)
def rMulI : R2 := rI CMul fun i j => .int (i * j)
def rModI : R2 := rI (fun _ j => 0 < j) fun i j => .int (i % j)
def rDivI : R2 := rI CDiv fun i j => .int (i / j)
def rPowI : R2 := rI CPow fun i j => .int (i ^ j.toNat)
def rLtI : R2 := rI0 fun i j => .bl (decide (i < j))
def rLeI : R2 := rI0 fun i j => .bl (decide (i ≤ j))
def rGtI : R2 := rI0 fun i j => .bl (decide (j < i))
def rGeI : R2 := rI0 fun i j => .bl (decide (j ≤ i))
def rIsTyB : R2 := fun x y H Q => ∃ a b, x = .ty a ∧ y = .ty b ∧ Q (.bl (decide (a = b))) H
def rIsB1 : R2 := fun x y H Q => ∃ a b, x = .bl a ∧ y = .bl b ∧ Q (.bl (decide (a = b))) H
def rLenSq (K : PySem.W.Frag) : List V → Hp → VK → Prop := fun xs H Q => ∃ p ys, xs = [.ref p] ∧ (SqL K H p ys ∨ SqT K H p ys) ∧ Q (.int ys.length) H
def rMin2 : List V → Hp → VK → Prop := fun xs H Q => ∃ i j, xs = [.int i, .int j] ∧ Q (.int (if j < i then j else i)) H
def rMax2 : List V → Hp → VK → Prop := fun xs H Q => ∃ i j, xs = [.int i, .int j] ∧ Q (.int (if j > i then j else i)) H
def rInt1 : List V → Hp → VK → Prop := fun xs H Q => (∃ i, xs = [.int i] ∧ Q (.int i) H) ∨ ∃ k, xs = [.bl k] ∧ Q (.int (if k then 1 else 0)) H
def rListOf (K : PySem.W.Frag) : List V → Hp → VK → Prop := fun xs H Q => ∃ p ys, xs = [.ref p] ∧ (SqL K H p ys ∨ SqT K H p ys) ∧ ∀ l, H l = none → Q (.ref l) (upd H l (.lst ys))
def rTupleOf (K : PySem.W.Frag) : List V → Hp → VK → Prop := fun xs H Q => ∃ p ys, xs = [.ref p] ∧ ((SqL K H p ys ∧ ∀ l, H l = none → Q (.ref l) (upd H l (.tup ys))) ∨ (SqT K H p ys ∧ Q (.ref p) H))
def ipAdd : TIp := ipI fun i j => i + j
def ipSub : TIp := ipI fun i j => i - j
def tTru (K : PySem.W.Frag) (te : TE) : TT := fun σ H Q => te σ H fun x H' => ∃ k, TruV K x H' k ∧ Q k H'
def tRaise (c : Addr) (E : XK) : TS := fun _ _ H => E (.ref c) none H
def iSeq (K : PySem.W.Frag) (tl : TE) : TI := fun σ H R => iList K tl σ H R ∨ iTup K tl σ H R
def SqA (K : PySem.W.Frag) (H : Hp) (a : Addr) (xs : List V) : Prop := SqL K H a xs ∨ SqT K H a xs
theorem item_of0 {ns : List Int} {i : Nat} {y : V} (hi : (ns.map V.int)[i]? = some y) : ∃ z, ns[i]? = some z ∧ y = V.int z := by
  rw [List.getElem?_map] at hi
  cases e : ns[i]? with
  | none => rw [e] at hi; cases hi
  | some z => rw [e] at hi; exact ⟨z, rfl, (Option.some.inj hi).symm⟩
/-! ### rules -/
section
variable {X : Cx}
theorem pe_gl {x : Str} {v : V} {pos : Pos} (hg : Gl X x) (h : ∃ u, X.mg x = some u ∧ RelV v u) (hd : (x == ("__debug__" : Str)) = false := by decide) : PE X (.Name x pos) (tC v) := by
  obtain ⟨u, hm, r⟩ := h
  exact pe_glob hg hm r hd
theorem pe_cb {CX : CXT} {k : Nat} {f : Addr} {ps : List Str} {sp : Sp} {E : XK} {x : Str} {p pos : Pos} {e : Expr} {es : List Expr} {t : TA} (G : Cb X.prog X.w X.K X.mg X.base CX k x f ps sp) (hr : Room k X.A) (hg : Gl X x) (hx : Passes CX X E) (ha : PA X (e :: es) t)
    (hdb : (x == ("__debug__" : Str)) = false := by decide) (he : starEach (e :: es) X.env = (false, eval e X.env) :: starEach es X.env := by rfl) (hpl : (backTo pos (starEach es X.env)).any (·.1) = false := by rfl) :
    PE X (.Call (.Name x p) (e :: es) [] pos) (tCall sp [] E t) := by
  obtain ⟨⟨fd, F, b⟩, g, kp⟩ := G
  exact pe_call F hr hg g kp b .nil hx ha hdb he hpl
theorem pe_cbS {CX : CXT} {k : Nat} {f : Addr} {ps : List Str} {sp : Sp} {E : L2.St → XK} {x : Str} {p pos : Pos} {e : Expr} {es : List Expr} {t : TA} (G : Cb X.prog X.w X.K X.mg X.base CX k x f ps sp) (hr : Room k X.A) (hg : Gl X x) (hx : ∀ σ, PassesAt CX X σ (E σ)) (ha : PA X (e :: es) t)
    (hdb : (x == ("__debug__" : Str)) = false := by decide) (he : starEach (e :: es) X.env = (false, eval e X.env) :: starEach es X.env := by rfl) (hpl : (backTo pos (starEach es X.env)).any (·.1) = false := by rfl) :
    PE X (.Call (.Name x p) (e :: es) [] pos) (tCallS sp E t) := by
  obtain ⟨⟨fd, F, b⟩, g, kp⟩ := G
  exact pe_callS F hr hg g kp b hx ha hdb he hpl
theorem pi_seq {tg l : Expr} {tl : TE} (hl : PE X l tl) : PI X tg l (iSeq X.K tl) :=
  ⟨fun pins s σ H R I h => h.elim (fun h => (pi_list hl).run pins s σ H R I h) (fun h => (pi_tup hl).run pins s σ H R I h)⟩
/-- xs[i], by values: for xs[i] += e -/
theorem gt_list : PGet X (rIxL X.K) := by
  intro pins s σ H x y v u Q I rx ry h
  obtain ⟨p, xs, i, z, rfl, rfl, hq, he, q⟩ := h
  cases rx
  obtain ⟨t, rfl⟩ := ry
  obtain ⟨its, r, pl, hz⟩ := I.list hq
  obtain ⟨j, h1, h2, h3, h4, h5⟩ := atI_get he
  obtain ⟨w, ew, rw'⟩ := r.get h2
  have hl := r.length
  have hn := line63
  have fin : EP X pins σ Q w s := ⟨z, H, I, rw', q⟩
  by_cases h0 : 0 ≤ i
  · have hj : i.toNat = j := by
      rw [seqIndex_of h0 h5] at h1
      exact Option.some.inj h1
    exact wpAny_getItem_list pl.isList h0 (by omega) (by rw [hj]; simpa using ew) fin
  · have hj : (i + (its.toArray.size : Int)).toNat = j := by
      rw [seqIndex_neg (by omega) h4] at h1
      rw [List.size_toArray, ← hl]
      exact Option.some.inj h1
    exact wpAny_getItem_list_neg pl.isList (by omega) (by rw [List.size_toArray] <;> omega) (by omega) (by rw [hj]; simpa using ew) fin
/-! ### min(xs, default=d), xs a list of whole numbers -/
theorem minOf_int : ∀ (ys : List Int) (y : Int), PySem.W.minOf y ys ∈ y :: ys ∧ ∀ z ∈ y :: ys, PySem.W.minOf y ys ≤ z
  | [], y => ⟨List.mem_singleton.mpr rfl, fun z hz => by rw [List.mem_singleton.mp hz]; exact Int.le_refl _⟩
  | x :: r, y => by
    have e : PySem.W.minOf y (x :: r) = PySem.W.minOf (if x < y then x else y) r := by
      show PySem.W.minOf (if (decide (x < y)) = true then x else y) r = _
      by_cases h : x < y <;> simp [h]
    obtain ⟨h1, h2⟩ := minOf_int r (if x < y then x else y)
    rw [e]
    refine ⟨?_, fun z hz => ?_⟩
    · rcases List.mem_cons.mp h1 with k | k
      · rw [k]
        by_cases h : x < y <;> simp [h]
      · simp [k]
    · have hc := h2 _ (List.mem_cons_self)
      rcases List.mem_cons.mp hz with k | k
      · subst k
        by_cases h : x < z
        · rw [if_pos h] at hc ⊢
          omega
        · rw [if_neg h] at hc ⊢
          exact hc
      · rcases List.mem_cons.mp k with k | k
        · subst k
          by_cases h : z < y
          · rw [if_pos h] at hc ⊢
            exact hc
          · rw [if_neg h] at hc ⊢
            omega
        · exact h2 z (List.mem_cons_of_mem _ k)
def rMinD (K : PySem.W.Frag) : List V → List V → Hp → VK → Prop := fun vs zs H Q => ∃ (p : Addr) (d : V) (ns : List Int), vs = [.ref p] ∧ zs = [d] ∧ SqL K H p (ns.map V.int) ∧
  (ns = [] → Q d H) ∧ ∀ m, m ∈ ns → (∀ y ∈ ns, m ≤ y) → Q (.int m) H
def tMinD (K : PySem.W.Frag) (ta td : TE) : TE := tCKw (rMinD K) (tCons ta tNil) (tCons td tNil)
theorem dp_ints {K : PySem.W.Frag} {H : Hp} : ∀ ns : List Int, DpAll K H (ns.map V.int) (ns.map PyData.int)
  | [] => .nil
  | n :: r => .cons (.int n) (dp_ints r)
theorem cr_minD (hc : X.calm = true) (hu : X.A.units + 64 < cLine) : CallRK X (.builtin "min") [Str.ofString "default"] (rMinD X.K) := by
  intro pins s σ H vs zs us ws Q I r rz h
  obtain ⟨p, d, ns, rfl, rfl, hs, q0, q1⟩ := h
  obtain ⟨w, rfl, rw'⟩ := vals1 rz
  obtain ⟨its, rv, hl, _⟩ := I.list hs
  rw [Vals.ref1 r]
  obtain ⟨as, ra⟩ := Dp.readsAll I (ns.map PyData.int) _ its (dp_ints ns) rv
  have HA : PySem.W.HoldAll s.heap its.toArray.toList ns := ⟨as, ra⟩
  refine PySem.W.min_list_datum_default (I.ok.hd hc) hl.isList HA (by show X.A.units + 1 + PySem.W.Datum.depth Int < cLine; have e : PySem.W.Datum.depth Int = 0 := rfl; rw [e]; omega) (fun e h' tk hk => ⟨d, H, I.kept hk, rw', q0 e⟩) fun y ys i v h' tk e hi hv hk => ?_
  subst e
  obtain ⟨as2, r2⟩ := hv
  have hi' : its[i]? = some v := by simpa using hi
  have hlen := rv.length
  have hlt : i < ((y :: ys).map V.int).length := by rw [hlen]; exact (List.getElem?_eq_some_iff.mp hi').1
  obtain ⟨u, hu1, hu2⟩ := rv.get (List.getElem?_eq_getElem hlt)
  rw [hi'] at hu1
  cases hu1
  obtain ⟨z, hz, ez⟩ := item_of0 (List.getElem?_eq_getElem hlt)
  rw [ez] at hu2
  obtain ⟨t, rfl⟩ := hu2
  have em : PySem.W.minOf y ys = z := by
    have r2' : Reads h' (.int z t) (.int (PySem.W.minOf y ys)) as2 := r2
    cases r2'
    rfl
  obtain ⟨m1, m2⟩ := minOf_int ys y
  rw [em] at m1 m2
  exact ⟨.int z, H, I.kept hk, ⟨_, rfl⟩, q1 z m1 m2⟩
theorem pe_minD {p pos kpos : Pos} {e d : Expr} {ta td : TE} (hc : X.calm = true) (hu : X.A.units + 64 < cLine) (hg : Gl X "min") (hm : X.mg "min" = none) (ha : PE X e ta) (hd : PE X d td)
    (he : backTo pos (starEach (e :: []) X.env) = (false, eval e X.env) :: backTo pos (starEach [] X.env) := by rfl) (hse : starEach (e :: []) X.env = (false, eval e X.env) :: starEach [] X.env := by rfl) (hpl : (backTo pos (starEach (e :: []) X.env)).any (·.1) = false := by rfl)
    (hall : (backToKw pos (keywordEach [⟨some (Str.ofString "default"), d, kpos⟩] X.env)).all (·.1.isSome) = true := by rfl) (hnone : (backToKw pos (keywordEach [⟨some (Str.ofString "default"), d, kpos⟩] X.env)).any (·.1.isNone) = false := by rfl)
    (hks : (backToKw pos (keywordEach [⟨some (Str.ofString "default"), d, kpos⟩] X.env)).filterMap (·.1) = [Str.ofString "default"] := by rfl) :
    PE X (.Call (.Name "min" p) [e] [⟨some (Str.ofString "default"), d, kpos⟩] pos) (tMinD X.K ta td) :=
  pe_callBK (cr_minD hc hu) hg hm (by decide +kernel) (pa_cons ha pa_nil hse) (pk_cons hd pk_nil) (by decide) (by decide) he hpl hall hnone hks
end
/-! ### == and != of data -/
def rEqT (K : PySem.W.Frag) : R2 := fun x y H Q => ∃ (α : Type) (_ : DecidableEq α) (_ : PySem.W.Datum α) (a b : α), Dp K H x (PySem.W.Datum.toD a) ∧ Dp K H y (PySem.W.Datum.toD b) ∧ PySem.W.Datum.depth α ≤ 64 ∧ Q (.bl (decide (a = b))) H
def rNeT (K : PySem.W.Frag) : R2 := fun x y H Q => ∃ (α : Type) (_ : DecidableEq α) (_ : PySem.W.Datum α) (a b : α), Dp K H x (PySem.W.Datum.toD a) ∧ Dp K H y (PySem.W.Datum.toD b) ∧ PySem.W.Datum.depth α ≤ 64 ∧ Q (.bl (decide (a ≠ b))) H
section
variable {X : Cx}
theorem op_eqT (hu : X.A.units + 64 < cLine) : OpR X (compareOp .Eq) (rEqT X.K) := by
  intro pins s σ H x y v u Q I rx ry h
  obtain ⟨α, d1, d2, a, b, ha, hb, hd, q⟩ := h
  exact PySem.W.eq_datum (Dp.reads I _ x v ha rx) (Dp.reads I _ y u hb ry) (by omega) ⟨.bl _, H, I, rfl, q⟩
theorem op_neT (hu : X.A.units + 64 < cLine) : OpR X (compareOp .NotEq) (rNeT X.K) := by
  intro pins s σ H x y v u Q I rx ry h
  obtain ⟨α, d1, d2, a, b, ha, hb, hd, q⟩ := h
  exact PySem.W.ne_datum (Dp.reads I _ x v ha rx) (Dp.reads I _ y u hb ry) (by omega) ⟨.bl _, H, I, rfl, q⟩
end
theorem eqT_of {K : PySem.W.Frag} {x y : V} {H : Hp} {Q : VK} {α : Type} [DecidableEq α] [PySem.W.Datum α] {a b : α} (ha : Dp K H x (PySem.W.Datum.toD a)) (hb : Dp K H y (PySem.W.Datum.toD b)) (hd : PySem.W.Datum.depth α ≤ 64) (q : Q (.bl (decide (a = b))) H) : rEqT K x y H Q := ⟨α, _, _, a, b, ha, hb, hd, q⟩
theorem neT_of {K : PySem.W.Frag} {x y : V} {H : Hp} {Q : VK} {α : Type} [DecidableEq α] [PySem.W.Datum α] {a b : α} (ha : Dp K H x (PySem.W.Datum.toD a)) (hb : Dp K H y (PySem.W.Datum.toD b)) (hd : PySem.W.Datum.depth α ≤ 64) (q : Q (.bl (decide (a ≠ b))) H) : rNeT K x y H Q := ⟨α, _, _, a, b, ha, hb, hd, q⟩
theorem ho_ints {K : PySem.W.Frag} {H : Hp} {p : Addr} {ns : List Int} (h : SqL K H p (ns.map V.int)) : Dp K H (.ref p) (PySem.W.Datum.toD ns) := .lst h (dp_ints ns)
/-! ### heaps -/
theorem same_new {H : Hp} {p : Addr} {o : HO} (h : H p = none) : Same H (upd H p o) := fun b x e => by
  rw [upd_ne (ne_of_none e h)]
  exact e
/-- what stood ahead of an object's making stands behind a store into it -/
theorem _root_.L2.Same.store {H H' : Hp} {p : Addr} {o : HO} (s : Same H H') (h : H p = none) : Same H (upd H' p o) := fun b x e => by
  rw [upd_ne (ne_of_none e h)]
  exact s b x e
theorem _root_.L2.Same.seqT {K : PySem.W.Frag} {H H' : Hp} {a : Addr} {xs : List V} (e : Same H H') (h : SqT K H a xs) : SqT K H' a xs := by
  rcases h with (h | ⟨o, h⟩) | h
  · exact .inl (.inl (e _ _ h))
  · exact .inl (.inr ⟨o, e _ _ h⟩)
  · exact .inr h
theorem _root_.L2.Same.seqA {K : PySem.W.Frag} {H H' : Hp} {a : Addr} {xs : List V} (e : Same H H') (h : SqA K H a xs) : SqA K H' a xs := h.elim (fun h => .inl (e.seq h)) (fun h => .inr (e.seqT h))
theorem sqL_of {K : PySem.W.Frag} {H : Hp} {a : Addr} {xs : List V} (h : H a = some (.lst xs)) : SqL K H a xs := .inl (.inl h)
theorem sqT_of {K : PySem.W.Frag} {H : Hp} {a : Addr} {xs : List V} (h : H a = some (.tup xs)) : SqT K H a xs := .inl (.inl h)
/-! ### loops and comprehensions in short -/
theorem for_seq {K : PySem.W.Frag} {a : Addr} {xs : List V} {tl : TE} {g : TG} {tb : TS} {D : Ends} {σ : L2.St} {H0 H : Hp} (ht : ∀ Q : VK, Q (.ref a) H → tl σ H Q) (hA : SqA K H0 a xs) (Pv : Nat → L2.St → Hp → Prop) (h0 : Pv 0 σ H) (hl : ∀ i σ H', Pv i σ H' → Same H0 H')
    (hs : ∀ i x σ H, xs[i]? = some x → Pv i σ H → g x σ H fun σ2 H2 => tb { D with nx := Pv (i + 1), ct := Pv (i + 1), bk := D.nx } σ2 H2) (hd : ∀ σ H, Pv xs.length σ H → D.nx σ H) : tFor (iSeq K tl) g tb D σ H := by
  rcases hA with h | h
  · exact .inl (ht _ ⟨a, rfl, ⟨_, (hl _ _ _ h0).seq h⟩, for_list (K := K) (a := a) Pv h0 (fun i σ H' _ p => (hl i σ H' p).seq h) hs hd⟩)
  · exact .inr (ht _ ⟨a, rfl, ⟨_, (hl _ _ _ h0).seqT h⟩, for_tup (K := K) (a := a) Pv h0 (fun i σ H' _ p => (hl i σ H' p).seqT h) hs hd⟩)
theorem take_more {α : Type} : ∀ {l : List α} {i : Nat} {x : α}, l[i]? = some x → l.take (i + 1) = l.take i ++ [x] := fun {l i x} h => by
  rw [List.take_add_one, h]
  rfl
theorem item_of {ns : List Int} {i : Nat} {y : V} (hi : (ns.map V.int)[i]? = some y) : ∃ z, ns[i]? = some z ∧ y = V.int z := by
  rw [List.getElem?_map] at hi
  cases e : ns[i]? with
  | none => rw [e] at hi; cases hi
  | some z => rw [e] at hi; exact ⟨z, rfl, (Option.some.inj hi).symm⟩
/-- a comprehension over anything that gives n values it 0, it 1 .. and leaves what is tracked; p the test, f the element -/
theorem lc_pure {J : It} {n : Nat} {G : Hp → Prop} {tt : TT} {te : TE} {g : TG} {vs : List Nat} {σ : L2.St} {H1 : Hp} {Qd : Addr → Hp → Prop} {Y : Nat → Hp → V → Hp → Prop} {α : Type} (w : Walk J n G Y) (hn : n < sizeLine) (xs : List α) (hx : xs.length = n) (p : α → Bool) (f : α → V) (hG : ∀ H', Same H1 H' → G H')
    (hs : ∀ i (x : α) (v : V) (H H' : Hp) (R : Bool → V → Hp → Prop), xs[i]? = some x → Same H1 H → Y i H v H' → (∀ y H'', Same H H'' → (p x = true → y = f x) → R (p x) y H'') →
      g v (wipe σ vs) H' fun σ2 H2 => wipe σ2 vs = wipe σ vs ∧ tt σ2 H2 fun b H3 => if b = true then te σ2 H3 fun y H4 => R true y H4 else R false .non H3)
    (hQ : ∀ D H', H1 D = none → Same H1 H' → H' D = some (.lst ((xs.filter p).map f)) → Qd D H') :
    ∀ D, H1 D = none → ∃ W : Nat → Nat → Hp → Prop, (∃ m, W 0 m (upd H1 D (.lst []))) ∧ ∀ i m H, W i m H →
      (J.stop i H ∧ Qd D H) ∨ (J.go i H ∧ ∃ Nx : Hp → Prop, (∀ H', Nx H' → ∃ m', m' < m ∧ W (i + 1) m' H') ∧ ∀ x H', J.yld i H x H' → g x (wipe σ vs) H' fun σ2 H2 => wipe σ2 vs = wipe σ vs ∧ tt σ2 H2 fun b H3 =>
        if b = true then te σ2 H3 fun y H4 => ∃ acc, H4 D = some (.lst acc) ∧ acc.length < sizeLine ∧ Nx (upd H4 D (.lst (acc ++ [y]))) else Nx H3) := by
  intro D hD
  refine lc_it w (fun i H => Same H1 H ∧ H D = some (.lst (((xs.take i).filter p).map f))) ⟨same_new hD, upd_same⟩ (fun i H _ h => hG H h.1) ?_ ?_
  · intro i v H H' hi ⟨s, e⟩ y
    have hi' : i < xs.length := by omega
    have hx' : xs[i]? = some xs[i] := List.getElem?_eq_getElem hi'
    have fin := hs i xs[i] v H H' (fun b y H4 => if b = true then ∃ acc, H4 D = some (.lst acc) ∧ acc.length < sizeLine ∧ (Same H1 (upd H4 D (.lst (acc ++ [y]))) ∧ (upd H4 D (.lst (acc ++ [y]))) D = some (.lst (((xs.take (i + 1)).filter p).map f))) else Same H1 H4 ∧ H4 D = some (.lst (((xs.take (i + 1)).filter p).map f))) hx' s y ?_
    · exact fin
    · intro y H4 s4 hy
      have e4 := s4 _ _ e
      rw [take_more hx', List.filter_append, List.map_append]
      cases hp : p xs[i] with
      | true =>
        rw [if_pos rfl]
        refine ⟨_, e4, ?_, (s.trans s4).store hD, ?_⟩
        · rw [List.length_map]
          refine Nat.lt_of_le_of_lt (List.length_filter_le _ _) (Nat.lt_of_le_of_lt (List.length_take_le _ _) ?_)
          omega
        · rw [upd_same, hy hp]
          simp [List.filter, hp]
      | false =>
        rw [if_neg Bool.false_ne_true]
        refine ⟨s.trans s4, ?_⟩
        rw [e4]
        simp [List.filter, hp]
  · intro H ⟨s, e⟩
    rw [← hx, List.take_length] at e
    exact hQ D H hD s e

/-! ### what is a number, a quay, wishes -/
def isInt : V → Bool
  | .int _ => true
  | _ => false
def inB (lo hi : Int) : V → Bool
  | .int i => decide (lo ≤ i) && decide (i ≤ hi)
  | _ => false
def goodW (n : Nat) (xs : List V) : Bool := decide (xs.length ≤ 400) && xs.all (inB 1 n)
/-- what a check of a quay and of wishes for it comes to: R behind a good one -/
def ChkQ (K : PySem.W.Frag) (a : Ad) (b : V) (H : Hp) (E : XK) (R : Nat → Prop) : Prop := ∃ T, TyB K H b T ∧ ((inB 1 400 b = false ∧ E (.ref a.e_NoQuay) none H) ∨ ∃ n : Nat, b = .int n ∧ 1 ≤ n ∧ n ≤ 400 ∧ R n)
def ChkW (K : PySem.W.Frag) (a : Ad) (b w : V) (H : Hp) (E : XK) (R : Nat → List Int → Addr → Prop) : Prop := ChkQ K a b H E fun n =>
  (∃ T, TyB K H w T ∧ T ≠ "list" ∧ T ≠ "tuple" ∧ E (.ref a.e_NoWishes) none H) ∨
  ∃ p xs, w = .ref p ∧ SqA K H p xs ∧ (∀ x ∈ xs, ∃ T, TyB K H x T) ∧ ((goodW n xs = false ∧ E (.ref a.e_NoWishes) none H) ∨
    ∃ ws : List Int, xs = ws.map V.int ∧ ws.length ≤ 400 ∧ (∀ x ∈ ws, 1 ≤ x ∧ x ≤ n) ∧ R n ws p)
theorem ChkQ.imp {K : PySem.W.Frag} {a : Ad} {b : V} {H : Hp} {E : XK} {R R' : Nat → Prop} (h : ChkQ K a b H E R) (k : ∀ n : Nat, b = .int n → 1 ≤ n → n ≤ 400 → R n → R' n) : ChkQ K a b H E R' := by
  obtain ⟨T, ty, h | ⟨n, e, h1, h2, r⟩⟩ := h
  · exact ⟨T, ty, .inl h⟩
  · exact ⟨T, ty, .inr ⟨n, e, h1, h2, k n e h1 h2 r⟩⟩
theorem ChkW.imp {K : PySem.W.Frag} {a : Ad} {b w : V} {H : Hp} {E : XK} {R R' : Nat → List Int → Addr → Prop} (h : ChkW K a b w H E R)
    (k : ∀ (n : Nat) (ws : List Int) (p : Addr), b = .int n → w = .ref p → 1 ≤ n → n ≤ 400 → SqA K H p (ws.map V.int) → ws.length ≤ 400 → (∀ x ∈ ws, 1 ≤ x ∧ x ≤ n) → R n ws p → R' n ws p) : ChkW K a b w H E R' := by
  refine ChkQ.imp h fun n e h1 h2 r => ?_
  rcases r with r | ⟨p, xs, ew, hs, ht, r | ⟨ws, ex, hl, hb, r⟩⟩
  · exact .inl r
  · exact .inr ⟨p, xs, ew, hs, ht, .inl r⟩
  · exact .inr ⟨p, xs, ew, hs, ht, .inr ⟨ws, ex, hl, hb, k n ws p e ew h1 h2 (ex ▸ hs) hl hb r⟩⟩
/-- a check that is passed -/
theorem ChkQ.ok {K : PySem.W.Frag} {a : Ad} {H : Hp} {E : XK} {R : Nat → Prop} {n : Nat} (h1 : 1 ≤ n) (h2 : n ≤ 400) (r : R n) : ChkQ K a (.int n) H E R := ⟨_, .int _, .inr ⟨n, rfl, h1, h2, r⟩⟩
theorem ChkW.ok {K : PySem.W.Frag} {a : Ad} {H : Hp} {E : XK} {R : Nat → List Int → Addr → Prop} {n : Nat} {ws : List Int} {p : Addr} (h1 : 1 ≤ n) (h2 : n ≤ 400) (hs : SqA K H p (ws.map V.int)) (hl : ws.length ≤ 400) (hb : ∀ x ∈ ws, 1 ≤ x ∧ x ≤ n) (r : R n ws p) : ChkW K a (.int n) (.ref p) H E R :=
  ChkQ.ok h1 h2 (.inr ⟨p, _, rfl, hs, fun x hx => by
    obtain ⟨i, _, rfl⟩ := List.mem_map.mp hx
    exact ⟨_, .int i⟩, .inr ⟨ws, rfl, hl, hb, r⟩⟩)
theorem goodW_ints {n : Nat} {ws : List Int} : goodW n (ws.map V.int) = true ↔ ws.length ≤ 400 ∧ ∀ x ∈ ws, 1 ≤ x ∧ x ≤ n := by
  unfold goodW
  simp [inB]
theorem inB_int {lo hi : Int} {v : V} (h : inB lo hi v = true) : ∃ i, v = .int i ∧ lo ≤ i ∧ i ≤ hi := by
  cases v with
  | int i =>
    simp only [inB, Bool.and_eq_true, decide_eq_true_eq] at h
    exact ⟨i, rfl, h⟩
  | _ => cases h
theorem goodW_of {n : Nat} {xs : List V} (h : goodW n xs = true) : ∃ ws : List Int, xs = ws.map V.int ∧ ws.length ≤ 400 ∧ ∀ x ∈ ws, 1 ≤ x ∧ x ≤ n := by
  unfold goodW at h
  simp only [Bool.and_eq_true, decide_eq_true_eq, List.all_eq_true] at h
  obtain ⟨h1, h2⟩ := h
  have e : ∃ ws : List Int, xs = ws.map V.int := by
    clear h1
    induction xs with
    | nil => exact ⟨[], rfl⟩
    | cons x r ih =>
      obtain ⟨ws, e⟩ := ih fun y hy => h2 y (List.mem_cons_of_mem _ hy)
      obtain ⟨i, ei, _⟩ := inB_int (h2 x List.mem_cons_self)
      exact ⟨i :: ws, by rw [ei, e]; rfl⟩
  obtain ⟨ws, rfl⟩ := e
  refine ⟨ws, rfl, by simpa using h1, fun x hx => ?_⟩
  obtain ⟨i, ei, h3, h4⟩ := inB_int (h2 (.int x) (List.mem_map_of_mem hx))
  cases ei
  exact ⟨h3, h4⟩
theorem tyb_int {K : PySem.W.Frag} {H : Hp} {x : V} {T : String} (h : TyB K H x T) : decide (T = "int") = isInt x := by
  cases h <;> first | rfl | decide
theorem tyb_ref {K : PySem.W.Frag} {H : Hp} {x : V} {T : String} (h : TyB K H x T) (e : T = "list" ∨ T = "tuple") : ∃ p xs, x = .ref p ∧ SqA K H p xs := by
  cases h with
  | lst h => exact ⟨_, _, rfl, .inl h⟩
  | tup h => exact ⟨_, _, rfl, .inr h⟩
  | non => rcases e with e | e <;> exact absurd e (by decide)
  | bl => rcases e with e | e <;> exact absurd e (by decide)
  | int => rcases e with e | e <;> exact absurd e (by decide)
  | str => rcases e with e | e <;> exact absurd e (by decide)
  | byt => rcases e with e | e <;> exact absurd e (by decide)
  | dK => rcases e with e | e <;> exact absurd e (by decide)
theorem SqA.ty {K : PySem.W.Frag} {H : Hp} {p : Addr} {xs : List V} (h : SqA K H p xs) : ∃ T, TyB K H (.ref p) T ∧ (decide (T = "list") || decide (T = "tuple")) = true := by
  rcases h with h | h
  · exact ⟨_, .lst h, by decide⟩
  · exact ⟨_, .tup h, by decide⟩
/-! is_number, is_from_to, is_row -/
def sp_is_number (K : PySem.W.Frag) (a : Ad) : Sp := fun vs H Q _ => ∃ x T, vs = [x] ∧ TyB K H x T ∧ Q (.bl (isInt x)) H
abbrev N_is_number : List Str := ["thing"]
def t_is_number (K : PySem.W.Frag) (a : Ad) : TS :=
  (tRet (tOp rIsTyB (tCB (rTyp K) (tCons (tVar 0) tNil)) (tC (.ty "int"))))
theorem len_is_number {K : PySem.W.Frag} {a : Ad} {vs : List V} {H : Hp} {Q : VK} {E : XK} (h : sp_is_number K a vs H Q E) : vs.length = 1 := by
  obtain ⟨x, T, rfl, _⟩ := h
  rfl
theorem pu_is_number {K : PySem.W.Frag} {a : Ad} {vs : List V} {H : Hp} {Q : VK} {E : XK} (h : sp_is_number K a vs H Q E) : t_is_number K a { nx := fun _ H' => Q .non H', rt := Q } (start N_is_number vs) H := by
  obtain ⟨x, T, rfl, ty, q⟩ := h
  refine ⟨x, rfl, x, T, rfl, ty, _, _, rfl, rfl, ?_⟩
  rw [tyb_int ty]
  exact q
def sp_is_from_to (K : PySem.W.Frag) (a : Ad) : Sp := fun vs H Q _ => ∃ lo hi x T, vs = [.int lo, .int hi, x] ∧ TyB K H x T ∧ Q (.bl (inB lo hi x)) H
abbrev N_is_from_to : List Str := ["low", "high", "thing"]
def t_is_from_to (K : PySem.W.Frag) (a : Ad) : TS :=
  (tRet (tAndV (tCall (sp_is_number K a) [] E0 (tCons (tVar 2) tNil)) (tChain rLeI rLeI (tVar 0) (tVar 2) (tVar 1))))
theorem len_is_from_to {K : PySem.W.Frag} {a : Ad} {vs : List V} {H : Hp} {Q : VK} {E : XK} (h : sp_is_from_to K a vs H Q E) : vs.length = 3 := by
  obtain ⟨lo, hi, x, T, rfl, _⟩ := h
  rfl
theorem pu_is_from_to {K : PySem.W.Frag} {a : Ad} {vs : List V} {H : Hp} {Q : VK} {E : XK} (h : sp_is_from_to K a vs H Q E) : t_is_from_to K a { nx := fun _ H' => Q .non H', rt := Q } (start N_is_from_to vs) H := by
  obtain ⟨lo, hi, x, T, rfl, ty, q⟩ := h
  refine ⟨x, rfl, x, T, rfl, ty, isInt x, rfl, ?_⟩
  cases x with
  | int i =>
    refine iteT ⟨_, rfl, _, rfl, lo, i, rfl, rfl, _, rfl, ?_⟩
    by_cases h1 : lo ≤ i
    · rw [decide_eq_true h1]
      refine iteT ⟨_, rfl, i, hi, rfl, rfl, ?_⟩
      have e : inB lo hi (.int i) = decide (i ≤ hi) := by simp [inB, h1]
      rw [e] at q
      exact q
    · rw [decide_eq_false h1]
      have e : inB lo hi (.int i) = false := by simp [inB, h1]
      rw [e] at q
      exact iteF q
  | _ => exact iteF q
def sp_is_row (K : PySem.W.Frag) (a : Ad) : Sp := fun vs H Q _ => ∃ x T, vs = [x] ∧ TyB K H x T ∧ Q (.bl (decide (T = "list") || decide (T = "tuple"))) H
abbrev N_is_row : List Str := ["thing"]
def t_is_row (K : PySem.W.Frag) (a : Ad) : TS :=
  (tRet (tOrV (tOp rIsTyB (tCB (rTyp K) (tCons (tVar 0) tNil)) (tC (.ty "list"))) (tOp rIsTyB (tCB (rTyp K) (tCons (tVar 0) tNil)) (tC (.ty "tuple")))))
theorem len_is_row {K : PySem.W.Frag} {a : Ad} {vs : List V} {H : Hp} {Q : VK} {E : XK} (h : sp_is_row K a vs H Q E) : vs.length = 1 := by
  obtain ⟨x, T, rfl, _⟩ := h
  rfl
theorem pu_is_row {K : PySem.W.Frag} {a : Ad} {vs : List V} {H : Hp} {Q : VK} {E : XK} (h : sp_is_row K a vs H Q E) : t_is_row K a { nx := fun _ H' => Q .non H', rt := Q } (start N_is_row vs) H := by
  obtain ⟨x, T, rfl, ty, q⟩ := h
  refine ⟨x, rfl, x, T, rfl, ty, _, _, rfl, rfl, _, rfl, ?_⟩
  by_cases h1 : T = "list"
  · rw [decide_eq_true h1] at q ⊢
    exact iteT q
  · rw [decide_eq_false h1] at q ⊢
    exact iteF ⟨x, rfl, x, T, rfl, ty, _, _, rfl, rfl, q⟩
/-! check_quay, check_wishes -/
def sp_check_quay (K : PySem.W.Frag) (a : Ad) : Sp := fun vs H Q E => ∃ b, vs = [b] ∧ ChkQ K a b H E fun _ => Q .non H
abbrev N_check_quay : List Str := ["berths"]
def t_check_quay (K : PySem.W.Frag) (a : Ad) (E : XK) : TS :=
  (tIfS (tNot (tB (tCall (sp_is_from_to K a) [] E0 (tCons (tC (.int 1)) (tCons (tC (.int 400)) (tCons (tVar 0) tNil)))))) (tRaise a.e_NoQuay E) tNext)
theorem len_check_quay {K : PySem.W.Frag} {a : Ad} {vs : List V} {H : Hp} {Q : VK} {E : XK} (h : sp_check_quay K a vs H Q E) : vs.length = 1 := by
  obtain ⟨b, rfl, _⟩ := h
  rfl
theorem pu_check_quay {K : PySem.W.Frag} {a : Ad} {vs : List V} {H : Hp} {Q : VK} {E : XK} (h : sp_check_quay K a vs H Q E) : t_check_quay K a E { nx := fun _ H' => Q .non H', rt := Q } (start N_check_quay vs) H := by
  obtain ⟨b, rfl, T, ty, h⟩ := h
  refine ⟨b, rfl, 1, 400, b, T, rfl, ty, inB 1 400 b, rfl, ?_⟩
  rcases h with ⟨e, q⟩ | ⟨n, rfl, h1, h2, q⟩
  · rw [e]
    exact iteT q
  · have e : inB 1 400 (.int n) = true := by simp [inB]; omega
    rw [e]
    exact iteF q
def sp_check_wishes (K : PySem.W.Frag) (a : Ad) : Sp := fun vs H Q E => ∃ b w, vs = [b, w] ∧ ChkW K a b w H E fun _ _ _ => Q .non H
abbrev N_check_wishes : List Str := ["berths", "wishes", "wish"]
def t_check_wishes (K : PySem.W.Frag) (a : Ad) (E : XK) : TS :=
  (tSeq (tDrop (tCall (sp_check_quay K a) [] E (tCons (tVar 0) tNil)))
    (tSeq (tIfS (tNot (tB (tCall (sp_is_row K a) [] E0 (tCons (tVar 1) tNil)))) (tRaise a.e_NoWishes E) tNext)
    (tSeq (tIfS (tTest (tOp rGtI (tCB (rLenSq K) (tCons (tVar 1) tNil)) (tC (.int 400)))) (tRaise a.e_NoWishes E) tNext)
    (tFor (iSeq K (tVar 1)) (gName 2)
    (tIfS (tNot (tB (tCall (sp_is_from_to K a) [] E0 (tCons (tC (.int 1)) (tCons (tVar 0) (tCons (tVar 2) tNil)))))) (tRaise a.e_NoWishes E) tNext)))))
theorem len_check_wishes {K : PySem.W.Frag} {a : Ad} {vs : List V} {H : Hp} {Q : VK} {E : XK} (h : sp_check_wishes K a vs H Q E) : vs.length = 2 := by
  obtain ⟨b, w, rfl, _⟩ := h
  rfl
theorem pu_check_wishes {K : PySem.W.Frag} {a : Ad} {vs : List V} {H : Hp} {Q : VK} {E : XK} (h : sp_check_wishes K a vs H Q E) : t_check_wishes K a E { nx := fun _ H' => Q .non H', rt := Q } (start N_check_wishes vs) H := by
  obtain ⟨b, w, rfl, h⟩ := h
  refine ⟨b, rfl, b, rfl, ChkQ.imp h fun n e h1 h2 r => ?_⟩
  rcases r with ⟨T, ty, n1, n2, q⟩ | ⟨p, xs, rfl, hs, ht, r⟩
  · refine ⟨w, rfl, w, T, rfl, ty, _, rfl, ?_⟩
    rw [decide_eq_false n1, decide_eq_false n2]
    exact iteT q
  · obtain ⟨T, ty, eT⟩ := hs.ty
    refine ⟨.ref p, rfl, .ref p, T, rfl, ty, _, rfl, ?_⟩
    rw [eT]
    refine iteF ⟨.ref p, rfl, p, xs, rfl, hs, _, _, rfl, rfl, _, rfl, ?_⟩
    have done : (goodW n xs = false → E (.ref a.e_NoWishes) none H) ∧ (goodW n xs = true → Q .non H) := by
      rcases r with ⟨g, q⟩ | ⟨ws, ex, hl, hb, q⟩
      · exact ⟨fun _ => q, fun g' => by rw [g] at g'; cases g'⟩
      · have g : goodW n xs = true := by rw [ex]; exact goodW_ints.mpr ⟨hl, hb⟩
        exact ⟨fun g' => (by rw [g] at g'; cases g'), fun _ => q⟩
    by_cases hl : xs.length ≤ 400
    · rw [decide_eq_false (show ¬ ((400 : Int) < (xs.length : Int)) by omega)]
      refine iteF (for_seq (K := K) (H0 := H) (fun Q q => ⟨.ref p, rfl, q⟩) hs (fun i σ H' => H' = H ∧ (xs.take i).all (inB 1 n) = true ∧ ∃ y, σ = [some b, some (.ref p), y]) ⟨rfl, rfl, none, rfl⟩ (fun i σ H' e => by rw [e.1]; exact Same.refl H) ?_ ?_)
      · rintro i x σ H' hx ⟨rfl, ha, y, rfl⟩
        obtain ⟨T, ty⟩ := ht x (List.mem_of_getElem? hx)
        refine ⟨b, rfl, x, rfl, 1, n, x, T, by rw [e] <;> rfl, ty, inB 1 n x, rfl, ?_⟩
        cases g : inB 1 n x with
        | true => exact iteF ⟨rfl, by rw [take_more hx, List.all_append, ha]; simp [g], some x, rfl⟩
        | false =>
          refine iteT (done.1 ?_)
          unfold goodW
          have : xs.all (inB 1 n) = false := by
            cases z : xs.all (inB 1 n) with
            | false => rfl
            | true =>
              rw [List.all_eq_true] at z
              rw [z x (List.mem_of_getElem? hx)] at g
              cases g
          rw [this, Bool.and_false]
      · rintro σ H' ⟨rfl, ha, y, rfl⟩
        rw [List.take_length] at ha
        refine done.2 ?_
        unfold goodW
        rw [ha, decide_eq_true hl]
        rfl
    · rw [decide_eq_true (show (400 : Int) < (xs.length : Int) by omega)]
      refine iteT (done.1 ?_)
      unfold goodW
      rw [decide_eq_false hl]
      rfl

/-! ### the straight quay: the mathematics of laying -/
/-- the first free one of k berths from w on -/
def ffr (occ : Int → Bool) : Nat → Int → Option Int
  | 0, _ => none
  | k + 1, w => if occ w = true then ffr occ k (w + 1) else some w
def ffree (n : Nat) (occ : Int → Bool) (w : Int) : Option Int := ffr occ ((n : Int) + 1 - w).toNat w
def setO (occ : Int → Bool) (b : Int) : Int → Bool := fun x => decide (x = b) || occ x
def pstep (n : Nat) (s : (Int → Bool) × List (Option Int)) (w : Int) : (Int → Bool) × List (Option Int) :=
  match ffree n s.1 w with
  | none => (s.1, s.2 ++ [none])
  | some b => (setO s.1 b, s.2 ++ [some b])
def prun (n : Nat) (ws : List Int) : (Int → Bool) × List (Option Int) := ws.foldl (pstep n) (fun _ => false, [])
def placedL (n : Nat) (ws : List Int) : List (Option Int) := (prun n ws).2
def vO : Option Int → V
  | none => .non
  | some b => .int b
def heldL (n : Nat) (occ : Int → Bool) : List V := (List.range (n + 1)).map fun (i : Nat) => V.bl (occ (i : Int))
theorem ffr_spec {occ : Int → Bool} : ∀ (k : Nat) (w : Int), (∀ b, ffr occ k w = some b → w ≤ b ∧ b < w + k ∧ occ b = false ∧ ∀ x, w ≤ x → x < b → occ x = true) ∧ (ffr occ k w = none → ∀ x, w ≤ x → x < w + k → occ x = true)
  | 0, w => ⟨fun b h => (by cases h), fun _ x h1 h2 => by omega⟩
  | k + 1, w => by
    obtain ⟨i1, i2⟩ := ffr_spec (occ := occ) k (w + 1)
    unfold ffr
    cases e : occ w with
    | true =>
      rw [if_pos rfl]
      refine ⟨fun b h => ?_, fun h x h1 h2 => ?_⟩
      · obtain ⟨j1, j2, j3, j4⟩ := i1 b h
        refine ⟨by omega, by omega, j3, fun x h1 h2 => ?_⟩
        by_cases z : x = w
        · rw [z]; exact e
        · exact j4 x (by omega) h2
      · by_cases z : x = w
        · rw [z]; exact e
        · exact i2 h x (by omega) (by omega)
    | false =>
      rw [if_neg Bool.false_ne_true]
      refine ⟨fun b h => ?_, fun h => (by cases h)⟩
      cases h
      exact ⟨Int.le_refl _, by omega, e, fun x h1 h2 => by omega⟩
theorem ffree_some {n : Nat} {occ : Int → Bool} {w b : Int} (h : ffree n occ w = some b) : w ≤ b ∧ b ≤ n ∧ occ b = false ∧ ∀ x, w ≤ x → x < b → occ x = true := by
  obtain ⟨h1, h2, h3, h4⟩ := (ffr_spec _ _).1 b h
  exact ⟨h1, by omega, h3, h4⟩
theorem ffree_none {n : Nat} {occ : Int → Bool} {w : Int} (h : ffree n occ w = none) : ∀ x, w ≤ x → x ≤ n → occ x = true := fun x h1 h2 => (ffr_spec _ _).2 h x h1 (by omega)
theorem prun_more {n : Nat} {ws : List Int} {i : Nat} {w : Int} (h : ws[i]? = some w) : prun n (ws.take (i + 1)) = pstep n (prun n (ws.take i)) w := by
  unfold prun
  rw [take_more h, List.foldl_append]
  rfl
theorem prun_snoc {n : Nat} {ws : List Int} {w : Int} : prun n (ws ++ [w]) = pstep n (prun n ws) w := by
  unfold prun
  rw [List.foldl_append]
  rfl
theorem pstep_len {n : Nat} {s : (Int → Bool) × List (Option Int)} {w : Int} : (pstep n s w).2.length = s.2.length + 1 := by
  unfold pstep
  cases ffree n s.1 w <;> simp
theorem snoc_ind {α : Type} {p : List α → Prop} (h0 : p []) (h1 : ∀ l x, p l → p (l ++ [x])) : ∀ l, p l := fun l => by
  have : ∀ n, ∀ l : List α, l.length = n → p l := by
    intro n
    induction n with
    | zero => intro l h; rw [List.length_eq_zero_iff.mp h]; exact h0
    | succ n ih =>
      intro l h
      have hne : l ≠ [] := fun z => by rw [z] at h; cases h
      rw [← List.dropLast_concat_getLast hne]
      exact h1 _ _ (ih _ (by rw [List.length_dropLast, h]; rfl))
  exact this _ l rfl
theorem prun_len {n : Nat} : ∀ ws : List Int, (prun n ws).2.length = ws.length := snoc_ind rfl fun ws w ih => by
  rw [prun_snoc, pstep_len, ih]
  simp
theorem placedL_len {n : Nat} {ws : List Int} : (placedL n ws).length = ws.length := prun_len ws
theorem heldL_at {n : Nat} {occ : Int → Bool} {i : Nat} (h : i ≤ n) : (heldL n occ)[i]? = some (.bl (occ (i : Int))) := by
  unfold heldL
  rw [List.getElem?_map, List.getElem?_range (by omega)]
  rfl
theorem heldL_len {n : Nat} {occ : Int → Bool} : (heldL n occ).length = n + 1 := by simp [heldL]
theorem heldL_set {n : Nat} {occ : Int → Bool} {b : Int} (h0 : 0 ≤ b) (h : b ≤ n) : (heldL n occ).set b.toNat (.bl true) = heldL n (setO occ b) := by
  apply List.ext_getElem?
  intro i
  by_cases hi : i ≤ n
  · rw [heldL_at hi]
    by_cases e : i = b.toNat
    · subst e
      rw [List.getElem?_set_self (by rw [heldL_len]; omega)]
      have : ((b.toNat : Nat) : Int) = b := by omega
      simp [setO, this]
    · rw [List.getElem?_set_ne (Ne.symm e), heldL_at hi]
      have : ¬ ((i : Nat) : Int) = b := by omega
      simp [setO, this]
  · rw [List.getElem?_eq_none (show ((heldL n occ).set b.toNat (V.bl true)).length ≤ i by rw [List.length_set, heldL_len]; omega), List.getElem?_eq_none (show (heldL n (setO occ b)).length ≤ i by rw [heldL_len]; omega)]
theorem heldL_new {n : Nat} : (List.replicate (n + 1) [V.bl false]).flatten = heldL n (fun _ => false) := by
  apply List.ext_getElem?
  intro i
  have e : (List.replicate (n + 1) [V.bl false]).flatten = List.replicate (n + 1) (V.bl false) := by
    generalize n + 1 = m
    induction m with
    | zero => rfl
    | succ m ih => rw [List.replicate_succ, List.replicate_succ, List.flatten_cons, ih]; rfl
  rw [e]
  by_cases hi : i ≤ n
  · rw [heldL_at hi, List.getElem?_replicate_of_lt (by omega)]
  · rw [List.getElem?_eq_none (show (List.replicate (n + 1) (V.bl false)).length ≤ i by rw [List.length_replicate]; omega), List.getElem?_eq_none (show (heldL n fun _ => false).length ≤ i by rw [heldL_len]; omega)]
theorem l1000 {n : Nat} (h : n ≤ 1000) : n ≤ sizeLine := Nat.le_of_lt (small1000 h)
/-! ### first_free -/
/-! ### placed -/
/-! ### taken, gone_on -/
def somes (l : List (Option Int)) : List Int := l.filterMap id
def sortI (l : List Int) : List Int := l.mergeSort fun x y => decide (x ≤ y)
theorem sortI_perm (l : List Int) : (sortI l).Perm l := List.mergeSort_perm l _
theorem sortI_sorted (l : List Int) : (sortI l).Pairwise (· ≤ ·) := by
  have h := List.pairwise_mergeSort (le := fun (x y : Int) => decide (x ≤ y)) (fun a b c h1 h2 => by simp only [decide_eq_true_eq] at *; omega) (fun a b => by simp only [Bool.or_eq_true, decide_eq_true_eq]; omega) l
  exact List.Pairwise.imp (fun h => of_decide_eq_true h) h
theorem sortI_uniq {l l' : List Int} (hp : l'.Perm l) (hs : l'.Pairwise (· ≤ ·)) : l' = sortI l := PySem.W.ksm_same (hp.trans (sortI_perm l).symm) hs (sortI_sorted l)
def takenL (n : Nat) (ws : List Int) : List Int := sortI (somes (placedL n ws))
/-- of each ship that lies, how far behind its wish -/
def goneL (ws : List Int) (bs : List (Option Int)) : List Int := (ws.zip bs).filterMap fun p => p.2.map fun b => b - p.1
theorem filter_some : ∀ l : List (Option Int), (l.filter Option.isSome).map vO = (somes l).map V.int
  | [] => rfl
  | none :: l => filter_some l
  | some b :: l => congrArg (V.int b :: ·) (filter_some l)
theorem vO_not (o : Option Int) : (!decide (vO o = .non)) = o.isSome := by
  cases o <;> rfl
theorem zip_gone : ∀ (ws : List Int) (bs : List (Option Int)), ((ws.zip bs).filter fun p => p.2.isSome).map (fun p => V.int ((p.2.getD 0) - p.1)) = (goneL ws bs).map V.int
  | [], _ => by simp [goneL]
  | _ :: _, [] => by simp [goneL]
  | w :: ws, none :: bs => by
    have ih := zip_gone ws bs
    simp only [List.zip_cons_cons, goneL] at ih ⊢
    simpa using ih
  | w :: ws, some b :: bs => by
    have ih := zip_gone ws bs
    simp only [List.zip_cons_cons, goneL] at ih ⊢
    simpa using ih
theorem zip_at {ws : List Int} {bs : List (Option Int)} {i : Nat} {x : Int × Option Int} (h : (ws.zip bs)[i]? = some x) : ws[i]? = some x.1 ∧ bs[i]? = some x.2 := by
  rw [List.getElem?_zip_eq_some] at h
  exact h
/-! ### tuple * k, k of nought and one, too; tuple(range(a, b, -1)), list(range(a, b, -1)) -/
theorem tuple_mulS (l : Addr) (items : Array Value) (n : Nat) (dd : Option Addr) (sl : Array (Option Value)) (u : Tok) :
    Meets (Builtin.«tuple.__mul__» ⟨[.ref l, .int 1 u], []⟩) (fun _ R s => s.heap.get? l = some { cls := .type "tuple", dict := dd, data := .seq items n, slots := sl } ∧ R (.ok (.ret (.ref l))) s) :=
  .of_wp fun prog w A R s h => by
    obtain ⟨hp, g, d, tk, os⟩ := s
    obtain ⟨hl, h⟩ := h
    have f1 := AutoSeq1.idx_int
    wp_walk using wpAny_loadPart' hl
    repeat (first
      | (refine wpAny_ite_false (by decide) ?_; wp_walk using wpAny_loadPart' hl)
      | (refine wpAny_ite_true (by simp) ?_; wp_walk using wpAny_loadPart' hl))
    exact ⟨_, rfl, h⟩
theorem tuple_mulZ (l : Addr) (items : Array Value) (n : Nat) (dd : Option Addr) (sl : Array (Option Value)) (x : Int) (u : Tok) (c0 : (decide (x < -(2 ^ 63)) || decide (x ≥ 2 ^ 63)) = false) (c1 : (items.isEmpty || x == 1) = false) (c2 : (decide (x ≤ 0) || items.isEmpty) = true) :
    Meets (Builtin.«tuple.__mul__» ⟨[.ref l, .int x u], []⟩) (fun _ R s => s.heap.get? l = some { cls := .type "tuple", dict := dd, data := .seq items n, slots := sl } ∧
      R (.ok (.ret (Value.ref s.heap.objs.size))) { s with heap := s.heap.push { cls := Value.type "tuple", data := Data.seq #[] }, toks := s.toks }) :=
  .of_wp fun prog w A R s h => by
    obtain ⟨hp, g, d, tk, os⟩ := s
    obtain ⟨hl, h⟩ := h
    have f1 := AutoSeq1.idx_int
    wp_walk using wpAny_loadPart' hl
    repeat (first
      | (refine wpAny_ite_false (decide_eq_false (by rw [c0]; exact Bool.false_ne_true)) ?_; wp_walk using wpAny_loadPart' hl)
      | (refine wpAny_ite_false (decide_eq_false (by rw [c1]; exact Bool.false_ne_true)) ?_; wp_walk using wpAny_loadPart' hl)
      | (refine wpAny_ite_true (decide_eq_true c2) ?_; wp_walk using wpAny_loadPart' hl))
    exact ⟨_, rfl, h⟩
def rRepTA (K : PySem.W.Frag) : R2 := fun x y H Q => ∃ l k xs, x = .ref l ∧ y = .int k ∧ SqT K H l xs ∧ xs ≠ [] ∧ 0 ≤ k ∧ k ≤ 1000 ∧ xs.length ≤ 1000 ∧ (k = 1 → Q (.ref l) H) ∧ (k ≠ 1 → ∀ p, H p = none → Q (.ref p) (upd H p (.tup (List.replicate k.toNat xs).flatten)))
section
variable {X : Cx}
theorem op_repTA : OpR X (binaryOp .Mult) (rRepTA X.K) := by
  intro pins s σ H x y v u Q I rx ry h
  obtain ⟨l, k, xs, rfl, rfl, hT, hne, h1, h2, hz, q1, q2⟩ := h
  by_cases hk : 2 ≤ k
  · exact op_repT pins s σ H _ _ v u Q I rx ry ⟨l, k, xs, rfl, rfl, hT, hne, hk, h2, hz, q2 (by omega)⟩
  cases rx
  obtain ⟨t, rfl⟩ := ry
  obtain ⟨its, r, ⟨⟨cls, dd, data, sl⟩, ho, hc, n, hd⟩, hs⟩ := I.tuple hT
  simp only at hc hd
  subst hc hd
  have hle : its.length = xs.length := r.length.symm
  have hn : its ≠ [] := fun e => hne (by
    rw [e] at hle
    exact List.eq_nil_of_length_eq_zero hle.symm)
  have hi : its.toArray.isEmpty = false := by
    cases its with
    | nil => exact absurd rfl hn
    | cons a b => rfl
  by_cases h1k : k = 1
  · subst h1k
    refine wpAny_binaryOp_repeat_ref (T := "tuple") (U := "int") (by decide) ⟨_, ho, rfl⟩ (fun s' => typeIs_int s' 1 t) noFill_tuple_mul F.fills_int_mul F.slot_int_rmul repeat_tuple F.slot_int_index.lookup
      (call_meets F.slot_int_rmul (typeIs_int s 1 t) F.entry_int_rmul (F.args_int_rmul_2 _ _) (int_rmul_tuple 1 t l its.toArray n dd sl)
        ⟨ho, rfl, ⟨_, ho, rfl⟩, call_meets F.slot_tuple_mul ⟨_, ho, rfl⟩ F.entry_tuple_mul (F.args_tuple_mul_2 _ _) (tuple_mulS l its.toArray n dd sl t) ⟨ho, ?_⟩⟩)
    exact ⟨.ref l, H, I, rfl, q1 rfl⟩
  · have hk0 : k = 0 := by omega
    subst hk0
    have c0 : (decide ((0 : Int) < -(2 ^ 63)) || decide ((0 : Int) ≥ 2 ^ 63)) = false := by decide
    have c1 : (its.toArray.isEmpty || (0 : Int) == 1) = false := by
      rw [hi]
      rfl
    have c2 : (decide ((0 : Int) ≤ 0) || its.toArray.isEmpty) = true := by
      rw [hi]
      rfl
    refine wpAny_binaryOp_repeat_ref (T := "tuple") (U := "int") (by decide) ⟨_, ho, rfl⟩ (fun s' => typeIs_int s' 0 t) noFill_tuple_mul F.fills_int_mul F.slot_int_rmul repeat_tuple F.slot_int_index.lookup
      (call_meets F.slot_int_rmul (typeIs_int s 0 t) F.entry_int_rmul (F.args_int_rmul_2 _ _) (int_rmul_tuple 0 t l its.toArray n dd sl)
        ⟨ho, rfl, ⟨_, ho, rfl⟩, call_meets F.slot_tuple_mul ⟨_, ho, rfl⟩ F.entry_tuple_mul (F.args_tuple_mul_2 _ _) (tuple_mulZ l its.toArray n dd sl 0 t c0 c1 c2) ⟨ho, ?_⟩⟩)
    refine ⟨.ref s.heap.objs.size, _, I.laid (t' := s.toks) (o := .tup []) (fun b ob q => Heap.get?_push_of_some _ q) (Nat.le_refl _) ?_, rfl, q2 h1k _ (I.hok.fresh (Nat.le_refl _))⟩
    exact ⟨Nat.zero_le _, [], .nil, IsTup.new _ _⟩
/-- a, a - 1 .. b + 1 -/
def rgD (a b : Int) : List V := (List.range (a - b).toNat).map fun i => V.int (a - (i : Nat))
theorem rgD_length (a b : Int) : (rgD a b).length = (a - b).toNat := by unfold rgD; rw [List.length_map, List.length_range]
theorem vals_rgD {a b : Int} {acc : Array Value} (h : ItemsOf (fun i v => ∃ t, v = .int (a + i * -1) t) acc (a - b).toNat) : Vals (rgD a b) acc.toList := by
  have e : acc.toList.length = (a - b).toNat := by rw [Array.length_toList]; exact h.1
  unfold rgD
  rw [← e]
  refine vals_of_get acc.toList _ fun j u hj => ?_
  obtain ⟨t, rfl⟩ := h.2 j u (by rw [← hj, Array.getElem?_toList])
  exact ⟨t, by congr 1; omega⟩
/-- an expression that makes a range downwards -/
def PRgD (X : Cx) (e : Expr) (t : L2.St → Hp → (Int → Int → Hp → Prop) → Prop) : Prop :=
  ∀ (pins : List (Addr × Obj)) (s : Shared) (σ : L2.St) (H : Hp) (Q : Int → Int → Hp → Prop), Inv X pins σ H s → t σ H Q →
    wpAny (model X.prog X.w) X.A (eval e X.env) (fun x s' => ∃ r a b t u v H', x = .ref r ∧ IsRange s'.heap r a b (-1) t u v ∧ Inv X pins σ H' s' ∧ Q a b H') X.xe s
def tRg3D (t : TA) : L2.St → Hp → (Int → Int → Hp → Prop) → Prop := fun σ H Q => t σ H fun xs H1 => ∃ i j, xs = [.int i, .int j, .int (-1)] ∧ Q i j H1
theorem prg_3D {e : Expr} {es : List Expr} {t : TA} {p pos : Pos} (hg : Gl X "range") (hm : X.mg "range" = none) (ha : PA X (e :: es) t)
    (he : starEach (e :: es) X.env = (false, eval e X.env) :: starEach es X.env := by rfl) (hpl : (backTo pos (starEach es X.env)).any (·.1) = false := by rfl) : PRgD X (.Call (.Name "range" p) (e :: es) [] pos) (tRg3D t) := by
  intro pins s σ H Q I h
  refine wpAny_Call_Name_kw (ld_blt I hg hm boot_range ?_)
  refine PyProof.Rows.callWith_type1 (thn (ha.run pos pins s σ H _ I h) fun us s1 ⟨vs, H1, I1, r1, q1⟩ => ?_) he hpl
  obtain ⟨i, j, rfl, q⟩ := q1
  obtain ⟨u1, us1, rfl, r2, r3⟩ : ∃ u1 us1, us = u1 :: us1 ∧ RelV (.int i) u1 ∧ Vals [.int j, .int (-1)] us1 := by cases r1 with | cons a b => exact ⟨_, _, rfl, a, b⟩
  obtain ⟨u2, u3, rfl, r4, r5⟩ := vals2 r3
  obtain ⟨t1, rfl⟩ := r2
  obtain ⟨t2, rfl⟩ := r4
  obtain ⟨t3, rfl⟩ := r5
  exact call_range_3 (by decide) ⟨_, i, j, _, _, _, H1, rfl, IsRange.new _ _ _ _ _ _ _, I1.kept fun b u e => Heap.get?_push_of_some _ e, q⟩ (.inl (PyProof.noPylong_small (by decide)))
def tLstRg3 (t : TA) : TE := fun σ H Q => tRg3D t σ H fun a b H1 => RgOk b a ∧ ∀ q, H1 q = none → Q (.ref q) (upd H1 q (.lst (rgD a b)))
def tTupRg3 (t : TA) : TE := fun σ H Q => tRg3D t σ H fun a b H1 => RgOk b a ∧ ∀ q, H1 q = none → Q (.ref q) (upd H1 q (.tup (rgD a b)))
theorem pe_listRg3 {e : Expr} {es : List Expr} {t : TA} {p2 pos2 p pos : Pos} (hc : X.calm = true) (hg : Gl X "list") (hm : X.mg "list" = none) (hg2 : Gl X "range") (hm2 : X.mg "range" = none) (ha : PA X (e :: es) t)
    (he : starEach (e :: es) X.env = (false, eval e X.env) :: starEach es X.env := by rfl) (hpl : (backTo pos2 (starEach es X.env)).any (·.1) = false := by rfl)
    (na : starEach [.Call (.Name "range" p2) (e :: es) [] pos2] X.env = (false, eval (.Call (.Name "range" p2) (e :: es) [] pos2) X.env) :: starEach [] X.env := by rfl) : PE X (.Call (.Name "list" p) [.Call (.Name "range" p2) (e :: es) [] pos2] [] pos) (tLstRg3 t) := by
  refine ⟨fun pins s σ H Q I h => ?_⟩
  refine Call_ (ld_blt I hg hm boot_list (PyProof.Rows.callWith_type1 (args_cons (thn (prg_3D hg2 hm2 ha he hpl pins s σ H _ I h) fun x s1 ⟨r, a, b, t, u, v, H1, ex, hr, I1, ok, q⟩ => args_nil ?_) na) na))
  subst ex
  obtain ⟨b1, b2, b3, b4, b5⟩ := ok
  refine call_list_range (n := (a - b).toNat) (I1.ok.hd hc) hr (PySem.W.small_down b3 b4 b1 b2) (PySem.W.rangeSize_downNat a b) b5 fun h' tk acc c' hk e' hi => ?_
  refine ⟨.ref s1.heap.objs.size, upd H1 s1.heap.objs.size (.lst (rgD a b)), I1.laid hk (Nat.le_refl _) (show ObjOk X.prog X.w _ _ _ (.lst (rgD a b)) from ⟨?_, acc.toList, c', vals_rgD hi, ?_⟩), rfl, q _ (I1.hok.fresh (Nat.le_refl _))⟩
  · rw [rgD_length, sizeLine_eq]; omega
  · rw [Array.toArray_toList]; exact e'
theorem pe_tupRg3 {e : Expr} {es : List Expr} {t : TA} {p2 pos2 p pos : Pos} (hc : X.calm = true) (hg : Gl X "tuple") (hm : X.mg "tuple" = none) (hg2 : Gl X "range") (hm2 : X.mg "range" = none) (ha : PA X (e :: es) t)
    (he : starEach (e :: es) X.env = (false, eval e X.env) :: starEach es X.env := by rfl) (hpl : (backTo pos2 (starEach es X.env)).any (·.1) = false := by rfl)
    (na : starEach [.Call (.Name "range" p2) (e :: es) [] pos2] X.env = (false, eval (.Call (.Name "range" p2) (e :: es) [] pos2) X.env) :: starEach [] X.env := by rfl) : PE X (.Call (.Name "tuple" p) [.Call (.Name "range" p2) (e :: es) [] pos2] [] pos) (tTupRg3 t) := by
  refine ⟨fun pins s σ H Q I h => ?_⟩
  refine Call_ (ld_blt I hg hm boot_tuple (PyProof.Rows.callWith_type1 (args_cons (thn (prg_3D hg2 hm2 ha he hpl pins s σ H _ I h) fun x s1 ⟨r, a, b, t, u, v, H1, ex, hr, I1, ok, q⟩ => args_nil ?_) na) na))
  subst ex
  obtain ⟨b1, b2, b3, b4, b5⟩ := ok
  refine call_tuple_range (n := (a - b).toNat) (I1.ok.hd hc) hr (PySem.W.small_down b3 b4 b1 b2) (PySem.W.rangeSize_downNat a b) b5 fun h' tk acc hk hi => ?_
  have I2 : Inv X pins σ H1 { s1 with heap := h', toks := tk } := I1.kept hk
  refine ⟨.ref h'.objs.size, upd H1 h'.objs.size (.tup (rgD a b)), I2.laid (t' := tk) (fun c o e => Heap.get?_push_of_some _ e) (Nat.le_refl _) (show ObjOk X.prog X.w _ _ _ (.tup (rgD a b)) from ⟨?_, acc.toList, vals_rgD hi, ?_⟩), rfl, q _ (I2.hok.fresh (Nat.le_refl _))⟩
  · rw [rgD_length, sizeLine_eq]; omega
  · rw [Array.toArray_toList]; exact IsTup.new _ _
end

/-! ### list + list, whatever lists -/
theorem list_addW (l : Addr) (items : Array Value) (n : Nat) (dd : Option Addr) (sl : Array (Option Value)) (b : Addr) (items2 : Array Value) (n2 : Nat) (dd2 : Option Addr) (sl2 : Array (Option Value)) (hc0 : items.size + items2.size ≤ sizeLine) :
    Meets (Builtin.«list.__add__» ⟨[.ref l, .ref b], []⟩) (fun _ R s => s.heap.get? l = some { cls := .type "list", dict := dd, data := .seq items n, slots := sl } ∧ s.heap.get? b = some { cls := .type "list", dict := dd2, data := .seq items2 n2, slots := sl2 } ∧
      R (.ok (.ret (Value.ref s.heap.objs.size))) { s with heap := s.heap.push { cls := Value.type "list", data := Data.seq (items ++ items2) }, toks := s.toks }) :=
  .of_wp fun prog w A R s h => by
    obtain ⟨hp, g, d, tk, os⟩ := s
    obtain ⟨hl, hb, h⟩ := h
    have f1 := AutoSeq1.idx_int
    have f2 := AutoSeq1.sub_tuple_tuple
    have f3 := AutoSeq1.sub_list_list
    have f4 := AutoSeq1.sub_tuple_list
    have f5 := AutoSeq1.sub_list_tuple
    wp_walk using wpAny_loadPart' hl, wpAny_loadPart' hb
    exact ⟨_, rfl, h⟩
def rCatS (K : PySem.W.Frag) : R2 := fun x y H Q => ∃ l b xs zs, x = .ref l ∧ y = .ref b ∧ SqL K H l xs ∧ SqL K H b zs ∧ xs.length + zs.length ≤ sizeLine ∧ ∀ p, H p = none → Q (.ref p) (upd H p (.lst (xs ++ zs)))
theorem op_catS {X : Cx} : OpR X (binaryOp .Add) (rCatS X.K) := by
  intro pins s σ H x y v u Q I rx ry h
  obtain ⟨l, b, xs, zs, rfl, rfl, hH, hB, hz, q⟩ := h
  cases rx
  cases ry
  obtain ⟨its, r, ⟨⟨c1, d1, t1, sl1⟩, n, e, g1, g2, g3⟩, z⟩ := I.list hH
  obtain ⟨its2, r2, ⟨⟨c2, d2, t2, sl2⟩, n2, e2, k1, k2, k3⟩, z2⟩ := I.list hB
  simp only at g1 g2 g3 k1 k2 k3
  subst g1 g2 g3 k1 k2 k3
  have h1 := r.length
  have h2 := r2.length
  refine concat_meets ⟨_, e, rfl⟩ ⟨_, e2, rfl⟩ noFill_list_add seq_list_add F.slot_list_add F.entry_list_add (F.args_list_add_2 _ _) (list_addW l its.toArray n none sl1 b its2.toArray n2 none sl2 (by rw [List.size_toArray, List.size_toArray]; omega)) ⟨e, e2, ?_⟩
  have ea : its.toArray ++ its2.toArray = (its ++ its2).toArray := by simp
  rw [ea]
  exact ⟨.ref _, _, I.lnew (t' := s.toks) (r.append r2) (by rw [List.length_append]; omega), rfl, q _ I.fresh⟩

/-! ### sorted, min, max of a tuple of whole numbers; slices, sums of tuples with one answer -/
def rSortedT (K : PySem.W.Frag) : List V → Hp → VK → Prop := fun vs H Q => ∃ (a : Addr) (ns : List Int), vs = [V.ref a] ∧ SqT K H a (ns.map V.int) ∧
  ∀ (ns' : List Int) (p : Addr), ns'.Perm ns → ns'.Pairwise (· ≤ ·) → H p = none → Q (.ref p) (upd H p (.lst (ns'.map V.int)))
def rMinT (K : PySem.W.Frag) : List V → Hp → VK → Prop := fun vs H Q => ∃ (a : Addr) (ns : List Int), vs = [V.ref a] ∧ SqT K H a (ns.map V.int) ∧ 0 < ns.length ∧ ∀ m, m ∈ ns → (∀ y, y ∈ ns → m ≤ y) → Q (.int m) H
def rMaxT (K : PySem.W.Frag) : List V → Hp → VK → Prop := fun vs H Q => ∃ (a : Addr) (ns : List Int), vs = [V.ref a] ∧ SqT K H a (ns.map V.int) ∧ 0 < ns.length ∧ ∀ m, m ∈ ns → (∀ y, y ∈ ns → y ≤ m) → Q (.int m) H
theorem maxOf_int : ∀ (ys : List Int) (y : Int), PySem.W.maxOf y ys ∈ y :: ys ∧ ∀ z ∈ y :: ys, z ≤ PySem.W.maxOf y ys
  | [], y => ⟨List.mem_singleton.mpr rfl, fun z hz => by rw [List.mem_singleton.mp hz]; exact Int.le_refl _⟩
  | x :: r, y => by
    have e : PySem.W.maxOf y (x :: r) = PySem.W.maxOf (if y < x then x else y) r := by
      show PySem.W.maxOf (if (decide (y < x)) = true then x else y) r = _
      by_cases h : y < x <;> simp [h]
    obtain ⟨h1, h2⟩ := maxOf_int r (if y < x then x else y)
    rw [e]
    refine ⟨?_, fun z hz => ?_⟩
    · rcases List.mem_cons.mp h1 with k | k
      · rw [k]
        by_cases h : y < x <;> simp [h]
      · simp [k]
    · have hc := h2 _ (List.mem_cons_self)
      rcases List.mem_cons.mp hz with k | k
      · subst k
        by_cases h : z < x
        · rw [if_pos h] at hc ⊢
          omega
        · rw [if_neg h] at hc ⊢
          exact hc
      · rcases List.mem_cons.mp k with k | k
        · subst k
          by_cases h : y < z
          · rw [if_pos h] at hc ⊢
            exact hc
          · rw [if_neg h] at hc ⊢
            omega
        · exact h2 z (List.mem_cons_of_mem _ k)
section
variable {X : Cx}
theorem cr_sortedT : CallR X (.builtin "sorted") (rSortedT X.K) := by
  intro pins s σ H vs us Q I r h
  obtain ⟨a, ns, rfl, hs, q⟩ := h
  obtain ⟨its, rv, ⟨o, ho, hc, n, hd⟩, hz⟩ := I.tuple hs
  rw [Vals.ref1 r]
  have hi := rv.ints
  have hlen0 : its.length ≤ sizeLine := by rw [← rv.length]; exact hz
  refine Calls.call_function_entry kind_sorted plain_sorted entry_sorted (args_sorted1 _) ?_
  unfold Builtin.«sorted»
  refine wpAny_bind (m := checkCount "sorted" 1 1 _) (wpAny_pure ?_)
  refine wpAny_bind (wpAny_collect_seq a (.inr rfl) ho hc hd (fun h1 k1 => ?_) (by rw [List.size_toArray]; exact hlen0))
  have I1 : Inv X pins σ H { s with heap := h1 } := I.kept (t' := s.toks) k1
  refine wpAny_bind (wpAny_newList ?_ hlen0)
  have hoL : (h1.push (seqObj "list" its.toArray 0)).get? h1.objs.size = some (seqObj "list" its.toArray 0) := Heap.get?_push_size _ rfl
  refine wpAny_bind (wpAny_holding (wpAny_call_entry slot_list_sort ⟨_, hoL, rfl⟩ entry_list_sort (SrtO.list_sort_ord SrtO.swo_int hoL hlen0 (fun h2 => SrtO.ints_sortable hi h2) fun out h3 h4 => ⟨_, rfl, ?_⟩) (args_list_sort _)))
  obtain ⟨j1, j2, j3⟩ := SrtO.ints_out hi h3 h4
  obtain ⟨ep, he'⟩ := PyProof.Rows.sortedHeap_at (vs := its) (out := out.toArray) hoL
  have hlen : ((out.map SrtO.iv).map V.int).length ≤ sizeLine := by
    rw [List.length_map, j2.length_eq]
    rw [List.length_map] at hz
    exact hz
  refine wpAny_pure ⟨_, rfl, ?_⟩
  refine ⟨.ref h1.objs.size, upd H h1.objs.size (.lst ((out.map SrtO.iv).map V.int)), I1.laid (t' := s.toks) (fun b u hb => ?_) (Nat.le_refl _) ⟨hlen, out, ep, vals_of_ints j1, he'⟩, rfl, q _ _ j2 j3 (I1.hok.fresh (Nat.le_refl _))⟩
  have hlt : b < h1.objs.size := Heap.lt_size hb
  rw [PyProof.Rows.sortedHeap_old (Nat.ne_of_lt hlt) (Heap.lt_size (Heap.get?_push_of_some _ hb))]
  exact Heap.get?_push_of_some _ hb
theorem cr_minT (hc : X.calm = true) (hu : X.A.units + 64 < cLine) : CallR X (.builtin "min") (rMinT X.K) := by
  intro pins s σ H vs us Q I r h
  obtain ⟨p, ns, rfl, hs, hne, q⟩ := h
  obtain ⟨its, rv, hl, _⟩ := I.tuple hs
  rw [Vals.ref1 r]
  obtain ⟨as, ra⟩ := Dp.readsAll I (ns.map PyData.int) _ its (dp_ints ns) rv
  cases ns with
  | nil => cases hne
  | cons x xs =>
    have HA : PySem.W.HoldAll s.heap its.toArray.toList (x :: xs) := ⟨as, ra⟩
    refine PySem.W.min_tuple_datum (I.ok.hd hc) hl HA (by show X.A.units + 1 + PySem.W.Datum.depth Int < cLine; have e : PySem.W.Datum.depth Int = 0 := rfl; rw [e]; omega) fun i v h' tk hi hv hk => ?_
    obtain ⟨as2, r2⟩ := hv
    have hi' : its[i]? = some v := by simpa using hi
    have hlen := rv.length
    have hlt : i < ((x :: xs).map V.int).length := by rw [hlen]; exact (List.getElem?_eq_some_iff.mp hi').1
    obtain ⟨u, hu1, hu2⟩ := rv.get (List.getElem?_eq_getElem hlt)
    rw [hi'] at hu1
    cases hu1
    obtain ⟨z, hz, ez⟩ := item_of0 (List.getElem?_eq_getElem hlt)
    rw [ez] at hu2
    obtain ⟨t, rfl⟩ := hu2
    have em : PySem.W.minOf x xs = z := by
      have r2' : Reads h' (.int z t) (.int (PySem.W.minOf x xs)) as2 := r2
      cases r2'
      rfl
    obtain ⟨m1, m2⟩ := minOf_int xs x
    rw [em] at m1 m2
    exact ⟨.int z, H, I.kept hk, ⟨_, rfl⟩, q z m1 m2⟩
theorem cr_maxT (hc : X.calm = true) (hu : X.A.units + 64 < cLine) : CallR X (.builtin "max") (rMaxT X.K) := by
  intro pins s σ H vs us Q I r h
  obtain ⟨p, ns, rfl, hs, hne, q⟩ := h
  obtain ⟨its, rv, hl, _⟩ := I.tuple hs
  rw [Vals.ref1 r]
  obtain ⟨as, ra⟩ := Dp.readsAll I (ns.map PyData.int) _ its (dp_ints ns) rv
  cases ns with
  | nil => cases hne
  | cons x xs =>
    have HA : PySem.W.HoldAll s.heap its.toArray.toList (x :: xs) := ⟨as, ra⟩
    refine PySem.W.max_tuple_datum (I.ok.hd hc) hl HA (by show X.A.units + 1 + PySem.W.Datum.depth Int < cLine; have e : PySem.W.Datum.depth Int = 0 := rfl; rw [e]; omega) fun i v h' tk hi hv hk => ?_
    obtain ⟨as2, r2⟩ := hv
    have hi' : its[i]? = some v := by simpa using hi
    have hlen := rv.length
    have hlt : i < ((x :: xs).map V.int).length := by rw [hlen]; exact (List.getElem?_eq_some_iff.mp hi').1
    obtain ⟨u, hu1, hu2⟩ := rv.get (List.getElem?_eq_getElem hlt)
    rw [hi'] at hu1
    cases hu1
    obtain ⟨z, hz, ez⟩ := item_of0 (List.getElem?_eq_getElem hlt)
    rw [ez] at hu2
    obtain ⟨t, rfl⟩ := hu2
    have em : PySem.W.maxOf x xs = z := by
      have r2' : Reads h' (.int z t) (.int (PySem.W.maxOf x xs)) as2 := r2
      cases r2'
      rfl
    obtain ⟨m1, m2⟩ := maxOf_int xs x
    rw [em] at m1 m2
    exact ⟨.int z, H, I.kept hk, ⟨_, rfl⟩, q z m1 m2⟩
end
/-- t[lo:hi] -/
theorem slA_of {K : PySem.W.Frag} {a : Addr} {xs : List V} {lo hi : Option Int} {H : Hp} {Q : VK} (h : SqT K H a xs) (q : ∀ (l : Addr) (H' : Hp), Same H H' → SqT K H' l (cutV xs lo hi) → Q (.ref l) H') : rSlA K (.ref a) lo hi H Q := by
  refine ⟨a, xs, rfl, h, fun e => q a H (Same.refl _) ?_, fun _ p np => q p _ (same_new np) (sqT_of upd_same)⟩
  have ec : cutV xs lo hi = xs := by
    unfold cutV
    rw [e.1, e.2, List.drop_zero, Nat.sub_zero, List.take_of_length_le (Nat.le_refl _)]
  rw [ec]
  exact h
/-- t + u -/
theorem catA_of {K : PySem.W.Frag} {a b : Addr} {xs ys : List V} {H : Hp} {Q : VK} (ha : SqT K H a xs) (hb : SqT K H b ys) (hz : xs.length + ys.length ≤ 1000) (q : ∀ (l : Addr) (H' : Hp), Same H H' → SqT K H' l (xs ++ ys) → Q (.ref l) H') : rCatA K (.ref a) (.ref b) H Q := by
  refine ⟨a, b, xs, ys, rfl, rfl, ha, hb, Nat.le_of_lt (small1000 hz), fun e => q b H (Same.refl _) ?_, fun _ e => q a H (Same.refl _) ?_, fun _ _ p np => q p _ (same_new np) (sqT_of upd_same)⟩
  · rw [e]
    exact hb
  · rw [e, List.append_nil]
    exact ha
/-- t + u, with u (or t, if u is empty) an own one -/
theorem catX_of {K : PySem.W.Frag} {a b : Addr} {xs ys : List V} {H : Hp} {Q : VK} (ha : SqT K H a xs) (hb : H b = some (.tup ys)) (hne : ys ≠ [] ∨ H a = some (.tup xs)) (hz : xs.length + ys.length ≤ 1000) (q : ∀ (l : Addr) (H' : Hp), Same H H' → H' l = some (.tup (xs ++ ys)) → Q (.ref l) H') : rCatA K (.ref a) (.ref b) H Q := by
  refine ⟨a, b, xs, ys, rfl, rfl, ha, sqT_of hb, Nat.le_of_lt (small1000 hz), fun e => q b H (Same.refl _) ?_, fun _ e => q a H (Same.refl _) ?_, fun _ _ p np => q p _ (same_new np) upd_same⟩
  · rw [e]
    exact hb
  · rcases hne with h | h
    · exact absurd e h
    · rw [e, List.append_nil]
      exact h

/-! ### t[::-1] of a tuple; for over enumerate -/
theorem sliceApplied_rev {prog : Program} {w : World} {A : Around} {E : Value → Shared → Prop} {s : Shared} {sl : Addr} {vl vu vs : Value} {n : Nat} {Q : Int × Int × Nat → Shared → Prop} (hs : s.heap.IsSliceOf sl vl vu vs) (pl : IsPart vl none) (pu : IsPart vu none) (ps : IsPart vs (some (-1)))
    (h : Q ((n : Int) - 1, -1, n) s) : wpAny (model prog w) A (Builtin.Slice.sliceApplied (.ref sl) (pure (n : Int))) Q E s := by
  obtain ⟨os, hos, hcs, hds⟩ := id hs
  unfold Builtin.Slice.sliceApplied Builtin.Slice.sliceFields
  refine wpAny_bind (wpAny_bind (wpAny_field hos hds (x := vl) rfl (wpAny_bind (wpAny_field hos hds (x := vu) rfl (wpAny_bind (wpAny_field hos hds (x := vs) rfl (wpAny_pure ?_)))))))
  refine wpAny_bind (HT.slicePart_ ps ?_)
  show wpAny _ _ (if ((-1 : Int) == 0) = true then _ else _) _ _ s
  rw [if_neg (by decide)]
  refine wpAny_bind (HT.slicePart_ pl (wpAny_bind (HT.slicePart_ pu (wpAny_bind (wpAny_pure ?_)))))
  have e1 : Builtin.Slice.sliceAdjust none none (-1) (n : Int) = ((n : Int) - 1, -1) := rfl
  show wpAny _ _ (match Builtin.Slice.sliceAdjust none none (-1) (n : Int) with | (lo, hi) => pure (lo, (-1 : Int), Builtin.Slice.slicePlaces lo hi (-1))) _ _ s
  rw [e1]
  show wpAny _ _ (pure ((n : Int) - 1, (-1 : Int), Builtin.Slice.slicePlaces ((n : Int) - 1) (-1) (-1))) _ _ s
  have e2 : Builtin.Slice.slicePlaces ((n : Int) - 1) (-1) (-1) = n := by
    unfold Builtin.Slice.slicePlaces
    rw [if_neg (by decide)]
    have e3 : (-(-1) : Int) = 1 := rfl
    rw [e3, Int.ediv_one]
    split <;> omega
  rw [e2]
  exact wpAny_pure h
theorem rev_pick0 (l : List Value) : ∀ k, k ≤ l.length → (List.range k).filterMap (fun (m : Nat) => l[l.length - 1 - m]?) = l.reverse.take k
  | 0, _ => rfl
  | k + 1, h => by
    rw [List.range_succ, List.filterMap_append, rev_pick0 l k (by omega), List.take_add_one, List.getElem?_reverse (by omega)]
    have h1 : l[l.length - 1 - k]? = some (l[l.length - 1 - k]'(by omega)) := List.getElem?_eq_getElem _
    rw [h1]
    congr 1
    simp [List.filterMap_cons, h1]
theorem rev_pick (xs : Array Value) : ((List.range xs.size).filterMap fun (m : Nat) => xs[((xs.size : Int) - 1 + (m : Int) * -1).toNat]?).toArray = xs.toList.reverse.toArray := by
  have e : (fun (m : Nat) => xs[((xs.size : Int) - 1 + (m : Int) * -1).toNat]?) = fun m => xs.toList[xs.size - 1 - m]? := by
    funext m
    rw [show ((xs.size : Int) - 1 + (m : Int) * -1).toNat = xs.size - 1 - m by omega, Array.getElem?_toList]
  rw [e]
  have := rev_pick0 xs.toList xs.toList.length (Nat.le_refl _)
  rw [Array.length_toList] at this
  rw [this, List.take_of_length_le (by rw [List.length_reverse, Array.length_toList]; exact Nat.le_refl _)]
theorem getItem_tuple_rev {prog : Program} {w : World} {A : Around} {E : Value → Shared → Prop} {s : Shared} {t sl : Addr} {items : Array Value} {vl vu vs : Value} {Q : Value → Shared → Prop} (ht : IsTup s.heap t items) (hs : s.heap.IsSliceOf sl vl vu vs) (pl : IsPart vl none) (pu : IsPart vu none) (ps : IsPart vs (some (-1)))
    (h : Q (.ref s.heap.objs.size) { s with heap := s.heap.push { cls := .type "tuple", data := .seq items.toList.reverse.toArray } })
    (hsz : items.size ≤ sizeLine) : wpAny (model prog w) A (getItem (.ref t) (.ref sl)) Q E s := by
  obtain ⟨os, hos, hcs, hds⟩ := id hs
  have hTs : s.TypeIs (.ref sl) "slice" := ⟨os, hos, hcs⟩
  unfold getItem
  try with_reducible refine wpAny_holding ?_
  first | refine wpAny_bind (wpAny_pure ?_) | skip
  refine wpAny_bind (wpAny_sequenceKey ht.typeIs (by decide) ?_)
  refine wpAny_bind (wpAny_callSpecial?_slot (name := Str.ofString "__getitem__") ht.typeIs PyProof.Rows.slot_tuple_getitem
    (wpAny_call_entry PyProof.Rows.slot_tuple_getitem ht.typeIs entry_tuple_getitem ?_ (args_tuple_getitem _ _)))
  show wpAny _ _ (Builtin.Tuple.tupleItemsOf (.ref t) >>= _) _ _ s
  refine wpAny_bind (tupleItemsOf_ ht ?_)
  refine wpAny_bind (wpAny_typeOf hTs ?_)
  rw [if_pos (by decide)]
  refine wpAny_bind (sliceApplied_rev hs pl pu ps ?_)
  show wpAny _ _ (if (((items.size : Int) - 1) == 0 && (-1 : Int) == 1 && items.size == items.size) = true then _ else _) _ _ s
  have hno : ¬ ((((items.size : Int) - 1) == 0 && (-1 : Int) == 1 && items.size == items.size) = true) := by
    intro q
    rw [Bool.and_eq_true, Bool.and_eq_true] at q
    have := q.1.2
    revert this
    decide
  rw [if_neg hno, rev_pick]
  have htake : sizeOk (.seq items.toList.reverse.toArray) := by
    show items.toList.reverse.toArray.size ≤ sizeLine
    rw [List.size_toArray, List.length_reverse, Array.length_toList]
    exact hsz
  first
    | exact wpAny_bind (m := Builtin.Tuple.tupleExact _) (wpAny_newObj_type (wpAny_pure ⟨_, rfl, wpAny_pure h⟩) htake)
    | exact wpAny_bind (m := Builtin.Tuple.tupleExact _) (wpAny_newObj_type (wpAny_bind (wpAny_pure (wpAny_pure ⟨_, rfl, wpAny_pure h⟩))) htake)
    | exact wpAny_bind (wpAny_bind (m := Builtin.Tuple.tupleExact _) (wpAny_newObj_type (wpAny_pure ⟨_, rfl, wpAny_pure h⟩) htake))
def tRevT (K : PySem.W.Frag) (te : TE) : TE := fun σ H Q => te σ H fun x H1 => ∃ a xs, x = .ref a ∧ SqT K H1 a xs ∧ ∀ p, H1 p = none → Q (.ref p) (upd H1 p (.tup xs.reverse))
theorem pe_revT {X : Cx} {e : Expr} {te : TE} {k : Nat} {p1 p2 p3 pos : Pos} (he : PE X e te) : PE X (.Subscript e (.Slice none none (some (.UnaryOp .USub (.Constant (.int 1) k p1) p2)) p3) pos) (tRevT X.K te) := by
  refine ⟨fun pins s σ H Q I h => ?_⟩
  refine Subscript_ (thn (he.run pins s σ H _ I h) fun v s1 ⟨x, H1, I1, r1, q1⟩ => ?_)
  obtain ⟨a, xs, ex, hx, q⟩ := q1
  subst ex
  cases r1
  have hst : PO X (some (.UnaryOp .USub (.Constant (.int 1) k p1) p2)) (tPart (tUn (rU fun i => .int (-i)) (tC (.int 1)))) := po_some (pe_un un_neg pe_int)
  refine wpAny_Slice (thn (po_none.run pins s1 σ H1 (fun o H2 => o = none ∧ H2 = H1) I1 ⟨rfl, rfl⟩) fun vl s2 ⟨l, H2, I2, pl, el, e2⟩ => ?_)
  subst el e2
  refine thn (po_none.run pins s2 σ H2 (fun o H3 => o = none ∧ H3 = H2) I2 ⟨rfl, rfl⟩) fun vu s3 ⟨u, H3, I3, pu, eu, e3⟩ => ?_
  subst eu e3
  refine thn (hst.run pins s3 σ H3 (fun o H4 => o = some (-1) ∧ H4 = H3) I3 ⟨1, rfl, -1, rfl, rfl, rfl⟩) fun vs s4 ⟨o, H4, I4, ps, eo, e4⟩ => ?_
  subst eo e4
  have I5 : Inv X pins σ H4 { s4 with heap := s4.heap.push { cls := .type "slice", data := .fields #[vl, vu, vs] } } := I4.kept (t' := s4.toks) fun b ob q => Heap.get?_push_of_some _ q
  obtain ⟨its, r, ht, hz⟩ := I5.tuple hx
  have hlen := r.length
  show wpAny (model X.prog X.w) X.A (subscriptTail e (.Slice none none (some (.UnaryOp .USub (.Constant (.int 1) k p1) p2)) p3) (.ref a) (.ref s4.heap.objs.size)) (EP X pins σ Q) X.xe { s4 with heap := s4.heap.push { cls := .type "slice", data := .fields #[vl, vu, vs] } }
  refine tail_any (ops := [.ref a, .ref s4.heap.objs.size]) ht.typeIs (PyProof.Rows.slot_tuple_getitem.lookup) ?_ (by with_unfolding_all rfl)
  refine getItem_tuple_rev ht (Heap.IsSliceOf.new _ vl vu vs) pl pu ps ?_ (by rw [List.size_toArray]; omega)
  refine ⟨.ref _, _, I5.laid (t' := s4.toks) (o := .tup xs.reverse) (fun b ob q => Heap.get?_push_of_some _ q) (Nat.le_refl _) ?_, rfl, q _ (I5.hok.fresh (Nat.le_refl _))⟩
  exact ⟨by rw [List.length_reverse]; exact hz, _, r.reverse, IsTup.new _ _⟩

/-! ### try: .. except C as e: kept = e: the caught one stays known by its class -/
def ExK (cls : Value) (d : Option Addr) (a : Addr) : HO := .ext fun h => ∃ (oe : Obj) (vs : Array Value), h.get? a = some oe ∧ Zc cls d oe ∧ oe.data = .fields vs
theorem exK_ok {P : Program} {w : World} {H : Hp} {h : Heap} {a : Addr} {cls : Value} {d : Option Addr} {oe : Obj} {vs : Array Value} (e : h.get? a = some oe) (z : Zc cls d oe) (dd : oe.data = .fields vs) : ObjOk P w H h a (ExK cls d a) :=
  ⟨⟨oe, vs, e, z, dd⟩, ⟨oe, e⟩, fun _ _ ⟨o, v, q, r⟩ k => ⟨o, v, k o q, r⟩⟩
section
variable {X : Cx} {pins : List (Addr × Obj)} {σ : L2.St} {H : Hp} {s : Shared}
/-- a pinned exception that came behind the entry becomes tracked -/
theorem keep_exc {a : Addr} {oe : Obj} {vs : Array Value} {cls : Value} {d : Option Addr} (J : Inv X ((a, oe) :: pins) σ H s) (z : Zc cls d oe) (dd : oe.data = .fields vs) (h0 : X.s_0.heap.get? a = none) (np : ∀ p ∈ X.pn ++ pins, p.1 ≠ a) : Inv X pins σ (upd H a (ExK cls d a)) s := by
  obtain ⟨ea, na, nL, nF, nc⟩ := J.pin (a, oe) (List.mem_append_right _ List.mem_cons_self)
  have ne : ∀ {b : Addr} {o : HO}, H b = some o → b ≠ a := fun e q => by
    rw [q] at e
    have na' : H a = none := na
    rw [na'] at e
    cases e
  refine ⟨J.ok, J.os, J.bare, ⟨J.base.keep, J.base.slot, fun b o e n hx => ?_, J.base.there, fun b xs e => ?_, fun b o u e => ?_, fun b ps e => ?_⟩, J.loc, J.cell, ?_, fun x c e => ?_, fun p hp => ?_, fun b o e => ?_, J.len⟩
  · have hb : b ≠ a := fun q => by
      rw [q, h0] at e
      cases e
    rw [upd_ne hb]
    exact J.base.free b o e n hx
  · have e2 := J.base.tups b xs e
    rw [upd_ne (ne e2)]
    exact e2
  · have e2 := J.base.frzs b o u e
    rw [upd_ne (ne e2)]
    exact e2
  · obtain ⟨more, e2⟩ := J.base.tbls b ps e
    refine ⟨more, ?_⟩
    rw [upd_ne (ne e2)]
    exact e2
  · rw [upd_ne (fun q => nL q.symm)]
    exact J.free
  · have hc : c ≠ a := fun q => by
      obtain ⟨v, o, e1, e2⟩ := J.cell x c e
      rw [q] at e1
      have ea' : s.heap.get? a = some oe := ea
      rw [ea'] at e1
      cases e1
      rw [dd] at e2
      cases e2
    rw [upd_ne hc]
    exact J.freeC x c e
  · have hp' : p ∈ X.pn ++ (a, oe) :: pins := by
      rcases List.mem_append.mp hp with k | k
      · exact List.mem_append_left _ k
      · exact List.mem_append_right _ (List.mem_cons_of_mem _ k)
    obtain ⟨q1, q2, q3, q4, q5⟩ := J.pin p hp'
    exact ⟨q1, by rw [upd_ne (np p hp)]; exact q2, q3, q4, q5⟩
  · by_cases hb : b = a
    · subst hb
      rw [upd_same] at e
      cases e
      exact exK_ok ea z dd
    · rw [upd_ne hb] at e
      refine (J.hok b o e).stay (fun c u _ q => q) (fun c q => ?_) fun c xs q => ?_
      · rw [upd_ne (ne q)]
        exact q
      · rw [upd_ne (ne q)]
        exact q
end
/-- what the clause wishes of an exception of the body: it is caught, kept in slot j; the clause's own name, slot i, is empty behind it -/
def wKeep (K : PySem.W.Frag) (c : Addr) (i j : Nat) (D : Ends) : WX := fun cls d σ H =>
  PySem.W.exmOne K cls (.ref c) = some true ∧ ∀ a, H a = none → D.nx (((σ.set i (some (.ref a))).set j (some (.ref a))).set i none) (upd H a (ExK cls d a))
def tTryKeep (K : PySem.W.Frag) (c : Addr) (i j : Nat) (tb : WX → TS) : TS := fun D σ H => tb (wKeep K c i j D) D σ H
section
variable {X : Cx} {x n : Str} {c : Addr} {i j : Nat} {body suite : List Stmt} {b1 : Stmt} {np pos pos' : Pos} {tb : WX → TS}
/-- an exception caught, its clause ended, it is tracked -/
theorem caught_kept {a : Addr} {pins : List (Addr × Obj)} {σ : L2.St} {H : Hp} {B : Heap} {sI s' : Shared} {cls : Value} {d : Option Addr} {D : Ends}
    (hs : X.stack = X.env :: X.outer) (hf : X.env.frame = some X.env.locals) (hex : X.ex = []) (hN : X.N.Nodup) (hi : X.N[i]? = some n) (hln : X.env.kindOf n = some .local) (hc : Names X x (.ref c)) (ok : X.Ok)
    (hsu : ∀ (a : Addr) (oe : Obj) (cls : Value) (d : Option Addr) (pn : List (Addr × Obj)), Zc cls d oe → (∃ vs, oe.data = .fields vs) → PSs (X.suite a ((a, oe) :: pn)) (b1 :: suite) (tAsg (tVar i) (gName j)))
    (hln2 : i < σ.length)
    (J : Inv X pins σ H sI) (nb : ∀ b o, sI.heap.get? b = some o → b ∉ frs X.stack → B.get? b = some o) (up : sI.heap.UpToSlots s'.heap) (sky : Sky B X.stack a (Zc cls d) X.env.locals s'.heap) (na : H a = none) (os : s'.os = sI.os) (ag : AllBare s'.gens)
    (w : wKeep X.K c i j D cls d σ H) :
    wpAny (model X.prog X.w) X.A (noteFrame (.ref a) X.env) (fun _ s₂ => wpAny (model X.prog X.w) X.A (setFlight (.ref a) none) (fun _ s₃ =>
      wpAny (model X.prog X.w) X.A (handleBy (.ref a) X.env [.ExceptHandler (some (.Name x np)) (some n) (b1 :: suite) pos']) (SP X pins D) X.xe s₃) X.xe s₂) X.xe s' := by
  obtain ⟨hb, hyes⟩ := w
  have frames : X.A.frames = some (X.env :: X.outer) := ok.frames.trans (congrArg some hs)
  have sky2 : Sky B (X.env :: X.outer) a (Zc cls d) X.env.locals s'.heap := hs ▸ sky
  -- the exception stands apart from all that stood
  have hB : B.get? a = none := by
    rcases sky with q | q | q
    · exact q.2.1
    · exact q.2.1
    · exact q.2.1
  refine Sky.land Zc.steady frames hf sky2 fun h3 fl3 up3 => ?_
  have J3 : Inv X pins σ H { s' with heap := h3 } := J.landed nb fl3.1 (up.trans up3) os ag
  obtain ⟨oe3, vs3, he3, hz3, hd3⟩ := fl3.there
  have notIn : a ∉ frs (X.env :: X.outer) := fun hm => by
    obtain ⟨_, o, e, hnf⟩ := fl3.2.2.1.mem hm
    rw [he3] at e
    cases e
    exact hnf _ hd3
  have nL : a ≠ X.env.locals := fun z => notIn (List.mem_filterMap.mpr ⟨X.env, List.mem_cons_self, hf.trans (congrArg some z.symm)⟩)
  have nF : a ∉ X.fs := fun hm => by
    obtain ⟨e, he, q⟩ := List.mem_filterMap.mp hm
    exact notIn (List.mem_filterMap.mpr ⟨e, List.mem_cons_of_mem _ he, q⟩)
  have nS : a ∉ frs X.stack := hs ▸ notIn
  have h0 : X.s_0.heap.get? a = none := by
    cases q : X.s_0.heap.get? a with
    | none => rfl
    | some o =>
      obtain ⟨o', e⟩ := J.base.there a o q (by rw [hex]; simp)
      rw [nb a o' e nS] at hB
      cases hB
  have npin : ∀ p ∈ X.pn ++ pins, p.1 ≠ a := fun p hp z => by
    obtain ⟨e, _, p3, p4, _⟩ := J.pin p hp
    rw [z] at e
    rw [nb a p.2 e nS] at hB
    cases hB
  refine wpAny_handleBy_cons (codeAny_handlers_test ?_) (by intro q; cases q)
  have S3 := J3.suite he3 hd3 na nL nF
  have LT : PySem.W.Looks (model X.prog X.w) h3 (typeOf (.ref a)) cls := fun A Q E s k q => wpAny_typeOf_ref (k _ _ he3) (by rw [hz3.1]; exact q)
  have test : ∀ {Q : Value → Shared → Prop} {E : Value → Shared → Prop}, Q (.ref c) { s' with heap := h3 } → wpAny (model X.prog X.w) (X.A.mark (some (.ref a))) (eval (.Name x np) X.env) Q E { s' with heap := h3 } := fun {Q E} q => by
    obtain ⟨hg, hdbg, hm | ⟨hm, hv, hnn⟩⟩ := hc
    · exact ld_glob (X := X.suite a ((a, oe3) :: (X.pn ++ pins))) S3 hg hm q hdbg
    · exact ld_blt (X := X.suite a ((a, oe3) :: (X.pn ++ pins))) S3 hg hm hv q hnn hdbg
  refine test ((PySem.W.exm_one (M := model X.prog X.w) J3.kIn LT hb).here ?_)
  refine codeAny_handlers_suite_as (HandSPX.lands_againZ fl3 fun h4 fl4 up4 => ?_)
  have J4 : Inv X pins σ H { s' with heap := h4 } := J.landed nb fl4.1 ((up.trans up3).trans up4) os ag
  obtain ⟨oe4, vs4, he4, hz4, hd4⟩ := fl4.there
  have S4 := J4.suite he4 hd4 na nL nF
  refine store_ok (X := X.suite a ((a, oe4) :: (X.pn ++ pins))) (v := .ref a) S4 hN hi (.inl hln) rfl (fun s5 S5 => ?_) (.inr hln)
  have q5 : (tAsg (tVar i) (gName j)) { nx := fun σ' H' => H' = H ∧ σ' = (σ.set i (some (.ref a))).set j (some (.ref a)), rt := fun _ _ => False } (σ.set i (some (.ref a))) H := by
    exact ⟨.ref a, by rw [List.getElem?_set_self hln2], rfl, rfl⟩
  refine wpAny_mono ((hsu a oe4 cls d (X.pn ++ pins) hz4 ⟨_, hd4⟩).run [] s5 _ H _ S5 q5) (fun f s6 hsp => ?_) (fun _ _ z => False.elim z)
  cases f with
  | next =>
    obtain ⟨σ6, H6, S6, rfl, rfl⟩ := hsp
    have P6 : Inv X ((a, oe4) :: pins) ((σ.set i (some (.ref a))).set j (some (.ref a))) H6 s6 :=
      ⟨ok, S6.os, S6.bare, S6.base, S6.loc, S6.cell, S6.free, S6.freeC, fun p hp => S6.pin p (by
        rw [List.append_nil]
        rcases List.mem_append.mp hp with k | k
        · exact List.mem_cons_of_mem _ (List.mem_append_left _ k)
        · rcases List.mem_cons.mp k with k | k
          · rw [k]; exact List.mem_cons_self
          · exact List.mem_cons_of_mem _ (List.mem_append_right _ k)), S6.hok, S6.len⟩
    refine gone_ok P6 hN hi hln fun s7 J7 => ?_
    exact ⟨_, _, keep_exc J7 hz4 hd4 h0 npin, hyes a na⟩
  | brk =>
    obtain ⟨_, _, _, q⟩ := hsp
    exact q.elim
  | cont =>
    obtain ⟨_, _, _, q⟩ := hsp
    exact q.elim
  | ret u =>
    obtain ⟨_, _, _, _, _, q⟩ := hsp
    exact q.elim
theorem ps_try_keep (hs : X.stack = X.env :: X.outer) (hf : X.env.frame = some X.env.locals) (hex : X.ex = []) (hN : X.N.Nodup) (hi : X.N[i]? = some n) (hln : X.env.kindOf n = some .local) (hc : Names X x (.ref c))
    (hb : ∀ (W : WX) (pn : List (Addr × Obj)) (xe : Value → Shared → Prop), Takes (X.tr pn xe) W → PassesOwn (model X.prog X.w) X.A X.env xe → PSs (X.tr pn xe) body (tb W))
    (hsu : ∀ (a : Addr) (oe : Obj) (cls : Value) (d : Option Addr) (pn : List (Addr × Obj)), Zc cls d oe → (∃ vs, oe.data = .fields vs) → PSs (X.suite a ((a, oe) :: pn)) (b1 :: suite) (tAsg (tVar i) (gName j))) :
    PS X (.Try body [.ExceptHandler (some (.Name x np)) (some n) (b1 :: suite) pos'] [] [] pos) (tTryKeep X.K c i j tb) := by
  refine ⟨fun pins s σ H D I h => wpAny_Try_except ?_⟩
  have ok := I.ok
  refine wpAny_mono ((hb (wKeep X.K c i j D) (X.pn ++ pins) (fun e s₁ => wpAny (model X.prog X.w) X.A (noteFrame e X.env) (fun _ s₂ => wpAny (model X.prog X.w) X.A (setFlight e none) (fun _ s₃ =>
    wpAny (model X.prog X.w) X.A (handleBy e X.env [.ExceptHandler (some (.Name x np)) (some n) (b1 :: suite) pos']) (SP X pins D) X.xe s₃) X.xe s₂) X.xe s₁) (fun u s' xx => ?_) PassesOwn.looking).run [] s σ H D (I.toTry _) h) (fun f s1 hsp => ?_) (fun e s1 he => he)
  · obtain ⟨a, B, sI, pins', σ', H', cls, d, rfl, J', nb, up, sky, na, os, ag, w⟩ := xx
    have il : i < σ'.length := by
      have e1 := (List.getElem?_eq_some_iff.mp hi).1
      have e2 := J'.len
      have e3 : σ'.length = X.N.length := e2
      omega
    exact caught_kept hs hf hex hN hi hln hc ok hsu il (J'.ofTry ok) nb up sky na os ag w
  · cases f with
    | next =>
      obtain ⟨σ', H', J', q⟩ := hsp
      exact wpAny_execs_nil ⟨σ', H', J'.ofTry ok, q⟩
    | brk =>
      obtain ⟨σ', H', J', q⟩ := hsp
      exact ⟨σ', H', J'.ofTry ok, q⟩
    | cont =>
      obtain ⟨σ', H', J', q⟩ := hsp
      exact ⟨σ', H', J'.ofTry ok, q⟩
    | ret u =>
      obtain ⟨v, σ', H', J', r, q⟩ := hsp
      exact ⟨v, σ', H', J'.ofTry ok, r, q⟩
end

/-! ### isinstance of a kept exception; a call, inside a try, of a local that holds a def -/
structure ExG (K : PySem.W.Frag) (C : Addr) : Prop where
  c : ExcC K C
  ty : PySem.W.typeIn K (.ref C) = some (.type "type")
  self : PySem.W.subIn K (.ref C) (.ref C) = some true
theorem cls_some {K : PySem.W.Frag} {C : Addr} (h : PySem.W.hasDictIn K C = true) : (PySem.W.clsIn K C).isSome = true := by
  obtain ⟨cd, hc, _⟩ := PySem.W.any_some h
  rw [hc]
  rfl
theorem kit_ref {K : PySem.W.Frag} {C D : Addr} {b : Bool} (g : ExG K C) (h : PySem.W.subIn K (.ref D) (.ref C) = some b) : PySem.W.kitOne K (.ref D) (.ref C) = some b := by
  unfold PySem.W.kitOne
  by_cases e : (Value.ref D == Value.ref C) = true
  · rw [if_pos e]
    have e2 : D = C := Value.ref.inj (beq_iff_eq.mp e)
    subst e2
    rw [g.self] at h
    exact h
  · rw [if_neg e]
    have e2 : ((PySem.W.clsIn K C).isSome && PySem.W.typeIn K (.ref C) == some (.type "type")) = true := by rw [cls_some g.c.hd, g.ty] <;> rfl
    show (if ((PySem.W.clsIn K C).isSome && PySem.W.typeIn K (.ref C) == some (.type "type")) = true then PySem.W.subIn K (.ref D) (.ref C) else none) = some b
    rw [if_pos e2]
    exact h
theorem kit_typ {K : PySem.W.Frag} {D : Addr} {T : String} {b : Bool} (hm : PySem.W.kitMeta T = true) (h : PySem.W.subIn K (.ref D) (.type T) = some b) : PySem.W.kitOne K (.ref D) (.type T) = some b := by
  unfold PySem.W.kitOne
  have e : ¬ (Value.ref D == Value.type T) = true := fun z => by cases beq_iff_eq.mp z
  rw [if_neg e]
  show (if PySem.W.kitMeta T = true then PySem.W.subIn K (.ref D) (.type T) else none) = some b
  rw [if_pos hm]
  exact h
theorem exm_of {K : PySem.W.Frag} {C : Addr} {cls : Value} {b : Bool} (g : ExG K C) (h : PySem.W.subIn K cls (.ref C) = some b) : PySem.W.exmOne K cls (.ref C) = some b := PySem.W.exm_ref g.c.hs g.c.hd g.ty h
inductive TyE (K : PySem.W.Frag) (H : Hp) : V → Value → Prop where
  | old {x : V} {t : Value} : TyX K H x t → TyE K H x t
  | exc {a D : Addr} : H a = some (ExK (.ref D) none a) → ExcC K D → TyE K H (.ref a) (.ref D)
def rIsiE (K : PySem.W.Frag) : List V → Hp → VK → Prop := fun xs H Q => ∃ (x c : V) (t u : Value) (b : Bool), xs = [x, c] ∧ ClsV c u ∧ TyE K H x t ∧ PySem.W.kitOne K t u = some b ∧ Q (.bl b) H
def rIsiTE (K : PySem.W.Frag) : List V → Hp → VK → Prop := fun xs H Q => ∃ (x : V) (tp : Addr) (cs : List V) (t : Value) (us : List Value) (b : Bool), xs = [x, .ref tp] ∧ H tp = some (.tup cs) ∧ Paired ClsV cs us ∧ TyE K H x t ∧ PySem.W.kitAny K t us = some b ∧ Q (.bl b) H
section
variable {X : Cx} {pins : List (Addr × Obj)} {σ : L2.St} {H : Hp} {s : Shared}
theorem kit_ofE {x : V} {u t : Value} (I : Inv X pins σ H s) (rx : RelV x u) (ty : TyE X.K H x t) : ∃ P : Heap → Prop, PySem.W.KitX X.K u t P ∧ P s.heap ∧ u ≠ .builtin "__main__.__loader__#opaque" := by
  cases ty with
  | old ty => exact kit_of I rx ty
  | @exc a D e C =>
    cases (show u = Value.ref a from rx)
    obtain ⟨⟨oe, vs, e1, z, dd⟩, _, _⟩ := (show ObjOk X.prog X.w H s.heap a (ExK (.ref D) none a) from I.hok a _ e)
    have J : PySem.W.InstAt s.heap a oe D none := by
      obtain ⟨oc, od, oda, osl⟩ := oe
      obtain ⟨h1, h2⟩ := z
      dsimp only at h1 h2 dd
      subst h1 h2 dd
      exact ⟨e1, rfl, rfl, trivial⟩
    exact ⟨_, PySem.W.handS_kitx_exc C.hg C.hk C.hs C.hd C.ha C.hn C.ht C.hm, J, fun z => nomatch z⟩
theorem call_isiE : CallR X (.builtin "isinstance") (rIsiE X.K) := by
  intro pins s σ H xs us Q I r h
  obtain ⟨x, c, t, u, b, rfl, k, ty, e, q⟩ := h
  obtain ⟨u1, u2, rfl, r1, r2⟩ := vals2 r
  have e2 := k.eq r2
  subst e2
  obtain ⟨P, Z, p, hx⟩ := kit_ofE I r1 ty
  exact PySem.W.kia_one Z I.kIn p e hx fun tk => ⟨.bl b, H, I.tok tk, rfl, q⟩
theorem call_isiTE : CallR X (.builtin "isinstance") (rIsiTE X.K) := by
  intro pins s σ H xs us Q I r h
  obtain ⟨x, tp, cs, t, ws, b, rfl, hT, k, ty, e, q⟩ := h
  obtain ⟨u1, u2, rfl, r1, r2⟩ := vals2 r
  cases (show u2 = Value.ref tp from r2)
  obtain ⟨P, Z, p, hx⟩ := kit_ofE I r1 ty
  obtain ⟨_, its, rv, o, h1, h2, n, h3⟩ := (show ObjOk X.prog X.w H s.heap tp (.tup cs) from I.hok tp _ hT)
  have e3 := ClsV.all k rv
  subst e3
  obtain ⟨oc, od, dt, sl⟩ := o
  simp only at h2 h3
  subst h2 h3
  exact PySem.W.kia_tup Z I.kIn p h1 e hx fun tk => ⟨.bl b, H, I.tok tk, rfl, q⟩
end
/-- a def that a local may hold -/
structure Hd (P : Program) (w : World) (K : PySem.W.Frag) (mg : Str → Option Value) (base : Heap) (CX : CXT) (kk : Nat) (f : Addr) (sp : Sp) : Prop where
  ex : ∃ (k : Nat) (fd : FuncData) (ps : List Str), k ≤ kk ∧ FnOk P w K mg base CX k f fd ps sp ∧ Binds K fd ps []
  kp : PySem.W.keepIn K (.ref f) = true
theorem hd_of {P : Program} {w : World} {K : PySem.W.Frag} {mg : Str → Option Value} {base : Heap} {CX : CXT} {k kk : Nat} {x : Str} {f : Addr} {ps : List Str} {sp : Sp} (G : Cb P w K mg base CX k x f ps sp) (h : k ≤ kk) : Hd P w K mg base CX kk f sp := by
  obtain ⟨⟨fd, F, b⟩, g, kp⟩ := G
  exact ⟨⟨k, fd, ps, h, F, b⟩, kp⟩
def tCallD (i : Nat) (S : Addr → Sp → Prop) (E : L2.St → XK) (t : TA) : TE := fun σ H Q => ∃ f sp, σ[i]? = some (some (.ref f)) ∧ S f sp ∧ t σ H fun vs H1 => sp vs H1 Q (E σ)
theorem pe_callD {X : Cx} {CX : CXT} {kk i : Nat} {S : Addr → Sp → Prop} {E : L2.St → XK} {x : Str} {p pos : Pos} {e : Expr} {es : List Expr} {t : TA} (A : ∀ f sp, S f sp → Hd X.prog X.w X.K X.mg X.base CX kk f sp) (hr : Room kk X.A) (hx : ∀ σ, PassesAt CX X σ (E σ))
    (ha : PA X (e :: es) t) (hN : X.N[i]? = some x := by rfl) (hv : Vis X.env.scope x := by first | exact Or.inl rfl | exact Or.inr (Or.inl rfl) | exact Or.inr (Or.inr rfl))
    (hdb : (x == ("__debug__" : Str)) = false := by decide) (hcd : (x == ("__classdict__" : Str)) = false := by decide)
    (he : starEach (e :: es) X.env = (false, eval e X.env) :: starEach es X.env := by rfl) (hpl : (backTo pos (starEach es X.env)).any (·.1) = false := by rfl) : PE X (.Call (.Name x p) (e :: es) [] pos) (tCallD i S E t) := by
  refine ⟨fun pins s σ H Q I h => ?_⟩
  obtain ⟨f, sp, hs, hS, ht⟩ := h
  obtain ⟨⟨k, fd, ps, hk, F, hb⟩, kp⟩ := A f sp hS
  refine wpAny_Call_Name_kw (thn ((pe_var (pos := p) hN hv hdb hcd).run pins s σ H (fun v H1 => v = .ref f ∧ H1 = H) I ⟨.ref f, hs, rfl, rfl⟩) fun u s1 ⟨v, H1, I1, r1, q1⟩ => ?_)
  obtain ⟨rfl, rfl⟩ := q1
  cases r1
  refine PySem.W.callWith_K (h₀ := X.base) I.ok.mod.kin kp (thn (ha.run pos pins s1 σ _ _ I1 ht) fun us s2 ⟨vs, H2, I2, r, q⟩ => ⟨I2.kIn, ?_⟩) he hpl
  exact run_fnS F (hr.mono hk) hb (hx σ) I2 r q

/-! ### good wishes: counting -/
theorem sub_len : ∀ {l1 l2 : List Int}, l1.Nodup → (∀ x ∈ l1, x ∈ l2) → l1.length ≤ l2.length
  | [], _, _, _ => Nat.zero_le _
  | x :: r, l2, nd, h => by
    obtain ⟨n1, n2⟩ := List.nodup_cons.mp nd
    have hx := h x List.mem_cons_self
    have ih := sub_len (l1 := r) (l2 := l2.erase x) n2 fun y hy => by
      have ne : y ≠ x := fun e => n1 (e ▸ hy)
      exact (List.mem_erase_of_ne ne).mpr (h y (List.mem_cons_of_mem _ hy))
    have e := List.length_erase_of_mem hx
    have p : 0 < l2.length := List.length_pos_of_mem hx
    rw [List.length_cons]
    omega
def upTo (lo : Int) (k : Nat) : List Int := (List.range k).map fun (i : Nat) => lo + (i : Int)
theorem mem_upTo {lo x : Int} {k : Nat} : x ∈ upTo lo k ↔ lo ≤ x ∧ x < lo + k := by
  unfold upTo
  simp only [List.mem_map, List.mem_range]
  constructor
  · rintro ⟨i, hi, rfl⟩
    omega
  · rintro ⟨h1, h2⟩
    exact ⟨(x - lo).toNat, by omega, by omega⟩
theorem upTo_len {lo : Int} {k : Nat} : (upTo lo k).length = k := by simp [upTo]
theorem upTo_nodup {lo : Int} {k : Nat} : (upTo lo k).Nodup := by
  unfold upTo
  exact (List.pairwise_map.mpr (List.Pairwise.imp (fun h => by omega) List.pairwise_lt_range))
theorem len_le_of {l : List Int} {lo : Int} {k : Nat} (nd : l.Nodup) (h : ∀ x ∈ l, lo ≤ x ∧ x < lo + k) : l.length ≤ k := by
  have := sub_len nd fun x hx => mem_upTo.mpr (h x hx)
  rw [upTo_len] at this
  exact this
theorem le_len_of {l : List Int} {lo : Int} {k : Nat} (h : ∀ x, lo ≤ x → x < lo + k → x ∈ l) : k ≤ l.length := by
  have := sub_len (upTo_nodup (lo := lo) (k := k)) fun x hx => by
    obtain ⟨h1, h2⟩ := mem_upTo.mp hx
    exact h x h1 h2
  rw [upTo_len] at this
  exact this
/-- how many of them are b or more -/
def cntGe (l : List Int) (b : Int) : Nat := (l.filter fun w => decide (b ≤ w)).length
theorem cntGe_snoc (l : List Int) (w b : Int) : cntGe (l ++ [w]) b = cntGe l b + if b ≤ w then 1 else 0 := by
  unfold cntGe
  rw [List.filter_append, List.length_append]
  by_cases h : b ≤ w <;> simp [List.filter, h]
theorem cntGe_le (l : List Int) (b : Int) : cntGe l b ≤ l.length := List.length_filter_le _ _
theorem cntGe_perm {l l' : List Int} (h : l.Perm l') (b : Int) : cntGe l b = cntGe l' b := (h.filter _).length_eq
theorem somes_snoc (l : List (Option Int)) (o : Option Int) : somes (l ++ [o]) = somes l ++ o.toList := by
  unfold somes
  rw [List.filterMap_append]
  cases o <;> rfl
/-- what holds behind ships that came -/
structure Lay (n : Nat) (ws : List Int) : Prop where
  occ : ∀ x, (prun n ws).1 x = true ↔ x ∈ somes (placedL n ws)
  nd : (somes (placedL n ws)).Nodup
  bd : ∀ x ∈ somes (placedL n ws), 1 ≤ x ∧ x ≤ n
  few : ∀ b, (b ≤ 1 ∨ (prun n ws).1 (b - 1) = false) → cntGe (somes (placedL n ws)) b ≤ cntGe ws b
  many : none ∉ placedL n ws → ∀ b, cntGe ws b ≤ cntGe (somes (placedL n ws)) b
  crowd : none ∈ placedL n ws → ∃ b : Int, 1 ≤ b ∧ b ≤ n ∧ (n : Int) - b + 1 < cntGe ws b
theorem placedL_snoc {n : Nat} {ws : List Int} {w : Int} : placedL n (ws ++ [w]) = placedL n ws ++ [ffree n (prun n ws).1 w] := by
  unfold placedL
  rw [prun_snoc]
  unfold pstep
  cases ffree n (prun n ws).1 w <;> rfl
theorem occ_snoc {n : Nat} {ws : List Int} {w : Int} : (prun n (ws ++ [w])).1 = match ffree n (prun n ws).1 w with | none => (prun n ws).1 | some b => setO (prun n ws).1 b := by
  rw [prun_snoc]
  unfold pstep
  cases ffree n (prun n ws).1 w <;> rfl
/-- the least one from which on all are held -/
theorem least_full {occ : Int → Bool} : ∀ (k : Nat), (∀ x, (k : Int) + 1 ≤ x → x ≤ k + 1 → occ x = true) → ∀ m : Int, (∀ x, (k : Int) + 1 ≤ x → x ≤ m → occ x = true) → ∃ b : Int, 1 ≤ b ∧ b ≤ k + 1 ∧ (∀ x, b ≤ x → x ≤ m → occ x = true) ∧ (b ≤ 1 ∨ occ (b - 1) = false)
  | 0, _, m, h => ⟨1, by omega, by omega, fun x h1 h2 => h x (by omega) h2, .inl (by omega)⟩
  | k + 1, h0, m, h => by
    cases e : occ ((k : Int) + 1) with
    | false => exact ⟨(k : Int) + 1 + 1, by omega, by omega, fun x h1 h2 => h x (by omega) h2, .inr (by rw [show (k : Int) + 1 + 1 - 1 = (k : Int) + 1 by omega]; exact e)⟩
    | true =>
      obtain ⟨b, b1, b2, b3, b4⟩ := least_full (occ := occ) k (fun x h1 h2 => by rw [show x = (k : Int) + 1 by omega]; exact e) m fun x h1 h2 => by
        by_cases z : x = (k : Int) + 1
        · rw [z]; exact e
        · exact h x (by omega) h2
      exact ⟨b, b1, by omega, b3, b4⟩
theorem lay (n : Nat) : ∀ ws : List Int, (∀ w ∈ ws, 1 ≤ w ∧ w ≤ n) → Lay n ws := snoc_ind (fun _ => ⟨fun x => by simp [prun, placedL, somes], List.nodup_nil, fun x hx => (by cases hx), fun b _ => Nat.zero_le _, fun _ b => Nat.le_refl _, fun h => (by cases h)⟩) fun ws w ih hb => by
  have hw := hb w (List.mem_append_right _ (List.mem_singleton.mpr rfl))
  obtain ⟨i1, i2, i3, i4, i5, i6⟩ := ih fun x hx => hb x (List.mem_append_left _ hx)
  cases e : ffree n (prun n ws).1 w with
  | none =>
    have es : somes (placedL n (ws ++ [w])) = somes (placedL n ws) := by rw [placedL_snoc, e, somes_snoc]; simp
    have eo : (prun n (ws ++ [w])).1 = (prun n ws).1 := by rw [occ_snoc, e]
    have full := ffree_none e
    refine ⟨fun x => by rw [eo, es]; exact i1 x, by rw [es]; exact i2, by rw [es]; exact i3, fun b h => ?_, fun h => ?_, fun _ => ?_⟩
    · rw [es, cntGe_snoc]
      rw [eo] at h
      have := i4 b h
      omega
    · rw [placedL_snoc, e] at h
      exact absurd (List.mem_append_right _ (List.mem_singleton.mpr rfl)) h
    · obtain ⟨b, b1, b2, b3, b4⟩ := least_full (occ := (prun n ws).1) (w - 1).toNat (fun x h1 h2 => full x (by omega) (by omega)) n fun x h1 h2 => full x (by omega) h2
      have c1 := i4 b b4
      have c2 : ((n : Int) - b + 1).toNat ≤ cntGe (somes (placedL n ws)) b := le_len_of (lo := b) fun x h1 h2 => List.mem_filter.mpr ⟨(i1 x).mp (b3 x h1 (by omega)), by simpa using h1⟩
      refine ⟨b, b1, by omega, ?_⟩
      rw [cntGe_snoc, if_pos (by omega)]
      omega
  | some x =>
    have es : somes (placedL n (ws ++ [w])) = somes (placedL n ws) ++ [x] := by rw [placedL_snoc, e, somes_snoc]; rfl
    have eo : (prun n (ws ++ [w])).1 = setO (prun n ws).1 x := by rw [occ_snoc, e]
    obtain ⟨x1, x2, x3, x4⟩ := ffree_some e
    have hn : x ∉ somes (placedL n ws) := fun z => by
      rw [(i1 x).mpr z] at x3
      cases x3
    refine ⟨fun y => ?_, ?_, ?_, fun b h => ?_, fun h b => ?_, fun h => ?_⟩
    · rw [eo, es, List.mem_append, List.mem_singleton, ← i1 y]
      unfold setO
      by_cases z : y = x <;> simp [z]
    · rw [es, List.nodup_append]
      exact ⟨i2, by simp, fun a ha b hb => by rw [List.mem_singleton.mp hb]; exact fun z => hn (z ▸ ha)⟩
    · intro y hy
      rw [es] at hy
      rcases List.mem_append.mp hy with k | k
      · exact i3 y k
      · rw [List.mem_singleton.mp k]
        omega
    · rw [es, cntGe_snoc, cntGe_snoc]
      have h' : b ≤ 1 ∨ (prun n ws).1 (b - 1) = false := by
        rcases h with h | h
        · exact .inl h
        · rw [eo] at h
          unfold setO at h
          exact .inr (Bool.or_eq_false_iff.mp h).2
      have := i4 b h'
      by_cases hbx : b ≤ x
      · have hbw : b ≤ w := by
          by_cases z : b ≤ w
          · exact z
          · rcases h' with h' | h'
            · omega
            · rw [x4 (b - 1) (by omega) (by omega)] at h'
              cases h'
        rw [if_pos hbx, if_pos hbw]
        omega
      · rw [if_neg hbx]
        omega
    · have h' : none ∉ placedL n ws := fun z => h (by rw [placedL_snoc]; exact List.mem_append_left _ z)
      have := i5 h' b
      rw [es, cntGe_snoc, cntGe_snoc]
      by_cases z : b ≤ w
      · rw [if_pos z, if_pos (by omega)]
        omega
      · rw [if_neg z]
        omega
    · rw [placedL_snoc, e] at h
      rcases List.mem_append.mp h with k | k
      · obtain ⟨b, b1, b2, b3⟩ := i6 k
        refine ⟨b, b1, b2, ?_⟩
        rw [cntGe_snoc]
        omega
      · simp at k
/-- the last berth from which on more wish -/
def downTo (n : Nat) : List Int := (List.range n).map fun (i : Nat) => (n : Int) - (i : Int)
def crowdedL (n : Nat) (ws : List Int) : Option Int := (downTo n).find? fun b => decide ((n : Int) - b + 1 < (cntGe ws b : Int))
theorem mem_downTo {n : Nat} {x : Int} : x ∈ downTo n ↔ 1 ≤ x ∧ x ≤ n := by
  unfold downTo
  simp only [List.mem_map, List.mem_range]
  constructor
  · rintro ⟨i, hi, rfl⟩
    omega
  · rintro ⟨h1, h2⟩
    exact ⟨(n - x).toNat, by omega, by omega⟩
theorem crowded_none {n : Nat} {ws : List Int} : crowdedL n ws = none ↔ ∀ b : Int, 1 ≤ b → b ≤ n → (cntGe ws b : Int) ≤ n - b + 1 := by
  unfold crowdedL
  rw [List.find?_eq_none]
  simp only [decide_eq_true_eq, Int.not_lt]
  exact ⟨fun h b b1 b2 => h b (mem_downTo.mpr ⟨b1, b2⟩), fun h b hb => h b (mem_downTo.mp hb).1 (mem_downTo.mp hb).2⟩
theorem good_iff {n : Nat} {ws : List Int} (hb : ∀ w ∈ ws, 1 ≤ w ∧ w ≤ n) : crowdedL n ws = none ↔ none ∉ placedL n ws := by
  have L := lay n ws hb
  rw [crowded_none]
  constructor
  · intro h z
    obtain ⟨b, b1, b2, b3⟩ := L.crowd z
    have := h b b1 b2
    omega
  · intro h b b1 b2
    have h1 := L.many h b
    have h2 : cntGe (somes (placedL n ws)) b ≤ ((n : Int) - b + 1).toNat := len_le_of (lo := b) (L.nd.filter _) fun x hx => by
      obtain ⟨k1, k2⟩ := List.mem_filter.mp hx
      have := L.bd x k1
      have k3 : b ≤ x := by simpa using k2
      omega
    omega
/-! in rising order -/
theorem sorted_cut {b : Int} : ∀ {o : List Int}, o.Pairwise (· ≤ ·) → o = o.filter (fun w => !decide (b ≤ w)) ++ o.filter (fun w => decide (b ≤ w))
  | [], _ => rfl
  | x :: r, h => by
    obtain ⟨h1, h2⟩ := List.pairwise_cons.mp h
    by_cases z : b ≤ x
    · have e1 : r.filter (fun w => !decide (b ≤ w)) = [] := List.filter_eq_nil_iff.mpr fun y hy => by
        have := h1 y hy
        simp only [Bool.not_eq_true', decide_eq_false_iff_not]
        omega
      have e2 : r.filter (fun w => decide (b ≤ w)) = r := List.filter_eq_self.mpr fun y hy => by
        have := h1 y hy
        simp only [decide_eq_true_eq]
        omega
      simp [List.filter_cons, z, e1, e2]
    · have ih := sorted_cut (b := b) h2
      simp only [List.filter_cons, z, decide_false, Bool.not_false, if_true, Bool.false_eq_true, if_false, List.cons_append]
      rw [← ih]
def goodS (n : Nat) (o : List Int) : Bool := (List.range o.length).all fun (i : Nat) => decide (o.getD i 0 ≤ (n : Int) - o.length + i + 1)
theorem goodS_iff {n : Nat} {ws : List Int} (hb : ∀ w ∈ ws, 1 ≤ w ∧ w ≤ n) : goodS n (sortI ws) = true ↔ crowdedL n ws = none := by
  have hp := sortI_perm ws
  have hs := sortI_sorted ws
  rw [crowded_none]
  unfold goodS
  simp only [List.all_eq_true, List.mem_range, decide_eq_true_eq]
  generalize hO : sortI ws = o at hp hs
  have hbo : ∀ w ∈ o, 1 ≤ w ∧ w ≤ n := fun w hw => hb w (hp.mem_iff.mp hw)
  constructor
  · intro h b b1 b2
    rw [← cntGe_perm hp b]
    have cut := sorted_cut (b := b) hs
    by_cases z : cntGe o b = 0
    · rw [z]
      omega
    · have hlen : (o.filter (fun w => !decide (b ≤ w))).length + cntGe o b = o.length := by
        unfold cntGe
        rw [← List.length_append, ← cut]
      have hi : (o.filter (fun w => !decide (b ≤ w))).length < o.length := by omega
      have h1 := h _ hi
      have e : o.getD (o.filter (fun w => !decide (b ≤ w))).length 0 = o[(o.filter (fun w => !decide (b ≤ w))).length] := by simp [List.getD_eq_getElem?_getD, List.getElem?_eq_getElem hi]
      rw [e] at h1
      have hm : o[(o.filter (fun w => !decide (b ≤ w))).length] ∈ o.filter (fun w => decide (b ≤ w)) := by
        have e2 : o[(o.filter (fun w => !decide (b ≤ w))).length]? = (o.filter (fun w => decide (b ≤ w)))[0]? := by
          conv => lhs; arg 1; rw [cut]
          rw [List.getElem?_append_right (Nat.le_refl _), Nat.sub_self]
        rw [List.getElem?_eq_getElem hi] at e2
        exact List.mem_of_getElem? e2.symm
      have h2 : b ≤ o[(o.filter (fun w => !decide (b ≤ w))).length] := by simpa using (List.mem_filter.mp hm).2
      omega
  · intro h i hi
    have e : o.getD i 0 = o[i] := by simp [List.getD_eq_getElem?_getD, List.getElem?_eq_getElem hi]
    rw [e]
    have hbi := hbo o[i] (List.getElem_mem hi)
    have h1 := h o[i] hbi.1 hbi.2
    rw [← cntGe_perm hp] at h1
    have h2 : o.length - i ≤ cntGe o o[i] := by
      have e3 : (o.drop i).filter (fun w => decide (o[i] ≤ w)) = o.drop i := List.filter_eq_self.mpr fun y hy => by
        obtain ⟨j, hj, ej⟩ := List.getElem_of_mem hy
        rw [List.getElem_drop] at ej
        simp only [decide_eq_true_eq]
        rw [← ej]
        by_cases z : j = 0
        · subst z
          simp
        · exact List.pairwise_iff_getElem.mp hs i (i + j) hi (by rw [List.length_drop] at hj; omega) (by omega)
      have e4 : (o.filter (fun w => decide (o[i] ≤ w))).length = ((o.take i).filter (fun w => decide (o[i] ≤ w))).length + ((o.drop i).filter (fun w => decide (o[i] ≤ w))).length := by
        rw [← List.length_append, ← List.filter_append, List.take_append_drop]
      unfold cntGe
      rw [e4, e3, List.length_drop]
      omega
    omega

/-! ### crowded, is_good -/
def cntEq (l : List Int) (b : Int) : Nat := (l.filter fun w => decide (w = b)).length
theorem cntEq_snoc (l : List Int) (w b : Int) : cntEq (l ++ [w]) b = cntEq l b + if w = b then 1 else 0 := by
  unfold cntEq
  rw [List.filter_append, List.length_append]
  by_cases h : w = b <;> simp [List.filter, h]
theorem cntGe_step (l : List Int) (b : Int) : cntGe l b = cntGe l (b + 1) + cntEq l b := by
  refine snoc_ind (p := fun l => cntGe l b = cntGe l (b + 1) + cntEq l b) rfl (fun l w ih => ?_) l
  rw [cntGe_snoc, cntGe_snoc, cntEq_snoc, ih]
  by_cases h1 : w = b
  · subst h1
    rw [if_pos (Int.le_refl _), if_neg (by omega), if_pos rfl]
    omega
  · rw [if_neg h1]
    by_cases h2 : b ≤ w
    · rw [if_pos h2, if_pos (by omega)]
      omega
    · rw [if_neg h2, if_neg (by omega)]
      omega
theorem cntGe_top {n : Nat} {ws : List Int} (hb : ∀ w ∈ ws, 1 ≤ w ∧ w ≤ n) : cntGe ws ((n : Int) + 1) = 0 := by
  unfold cntGe
  rw [List.length_eq_zero_iff, List.filter_eq_nil_iff]
  intro w hw
  have := hb w hw
  simp only [decide_eq_true_eq]
  omega
def tallyL (n : Nat) (ws : List Int) : List V := (List.range (n + 1)).map fun (i : Nat) => V.int (cntEq ws (i : Int))
theorem tallyL_at {n : Nat} {ws : List Int} {i : Nat} (h : i ≤ n) : (tallyL n ws)[i]? = some (.int (cntEq ws (i : Int))) := by
  unfold tallyL
  rw [List.getElem?_map, List.getElem?_range (by omega)]
  rfl
theorem tallyL_len {n : Nat} {ws : List Int} : (tallyL n ws).length = n + 1 := by simp [tallyL]
theorem tallyL_set {n : Nat} {ws : List Int} {w : Int} (h0 : 0 ≤ w) (h : w ≤ n) : (tallyL n ws).set w.toNat (.int (cntEq ws w + 1)) = tallyL n (ws ++ [w]) := by
  apply List.ext_getElem?
  intro i
  by_cases hi : i ≤ n
  · rw [tallyL_at hi, cntEq_snoc]
    by_cases e : i = w.toNat
    · subst e
      rw [List.getElem?_set_self (by rw [tallyL_len]; omega)]
      have : ((w.toNat : Nat) : Int) = w := by omega
      rw [this, if_pos rfl]
      rfl
    · rw [List.getElem?_set_ne (Ne.symm e), tallyL_at hi]
      have : ¬ w = ((i : Nat) : Int) := by omega
      rw [if_neg this]
      rfl
  · rw [List.getElem?_eq_none (show ((tallyL n ws).set w.toNat (.int (cntEq ws w + 1))).length ≤ i by rw [List.length_set, tallyL_len]; omega), List.getElem?_eq_none (show (tallyL n (ws ++ [w])).length ≤ i by rw [tallyL_len]; omega)]
theorem tallyL_new {n : Nat} : (List.replicate (n + 1) [V.int 0]).flatten = tallyL n [] := by
  apply List.ext_getElem?
  intro i
  have e : (List.replicate (n + 1) [V.int 0]).flatten = List.replicate (n + 1) (V.int 0) := by
    generalize n + 1 = m
    induction m with
    | zero => rfl
    | succ m ih => rw [List.replicate_succ, List.replicate_succ, List.flatten_cons, ih]; rfl
  rw [e]
  by_cases hi : i ≤ n
  · rw [tallyL_at hi, List.getElem?_replicate_of_lt (by omega)]
    rfl
  · rw [List.getElem?_eq_none (show (List.replicate (n + 1) (V.int 0)).length ≤ i by rw [List.length_replicate]; omega), List.getElem?_eq_none (show (tallyL n []).length ≤ i by rw [tallyL_len]; omega)]
theorem downTo_at {n i : Nat} (h : i < n) : (downTo n)[i]? = some ((n : Int) - i) := by
  unfold downTo
  rw [List.getElem?_map, List.getElem?_range h]
  rfl
theorem find_drop {α : Type} {p : α → Bool} {l : List α} {i : Nat} {x : α} (h : l[i]? = some x) : (l.drop i).find? p = if p x = true then some x else (l.drop (i + 1)).find? p := by
  obtain ⟨hi, rfl⟩ := List.getElem?_eq_some_iff.mp h
  rw [List.drop_eq_getElem_cons hi, List.find?_cons]
  cases p l[i] <;> rfl
def sp_crowded (K : PySem.W.Frag) (a : Ad) : Sp := fun vs H Q E => ∃ b w, vs = [b, w] ∧ ChkW K a b w H E fun n ws _ => ∀ (H' : Hp), Same H H' → Q (vO (crowdedL n ws)) H'
abbrev N_crowded : List Str := ["berths", "wishes", "tally", "wish", "many", "berth"]
def t_crowded (K : PySem.W.Frag) (a : Ad) (E : XK) : TS :=
  (tSeq (tDrop (tCall (sp_check_wishes K a) [] E (tCons (tVar 0) (tCons (tVar 1) tNil))))
    (tSeq (tAsg (tOp rRep (tLst (tCons (tC (.int 0)) tNil)) (tOp rAddI (tVar 0) (tC (.int 1)))) (gName 2))
    (tSeq (tFor (iSeq K (tVar 1)) (gName 3)
    (tAugS (tVar 2) (tVar 3) (tC (.int 1)) (rIxL K) ipAdd rSetL))
    (tSeq (tAsg (tC (.int 0)) (gName 4))
    (tSeq (tFor (iRng3 (tCons (tVar 0) (tCons (tC (.int 0)) (tCons (tUn (rU fun i => .int (-i)) (tC (.int 1))) tNil)))) (gName 5)
    (tSeq (tAug 4 (tOp (rIxL K) (tVar 2) (tVar 5)) ipAdd)
    (tIfS (tTest (tOp rGtI (tVar 4) (tOp rAddI (tOp rSubI (tVar 0) (tVar 5)) (tC (.int 1))))) (tRet (tVar 5)) tNext)))
    (tRet (tC .non)))))))
theorem len_crowded {K : PySem.W.Frag} {a : Ad} {vs : List V} {H : Hp} {Q : VK} {E : XK} (h : sp_crowded K a vs H Q E) : vs.length = 2 := by
  obtain ⟨b, w, rfl, _⟩ := h
  rfl
theorem pu_crowded {K : PySem.W.Frag} {a : Ad} {vs : List V} {H : Hp} {Q : VK} {E : XK} (h : sp_crowded K a vs H Q E) : t_crowded K a E { nx := fun _ H' => Q .non H', rt := Q } (start N_crowded vs) H := by
  obtain ⟨b, w, rfl, h⟩ := h
  refine ⟨b, rfl, w, rfl, b, w, rfl, ChkW.imp h fun n ws p eb ew h1 h2 hs hl hb q => ?_⟩
  subst eb
  subst ew
  -- tally = [0] * (berths + 1)
  refine ⟨by decide, fun l0 nl0 => ⟨.int n, rfl, n, 1, rfl, rfl, l0, _, _, rfl, rfl, upd_same, by omega, by omega, ?_, fun l1 nl1 => ?_⟩⟩
  · refine l1000 ?_
    show 1 * _ ≤ _
    omega
  have e1 : ((n : Int) + 1).toNat = n + 1 := by omega
  rw [e1, tallyL_new]
  have s0 : Same H (upd H l0 (.lst [.int 0])) := same_new nl0
  have n1 : H l1 = none := s0.free nl1
  have s1 := s0.store n1 (o := .lst (tallyL n []))
  refine for_seq (K := K) (H0 := H) (fun Q q => ⟨.ref p, rfl, q⟩) hs (fun i σ H' => (∃ y, σ = [some (.int n), some (.ref p), some (.ref l1), y, none, none]) ∧ Same H H' ∧ H' l1 = some (.lst (tallyL n (ws.take i)))) ⟨⟨none, rfl⟩, s1, upd_same⟩ (fun i σ H' h => h.2.1) ?_ ?_
  · rintro i x σ H' hx ⟨⟨y, rfl⟩, s, eh⟩
    obtain ⟨w, hw, rfl⟩ := item_of hx
    have bw := hb w (List.mem_of_getElem? hw)
    have ex : (tallyL n (ws.take i))[w.toNat]? = some (.int (cntEq (ws.take i) w)) := by
      rw [tallyL_at (by omega)]
      have : ((w.toNat : Nat) : Int) = w := by omega
      rw [this]
    refine ⟨.ref l1, rfl, .int w, rfl, l1, _, w, _, rfl, rfl, sqL_of eh, at_of (j := w.toNat) (by omega) ex, _, 1, rfl, rfl, l1, _, w, w.toNat, rfl, rfl, eh, ?_, ?_⟩
    · unfold ixN
      rw [if_pos (by omega), tallyL_len, if_pos (by omega)]
    refine ⟨⟨_, rfl⟩, s.store n1, ?_⟩
    rw [upd_same]
    rw [tallyL_set (by omega) bw.2, take_more hw]
  · rintro σ H' ⟨⟨y, rfl⟩, s, eh⟩
    rw [List.length_map, List.take_length] at eh
    refine ⟨.int n, rfl, _, rfl, n, 0, -1, ((n : Int) - 0).toNat, rfl, RgC.neg (by omega) (by omega) (by omega) (by omega), ?_⟩
    have en : ((n : Int) - 0).toNat = n := by omega
    rw [en]
    refine for_it walk_rangeC (fun i σ H2 => H2 = H' ∧ (∃ z, σ = [some (.int n), some (.ref p), some (.ref l1), y, some (.int (cntGe ws ((n : Int) - i + 1))), z]) ∧ crowdedL n ws = ((downTo n).drop i).find? fun b => decide ((n : Int) - b + 1 < (cntGe ws b : Int))) ⟨rfl, ⟨none, ?_⟩, rfl⟩ (fun _ _ _ _ _ => trivial) ?_ ?_
    · rw [show (n : Int) - ((0 : Nat) : Int) + 1 = (n : Int) + 1 by omega, cntGe_top hb]
      rfl
    · rintro i x σ H2 H3 hi ⟨rfl, ⟨z, rfl⟩, e⟩ ⟨rfl, ex0⟩
      rw [find_drop (downTo_at hi)] at e
      have ex : (tallyL n ws)[n - i]? = some (.int (cntEq ws ((n : Int) - i))) := by
        rw [tallyL_at (by omega)]
        have : (((n - i : Nat)) : Int) = (n : Int) - i := by omega
        rw [this]
      have ev : (n : Int) + (i : Int) * -1 = (n : Int) - i := by omega
      obtain rfl : x = .int ((n : Int) - i) := by
        rw [ex0]
        show V.int ((n : Int) + (i : Int) * -1) = _
        rw [ev]
      refine ⟨_, rfl, .ref l1, rfl, .int ((n : Int) - i), rfl, l1, _, (n : Int) - i, _, rfl, rfl, sqL_of eh, at_of (j := n - i) (by omega) ex, _, _, rfl, rfl, ?_⟩
      have step := cntGe_step ws ((n : Int) - i)
      refine ⟨_, rfl, .int n, rfl, .int ((n : Int) - i), rfl, n, _, rfl, rfl, _, 1, rfl, rfl, _, _, rfl, rfl, _, rfl, ?_⟩
      have e3 : ((cntGe ws ((n : Int) - i + 1) : Nat) : Int) + (cntEq ws ((n : Int) - i) : Nat) = (cntGe ws ((n : Int) - i) : Nat) := by omega
      refine ite2 (fun h => ?_) (fun h => ?_)
      · have h : (n : Int) - ((n : Int) - i) + 1 < ((cntGe ws ((n : Int) - i + 1) : Nat) : Int) + (cntEq ws ((n : Int) - i) : Nat) := of_decide_eq_true h
        rw [e3] at h
        rw [if_pos (decide_eq_true h)] at e
        refine ⟨.int ((n : Int) - i), rfl, ?_⟩
        have := q _ s
        rw [e] at this
        exact this
      · have h : ¬ (n : Int) - ((n : Int) - i) + 1 < ((cntGe ws ((n : Int) - i + 1) : Nat) : Int) + (cntEq ws ((n : Int) - i) : Nat) := fun z => h (decide_eq_true z)
        rw [e3] at h
        rw [if_neg (by simpa using h)] at e
        have e5 : ((cntGe ws ((n : Int) - i + 1) : Nat) : Int) + (cntEq ws ((n : Int) - i) : Nat) = (cntGe ws ((n : Int) - ((i + 1 : Nat) : Int) + 1) : Nat) := by
          rw [e3]
          have : (n : Int) - ((i + 1 : Nat) : Int) + 1 = (n : Int) - i := by omega
          rw [this]
        exact ⟨rfl, ⟨some (.int ((n : Int) - i)), congrArg (fun t => [some (V.int n), some (V.ref p), some (V.ref l1), y, some (V.int t), some (V.int ((n : Int) - i))]) e5⟩, e⟩
    · rintro σ H2 ⟨rfl, ⟨z, rfl⟩, e⟩
      have hd : (downTo n).drop n = [] := List.drop_eq_nil_of_le (by simp [downTo])
      rw [hd] at e
      have := q _ s
      rw [e] at this
      exact this
def sp_is_good (K : PySem.W.Frag) (a : Ad) : Sp := fun vs H Q E => ∃ b w, vs = [b, w] ∧ ChkW K a b w H E fun n ws _ => ∀ (H' : Hp), Same H H' → Q (.bl (crowdedL n ws).isNone) H'
abbrev N_is_good : List Str := ["berths", "wishes"]
def t_is_good (K : PySem.W.Frag) (a : Ad) (E : XK) : TS :=
  (tRet (tIsN (tCall (sp_crowded K a) [] E (tCons (tVar 0) (tCons (tVar 1) tNil)))))
theorem len_is_good {K : PySem.W.Frag} {a : Ad} {vs : List V} {H : Hp} {Q : VK} {E : XK} (h : sp_is_good K a vs H Q E) : vs.length = 2 := by
  obtain ⟨b, w, rfl, _⟩ := h
  rfl
theorem vO_isN (o : Option Int) : decide (vO o = .non) = o.isNone := by
  cases o <;> rfl
theorem pu_is_good {K : PySem.W.Frag} {a : Ad} {vs : List V} {H : Hp} {Q : VK} {E : XK} (h : sp_is_good K a vs H Q E) : t_is_good K a E { nx := fun _ H' => Q .non H', rt := Q } (start N_is_good vs) H := by
  obtain ⟨b, w, rfl, h⟩ := h
  refine ⟨b, rfl, w, rfl, b, w, rfl, ChkW.imp h fun n ws p eb ew h1 h2 hs hl hb q => ?_⟩
  intro H' s
  have := q H' s
  show Q (.bl (decide (vO (crowdedL n ws) = .non))) H'
  rw [vO_isN]
  exact this

/-! ### how many good wishes; the first and the last ones -/
def hmany (n k : Nat) : Int := if n < k then 0 else if k = 0 then 1 else ((n : Int) + 1 - k) * ((n : Int) + 1) ^ (k - 1)
def ChkS (K : PySem.W.Frag) (a : Ad) (hi : Nat) (s : V) (H : Hp) (E : XK) (R : Nat → Prop) : Prop := ∃ T, TyB K H s T ∧ ((inB 0 hi s = false ∧ E (.ref a.e_NoCount) none H) ∨ ∃ k : Nat, s = .int k ∧ k ≤ hi ∧ R k)
theorem ChkS.ok {K : PySem.W.Frag} {a : Ad} {hi k : Nat} {H : Hp} {E : XK} {R : Nat → Prop} (h : k ≤ hi) (r : R k) : ChkS K a hi (.int k) H E R := ⟨_, .int _, .inr ⟨k, rfl, h, r⟩⟩
theorem inB_nat {hi k : Nat} (h : k ≤ hi) : inB 0 hi (.int k) = true := by
  simp [inB]
  omega
def sp_p_check_ships (K : PySem.W.Frag) (a : Ad) : Sp := fun vs H Q E => ∃ b s, vs = [b, s] ∧ ChkQ K a b H E fun n => ChkS K a n s H E fun _ => Q .non H
abbrev N_p_check_ships : List Str := ["berths", "ships"]
def t_p_check_ships (K : PySem.W.Frag) (a : Ad) (E : XK) : TS :=
  (tSeq (tDrop (tCall (sp_check_quay K a) [] E (tCons (tVar 0) tNil)))
    (tIfS (tNot (tB (tCall (sp_is_from_to K a) [] E0 (tCons (tC (.int 0)) (tCons (tVar 0) (tCons (tVar 1) tNil)))))) (tRaise a.e_NoCount E) tNext))
theorem len_p_check_ships {K : PySem.W.Frag} {a : Ad} {vs : List V} {H : Hp} {Q : VK} {E : XK} (h : sp_p_check_ships K a vs H Q E) : vs.length = 2 := by
  obtain ⟨b, s, rfl, _⟩ := h
  rfl
theorem pu_p_check_ships {K : PySem.W.Frag} {a : Ad} {vs : List V} {H : Hp} {Q : VK} {E : XK} (h : sp_p_check_ships K a vs H Q E) : t_p_check_ships K a E { nx := fun _ H' => Q .non H', rt := Q } (start N_p_check_ships vs) H := by
  obtain ⟨b, s, rfl, h⟩ := h
  refine ⟨b, rfl, b, rfl, ChkQ.imp h fun n eb h1 h2 r => ?_⟩
  subst eb
  obtain ⟨T, ty, r⟩ := r
  refine ⟨.int n, rfl, s, rfl, 0, n, s, T, rfl, ty, inB 0 n s, rfl, ?_⟩
  rcases r with ⟨e, q⟩ | ⟨k, rfl, hk, q⟩
  · rw [e]
    exact iteT q
  · rw [inB_nat hk]
    exact iteF q
theorem flat_repR (n : Nat) (x : Int) : (List.replicate n [V.int x]).flatten = (List.replicate n x).map V.int := by
  induction n with
  | zero => rfl
  | succ n ih => rw [List.replicate_succ, List.replicate_succ, List.flatten_cons, ih]; rfl
/-- (1,) * k -/
theorem ones_of {K : PySem.W.Frag} {te : TE} {σ : L2.St} {H : Hp} {Q : VK} {k : Nat} (hk : k ≤ 400) (ht : ∀ H1 : Hp, Same H H1 → ∀ Q' : VK, Q' (.int k) H1 → te σ H1 Q') (q : ∀ (l : Addr) (H' : Hp), Same H H' → H' l = some (.tup ((List.replicate k 1).map V.int)) → Q (.ref l) H') :
    (tOp (rRepTA K) (tTup (tCons (tC (.int 1)) tNil)) te) σ H Q := by
  refine ⟨l1000 (by show 1 ≤ 1000; decide), fun p np => ht _ (same_new np) _ ⟨p, k, _, rfl, rfl, sqT_of upd_same, (fun z => by cases z), by omega, by omega, (by show 1 ≤ 1000; decide), fun e => ?_, fun e l nl => ?_⟩⟩
  · refine q p _ (same_new np) ?_
    have e : k = 1 := by omega
    rw [e, upd_same]
    rfl
  · refine q l _ ((same_new np).store (same_new np |>.free nl)) ?_
    rw [upd_same, show ((k : Int)).toNat = k by omega, flat_repR]
def downs (n k : Nat) : List Int := (List.range k).map fun (i : Nat) => (n : Int) - i
theorem rgD_downs {n k : Nat} {c : Int} (h : c = (n : Int) - k) : rgD n c = (downs n k).map V.int := by
  unfold rgD downs
  rw [show ((n : Int) - c).toNat = k by omega, List.map_map]
  rfl
theorem downs_take {n k : Nat} (h : k ≤ n) : (downs n n).take k = downs n k := by
  unfold downs
  rw [← List.map_take, List.take_range, Nat.min_eq_left h]
def sp_last_row (K : PySem.W.Frag) (a : Ad) : Sp := fun vs H Q E => ∃ b s, vs = [b, s] ∧ ChkQ K a b H E fun n => ChkS K a n s H E fun k => ∀ (l : Addr) (H' : Hp), Same H H' → H' l = some (.tup ((downs n k).map V.int)) → Q (.ref l) H'
abbrev N_last_row : List Str := ["berths", "ships"]
def t_last_row (K : PySem.W.Frag) (a : Ad) (E : XK) : TS :=
  (tSeq (tDrop (tCall (sp_p_check_ships K a) [] E (tCons (tVar 0) (tCons (tVar 1) tNil))))
    (tRet (tTupRg3 (tCons (tVar 0) (tCons (tOp rSubI (tVar 0) (tVar 1)) (tCons (tUn (rU fun i => .int (-i)) (tC (.int 1))) tNil))))))
theorem len_last_row {K : PySem.W.Frag} {a : Ad} {vs : List V} {H : Hp} {Q : VK} {E : XK} (h : sp_last_row K a vs H Q E) : vs.length = 2 := by
  obtain ⟨b, s, rfl, _⟩ := h
  rfl
theorem pu_last_row {K : PySem.W.Frag} {a : Ad} {vs : List V} {H : Hp} {Q : VK} {E : XK} (h : sp_last_row K a vs H Q E) : t_last_row K a E { nx := fun _ H' => Q .non H', rt := Q } (start N_last_row vs) H := by
  obtain ⟨b, s, rfl, h⟩ := h
  refine ⟨b, rfl, s, rfl, b, s, rfl, ChkQ.imp h fun n eb h1 h2 r => ?_⟩
  subst eb
  obtain ⟨T, ty, r⟩ := r
  refine ⟨T, ty, ?_⟩
  rcases r with r | ⟨k, rfl, hk, q⟩
  · exact .inl r
  refine .inr ⟨k, rfl, hk, .int n, rfl, .int n, rfl, .int k, rfl, n, k, rfl, rfl, 1, rfl, n, (n : Int) - k, rfl, ⟨by omega, by omega, by omega, by omega, by omega⟩, fun l nl => ?_⟩
  refine q l _ (same_new nl) ?_
  rw [upd_same, rgD_downs rfl]

/-! ### the next good wishes: the mathematics -/
theorem cntGe_append (a b : List Int) (x : Int) : cntGe (a ++ b) x = cntGe a x + cntGe b x := by
  unfold cntGe
  rw [List.filter_append, List.length_append]
theorem cntGe_one (y x : Int) : cntGe [y] x = if x ≤ y then 1 else 0 := by
  unfold cntGe
  by_cases h : x ≤ y <;> simp [h]
theorem cntGe_all {l : List Int} {b : Int} (h : ∀ x ∈ l, b ≤ x) : cntGe l b = l.length := by
  unfold cntGe
  rw [List.filter_eq_self.mpr fun x hx => decide_eq_true (h x hx)]
theorem cntGe_ones {m : Nat} {b : Int} (h : 2 ≤ b) : cntGe (List.replicate m 1) b = 0 := by
  unfold cntGe
  rw [List.length_eq_zero_iff, List.filter_eq_nil_iff]
  intro x hx
  rw [(List.mem_replicate.mp hx).2, decide_eq_true_eq]
  omega
def Good (n : Nat) (ws : List Int) : Prop := crowdedL n ws = none
theorem good_def {n : Nat} {ws : List Int} : Good n ws ↔ ∀ b : Int, 1 ≤ b → b ≤ n → (cntGe ws b : Int) ≤ n - b + 1 := crowded_none
theorem good_len {n : Nat} {ws : List Int} (hn : 1 ≤ n) (h : Good n ws) (h1 : ∀ x ∈ ws, 1 ≤ x) : ws.length ≤ n := by
  have := good_def.mp h 1 (by omega) (by omega)
  rw [cntGe_all h1] at this
  omega
theorem good_pre {n : Nat} {a b : List Int} (h : Good n (a ++ b)) : Good n a := good_def.mpr fun x h1 h2 => by
  have := good_def.mp h x h1 h2
  rw [cntGe_append] at this
  omega
theorem good_ones {n m : Nat} {a : List Int} (h : Good n a) (hl : a.length + m ≤ n) : Good n (a ++ List.replicate m 1) := good_def.mpr fun x h1 h2 => by
  rw [cntGe_append]
  by_cases hx : x = 1
  · have e1 := cntGe_le a x
    have e2 := cntGe_le (List.replicate m 1) x
    rw [List.length_replicate] at e2
    omega
  · rw [cntGe_ones (by omega)]
    have := good_def.mp h x h1 h2
    omega
theorem good_low {n : Nat} {a : List Int} {x y : Int} (h : Good n (a ++ [y])) (hxy : x ≤ y) : Good n (a ++ [x]) := good_def.mpr fun b h1 h2 => by
  have := good_def.mp h b h1 h2
  rw [cntGe_append, cntGe_one] at this ⊢
  by_cases c : b ≤ x
  · rw [if_pos c]
    rw [if_pos (by omega)] at this
    exact this
  · rw [if_neg c]
    split at this <;> omega
/-- wishes that go up by one at s, and their like -/
def upTo1 (row : List Int) (s : Nat) : List Int := row.take s ++ [row.getD s 0 + 1]
def upB (n : Nat) (row : List Int) (s : Nat) : Bool := decide (row.getD s 0 < n) && (crowdedL n (upTo1 row s)).isNone
def nextF (n : Nat) (row : List Int) : Nat → Option (List Int)
  | 0 => none
  | s + 1 => if upB n row s = true then some (upTo1 row s ++ List.replicate (row.length - (s + 1)) 1) else nextF n row s
def nextL (n : Nat) (row : List Int) : Option (List Int) := nextF n row row.length
theorem nextF_some {n : Nat} {row f : List Int} : ∀ {k : Nat}, nextF n row k = some f → ∃ s, s < k ∧ upB n row s = true ∧ (∀ j, s < j → j < k → upB n row j = false) ∧ f = upTo1 row s ++ List.replicate (row.length - (s + 1)) 1
  | 0, h => by cases h
  | k + 1, h => by
    unfold nextF at h
    cases e : upB n row k with
    | true =>
      rw [if_pos e] at h
      exact ⟨k, by omega, e, fun j h1 h2 => by omega, (Option.some.inj h).symm⟩
    | false =>
      rw [if_neg (by rw [e]; exact Bool.false_ne_true)] at h
      obtain ⟨s, s1, s2, s3, s4⟩ := nextF_some h
      refine ⟨s, by omega, s2, fun j h1 h2 => ?_, s4⟩
      by_cases z : j = k
      · rw [z]; exact e
      · exact s3 j h1 (by omega)
theorem nextF_none {n : Nat} {row : List Int} : ∀ {k : Nat}, nextF n row k = none → ∀ j, j < k → upB n row j = false
  | 0, _, j, hj => by omega
  | k + 1, h, j, hj => by
    unfold nextF at h
    cases e : upB n row k with
    | true =>
      rw [if_pos e] at h
      cases h
    | false =>
      rw [if_neg (by rw [e]; exact Bool.false_ne_true)] at h
      by_cases z : j = k
      · rw [z]; exact e
      · exact nextF_none h j (by omega)
theorem upB_true {n : Nat} {row : List Int} {s : Nat} : upB n row s = true ↔ row.getD s 0 < n ∧ Good n (upTo1 row s) := by
  unfold upB Good
  rw [Bool.and_eq_true, decide_eq_true_eq, Option.isNone_iff_eq_none]
theorem take_getD {row : List Int} {s : Nat} (h : s < row.length) : row = row.take s ++ row.getD s 0 :: row.drop (s + 1) := by
  have e : row.getD s 0 = row[s] := by
    rw [List.getD_eq_getElem?_getD, List.getElem?_eq_getElem h]
    rfl
  rw [e, ← List.drop_eq_getElem_cons h, List.take_append_drop]
/-! lists in their order -/
theorem lex_pre : ∀ (p a b : List Int), HT.lexLt (p ++ a) (p ++ b) = HT.lexLt a b
  | [], _, _ => rfl
  | x :: p, a, b => by
    show (if x = x then HT.lexLt (p ++ a) (p ++ b) else decide (x < x)) = _
    rw [if_pos rfl, lex_pre p a b]
theorem lex_up {x y : Int} {a b : List Int} (h : x < y) : HT.lexLt (x :: a) (y :: b) = true := by
  rw [HT.lexLt_cons, if_neg (by omega), decide_eq_true h]
theorem lex_down {x y : Int} {a b : List Int} (h : y < x) : HT.lexLt (x :: a) (y :: b) = false := by
  rw [HT.lexLt_cons, if_neg (by omega), decide_eq_false (by omega)]
theorem lex_split : ∀ {a b : List Int}, HT.lexLt a b = true → a.length = b.length → ∃ p r t x u, a = p ++ r :: t ∧ b = p ++ x :: u ∧ r < x
  | [], [], h, _ => by cases h
  | [], _ :: _, _, h => by cases h
  | _ :: _, [], _, h => by cases h
  | y :: a, z :: b, h, hl => by
    rw [HT.lexLt_cons] at h
    by_cases c : y = z
    · rw [if_pos c] at h
      obtain ⟨p, r, t, x, u, e1, e2, e3⟩ := lex_split h (by simpa using hl)
      exact ⟨y :: p, r, t, x, u, by rw [e1]; rfl, by rw [e2, c]; rfl, e3⟩
    · rw [if_neg c, decide_eq_true_eq] at h
      exact ⟨[], y, a, z, b, rfl, rfl, h⟩
theorem lex_ones : ∀ {u : List Int} {m : Nat}, (∀ x ∈ u, 1 ≤ x) → u.length = m → HT.lexLt u (List.replicate m 1) = false
  | [], 0, _, _ => rfl
  | [], _ + 1, _, h => by cases h
  | _ :: _, 0, _, h => by cases h
  | x :: u, m + 1, h, hl => by
    rw [List.replicate_succ, HT.lexLt_cons]
    have hx := h x List.mem_cons_self
    by_cases c : x = 1
    · rw [if_pos c]
      exact lex_ones (fun y hy => h y (List.mem_cons_of_mem _ hy)) (by simpa using hl)
    · rw [if_neg c, decide_eq_false (by omega)]
/-! the next ones are good, come behind, and nothing good comes between -/
structure Next (n : Nat) (row f : List Int) : Prop where
  good : Good n f
  len : f.length = row.length
  bd : ∀ x ∈ f, 1 ≤ x ∧ x ≤ n
  lt : HT.lexLt row f = true
  gap : ∀ o : List Int, o.length = row.length → (∀ x ∈ o, 1 ≤ x ∧ x ≤ n) → Good n o → HT.lexLt row o = true → HT.lexLt o f = false
theorem next_some {n : Nat} {row f : List Int} (hn : 1 ≤ n) (hb : ∀ x ∈ row, 1 ≤ x ∧ x ≤ n) (hg : Good n row) (h : nextL n row = some f) : Next n row f := by
  obtain ⟨s, s1, s2, s3, rfl⟩ := nextF_some h
  obtain ⟨u1, u2⟩ := upB_true.mp s2
  have e := take_getD s1
  have hl := good_len hn hg fun x hx => (hb x hx).1
  have hlen : (upTo1 row s).length = s + 1 := by
    unfold upTo1
    rw [List.length_append, List.length_take]
    simp
    omega
  have hrs : row.getD s 0 ∈ row := by
    rw [List.getD_eq_getElem?_getD, List.getElem?_eq_getElem s1]
    exact List.getElem_mem s1
  have hrb := hb _ hrs
  refine ⟨good_ones u2 (by omega), ?_, fun x hx => ?_, ?_, fun o ol ob og lo => ?_⟩
  · rw [List.length_append, hlen, List.length_replicate]
    omega
  · rcases List.mem_append.mp hx with z | z
    · unfold upTo1 at z
      rcases List.mem_append.mp z with z | z
      · exact hb x (List.mem_of_mem_take z)
      · rw [List.mem_singleton.mp z]
        omega
    · rw [(List.mem_replicate.mp z).2]
      omega
  · unfold upTo1
    rw [List.append_assoc]
    conv => lhs; arg 1; rw [e]
    rw [lex_pre]
    exact lex_up (by omega)
  · obtain ⟨p, r, t, x, u, e1, e2, e3⟩ := lex_split lo ol.symm
    have hx := ob x (by rw [e2]; simp)
    have hpl : p.length < row.length := by rw [e1]; simp
    have hgp : row.getD p.length 0 = r := by
      rw [e1, List.getD_eq_getElem?_getD, List.getElem?_append_right (Nat.le_refl _), Nat.sub_self]
      rfl
    have htp : row.take p.length = p := by rw [e1, List.take_left]
    rcases Nat.lt_trichotomy p.length s with c | c | c
    · -- before s
      have ef : upTo1 row s ++ List.replicate (row.length - (s + 1)) 1 = p ++ r :: ((t.take (s - p.length - 1) ++ [row.getD s 0 + 1]) ++ List.replicate (row.length - (s + 1)) 1) := by
        unfold upTo1
        have : row.take s = p ++ r :: t.take (s - p.length - 1) := by
          conv => lhs; rw [e1]
          rw [List.take_append, List.take_of_length_le (by omega)]
          congr 1
          obtain ⟨d, hd⟩ : ∃ d, s - p.length = d + 1 := ⟨s - p.length - 1, by omega⟩
          rw [hd]
          rfl
        rw [this]
        simp
      rw [ef, e2, lex_pre]
      exact lex_down e3
    · -- at s
      subst c
      unfold upTo1
      rw [htp, hgp, List.append_assoc, e2, lex_pre]
      by_cases z : x = r + 1
      · subst z
        show (if r + 1 = r + 1 then HT.lexLt u (List.replicate (row.length - (p.length + 1)) 1) else _) = false
        rw [if_pos rfl]
        refine lex_ones (fun y hy => (ob y (by rw [e2]; simp [hy])).1) ?_
        rw [← ol, e2]
        simp
        omega
      · exact lex_down (by omega)
    · -- behind s
      exfalso
      have nu := s3 p.length c hpl
      have up : upB n row p.length = true := by
        refine upB_true.mpr ⟨by rw [hgp]; omega, ?_⟩
        unfold upTo1
        rw [htp, hgp]
        have g1 : Good n (p ++ [x]) := by
          have : o = (p ++ [x]) ++ u := by rw [e2]; simp
          rw [this] at og
          exact good_pre og
        exact good_low g1 (by omega)
      rw [up] at nu
      cases nu
/-! the last ones -/
theorem downs_len {n k : Nat} : (downs n k).length = k := by simp [downs]
theorem mem_downs {n k : Nat} {x : Int} : x ∈ downs n k ↔ (n : Int) - k < x ∧ x ≤ n := by
  unfold downs
  simp only [List.mem_map, List.mem_range]
  constructor
  · rintro ⟨i, hi, rfl⟩
    omega
  · rintro ⟨h1, h2⟩
    exact ⟨((n : Int) - x).toNat, by omega, by omega⟩
theorem downs_nodup {n k : Nat} : (downs n k).Nodup := by
  unfold downs
  rw [List.nodup_iff_pairwise_ne, List.pairwise_map]
  exact List.Pairwise.imp (fun h => by omega) List.pairwise_lt_range
theorem downs_succ {n k : Nat} : downs n (k + 1) = downs n k ++ [(n : Int) - k] := by
  unfold downs
  rw [List.range_succ, List.map_append]
  rfl
theorem downs_cnt {n k : Nat} {b : Int} (h : b ≤ (n : Int) + 1) : (cntGe (downs n k) b : Int) ≤ n - b + 1 := by
  have : cntGe (downs n k) b ≤ ((n : Int) - b + 1).toNat := by
    unfold cntGe
    refine len_le_of (lo := b) (List.Pairwise.filter _ downs_nodup) fun x hx => ?_
    obtain ⟨h1, h2⟩ := List.mem_filter.mp hx
    have h3 := mem_downs.mp h1
    have h4 : b ≤ x := of_decide_eq_true h2
    omega
  omega
theorem next_none {n : Nat} {row : List Int} (hn : 1 ≤ n) (hb : ∀ x ∈ row, 1 ≤ x ∧ x ≤ n) (hg : Good n row) (h : nextL n row = none) : row = downs n row.length := by
  have hl := good_len hn hg fun x hx => (hb x hx).1
  have nu := nextF_none h
  have go : ∀ s, s ≤ row.length → row.take s = downs n s := by
    intro s
    induction s with
    | zero => intro _; rfl
    | succ s ih =>
      intro hs
      have ih := ih (by omega)
      have e := take_getD (row := row) (s := s) (by omega)
      have et : row.take (s + 1) = row.take s ++ [row.getD s 0] := by
        rw [List.take_add_one, List.getD_eq_getElem?_getD, List.getElem?_eq_getElem (by omega)]
        rfl
      have hrs : row.getD s 0 ∈ row := by
        rw [List.getD_eq_getElem?_getD, List.getElem?_eq_getElem (show s < row.length by omega)]
        exact List.getElem_mem _
      have hrb := hb _ hrs
      have nus := nu s (by omega)
      generalize hx : row.getD s 0 = x at *
      have g1 : Good n (downs n s ++ [x]) := by
        rw [← ih, ← et]
        have : row = row.take (s + 1) ++ row.drop (s + 1) := (List.take_append_drop _ _).symm
        rw [this] at hg
        exact good_pre hg
      have le : x ≤ (n : Int) - s := by
        by_cases z : s = 0
        · subst z
          omega
        · have := good_def.mp g1 ((n : Int) - s + 1) (by omega) (by omega)
          rw [cntGe_append, cntGe_one, cntGe_all (fun y hy => by have := mem_downs.mp hy; omega), downs_len] at this
          by_cases c : (n : Int) - s + 1 ≤ x
          · rw [if_pos c] at this
            omega
          · omega
      have ge : (n : Int) - s ≤ x := by
        by_cases c : (n : Int) - s ≤ x
        · exact c
        · exfalso
          have up : upB n row s = true := by
            refine upB_true.mpr ⟨by rw [hx]; omega, ?_⟩
            unfold upTo1
            rw [hx, ih]
            refine good_def.mpr fun b b1 b2 => ?_
            rw [cntGe_append, cntGe_one]
            by_cases d : b ≤ x + 1
            · rw [if_pos d]
              have := cntGe_le (downs n s) b
              rw [downs_len] at this
              omega
            · rw [if_neg d]
              have := downs_cnt (n := n) (k := s) (b := b) (by omega)
              omega
          rw [up] at nus
          cases nus
      rw [et, ih, downs_succ, show x = (n : Int) - s by omega]
  have := go row.length (Nat.le_refl _)
  rw [List.take_length] at this
  exact this

/-! ### next_row -/
theorem cut_takeN (xs : List V) (k : Nat) : cutV xs none (some (k : Int)) = xs.take k := by
  unfold cutV
  rw [HT.sIx_nat, HT.sIx_none, List.drop_zero, Nat.sub_zero]
  by_cases h : k ≤ xs.length
  · rw [Nat.min_eq_left h]
  · rw [Nat.min_eq_right (by omega), List.take_of_length_le (Nat.le_refl _), List.take_of_length_le (by omega)]
theorem tupOfS {K : PySem.W.Frag} {i : Nat} {te : TE} {r : TS} {D : Ends} {σ : L2.St} {H : Hp} {p : Addr} {xs : List V} (ht : ∀ Q' : VK, Q' (.ref p) H → te σ H Q') (h : SqA K H p xs) (q : ∀ (t : Addr) (H' : Hp), Same H H' → SqT K H' t xs → r D (σ.set i (some (.ref t))) H') :
    tSeq (tAsg (tCB (rTupleOf K) (tCons te tNil)) (gName i)) r D σ H := by
  change te σ H (fun x H1 => rTupleOf K [x] H1 fun t H2 => r D (σ.set i (some t)) H2)
  refine ht _ ?_
  rcases h with h | h
  · exact ⟨p, xs, rfl, .inl ⟨h, fun l nl => q l _ (same_new nl) (sqT_of upd_same)⟩⟩
  · exact ⟨p, xs, rfl, .inr ⟨h, q p H (Same.refl _) h⟩⟩
theorem int_at {ws : List Int} {s : Nat} (h : s < ws.length) : atI (ws.map V.int) (s : Int) = some (.int (ws.getD s 0)) := by
  refine atI_nat ?_
  rw [List.getElem?_map, List.getD_eq_getElem?_getD, List.getElem?_eq_getElem h]
  rfl
theorem nextF_no {n : Nat} {row : List Int} {s : Nat} (h : upB n row s = false) : nextF n row (s + 1) = nextF n row s := by
  show (if upB n row s = true then _ else _) = _
  rw [if_neg (by rw [h]; exact Bool.false_ne_true)]
def sp_next_row (K : PySem.W.Frag) (a : Ad) : Sp := fun vs H Q E => ∃ b w, vs = [b, w] ∧ ChkW K a b w H E fun n ws _ => (crowdedL n ws ≠ none ∧ ∀ H' : Hp, Same H H' → E (.ref a.e_NoWishes) none H') ∨
  (crowdedL n ws = none ∧ (nextL n ws = none → ∀ H' : Hp, Same H H' → Q .non H') ∧ ∀ f, nextL n ws = some f → ∀ (l : Addr) (H' : Hp), Same H H' → H' l = some (.tup (f.map V.int)) → Q (.ref l) H')
abbrev N_next_row : List Str := ["berths", "wishes", "row", "ship", "start"]
def t_next_row (K : PySem.W.Frag) (a : Ad) (E : XK) : TS :=
  (tSeq (tIfS (tNot (tB (tCall (sp_is_good K a) [] E (tCons (tVar 0) (tCons (tVar 1) tNil))))) (tRaise a.e_NoWishes E) tNext)
    (tSeq (tAsg (tCB (rTupleOf K) (tCons (tVar 1) tNil)) (gName 2))
    (tSeq (tFor (iRevR (tRg1 (tCB (rLenSq K) (tCons (tVar 2) tNil)))) (gName 3)
    (tSeq (tAsg (tOp (rCatA K) (tSl (rSlA K) (tVar 2) tNoPart (tPart (tVar 3))) (tTup (tCons (tOp rAddI (tOp (rIxT K) (tVar 2) (tVar 3)) (tC (.int 1))) tNil))) (gName 4))
    (tIfS (tAnd (tTest (tOp rLtI (tOp (rIxT K) (tVar 2) (tVar 3)) (tVar 0))) (tB (tCall (sp_is_good K a) [] E (tCons (tVar 0) (tCons (tVar 4) tNil))))) (tRet (tOp (rCatA K) (tVar 4) (tOp (rRepTA K) (tTup (tCons (tC (.int 1)) tNil)) (tOp rSubI (tCB (rLenSq K) (tCons (tVar 2) tNil)) (tCB (rLenSq K) (tCons (tVar 4) tNil)))))) tNext)))
    (tRet (tC .non)))))
theorem len_next_row {K : PySem.W.Frag} {a : Ad} {vs : List V} {H : Hp} {Q : VK} {E : XK} (h : sp_next_row K a vs H Q E) : vs.length = 2 := by
  obtain ⟨b, w, rfl, _⟩ := h
  rfl
theorem pu_next_row {K : PySem.W.Frag} {a : Ad} {vs : List V} {H : Hp} {Q : VK} {E : XK} (h : sp_next_row K a vs H Q E) : t_next_row K a E { nx := fun _ H' => Q .non H', rt := Q } (start N_next_row vs) H := by
  obtain ⟨b, w, rfl, h⟩ := h
  refine ⟨b, rfl, w, rfl, b, w, rfl, ChkW.imp h fun n ws p eb ew h1 h2 hs hl hb r H1 s1 => ⟨_, rfl, ?_⟩⟩
  subst eb
  subst ew
  cases ec : crowdedL n ws with
  | some c =>
    rcases r with ⟨_, q⟩ | ⟨z, _⟩
    · exact iteT (q H1 s1)
    · rw [ec] at z
      cases z
  | none =>
  have hq : (nextL n ws = none → ∀ H' : Hp, Same H H' → Q .non H') ∧ ∀ f, nextL n ws = some f → ∀ (l : Addr) (H' : Hp), Same H H' → H' l = some (.tup (f.map V.int)) → Q (.ref l) H' := by
    rcases r with ⟨z, _⟩ | ⟨_, q⟩
    · exact absurd ec z
    · exact q
  obtain ⟨q0, q1⟩ := hq
  refine iteF ?_
  change (tSeq (tAsg (tCB (rTupleOf K) (tCons (tVar 1) tNil)) (gName 2)) _) _ _ _
  refine tupOfS (p := p) (fun Q' q' => ⟨.ref p, rfl, q'⟩) (s1.seqA hs) fun t H2 s2 hT => ?_
  have s12 := s1.trans s2
  have hws := good_len (n := n) h1 ec fun x hx => (hb x hx).1
  refine ⟨.ref t, rfl, t, _, rfl, .inr hT, _, rfl, by omega, by omega, by omega, by rw [List.length_map]; omega, ?_⟩
  have en : ((((ws.map V.int).length : Nat) : Int) - 0).toNat = ws.length := by
    rw [List.length_map]
    omega
  rw [en]
  refine for_rangeC (fun i σ H' => (∃ y1 y2, σ = [some (.int n), some (.ref p), some (.ref t), y1, y2]) ∧ Same H2 H' ∧ nextL n ws = nextF n ws (ws.length - i)) ⟨⟨none, none, rfl⟩, Same.refl _, rfl⟩ ?_ ?_
  · rintro i σ H' hi ⟨⟨y1, y2, rfl⟩, s3, hN⟩
    obtain ⟨s, es⟩ : ∃ s, ws.length - i = s + 1 := ⟨ws.length - i - 1, by omega⟩
    have ev : 0 + ((ws.length : Nat) : Int) - 1 + ((i : Nat) : Int) * -1 = (s : Int) := by omega
    rw [ev]
    have hsl : s < ws.length := by omega
    have hT3 := s3.seqT hT
    -- start
    refine ⟨.ref t, rfl, .int s, rfl, s, rfl, slA_of hT3 fun l1 H4 s4 e4 => ?_⟩
    rw [cut_takeN] at e4
    have hT4 := s4.seqT hT3
    refine ⟨.ref t, rfl, .int s, rfl, t, _, s, .int (ws.getD s 0), rfl, rfl, hT4, int_at hsl, _, 1, rfl, rfl, l1000 (by show 1 ≤ 1000; decide), fun p2 np2 => ?_⟩
    refine catX_of ((same_new np2).seqT e4) upd_same (.inl (fun z => by cases z)) (by rw [List.length_take, List.length_map]; show _ + 1 ≤ 1000; omega) fun st H5 s5 e5x => ?_
    have e5x : H5 st = some (.tup ((upTo1 ws s).map V.int)) := by
      unfold upTo1
      rw [List.map_append, List.map_take]
      exact e5x
    have e5 := sqT_of (K := K) e5x
    have s25 := ((s4.trans (same_new np2)).trans s5)
    have hT5 := s25.seqT hT3
    refine ⟨.ref t, rfl, .int s, rfl, t, _, s, .int (ws.getD s 0), rfl, rfl, hT5, int_at hsl, .int n, rfl, _, n, rfl, rfl, _, rfl, ite2 (fun c => ?_) (fun c => ?_)⟩
    · have c : ws.getD s 0 < (n : Int) := of_decide_eq_true c
      have hsm : ws.getD s 0 ∈ ws := by
        rw [List.getD_eq_getElem?_getD, List.getElem?_eq_getElem hsl]
        exact List.getElem_mem hsl
      have hbs : ∀ x ∈ upTo1 ws s, 1 ≤ x ∧ x ≤ n := fun x hx => by
        unfold upTo1 at hx
        rcases List.mem_append.mp hx with z | z
        · exact hb x (List.mem_of_mem_take z)
        · rw [List.mem_singleton.mp z]
          have := hb _ hsm
          omega
      have hls : (upTo1 ws s).length = s + 1 := by
        unfold upTo1
        rw [List.length_append, List.length_take]
        simp
        omega
      refine ⟨.int n, rfl, .ref st, rfl, _, _, rfl, ChkW.ok h1 h2 (.inr e5) (by rw [hls]; omega) hbs fun H6 s6 => ⟨_, rfl, ?_⟩⟩
      cases ed : crowdedL n (upTo1 ws s) with
      | some d =>
        refine iteF ⟨⟨_, _, rfl⟩, (s3.trans s25).trans s6, ?_⟩
        rw [hN, es, show ws.length - (i + 1) = s by omega]
        refine nextF_no ?_
        unfold upB
        rw [ed, decide_eq_true c]
        rfl
      | none =>
        have up : upB n ws s = true := by
          unfold upB
          rw [ed, decide_eq_true c]
          rfl
        have ef : nextL n ws = some (upTo1 ws s ++ List.replicate (ws.length - (s + 1)) 1) := by
          rw [hN, es]
          unfold nextF
          rw [if_pos up]
        have e6 := s6.seqT e5
        have hT6 := s6.seqT hT5
        refine iteT ⟨.ref st, rfl, ?_⟩
        change (tOp (rRepTA K) (tTup (tCons (tC (.int 1)) tNil)) (tOp rSubI (tCB (rLenSq K) (tCons (tVar 2) tNil)) (tCB (rLenSq K) (tCons (tVar 4) tNil)))) _ _ _
        refine ones_of (K := K) (k := ws.length - (s + 1)) (by omega) (fun H7 s7 Q' q' => ⟨.ref t, rfl, t, _, rfl, .inr (s7.seqT hT6), .ref st, rfl, st, _, rfl, .inr (s7.seqT e6), _, _, rfl, rfl, ?_⟩) fun lo H7 s7 e7 => ?_
        · have ek : (((ws.map V.int).length : Nat) : Int) - ((((upTo1 ws s).map V.int).length : Nat) : Int) = ((ws.length - (s + 1) : Nat) : Int) := by
            rw [List.length_map, List.length_map, hls]
            omega
          show Q' (.int ((((ws.map V.int).length : Nat) : Int) - ((((upTo1 ws s).map V.int).length : Nat) : Int))) H7
          rw [ek]
          exact q'
        · refine catX_of (s7.seqT e6) e7 (.inr (s7 _ _ (s6 _ _ e5x))) (by rw [List.length_map, List.length_map, hls, List.length_replicate]; omega) fun lr H8 s8 e8 => ?_
          rw [← List.map_append] at e8
          exact q1 _ ef lr H8 (((((s12.trans s3).trans s25).trans s6).trans s7).trans s8) e8
    · have c : ¬ ws.getD s 0 < (n : Int) := fun z => c (decide_eq_true z)
      refine iteF ⟨⟨_, _, rfl⟩, s3.trans s25, ?_⟩
      rw [hN, es, show ws.length - (i + 1) = s by omega]
      refine nextF_no ?_
      unfold upB
      rw [decide_eq_false c]
      rfl
  · rintro σ H' ⟨⟨y1, y2, rfl⟩, s3, hN⟩
    rw [Nat.sub_self] at hN
    exact q0 hN H' (s12.trans s3)

/-! ### what the laws read of a script -/
def cellAt (ns : List Int) (k : Int) : Int := ns.getD k.toNat 0
theorem cut_drop (xs : List V) (k : Nat) : cutV xs (some (k : Int)) none = xs.drop k := by
  unfold cutV
  rw [HT.sIx_nat, HT.sIx_none]
  by_cases h : k ≤ xs.length
  · rw [Nat.min_eq_left h]
    exact List.take_of_length_le (by rw [List.length_drop]; omega)
  · rw [Nat.min_eq_right (by omega), Nat.sub_self, List.take_zero, List.drop_eq_nil_of_le (by omega)]
theorem cut2 (xs : List V) : cutV xs (some 2) none = xs.drop 2 := cut_drop xs 2
theorem atI_lit (xs : List V) (j : Nat) {v : V} (h : xs[j]? = some v) : atI xs (j : Int) = some v := atI_nat h
def sp_l_cell_at (K : PySem.W.Frag) : Sp := fun vs H Q _ => ∃ (s : Addr) (ns : List Int) (k : Int), vs = [.ref s, .int k] ∧ SqL K H s (ns.map V.int) ∧ 0 ≤ k ∧ Q (.int (cellAt ns k)) H
abbrev N_l_cell_at : List Str := ["_law_script", "_law_k"]
def t_l_cell_at (K : PySem.W.Frag) (a : Ad) : TS :=
  (tSeq (tIfS (tTest (tOp rLtI (tVar 1) (tCB (rLenSq K) (tCons (tVar 0) tNil)))) (tRet (tOp (rIxL K) (tVar 0) (tVar 1))) tNext)
    (tRet (tC (.int 0))))
theorem len_l_cell_at {K : PySem.W.Frag} {vs : List V} {H : Hp} {Q : VK} {E : XK} (h : sp_l_cell_at K vs H Q E) : vs.length = 2 := by
  obtain ⟨s, ns, k, rfl, _⟩ := h
  rfl
theorem pu_l_cell_at {K : PySem.W.Frag} {a : Ad} {vs : List V} {H : Hp} {Q : VK} {E : XK} (h : sp_l_cell_at K vs H Q E) : t_l_cell_at K a { nx := fun _ H' => Q .non H', rt := Q } (start N_l_cell_at vs) H := by
  obtain ⟨s, ns, k, rfl, hs, h0, q⟩ := h
  refine ⟨.int k, rfl, .ref s, rfl, s, _, rfl, .inl hs, _, _, rfl, rfl, _, rfl, ?_⟩
  by_cases h : k < ((ns.map V.int).length : Nat)
  · rw [decide_eq_true h]
    rw [List.length_map] at h
    have e : ns[k.toNat]? = some (cellAt ns k) := by
      unfold cellAt
      rw [List.getD_eq_getElem?_getD, List.getElem?_eq_getElem (by omega)]
      rfl
    refine iteT ⟨.ref s, rfl, .int k, rfl, s, _, k, _, rfl, rfl, hs, at_of (j := k.toNat) (by omega) (by rw [List.getElem?_map, e]; rfl), q⟩
  · rw [decide_eq_false h]
    rw [List.length_map] at h
    have e : cellAt ns k = 0 := by
      unfold cellAt
      rw [List.getD_eq_getElem?_getD, List.getElem?_eq_none (by omega)]
      rfl
    rw [e] at q
    exact iteF q
def sp_l_quay (K : PySem.W.Frag) : Sp := fun vs H Q _ => ∃ (s : Addr) (ns : List Int), vs = [.ref s] ∧ SqL K H s (ns.map V.int) ∧ ∀ (n : Nat) (H' : Hp), 1 ≤ n → n ≤ 400 → Same H H' → Q (.int n) H'
abbrev N_l_quay : List Str := ["_law_script"]
def t_l_quay (K : PySem.W.Frag) (a : Ad) : TS :=
  (tRet (tOp rAddI (tC (.int 1)) (tOp rModI (tCall (sp_l_cell_at K) [] E0 (tCons (tVar 0) (tCons (tC (.int 0)) tNil))) (tOp (rIxL K) (tLst (tCons (tC (.int 6)) (tCons (tC (.int 40)) (tCons (tC (.int 400)) tNil)))) (tOp rModI (tCall (sp_l_cell_at K) [] E0 (tCons (tVar 0) (tCons (tC (.int 1)) tNil))) (tC (.int 3)))))))
theorem len_l_quay {K : PySem.W.Frag} {vs : List V} {H : Hp} {Q : VK} {E : XK} (h : sp_l_quay K vs H Q E) : vs.length = 1 := by
  obtain ⟨s, ns, rfl, _⟩ := h
  rfl
theorem p3 : (0 : Int) < 3 := by decide
theorem p4 : (0 : Int) < 4 := by decide
theorem d2 {n : Int} : CDiv n 2 := ⟨by decide, by decide⟩
theorem d3 {n : Int} : CDiv n 3 := ⟨by decide, by decide⟩
theorem d12 {n : Int} : CDiv n 12 := ⟨by decide, by decide⟩
theorem pick3 (c : Int) (x y z : V) : ∃ v, atI [x, y, z] (c % 3) = some v ∧ (v = x ∨ v = y ∨ v = z) := by
  have h : c % 3 = 0 ∨ c % 3 = 1 ∨ c % 3 = 2 := by omega
  rcases h with h | h | h <;> rw [h]
  · exact ⟨x, rfl, .inl rfl⟩
  · exact ⟨y, rfl, .inr (.inl rfl)⟩
  · exact ⟨z, rfl, .inr (.inr rfl)⟩
theorem pick4 (c : Int) (x y z u : V) : ∃ v, atI [x, y, z, u] (c % 4) = some v ∧ (v = x ∨ v = y ∨ v = z ∨ v = u) := by
  have h : c % 4 = 0 ∨ c % 4 = 1 ∨ c % 4 = 2 ∨ c % 4 = 3 := by omega
  rcases h with h | h | h | h <;> rw [h]
  · exact ⟨x, rfl, .inl rfl⟩
  · exact ⟨y, rfl, .inr (.inl rfl)⟩
  · exact ⟨z, rfl, .inr (.inr (.inl rfl))⟩
  · exact ⟨u, rfl, .inr (.inr (.inr rfl))⟩
theorem pu_l_quay {K : PySem.W.Frag} {a : Ad} {vs : List V} {H : Hp} {Q : VK} {E : XK} (h : sp_l_quay K vs H Q E) : t_l_quay K a { nx := fun _ H' => Q .non H', rt := Q } (start N_l_quay vs) H := by
  obtain ⟨s, ns, rfl, hs, q⟩ := h
  refine ⟨.ref s, rfl, s, ns, 0, rfl, hs, Int.le_refl _, by decide, fun l nl => ?_⟩
  have s1 := same_new nl (o := .lst [.int 6, .int 40, .int 400])
  refine ⟨.ref s, rfl, s, ns, 1, rfl, s1.seq hs, by decide, _, 3, rfl, rfl, p3, ?_⟩
  obtain ⟨v, e, hv⟩ := pick3 (cellAt ns 1) (.int 6) (.int 40) (.int 400)
  obtain ⟨m, rfl, m1, m2⟩ : ∃ m, v = .int m ∧ 1 ≤ m ∧ m ≤ 400 := by
    rcases hv with h | h | h <;> subst h <;> exact ⟨_, rfl, by decide, by decide⟩
  refine ⟨l, _, _, _, rfl, rfl, sqL_of upd_same, e, _, m, rfl, rfl, (by show 0 < m; omega), 1, _, rfl, rfl, ?_⟩
  have b1 := Int.emod_nonneg (cellAt ns 0) (show m ≠ 0 by omega)
  have b2 := Int.emod_lt_of_pos (cellAt ns 0) (show 0 < m by omega)
  have e2 : 1 + cellAt ns 0 % m = ((1 + cellAt ns 0 % m).toNat : Nat) := by omega
  show Q (.int (1 + cellAt ns 0 % m)) _
  rw [e2]
  exact q _ _ (by omega) (by omega) s1
/-! ### what the law makes and asks itself -/
theorem tyX_tup {K : PySem.W.Frag} {H : Hp} {a : Addr} {xs : List V} (h : SqT K H a xs) : TyX K H (.ref a) (.type "tuple") := by
  rcases h with (h | ⟨ob, h⟩) | ⟨o, its, n, hk, hc, _⟩
  · exact .base (.tup h)
  · exact .fTuple h
  · exact .kTuple hk hc
theorem kit_tt {K : PySem.W.Frag} : PySem.W.kitOne K (.type "tuple") (.type "tuple") = some true := kit_ty (by decide +kernel)
def sp_l_good (K : PySem.W.Frag) : Sp := fun vs H Q _ => ∃ (n : Nat) (w : Addr) (ws : List Int), vs = [.int n, .ref w] ∧ SqT K H w (ws.map V.int) ∧ n ≤ 400 ∧ ws.length ≤ 400 ∧ ∀ H' : Hp, Same H H' → Q (.bl (goodS n (sortI ws))) H'
abbrev N_l_good : List Str := ["_law_berths", "_law_wishes", "_law_order", "_law_place"]
def t_l_good (K : PySem.W.Frag) (a : Ad) : TS :=
  (tSeq (tAsg (tCB (rSortedT K) (tCons (tVar 1) tNil)) (gName 2))
    (tSeq (tFor (iRng1 (tCons (tCB (rLenSq K) (tCons (tVar 2) tNil)) tNil)) (gName 3)
    (tIfS (tTest (tOp rGtI (tOp (rIxL K) (tVar 2) (tVar 3)) (tOp rAddI (tOp rAddI (tOp rSubI (tVar 0) (tCB (rLenSq K) (tCons (tVar 2) tNil))) (tVar 3)) (tC (.int 1))))) (tRet (tC (.bl false))) tNext))
    (tRet (tC (.bl true)))))
theorem len_l_good {K : PySem.W.Frag} {vs : List V} {H : Hp} {Q : VK} {E : XK} (h : sp_l_good K vs H Q E) : vs.length = 2 := by
  obtain ⟨n, w, ws, rfl, _⟩ := h
  rfl
theorem goodS_step {n i : Nat} {o : List Int} (h : (List.range i).all (fun (j : Nat) => decide (o.getD j 0 ≤ (n : Int) - o.length + j + 1)) = true) (c : o.getD i 0 ≤ (n : Int) - o.length + i + 1) : (List.range (i + 1)).all (fun (j : Nat) => decide (o.getD j 0 ≤ (n : Int) - o.length + j + 1)) = true := by
  rw [List.range_succ, List.all_append, h, Bool.true_and]
  show (decide (o.getD i 0 ≤ (n : Int) - o.length + i + 1) && true) = true
  rw [decide_eq_true c]
  rfl
theorem goodS_fail {n i : Nat} {o : List Int} (hi : i < o.length) (c : ¬ o.getD i 0 ≤ (n : Int) - o.length + i + 1) : goodS n o = false := by
  unfold goodS
  cases e : (List.range o.length).all (fun (j : Nat) => decide (o.getD j 0 ≤ (n : Int) - o.length + j + 1)) with
  | false => rfl
  | true =>
    rw [List.all_eq_true] at e
    exact absurd (of_decide_eq_true (e i (List.mem_range.mpr hi))) c
theorem pu_l_good {K : PySem.W.Frag} {a : Ad} {vs : List V} {H : Hp} {Q : VK} {E : XK} (h : sp_l_good K vs H Q E) : t_l_good K a { nx := fun _ H' => Q .non H', rt := Q } (start N_l_good vs) H := by
  obtain ⟨n, w, ws, rfl, hs, hn, hl, q⟩ := h
  refine ⟨.ref w, rfl, w, ws, rfl, hs, fun ns' p hp hs' np => ?_⟩
  rw [sortI_uniq hp hs']
  have so : (sortI ws).length = ws.length := (sortI_perm ws).length_eq
  have e1 : (upd H p (.lst ((sortI ws).map V.int))) p = some (.lst ((sortI ws).map V.int)) := upd_same
  have s1 : Same H (upd H p (.lst ((sortI ws).map V.int))) := same_new np
  generalize (upd H p (.lst ((sortI ws).map V.int))) = H1 at *
  generalize sortI ws = o at *
  have sq := sqL_of (K := K) e1
  refine ⟨.ref p, rfl, p, _, rfl, .inl sq, _, rfl, by omega, by rw [List.length_map]; omega, ?_⟩
  have en : (((o.map V.int).length : Nat) : Int).toNat = o.length := by rw [List.length_map]; omega
  rw [en]
  refine for_range (fun i σ H' => (∃ y, σ = [some (.int n), some (.ref w), some (.ref p), y]) ∧ H' = H1 ∧ (List.range i).all (fun (j : Nat) => decide (o.getD j 0 ≤ (n : Int) - o.length + j + 1)) = true) ⟨⟨none, rfl⟩, rfl, rfl⟩ ?_ ?_
  · rintro i σ H' hi ⟨⟨y, rfl⟩, rfl, ha⟩
    rw [show (0 : Int) + (i : Int) = i by omega]
    refine ⟨.ref p, rfl, .int i, rfl, p, _, i, .int (o.getD i 0), rfl, rfl, sq, int_at hi, .int n, rfl, .ref p, rfl, p, _, rfl, .inl sq, _, _, rfl, rfl, .int i, rfl, _, _, rfl, rfl, _, 1, rfl, rfl, _, _, rfl, rfl, _, rfl, ite2 (fun c => ?_) (fun c => ?_)⟩
    · have c : (n : Int) - ((o.map V.int).length : Nat) + i + 1 < o.getD i 0 := of_decide_eq_true c
      rw [List.length_map] at c
      have e : goodS n o = false := goodS_fail hi (by omega)
      rw [e] at q
      exact q _ s1
    · have c : ¬ (n : Int) - ((o.map V.int).length : Nat) + i + 1 < o.getD i 0 := fun z => c (decide_eq_true z)
      rw [List.length_map] at c
      exact ⟨⟨_, rfl⟩, rfl, goodS_step ha (by omega)⟩
  · rintro σ H' ⟨⟨y, rfl⟩, rfl, ha⟩
    have e : goodS n o = true := ha
    rw [e] at q
    exact q _ s1
/-! lowered wishes -/
def lowL (n k : Nat) (cs : List Int) : List Int := (List.range k).map fun (j : Nat) => 1 + cs.getD j 0 % ((n : Int) - k + j + 1)
theorem low_bd {n k : Nat} {cs : List Int} (hk : k ≤ n) : ∀ x ∈ lowL n k cs, 1 ≤ x ∧ x ≤ n := fun x hx => by
  obtain ⟨j, hj, rfl⟩ := List.mem_map.mp hx
  have hj := List.mem_range.mp hj
  have b1 := Int.emod_nonneg (cs.getD j 0) (show (n : Int) - k + j + 1 ≠ 0 by omega)
  have b2 := Int.emod_lt_of_pos (cs.getD j 0) (show (0 : Int) < (n : Int) - k + j + 1 by omega)
  omega
theorem cnt_climb {f : Nat → Int} {c b : Int} : ∀ k : Nat, (∀ j, j < k → f j ≤ c + j) → (cntGe ((List.range k).map f) b) ≤ ((k : Int) + c - b).toNat
  | 0, _ => Nat.zero_le _
  | k + 1, h => by
    have ih := cnt_climb (f := f) (c := c) (b := b) k fun j hj => h j (by omega)
    have hk := h k (by omega)
    rw [List.range_succ, List.map_append, List.map_singleton, cntGe_append, cntGe_one]
    by_cases d : b ≤ f k
    · rw [if_pos d]
      omega
    · rw [if_neg d]
      omega
theorem low_good {n k : Nat} {cs : List Int} (hk : k ≤ n) : Good n (lowL n k cs) := good_def.mpr fun b h1 h2 => by
  have := cnt_climb (f := fun (j : Nat) => 1 + cs.getD j 0 % ((n : Int) - k + j + 1)) (c := (n : Int) - k + 1) (b := b) k fun j hj => by
    have b2 := Int.emod_lt_of_pos (cs.getD j 0) (show (0 : Int) < (n : Int) - k + j + 1 by omega)
    omega
  unfold lowL
  omega
theorem good_perm {n : Nat} {a b : List Int} (p : a.Perm b) (h : Good n a) : Good n b := good_def.mpr fun x h1 h2 => by
  rw [← cntGe_perm p]
  exact good_def.mp h x h1 h2
def sp_l_lowered (K : PySem.W.Frag) : Sp := fun vs H Q _ => ∃ (c : Addr) (cs : List Int) (n k : Nat), vs = [.ref c, .int n, .int k] ∧ SqL K H c (cs.map V.int) ∧ cs.length ≤ 63 ∧ k ≤ cs.length ∧ k ≤ n ∧ n ≤ 400 ∧
  ∀ (l : Addr) (H' : Hp) (ws : List Int), Same H H' → H' l = some (.tup (ws.map V.int)) → ws.length = k → (∀ x ∈ ws, 1 ≤ x ∧ x ≤ n) → Good n ws → Q (.ref l) H'
abbrev N_l_lowered : List Str := ["_law_cells", "_law_berths", "_law_ships", "_law_wishes", "_law_place", "_law_cell", "_law_turn"]
def t_l_lowered (K : PySem.W.Frag) (a : Ad) : TS :=
  (tSeq (tAsg (tLst tNil) (gName 3))
    (tSeq (tFor (iEnum K (tCons (tSl (rSlL K) (tVar 0) tNoPart (tPart (tVar 2))) tNil)) (gTup K 2 (gCons (gName 4) (gCons (gName 5) gNil)))
    (tDrop (tBM K "list" rAppend (tVar 3) (tCons (tOp rAddI (tC (.int 1)) (tOp rModI (tVar 5) (tOp rAddI (tOp rAddI (tOp rSubI (tVar 1) (tCB (rLenSq K) (tCons (tSl (rSlL K) (tVar 0) tNoPart (tPart (tVar 2))) tNil))) (tVar 4)) (tC (.int 1))))) tNil))))
    (tSeq (tAsg (tCB (rSum K) (tCons (tLc (iList K (tSl (rSlL K) (tVar 0) tNoPart (tPart (tC (.int 5))))) (gName 5) tYes (tOp rModI (tVar 5) (tC (.int 7))) [5]) tNil)) (gName 6))
    (tRet (tCB (rTupleOf K) (tCons (tOp rCat (tSl (rSlL K) (tVar 3) (tPart (tOp rModI (tVar 6) (tCB rMax2 (tCons (tC (.int 1)) (tCons (tCB (rLenSq K) (tCons (tVar 3) tNil)) tNil))))) tNoPart) (tSl (rSlL K) (tVar 3) tNoPart (tPart (tOp rModI (tVar 6) (tCB rMax2 (tCons (tC (.int 1)) (tCons (tCB (rLenSq K) (tCons (tVar 3) tNil)) tNil))))))) tNil))))))
theorem len_l_lowered {K : PySem.W.Frag} {vs : List V} {H : Hp} {Q : VK} {E : XK} (h : sp_l_lowered K vs H Q E) : vs.length = 3 := by
  obtain ⟨c, cs, n, k, rfl, _⟩ := h
  rfl
theorem low_snoc {n k i : Nat} {cs : List Int} : (List.range (i + 1)).map (fun (j : Nat) => 1 + cs.getD j 0 % ((n : Int) - k + j + 1)) = (List.range i).map (fun (j : Nat) => 1 + cs.getD j 0 % ((n : Int) - k + j + 1)) ++ [1 + cs.getD i 0 % ((n : Int) - k + i + 1)] := by
  rw [List.range_succ, List.map_append]
  rfl
theorem pu_l_lowered {K : PySem.W.Frag} {a : Ad} {vs : List V} {H : Hp} {Q : VK} {E : XK} (h : sp_l_lowered K vs H Q E) : t_l_lowered K a { nx := fun _ H' => Q .non H', rt := Q } (start N_l_lowered vs) H := by
  obtain ⟨c, cs, n, k, rfl, hs, hcl, hkc, hkn, hn, q⟩ := h
  refine ⟨Nat.zero_le _, fun l nl => ?_⟩
  have s1 : Same H (upd H l (.lst [])) := same_new nl
  refine ⟨.ref c, rfl, .int k, rfl, k, rfl, c, _, rfl, s1.seq hs, fun c1 nc1 => ?_⟩
  have nlc : l ≠ c1 := ne_of_none upd_same nc1
  have nc1H : H c1 = none := s1.free nc1
  have ek : cutV (cs.map V.int) none (some (k : Int)) = (cs.take k).map V.int := by rw [cut_takeN, List.map_take]
  rw [ek]
  have s2 := s1.store nc1H (o := .lst ((cs.take k).map V.int))
  have e2 : (upd (upd H l (.lst [])) c1 (.lst ((cs.take k).map V.int))) c1 = some (.lst ((cs.take k).map V.int)) := upd_same
  have el2 : (upd (upd H l (.lst [])) c1 (.lst ((cs.take k).map V.int))) l = some (.lst []) := by rw [upd_ne nlc]; exact upd_same
  generalize (upd (upd H l (.lst [])) c1 (.lst ((cs.take k).map V.int))) = H2 at *
  have ln : ((cs.take k).map V.int).length = k := by
    rw [List.length_map, List.length_take]
    omega
  refine ⟨c1, _, rfl, sqL_of e2, ?_⟩
  refine for_it (walk_enum (K := K) (a := c1) (xs := (cs.take k).map V.int)) (fun i σ H' => (∃ y4 y5, σ = [some (.ref c), some (.int n), some (.int k), some (.ref l), y4, y5, none]) ∧ Same H H' ∧ H' c1 = some (.lst ((cs.take k).map V.int)) ∧ H' l = some (.lst (((List.range i).map (fun (j : Nat) => 1 + cs.getD j 0 % ((n : Int) - k + j + 1))).map V.int)))
    ⟨⟨none, none, rfl⟩, s2, e2, el2⟩ (fun i σ H' _ p => sqL_of p.2.2.1) ?_ ?_
  · rintro i x σ H' H'' hi ⟨⟨y4, y5, rfl⟩, s3, e3, el3⟩ hy
    obtain ⟨T, u1, u2, rfl, nT, rfl, f1, f2⟩ := hy
    rw [ln] at hi
    replace f1 : some (V.int (i : Nat)) = some u1 := f1
    replace f2 : ((cs.take k).map V.int)[i]? = some u2 := f2
    cases f1
    have f3 : ((cs.take k).map V.int)[i]? = some (.int (cs.getD i 0)) := by
      rw [List.getElem?_map, List.getElem?_take_of_lt hi, List.getD_eq_getElem?_getD, List.getElem?_eq_getElem (by omega)]
      rfl
    rw [f3] at f2
    cases f2
    have s4 : Same H (upd H' T (.tup [.int (i : Nat), .int (cs.getD i 0)])) := s3.trans (same_new nT)
    have e4 := same_new nT (o := .tup [.int (i : Nat), .int (cs.getD i 0)]) _ _ e3
    have el4 := same_new nT (o := .tup [.int (i : Nat), .int (cs.getD i 0)]) _ _ el3
    have eT : (upd H' T (.tup [.int (i : Nat), .int (cs.getD i 0)])) T = some (.tup [.int (i : Nat), .int (cs.getD i 0)]) := upd_same
    generalize (upd H' T (.tup [.int (i : Nat), .int (cs.getD i 0)])) = H4 at *
    refine ⟨T, _, rfl, sqT_of eT, rfl, _, _, rfl, _, _, rfl, rfl, ?_⟩
    refine ⟨.ref l, rfl, .inl ⟨rfl, _, sqL_of el4⟩, .int (cs.getD i 0), rfl, .int n, rfl, .ref c, rfl, .int k, rfl, k, rfl, c, _, rfl, s4.seq hs, fun c2 nc2 => ?_⟩
    rw [ek]
    have el5 := same_new nc2 (o := .lst ((cs.take k).map V.int)) _ _ el4
    have s5 : Same H (upd H4 c2 (.lst ((cs.take k).map V.int))) := s4.trans (same_new nc2)
    have ep : 0 < (n : Int) - (((cs.take k).map V.int).length : Nat) + (i : Nat) + 1 := by
      rw [ln]
      omega
    refine ⟨c2, _, rfl, .inl (sqL_of upd_same), _, _, rfl, rfl, .int (i : Nat), rfl, _, _, rfl, rfl, _, 1, rfl, rfl, _, _, rfl, rfl, ep, 1, _, rfl, rfl, l, _, _, rfl, rfl, el5, by rw [List.length_map, List.length_map, List.length_range]; exact small1000 (by omega), ?_⟩
    refine ⟨⟨_, _, rfl⟩, s5.store nl, ?_, ?_⟩
    · rw [upd_ne nlc.symm]
      exact same_new nc2 _ _ e4
    · rw [upd_same, low_snoc, List.map_append, ln]
      rfl
  · rintro σ H' ⟨⟨y4, y5, rfl⟩, s3, e3, el3⟩
    rw [ln] at el3
    have el3 : H' l = some (.lst ((lowL n k cs).map V.int)) := el3
    have hll : (lowL n k cs).length = k := by simp [lowL]
    -- by how many they are turned
    have turnOk : ∀ (D : Ends) (r : TS), (∀ (t : Int) (H4 : Hp), Same H' H4 → r D [some (.ref c), some (.int n), some (.int k), some (.ref l), y4, y5, some (.int t)] H4) →
        (tSeq (tAsg (tCB (rSum K) (tCons (tLc (iList K (tSl (rSlL K) (tVar 0) tNoPart (tPart (tC (.int 5))))) (gName 5) tYes (tOp rModI (tVar 5) (tC (.int 7))) [5]) tNil)) (gName 6)) r) D [some (.ref c), some (.int n), some (.int k), some (.ref l), y4, y5, none] H' := by
      intro D r hr
      refine ⟨.ref c, rfl, 5, rfl, c, _, rfl, s3.seq hs, fun c3 nc3 => ⟨c3, rfl, ⟨_, sqL_of upd_same⟩, ?_⟩⟩
      have e5 : cutV (cs.map V.int) none (some (5 : Int)) = (cs.take 5).map V.int := by rw [show (5 : Int) = ((5 : Nat) : Int) from rfl, cut_takeN, List.map_take]
      rw [e5]
      refine lc_pure (walk_list (K := K) (a := c3) (xs := (cs.take 5).map V.int)) (by rw [List.length_map, List.length_take]; exact small1000 (by omega)) (cs.take 5) (by rw [List.length_map]) (fun _ => true) (fun x => V.int (x % 7)) (fun H4 s4 => s4.seq (sqL_of upd_same)) ?_ ?_
      · intro j x v H5 H6 R hx2 s5 hy kk
        obtain ⟨rfl, hv⟩ := hy
        rw [List.getElem?_map, hx2] at hv
        cases hv
        refine ⟨rfl, ?_⟩
        exact iteT (B := R false .non H6) ⟨.int x, rfl, x, 7, rfl, rfl, (by decide : (0 : Int) < 7), kk _ _ (Same.refl _) fun _ => rfl⟩
      · intro D2 H4 nD s4 eD
        rw [List.filter_eq_self.mpr (fun _ _ => rfl)] at eD
        have eD : H4 D2 = some (.lst (((cs.take 5).map fun x => x % 7).map V.int)) := by rw [eD, List.map_map]; rfl
        exact ⟨D2, _, rfl, sqL_of eD, hr _ H4 ((same_new nc3).trans s4)⟩
    refine turnOk _ _ fun t H4 s4 => ?_
    have el4 := s4 _ _ el3
    have s34 := s3.trans s4
    have hm : (0 : Int) < (if (((lowL n k cs).map V.int).length : Nat) > (1 : Int) then ((((lowL n k cs).map V.int).length : Nat) : Int) else 1) := by split <;> omega
    obtain ⟨d, ed, hd⟩ : ∃ d : Nat, t % (if (((lowL n k cs).map V.int).length : Nat) > (1 : Int) then ((((lowL n k cs).map V.int).length : Nat) : Int) else 1) = (d : Int) ∧ d ≤ k := by
      obtain ⟨M, hM⟩ : ∃ M : Int, (if (((lowL n k cs).map V.int).length : Nat) > (1 : Int) then ((((lowL n k cs).map V.int).length : Nat) : Int) else 1) = M := ⟨_, rfl⟩
      rw [hM] at hm ⊢
      have b1 := Int.emod_nonneg t (show M ≠ 0 by omega)
      have b2 := Int.emod_lt_of_pos t hm
      have hM2 : (if (k : Int) > 1 then (k : Int) else 1) = M := by
        rw [List.length_map, hll] at hM
        exact hM
      refine ⟨(t % M).toNat, by omega, ?_⟩
      by_cases z : (k : Int) > 1
      · rw [if_pos z] at hM2
        omega
      · rw [if_neg z] at hM2
        omega
    -- the tuple
    have e1 : ∀ H5, Same H4 H5 → SqL K H5 l ((lowL n k cs).map V.int) := fun H5 s5 => s5.seq (sqL_of el4)
    refine ⟨.ref l, rfl, .int t, rfl, .ref l, rfl, l, _, rfl, .inl (e1 _ (Same.refl _)), 1, _, rfl, t, _, rfl, rfl, hm, _, rfl, l, _, rfl, e1 _ (Same.refl _), fun p1 np1 => ?_⟩
    refine ⟨.ref l, rfl, .int t, rfl, .ref l, rfl, l, _, rfl, .inl (e1 _ (same_new np1)), 1, _, rfl, t, _, rfl, rfl, hm, _, rfl, l, _, rfl, e1 _ (same_new np1), fun p2 np2 => ?_⟩
    refine ⟨p1, p2, _, _, rfl, rfl, same_new np2 _ _ upd_same, upd_same, ?_, fun p3 np3 => ?_⟩
    · have c1 := cutV_length ((lowL n k cs).map V.int) (some (t % (if (((lowL n k cs).map V.int).length : Nat) > (1 : Int) then ((((lowL n k cs).map V.int).length : Nat) : Int) else 1))) none
      have c2 := cutV_length ((lowL n k cs).map V.int) none (some (t % (if (((lowL n k cs).map V.int).length : Nat) > (1 : Int) then ((((lowL n k cs).map V.int).length : Nat) : Int) else 1)))
      have c3 : ((lowL n k cs).map V.int).length ≤ 63 := by rw [List.length_map, hll]; omega
      exact l1000 (Nat.le_trans (Nat.add_le_add c1 c2) (by omega))
    · refine ⟨p3, _, rfl, .inl ⟨sqL_of upd_same, fun p4 np4 => ?_⟩⟩
      refine q p4 _ ((lowL n k cs).drop d ++ (lowL n k cs).take d) ((((s34.trans (same_new np1)).trans (same_new np2)).trans (same_new np3)).trans (same_new np4)) ?_ ?_ ?_ ?_
      · rw [upd_same]
        refine congrArg (fun z => some (HO.tup z)) ?_
        show cutV _ (some (t % (if (((lowL n k cs).map V.int).length : Nat) > (1 : Int) then ((((lowL n k cs).map V.int).length : Nat) : Int) else 1))) none ++ cutV _ none (some (t % (if (((lowL n k cs).map V.int).length : Nat) > (1 : Int) then ((((lowL n k cs).map V.int).length : Nat) : Int) else 1))) = _
        rw [ed, cut_drop, cut_takeN, List.map_append, List.map_drop, List.map_take]
      · rw [List.length_append, List.length_drop, List.length_take, hll]
        omega
      · intro x hx
        rcases List.mem_append.mp hx with z | z
        · exact low_bd hkn x (List.mem_of_mem_drop z)
        · exact low_bd hkn x (List.mem_of_mem_take z)
      · refine good_perm (a := lowL n k cs) ?_ (low_good hkn)
        have := (List.perm_append_comm (l₁ := (lowL n k cs).drop d) (l₂ := (lowL n k cs).take d))
        rw [List.take_append_drop] at this
        exact this.symm
/-! refused -/
structure RefW (K : PySem.W.Frag) (a : Ad) : Prop where
  ex : PySem.W.exmOne K (.ref a.e_NoWishes) (.ref a.e_BerthError) = some true
  c : ExcC K a.e_NoWishes
  k0 : PySem.W.kitAny K (.ref a.e_NoWishes) [.ref a.e_NoCount, .ref a.e_NoQuay, .ref a.e_TooMany] = some false
  k1 : PySem.W.kitOne K (.ref a.e_NoWishes) (.ref a.e_NoWishes) = some true
  k2 : PySem.W.kitOne K (.ref a.e_NoWishes) (.type "ValueError") = some true
theorem kit3w {K : PySem.W.Frag} {t c1 c2 c3 : Value} (h1 : PySem.W.kitOne K t c1 = some false) (h2 : PySem.W.kitOne K t c2 = some false) (h3 : PySem.W.kitOne K t c3 = some false) : PySem.W.kitAny K t [c1, c2, c3] = some false :=
  kitAny_cons h1 (fun _ => kitAny_cons h2 (fun _ => kitAny_cons h3 (fun _ => rfl) (fun z => by cases z)) (fun z => by cases z)) (fun z => by cases z)
theorem call2S {sp : Sp} {W : WX} {D : Ends} {σ : L2.St} {H : Hp} {b w : V} (h0 : σ[0]? = some (some b)) (h1 : σ[1]? = some (some w)) (h : sp [b, w] H (fun _ H1 => D.nx σ H1) (WE W σ)) : (tDrop (tCallS sp (WE W) (tCons (tVar 0) (tCons (tVar 1) tNil)))) D σ H := ⟨b, h0, w, h1, h⟩
def sp_l_refused (K : PySem.W.Frag) (a : Ad) : Sp := fun vs H Q _ => ∃ (b w : V), vs = [b, w] ∧ (∀ (Q' : VK) (E' : XK), (∀ H' : Hp, Same H H' → E' (.ref a.e_NoWishes) none H') → sp_next_row K a [b, w] H Q' E') ∧ ∀ H' : Hp, Same H H' → Q (.bl true) H'
abbrev N_l_refused : List Str := ["_law_berths", "_law_wishes", "_law_caught", "e"]
def t_l_refused (K : PySem.W.Frag) (a : Ad) : TS :=
  (tSeq (tAsg (tC .non) (gName 2))
    (tSeq (tTryKeep K a.e_BerthError 3 2 fun W => (tDrop (tCallS (sp_next_row K a) (WE W) (tCons (tVar 0) (tCons (tVar 1) tNil)))))
    (tSeq (tIfS (tB (tCB (rIsiTE K) (tCons (tVar 2) (tCons (tTup (tCons (tC (.ref a.e_NoCount)) (tCons (tC (.ref a.e_NoQuay)) (tCons (tC (.ref a.e_TooMany)) tNil)))) tNil)))) (tRet (tC (.bl false))) tNext)
    (tRet (tAndV (tCB (rIsiE K) (tCons (tVar 2) (tCons (tC (.ref a.e_NoWishes)) tNil))) (tCB (rIsiE K) (tCons (tVar 2) (tCons (tC (.ty "ValueError")) tNil))))))))
theorem len_l_refused {K : PySem.W.Frag} {a : Ad} {vs : List V} {H : Hp} {Q : VK} {E : XK} (h : sp_l_refused K a vs H Q E) : vs.length = 2 := by
  obtain ⟨b, w, rfl, _⟩ := h
  rfl
theorem pu_l_refused {K : PySem.W.Frag} {a : Ad} (F : RefW K a) {vs : List V} {H : Hp} {Q : VK} {E : XK} (h : sp_l_refused K a vs H Q E) : t_l_refused K a { nx := fun _ H' => Q .non H', rt := Q } (start N_l_refused vs) H := by
  obtain ⟨b, w, rfl, hsp, q⟩ := h
  refine call2S (sp := sp_next_row K a) rfl rfl (hsp _ _ fun H0 s0 => ⟨F.ex, fun x nx => ?_⟩)
  have s1 : Same H (upd H0 x (ExK (.ref a.e_NoWishes) none x)) := s0.trans (same_new nx)
  refine ⟨.ref x, rfl, l1000 (by show 3 ≤ 1000; decide), fun tp ntp => ⟨.ref x, tp, _, _, _, false, rfl, upd_same, .cons (.own _) (.cons (.own _) (.cons (.own _) .nil)), .exc (same_new ntp _ _ upd_same) F.c, F.k0, false, rfl, iteF ?_⟩⟩
  refine ⟨.ref x, rfl, .ref x, _, _, _, true, rfl, .own _, .exc (same_new ntp _ _ upd_same) F.c, F.k1, true, rfl, iteT ?_⟩
  exact ⟨.ref x, rfl, .ref x, _, _, _, true, rfl, .ty _, .exc (same_new ntp _ _ upd_same) F.c, F.k2, q _ (s1.trans (same_new ntp))⟩

/-! ### the law: the next wishes -/
theorem dp_tup {K : PySem.W.Frag} {H : Hp} {p : Addr} {ns : List Int} (h : SqT K H p (ns.map V.int)) : Dp K H (.ref p) (PySem.W.Datum.toD (PySem.W.Tup.mk ns)) := .tup h (dp_ints ns)
/-- a list of tuples of k whole numbers -/
structure Oth (K : PySem.W.Frag) (H : Hp) (o : Addr) (ts : List Addr) (k : Nat) : Prop where
  e : H o = some (.lst (ts.map V.ref))
  t : ∀ t ∈ ts, ∃ ws : List Int, ws.length = k ∧ SqT K H t (ws.map V.int)
theorem Oth.same {K : PySem.W.Frag} {H H' : Hp} {o : Addr} {ts : List Addr} {k : Nat} (O : Oth K H o ts k) (s : Same H H') : Oth K H' o ts k := ⟨s _ _ O.e, fun t ht => by
  obtain ⟨ws, e, h⟩ := O.t t ht
  exact ⟨ws, e, s.seqT h⟩⟩
theorem seqT_store {K : PySem.W.Frag} {H : Hp} {o t : Addr} {xs ys zs : List V} (h : SqT K H t xs) (e : H o = some (.lst ys)) : SqT K (upd H o (.lst zs)) t xs := by
  rcases h with (h | ⟨ob, h⟩) | h
  · have ne : t ≠ o := fun z => by rw [z, e] at h; cases h
    exact .inl (.inl (by rw [upd_ne ne]; exact h))
  · have ne : t ≠ o := fun z => by rw [z, e] at h; cases h
    exact .inl (.inr ⟨ob, by rw [upd_ne ne]; exact h⟩)
  · exact .inr h
theorem Oth.more {K : PySem.W.Frag} {H : Hp} {o t : Addr} {ts : List Addr} {k : Nat} {ws : List Int} (O : Oth K H o ts k) (h : SqT K H t (ws.map V.int)) (hl : ws.length = k) : Oth K (upd H o (.lst (ts.map V.ref ++ [.ref t]))) o (ts ++ [t]) k := ⟨by rw [upd_same, List.map_append]; rfl, fun u hu => by
  rcases List.mem_append.mp hu with z | z
  · obtain ⟨us, e, h⟩ := O.t u z
    exact ⟨us, e, seqT_store h O.e⟩
  · rw [List.mem_singleton.mp z]
    exact ⟨ws, hl, seqT_store h O.e⟩⟩
theorem oth_app {K : PySem.W.Frag} {te : TE} {D : Ends} {σ : L2.St} {H0 H : Hp} {o : Addr} {ts : List Addr} {k : Nat} (h5 : σ[5]? = some (some (.ref o))) (O : Oth K H o ts k) (hl : ts.length < 1000) (no : H0 o = none) (s0 : Same H0 H)
    (ht : ∀ Q' : VK, (∀ (t : Addr) (H' : Hp) (ws : List Int), Same H H' → SqT K H' t (ws.map V.int) → ws.length = k → Q' (.ref t) H') → te σ H Q') (q : ∀ (H' : Hp) (t : Addr), Same H0 H' → Oth K H' o (ts ++ [t]) k → (∀ b x, b ≠ o → H b = some x → H' b = some x) → D.nx σ H') :
    (tDrop (tBM K "list" rAppend (tVar 5) (tCons te tNil))) D σ H := by
  refine ⟨.ref o, h5, .inl ⟨rfl, _, sqL_of O.e⟩, ht _ fun t H' ws s hT hw => ?_⟩
  have O' := O.same s
  refine ⟨o, _, _, rfl, rfl, O'.e, by rw [List.length_map]; exact small1000 (by omega), ?_⟩
  exact q _ t ((s0.trans s).store no) (O'.more hT hw) fun b x hb e => by
    rw [upd_ne hb]
    exact s b x e
/-- row[:j] + (x,) -/
theorem put_one {K : PySem.W.Frag} {tp tx : TE} {σ : L2.St} {H : Hp} {Q : VK} {r : Addr} {row : List Int} {j : Nat} {x : Int} (h3 : σ[3]? = some (some (.ref r))) (hR : SqT K H r (row.map V.int)) (hl : row.length ≤ 400) (hj : j ≤ row.length) (hp : ∀ Q' : VK, Q' (.int j) H → tp σ H Q')
    (hx : ∀ (H' : Hp), Same H H' → ∀ Q' : VK, Q' (.int x) H' → tx σ H' Q') (q : ∀ (l : Addr) (H' : Hp), Same H H' → SqT K H' l ((row.take j ++ [x]).map V.int) → Q (.ref l) H') :
    (tOp (rCatA K) (tSl (rSlA K) (tVar 3) tNoPart (tPart tp)) (tTup (tCons tx tNil))) σ H Q := by
  refine ⟨.ref r, h3, hp _ ⟨j, rfl, slA_of hR fun l1 H1 s1 e1 => hx H1 s1 _ ⟨l1000 (by show 1 ≤ 1000; decide), fun p np => ?_⟩⟩⟩
  rw [cut_takeN] at e1
  refine catA_of ((same_new np).seqT e1) (sqT_of upd_same) (by rw [List.length_take, List.length_map]; show _ + 1 ≤ 1000; omega) fun l2 H2 s2 e2 => q l2 H2 ((s1.trans (same_new np)).trans s2) ?_
  rw [List.map_append, List.map_take]
  exact e2
theorem sl_take {K : PySem.W.Frag} {tp : TE} {σ : L2.St} {H : Hp} {Q : VK} {r : Addr} {row : List Int} {j : Nat} (h3 : σ[3]? = some (some (.ref r))) (hR : SqT K H r (row.map V.int)) (hp : ∀ Q' : VK, Q' (.int j) H → tp σ H Q')
    (q : ∀ (l : Addr) (H' : Hp), Same H H' → SqT K H' l ((row.take j).map V.int) → Q (.ref l) H') : (tSl (rSlA K) (tVar 3) tNoPart (tPart tp)) σ H Q :=
  ⟨.ref r, h3, hp _ ⟨j, rfl, slA_of hR fun l1 H1 s1 e1 => q l1 H1 s1 (by rw [cut_takeN] at e1; rw [List.map_take]; exact e1)⟩⟩
theorem sl_drop {K : PySem.W.Frag} {tp : TE} {σ : L2.St} {H : Hp} {Q : VK} {r : Addr} {row : List Int} {j : Nat} (h3 : σ[3]? = some (some (.ref r))) (hR : SqT K H r (row.map V.int)) (hp : ∀ Q' : VK, Q' (.int j) H → tp σ H Q')
    (q : ∀ (l : Addr) (H' : Hp), Same H H' → SqT K H' l ((row.drop j).map V.int) → Q (.ref l) H') : (tSl (rSlA K) (tVar 3) (tPart tp) tNoPart) σ H Q :=
  ⟨.ref r, h3, hp _ ⟨j, rfl, slA_of hR fun l1 H1 s1 e1 => q l1 H1 s1 (by rw [cut_drop] at e1; rw [List.map_drop]; exact e1)⟩⟩
theorem cat_two {K : PySem.W.Frag} {ta tb : TE} {σ : L2.St} {H : Hp} {Q : VK} {xs ys : List Int} (hl : xs.length + ys.length ≤ 1000) (ha : ∀ Q' : VK, (∀ (l : Addr) (H' : Hp), Same H H' → SqT K H' l (xs.map V.int) → Q' (.ref l) H') → ta σ H Q')
    (hb : ∀ (H1 : Hp), Same H H1 → ∀ Q' : VK, (∀ (l : Addr) (H' : Hp), Same H1 H' → SqT K H' l (ys.map V.int) → Q' (.ref l) H') → tb σ H1 Q') (q : ∀ (l : Addr) (H' : Hp), Same H H' → SqT K H' l ((xs ++ ys).map V.int) → Q (.ref l) H') :
    (tOp (rCatA K) ta tb) σ H Q := by
  refine ha _ fun l1 H1 s1 e1 => hb H1 s1 _ fun l2 H2 s2 e2 => catA_of (s2.seqT e1) e2 (by rw [List.length_map, List.length_map]; exact hl) fun l3 H3 s3 e3 => q l3 H3 ((s1.trans s2).trans s3) ?_
  rw [List.map_append]
  exact e3
theorem next_pos {n : Nat} {row f : List Int} (h : nextL n row = some f) : 0 < row.length := by
  obtain ⟨s, s1, _⟩ := nextF_some h
  omega
theorem not_good_rep {n k : Nat} (hn : 1 ≤ n) (hk : 1 ≤ k) : crowdedL n (List.replicate (k + 1) (n : Int)) ≠ none := fun z => by
  have := good_def.mp z n (by omega) (Int.le_refl _)
  rw [cntGe_all (fun x hx => by rw [(List.mem_replicate.mp hx).2]; exact Int.le_refl _), List.length_replicate] at this
  omega
theorem flat_repN (n : Nat) (x : Int) : (List.replicate n [V.int x]).flatten = (List.replicate n x).map V.int := by
  induction n with
  | zero => rfl
  | succ n ih => rw [List.replicate_succ, List.replicate_succ, List.flatten_cons, ih]; rfl
def sp_law (K : PySem.W.Frag) : Sp := fun vs H Q _ => ∃ (s : Addr) (ns : List Int), vs = [.ref s] ∧ SqL K H s (ns.map V.int) ∧ ns.length ≤ 63 ∧ ∀ H', Q (.bl true) H'
abbrev N_law : List Str := ["_law_script", "_law_berths", "_law_ships", "_law_row", "_law_found", "_law_others", "_law_place", "_law_more", "_law_raised", "_law_other"]
def t_law (K : PySem.W.Frag) (a : Ad) : TS :=
  (tSeq (tAsg (tCall (sp_l_quay K) [] E0 (tCons (tVar 0) tNil)) (gName 1))
    (tSeq (tAsg (tCB rMin2 (tCons (tVar 1) (tCons (tCB (rLenSq K) (tCons (tSl (rSlL K) (tVar 0) (tPart (tC (.int 2))) tNoPart) tNil)) tNil))) (gName 2))
    (tSeq (tAsg (tCall (sp_l_lowered K) [] E0 (tCons (tSl (rSlL K) (tVar 0) (tPart (tC (.int 2))) tNoPart) (tCons (tVar 1) (tCons (tVar 2) tNil)))) (gName 3))
    (tSeq (tAsg (tCall (sp_next_row K a) [] E0 (tCons (tVar 1) (tCons (tCB (rListOf K) (tCons (tVar 3) tNil)) tNil))) (gName 4))
    (tSeq (tIfS (tB (tIsN (tVar 4))) (tRet (tOp (rEqT K) (tVar 3) (tCall (sp_last_row K a) [] E0 (tCons (tVar 1) (tCons (tVar 2) tNil))))) tNext)
    (tSeq (tIfS (tOr (tNot (tB (tCB (rIsi K) (tCons (tVar 4) (tCons (tC (.ty "tuple")) tNil))))) (tOr (tTest (tOp rNe (tCB (rLenSq K) (tCons (tVar 4) tNil)) (tVar 2))) (tOr (tNot (tTest (tOp (rLtT K) (tVar 3) (tVar 4)))) (tNot (tB (tCall (sp_l_good K) [] E0 (tCons (tVar 1) (tCons (tVar 4) tNil)))))))) (tRet (tC (.bl false))) tNext)
    (tSeq (tAsg (tLst (tCons (tCall (sp_l_lowered K) [] E0 (tCons (tRevL K (tSl (rSlL K) (tVar 0) (tPart (tC (.int 2))) tNoPart)) (tCons (tVar 1) (tCons (tVar 2) tNil)))) (tCons (tRevT K (tVar 3)) (tCons (tCB (rTupleOf K) (tCons (tCB (rSortedT K) (tCons (tVar 3) tNil)) tNil)) (tCons (tCall (sp_last_row K a) [] E0 (tCons (tVar 1) (tCons (tVar 2) tNil))) tNil))))) (gName 5))
    (tSeq (tFor (iRng3 (tCons (tOp rSubI (tVar 2) (tC (.int 1))) (tCons (tUn (rU fun i => .int (-i)) (tC (.int 1))) (tCons (tUn (rU fun i => .int (-i)) (tC (.int 1))) tNil)))) (gName 6)
    (tSeq (tFor (iList K (tLst (tCons (tUn (rU fun i => .int (-i)) (tC (.int 1))) (tCons (tC (.int 1)) (tCons (tC (.int 2)) tNil))))) (gName 7)
    (tDrop (tBM K "list" rAppend (tVar 5) (tCons (tOp (rCatA K) (tOp (rCatA K) (tSl (rSlA K) (tVar 3) tNoPart (tPart (tVar 6))) (tTup (tCons (tOp rAddI (tOp (rIxT K) (tVar 3) (tVar 6)) (tVar 7)) tNil))) (tSl (rSlA K) (tVar 3) (tPart (tOp rAddI (tVar 6) (tC (.int 1)))) tNoPart)) tNil))))
    (tSeq (tDrop (tBM K "list" rAppend (tVar 5) (tCons (tOp (rCatA K) (tSl (rSlA K) (tVar 3) tNoPart (tPart (tOp rAddI (tVar 6) (tC (.int 1))))) (tOp (rRepTA K) (tTup (tCons (tC (.int 1)) tNil)) (tOp rSubI (tOp rSubI (tVar 2) (tVar 6)) (tC (.int 1))))) tNil)))
    (tDrop (tBM K "list" rAppend (tVar 5) (tCons (tOp (rCatA K) (tSl (rSlA K) (tVar 3) tNoPart (tPart (tOp rAddI (tVar 6) (tC (.int 1))))) (tSl (rSlA K) (tCall (sp_last_row K a) [] E0 (tCons (tVar 1) (tCons (tVar 2) tNil))) tNoPart (tPart (tOp rSubI (tOp rSubI (tVar 2) (tVar 6)) (tC (.int 1)))))) tNil))))))
    (tSeq (tAsg (tLc (iRng1 (tCons (tVar 2) tNil)) (gName 6) tYes (tOp (rCatA K) (tOp (rCatA K) (tSl (rSlA K) (tVar 3) tNoPart (tPart (tVar 6))) (tTup (tCons (tCB rMin2 (tCons (tVar 1) (tCons (tOp rAddI (tOp (rIxT K) (tVar 3) (tVar 6)) (tC (.int 1))) tNil))) tNil))) (tOp (rRepTA K) (tTup (tCons (tC (.int 1)) tNil)) (tOp rSubI (tOp rSubI (tVar 2) (tVar 6)) (tC (.int 1))))) [6]) (gName 8))
    (tSeq (tFor (iList K (tOp rCat (tSl (rSlL K) (tVar 5) tNoPart (tPart (tC (.int 160)))) (tVar 8))) (gName 9)
    (tIfS (tAnd (tTest (tOp rGtI (tCB (rMinT K) (tCons (tVar 9) tNil)) (tC (.int 0)))) (tAnd (tTest (tOp rLeI (tCB (rMaxT K) (tCons (tVar 9) tNil)) (tVar 1))) (tB (tCall (sp_l_good K) [] E0 (tCons (tVar 1) (tCons (tVar 9) tNil)))))) (tIfS (tAnd (tTest (tOp (rLtT K) (tVar 3) (tVar 9))) (tTest (tOp (rLtT K) (tVar 9) (tVar 4)))) (tRet (tC (.bl false))) tNext) tNext))
    (tSeq (tIfS (tOr (tTest (tOp (rNeT K) (tCall (sp_next_row K a) [] E0 (tCons (tVar 1) (tCons (tVar 3) tNil))) (tVar 4))) (tTest (tOp rNotB (tCall (sp_is_good K a) [] E0 (tCons (tVar 1) (tCons (tVar 4) tNil))) (tC (.bl true))))) (tRet (tC (.bl false))) tNext)
    (tRet (tOrV (tOp rEq (tVar 2) (tC (.int 0))) (tAndV (tCall (sp_l_refused K a) [] E0 (tCons (tVar 1) (tCons (tOp (rRepTA K) (tTup (tCons (tVar 1) tNil)) (tOp rAddI (tVar 2) (tC (.int 1)))) tNil))) (tCall (sp_l_refused K a) [] E0 (tCons (tVar 1) (tCons (tOp rRep (tLst (tCons (tC (.int 0)) tNil)) (tVar 2)) tNil)))))))))))))))))
theorem len_law {K : PySem.W.Frag} {vs : List V} {H : Hp} {Q : VK} {E : XK} (h : sp_law K vs H Q E) : vs.length = 1 := by
  obtain ⟨s, ns, rfl, _⟩ := h
  rfl
theorem pu_law {K : PySem.W.Frag} {a : Ad} {vs : List V} {H : Hp} {Q : VK} {E : XK} (h : sp_law K vs H Q E) : t_law K a { nx := fun _ H' => Q .non H', rt := Q } (start N_law vs) H := by
  obtain ⟨s, ns, rfl, hs, hl, q⟩ := h
  refine ⟨.ref s, rfl, s, ns, rfl, hs, fun n H1 n1 n2 s1 => ?_⟩
  -- ships
  have ec : cutV (ns.map V.int) (some 2) none = (ns.drop 2).map V.int := by rw [cut2, List.map_drop]
  have hcl : (ns.drop 2).length ≤ 61 := by rw [List.length_drop]; omega
  refine ⟨.int n, rfl, .ref s, rfl, 2, rfl, s, _, rfl, s1.seq hs, fun c0 nc0 => ⟨c0, _, rfl, .inl (sqL_of upd_same), n, _, rfl, ?_⟩⟩
  rw [ec]
  obtain ⟨k, ek, kn, kc⟩ : ∃ k : Nat, (if ((((ns.drop 2).map V.int).length : Nat) : Int) < (n : Int) then ((((ns.drop 2).map V.int).length : Nat) : Int) else (n : Int)) = (k : Int) ∧ k ≤ n ∧ k ≤ (ns.drop 2).length := by
    rw [List.length_map]
    by_cases z : (((ns.drop 2).length : Nat) : Int) < (n : Int)
    · exact ⟨_, if_pos z, by omega, Nat.le_refl _⟩
    · exact ⟨n, if_neg z, Nat.le_refl _, by omega⟩
  rw [ek]
  have s2 := s1.trans (same_new nc0 (o := .lst ((ns.drop 2).map V.int)))
  generalize (upd H1 c0 (.lst ((ns.drop 2).map V.int))) = H2 at *
  -- row
  refine ⟨.ref s, rfl, 2, rfl, s, _, rfl, s2.seq hs, fun c1 nc1 => ?_⟩
  rw [ec]
  refine ⟨.int n, rfl, .int k, rfl, c1, ns.drop 2, n, k, rfl, sqL_of upd_same, by omega, kc, kn, n2, fun r H3 row s3 er rl rb rg => ?_⟩
  have s13 := (s2.trans (same_new nc1 (o := .lst ((ns.drop 2).map V.int)))).trans s3
  have hR := sqT_of (K := K) er
  have rl4 : row.length ≤ 400 := by omega
  -- found
  refine ⟨.int n, rfl, .ref r, rfl, r, _, rfl, .inr hR, fun c2 nc2 => ?_⟩
  have s4 := same_new nc2 (o := .lst (row.map V.int))
  refine ⟨_, _, rfl, ChkW.ok n1 n2 (.inl (sqL_of upd_same)) rl4 rb (.inr ⟨rg, fun hN H5 s5 => ?_, fun f hf fo H5 s5 eF => ?_⟩)⟩
  · -- none: the last ones
    have s45 := s4.trans s5
    refine ⟨.non, rfl, true, rfl, iteT ⟨.ref r, rfl, .int n, rfl, .int k, rfl, _, _, rfl, ChkQ.ok n1 n2 (ChkS.ok kn fun l H6 s6 el => ?_)⟩⟩
    refine eqT_of (dp_tup (s6.seqT (s45.seqT hR))) (dp_tup (sqT_of el)) (by decide) ?_
    have e := next_none n1 rb rg hN
    rw [rl] at e
    rw [e, decide_eq_true rfl]
    exact q _
  have hF := sqT_of (K := K) eF
  have NX := next_some n1 rb rg hf
  have kpos := next_pos hf
  rw [rl] at kpos
  have fl : f.length = k := NX.len.trans rl
  have s35 := s13.trans (s4.trans s5)
  have hR5 := (s4.trans s5).seqT hR
  refine ⟨.ref fo, rfl, false, rfl, iteF ?_⟩
  -- the first test
  refine ⟨.ref fo, rfl, .ref fo, _, _, _, true, rfl, .ty _, tyX_tup hF, kit_tt, true, rfl, iteF ?_⟩
  refine ⟨.ref fo, rfl, fo, _, rfl, .inr hF, .int k, rfl, rfl, _, rfl, ?_⟩
  have el : (!decide (V.int (((f.map V.int).length : Nat) : Int) = V.int (k : Int))) = false := by
    rw [List.length_map, fl, decide_eq_true rfl]
    rfl
  rw [el]
  refine iteF ⟨.ref r, rfl, .ref fo, rfl, r, fo, row, f, rfl, rfl, hR5, hF, _, rfl, ?_⟩
  rw [NX.lt]
  refine iteF ⟨.int n, rfl, .ref fo, rfl, n, fo, f, rfl, hF, n2, by omega, fun H6 s6 => ?_⟩
  rw [(goodS_iff NX.bd).mpr NX.good]
  refine ⟨true, rfl, iteF ?_⟩
  have hR6 := s6.seqT hR5
  have hF6 := s6.seqT hF
  have hs6 := (s35.trans s6).seq hs
  -- others
  refine ⟨.ref s, rfl, 2, rfl, s, _, rfl, hs6, fun c3 nc3 => ?_⟩
  rw [ec]
  refine ⟨c3, _, rfl, sqL_of upd_same, fun c4 nc4 => ?_⟩
  refine ⟨.int n, rfl, .int k, rfl, c4, (ns.drop 2).reverse, n, k, rfl, sqL_of (by rw [upd_same, List.map_reverse]), by rw [List.length_reverse]; omega, by rw [List.length_reverse]; exact kc, kn, n2, fun o1 H7 w1 s7 e1 l1 _ _ => ?_⟩
  have s67 := ((same_new nc3 (o := .lst ((ns.drop 2).map V.int))).trans (same_new nc4 (o := .lst ((ns.drop 2).map V.int).reverse))).trans s7
  refine ⟨.ref r, rfl, r, _, rfl, s67.seqT hR6, fun o2 no2 => ?_⟩
  have s8 := same_new no2 (o := .tup (row.map V.int).reverse)
  have e2 : (upd H7 o2 (.tup (row.map V.int).reverse)) o2 = some (.tup (row.reverse.map V.int)) := by rw [upd_same, List.map_reverse]
  generalize (upd H7 o2 (.tup (row.map V.int).reverse)) = H8 at *
  refine ⟨.ref r, rfl, r, row, rfl, s8.seqT (s67.seqT hR6), fun ns' p hp hs' np => ⟨p, _, rfl, .inl ⟨sqL_of upd_same, fun o3 no3 => ?_⟩⟩⟩
  have s9 := (same_new np (o := .lst (ns'.map V.int))).trans (same_new no3 (o := .tup (ns'.map V.int)))
  have e3 : (upd (upd H8 p (.lst (ns'.map V.int))) o3 (.tup (ns'.map V.int))) o3 = some (.tup (ns'.map V.int)) := upd_same
  generalize (upd (upd H8 p (.lst (ns'.map V.int))) o3 (.tup (ns'.map V.int))) = H9 at *
  refine ⟨.int n, rfl, .int k, rfl, _, _, rfl, ChkQ.ok n1 n2 (ChkS.ok kn fun o4 H10 s10 e4 => ⟨l1000 (by show 4 ≤ 1000; decide), fun o no => ?_⟩)⟩
  have s610 := ((s67.trans s8).trans s9).trans s10
  have hR10 := s610.seqT hR6
  have hF10 := s610.seqT hF6
  have s11 := same_new no (o := .lst [.ref o1, .ref o2, .ref o3, .ref o4])
  have O : Oth K (upd H10 o (.lst [.ref o1, .ref o2, .ref o3, .ref o4])) o [o1, o2, o3, o4] k := ⟨upd_same, fun t ht => by
    have pl : ns'.length = k := hp.length_eq.trans rl
    simp only [List.mem_cons, List.not_mem_nil, or_false] at ht
    rcases ht with h | h | h | h <;> subst h
    · exact ⟨w1, l1, (((s8.trans s9).trans s10).trans s11).seqT (sqT_of e1)⟩
    · exact ⟨row.reverse, by rw [List.length_reverse]; exact rl, ((s9.trans s10).trans s11).seqT (sqT_of e2)⟩
    · exact ⟨ns', pl, (s10.trans s11).seqT (sqT_of e3)⟩
    · exact ⟨downs n k, downs_len, s11.seqT (sqT_of e4)⟩⟩
  generalize (upd H10 o (.lst [.ref o1, .ref o2, .ref o3, .ref o4])) = H11 at *
  -- each place
  have rg3 : RgC ((k : Int) - 1) (-1) (-1) k := by
    have := RgC.neg (i := (k : Int) - 1) (j := -1) (by omega) (by omega) (by omega) (by omega)
    rw [show ((k : Int) - 1 - -1).toNat = k by omega] at this
    exact this
  refine ⟨.int k, rfl, _, 1, rfl, rfl, 1, rfl, 1, rfl, (k : Int) - 1, -1, -1, k, rfl, rg3, ?_⟩
  refine for_rangeC (fun i σ H' => (∃ y6 y7, σ = [some (.ref s), some (.int n), some (.int k), some (.ref r), some (.ref fo), some (.ref o), y6, y7, none, none]) ∧ Same H10 H' ∧ ∃ ts, ts.length = 4 + 5 * i ∧ Oth K H' o ts k) ⟨⟨none, none, rfl⟩, s11, _, rfl, O⟩ ?_ ?_
  · rintro i σ H' hi ⟨⟨y6, y7, rfl⟩, sA, ts, tl, OT⟩
    obtain ⟨j, ej, hj⟩ : ∃ j : Nat, (k : Int) - 1 + ((i : Nat) : Int) * -1 = (j : Int) ∧ j < k := ⟨k - 1 - i, by omega, by omega⟩
    rw [ej]
    have hjr : j < row.length := by omega
    -- one wish otherwise
    refine ⟨1, rfl, l1000 (by show 3 ≤ 1000; decide), fun lm nlm => ?_⟩
    have sB := sA.trans (same_new nlm (o := .lst [.int (-1), .int 1, .int 2]))
    have em : (upd H' lm (.lst [.int (-1), .int 1, .int 2])) lm = some (.lst (([-1, 1, 2] : List Int).map V.int)) := upd_same
    have OB := OT.same (same_new nlm (o := .lst [.int (-1), .int 1, .int 2]))
    refine ⟨lm, rfl, ⟨_, sqL_of em⟩, ?_⟩
    generalize (upd H' lm (.lst [.int (-1), .int 1, .int 2])) = HB at *
    have nlo : lm ≠ o := fun z => by
      rw [z, OB.e] at em
      injection em with em
      injection em with em
      have := congrArg List.length em
      rw [List.length_map, tl] at this
      simp at this
      omega
    refine for_list (K := K) (a := lm) (xs := ([-1, 1, 2] : List Int).map V.int) (fun m σ H' => (∃ y7, σ = [some (.ref s), some (.int n), some (.int k), some (.ref r), some (.ref fo), some (.ref o), some (.int j), y7, none, none]) ∧ Same H10 H' ∧ H' lm = some (.lst (([-1, 1, 2] : List Int).map V.int)) ∧ ∃ ts, ts.length = 4 + 5 * i + m ∧ Oth K H' o ts k)
      ⟨⟨_, rfl⟩, sB, em, ts, by omega, OB⟩ (fun m σ H' _ z => sqL_of z.2.2.1) ?_ ?_
    · rintro m x σ H4 hx ⟨⟨y7, rfl⟩, sC, emC, ts2, tl2, OC⟩
      obtain ⟨z, hz, rfl⟩ := item_of hx
      have hm3 : m < 3 := (List.getElem?_eq_some_iff.mp hz).1
      have hRC := sC.seqT hR10
      refine oth_app (H0 := H10) (k := k) (ts := ts2) rfl OC (by omega) no sC ?_ ?_
      · intro Q' hQ
        refine cat_two (K := K) (xs := row.take j ++ [row.getD j 0 + z]) (ys := row.drop (j + 1)) (by rw [List.length_append, List.length_take, List.length_drop]; show _ + 1 + _ ≤ 1000; omega) ?_ ?_ fun l H5 s5 e5 => hQ l H5 _ s5 e5 ?_
        · intro Q2 hQ2
          refine put_one (K := K) (r := r) (row := row) (j := j) (x := row.getD j 0 + z) rfl hRC rl4 (by omega) (fun Q' q' => ⟨.int j, rfl, q'⟩) (fun H5 s5 Q' q' => ⟨.ref r, rfl, .int j, rfl, r, _, j, .int (row.getD j 0), rfl, rfl, s5.seqT hRC, int_at hjr, .int z, rfl, _, _, rfl, rfl, q'⟩) hQ2
        · intro H5 s5 Q2 hQ2
          exact sl_drop (K := K) (r := r) (row := row) (j := j + 1) rfl (s5.seqT hRC) (fun Q' q' => ⟨.int j, rfl, _, 1, rfl, rfl, q'⟩) hQ2
        · rw [List.length_append, List.length_append, List.length_take, List.length_drop]
          show _ + 1 + _ = k
          omega
      · intro H5 t s5 O5 kp
        exact ⟨⟨_, rfl⟩, s5, kp _ _ nlo emC, ts2 ++ [t], by rw [List.length_append]; show _ + 1 = _; omega, O5⟩
    · rintro σ H4 ⟨⟨y7, rfl⟩, sC, emC, ts2, tl2, OC⟩
      have tl2 : ts2.length = 4 + 5 * i + 3 := tl2
      have hRC := sC.seqT hR10
      -- ones behind
      refine oth_app (H0 := H10) (k := k) (ts := ts2) rfl OC (by omega) no sC ?_ ?_
      · intro Q' hQ
        refine cat_two (K := K) (xs := row.take (j + 1)) (ys := List.replicate (k - j - 1) 1) (by rw [List.length_take, List.length_replicate]; omega) ?_ ?_ fun l H5 s5 e5 => hQ l H5 _ s5 e5 ?_
        · intro Q2 hQ2
          exact sl_take (K := K) (r := r) (row := row) (j := j + 1) rfl hRC (fun Q' q' => ⟨.int j, rfl, _, 1, rfl, rfl, q'⟩) hQ2
        · intro H5 s5 Q2 hQ2
          refine ones_of (K := K) (k := k - j - 1) (by omega) (fun H6 s6 Q' q' => ⟨.int k, rfl, .int j, rfl, _, _, rfl, rfl, _, 1, rfl, rfl, ?_⟩) fun l H6 s6 e6 => hQ2 l H6 s6 (sqT_of e6)
          have ee : (k : Int) - (j : Int) - 1 = ((k - j - 1 : Nat) : Int) := by omega
          show Q' (.int ((k : Int) - (j : Int) - 1)) H6
          rw [ee]
          exact q'
        · rw [List.length_append, List.length_take, List.length_replicate]
          omega
      intro H5 t5 s5 O5 kp5
      have hR5' := s5.seqT hR10
      -- the last ones behind
      refine oth_app (H0 := H10) (k := k) (ts := ts2 ++ [t5]) rfl O5 (by rw [List.length_append]; show _ + 1 < 1000; omega) no s5 ?_ ?_
      · intro Q' hQ
        refine cat_two (K := K) (xs := row.take (j + 1)) (ys := (downs n k).take (k - j - 1)) (by rw [List.length_take, List.length_take, downs_len]; omega) ?_ ?_ fun l H6 s6 e6 => hQ l H6 _ s6 e6 ?_
        · intro Q2 hQ2
          exact sl_take (K := K) (r := r) (row := row) (j := j + 1) rfl hR5' (fun Q' q' => ⟨.int j, rfl, _, 1, rfl, rfl, q'⟩) hQ2
        · intro H6 s6 Q2 hQ2
          refine ⟨.int n, rfl, .int k, rfl, _, _, rfl, ChkQ.ok n1 n2 (ChkS.ok kn fun l H7 s7 e7 => ⟨.int k, rfl, .int j, rfl, _, _, rfl, rfl, _, 1, rfl, rfl, _, rfl, ?_⟩)⟩
          have ee : (k : Int) - (j : Int) - 1 = ((k - j - 1 : Nat) : Int) := by omega
          show rSlA K (.ref l) none (some ((k : Int) - (j : Int) - 1)) H7 Q2
          rw [ee]
          refine slA_of (sqT_of e7) fun l2 H8 s8 e8 => hQ2 l2 H8 (s7.trans s8) ?_
          rw [cut_takeN] at e8
          rw [List.map_take]
          exact e8
        · rw [List.length_append, List.length_take, List.length_take, downs_len]
          omega
      intro H6 t6 s6 O6 kp6
      exact ⟨⟨_, _, rfl⟩, s6, _, by rw [List.length_append, List.length_append]; show _ + 1 + 1 = _; omega, O6⟩
  rintro σ HL ⟨⟨y6, y7, rfl⟩, sL, ts, tl, OL⟩
  have hRL := sL.seqT hR10
  have hFL := sL.seqT hF10
  -- raised
  have raisedOk : ∀ (D : Ends) (rr : TS), (∀ (d : Addr) (H' : Hp) (us : List Addr), Same HL H' → Oth K H' d us k → us.length = k → rr D [some (.ref s), some (.int n), some (.int k), some (.ref r), some (.ref fo), some (.ref o), y6, y7, some (.ref d), none] H') →
      (tSeq (tAsg (tLc (iRng1 (tCons (tVar 2) tNil)) (gName 6) tYes (tOp (rCatA K) (tOp (rCatA K) (tSl (rSlA K) (tVar 3) tNoPart (tPart (tVar 6))) (tTup (tCons (tCB rMin2 (tCons (tVar 1) (tCons (tOp rAddI (tOp (rIxT K) (tVar 3) (tVar 6)) (tC (.int 1))) tNil))) tNil))) (tOp (rRepTA K) (tTup (tCons (tC (.int 1)) tNil)) (tOp rSubI (tOp rSubI (tVar 2) (tVar 6)) (tC (.int 1))))) [6]) (gName 8)) rr) D [some (.ref s), some (.int n), some (.int k), some (.ref r), some (.ref fo), some (.ref o), y6, y7, none, none] HL := by
    intro D rr hrr
    refine ⟨.int k, rfl, k, rfl, by omega, by omega, fun d nd => ?_⟩
    have ek2 : ((k : Nat) : Int).toNat = k := by omega
    rw [ek2]
    refine lc_it (walk_range (lo := 0) (n := k)) (D := d) (fun i H' => Same HL H' ∧ ∃ us : List Addr, us.length = i ∧ Oth K H' d us k) ⟨same_new nd, [], rfl, upd_same, fun t ht => by cases ht⟩ (fun _ _ _ _ => trivial) ?_ ?_
    · rintro i x H3 H4 hi ⟨sA, us, ul, OU⟩ hy
      obtain ⟨rfl, rfl⟩ := hy
      have hRA := sA.seqT hRL
      have hir : i < row.length := by omega
      have e0 : (0 : Int) + ((i : Nat) : Int) = (i : Int) := by omega
      refine ⟨rfl, ?_⟩
      show (if true = true then _ else (Same HL H4 ∧ ∃ us : List Addr, us.length = i + 1 ∧ Oth K H4 d us k))
      rw [if_pos rfl, if_pos rfl]
      refine (cat_two (K := K) (xs := row.take i ++ [if row.getD i 0 + 1 < (n : Int) then row.getD i 0 + 1 else (n : Int)]) (ys := List.replicate (k - i - 1) 1) (by rw [List.length_append, List.length_take, List.length_replicate]; show _ + 1 + _ ≤ 1000; omega) ?_ ?_ fun l H5 s5 e5 => ?_)
      · intro Q2 hQ2
        refine put_one (K := K) (r := r) (row := row) (j := i) rfl hRA rl4 (by omega) (fun Q' q' => ⟨.int (0 + ((i : Nat) : Int)), rfl, by rw [e0]; exact q'⟩) (fun H5 s5 Q' q' => ⟨.int n, rfl, .ref r, rfl, .int (0 + ((i : Nat) : Int)), rfl, r, _, (0 + ((i : Nat) : Int)), .int (row.getD i 0), rfl, rfl, s5.seqT hRA, by rw [e0]; exact int_at hir, _, 1, rfl, rfl, n, _, rfl, q'⟩) hQ2
      · intro H5 s5 Q2 hQ2
        refine ones_of (K := K) (k := k - i - 1) (by omega) (fun H6 s6 Q' q' => ⟨.int k, rfl, .int (0 + ((i : Nat) : Int)), rfl, _, _, rfl, rfl, _, 1, rfl, rfl, ?_⟩) fun l H6 s6 e6 => hQ2 l H6 s6 (sqT_of e6)
        have ee : (k : Int) - (0 + ((i : Nat) : Int)) - 1 = ((k - i - 1 : Nat) : Int) := by omega
        show Q' (.int ((k : Int) - (0 + ((i : Nat) : Int)) - 1)) H6
        rw [ee]
        exact q'
      · have OU' := OU.same s5
        refine ⟨_, OU'.e, by rw [List.length_map, ul]; exact small1000 (by omega), (sA.trans s5).store nd, us ++ [l], by rw [List.length_append, ul]; rfl, OU'.more e5 ?_⟩
        rw [List.length_append, List.length_append, List.length_take, List.length_replicate]
        show _ + 1 + _ = k
        omega
    · rintro H3 ⟨sA, us, ul, OU⟩
      exact hrr d H3 us sA OU ul
  change (tSeq (tAsg (tLc (iRng1 (tCons (tVar 2) tNil)) (gName 6) tYes (tOp (rCatA K) (tOp (rCatA K) (tSl (rSlA K) (tVar 3) tNoPart (tPart (tVar 6))) (tTup (tCons (tCB rMin2 (tCons (tVar 1) (tCons (tOp rAddI (tOp (rIxT K) (tVar 3) (tVar 6)) (tC (.int 1))) tNil))) tNil))) (tOp (rRepTA K) (tTup (tCons (tC (.int 1)) tNil)) (tOp rSubI (tOp rSubI (tVar 2) (tVar 6)) (tC (.int 1))))) [6]) (gName 8)) _) _ _ _
  refine raisedOk _ _ fun d HM us sM OM ul => ?_
  have OLM := OL.same sM
  have hRM := sM.seqT hRL
  have hFM := sM.seqT hFL
  -- all others
  refine ⟨.ref o, rfl, 160, rfl, o, _, rfl, sqL_of OLM.e, fun p1 np1 => ⟨.ref d, rfl, p1, d, _, _, rfl, rfl, upd_same, same_new np1 _ _ OM.e, ?_, fun p2 np2 => ?_⟩⟩
  · refine l1000 ?_
    have := cutV_length (ts.map V.ref) none (some (160 : Int))
    rw [List.length_map] at this ⊢
    omega
  have eo : cutV (ts.map V.ref) none (some (160 : Int)) ++ us.map V.ref = (ts.take 160 ++ us).map V.ref := by rw [show (160 : Int) = ((160 : Nat) : Int) from rfl, cut_takeN, List.map_append, List.map_take]
  have sP := (same_new np1 (o := .lst (cutV (ts.map V.ref) none (some (160 : Int))))).trans (same_new np2 (o := .lst (cutV (ts.map V.ref) none (some (160 : Int)) ++ us.map V.ref)))
  have eP : (upd (upd HM p1 (.lst (cutV (ts.map V.ref) none (some (160 : Int))))) p2 (.lst (cutV (ts.map V.ref) none (some (160 : Int)) ++ us.map V.ref))) p2 = some (.lst ((ts.take 160 ++ us).map V.ref)) := by rw [upd_same, eo]
  generalize (upd (upd HM p1 (.lst (cutV (ts.map V.ref) none (some (160 : Int))))) p2 (.lst (cutV (ts.map V.ref) none (some (160 : Int)) ++ us.map V.ref))) = HP at *
  have hRP := sP.seqT hRM
  have hFP := sP.seqT hFM
  refine ⟨p2, rfl, ⟨_, sqL_of eP⟩, ?_⟩
  refine for_list (K := K) (a := p2) (xs := (ts.take 160 ++ us).map V.ref) (fun i σ H' => (∃ y9, σ = [some (.ref s), some (.int n), some (.int k), some (.ref r), some (.ref fo), some (.ref o), y6, y7, some (.ref d), y9]) ∧ Same HP H') ⟨⟨none, rfl⟩, Same.refl _⟩ (fun i σ H' _ z => z.2.seq (sqL_of eP)) ?_ ?_
  · rintro i x σ H' hx ⟨⟨y9, rfl⟩, sA⟩
    obtain ⟨t, rfl, tm⟩ : ∃ t, x = V.ref t ∧ t ∈ ts.take 160 ++ us := by
      obtain ⟨t, tm, e⟩ := List.mem_map.mp (List.mem_of_getElem? hx)
      exact ⟨t, e.symm, tm⟩
    obtain ⟨ws, wl, hT⟩ : ∃ ws : List Int, ws.length = k ∧ SqT K H' t (ws.map V.int) := by
      rcases List.mem_append.mp tm with z | z
      · obtain ⟨ws, e, h⟩ := OLM.t t (List.mem_of_mem_take z)
        exact ⟨ws, e, sA.seqT (sP.seqT h)⟩
      · obtain ⟨ws, e, h⟩ := OM.t t z
        exact ⟨ws, e, sA.seqT (sP.seqT h)⟩
    refine ⟨.ref t, rfl, t, ws, rfl, hT, by omega, fun m hm hmin => ⟨m, 0, rfl, rfl, _, rfl, ite2 (fun c => ?_) (fun c => iteF ⟨⟨_, rfl⟩, sA⟩)⟩⟩
    have c : 0 < m := of_decide_eq_true c
    refine ⟨.ref t, rfl, t, ws, rfl, hT, by omega, fun M hM hmax => ⟨.int n, rfl, M, n, rfl, rfl, _, rfl, ite2 (fun c2 => ?_) (fun c2 => iteF ⟨⟨_, rfl⟩, sA⟩)⟩⟩
    have c2 : M ≤ (n : Int) := of_decide_eq_true c2
    have hwb : ∀ x ∈ ws, 1 ≤ x ∧ x ≤ n := fun x hx => by
      have h1 := hmin x hx
      have h2 := hmax x hx
      omega
    refine ⟨.int n, rfl, .ref t, rfl, n, t, ws, rfl, hT, n2, by omega, fun H2 sB => ⟨_, rfl, ?_⟩⟩
    cases eg : goodS n (sortI ws) with
    | false => exact iteF ⟨⟨_, rfl⟩, sA.trans sB⟩
    | true =>
      have wg : Good n ws := (goodS_iff hwb).mp eg
      have hT2 := sB.seqT hT
      have hR2 := sB.seqT (sA.seqT hRP)
      have hF2 := sB.seqT (sA.seqT hFP)
      refine iteT ⟨.ref r, rfl, .ref t, rfl, r, t, row, ws, rfl, rfl, hR2, hT2, _, rfl, ?_⟩
      cases e1 : HT.lexLt row ws with
      | false => exact iteF (iteF ⟨⟨_, rfl⟩, sA.trans sB⟩)
      | true =>
        refine iteT ⟨.ref t, rfl, .ref fo, rfl, t, fo, ws, f, rfl, rfl, hT2, hF2, _, rfl, ?_⟩
        rw [NX.gap ws (by omega) hwb wg e1]
        exact iteF ⟨⟨_, rfl⟩, sA.trans sB⟩
  rintro σ HZ ⟨⟨y9, rfl⟩, sZ⟩
  have hRZ := sZ.seqT hRP
  have hFZ := sZ.seqT hFP
  -- told again
  refine ⟨.int n, rfl, .ref r, rfl, _, _, rfl, ChkW.ok n1 n2 (.inr hRZ) rl4 rb (.inr ⟨rg, (fun hN => by rw [hf] at hN; cases hN), fun f' hf' fo' HY sY eF' => ?_⟩)⟩
  have hF' := sqT_of (K := K) eF'
  rw [hf] at hf'
  cases hf'
  refine ⟨.ref fo, rfl, neT_of (dp_tup hF') (dp_tup (sY.seqT hFZ)) (by decide) ⟨_, rfl, ?_⟩⟩
  rw [decide_eq_false (fun z => z rfl)]
  refine iteF ⟨.int n, rfl, .ref fo, rfl, _, _, rfl, ChkW.ok n1 n2 (.inr (sY.seqT hFZ)) (by omega) NX.bd fun HX sX => ⟨_, true, rfl, rfl, _, rfl, ?_⟩⟩
  have ex : (crowdedL n f).isNone = true := by rw [show crowdedL n f = none from NX.good]; rfl
  rw [ex, decide_eq_true rfl]
  refine iteF ?_
  -- what is refused
  have dk : decide (V.int (k : Int) = V.int 0) = false := decide_eq_false fun z => by
    have := V.int.inj z
    omega
  refine ⟨.int k, rfl, rfl, _, rfl, ?_⟩
  rw [dk]
  refine iteF ⟨.int n, rfl, .int n, rfl, l1000 (by show 1 ≤ 1000; decide), fun p5 np5 => ⟨.int k, rfl, _, 1, rfl, rfl, p5, _, _, rfl, rfl, sqT_of upd_same, (fun z => by cases z), by omega, by omega, (by show 1 ≤ 1000; decide), fun z => by omega, fun _ p6 np6 => ?_⟩⟩
  rw [show ((k : Int) + 1).toNat = k + 1 by omega, flat_repN]
  refine ⟨_, _, rfl, fun Q' E' e => ⟨_, _, rfl, ChkW.ok n1 n2 (.inr (sqT_of upd_same)) (by rw [List.length_replicate]; omega) (fun x hx => by rw [(List.mem_replicate.mp hx).2]; omega) (.inl ⟨not_good_rep n1 kpos, e⟩)⟩, fun H' s' => ⟨true, rfl, iteT ?_⟩⟩
  refine ⟨.int n, rfl, l1000 (by show 1 ≤ 1000; decide), fun p7 np7 => ⟨.int k, rfl, p7, k, _, rfl, rfl, upd_same, by omega, by omega, l1000 (by show 1 * _ ≤ _; omega), fun p8 np8 => ?_⟩⟩
  rw [show ((k : Int)).toNat = k by omega, flat_repN]
  have gz : goodW n ((List.replicate k (0 : Int)).map V.int) = false := by
    cases z : goodW n ((List.replicate k (0 : Int)).map V.int) with
    | false => rfl
    | true =>
      have := (goodW_ints.mp z).2 0 (List.mem_replicate.mpr ⟨by omega, rfl⟩)
      omega
  refine ⟨_, _, rfl, fun Q' E' e => ⟨_, _, rfl, ⟨_, .int _, .inr ⟨n, rfl, n1, n2, .inr ⟨p8, _, rfl, .inl (sqL_of upd_same), (fun x hx => by
    obtain ⟨i, _, rfl⟩ := List.mem_map.mp hx
    exact ⟨_, .int i⟩), .inl ⟨gz, e _ (Same.refl _)⟩⟩⟩⟩⟩, fun H' s' => q _⟩

section
variable {P : Program} {w : World} {K : PySem.W.Frag} {mg : Str → Option Value} {base : Heap} {a : Ad}
def topS (i : Nat) : Stmt := PySem.Challenge.pw_berthrow_k07_next_wishes.main.body.getD i (.Pass ⟨0, 0, 0, 0⟩)
structure Txt (K : PySem.W.Frag) (mg : Str → Option Value) (a : Ad) : Prop where
  t_0 : True
  b_ValueError : mg "ValueError" = none
  b_enumerate : mg "enumerate" = none
  b_int : mg "int" = none
  b_isinstance : mg "isinstance" = none
  b_len : mg "len" = none
  b_list : mg "list" = none
  b_max : mg "max" = none
  b_min : mg "min" = none
  b_range : mg "range" = none
  b_reversed : mg "reversed" = none
  b_sorted : mg "sorted" = none
  b_sum : mg "sum" = none
  b_tuple : mg "tuple" = none
  b_type : mg "type" = none
  c_MOST : ∃ u, mg "MOST" = some u ∧ RelV (.int 400) u
  e_BerthError : ExF K mg "BerthError" a.e_BerthError
  e_NoCount : ExF K mg "NoCount" a.e_NoCount
  e_NoQuay : ExF K mg "NoQuay" a.e_NoQuay
  e_NoWishes : ExF K mg "NoWishes" a.e_NoWishes
  e_TooMany : ExF K mg "TooMany" a.e_TooMany
  g_BerthError : ExG K a.e_BerthError
  g_NoQuay : ExG K a.e_NoQuay
  g_NoWishes : ExG K a.e_NoWishes
  g_TooMany : ExG K a.e_TooMany
  g_NoCount : ExG K a.e_NoCount
  s_NoWishes_BerthError : PySem.W.subIn K (.ref a.e_NoWishes) (.ref a.e_BerthError) = some true
  s_NoWishes_NoCount : PySem.W.subIn K (.ref a.e_NoWishes) (.ref a.e_NoCount) = some false
  s_NoWishes_NoQuay : PySem.W.subIn K (.ref a.e_NoWishes) (.ref a.e_NoQuay) = some false
  s_NoWishes_TooMany : PySem.W.subIn K (.ref a.e_NoWishes) (.ref a.e_TooMany) = some false
  s_NoWishes_NoWishes : PySem.W.subIn K (.ref a.e_NoWishes) (.ref a.e_NoWishes) = some true
  s_NoWishes_V : PySem.W.subIn K (.ref a.e_NoWishes) (.type "ValueError") = some true
abbrev s_is_number : Stmt := topS 8
theorem sc_is_number : FnScope N_is_number ["thing"] (defScope s_is_number) := ⟨rfl, rfl, rfl, by decide +kernel, rfl, by decide +kernel, by decide +kernel⟩
theorem ok_is_number (D : DF K mg "is_number" s_is_number ["thing"] a.f_is_number) (T : Txt K mg a) : Cb P w K mg base CX0 1 "is_number" a.f_is_number ["thing"] (sp_is_number K a) := by
  obtain ⟨⟨fd, F, bb⟩, gg⟩ := D
  refine ⟨⟨fd, F.ok sc_is_number (fun vs H Q E h => len_is_number h) (fun cdv A outer s H vs Q E hr h => ⟨t_is_number K a, ?_, pu_is_number h⟩), bb⟩, gg, F.kp⟩
  exact (pss_one (ps_ret (pe_cmpR op_isTyB (pe_callTy call_type1 (by rfl) T.b_type (by decide +kernel) (pa_cons (pv 0) pa_nil)) (pe_bltn (by rfl) T.b_int (by decide +kernel) rfl) (nomark _))))

abbrev s_is_from_to : Stmt := topS 9
theorem sc_is_from_to : FnScope N_is_from_to ["low", "high", "thing"] (defScope s_is_from_to) := ⟨rfl, rfl, rfl, by decide +kernel, rfl, by decide +kernel, by decide +kernel⟩
theorem ok_is_from_to (D : DF K mg "is_from_to" s_is_from_to ["low", "high", "thing"] a.f_is_from_to) (T : Txt K mg a) (g_is_number : Cb P w K mg base CX0 1 "is_number" a.f_is_number ["thing"] (sp_is_number K a)) : Cb P w K mg base CX0 2 "is_from_to" a.f_is_from_to ["low", "high", "thing"] (sp_is_from_to K a) := by
  obtain ⟨⟨fd, F, bb⟩, gg⟩ := D
  refine ⟨⟨fd, F.ok sc_is_from_to (fun vs H Q E h => len_is_from_to h) (fun cdv A outer s H vs Q E hr h => ⟨t_is_from_to K a, ?_, pu_is_from_to h⟩), bb⟩, gg, F.kp⟩
  exact (pss_one (ps_ret (pe_and (pe_cb g_is_number (hr.mono (by decide)) (by rfl) pass0 (pa_cons (pv 2) pa_nil)) (pe_one (pe_chain op_le op_le (pv 0) (pv 2) (pv 1))))))

abbrev s_is_row : Stmt := topS 10
theorem sc_is_row : FnScope N_is_row ["thing"] (defScope s_is_row) := ⟨rfl, rfl, rfl, by decide +kernel, rfl, by decide +kernel, by decide +kernel⟩
theorem ok_is_row (D : DF K mg "is_row" s_is_row ["thing"] a.f_is_row) (T : Txt K mg a) : Cb P w K mg base CX0 1 "is_row" a.f_is_row ["thing"] (sp_is_row K a) := by
  obtain ⟨⟨fd, F, bb⟩, gg⟩ := D
  refine ⟨⟨fd, F.ok sc_is_row (fun vs H Q E h => len_is_row h) (fun cdv A outer s H vs Q E hr h => ⟨t_is_row K a, ?_, pu_is_row h⟩), bb⟩, gg, F.kp⟩
  exact (pss_one (ps_ret (pe_or (pe_cmpR op_isTyB (pe_callTy call_type1 (by rfl) T.b_type (by decide +kernel) (pa_cons (pv 0) pa_nil)) (pe_bltn (by rfl) T.b_list (by decide +kernel) rfl) (nomark _)) (pe_one (pe_cmpR op_isTyB (pe_callTy call_type1 (by rfl) T.b_type (by decide +kernel) (pa_cons (pv 0) pa_nil)) (pe_bltn (by rfl) T.b_tuple (by decide +kernel) rfl) (nomark _))))))

abbrev s_check_quay : Stmt := topS 11
theorem sc_check_quay : FnScope N_check_quay ["berths"] (defScope s_check_quay) := ⟨rfl, rfl, rfl, by decide +kernel, rfl, by decide +kernel, by decide +kernel⟩
theorem ok_check_quay (D : DF K mg "check_quay" s_check_quay ["berths"] a.f_check_quay) (T : Txt K mg a) (g_is_from_to : Cb P w K mg base CX0 2 "is_from_to" a.f_is_from_to ["low", "high", "thing"] (sp_is_from_to K a)) : Cb P w K mg base (L2.CX P w) 3 "check_quay" a.f_check_quay ["berths"] (sp_check_quay K a) := by
  obtain ⟨⟨fd, F, bb⟩, gg⟩ := D
  refine ⟨⟨fd, F.okX sc_check_quay (fun vs H Q E h => len_check_quay h) (fun cdv A outer s H vs Q E hr h => ⟨t_check_quay K a E, ?_, pu_check_quay h⟩), bb⟩, gg, F.kp⟩
  exact (pss_one (ps_if (pt_not (pt_val (pe_cb g_is_from_to (hr.mono (by decide)) (by rfl) pass0 (pa_cons pe_int (pa_cons (pe_gl (by rfl) T.c_MOST) (pa_cons (pv 0) pa_nil)))))) (pss_one (ps_raise rfl (takes_of rfl rfl rfl rfl) (pmk_own PySem.F.excBase_ValueError T.e_NoQuay.x T.e_NoQuay.g T.e_NoQuay.k (raises_own T.e_NoQuay.b T.e_NoQuay.t) (by exact rfl)))) pss_nil))

abbrev s_check_wishes : Stmt := topS 12
theorem sc_check_wishes : FnScope N_check_wishes ["berths", "wishes"] (defScope s_check_wishes) := ⟨rfl, rfl, rfl, by decide +kernel, rfl, by decide +kernel, by decide +kernel⟩
theorem ok_check_wishes (D : DF K mg "check_wishes" s_check_wishes ["berths", "wishes"] a.f_check_wishes) (T : Txt K mg a) (g_is_from_to : Cb P w K mg base CX0 2 "is_from_to" a.f_is_from_to ["low", "high", "thing"] (sp_is_from_to K a)) (g_is_row : Cb P w K mg base CX0 1 "is_row" a.f_is_row ["thing"] (sp_is_row K a)) (g_check_quay : Cb P w K mg base (L2.CX P w) 3 "check_quay" a.f_check_quay ["berths"] (sp_check_quay K a)) : Cb P w K mg base (L2.CX P w) 4 "check_wishes" a.f_check_wishes ["berths", "wishes"] (sp_check_wishes K a) := by
  obtain ⟨⟨fd, F, bb⟩, gg⟩ := D
  refine ⟨⟨fd, F.okX sc_check_wishes (fun vs H Q E h => len_check_wishes h) (fun cdv A outer s H vs Q E hr h => ⟨t_check_wishes K a E, ?_, pu_check_wishes h⟩), bb⟩, gg, F.kp⟩
  exact (pss_cons (ps_expr (pe_cb g_check_quay (hr.mono (by decide)) (by rfl) (passes_call (takes_of rfl rfl rfl rfl) (fun _ _ _ _ h => h)) (pa_cons (pv 0) pa_nil)))
    (pss_cons (ps_if (pt_not (pt_val (pe_cb g_is_row (hr.mono (by decide)) (by rfl) pass0 (pa_cons (pv 1) pa_nil)))) (pss_one (ps_raise rfl (takes_of rfl rfl rfl rfl) (pmk_own PySem.F.excBase_ValueError T.e_NoWishes.x T.e_NoWishes.g T.e_NoWishes.k (raises_own T.e_NoWishes.b T.e_NoWishes.t) (by exact rfl)))) pss_nil)
    (pss_cons (ps_if (pt_cmpR op_gt (pe_callB call_len_seq (by rfl) T.b_len (by decide +kernel) (pa_cons (pv 1) pa_nil)) (pe_gl (by rfl) T.c_MOST) (nomark _)) (pss_one (ps_raise rfl (takes_of rfl rfl rfl rfl) (pmk_own PySem.F.excBase_ValueError T.e_NoWishes.x T.e_NoWishes.g T.e_NoWishes.k (raises_own T.e_NoWishes.b T.e_NoWishes.t) (by exact rfl)))) pss_nil)
    (pss_one (ps_for (passes_of rfl) rfl (pi_seq (pv 1)) (pg_name (i := 2) sc_check_wishes.nd rfl (by first | exact Or.inl rfl | exact Or.inr rfl))
    (pss_one (ps_if (pt_not (pt_val (pe_cb g_is_from_to (hr.mono (by decide)) (by rfl) pass0 (pa_cons pe_int (pa_cons (pv 0) (pa_cons (pv 2) pa_nil)))))) (pss_one (ps_raise rfl (takes_of rfl rfl rfl rfl) (pmk_own PySem.F.excBase_ValueError T.e_NoWishes.x T.e_NoWishes.g T.e_NoWishes.k (raises_own T.e_NoWishes.b T.e_NoWishes.t) (by exact rfl)))) pss_nil)))))))

abbrev s_crowded : Stmt := topS 15
theorem sc_crowded : FnScope N_crowded ["berths", "wishes"] (defScope s_crowded) := ⟨rfl, rfl, rfl, by decide +kernel, rfl, by decide +kernel, by decide +kernel⟩
theorem ok_crowded (D : DF K mg "crowded" s_crowded ["berths", "wishes"] a.f_crowded) (T : Txt K mg a) (g_check_wishes : Cb P w K mg base (L2.CX P w) 4 "check_wishes" a.f_check_wishes ["berths", "wishes"] (sp_check_wishes K a)) : Cb P w K mg base (L2.CX P w) 5 "crowded" a.f_crowded ["berths", "wishes"] (sp_crowded K a) := by
  obtain ⟨⟨fd, F, bb⟩, gg⟩ := D
  refine ⟨⟨fd, F.okX sc_crowded (fun vs H Q E h => len_crowded h) (fun cdv A outer s H vs Q E hr h => ⟨t_crowded K a E, ?_, pu_crowded h⟩), bb⟩, gg, F.kp⟩
  exact (pss_cons (ps_expr (pe_cb g_check_wishes (hr.mono (by decide)) (by rfl) (passes_call (takes_of rfl rfl rfl rfl) (fun _ _ _ _ h => h)) (pa_cons (pv 0) (pa_cons (pv 1) pa_nil))))
    (pss_cons (ps_set (i := 2) sc_crowded.nd rfl (by first | exact Or.inl rfl | exact Or.inr rfl) (pe_op op_rep (pe_lst (pa_cons pe_int pa_nil)) (pe_op op_add (pv 0) pe_int)))
    (pss_cons (ps_for (passes_of rfl) rfl (pi_seq (pv 1)) (pg_name (i := 3) sc_crowded.nd rfl (by first | exact Or.inl rfl | exact Or.inr rfl))
    (pss_one (ps_augS (pv 2) (pv 3) gt_list pe_int ip_add set_list)))
    (pss_cons (ps_set (i := 4) sc_crowded.nd rfl (by first | exact Or.inl rfl | exact Or.inr rfl) pe_int)
    (pss_cons (ps_for (passes_of rfl) rfl (pi_range3 (by rfl) T.b_range (pa_cons (pv 0) (pa_cons pe_int (pa_cons (pe_un un_neg pe_int) pa_nil)))) (pg_name (i := 5) sc_crowded.nd rfl (by first | exact Or.inl rfl | exact Or.inr rfl))
    (pss_cons (ps_aug (i := 4) sc_crowded.nd rfl (by first | exact Or.inl rfl | exact Or.inr rfl) (pe_ix ix_list (pv 2) (pv 5) (fun _ _ => rfl)) ip_add)
    (pss_one (ps_if (pt_cmpR op_gt (pv 4) (pe_op op_add (pe_op op_sub (pv 0) (pv 5)) pe_int) (nomark _)) (pss_one (ps_ret (pv 5))) pss_nil))))
    (pss_one (ps_ret pe_non)))))))

abbrev s_is_good : Stmt := topS 14
theorem sc_is_good : FnScope N_is_good ["berths", "wishes"] (defScope s_is_good) := ⟨rfl, rfl, rfl, by decide +kernel, rfl, by decide +kernel, by decide +kernel⟩
theorem ok_is_good (D : DF K mg "is_good" s_is_good ["berths", "wishes"] a.f_is_good) (T : Txt K mg a) (g_crowded : Cb P w K mg base (L2.CX P w) 5 "crowded" a.f_crowded ["berths", "wishes"] (sp_crowded K a)) : Cb P w K mg base (L2.CX P w) 6 "is_good" a.f_is_good ["berths", "wishes"] (sp_is_good K a) := by
  obtain ⟨⟨fd, F, bb⟩, gg⟩ := D
  refine ⟨⟨fd, F.okX sc_is_good (fun vs H Q E h => len_is_good h) (fun cdv A outer s H vs Q E hr h => ⟨t_is_good K a E, ?_, pu_is_good h⟩), bb⟩, gg, F.kp⟩
  exact (pss_one (ps_ret (pe_cmp (pc_isN (pe_cb g_crowded (hr.mono (by decide)) (by rfl) (passes_call (takes_of rfl rfl rfl rfl) (fun _ _ _ _ h => h)) (pa_cons (pv 0) (pa_cons (pv 1) pa_nil)))) rfl)))

abbrev s_p_check_ships : Stmt := topS 19
theorem sc_p_check_ships : FnScope N_p_check_ships ["berths", "ships"] (defScope s_p_check_ships) := ⟨rfl, rfl, rfl, by decide +kernel, rfl, by decide +kernel, by decide +kernel⟩
theorem ok_p_check_ships (D : DF K mg "_check_ships" s_p_check_ships ["berths", "ships"] a.f_p_check_ships) (T : Txt K mg a) (g_is_from_to : Cb P w K mg base CX0 2 "is_from_to" a.f_is_from_to ["low", "high", "thing"] (sp_is_from_to K a)) (g_check_quay : Cb P w K mg base (L2.CX P w) 3 "check_quay" a.f_check_quay ["berths"] (sp_check_quay K a)) : Cb P w K mg base (L2.CX P w) 4 "_check_ships" a.f_p_check_ships ["berths", "ships"] (sp_p_check_ships K a) := by
  obtain ⟨⟨fd, F, bb⟩, gg⟩ := D
  refine ⟨⟨fd, F.okX sc_p_check_ships (fun vs H Q E h => len_p_check_ships h) (fun cdv A outer s H vs Q E hr h => ⟨t_p_check_ships K a E, ?_, pu_p_check_ships h⟩), bb⟩, gg, F.kp⟩
  exact (pss_cons (ps_expr (pe_cb g_check_quay (hr.mono (by decide)) (by rfl) (passes_call (takes_of rfl rfl rfl rfl) (fun _ _ _ _ h => h)) (pa_cons (pv 0) pa_nil)))
    (pss_one (ps_if (pt_not (pt_val (pe_cb g_is_from_to (hr.mono (by decide)) (by rfl) pass0 (pa_cons pe_int (pa_cons (pv 0) (pa_cons (pv 1) pa_nil)))))) (pss_one (ps_raise rfl (takes_of rfl rfl rfl rfl) (pmk_own PySem.F.excBase_ValueError T.e_NoCount.x T.e_NoCount.g T.e_NoCount.k (raises_own T.e_NoCount.b T.e_NoCount.t) (by exact rfl)))) pss_nil)))

abbrev s_last_row : Stmt := topS 17
theorem sc_last_row : FnScope N_last_row ["berths", "ships"] (defScope s_last_row) := ⟨rfl, rfl, rfl, by decide +kernel, rfl, by decide +kernel, by decide +kernel⟩
theorem ok_last_row (D : DF K mg "last_row" s_last_row ["berths", "ships"] a.f_last_row) (T : Txt K mg a) (g_p_check_ships : Cb P w K mg base (L2.CX P w) 4 "_check_ships" a.f_p_check_ships ["berths", "ships"] (sp_p_check_ships K a)) : Cb P w K mg base (L2.CX P w) 5 "last_row" a.f_last_row ["berths", "ships"] (sp_last_row K a) := by
  obtain ⟨⟨fd, F, bb⟩, gg⟩ := D
  refine ⟨⟨fd, F.okX sc_last_row (fun vs H Q E h => len_last_row h) (fun cdv A outer s H vs Q E hr h => ⟨t_last_row K a E, ?_, pu_last_row h⟩), bb⟩, gg, F.kp⟩
  exact (pss_cons (ps_expr (pe_cb g_p_check_ships (hr.mono (by decide)) (by rfl) (passes_call (takes_of rfl rfl rfl rfl) (fun _ _ _ _ h => h)) (pa_cons (pv 0) (pa_cons (pv 1) pa_nil))))
    (pss_one (ps_ret (pe_tupRg3 rfl (by rfl) T.b_tuple (by rfl) T.b_range (pa_cons (pv 0) (pa_cons (pe_op op_sub (pv 0) (pv 1)) (pa_cons (pe_un un_neg pe_int) pa_nil)))))))

abbrev s_next_row : Stmt := topS 18
theorem sc_next_row : FnScope N_next_row ["berths", "wishes"] (defScope s_next_row) := ⟨rfl, rfl, rfl, by decide +kernel, rfl, by decide +kernel, by decide +kernel⟩
theorem ok_next_row (D : DF K mg "next_row" s_next_row ["berths", "wishes"] a.f_next_row) (T : Txt K mg a) (g_is_good : Cb P w K mg base (L2.CX P w) 6 "is_good" a.f_is_good ["berths", "wishes"] (sp_is_good K a)) : Cb P w K mg base (L2.CX P w) 7 "next_row" a.f_next_row ["berths", "wishes"] (sp_next_row K a) := by
  obtain ⟨⟨fd, F, bb⟩, gg⟩ := D
  refine ⟨⟨fd, F.okX sc_next_row (fun vs H Q E h => len_next_row h) (fun cdv A outer s H vs Q E hr h => ⟨t_next_row K a E, ?_, pu_next_row h⟩), bb⟩, gg, F.kp⟩
  exact (pss_cons (ps_if (pt_not (pt_val (pe_cb g_is_good (hr.mono (by decide)) (by rfl) (passes_call (takes_of rfl rfl rfl rfl) (fun _ _ _ _ h => h)) (pa_cons (pv 0) (pa_cons (pv 1) pa_nil))))) (pss_one (ps_raise rfl (takes_of rfl rfl rfl rfl) (pmk_own PySem.F.excBase_ValueError T.e_NoWishes.x T.e_NoWishes.g T.e_NoWishes.k (raises_own T.e_NoWishes.b T.e_NoWishes.t) (by exact rfl)))) pss_nil)
    (pss_cons (ps_set (i := 2) sc_next_row.nd rfl (by first | exact Or.inl rfl | exact Or.inr rfl) (pe_callTy call_tuple_of (by rfl) T.b_tuple (by decide +kernel) (pa_cons (pv 1) pa_nil)))
    (pss_cons (ps_for (passes_of rfl) rfl (pi_revR (by rfl) T.b_reversed (prg_1 (by rfl) T.b_range (pe_callB call_len_seq (by rfl) T.b_len (by decide +kernel) (pa_cons (pv 2) pa_nil)))) (pg_name (i := 3) sc_next_row.nd rfl (by first | exact Or.inl rfl | exact Or.inr rfl))
    (pss_cons (ps_set (i := 4) sc_next_row.nd rfl (by first | exact Or.inl rfl | exact Or.inr rfl) (pe_op op_catA (pe_slice sl_tupA (pv 2) po_none (po_some (pv 3))) (pe_tup (pa_cons (pe_op op_add (pe_ix ix_tup (pv 2) (pv 3) (fun _ _ => rfl)) pe_int) pa_nil))))
    (pss_one (ps_if (PW.pt (pw_and (pt_cmpR op_lt (pe_ix ix_tup (pv 2) (pv 3) (fun _ _ => rfl)) (pv 0) (nomark _)) (pw_and1 (pt_val (pe_cb g_is_good (hr.mono (by decide)) (by rfl) (passes_call (takes_of rfl rfl rfl rfl) (fun _ _ _ _ h => h)) (pa_cons (pv 0) (pa_cons (pv 4) pa_nil))))))) (pss_one (ps_ret (pe_op op_catA (pv 4) (pe_op op_repTA (pe_tup (pa_cons pe_int pa_nil)) (pe_op op_sub (pe_callB call_len_seq (by rfl) T.b_len (by decide +kernel) (pa_cons (pv 2) pa_nil)) (pe_callB call_len_seq (by rfl) T.b_len (by decide +kernel) (pa_cons (pv 4) pa_nil))))))) pss_nil))))
    (pss_one (ps_ret pe_non)))))

abbrev s_l_cell_at : Stmt := topS 21
theorem sc_l_cell_at : FnScope N_l_cell_at ["_law_script", "_law_k"] (defScope s_l_cell_at) := ⟨rfl, rfl, rfl, by decide +kernel, rfl, by decide +kernel, by decide +kernel⟩
theorem ok_l_cell_at (D : DF K mg "_law_cell_at" s_l_cell_at ["_law_script", "_law_k"] a.f_l_cell_at) (T : Txt K mg a) : Cb P w K mg base CX0 1 "_law_cell_at" a.f_l_cell_at ["_law_script", "_law_k"] (sp_l_cell_at K) := by
  obtain ⟨⟨fd, F, bb⟩, gg⟩ := D
  refine ⟨⟨fd, F.ok sc_l_cell_at (fun vs H Q E h => len_l_cell_at h) (fun cdv A outer s H vs Q E hr h => ⟨t_l_cell_at K a, ?_, pu_l_cell_at h⟩), bb⟩, gg, F.kp⟩
  exact (pss_cons (ps_if (pt_cmpR op_lt (pv 1) (pe_callB call_len_seq (by rfl) T.b_len (by decide +kernel) (pa_cons (pv 0) pa_nil)) (nomark _)) (pss_one (ps_ret (pe_ix ix_list (pv 0) (pv 1) (fun _ _ => rfl)))) pss_nil)
    (pss_one (ps_ret pe_int)))

abbrev s_l_quay : Stmt := topS 22
theorem sc_l_quay : FnScope N_l_quay ["_law_script"] (defScope s_l_quay) := ⟨rfl, rfl, rfl, by decide +kernel, rfl, by decide +kernel, by decide +kernel⟩
theorem ok_l_quay (D : DF K mg "_law_quay" s_l_quay ["_law_script"] a.f_l_quay) (T : Txt K mg a) (g_l_cell_at : Cb P w K mg base CX0 1 "_law_cell_at" a.f_l_cell_at ["_law_script", "_law_k"] (sp_l_cell_at K)) : Cb P w K mg base CX0 2 "_law_quay" a.f_l_quay ["_law_script"] (sp_l_quay K) := by
  obtain ⟨⟨fd, F, bb⟩, gg⟩ := D
  refine ⟨⟨fd, F.ok sc_l_quay (fun vs H Q E h => len_l_quay h) (fun cdv A outer s H vs Q E hr h => ⟨t_l_quay K a, ?_, pu_l_quay h⟩), bb⟩, gg, F.kp⟩
  exact (pss_one (ps_ret (pe_op op_add pe_int (pe_op op_mod (pe_cb g_l_cell_at (hr.mono (by decide)) (by rfl) pass0 (pa_cons (pv 0) (pa_cons pe_int pa_nil))) (pe_ix ix_list (pe_lst (pa_cons pe_int (pa_cons pe_int (pa_cons pe_int pa_nil)))) (pe_op op_mod (pe_cb g_l_cell_at (hr.mono (by decide)) (by rfl) pass0 (pa_cons (pv 0) (pa_cons pe_int pa_nil))) pe_int) (fun _ _ => rfl))))))

abbrev s_l_good : Stmt := topS 23
theorem sc_l_good : FnScope N_l_good ["_law_berths", "_law_wishes"] (defScope s_l_good) := ⟨rfl, rfl, rfl, by decide +kernel, rfl, by decide +kernel, by decide +kernel⟩
theorem ok_l_good (D : DF K mg "_law_good" s_l_good ["_law_berths", "_law_wishes"] a.f_l_good) (T : Txt K mg a) : Cb P w K mg base CX0 1 "_law_good" a.f_l_good ["_law_berths", "_law_wishes"] (sp_l_good K) := by
  obtain ⟨⟨fd, F, bb⟩, gg⟩ := D
  refine ⟨⟨fd, F.ok sc_l_good (fun vs H Q E h => len_l_good h) (fun cdv A outer s H vs Q E hr h => ⟨t_l_good K a, ?_, pu_l_good h⟩), bb⟩, gg, F.kp⟩
  exact (pss_cons (ps_set (i := 2) sc_l_good.nd rfl (by first | exact Or.inl rfl | exact Or.inr rfl) (pe_callB cr_sortedT (by rfl) T.b_sorted (by decide +kernel) (pa_cons (pv 1) pa_nil)))
    (pss_cons (ps_for PassesOwn.never rfl (pi_range1 (by rfl) T.b_range (pa_cons (pe_callB call_len_seq (by rfl) T.b_len (by decide +kernel) (pa_cons (pv 2) pa_nil)) pa_nil)) (pg_name (i := 3) sc_l_good.nd rfl (by first | exact Or.inl rfl | exact Or.inr rfl))
    (pss_one (ps_if (pt_cmpR op_gt (pe_ix ix_list (pv 2) (pv 3) (fun _ _ => rfl)) (pe_op op_add (pe_op op_add (pe_op op_sub (pv 0) (pe_callB call_len_seq (by rfl) T.b_len (by decide +kernel) (pa_cons (pv 2) pa_nil))) (pv 3)) pe_int) (nomark _)) (pss_one (ps_ret pe_bl)) pss_nil)))
    (pss_one (ps_ret pe_bl))))

abbrev s_l_lowered : Stmt := topS 24
theorem sc_l_lowered : FnScope N_l_lowered ["_law_cells", "_law_berths", "_law_ships"] (defScope s_l_lowered) := ⟨rfl, rfl, rfl, by decide +kernel, rfl, by decide +kernel, by decide +kernel⟩
theorem ok_l_lowered (D : DF K mg "_law_lowered" s_l_lowered ["_law_cells", "_law_berths", "_law_ships"] a.f_l_lowered) (T : Txt K mg a) : Cb P w K mg base CX0 1 "_law_lowered" a.f_l_lowered ["_law_cells", "_law_berths", "_law_ships"] (sp_l_lowered K) := by
  obtain ⟨⟨fd, F, bb⟩, gg⟩ := D
  refine ⟨⟨fd, F.ok sc_l_lowered (fun vs H Q E h => len_l_lowered h) (fun cdv A outer s H vs Q E hr h => ⟨t_l_lowered K a, ?_, pu_l_lowered h⟩), bb⟩, gg, F.kp⟩
  exact (pss_cons (ps_set (i := 3) sc_l_lowered.nd rfl (by first | exact Or.inl rfl | exact Or.inr rfl) (pe_lst pa_nil))
    (pss_cons (ps_for PassesOwn.never rfl (pi_enum (by rfl) T.b_enumerate (pa_cons (pe_slice sl_list (pv 0) po_none (po_some (pv 2))) pa_nil)) (pg_tup rfl (pgs_cons (pg_name (i := 4) sc_l_lowered.nd rfl (by first | exact Or.inl rfl | exact Or.inr rfl)) (pgs_cons (pg_name (i := 5) sc_l_lowered.nd rfl (by first | exact Or.inl rfl | exact Or.inr rfl)) pgs_nil)))
    (pss_one (ps_expr (pe_bm PySem.F.plainAttrs_list PySem.F.slot_list_append PySem.F.type_list_append mt_append (pv 3) (pa_cons (pe_op op_add pe_int (pe_op op_mod (pv 5) (pe_op op_add (pe_op op_add (pe_op op_sub (pv 1) (pe_callB call_len_seq (by rfl) T.b_len (by decide +kernel) (pa_cons (pe_slice sl_list (pv 0) po_none (po_some (pv 2))) pa_nil))) (pv 4)) pe_int))) pa_nil)))))
    (pss_cons (ps_set (i := 6) sc_l_lowered.nd rfl (by first | exact Or.inl rfl | exact Or.inr rfl) (pe_callB (cr_sum rfl) (by rfl) T.b_sum (by decide +kernel) (pa_cons (pe_lc (own := [("_law_cell", 5)]) rfl sc_l_lowered.nd (pi_list (pe_slice sl_list (pv 0) po_none (po_some pe_int))) (blkOk_by (N := N_l_lowered) (sc := defScope s_l_lowered) (by decide +kernel)) (fun _ _ _ _ _ => (pg_name (i := 5) sc_l_lowered.nd rfl (by first | exact Or.inl rfl | exact Or.inr rfl))) (fun _ _ _ _ _ => pts_nil) (fun _ _ _ _ _ => (pe_op op_mod (pv 5) pe_int))) pa_nil)))
    (pss_one (ps_ret (pe_callTy call_tuple_of (by rfl) T.b_tuple (by decide +kernel) (pa_cons (pe_op op_cat (pe_slice sl_list (pv 3) (po_some (pe_op op_mod (pv 6) (pe_callB (call_max2 rfl) (by rfl) T.b_max (by decide +kernel) (pa_cons pe_int (pa_cons (pe_callB call_len_seq (by rfl) T.b_len (by decide +kernel) (pa_cons (pv 3) pa_nil)) pa_nil))))) po_none) (pe_slice sl_list (pv 3) po_none (po_some (pe_op op_mod (pv 6) (pe_callB (call_max2 rfl) (by rfl) T.b_max (by decide +kernel) (pa_cons pe_int (pa_cons (pe_callB call_len_seq (by rfl) T.b_len (by decide +kernel) (pa_cons (pv 3) pa_nil)) pa_nil))))))) pa_nil)))))))

abbrev s_l_refused : Stmt := topS 25
theorem sc_l_refused : FnScope N_l_refused ["_law_berths", "_law_wishes"] (defScope s_l_refused) := ⟨rfl, rfl, rfl, by decide +kernel, rfl, by decide +kernel, by decide +kernel⟩
theorem ok_l_refused (D : DF K mg "_law_refused" s_l_refused ["_law_berths", "_law_wishes"] a.f_l_refused) (T : Txt K mg a) (g_next_row : Cb P w K mg base (L2.CX P w) 7 "next_row" a.f_next_row ["berths", "wishes"] (sp_next_row K a)) : Cb P w K mg base CX0 8 "_law_refused" a.f_l_refused ["_law_berths", "_law_wishes"] (sp_l_refused K a) := by
  obtain ⟨⟨fd, F, bb⟩, gg⟩ := D
  refine ⟨⟨fd, F.ok sc_l_refused (fun vs H Q E h => len_l_refused h) (fun cdv A outer s H vs Q E hr h => ⟨t_l_refused K a, ?_, pu_l_refused ⟨exm_of T.g_BerthError T.s_NoWishes_BerthError, T.g_NoWishes.c, kit3w (kit_ref T.g_NoCount T.s_NoWishes_NoCount) (kit_ref T.g_NoQuay T.s_NoWishes_NoQuay) (kit_ref T.g_TooMany T.s_NoWishes_TooMany), kit_ref T.g_NoWishes T.s_NoWishes_NoWishes, kit_typ (by decide +kernel) T.s_NoWishes_V⟩ h⟩), bb⟩, gg, F.kp⟩
  exact (pss_cons (ps_set (i := 2) sc_l_refused.nd rfl (by first | exact Or.inl rfl | exact Or.inr rfl) pe_non)
    (pss_cons (ps_try_keep (i := 3) (j := 2) (tb := fun W => (tDrop (tCallS (sp_next_row K a) (WE W) (tCons (tVar 0) (tCons (tVar 1) tNil))))) rfl rfl rfl sc_l_refused.nd rfl rfl ⟨rfl, by decide, .inl T.e_BerthError.g⟩ (fun W pn xe tk _ => (pss_one (ps_expr (pe_cbS g_next_row (hr.mono (by decide)) (by rfl) (fun s => passAt tk s) (pa_cons (pv 0) (pa_cons (pv 1) pa_nil)))))) (fun _ _ _ _ _ _ _ => pss_one (ps_set (i := 2) sc_l_refused.nd rfl (.inl rfl) (pv 3))))
    (pss_cons (ps_if (pt_val (pe_callB call_isiTE (by rfl) T.b_isinstance (by decide +kernel) (pa_cons (pv 2) (pa_cons (pe_tup (pa_cons (pe_glob (by rfl) T.e_NoCount.g rfl) (pa_cons (pe_glob (by rfl) T.e_NoQuay.g rfl) (pa_cons (pe_glob (by rfl) T.e_TooMany.g rfl) pa_nil)))) pa_nil)))) (pss_one (ps_ret pe_bl)) pss_nil)
    (pss_one (ps_ret (pe_and (pe_callB call_isiE (by rfl) T.b_isinstance (by decide +kernel) (pa_cons (pv 2) (pa_cons (pe_glob (by rfl) T.e_NoWishes.g rfl) pa_nil))) (pe_one (pe_callB call_isiE (by rfl) T.b_isinstance (by decide +kernel) (pa_cons (pv 2) (pa_cons (pe_bltn (by rfl) T.b_ValueError (by decide +kernel) rfl) pa_nil))))))))))

abbrev s_law : Stmt := topS 26
theorem sc_law : FnScope N_law ["_law_script"] (defScope s_law) := ⟨rfl, rfl, rfl, by decide +kernel, rfl, by decide +kernel, by decide +kernel⟩
theorem ok_law {f : Addr} {fd : FuncData} (F : Fun K "law" "law" s_law f fd) (T : Txt K mg a) (g_is_good : Cb P w K mg base (L2.CX P w) 6 "is_good" a.f_is_good ["berths", "wishes"] (sp_is_good K a)) (g_last_row : Cb P w K mg base (L2.CX P w) 5 "last_row" a.f_last_row ["berths", "ships"] (sp_last_row K a)) (g_next_row : Cb P w K mg base (L2.CX P w) 7 "next_row" a.f_next_row ["berths", "wishes"] (sp_next_row K a)) (g_l_quay : Cb P w K mg base CX0 2 "_law_quay" a.f_l_quay ["_law_script"] (sp_l_quay K)) (g_l_good : Cb P w K mg base CX0 1 "_law_good" a.f_l_good ["_law_berths", "_law_wishes"] (sp_l_good K)) (g_l_lowered : Cb P w K mg base CX0 1 "_law_lowered" a.f_l_lowered ["_law_cells", "_law_berths", "_law_ships"] (sp_l_lowered K)) (g_l_refused : Cb P w K mg base CX0 8 "_law_refused" a.f_l_refused ["_law_berths", "_law_wishes"] (sp_l_refused K a)) : FnOk P w K mg base CX0 9 f fd ["_law_script"] (sp_law K) := by
  refine F.ok sc_law (fun vs H Q E h => len_law h) (fun cdv A outer s H vs Q E hr h => ⟨t_law K a, ?_, pu_law h⟩)
  exact (pss_cons (ps_set (i := 1) sc_law.nd rfl (by first | exact Or.inl rfl | exact Or.inr rfl) (pe_cb g_l_quay (hr.mono (by decide)) (by rfl) pass0 (pa_cons (pv 0) pa_nil)))
    (pss_cons (ps_set (i := 2) sc_law.nd rfl (by first | exact Or.inl rfl | exact Or.inr rfl) (pe_callB (call_min2 rfl) (by rfl) T.b_min (by decide +kernel) (pa_cons (pv 1) (pa_cons (pe_callB call_len_seq (by rfl) T.b_len (by decide +kernel) (pa_cons (pe_slice sl_list (pv 0) (po_some pe_int) po_none) pa_nil)) pa_nil))))
    (pss_cons (ps_set (i := 3) sc_law.nd rfl (by first | exact Or.inl rfl | exact Or.inr rfl) (pe_cb g_l_lowered (hr.mono (by decide)) (by rfl) pass0 (pa_cons (pe_slice sl_list (pv 0) (po_some pe_int) po_none) (pa_cons (pv 1) (pa_cons (pv 2) pa_nil)))))
    (pss_cons (ps_set (i := 4) sc_law.nd rfl (by first | exact Or.inl rfl | exact Or.inr rfl) (pe_cb g_next_row (hr.mono (by decide)) (by rfl) passL (pa_cons (pv 1) (pa_cons (pe_callTy call_list_of (by rfl) T.b_list (by decide +kernel) (pa_cons (pv 3) pa_nil)) pa_nil))))
    (pss_cons (ps_if (pt_cmp (pc_isN (pv 4)) rfl) (pss_one (ps_ret (pe_cmpR (op_eqT hr.units) (pv 3) (pe_cb g_last_row (hr.mono (by decide)) (by rfl) passL (pa_cons (pv 1) (pa_cons (pv 2) pa_nil))) (nomark _)))) pss_nil)
    (pss_cons (ps_if (PW.pt (pw_or (pt_not (pt_val (pe_callB call_isi (by rfl) T.b_isinstance (by decide +kernel) (pa_cons (pv 4) (pa_cons (pe_bltn (by rfl) T.b_tuple (by decide +kernel) rfl) pa_nil))))) (pw_or (pt_cmpR op_ne (pe_callB call_len_seq (by rfl) T.b_len (by decide +kernel) (pa_cons (pv 4) pa_nil)) (pv 2) (nomark _)) (pw_or (pt_not (pt_cmpR (op_ltT hr.units0) (pv 3) (pv 4) (nomark _))) (pw_or1 (pt_not (pt_val (pe_cb g_l_good (hr.mono (by decide)) (by rfl) pass0 (pa_cons (pv 1) (pa_cons (pv 4) pa_nil)))))))))) (pss_one (ps_ret pe_bl)) pss_nil)
    (pss_cons (ps_set (i := 5) sc_law.nd rfl (by first | exact Or.inl rfl | exact Or.inr rfl) (pe_lst (pa_cons (pe_cb g_l_lowered (hr.mono (by decide)) (by rfl) pass0 (pa_cons (pe_revL (pe_slice sl_list (pv 0) (po_some pe_int) po_none)) (pa_cons (pv 1) (pa_cons (pv 2) pa_nil)))) (pa_cons (pe_revT (pv 3)) (pa_cons (pe_callTy call_tuple_of (by rfl) T.b_tuple (by decide +kernel) (pa_cons (pe_callB cr_sortedT (by rfl) T.b_sorted (by decide +kernel) (pa_cons (pv 3) pa_nil)) pa_nil)) (pa_cons (pe_cb g_last_row (hr.mono (by decide)) (by rfl) passL (pa_cons (pv 1) (pa_cons (pv 2) pa_nil))) pa_nil))))))
    (pss_cons (ps_for PassesOwn.never rfl (pi_range3 (by rfl) T.b_range (pa_cons (pe_op op_sub (pv 2) pe_int) (pa_cons (pe_un un_neg pe_int) (pa_cons (pe_un un_neg pe_int) pa_nil)))) (pg_name (i := 6) sc_law.nd rfl (by first | exact Or.inl rfl | exact Or.inr rfl))
    (pss_cons (ps_for PassesOwn.never rfl (pi_list (pe_lst (pa_cons (pe_un un_neg pe_int) (pa_cons pe_int (pa_cons pe_int pa_nil))))) (pg_name (i := 7) sc_law.nd rfl (by first | exact Or.inl rfl | exact Or.inr rfl))
    (pss_one (ps_expr (pe_bm PySem.F.plainAttrs_list PySem.F.slot_list_append PySem.F.type_list_append mt_append (pv 5) (pa_cons (pe_op op_catA (pe_op op_catA (pe_slice sl_tupA (pv 3) po_none (po_some (pv 6))) (pe_tup (pa_cons (pe_op op_add (pe_ix ix_tup (pv 3) (pv 6) (fun _ _ => rfl)) (pv 7)) pa_nil))) (pe_slice sl_tupA (pv 3) (po_some (pe_op op_add (pv 6) pe_int)) po_none)) pa_nil)))))
    (pss_cons (ps_expr (pe_bm PySem.F.plainAttrs_list PySem.F.slot_list_append PySem.F.type_list_append mt_append (pv 5) (pa_cons (pe_op op_catA (pe_slice sl_tupA (pv 3) po_none (po_some (pe_op op_add (pv 6) pe_int))) (pe_op op_repTA (pe_tup (pa_cons pe_int pa_nil)) (pe_op op_sub (pe_op op_sub (pv 2) (pv 6)) pe_int))) pa_nil)))
    (pss_one (ps_expr (pe_bm PySem.F.plainAttrs_list PySem.F.slot_list_append PySem.F.type_list_append mt_append (pv 5) (pa_cons (pe_op op_catA (pe_slice sl_tupA (pv 3) po_none (po_some (pe_op op_add (pv 6) pe_int))) (pe_slice sl_tupA (pe_cb g_last_row (hr.mono (by decide)) (by rfl) passL (pa_cons (pv 1) (pa_cons (pv 2) pa_nil))) po_none (po_some (pe_op op_sub (pe_op op_sub (pv 2) (pv 6)) pe_int)))) pa_nil)))))))
    (pss_cons (ps_setLc (i := 8) (own := [("_law_place", 6)]) rfl sc_law.nd rfl rfl (sw_true rfl rfl rfl (by decide +kernel)) (pi_range1 (by rfl) T.b_range (pa_cons (pv 2) pa_nil)) (blkOk_by (N := N_law) (sc := defScope s_law) (by decide +kernel)) (fun _ _ _ _ _ => (pg_name (i := 6) sc_law.nd rfl (by first | exact Or.inl rfl | exact Or.inr rfl))) (fun _ _ _ _ _ => pts_nil) (fun _ _ _ _ _ => (pe_op op_catA (pe_op op_catA (pe_slice sl_tupA (pv 3) po_none (po_some (pv 6))) (pe_tup (pa_cons (pe_callB (call_min2 rfl) (by rfl) T.b_min (by decide +kernel) (pa_cons (pv 1) (pa_cons (pe_op op_add (pe_ix ix_tup (pv 3) (pv 6) (fun _ _ => rfl)) pe_int) pa_nil))) pa_nil))) (pe_op op_repTA (pe_tup (pa_cons pe_int pa_nil)) (pe_op op_sub (pe_op op_sub (pv 2) (pv 6)) pe_int)))))
    (pss_cons (ps_for PassesOwn.never rfl (pi_list (pe_op op_cat (pe_slice sl_list (pv 5) po_none (po_some pe_int)) (pv 8))) (pg_name (i := 9) sc_law.nd rfl (by first | exact Or.inl rfl | exact Or.inr rfl))
    (pss_one (ps_if (PW.pt (pw_and (pt_cmpR op_gt (pe_callB (cr_minT rfl hr.units) (by rfl) T.b_min (by decide +kernel) (pa_cons (pv 9) pa_nil)) pe_int (nomark _)) (pw_and (pt_cmpR op_le (pe_callB (cr_maxT rfl hr.units) (by rfl) T.b_max (by decide +kernel) (pa_cons (pv 9) pa_nil)) (pv 1) (nomark _)) (pw_and1 (pt_val (pe_cb g_l_good (hr.mono (by decide)) (by rfl) pass0 (pa_cons (pv 1) (pa_cons (pv 9) pa_nil)))))))) (pss_one (ps_if (PW.pt (pw_and (pt_cmpR (op_ltT hr.units0) (pv 3) (pv 9) (nomark _)) (pw_and1 (pt_cmpR (op_ltT hr.units0) (pv 9) (pv 4) (nomark _))))) (pss_one (ps_ret pe_bl)) pss_nil)) pss_nil)))
    (pss_cons (ps_if (PW.pt (pw_or (pt_cmpR (op_neT hr.units) (pe_cb g_next_row (hr.mono (by decide)) (by rfl) passL (pa_cons (pv 1) (pa_cons (pv 3) pa_nil))) (pv 4) (nomark _)) (pw_or1 (pt_cmpR op_notBl (pe_cb g_is_good (hr.mono (by decide)) (by rfl) passL (pa_cons (pv 1) (pa_cons (pv 4) pa_nil))) pe_bl (nomark _))))) (pss_one (ps_ret pe_bl)) pss_nil)
    (pss_one (ps_ret (pe_or (pe_cmpR op_eq (pv 2) pe_int (nomark _)) (pe_one (pe_and (pe_cb g_l_refused (hr.mono (by decide)) (by rfl) pass0 (pa_cons (pv 1) (pa_cons (pe_op op_repTA (pe_tup (pa_cons (pv 1) pa_nil)) (pe_op op_add (pv 2) pe_int)) pa_nil))) (pe_one (pe_cb g_l_refused (hr.mono (by decide)) (by rfl) pass0 (pa_cons (pv 1) (pa_cons (pe_op op_rep (pe_lst (pa_cons pe_int pa_nil)) (pv 2)) pa_nil))))))))))))))))))))
end
theorem all_mk {P : Program} {w : World} {K : PySem.W.Frag} {h : Heap} {mg : Str → Option Value} {fa : Addr} (X : K.In h) (G : h.Ns mainGlobals mg) (hfa : mg "law" = some (.ref fa))
    {f_is_number f_is_from_to f_is_row f_check_quay f_check_wishes f_crowded f_is_good f_p_check_ships f_last_row f_next_row f_l_cell_at f_l_quay f_l_good f_l_lowered f_l_refused f_law e_BerthError e_NoCount e_NoQuay e_NoWishes e_TooMany : Addr}
    {od_is_number an_is_number od_is_from_to an_is_from_to od_is_row an_is_row od_check_quay an_check_quay od_check_wishes an_check_wishes od_crowded an_crowded od_is_good an_is_good od_p_check_ships an_p_check_ships od_last_row an_last_row od_next_row an_next_row od_l_cell_at an_l_cell_at od_l_quay an_l_quay od_l_good an_l_good od_l_lowered an_l_lowered od_l_refused an_l_refused od_law an_law : Option Addr}
    {sl_is_number sl_is_from_to sl_is_row sl_check_quay sl_check_wishes sl_crowded sl_is_good sl_p_check_ships sl_last_row sl_next_row sl_l_cell_at sl_l_quay sl_l_good sl_l_lowered sl_l_refused sl_law : Array (Option Value)}
    {oc_is_number kV_is_number dc_is_number pm_is_number cd_is_number ct_is_number oc_is_from_to kV_is_from_to dc_is_from_to pm_is_from_to cd_is_from_to ct_is_from_to oc_is_row kV_is_row dc_is_row pm_is_row cd_is_row ct_is_row oc_check_quay kV_check_quay dc_check_quay pm_check_quay cd_check_quay ct_check_quay oc_check_wishes kV_check_wishes dc_check_wishes pm_check_wishes cd_check_wishes ct_check_wishes oc_crowded kV_crowded dc_crowded pm_crowded cd_crowded ct_crowded oc_is_good kV_is_good dc_is_good pm_is_good cd_is_good ct_is_good oc_p_check_ships kV_p_check_ships dc_p_check_ships pm_p_check_ships cd_p_check_ships ct_p_check_ships oc_last_row kV_last_row dc_last_row pm_last_row cd_last_row ct_last_row oc_next_row kV_next_row dc_next_row pm_next_row cd_next_row ct_next_row oc_l_cell_at kV_l_cell_at dc_l_cell_at pm_l_cell_at cd_l_cell_at ct_l_cell_at oc_l_quay kV_l_quay dc_l_quay pm_l_quay cd_l_quay ct_l_quay oc_l_good kV_l_good dc_l_good pm_l_good cd_l_good ct_l_good oc_l_lowered kV_l_lowered dc_l_lowered pm_l_lowered cd_l_lowered ct_l_lowered oc_l_refused kV_l_refused dc_l_refused pm_l_refused cd_l_refused ct_l_refused oc_law kV_law dc_law pm_law cd_law ct_law : Value}
    {t_MOST : Tok}
    (a_is_number : PySem.W.nsIn K mainGlobals "is_number" = some (some (.ref f_is_number))) (l_is_number : K.lookup f_is_number = some ⟨oc_is_number, od_is_number, .func (PySem.W.fnOf "is_number" "is_number" (defArgs s_is_number) (defBody s_is_number) (defScope s_is_number) .none kV_is_number dc_is_number pm_is_number an_is_number cd_is_number ct_is_number), sl_is_number⟩) (cI_is_number : PySem.W.codeIn K cd_is_number "is_number" = true) (kI_is_number : PySem.W.keepIn K (.ref f_is_number) = true)
    (a_is_from_to : PySem.W.nsIn K mainGlobals "is_from_to" = some (some (.ref f_is_from_to))) (l_is_from_to : K.lookup f_is_from_to = some ⟨oc_is_from_to, od_is_from_to, .func (PySem.W.fnOf "is_from_to" "is_from_to" (defArgs s_is_from_to) (defBody s_is_from_to) (defScope s_is_from_to) .none kV_is_from_to dc_is_from_to pm_is_from_to an_is_from_to cd_is_from_to ct_is_from_to), sl_is_from_to⟩) (cI_is_from_to : PySem.W.codeIn K cd_is_from_to "is_from_to" = true) (kI_is_from_to : PySem.W.keepIn K (.ref f_is_from_to) = true)
    (a_is_row : PySem.W.nsIn K mainGlobals "is_row" = some (some (.ref f_is_row))) (l_is_row : K.lookup f_is_row = some ⟨oc_is_row, od_is_row, .func (PySem.W.fnOf "is_row" "is_row" (defArgs s_is_row) (defBody s_is_row) (defScope s_is_row) .none kV_is_row dc_is_row pm_is_row an_is_row cd_is_row ct_is_row), sl_is_row⟩) (cI_is_row : PySem.W.codeIn K cd_is_row "is_row" = true) (kI_is_row : PySem.W.keepIn K (.ref f_is_row) = true)
    (a_check_quay : PySem.W.nsIn K mainGlobals "check_quay" = some (some (.ref f_check_quay))) (l_check_quay : K.lookup f_check_quay = some ⟨oc_check_quay, od_check_quay, .func (PySem.W.fnOf "check_quay" "check_quay" (defArgs s_check_quay) (defBody s_check_quay) (defScope s_check_quay) .none kV_check_quay dc_check_quay pm_check_quay an_check_quay cd_check_quay ct_check_quay), sl_check_quay⟩) (cI_check_quay : PySem.W.codeIn K cd_check_quay "check_quay" = true) (kI_check_quay : PySem.W.keepIn K (.ref f_check_quay) = true)
    (a_check_wishes : PySem.W.nsIn K mainGlobals "check_wishes" = some (some (.ref f_check_wishes))) (l_check_wishes : K.lookup f_check_wishes = some ⟨oc_check_wishes, od_check_wishes, .func (PySem.W.fnOf "check_wishes" "check_wishes" (defArgs s_check_wishes) (defBody s_check_wishes) (defScope s_check_wishes) .none kV_check_wishes dc_check_wishes pm_check_wishes an_check_wishes cd_check_wishes ct_check_wishes), sl_check_wishes⟩) (cI_check_wishes : PySem.W.codeIn K cd_check_wishes "check_wishes" = true) (kI_check_wishes : PySem.W.keepIn K (.ref f_check_wishes) = true)
    (a_crowded : PySem.W.nsIn K mainGlobals "crowded" = some (some (.ref f_crowded))) (l_crowded : K.lookup f_crowded = some ⟨oc_crowded, od_crowded, .func (PySem.W.fnOf "crowded" "crowded" (defArgs s_crowded) (defBody s_crowded) (defScope s_crowded) .none kV_crowded dc_crowded pm_crowded an_crowded cd_crowded ct_crowded), sl_crowded⟩) (cI_crowded : PySem.W.codeIn K cd_crowded "crowded" = true) (kI_crowded : PySem.W.keepIn K (.ref f_crowded) = true)
    (a_is_good : PySem.W.nsIn K mainGlobals "is_good" = some (some (.ref f_is_good))) (l_is_good : K.lookup f_is_good = some ⟨oc_is_good, od_is_good, .func (PySem.W.fnOf "is_good" "is_good" (defArgs s_is_good) (defBody s_is_good) (defScope s_is_good) .none kV_is_good dc_is_good pm_is_good an_is_good cd_is_good ct_is_good), sl_is_good⟩) (cI_is_good : PySem.W.codeIn K cd_is_good "is_good" = true) (kI_is_good : PySem.W.keepIn K (.ref f_is_good) = true)
    (a_p_check_ships : PySem.W.nsIn K mainGlobals "_check_ships" = some (some (.ref f_p_check_ships))) (l_p_check_ships : K.lookup f_p_check_ships = some ⟨oc_p_check_ships, od_p_check_ships, .func (PySem.W.fnOf "_check_ships" "_check_ships" (defArgs s_p_check_ships) (defBody s_p_check_ships) (defScope s_p_check_ships) .none kV_p_check_ships dc_p_check_ships pm_p_check_ships an_p_check_ships cd_p_check_ships ct_p_check_ships), sl_p_check_ships⟩) (cI_p_check_ships : PySem.W.codeIn K cd_p_check_ships "_check_ships" = true) (kI_p_check_ships : PySem.W.keepIn K (.ref f_p_check_ships) = true)
    (a_last_row : PySem.W.nsIn K mainGlobals "last_row" = some (some (.ref f_last_row))) (l_last_row : K.lookup f_last_row = some ⟨oc_last_row, od_last_row, .func (PySem.W.fnOf "last_row" "last_row" (defArgs s_last_row) (defBody s_last_row) (defScope s_last_row) .none kV_last_row dc_last_row pm_last_row an_last_row cd_last_row ct_last_row), sl_last_row⟩) (cI_last_row : PySem.W.codeIn K cd_last_row "last_row" = true) (kI_last_row : PySem.W.keepIn K (.ref f_last_row) = true)
    (a_next_row : PySem.W.nsIn K mainGlobals "next_row" = some (some (.ref f_next_row))) (l_next_row : K.lookup f_next_row = some ⟨oc_next_row, od_next_row, .func (PySem.W.fnOf "next_row" "next_row" (defArgs s_next_row) (defBody s_next_row) (defScope s_next_row) .none kV_next_row dc_next_row pm_next_row an_next_row cd_next_row ct_next_row), sl_next_row⟩) (cI_next_row : PySem.W.codeIn K cd_next_row "next_row" = true) (kI_next_row : PySem.W.keepIn K (.ref f_next_row) = true)
    (a_l_cell_at : PySem.W.nsIn K mainGlobals "_law_cell_at" = some (some (.ref f_l_cell_at))) (l_l_cell_at : K.lookup f_l_cell_at = some ⟨oc_l_cell_at, od_l_cell_at, .func (PySem.W.fnOf "_law_cell_at" "_law_cell_at" (defArgs s_l_cell_at) (defBody s_l_cell_at) (defScope s_l_cell_at) .none kV_l_cell_at dc_l_cell_at pm_l_cell_at an_l_cell_at cd_l_cell_at ct_l_cell_at), sl_l_cell_at⟩) (cI_l_cell_at : PySem.W.codeIn K cd_l_cell_at "_law_cell_at" = true) (kI_l_cell_at : PySem.W.keepIn K (.ref f_l_cell_at) = true)
    (a_l_quay : PySem.W.nsIn K mainGlobals "_law_quay" = some (some (.ref f_l_quay))) (l_l_quay : K.lookup f_l_quay = some ⟨oc_l_quay, od_l_quay, .func (PySem.W.fnOf "_law_quay" "_law_quay" (defArgs s_l_quay) (defBody s_l_quay) (defScope s_l_quay) .none kV_l_quay dc_l_quay pm_l_quay an_l_quay cd_l_quay ct_l_quay), sl_l_quay⟩) (cI_l_quay : PySem.W.codeIn K cd_l_quay "_law_quay" = true) (kI_l_quay : PySem.W.keepIn K (.ref f_l_quay) = true)
    (a_l_good : PySem.W.nsIn K mainGlobals "_law_good" = some (some (.ref f_l_good))) (l_l_good : K.lookup f_l_good = some ⟨oc_l_good, od_l_good, .func (PySem.W.fnOf "_law_good" "_law_good" (defArgs s_l_good) (defBody s_l_good) (defScope s_l_good) .none kV_l_good dc_l_good pm_l_good an_l_good cd_l_good ct_l_good), sl_l_good⟩) (cI_l_good : PySem.W.codeIn K cd_l_good "_law_good" = true) (kI_l_good : PySem.W.keepIn K (.ref f_l_good) = true)
    (a_l_lowered : PySem.W.nsIn K mainGlobals "_law_lowered" = some (some (.ref f_l_lowered))) (l_l_lowered : K.lookup f_l_lowered = some ⟨oc_l_lowered, od_l_lowered, .func (PySem.W.fnOf "_law_lowered" "_law_lowered" (defArgs s_l_lowered) (defBody s_l_lowered) (defScope s_l_lowered) .none kV_l_lowered dc_l_lowered pm_l_lowered an_l_lowered cd_l_lowered ct_l_lowered), sl_l_lowered⟩) (cI_l_lowered : PySem.W.codeIn K cd_l_lowered "_law_lowered" = true) (kI_l_lowered : PySem.W.keepIn K (.ref f_l_lowered) = true)
    (a_l_refused : PySem.W.nsIn K mainGlobals "_law_refused" = some (some (.ref f_l_refused))) (l_l_refused : K.lookup f_l_refused = some ⟨oc_l_refused, od_l_refused, .func (PySem.W.fnOf "_law_refused" "_law_refused" (defArgs s_l_refused) (defBody s_l_refused) (defScope s_l_refused) .none kV_l_refused dc_l_refused pm_l_refused an_l_refused cd_l_refused ct_l_refused), sl_l_refused⟩) (cI_l_refused : PySem.W.codeIn K cd_l_refused "_law_refused" = true) (kI_l_refused : PySem.W.keepIn K (.ref f_l_refused) = true)
    (a_law : PySem.W.nsIn K mainGlobals "law" = some (some (.ref f_law))) (l_law : K.lookup f_law = some ⟨oc_law, od_law, .func (PySem.W.fnOf "law" "law" (defArgs s_law) (defBody s_law) (defScope s_law) .none kV_law dc_law pm_law an_law cd_law ct_law), sl_law⟩) (cI_law : PySem.W.codeIn K cd_law "law" = true) (kI_law : PySem.W.keepIn K (.ref f_law) = true)
    (z_ValueError : PySem.W.nsIn K mainGlobals "ValueError" = some none)
    (z_enumerate : PySem.W.nsIn K mainGlobals "enumerate" = some none)
    (z_int : PySem.W.nsIn K mainGlobals "int" = some none)
    (z_isinstance : PySem.W.nsIn K mainGlobals "isinstance" = some none)
    (z_len : PySem.W.nsIn K mainGlobals "len" = some none)
    (z_list : PySem.W.nsIn K mainGlobals "list" = some none)
    (z_max : PySem.W.nsIn K mainGlobals "max" = some none)
    (z_min : PySem.W.nsIn K mainGlobals "min" = some none)
    (z_range : PySem.W.nsIn K mainGlobals "range" = some none)
    (z_reversed : PySem.W.nsIn K mainGlobals "reversed" = some none)
    (z_sorted : PySem.W.nsIn K mainGlobals "sorted" = some none)
    (z_sum : PySem.W.nsIn K mainGlobals "sum" = some none)
    (z_tuple : PySem.W.nsIn K mainGlobals "tuple" = some none)
    (z_type : PySem.W.nsIn K mainGlobals "type" = some none)
    (y_MOST : PySem.W.nsIn K mainGlobals "MOST" = some (some (.int 400 t_MOST)))
    (xg_BerthError : PySem.W.nsIn K mainGlobals "BerthError" = some (some (.ref e_BerthError)))
    (xx_BerthError : PySem.W.excIn K e_BerthError [.type "ValueError", .type "Exception", .type "BaseException", .type "object"] "ValueError.__new__" = true)
    (xk_BerthError : PySem.W.keepIn K (.ref e_BerthError) = true)
    (xb_BerthError : PySem.W.subIn K (.ref e_BerthError) (.type "BaseException") = some true)
    (xt_BerthError : PySem.W.typeIn K (.ref e_BerthError) = some (.type "type"))
    (xg_NoCount : PySem.W.nsIn K mainGlobals "NoCount" = some (some (.ref e_NoCount)))
    (xx_NoCount : PySem.W.excIn K e_NoCount [.type "ValueError", .type "Exception", .type "BaseException", .type "object"] "ValueError.__new__" = true)
    (xk_NoCount : PySem.W.keepIn K (.ref e_NoCount) = true)
    (xb_NoCount : PySem.W.subIn K (.ref e_NoCount) (.type "BaseException") = some true)
    (xt_NoCount : PySem.W.typeIn K (.ref e_NoCount) = some (.type "type"))
    (xg_NoQuay : PySem.W.nsIn K mainGlobals "NoQuay" = some (some (.ref e_NoQuay)))
    (xx_NoQuay : PySem.W.excIn K e_NoQuay [.type "ValueError", .type "Exception", .type "BaseException", .type "object"] "ValueError.__new__" = true)
    (xk_NoQuay : PySem.W.keepIn K (.ref e_NoQuay) = true)
    (xb_NoQuay : PySem.W.subIn K (.ref e_NoQuay) (.type "BaseException") = some true)
    (xt_NoQuay : PySem.W.typeIn K (.ref e_NoQuay) = some (.type "type"))
    (xg_NoWishes : PySem.W.nsIn K mainGlobals "NoWishes" = some (some (.ref e_NoWishes)))
    (xx_NoWishes : PySem.W.excIn K e_NoWishes [.type "ValueError", .type "Exception", .type "BaseException", .type "object"] "ValueError.__new__" = true)
    (xk_NoWishes : PySem.W.keepIn K (.ref e_NoWishes) = true)
    (xb_NoWishes : PySem.W.subIn K (.ref e_NoWishes) (.type "BaseException") = some true)
    (xt_NoWishes : PySem.W.typeIn K (.ref e_NoWishes) = some (.type "type"))
    (xg_TooMany : PySem.W.nsIn K mainGlobals "TooMany" = some (some (.ref e_TooMany)))
    (xx_TooMany : PySem.W.excIn K e_TooMany [.type "ValueError", .type "Exception", .type "BaseException", .type "object"] "ValueError.__new__" = true)
    (xk_TooMany : PySem.W.keepIn K (.ref e_TooMany) = true)
    (xb_TooMany : PySem.W.subIn K (.ref e_TooMany) (.type "BaseException") = some true)
    (xt_TooMany : PySem.W.typeIn K (.ref e_TooMany) = some (.type "type"))
    (v_hn : PySem.W.specialIn K (.builtin "object.__class__") "__get__" = some (some (.builtin "getset_descriptor.__get__")))
    (v_ht : PySem.W.takesIn K (.builtin "object.__class__") = some true)
    (vhg_BerthError : PySem.W.findIn K (.ref e_BerthError) "__getattribute__" = some (some (.builtin "BaseException.__getattribute__")))
    (vhk_BerthError : PySem.W.findIn K (.ref e_BerthError) "__getattr__" = some none)
    (vhs_BerthError : PySem.W.subIn K (.ref e_BerthError) (.type "BaseException") = some true)
    (vhd_BerthError : PySem.W.hasDictIn K e_BerthError = true)
    (vha_BerthError : PySem.W.findIn K (.ref e_BerthError) "__class__" = some (some (.builtin "object.__class__")))
    (vhm_BerthError : PySem.W.mroIn K e_BerthError (.type "object") = some true)
    (vty_BerthError : PySem.W.typeIn K (.ref e_BerthError) = some (.type "type"))
    (vse_BerthError : PySem.W.subIn K (.ref e_BerthError) (.ref e_BerthError) = some true)
    (vhg_NoQuay : PySem.W.findIn K (.ref e_NoQuay) "__getattribute__" = some (some (.builtin "BaseException.__getattribute__")))
    (vhk_NoQuay : PySem.W.findIn K (.ref e_NoQuay) "__getattr__" = some none)
    (vhs_NoQuay : PySem.W.subIn K (.ref e_NoQuay) (.type "BaseException") = some true)
    (vhd_NoQuay : PySem.W.hasDictIn K e_NoQuay = true)
    (vha_NoQuay : PySem.W.findIn K (.ref e_NoQuay) "__class__" = some (some (.builtin "object.__class__")))
    (vhm_NoQuay : PySem.W.mroIn K e_NoQuay (.type "object") = some true)
    (vty_NoQuay : PySem.W.typeIn K (.ref e_NoQuay) = some (.type "type"))
    (vse_NoQuay : PySem.W.subIn K (.ref e_NoQuay) (.ref e_NoQuay) = some true)
    (vhg_NoWishes : PySem.W.findIn K (.ref e_NoWishes) "__getattribute__" = some (some (.builtin "BaseException.__getattribute__")))
    (vhk_NoWishes : PySem.W.findIn K (.ref e_NoWishes) "__getattr__" = some none)
    (vhs_NoWishes : PySem.W.subIn K (.ref e_NoWishes) (.type "BaseException") = some true)
    (vhd_NoWishes : PySem.W.hasDictIn K e_NoWishes = true)
    (vha_NoWishes : PySem.W.findIn K (.ref e_NoWishes) "__class__" = some (some (.builtin "object.__class__")))
    (vhm_NoWishes : PySem.W.mroIn K e_NoWishes (.type "object") = some true)
    (vty_NoWishes : PySem.W.typeIn K (.ref e_NoWishes) = some (.type "type"))
    (vse_NoWishes : PySem.W.subIn K (.ref e_NoWishes) (.ref e_NoWishes) = some true)
    (vhg_TooMany : PySem.W.findIn K (.ref e_TooMany) "__getattribute__" = some (some (.builtin "BaseException.__getattribute__")))
    (vhk_TooMany : PySem.W.findIn K (.ref e_TooMany) "__getattr__" = some none)
    (vhs_TooMany : PySem.W.subIn K (.ref e_TooMany) (.type "BaseException") = some true)
    (vhd_TooMany : PySem.W.hasDictIn K e_TooMany = true)
    (vha_TooMany : PySem.W.findIn K (.ref e_TooMany) "__class__" = some (some (.builtin "object.__class__")))
    (vhm_TooMany : PySem.W.mroIn K e_TooMany (.type "object") = some true)
    (vty_TooMany : PySem.W.typeIn K (.ref e_TooMany) = some (.type "type"))
    (vse_TooMany : PySem.W.subIn K (.ref e_TooMany) (.ref e_TooMany) = some true)
    (vhg_NoCount : PySem.W.findIn K (.ref e_NoCount) "__getattribute__" = some (some (.builtin "BaseException.__getattribute__")))
    (vhk_NoCount : PySem.W.findIn K (.ref e_NoCount) "__getattr__" = some none)
    (vhs_NoCount : PySem.W.subIn K (.ref e_NoCount) (.type "BaseException") = some true)
    (vhd_NoCount : PySem.W.hasDictIn K e_NoCount = true)
    (vha_NoCount : PySem.W.findIn K (.ref e_NoCount) "__class__" = some (some (.builtin "object.__class__")))
    (vhm_NoCount : PySem.W.mroIn K e_NoCount (.type "object") = some true)
    (vty_NoCount : PySem.W.typeIn K (.ref e_NoCount) = some (.type "type"))
    (vse_NoCount : PySem.W.subIn K (.ref e_NoCount) (.ref e_NoCount) = some true)
    (w_NoWishes_BerthError : PySem.W.subIn K (.ref e_NoWishes) (.ref e_BerthError) = some true)
    (w_NoWishes_NoCount : PySem.W.subIn K (.ref e_NoWishes) (.ref e_NoCount) = some false)
    (w_NoWishes_NoQuay : PySem.W.subIn K (.ref e_NoWishes) (.ref e_NoQuay) = some false)
    (w_NoWishes_TooMany : PySem.W.subIn K (.ref e_NoWishes) (.ref e_TooMany) = some false)
    (w_NoWishes_NoWishes : PySem.W.subIn K (.ref e_NoWishes) (.ref e_NoWishes) = some true)
    (w_NoWishes_V : PySem.W.subIn K (.ref e_NoWishes) (.type "ValueError") = some true)
    : ∃ fd : FuncData, (∀ (s : Shared) (v : Value), BindsTo s fd ⟨[v], []⟩ [("_law_script", v)]) ∧ ∀ base : Heap, K.In base → base.Ns mainGlobals mg → FnOk P w K mg base CX0 9 fa fd ["_law_script"] (sp_law K) := by
  have e := hfa.symm.trans (PySem.W.mg_of X G a_law)
  cases e
  have T : Txt K mg ({ f_is_number := f_is_number, f_is_from_to := f_is_from_to, f_is_row := f_is_row, f_check_quay := f_check_quay, f_check_wishes := f_check_wishes, f_crowded := f_crowded, f_is_good := f_is_good, f_p_check_ships := f_p_check_ships, f_last_row := f_last_row, f_next_row := f_next_row, f_l_cell_at := f_l_cell_at, f_l_quay := f_l_quay, f_l_good := f_l_good, f_l_lowered := f_l_lowered, f_l_refused := f_l_refused, e_BerthError := e_BerthError, e_NoCount := e_NoCount, e_NoQuay := e_NoQuay, e_NoWishes := e_NoWishes, e_TooMany := e_TooMany } : Ad) := ⟨trivial,
    PySem.W.mg_none_of X G z_ValueError,
    PySem.W.mg_none_of X G z_enumerate,
    PySem.W.mg_none_of X G z_int,
    PySem.W.mg_none_of X G z_isinstance,
    PySem.W.mg_none_of X G z_len,
    PySem.W.mg_none_of X G z_list,
    PySem.W.mg_none_of X G z_max,
    PySem.W.mg_none_of X G z_min,
    PySem.W.mg_none_of X G z_range,
    PySem.W.mg_none_of X G z_reversed,
    PySem.W.mg_none_of X G z_sorted,
    PySem.W.mg_none_of X G z_sum,
    PySem.W.mg_none_of X G z_tuple,
    PySem.W.mg_none_of X G z_type,
    ⟨_, PySem.W.mg_of X G y_MOST, ⟨_, rfl⟩⟩,
    ⟨PySem.W.mg_of X G xg_BerthError, xx_BerthError, xk_BerthError, xb_BerthError, xt_BerthError⟩,
    ⟨PySem.W.mg_of X G xg_NoCount, xx_NoCount, xk_NoCount, xb_NoCount, xt_NoCount⟩,
    ⟨PySem.W.mg_of X G xg_NoQuay, xx_NoQuay, xk_NoQuay, xb_NoQuay, xt_NoQuay⟩,
    ⟨PySem.W.mg_of X G xg_NoWishes, xx_NoWishes, xk_NoWishes, xb_NoWishes, xt_NoWishes⟩,
    ⟨PySem.W.mg_of X G xg_TooMany, xx_TooMany, xk_TooMany, xb_TooMany, xt_TooMany⟩,
    ⟨⟨vhg_BerthError, vhk_BerthError, vhs_BerthError, vhd_BerthError, vha_BerthError, v_hn, v_ht, vhm_BerthError⟩, vty_BerthError, vse_BerthError⟩,
    ⟨⟨vhg_NoQuay, vhk_NoQuay, vhs_NoQuay, vhd_NoQuay, vha_NoQuay, v_hn, v_ht, vhm_NoQuay⟩, vty_NoQuay, vse_NoQuay⟩,
    ⟨⟨vhg_NoWishes, vhk_NoWishes, vhs_NoWishes, vhd_NoWishes, vha_NoWishes, v_hn, v_ht, vhm_NoWishes⟩, vty_NoWishes, vse_NoWishes⟩,
    ⟨⟨vhg_TooMany, vhk_TooMany, vhs_TooMany, vhd_TooMany, vha_TooMany, v_hn, v_ht, vhm_TooMany⟩, vty_TooMany, vse_TooMany⟩,
    ⟨⟨vhg_NoCount, vhk_NoCount, vhs_NoCount, vhd_NoCount, vha_NoCount, v_hn, v_ht, vhm_NoCount⟩, vty_NoCount, vse_NoCount⟩,
    w_NoWishes_BerthError,
    w_NoWishes_NoCount,
    w_NoWishes_NoQuay,
    w_NoWishes_TooMany,
    w_NoWishes_NoWishes,
    w_NoWishes_V⟩
  have D_is_number : DF K mg "is_number" s_is_number ["thing"] f_is_number := df_mk (fun_mk (st := s_is_number) l_is_number cI_is_number kI_is_number) (fun _ _ _ _ _ _ us hl => match us, hl with | [_], _ => rfl) (PySem.W.mg_of X G a_is_number)
  have D_is_from_to : DF K mg "is_from_to" s_is_from_to ["low", "high", "thing"] f_is_from_to := df_mk (fun_mk (st := s_is_from_to) l_is_from_to cI_is_from_to kI_is_from_to) (fun _ _ _ _ _ _ us hl => match us, hl with | [_, _, _], _ => rfl) (PySem.W.mg_of X G a_is_from_to)
  have D_is_row : DF K mg "is_row" s_is_row ["thing"] f_is_row := df_mk (fun_mk (st := s_is_row) l_is_row cI_is_row kI_is_row) (fun _ _ _ _ _ _ us hl => match us, hl with | [_], _ => rfl) (PySem.W.mg_of X G a_is_row)
  have D_check_quay : DF K mg "check_quay" s_check_quay ["berths"] f_check_quay := df_mk (fun_mk (st := s_check_quay) l_check_quay cI_check_quay kI_check_quay) (fun _ _ _ _ _ _ us hl => match us, hl with | [_], _ => rfl) (PySem.W.mg_of X G a_check_quay)
  have D_check_wishes : DF K mg "check_wishes" s_check_wishes ["berths", "wishes"] f_check_wishes := df_mk (fun_mk (st := s_check_wishes) l_check_wishes cI_check_wishes kI_check_wishes) (fun _ _ _ _ _ _ us hl => match us, hl with | [_, _], _ => rfl) (PySem.W.mg_of X G a_check_wishes)
  have D_crowded : DF K mg "crowded" s_crowded ["berths", "wishes"] f_crowded := df_mk (fun_mk (st := s_crowded) l_crowded cI_crowded kI_crowded) (fun _ _ _ _ _ _ us hl => match us, hl with | [_, _], _ => rfl) (PySem.W.mg_of X G a_crowded)
  have D_is_good : DF K mg "is_good" s_is_good ["berths", "wishes"] f_is_good := df_mk (fun_mk (st := s_is_good) l_is_good cI_is_good kI_is_good) (fun _ _ _ _ _ _ us hl => match us, hl with | [_, _], _ => rfl) (PySem.W.mg_of X G a_is_good)
  have D_p_check_ships : DF K mg "_check_ships" s_p_check_ships ["berths", "ships"] f_p_check_ships := df_mk (fun_mk (st := s_p_check_ships) l_p_check_ships cI_p_check_ships kI_p_check_ships) (fun _ _ _ _ _ _ us hl => match us, hl with | [_, _], _ => rfl) (PySem.W.mg_of X G a_p_check_ships)
  have D_last_row : DF K mg "last_row" s_last_row ["berths", "ships"] f_last_row := df_mk (fun_mk (st := s_last_row) l_last_row cI_last_row kI_last_row) (fun _ _ _ _ _ _ us hl => match us, hl with | [_, _], _ => rfl) (PySem.W.mg_of X G a_last_row)
  have D_next_row : DF K mg "next_row" s_next_row ["berths", "wishes"] f_next_row := df_mk (fun_mk (st := s_next_row) l_next_row cI_next_row kI_next_row) (fun _ _ _ _ _ _ us hl => match us, hl with | [_, _], _ => rfl) (PySem.W.mg_of X G a_next_row)
  have D_l_cell_at : DF K mg "_law_cell_at" s_l_cell_at ["_law_script", "_law_k"] f_l_cell_at := df_mk (fun_mk (st := s_l_cell_at) l_l_cell_at cI_l_cell_at kI_l_cell_at) (fun _ _ _ _ _ _ us hl => match us, hl with | [_, _], _ => rfl) (PySem.W.mg_of X G a_l_cell_at)
  have D_l_quay : DF K mg "_law_quay" s_l_quay ["_law_script"] f_l_quay := df_mk (fun_mk (st := s_l_quay) l_l_quay cI_l_quay kI_l_quay) (fun _ _ _ _ _ _ us hl => match us, hl with | [_], _ => rfl) (PySem.W.mg_of X G a_l_quay)
  have D_l_good : DF K mg "_law_good" s_l_good ["_law_berths", "_law_wishes"] f_l_good := df_mk (fun_mk (st := s_l_good) l_l_good cI_l_good kI_l_good) (fun _ _ _ _ _ _ us hl => match us, hl with | [_, _], _ => rfl) (PySem.W.mg_of X G a_l_good)
  have D_l_lowered : DF K mg "_law_lowered" s_l_lowered ["_law_cells", "_law_berths", "_law_ships"] f_l_lowered := df_mk (fun_mk (st := s_l_lowered) l_l_lowered cI_l_lowered kI_l_lowered) (fun _ _ _ _ _ _ us hl => match us, hl with | [_, _, _], _ => rfl) (PySem.W.mg_of X G a_l_lowered)
  have D_l_refused : DF K mg "_law_refused" s_l_refused ["_law_berths", "_law_wishes"] f_l_refused := df_mk (fun_mk (st := s_l_refused) l_l_refused cI_l_refused kI_l_refused) (fun _ _ _ _ _ _ us hl => match us, hl with | [_, _], _ => rfl) (PySem.W.mg_of X G a_l_refused)
  refine ⟨PySem.W.fnOf "law" "law" (defArgs s_law) (defBody s_law) (defScope s_law) .none kV_law dc_law pm_law an_law cd_law ct_law, fun s v => .of_eq rfl, fun base _ _ => ?_⟩
  have g_is_number := ok_is_number (P := P) (w := w) (base := base) D_is_number T
  have g_is_from_to := ok_is_from_to (P := P) (w := w) (base := base) D_is_from_to T g_is_number
  have g_is_row := ok_is_row (P := P) (w := w) (base := base) D_is_row T
  have g_check_quay := ok_check_quay (P := P) (w := w) (base := base) D_check_quay T g_is_from_to
  have g_check_wishes := ok_check_wishes (P := P) (w := w) (base := base) D_check_wishes T g_is_from_to g_is_row g_check_quay
  have g_crowded := ok_crowded (P := P) (w := w) (base := base) D_crowded T g_check_wishes
  have g_is_good := ok_is_good (P := P) (w := w) (base := base) D_is_good T g_crowded
  have g_p_check_ships := ok_p_check_ships (P := P) (w := w) (base := base) D_p_check_ships T g_is_from_to g_check_quay
  have g_last_row := ok_last_row (P := P) (w := w) (base := base) D_last_row T g_p_check_ships
  have g_next_row := ok_next_row (P := P) (w := w) (base := base) D_next_row T g_is_good
  have g_l_cell_at := ok_l_cell_at (P := P) (w := w) (base := base) D_l_cell_at T
  have g_l_quay := ok_l_quay (P := P) (w := w) (base := base) D_l_quay T g_l_cell_at
  have g_l_good := ok_l_good (P := P) (w := w) (base := base) D_l_good T
  have g_l_lowered := ok_l_lowered (P := P) (w := w) (base := base) D_l_lowered T
  have g_l_refused := ok_l_refused (P := P) (w := w) (base := base) D_l_refused T g_next_row
  exact ok_law (fun_mk (st := s_law) l_law cI_law kI_law) T g_is_good g_last_row g_next_row g_l_quay g_l_good g_l_lowered g_l_refused
end Br
open PySem PySem.W PyProof.Rows
set_option maxHeartbeats 0 in
theorem PySem.Challenge.cw_berthrow_k07_next_wishes_holds : PySem.Challenge.rw_berthrow_k07_next_wishes.Holds := by
  w_on; o_law; k_head; (case hw => w_witness2)
  k_fill
  refine L2.walk_of (l := PySem.Challenge.rw_berthrow_k07_next_wishes) (n := 63) (k := 9) (x := "_law_script") (CX := fun _ => L2.CX0) (sp := fun w => Br.sp_law _) rfl (by decide) rfl ⟨rfl, by decide, by decide⟩ (fun w h Y => PySem.W.kIn_of Y) ?F (fun _ _ a ns hl _ hS => ⟨a, ns, rfl, hS, hl, fun _ => rfl⟩) (fun _ _ _ _ _ h => h)
  case F =>
    intro w mg fa h KX G hmg
    refine' Br.all_mk KX G hmg ?a_is_number ?l_is_number ?cI_is_number ?kI_is_number ?a_is_from_to ?l_is_from_to ?cI_is_from_to ?kI_is_from_to ?a_is_row ?l_is_row ?cI_is_row ?kI_is_row ?a_check_quay ?l_check_quay ?cI_check_quay ?kI_check_quay ?a_check_wishes ?l_check_wishes ?cI_check_wishes ?kI_check_wishes ?a_crowded ?l_crowded ?cI_crowded ?kI_crowded ?a_is_good ?l_is_good ?cI_is_good ?kI_is_good ?a_p_check_ships ?l_p_check_ships ?cI_p_check_ships ?kI_p_check_ships ?a_last_row ?l_last_row ?cI_last_row ?kI_last_row ?a_next_row ?l_next_row ?cI_next_row ?kI_next_row ?a_l_cell_at ?l_l_cell_at ?cI_l_cell_at ?kI_l_cell_at ?a_l_quay ?l_l_quay ?cI_l_quay ?kI_l_quay ?a_l_good ?l_l_good ?cI_l_good ?kI_l_good ?a_l_lowered ?l_l_lowered ?cI_l_lowered ?kI_l_lowered ?a_l_refused ?l_l_refused ?cI_l_refused ?kI_l_refused ?a_law ?l_law ?cI_law ?kI_law ?z_ValueError ?z_enumerate ?z_int ?z_isinstance ?z_len ?z_list ?z_max ?z_min ?z_range ?z_reversed ?z_sorted ?z_sum ?z_tuple ?z_type ?y_MOST ?xg_BerthError ?xx_BerthError ?xk_BerthError ?xb_BerthError ?xt_BerthError ?xg_NoCount ?xx_NoCount ?xk_NoCount ?xb_NoCount ?xt_NoCount ?xg_NoQuay ?xx_NoQuay ?xk_NoQuay ?xb_NoQuay ?xt_NoQuay ?xg_NoWishes ?xx_NoWishes ?xk_NoWishes ?xb_NoWishes ?xt_NoWishes ?xg_TooMany ?xx_TooMany ?xk_TooMany ?xb_TooMany ?xt_TooMany ?v_hn ?v_ht ?vhg_BerthError ?vhk_BerthError ?vhs_BerthError ?vhd_BerthError ?vha_BerthError ?vhm_BerthError ?vty_BerthError ?vse_BerthError ?vhg_NoQuay ?vhk_NoQuay ?vhs_NoQuay ?vhd_NoQuay ?vha_NoQuay ?vhm_NoQuay ?vty_NoQuay ?vse_NoQuay ?vhg_NoWishes ?vhk_NoWishes ?vhs_NoWishes ?vhd_NoWishes ?vha_NoWishes ?vhm_NoWishes ?vty_NoWishes ?vse_NoWishes ?vhg_TooMany ?vhk_TooMany ?vhs_TooMany ?vhd_TooMany ?vha_TooMany ?vhm_TooMany ?vty_TooMany ?vse_TooMany ?vhg_NoCount ?vhk_NoCount ?vhs_NoCount ?vhd_NoCount ?vha_NoCount ?vhm_NoCount ?vty_NoCount ?vse_NoCount ?w_NoWishes_BerthError ?w_NoWishes_NoCount ?w_NoWishes_NoQuay ?w_NoWishes_TooMany ?w_NoWishes_NoWishes ?w_NoWishes_V
    (case a_is_number => k_is)
    (case l_is_number => k_is)
    (case cI_is_number => k_is)
    (case kI_is_number => k_is)
    (case a_is_from_to => k_is)
    (case l_is_from_to => k_is)
    (case cI_is_from_to => k_is)
    (case kI_is_from_to => k_is)
    (case a_is_row => k_is)
    (case l_is_row => k_is)
    (case cI_is_row => k_is)
    (case kI_is_row => k_is)
    (case a_check_quay => k_is)
    (case l_check_quay => k_is)
    (case cI_check_quay => k_is)
    (case kI_check_quay => k_is)
    (case a_check_wishes => k_is)
    (case l_check_wishes => k_is)
    (case cI_check_wishes => k_is)
    (case kI_check_wishes => k_is)
    (case a_crowded => k_is)
    (case l_crowded => k_is)
    (case cI_crowded => k_is)
    (case kI_crowded => k_is)
    (case a_is_good => k_is)
    (case l_is_good => k_is)
    (case cI_is_good => k_is)
    (case kI_is_good => k_is)
    (case a_p_check_ships => k_is)
    (case l_p_check_ships => k_is)
    (case cI_p_check_ships => k_is)
    (case kI_p_check_ships => k_is)
    (case a_last_row => k_is)
    (case l_last_row => k_is)
    (case cI_last_row => k_is)
    (case kI_last_row => k_is)
    (case a_next_row => k_is)
    (case l_next_row => k_is)
    (case cI_next_row => k_is)
    (case kI_next_row => k_is)
    (case a_l_cell_at => k_is)
    (case l_l_cell_at => k_is)
    (case cI_l_cell_at => k_is)
    (case kI_l_cell_at => k_is)
    (case a_l_quay => k_is)
    (case l_l_quay => k_is)
    (case cI_l_quay => k_is)
    (case kI_l_quay => k_is)
    (case a_l_good => k_is)
    (case l_l_good => k_is)
    (case cI_l_good => k_is)
    (case kI_l_good => k_is)
    (case a_l_lowered => k_is)
    (case l_l_lowered => k_is)
    (case cI_l_lowered => k_is)
    (case kI_l_lowered => k_is)
    (case a_l_refused => k_is)
    (case l_l_refused => k_is)
    (case cI_l_refused => k_is)
    (case kI_l_refused => k_is)
    (case a_law => k_is)
    (case l_law => k_is)
    (case cI_law => k_is)
    (case kI_law => k_is)
    (case z_ValueError => k_is)
    (case z_enumerate => k_is)
    (case z_int => k_is)
    (case z_isinstance => k_is)
    (case z_len => k_is)
    (case z_list => k_is)
    (case z_max => k_is)
    (case z_min => k_is)
    (case z_range => k_is)
    (case z_reversed => k_is)
    (case z_sorted => k_is)
    (case z_sum => k_is)
    (case z_tuple => k_is)
    (case z_type => k_is)
    (case y_MOST => k_is)
    (case xg_BerthError => k_is)
    (case xx_BerthError => k_exc)
    (case xk_BerthError => k_is)
    (case xb_BerthError => k_is)
    (case xt_BerthError => k_is)
    (case xg_NoCount => k_is)
    (case xx_NoCount => k_exc)
    (case xk_NoCount => k_is)
    (case xb_NoCount => k_is)
    (case xt_NoCount => k_is)
    (case xg_NoQuay => k_is)
    (case xx_NoQuay => k_exc)
    (case xk_NoQuay => k_is)
    (case xb_NoQuay => k_is)
    (case xt_NoQuay => k_is)
    (case xg_NoWishes => k_is)
    (case xx_NoWishes => k_exc)
    (case xk_NoWishes => k_is)
    (case xb_NoWishes => k_is)
    (case xt_NoWishes => k_is)
    (case xg_TooMany => k_is)
    (case xx_TooMany => k_exc)
    (case xk_TooMany => k_is)
    (case xb_TooMany => k_is)
    (case xt_TooMany => k_is)
    (case v_hn => k_is)
    (case v_ht => k_is)
    (case vhg_BerthError => k_is)
    (case vhk_BerthError => k_is)
    (case vhs_BerthError => k_is)
    (case vhd_BerthError => k_is)
    (case vha_BerthError => k_is)
    (case vhm_BerthError => k_is)
    (case vty_BerthError => k_is)
    (case vse_BerthError => k_is)
    (case vhg_NoQuay => k_is)
    (case vhk_NoQuay => k_is)
    (case vhs_NoQuay => k_is)
    (case vhd_NoQuay => k_is)
    (case vha_NoQuay => k_is)
    (case vhm_NoQuay => k_is)
    (case vty_NoQuay => k_is)
    (case vse_NoQuay => k_is)
    (case vhg_NoWishes => k_is)
    (case vhk_NoWishes => k_is)
    (case vhs_NoWishes => k_is)
    (case vhd_NoWishes => k_is)
    (case vha_NoWishes => k_is)
    (case vhm_NoWishes => k_is)
    (case vty_NoWishes => k_is)
    (case vse_NoWishes => k_is)
    (case vhg_TooMany => k_is)
    (case vhk_TooMany => k_is)
    (case vhs_TooMany => k_is)
    (case vhd_TooMany => k_is)
    (case vha_TooMany => k_is)
    (case vhm_TooMany => k_is)
    (case vty_TooMany => k_is)
    (case vse_TooMany => k_is)
    (case vhg_NoCount => k_is)
    (case vhk_NoCount => k_is)
    (case vhs_NoCount => k_is)
    (case vhd_NoCount => k_is)
    (case vha_NoCount => k_is)
    (case vhm_NoCount => k_is)
    (case vty_NoCount => k_is)
    (case vse_NoCount => k_is)
    (case w_NoWishes_BerthError => k_is)
    (case w_NoWishes_NoCount => k_is)
    (case w_NoWishes_NoQuay => k_is)
    (case w_NoWishes_TooMany => k_is)
    (case w_NoWishes_NoWishes => k_is)
    (case w_NoWishes_V => k_is)

import PyProof.Rows.All
import Wide.All
import OpenK.AllK
import Wide.FinOn
import HandS.ForMost
import HandS.ForExc
import HandS.More
import HandS.Walk
import HandS.SortInts
import HandS.SetFor
import HandS.Style
import HandS.RevRange
import HandS.TupAny
import HandS.TupMul
import HandS.IsInst
import HandS.Conv
import HandS.ExcIs
import HandS.ExcCtx
import HandS.SortKw
import HandS.Remove
import HandS.TupLe
import HandS.Zip
import HandS.Small
import KE.DatumOrd
import KE.DatumMore
import KE.KSortedM
import KE.KStateDown
import KE.KDictPairs
import PySem.Challenge.RW_berthrow_k05_whole_one_turning
set_option Elab.async false
set_option linter.all false
set_option maxRecDepth 100000
set_option maxHeartbeats 4000000
namespace Br
open PySem PySem.Spec PyProof.Rows L2
/-! ### addresses of what the top has made, by name -/
structure Ad where
  f_is_number : Addr := 0
  f_is_from_to : Addr := 0
  f_is_row : Addr := 0
  f_check_quay : Addr := 0
  f_check_wishes : Addr := 0
  f_first_free : Addr := 0
  f_placed : Addr := 0
  f_taken : Addr := 0
  f_gone_on : Addr := 0
  f_is_good : Addr := 0
  f_crowded : Addr := 0
  f_placed_round : Addr := 0
  f_left_over : Addr := 0
  f_turned : Addr := 0
  f_turning : Addr := 0
  f_how_many : Addr := 0
  f_first_row : Addr := 0
  f_last_row : Addr := 0
  f_next_row : Addr := 0
  f_p_check_ships : Addr := 0
  f_l_cell_at : Addr := 0
  f_l_mix : Addr := 0
  f_l_quay : Addr := 0
  f_l_wishes : Addr := 0
  f_l_placed : Addr := 0
  f_l_whole : Addr := 0
  f_l_good : Addr := 0
  f_l_crowded : Addr := 0
  f_l_order : Addr := 0
  f_l_round : Addr := 0
  f_l_refused : Addr := 0
  f_l_due : Addr := 0
  f_l_caught : Addr := 0
  f_l_lowered : Addr := 0
  f_first_free_round : Addr := 0
  f_check_full_row : Addr := 0
  f_tree_of : Addr := 0
  f_wishes_of : Addr := 0
  f_p_check_knots : Addr := 0
  f_lies : Addr := 0
  f_reaches : Addr := 0
  f_rows_to : Addr := 0
  f_p_check_order : Addr := 0
  f_is_name : Addr := 0
  f_written : Addr := 0
  f_read : Addr := 0
  f_p_parts : Addr := 0
  f_p_pair : Addr := 0
  f_p_number : Addr := 0
  f_p_check_name : Addr := 0
  f_l_asked : Addr := 0
  f_l_word : Addr := 0
  f_l_told : Addr := 0
  f_l_odd : Addr := 0
  f_l_no_quay : Addr := 0
  f_l_full : Addr := 0
  f_l_tree : Addr := 0
  f_l_drawn : Addr := 0
  f_l_hangs : Addr := 0
  f_l_right : Addr := 0
  f_l_lying : Addr := 0
  f_l_words : Addr := 0
  f_l_done : Addr := 0
  f_l_stands : Addr := 0
  f_l_nearer : Addr := 0
  f_l_read : Addr := 0
  f_l_text : Addr := 0
  f_l_odd_text : Addr := 0
  f_law : Addr := 0
  e_BerthError : Addr := 0
  e_NoQuay : Addr := 0
  e_NoWishes : Addr := 0
  e_TooMany : Addr := 0
  e_NoCount : Addr := 0
  e_NoTree : Addr := 0
  e_NoOrder : Addr := 0
  e_NoName : Addr := 0
  e_Taken : Addr := 0
  e_NoWish : Addr := 0
  e_NoRoom : Addr := 0
  e_NoShip : Addr := 0
  e_NoText : Addr := 0
/-- a def as it stands behind the top -/
structure DF (K : PySem.W.Frag) (mg : Str → Option Value) (x : Str) (st : Stmt) (ps : List Str) (f : Addr) : Prop where
  ex : ∃ fd, Fun K x x st f fd ∧ Binds K fd ps []
  g : mg x = some (.ref f)
/-- a def that keeps its promise, ready to be called by its name -/
structure Cb (P : Program) (w : World) (K : PySem.W.Frag) (mg : Str → Option Value) (base : Heap) (CX : CXT) (k : Nat) (x : Str) (f : Addr) (ps : List Str) (sp : Sp) : Prop where
  ex : ∃ fd, FnOk P w K mg base CX k f fd ps sp ∧ Binds K fd ps []
  g : mg x = some (.ref f)
  kp : PySem.W.keepIn K (.ref f) = true
/-- an own exception's class -/
structure ExF (K : PySem.W.Frag) (mg : Str → Option Value) (x : Str) (c : Addr) : Prop where
  g : mg x = some (.ref c)
  x : PySem.W.excIn K c [.type "ValueError", .type "Exception", .type "BaseException", .type "object"] "ValueError.__new__" = true
  k : PySem.W.keepIn K (.ref c) = true
  b : PySem.W.subIn K (.ref c) (.type "BaseException") = some true
  t : PySem.W.typeIn K (.ref c) = some (.type "type")
theorem df_mk {K : PySem.W.Frag} {mg : Str → Option Value} {x : Str} {st : Stmt} {ps : List Str} {f : Addr} {fd : FuncData} (F : Fun K x x st f fd)
    (h : ∀ (kV doc pm : Value) (an : Option Addr) (cdv ct : Value) (us : List Value), us.length = ps.length → bindArgs (PySem.W.fnOf x x (defArgs st) (defBody st) (defScope st) .none kV doc pm an cdv ct) ⟨us, []⟩ = pure (ps.zip us)) (g : mg x = some (.ref f)) : DF K mg x st ps f :=
  ⟨⟨fd, F, F.binds h⟩, g⟩
/-! ### readings by short names -/
def rAddI : R2 := rI0 fun i j => .int (i + j)
def rSubI : R2 := rI0 fun i j => .int (i - j)
def rMulI : R2 := rI CMul fun i j => .int (i * j)
def rModI : R2 := rI (fun _ j => 0 < j) fun i j => .int (i % j)
def rDivI : R2 := rI CDiv fun i j => .int (i / j)
def rPowI : R2 := rI CPow fun i j => .int (i ^ j.toNat)
def rLtI : R2 := rI0 fun i j => .bl (decide (i < j))
def rLeI : R2 := rI0 fun i j => .bl (decide (i ≤ j))
def rGtI : R2 := rI0 fun i j => .bl (decide (j < i))
def rGeI : R2 := rI0 fun i j => .bl (decide (j ≤ i))
def rIsTyB : R2 := fun x y H Q => ∃ a b, x = .ty a ∧ y = .ty b ∧ Q (.bl (decide (a = b))) H
def rIsB1 : R2 := fun x y H Q => ∃ a b, x = .bl a ∧ y = .bl b ∧ Q (.bl (decide (a = b))) H
def rLenSq (K : PySem.W.Frag) : List V → Hp → VK → Prop := fun xs H Q => ∃ p ys, xs = [.ref p] ∧ (SqL K H p ys ∨ SqT K H p ys) ∧ Q (.int ys.length) H
def rMin2 : List V → Hp → VK → Prop := fun xs H Q => ∃ i j, xs = [.int i, .int j] ∧ Q (.int (if j < i then j else i)) H
def rMax2 : List V → Hp → VK → Prop := fun xs H Q => ∃ i j, xs = [.int i, .int j] ∧ Q (.int (if j > i then j else i)) H
def rInt1 : List V → Hp → VK → Prop := fun xs H Q => (∃ i, xs = [.int i] ∧ Q (.int i) H) ∨ ∃ k, xs = [.bl k] ∧ Q (.int (if k then 1 else 0)) H
def rListOf (K : PySem.W.Frag) : List V → Hp → VK → Prop := fun xs H Q => ∃ p ys, xs = [.ref p] ∧ (SqL K H p ys ∨ SqT K H p ys) ∧ ∀ l, H l = none → Q (.ref l) (upd H l (.lst ys))
def rTupleOf (K : PySem.W.Frag) : List V → Hp → VK → Prop := fun xs H Q => ∃ p ys, xs = [.ref p] ∧ ((SqL K H p ys ∧ ∀ l, H l = none → Q (.ref l) (upd H l (.tup ys))) ∨ (SqT K H p ys ∧ Q (.ref p) H))
def ipAdd : TIp := ipI fun i j => i + j
def ipSub : TIp := ipI fun i j => i - j
def tTru (K : PySem.W.Frag) (te : TE) : TT := fun σ H Q => te σ H fun x H' => ∃ k, TruV K x H' k ∧ Q k H'
def tRaise (c : Addr) (E : XK) : TS := fun _ _ H => E (.ref c) none H
def iSeq (K : PySem.W.Frag) (tl : TE) : TI := fun σ H R => iList K tl σ H R ∨ iTup K tl σ H R
def SqA (K : PySem.W.Frag) (H : Hp) (a : Addr) (xs : List V) : Prop := SqL K H a xs ∨ SqT K H a xs
theorem item_of0 {ns : List Int} {i : Nat} {y : V} (hi : (ns.map V.int)[i]? = some y) : ∃ z, ns[i]? = some z ∧ y = V.int z := by
  rw [List.getElem?_map] at hi
  cases e : ns[i]? with
  | none => rw [e] at hi; cases hi
  | some z => rw [e] at hi; exact ⟨z, rfl, (Option.some.inj hi).symm⟩
/-! ### rules -/
section
variable {X : Cx}
theorem pe_gl {x : Str} {v : V} {pos : Pos} (hg : Gl X x) (h : ∃ u, X.mg x = some u ∧ RelV v u) (hd : (x == ("__debug__" : Str)) = false := by decide) : PE X (.Name x pos) (tC v) := by
  obtain ⟨u, hm, r⟩ := h
  exact pe_glob hg hm r hd
theorem pe_cb {CX : CXT} {k : Nat} {f : Addr} {ps : List Str} {sp : Sp} {E : XK} {x : Str} {p pos : Pos} {e : Expr} {es : List Expr} {t : TA} (G : Cb X.prog X.w X.K X.mg X.base CX k x f ps sp) (hr : Room k X.A) (hg : Gl X x) (hx : Passes CX X E) (ha : PA X (e :: es) t)
    (hdb : (x == ("__debug__" : Str)) = false := by decide) (he : starEach (e :: es) X.env = (false, eval e X.env) :: starEach es X.env := by rfl) (hpl : (backTo pos (starEach es X.env)).any (·.1) = false := by rfl) :
    PE X (.Call (.Name x p) (e :: es) [] pos) (tCall sp [] E t) := by
  obtain ⟨⟨fd, F, b⟩, g, kp⟩ := G
  exact pe_call F hr hg g kp b .nil hx ha hdb he hpl
theorem pe_cbS {CX : CXT} {k : Nat} {f : Addr} {ps : List Str} {sp : Sp} {E : L2.St → XK} {x : Str} {p pos : Pos} {e : Expr} {es : List Expr} {t : TA} (G : Cb X.prog X.w X.K X.mg X.base CX k x f ps sp) (hr : Room k X.A) (hg : Gl X x) (hx : ∀ σ, PassesAt CX X σ (E σ)) (ha : PA X (e :: es) t)
    (hdb : (x == ("__debug__" : Str)) = false := by decide) (he : starEach (e :: es) X.env = (false, eval e X.env) :: starEach es X.env := by rfl) (hpl : (backTo pos (starEach es X.env)).any (·.1) = false := by rfl) :
    PE X (.Call (.Name x p) (e :: es) [] pos) (tCallS sp E t) := by
  obtain ⟨⟨fd, F, b⟩, g, kp⟩ := G
  exact pe_callS F hr hg g kp b hx ha hdb he hpl
theorem pi_seq {tg l : Expr} {tl : TE} (hl : PE X l tl) : PI X tg l (iSeq X.K tl) :=
  ⟨fun pins s σ H R I h => h.elim (fun h => (pi_list hl).run pins s σ H R I h) (fun h => (pi_tup hl).run pins s σ H R I h)⟩
/-- xs[i], by values: for xs[i] += e -/
theorem gt_list : PGet X (rIxL X.K) := by
  intro pins s σ H x y v u Q I rx ry h
  obtain ⟨p, xs, i, z, rfl, rfl, hq, he, q⟩ := h
  cases rx
  obtain ⟨t, rfl⟩ := ry
  obtain ⟨its, r, pl, hz⟩ := I.list hq
  obtain ⟨j, h1, h2, h3, h4, h5⟩ := atI_get he
  obtain ⟨w, ew, rw'⟩ := r.get h2
  have hl := r.length
  have hn := line63
  have fin : EP X pins σ Q w s := ⟨z, H, I, rw', q⟩
  by_cases h0 : 0 ≤ i
  · have hj : i.toNat = j := by
      rw [seqIndex_of h0 h5] at h1
      exact Option.some.inj h1
    exact wpAny_getItem_list pl.isList h0 (by omega) (by rw [hj]; simpa using ew) fin
  · have hj : (i + (its.toArray.size : Int)).toNat = j := by
      rw [seqIndex_neg (by omega) h4] at h1
      rw [List.size_toArray, ← hl]
      exact Option.some.inj h1
    exact wpAny_getItem_list_neg pl.isList (by omega) (by rw [List.size_toArray] <;> omega) (by omega) (by rw [hj]; simpa using ew) fin
/-! ### min(xs, default=d), xs a list of whole numbers -/
theorem minOf_int : ∀ (ys : List Int) (y : Int), PySem.W.minOf y ys ∈ y :: ys ∧ ∀ z ∈ y :: ys, PySem.W.minOf y ys ≤ z
  | [], y => ⟨List.mem_singleton.mpr rfl, fun z hz => by rw [List.mem_singleton.mp hz]; exact Int.le_refl _⟩
  | x :: r, y => by
    have e : PySem.W.minOf y (x :: r) = PySem.W.minOf (if x < y then x else y) r := by
      show PySem.W.minOf (if (decide (x < y)) = true then x else y) r = _
      by_cases h : x < y <;> simp [h]
    obtain ⟨h1, h2⟩ := minOf_int r (if x < y then x else y)
    rw [e]
    refine ⟨?_, fun z hz => ?_⟩
    · rcases List.mem_cons.mp h1 with k | k
      · rw [k]
        by_cases h : x < y <;> simp [h]
      · simp [k]
    · have hc := h2 _ (List.mem_cons_self)
      rcases List.mem_cons.mp hz with k | k
      · subst k
        by_cases h : x < z
        · rw [if_pos h] at hc ⊢
          omega
        · rw [if_neg h] at hc ⊢
          exact hc
      · rcases List.mem_cons.mp k with k | k
        · subst k
          by_cases h : z < y
          · rw [if_pos h] at hc ⊢
            exact hc
          · rw [if_neg h] at hc ⊢
            omega
        · exact h2 z (List.mem_cons_of_mem _ k)
def rMinD (K : PySem.W.Frag) : List V → List V → Hp → VK → Prop := fun vs zs H Q => ∃ (p : Addr) (d : V) (ns : List Int), vs = [.ref p] ∧ zs = [d] ∧ SqL K H p (ns.map V.int) ∧
  (ns = [] → Q d H) ∧ ∀ m, m ∈ ns → (∀ y ∈ ns, m ≤ y) → Q (.int m) H
def tMinD (K : PySem.W.Frag) (ta td : TE) : TE := tCKw (rMinD K) (tCons ta tNil) (tCons td tNil)
theorem dp_ints {K : PySem.W.Frag} {H : Hp} : ∀ ns : List Int, DpAll K H (ns.map V.int) (ns.map PyData.int)
  | [] => .nil
  | n :: r => .cons (.int n) (dp_ints r)
theorem cr_minD (hc : X.calm = true) (hu : X.A.units + 64 < cLine) : CallRK X (.builtin "min") [Str.ofString "default"] (rMinD X.K) := by
  intro pins s σ H vs zs us ws Q I r rz h
  obtain ⟨p, d, ns, rfl, rfl, hs, q0, q1⟩ := h
  obtain ⟨w, rfl, rw'⟩ := vals1 rz
  obtain ⟨its, rv, hl, _⟩ := I.list hs
  rw [Vals.ref1 r]
  obtain ⟨as, ra⟩ := Dp.readsAll I (ns.map PyData.int) _ its (dp_ints ns) rv
  have HA : PySem.W.HoldAll s.heap its.toArray.toList ns := ⟨as, ra⟩
  refine PySem.W.min_list_datum_default (I.ok.hd hc) hl.isList HA (by show X.A.units + 1 + PySem.W.Datum.depth Int < cLine; have e : PySem.W.Datum.depth Int = 0 := rfl; rw [e]; omega) (fun e h' tk hk => ⟨d, H, I.kept hk, rw', q0 e⟩) fun y ys i v h' tk e hi hv hk => ?_
  subst e
  obtain ⟨as2, r2⟩ := hv
  have hi' : its[i]? = some v := by simpa using hi
  have hlen := rv.length
  have hlt : i < ((y :: ys).map V.int).length := by rw [hlen]; exact (List.getElem?_eq_some_iff.mp hi').1
  obtain ⟨u, hu1, hu2⟩ := rv.get (List.getElem?_eq_getElem hlt)
  rw [hi'] at hu1
  cases hu1
  obtain ⟨z, hz, ez⟩ := item_of0 (List.getElem?_eq_getElem hlt)
  rw [ez] at hu2
  obtain ⟨t, rfl⟩ := hu2
  have em : PySem.W.minOf y ys = z := by
    have r2' : Reads h' (.int z t) (.int (PySem.W.minOf y ys)) as2 := r2
    cases r2'
    rfl
  obtain ⟨m1, m2⟩ := minOf_int ys y
  rw [em] at m1 m2
  exact ⟨.int z, H, I.kept hk, ⟨_, rfl⟩, q1 z m1 m2⟩
theorem pe_minD {p pos kpos : Pos} {e d : Expr} {ta td : TE} (hc : X.calm = true) (hu : X.A.units + 64 < cLine) (hg : Gl X "min") (hm : X.mg "min" = none) (ha : PE X e ta) (hd : PE X d td)
    (he : backTo pos (starEach (e :: []) X.env) = (false, eval e X.env) :: backTo pos (starEach [] X.env) := by rfl) (hse : starEach (e :: []) X.env = (false, eval e X.env) :: starEach [] X.env := by rfl) (hpl : (backTo pos (starEach (e :: []) X.env)).any (·.1) = false := by rfl)
    (hall : (backToKw pos (keywordEach [⟨some (Str.ofString "default"), d, kpos⟩] X.env)).all (·.1.isSome) = true := by rfl) (hnone : (backToKw pos (keywordEach [⟨some (Str.ofString "default"), d, kpos⟩] X.env)).any (·.1.isNone) = false := by rfl)
    (hks : (backToKw pos (keywordEach [⟨some (Str.ofString "default"), d, kpos⟩] X.env)).filterMap (·.1) = [Str.ofString "default"] := by rfl) :
    PE X (.Call (.Name "min" p) [e] [⟨some (Str.ofString "default"), d, kpos⟩] pos) (tMinD X.K ta td) :=
  pe_callBK (cr_minD hc hu) hg hm (by decide +kernel) (pa_cons ha pa_nil hse) (pk_cons hd pk_nil) (by decide) (by decide) he hpl hall hnone hks
end
/-! ### == and != of data -/
def rEqT (K : PySem.W.Frag) : R2 := fun x y H Q => ∃ (α : Type) (_ : DecidableEq α) (_ : PySem.W.Datum α) (a b : α), Dp K H x (PySem.W.Datum.toD a) ∧ Dp K H y (PySem.W.Datum.toD b) ∧ PySem.W.Datum.depth α ≤ 64 ∧ Q (.bl (decide (a = b))) H
def rNeT (K : PySem.W.Frag) : R2 := fun x y H Q => ∃ (α : Type) (_ : DecidableEq α) (_ : PySem.W.Datum α) (a b : α), Dp K H x (PySem.W.Datum.toD a) ∧ Dp K H y (PySem.W.Datum.toD b) ∧ PySem.W.Datum.depth α ≤ 64 ∧ Q (.bl (decide (a ≠ b))) H
section
variable {X : Cx}
theorem op_eqT (hu : X.A.units + 64 < cLine) : OpR X (compareOp .Eq) (rEqT X.K) := by
  intro pins s σ H x y v u Q I rx ry h
  obtain ⟨α, d1, d2, a, b, ha, hb, hd, q⟩ := h
  exact PySem.W.eq_datum (Dp.reads I _ x v ha rx) (Dp.reads I _ y u hb ry) (by omega) ⟨.bl _, H, I, rfl, q⟩
theorem op_neT (hu : X.A.units + 64 < cLine) : OpR X (compareOp .NotEq) (rNeT X.K) := by
  intro pins s σ H x y v u Q I rx ry h
  obtain ⟨α, d1, d2, a, b, ha, hb, hd, q⟩ := h
  exact PySem.W.ne_datum (Dp.reads I _ x v ha rx) (Dp.reads I _ y u hb ry) (by omega) ⟨.bl _, H, I, rfl, q⟩
end
theorem eqT_of {K : PySem.W.Frag} {x y : V} {H : Hp} {Q : VK} {α : Type} [DecidableEq α] [PySem.W.Datum α] {a b : α} (ha : Dp K H x (PySem.W.Datum.toD a)) (hb : Dp K H y (PySem.W.Datum.toD b)) (hd : PySem.W.Datum.depth α ≤ 64) (q : Q (.bl (decide (a = b))) H) : rEqT K x y H Q := ⟨α, _, _, a, b, ha, hb, hd, q⟩
theorem neT_of {K : PySem.W.Frag} {x y : V} {H : Hp} {Q : VK} {α : Type} [DecidableEq α] [PySem.W.Datum α] {a b : α} (ha : Dp K H x (PySem.W.Datum.toD a)) (hb : Dp K H y (PySem.W.Datum.toD b)) (hd : PySem.W.Datum.depth α ≤ 64) (q : Q (.bl (decide (a ≠ b))) H) : rNeT K x y H Q := ⟨α, _, _, a, b, ha, hb, hd, q⟩
theorem ho_ints {K : PySem.W.Frag} {H : Hp} {p : Addr} {ns : List Int} (h : SqL K H p (ns.map V.int)) : Dp K H (.ref p) (PySem.W.Datum.toD ns) := .lst h (dp_ints ns)
/-! ### heaps -/
theorem same_new {H : Hp} {p : Addr} {o : HO} (h : H p = none) : Same H (upd H p o) := fun b x e => by
  rw [upd_ne (ne_of_none e h)]
  exact e
/-- what stood ahead of an object's making stands behind a store into it -/
theorem _root_.L2.Same.store {H H' : Hp} {p : Addr} {o : HO} (s : Same H H') (h : H p = none) : Same H (upd H' p o) := fun b x e => by
  rw [upd_ne (ne_of_none e h)]
  exact s b x e
theorem _root_.L2.Same.seqT {K : PySem.W.Frag} {H H' : Hp} {a : Addr} {xs : List V} (e : Same H H') (h : SqT K H a xs) : SqT K H' a xs := by
  rcases h with (h | ⟨o, h⟩) | h
  · exact .inl (.inl (e _ _ h))
  · exact .inl (.inr ⟨o, e _ _ h⟩)
  · exact .inr h
theorem _root_.L2.Same.seqA {K : PySem.W.Frag} {H H' : Hp} {a : Addr} {xs : List V} (e : Same H H') (h : SqA K H a xs) : SqA K H' a xs := h.elim (fun h => .inl (e.seq h)) (fun h => .inr (e.seqT h))
theorem sqL_of {K : PySem.W.Frag} {H : Hp} {a : Addr} {xs : List V} (h : H a = some (.lst xs)) : SqL K H a xs := .inl (.inl h)
theorem sqT_of {K : PySem.W.Frag} {H : Hp} {a : Addr} {xs : List V} (h : H a = some (.tup xs)) : SqT K H a xs := .inl (.inl h)
/-! ### loops and comprehensions in short -/
theorem for_seq {K : PySem.W.Frag} {a : Addr} {xs : List V} {tl : TE} {g : TG} {tb : TS} {D : Ends} {σ : L2.St} {H0 H : Hp} (ht : ∀ Q : VK, Q (.ref a) H → tl σ H Q) (hA : SqA K H0 a xs) (Pv : Nat → L2.St → Hp → Prop) (h0 : Pv 0 σ H) (hl : ∀ i σ H', Pv i σ H' → Same H0 H')
    (hs : ∀ i x σ H, xs[i]? = some x → Pv i σ H → g x σ H fun σ2 H2 => tb { D with nx := Pv (i + 1), ct := Pv (i + 1), bk := D.nx } σ2 H2) (hd : ∀ σ H, Pv xs.length σ H → D.nx σ H) : tFor (iSeq K tl) g tb D σ H := by
  rcases hA with h | h
  · exact .inl (ht _ ⟨a, rfl, ⟨_, (hl _ _ _ h0).seq h⟩, for_list (K := K) (a := a) Pv h0 (fun i σ H' _ p => (hl i σ H' p).seq h) hs hd⟩)
  · exact .inr (ht _ ⟨a, rfl, ⟨_, (hl _ _ _ h0).seqT h⟩, for_tup (K := K) (a := a) Pv h0 (fun i σ H' _ p => (hl i σ H' p).seqT h) hs hd⟩)
theorem take_more {α : Type} : ∀ {l : List α} {i : Nat} {x : α}, l[i]? = some x → l.take (i + 1) = l.take i ++ [x] := fun {l i x} h => by
  rw [List.take_add_one, h]
  rfl
theorem item_of {ns : List Int} {i : Nat} {y : V} (hi : (ns.map V.int)[i]? = some y) : ∃ z, ns[i]? = some z ∧ y = V.int z := by
  rw [List.getElem?_map] at hi
  cases e : ns[i]? with
  | none => rw [e] at hi; cases hi
  | some z => rw [e] at hi; exact ⟨z, rfl, (Option.some.inj hi).symm⟩
/-- a comprehension over anything that gives n values it 0, it 1 .. and leaves what is tracked; p the test, f the element -/
theorem lc_pure {J : It} {n : Nat} {G : Hp → Prop} {tt : TT} {te : TE} {g : TG} {vs : List Nat} {σ : L2.St} {H1 : Hp} {Qd : Addr → Hp → Prop} {Y : Nat → Hp → V → Hp → Prop} {α : Type} (w : Walk J n G Y) (hn : n < sizeLine) (xs : List α) (hx : xs.length = n) (p : α → Bool) (f : α → V) (hG : ∀ H', Same H1 H' → G H')
    (hs : ∀ i (x : α) (v : V) (H H' : Hp) (R : Bool → V → Hp → Prop), xs[i]? = some x → Same H1 H → Y i H v H' → (∀ y H'', Same H H'' → (p x = true → y = f x) → R (p x) y H'') →
      g v (wipe σ vs) H' fun σ2 H2 => wipe σ2 vs = wipe σ vs ∧ tt σ2 H2 fun b H3 => if b = true then te σ2 H3 fun y H4 => R true y H4 else R false .non H3)
    (hQ : ∀ D H', H1 D = none → Same H1 H' → H' D = some (.lst ((xs.filter p).map f)) → Qd D H') :
    ∀ D, H1 D = none → ∃ W : Nat → Nat → Hp → Prop, (∃ m, W 0 m (upd H1 D (.lst []))) ∧ ∀ i m H, W i m H →
      (J.stop i H ∧ Qd D H) ∨ (J.go i H ∧ ∃ Nx : Hp → Prop, (∀ H', Nx H' → ∃ m', m' < m ∧ W (i + 1) m' H') ∧ ∀ x H', J.yld i H x H' → g x (wipe σ vs) H' fun σ2 H2 => wipe σ2 vs = wipe σ vs ∧ tt σ2 H2 fun b H3 =>
        if b = true then te σ2 H3 fun y H4 => ∃ acc, H4 D = some (.lst acc) ∧ acc.length < sizeLine ∧ Nx (upd H4 D (.lst (acc ++ [y]))) else Nx H3) := by
  intro D hD
  refine lc_it w (fun i H => Same H1 H ∧ H D = some (.lst (((xs.take i).filter p).map f))) ⟨same_new hD, upd_same⟩ (fun i H _ h => hG H h.1) ?_ ?_
  · intro i v H H' hi ⟨s, e⟩ y
    have hi' : i < xs.length := by omega
    have hx' : xs[i]? = some xs[i] := List.getElem?_eq_getElem hi'
    have fin := hs i xs[i] v H H' (fun b y H4 => if b = true then ∃ acc, H4 D = some (.lst acc) ∧ acc.length < sizeLine ∧ (Same H1 (upd H4 D (.lst (acc ++ [y]))) ∧ (upd H4 D (.lst (acc ++ [y]))) D = some (.lst (((xs.take (i + 1)).filter p).map f))) else Same H1 H4 ∧ H4 D = some (.lst (((xs.take (i + 1)).filter p).map f))) hx' s y ?_
    · exact fin
    · intro y H4 s4 hy
      have e4 := s4 _ _ e
      rw [take_more hx', List.filter_append, List.map_append]
      cases hp : p xs[i] with
      | true =>
        rw [if_pos rfl]
        refine ⟨_, e4, ?_, (s.trans s4).store hD, ?_⟩
        · rw [List.length_map]
          refine Nat.lt_of_le_of_lt (List.length_filter_le _ _) (Nat.lt_of_le_of_lt (List.length_take_le _ _) ?_)
          omega
        · rw [upd_same, hy hp]
          simp [List.filter, hp]
      | false =>
        rw [if_neg Bool.false_ne_true]
        refine ⟨s.trans s4, ?_⟩
        rw [e4]
        simp [List.filter, hp]
  · intro H ⟨s, e⟩
    rw [← hx, List.take_length] at e
    exact hQ D H hD s e

/-! ### what is a number, a quay, wishes -/
def isInt : V → Bool
  | .int _ => true
  | _ => false
def inB (lo hi : Int) : V → Bool
  | .int i => decide (lo ≤ i) && decide (i ≤ hi)
  | _ => false
def goodW (n : Nat) (xs : List V) : Bool := decide (xs.length ≤ 400) && xs.all (inB 1 n)
/-- what a check of a quay and of wishes for it comes to: R behind a good one -/
def ChkQ (K : PySem.W.Frag) (a : Ad) (b : V) (H : Hp) (E : XK) (R : Nat → Prop) : Prop := ∃ T, TyB K H b T ∧ ((inB 1 400 b = false ∧ E (.ref a.e_NoQuay) none H) ∨ ∃ n : Nat, b = .int n ∧ 1 ≤ n ∧ n ≤ 400 ∧ R n)
def ChkW (K : PySem.W.Frag) (a : Ad) (b w : V) (H : Hp) (E : XK) (R : Nat → List Int → Addr → Prop) : Prop := ChkQ K a b H E fun n =>
  (∃ T, TyB K H w T ∧ T ≠ "list" ∧ T ≠ "tuple" ∧ E (.ref a.e_NoWishes) none H) ∨
  ∃ p xs, w = .ref p ∧ SqA K H p xs ∧ (∀ x ∈ xs, ∃ T, TyB K H x T) ∧ ((goodW n xs = false ∧ E (.ref a.e_NoWishes) none H) ∨
    ∃ ws : List Int, xs = ws.map V.int ∧ ws.length ≤ 400 ∧ (∀ x ∈ ws, 1 ≤ x ∧ x ≤ n) ∧ R n ws p)
theorem ChkQ.imp {K : PySem.W.Frag} {a : Ad} {b : V} {H : Hp} {E : XK} {R R' : Nat → Prop} (h : ChkQ K a b H E R) (k : ∀ n : Nat, b = .int n → 1 ≤ n → n ≤ 400 → R n → R' n) : ChkQ K a b H E R' := by
  obtain ⟨T, ty, h | ⟨n, e, h1, h2, r⟩⟩ := h
  · exact ⟨T, ty, .inl h⟩
  · exact ⟨T, ty, .inr ⟨n, e, h1, h2, k n e h1 h2 r⟩⟩
theorem ChkW.imp {K : PySem.W.Frag} {a : Ad} {b w : V} {H : Hp} {E : XK} {R R' : Nat → List Int → Addr → Prop} (h : ChkW K a b w H E R)
    (k : ∀ (n : Nat) (ws : List Int) (p : Addr), b = .int n → w = .ref p → 1 ≤ n → n ≤ 400 → SqA K H p (ws.map V.int) → ws.length ≤ 400 → (∀ x ∈ ws, 1 ≤ x ∧ x ≤ n) → R n ws p → R' n ws p) : ChkW K a b w H E R' := by
  refine ChkQ.imp h fun n e h1 h2 r => ?_
  rcases r with r | ⟨p, xs, ew, hs, ht, r | ⟨ws, ex, hl, hb, r⟩⟩
  · exact .inl r
  · exact .inr ⟨p, xs, ew, hs, ht, .inl r⟩
  · exact .inr ⟨p, xs, ew, hs, ht, .inr ⟨ws, ex, hl, hb, k n ws p e ew h1 h2 (ex ▸ hs) hl hb r⟩⟩
/-- a check that is passed -/
theorem ChkQ.ok {K : PySem.W.Frag} {a : Ad} {H : Hp} {E : XK} {R : Nat → Prop} {n : Nat} (h1 : 1 ≤ n) (h2 : n ≤ 400) (r : R n) : ChkQ K a (.int n) H E R := ⟨_, .int _, .inr ⟨n, rfl, h1, h2, r⟩⟩
theorem ChkW.ok {K : PySem.W.Frag} {a : Ad} {H : Hp} {E : XK} {R : Nat → List Int → Addr → Prop} {n : Nat} {ws : List Int} {p : Addr} (h1 : 1 ≤ n) (h2 : n ≤ 400) (hs : SqA K H p (ws.map V.int)) (hl : ws.length ≤ 400) (hb : ∀ x ∈ ws, 1 ≤ x ∧ x ≤ n) (r : R n ws p) : ChkW K a (.int n) (.ref p) H E R :=
  ChkQ.ok h1 h2 (.inr ⟨p, _, rfl, hs, fun x hx => by
    obtain ⟨i, _, rfl⟩ := List.mem_map.mp hx
    exact ⟨_, .int i⟩, .inr ⟨ws, rfl, hl, hb, r⟩⟩)
theorem goodW_ints {n : Nat} {ws : List Int} : goodW n (ws.map V.int) = true ↔ ws.length ≤ 400 ∧ ∀ x ∈ ws, 1 ≤ x ∧ x ≤ n := by
  unfold goodW
  simp [inB]
theorem inB_int {lo hi : Int} {v : V} (h : inB lo hi v = true) : ∃ i, v = .int i ∧ lo ≤ i ∧ i ≤ hi := by
  cases v with
  | int i =>
    simp only [inB, Bool.and_eq_true, decide_eq_true_eq] at h
    exact ⟨i, rfl, h⟩
  | _ => cases h
theorem goodW_of {n : Nat} {xs : List V} (h : goodW n xs = true) : ∃ ws : List Int, xs = ws.map V.int ∧ ws.length ≤ 400 ∧ ∀ x ∈ ws, 1 ≤ x ∧ x ≤ n := by
  unfold goodW at h
  simp only [Bool.and_eq_true, decide_eq_true_eq, List.all_eq_true] at h
  obtain ⟨h1, h2⟩ := h
  have e : ∃ ws : List Int, xs = ws.map V.int := by
    clear h1
    induction xs with
    | nil => exact ⟨[], rfl⟩
    | cons x r ih =>
      obtain ⟨ws, e⟩ := ih fun y hy => h2 y (List.mem_cons_of_mem _ hy)
      obtain ⟨i, ei, _⟩ := inB_int (h2 x List.mem_cons_self)
      exact ⟨i :: ws, by rw [ei, e]; rfl⟩
  obtain ⟨ws, rfl⟩ := e
  refine ⟨ws, rfl, by simpa using h1, fun x hx => ?_⟩
  obtain ⟨i, ei, h3, h4⟩ := inB_int (h2 (.int x) (List.mem_map_of_mem hx))
  cases ei
  exact ⟨h3, h4⟩
theorem tyb_int {K : PySem.W.Frag} {H : Hp} {x : V} {T : String} (h : TyB K H x T) : decide (T = "int") = isInt x := by
  cases h <;> first | rfl | decide
theorem tyb_ref {K : PySem.W.Frag} {H : Hp} {x : V} {T : String} (h : TyB K H x T) (e : T = "list" ∨ T = "tuple") : ∃ p xs, x = .ref p ∧ SqA K H p xs := by
  cases h with
  | lst h => exact ⟨_, _, rfl, .inl h⟩
  | tup h => exact ⟨_, _, rfl, .inr h⟩
  | non => rcases e with e | e <;> exact absurd e (by decide)
  | bl => rcases e with e | e <;> exact absurd e (by decide)
  | int => rcases e with e | e <;> exact absurd e (by decide)
  | str => rcases e with e | e <;> exact absurd e (by decide)
  | byt => rcases e with e | e <;> exact absurd e (by decide)
  | dK => rcases e with e | e <;> exact absurd e (by decide)
theorem SqA.ty {K : PySem.W.Frag} {H : Hp} {p : Addr} {xs : List V} (h : SqA K H p xs) : ∃ T, TyB K H (.ref p) T ∧ (decide (T = "list") || decide (T = "tuple")) = true := by
  rcases h with h | h
  · exact ⟨_, .lst h, by decide⟩
  · exact ⟨_, .tup h, by decide⟩
/-! is_number, is_from_to, is_row -/
def sp_is_number (K : PySem.W.Frag) (a : Ad) : Sp := fun vs H Q _ => ∃ x T, vs = [x] ∧ TyB K H x T ∧ Q (.bl (isInt x)) H
abbrev N_is_number : List Str := ["thing"]
def t_is_number (K : PySem.W.Frag) (a : Ad) : TS :=
  (tRet (tOp rIsTyB (tCB (rTyp K) (tCons (tVar 0) tNil)) (tC (.ty "int"))))
theorem len_is_number {K : PySem.W.Frag} {a : Ad} {vs : List V} {H : Hp} {Q : VK} {E : XK} (h : sp_is_number K a vs H Q E) : vs.length = 1 := by
  obtain ⟨x, T, rfl, _⟩ := h
  rfl
theorem pu_is_number {K : PySem.W.Frag} {a : Ad} {vs : List V} {H : Hp} {Q : VK} {E : XK} (h : sp_is_number K a vs H Q E) : t_is_number K a { nx := fun _ H' => Q .non H', rt := Q } (start N_is_number vs) H := by
  obtain ⟨x, T, rfl, ty, q⟩ := h
  refine ⟨x, rfl, x, T, rfl, ty, _, _, rfl, rfl, ?_⟩
  rw [tyb_int ty]
  exact q
def sp_is_from_to (K : PySem.W.Frag) (a : Ad) : Sp := fun vs H Q _ => ∃ lo hi x T, vs = [.int lo, .int hi, x] ∧ TyB K H x T ∧ Q (.bl (inB lo hi x)) H
abbrev N_is_from_to : List Str := ["low", "high", "thing"]
def t_is_from_to (K : PySem.W.Frag) (a : Ad) : TS :=
  (tRet (tAndV (tCall (sp_is_number K a) [] E0 (tCons (tVar 2) tNil)) (tChain rLeI rLeI (tVar 0) (tVar 2) (tVar 1))))
theorem len_is_from_to {K : PySem.W.Frag} {a : Ad} {vs : List V} {H : Hp} {Q : VK} {E : XK} (h : sp_is_from_to K a vs H Q E) : vs.length = 3 := by
  obtain ⟨lo, hi, x, T, rfl, _⟩ := h
  rfl
theorem pu_is_from_to {K : PySem.W.Frag} {a : Ad} {vs : List V} {H : Hp} {Q : VK} {E : XK} (h : sp_is_from_to K a vs H Q E) : t_is_from_to K a { nx := fun _ H' => Q .non H', rt := Q } (start N_is_from_to vs) H := by
  obtain ⟨lo, hi, x, T, rfl, ty, q⟩ := h
  refine ⟨x, rfl, x, T, rfl, ty, isInt x, rfl, ?_⟩
  cases x with
  | int i =>
    refine iteT ⟨_, rfl, _, rfl, lo, i, rfl, rfl, _, rfl, ?_⟩
    by_cases h1 : lo ≤ i
    · rw [decide_eq_true h1]
      refine iteT ⟨_, rfl, i, hi, rfl, rfl, ?_⟩
      have e : inB lo hi (.int i) = decide (i ≤ hi) := by simp [inB, h1]
      rw [e] at q
      exact q
    · rw [decide_eq_false h1]
      have e : inB lo hi (.int i) = false := by simp [inB, h1]
      rw [e] at q
      exact iteF q
  | _ => exact iteF q
def sp_is_row (K : PySem.W.Frag) (a : Ad) : Sp := fun vs H Q _ => ∃ x T, vs = [x] ∧ TyB K H x T ∧ Q (.bl (decide (T = "list") || decide (T = "tuple"))) H
abbrev N_is_row : List Str := ["thing"]
def t_is_row (K : PySem.W.Frag) (a : Ad) : TS :=
  (tRet (tOrV (tOp rIsTyB (tCB (rTyp K) (tCons (tVar 0) tNil)) (tC (.ty "list"))) (tOp rIsTyB (tCB (rTyp K) (tCons (tVar 0) tNil)) (tC (.ty "tuple")))))
theorem len_is_row {K : PySem.W.Frag} {a : Ad} {vs : List V} {H : Hp} {Q : VK} {E : XK} (h : sp_is_row K a vs H Q E) : vs.length = 1 := by
  obtain ⟨x, T, rfl, _⟩ := h
  rfl
theorem pu_is_row {K : PySem.W.Frag} {a : Ad} {vs : List V} {H : Hp} {Q : VK} {E : XK} (h : sp_is_row K a vs H Q E) : t_is_row K a { nx := fun _ H' => Q .non H', rt := Q } (start N_is_row vs) H := by
  obtain ⟨x, T, rfl, ty, q⟩ := h
  refine ⟨x, rfl, x, T, rfl, ty, _, _, rfl, rfl, _, rfl, ?_⟩
  by_cases h1 : T = "list"
  · rw [decide_eq_true h1] at q ⊢
    exact iteT q
  · rw [decide_eq_false h1] at q ⊢
    exact iteF ⟨x, rfl, x, T, rfl, ty, _, _, rfl, rfl, q⟩
/-! check_quay, check_wishes -/
def sp_check_quay (K : PySem.W.Frag) (a : Ad) : Sp := fun vs H Q E => ∃ b, vs = [b] ∧ ChkQ K a b H E fun _ => Q .non H
abbrev N_check_quay : List Str := ["berths"]
def t_check_quay (K : PySem.W.Frag) (a : Ad) (E : XK) : TS :=
  (tIfS (tNot (tB (tCall (sp_is_from_to K a) [] E0 (tCons (tC (.int 1)) (tCons (tC (.int 400)) (tCons (tVar 0) tNil)))))) (tRaise a.e_NoQuay E) tNext)
theorem len_check_quay {K : PySem.W.Frag} {a : Ad} {vs : List V} {H : Hp} {Q : VK} {E : XK} (h : sp_check_quay K a vs H Q E) : vs.length = 1 := by
  obtain ⟨b, rfl, _⟩ := h
  rfl
theorem pu_check_quay {K : PySem.W.Frag} {a : Ad} {vs : List V} {H : Hp} {Q : VK} {E : XK} (h : sp_check_quay K a vs H Q E) : t_check_quay K a E { nx := fun _ H' => Q .non H', rt := Q } (start N_check_quay vs) H := by
  obtain ⟨b, rfl, T, ty, h⟩ := h
  refine ⟨b, rfl, 1, 400, b, T, rfl, ty, inB 1 400 b, rfl, ?_⟩
  rcases h with ⟨e, q⟩ | ⟨n, rfl, h1, h2, q⟩
  · rw [e]
    exact iteT q
  · have e : inB 1 400 (.int n) = true := by simp [inB]; omega
    rw [e]
    exact iteF q
def sp_check_wishes (K : PySem.W.Frag) (a : Ad) : Sp := fun vs H Q E => ∃ b w, vs = [b, w] ∧ ChkW K a b w H E fun _ _ _ => Q .non H
abbrev N_check_wishes : List Str := ["berths", "wishes", "wish"]
def t_check_wishes (K : PySem.W.Frag) (a : Ad) (E : XK) : TS :=
  (tSeq (tDrop (tCall (sp_check_quay K a) [] E (tCons (tVar 0) tNil)))
    (tSeq (tIfS (tNot (tB (tCall (sp_is_row K a) [] E0 (tCons (tVar 1) tNil)))) (tRaise a.e_NoWishes E) tNext)
    (tSeq (tIfS (tTest (tOp rGtI (tCB (rLenSq K) (tCons (tVar 1) tNil)) (tC (.int 400)))) (tRaise a.e_NoWishes E) tNext)
    (tFor (iSeq K (tVar 1)) (gName 2)
    (tIfS (tNot (tB (tCall (sp_is_from_to K a) [] E0 (tCons (tC (.int 1)) (tCons (tVar 0) (tCons (tVar 2) tNil)))))) (tRaise a.e_NoWishes E) tNext)))))
theorem len_check_wishes {K : PySem.W.Frag} {a : Ad} {vs : List V} {H : Hp} {Q : VK} {E : XK} (h : sp_check_wishes K a vs H Q E) : vs.length = 2 := by
  obtain ⟨b, w, rfl, _⟩ := h
  rfl
theorem pu_check_wishes {K : PySem.W.Frag} {a : Ad} {vs : List V} {H : Hp} {Q : VK} {E : XK} (h : sp_check_wishes K a vs H Q E) : t_check_wishes K a E { nx := fun _ H' => Q .non H', rt := Q } (start N_check_wishes vs) H := by
  obtain ⟨b, w, rfl, h⟩ := h
  refine ⟨b, rfl, b, rfl, ChkQ.imp h fun n e h1 h2 r => ?_⟩
  rcases r with ⟨T, ty, n1, n2, q⟩ | ⟨p, xs, rfl, hs, ht, r⟩
  · refine ⟨w, rfl, w, T, rfl, ty, _, rfl, ?_⟩
    rw [decide_eq_false n1, decide_eq_false n2]
    exact iteT q
  · obtain ⟨T, ty, eT⟩ := hs.ty
    refine ⟨.ref p, rfl, .ref p, T, rfl, ty, _, rfl, ?_⟩
    rw [eT]
    refine iteF ⟨.ref p, rfl, p, xs, rfl, hs, _, _, rfl, rfl, _, rfl, ?_⟩
    have done : (goodW n xs = false → E (.ref a.e_NoWishes) none H) ∧ (goodW n xs = true → Q .non H) := by
      rcases r with ⟨g, q⟩ | ⟨ws, ex, hl, hb, q⟩
      · exact ⟨fun _ => q, fun g' => by rw [g] at g'; cases g'⟩
      · have g : goodW n xs = true := by rw [ex]; exact goodW_ints.mpr ⟨hl, hb⟩
        exact ⟨fun g' => (by rw [g] at g'; cases g'), fun _ => q⟩
    by_cases hl : xs.length ≤ 400
    · rw [decide_eq_false (show ¬ ((400 : Int) < (xs.length : Int)) by omega)]
      refine iteF (for_seq (K := K) (H0 := H) (fun Q q => ⟨.ref p, rfl, q⟩) hs (fun i σ H' => H' = H ∧ (xs.take i).all (inB 1 n) = true ∧ ∃ y, σ = [some b, some (.ref p), y]) ⟨rfl, rfl, none, rfl⟩ (fun i σ H' e => by rw [e.1]; exact Same.refl H) ?_ ?_)
      · rintro i x σ H' hx ⟨rfl, ha, y, rfl⟩
        obtain ⟨T, ty⟩ := ht x (List.mem_of_getElem? hx)
        refine ⟨b, rfl, x, rfl, 1, n, x, T, by rw [e] <;> rfl, ty, inB 1 n x, rfl, ?_⟩
        cases g : inB 1 n x with
        | true => exact iteF ⟨rfl, by rw [take_more hx, List.all_append, ha]; simp [g], some x, rfl⟩
        | false =>
          refine iteT (done.1 ?_)
          unfold goodW
          have : xs.all (inB 1 n) = false := by
            cases z : xs.all (inB 1 n) with
            | false => rfl
            | true =>
              rw [List.all_eq_true] at z
              rw [z x (List.mem_of_getElem? hx)] at g
              cases g
          rw [this, Bool.and_false]
      · rintro σ H' ⟨rfl, ha, y, rfl⟩
        rw [List.take_length] at ha
        refine done.2 ?_
        unfold goodW
        rw [ha, decide_eq_true hl]
        rfl
    · rw [decide_eq_true (show (400 : Int) < (xs.length : Int) by omega)]
      refine iteT (done.1 ?_)
      unfold goodW
      rw [decide_eq_false hl]
      rfl

/-! ### the straight quay: the mathematics of laying -/
/-- the first free one of k berths from w on -/
def ffr (occ : Int → Bool) : Nat → Int → Option Int
  | 0, _ => none
  | k + 1, w => if occ w = true then ffr occ k (w + 1) else some w
def ffree (n : Nat) (occ : Int → Bool) (w : Int) : Option Int := ffr occ ((n : Int) + 1 - w).toNat w
def setO (occ : Int → Bool) (b : Int) : Int → Bool := fun x => decide (x = b) || occ x
def pstep (n : Nat) (s : (Int → Bool) × List (Option Int)) (w : Int) : (Int → Bool) × List (Option Int) :=
  match ffree n s.1 w with
  | none => (s.1, s.2 ++ [none])
  | some b => (setO s.1 b, s.2 ++ [some b])
def prun (n : Nat) (ws : List Int) : (Int → Bool) × List (Option Int) := ws.foldl (pstep n) (fun _ => false, [])
def placedL (n : Nat) (ws : List Int) : List (Option Int) := (prun n ws).2
def vO : Option Int → V
  | none => .non
  | some b => .int b
def heldL (n : Nat) (occ : Int → Bool) : List V := (List.range (n + 1)).map fun (i : Nat) => V.bl (occ (i : Int))
theorem ffr_spec {occ : Int → Bool} : ∀ (k : Nat) (w : Int), (∀ b, ffr occ k w = some b → w ≤ b ∧ b < w + k ∧ occ b = false ∧ ∀ x, w ≤ x → x < b → occ x = true) ∧ (ffr occ k w = none → ∀ x, w ≤ x → x < w + k → occ x = true)
  | 0, w => ⟨fun b h => (by cases h), fun _ x h1 h2 => by omega⟩
  | k + 1, w => by
    obtain ⟨i1, i2⟩ := ffr_spec (occ := occ) k (w + 1)
    unfold ffr
    cases e : occ w with
    | true =>
      rw [if_pos rfl]
      refine ⟨fun b h => ?_, fun h x h1 h2 => ?_⟩
      · obtain ⟨j1, j2, j3, j4⟩ := i1 b h
        refine ⟨by omega, by omega, j3, fun x h1 h2 => ?_⟩
        by_cases z : x = w
        · rw [z]; exact e
        · exact j4 x (by omega) h2
      · by_cases z : x = w
        · rw [z]; exact e
        · exact i2 h x (by omega) (by omega)
    | false =>
      rw [if_neg Bool.false_ne_true]
      refine ⟨fun b h => ?_, fun h => (by cases h)⟩
      cases h
      exact ⟨Int.le_refl _, by omega, e, fun x h1 h2 => by omega⟩
theorem ffree_some {n : Nat} {occ : Int → Bool} {w b : Int} (h : ffree n occ w = some b) : w ≤ b ∧ b ≤ n ∧ occ b = false ∧ ∀ x, w ≤ x → x < b → occ x = true := by
  obtain ⟨h1, h2, h3, h4⟩ := (ffr_spec _ _).1 b h
  exact ⟨h1, by omega, h3, h4⟩
theorem ffree_none {n : Nat} {occ : Int → Bool} {w : Int} (h : ffree n occ w = none) : ∀ x, w ≤ x → x ≤ n → occ x = true := fun x h1 h2 => (ffr_spec _ _).2 h x h1 (by omega)
theorem prun_more {n : Nat} {ws : List Int} {i : Nat} {w : Int} (h : ws[i]? = some w) : prun n (ws.take (i + 1)) = pstep n (prun n (ws.take i)) w := by
  unfold prun
  rw [take_more h, List.foldl_append]
  rfl
theorem prun_snoc {n : Nat} {ws : List Int} {w : Int} : prun n (ws ++ [w]) = pstep n (prun n ws) w := by
  unfold prun
  rw [List.foldl_append]
  rfl
theorem pstep_len {n : Nat} {s : (Int → Bool) × List (Option Int)} {w : Int} : (pstep n s w).2.length = s.2.length + 1 := by
  unfold pstep
  cases ffree n s.1 w <;> simp
theorem snoc_ind {α : Type} {p : List α → Prop} (h0 : p []) (h1 : ∀ l x, p l → p (l ++ [x])) : ∀ l, p l := fun l => by
  have : ∀ n, ∀ l : List α, l.length = n → p l := by
    intro n
    induction n with
    | zero => intro l h; rw [List.length_eq_zero_iff.mp h]; exact h0
    | succ n ih =>
      intro l h
      have hne : l ≠ [] := fun z => by rw [z] at h; cases h
      rw [← List.dropLast_concat_getLast hne]
      exact h1 _ _ (ih _ (by rw [List.length_dropLast, h]; rfl))
  exact this _ l rfl
theorem prun_len {n : Nat} : ∀ ws : List Int, (prun n ws).2.length = ws.length := snoc_ind rfl fun ws w ih => by
  rw [prun_snoc, pstep_len, ih]
  simp
theorem placedL_len {n : Nat} {ws : List Int} : (placedL n ws).length = ws.length := prun_len ws
theorem heldL_at {n : Nat} {occ : Int → Bool} {i : Nat} (h : i ≤ n) : (heldL n occ)[i]? = some (.bl (occ (i : Int))) := by
  unfold heldL
  rw [List.getElem?_map, List.getElem?_range (by omega)]
  rfl
theorem heldL_len {n : Nat} {occ : Int → Bool} : (heldL n occ).length = n + 1 := by simp [heldL]
theorem heldL_set {n : Nat} {occ : Int → Bool} {b : Int} (h0 : 0 ≤ b) (h : b ≤ n) : (heldL n occ).set b.toNat (.bl true) = heldL n (setO occ b) := by
  apply List.ext_getElem?
  intro i
  by_cases hi : i ≤ n
  · rw [heldL_at hi]
    by_cases e : i = b.toNat
    · subst e
      rw [List.getElem?_set_self (by rw [heldL_len]; omega)]
      have : ((b.toNat : Nat) : Int) = b := by omega
      simp [setO, this]
    · rw [List.getElem?_set_ne (Ne.symm e), heldL_at hi]
      have : ¬ ((i : Nat) : Int) = b := by omega
      simp [setO, this]
  · rw [List.getElem?_eq_none (show ((heldL n occ).set b.toNat (V.bl true)).length ≤ i by rw [List.length_set, heldL_len]; omega), List.getElem?_eq_none (show (heldL n (setO occ b)).length ≤ i by rw [heldL_len]; omega)]
theorem heldL_new {n : Nat} : (List.replicate (n + 1) [V.bl false]).flatten = heldL n (fun _ => false) := by
  apply List.ext_getElem?
  intro i
  have e : (List.replicate (n + 1) [V.bl false]).flatten = List.replicate (n + 1) (V.bl false) := by
    generalize n + 1 = m
    induction m with
    | zero => rfl
    | succ m ih => rw [List.replicate_succ, List.replicate_succ, List.flatten_cons, ih]; rfl
  rw [e]
  by_cases hi : i ≤ n
  · rw [heldL_at hi, List.getElem?_replicate_of_lt (by omega)]
  · rw [List.getElem?_eq_none (show (List.replicate (n + 1) (V.bl false)).length ≤ i by rw [List.length_replicate]; omega), List.getElem?_eq_none (show (heldL n fun _ => false).length ≤ i by rw [heldL_len]; omega)]
theorem l1000 {n : Nat} (h : n ≤ 1000) : n ≤ sizeLine := Nat.le_of_lt (small1000 h)
/-! ### first_free -/
def sp_first_free (K : PySem.W.Frag) (a : Ad) : Sp := fun vs H Q _ => ∃ (h : Addr) (n : Nat) (occ : Int → Bool) (w : Int), vs = [.ref h, .int w] ∧ SqL K H h (heldL n occ) ∧ n ≤ 900 ∧ 0 ≤ w ∧ w ≤ 1000 ∧ Q (vO (ffree n occ w)) H
abbrev N_first_free : List Str := ["held", "wish", "berth"]
def t_first_free (K : PySem.W.Frag) (a : Ad) : TS :=
  (tSeq (tFor (iRng2 (tCons (tVar 1) (tCons (tCB (rLenSq K) (tCons (tVar 0) tNil)) tNil))) (gName 2)
    (tIfS (tNot (tB (tOp (rIxL K) (tVar 0) (tVar 2)))) (tRet (tVar 2)) tNext))
    (tRet (tC .non)))
theorem len_first_free {K : PySem.W.Frag} {a : Ad} {vs : List V} {H : Hp} {Q : VK} {E : XK} (h : sp_first_free K a vs H Q E) : vs.length = 2 := by
  obtain ⟨h, n, occ, w, rfl, _⟩ := h
  rfl
theorem pu_first_free {K : PySem.W.Frag} {a : Ad} {vs : List V} {H : Hp} {Q : VK} {E : XK} (h : sp_first_free K a vs H Q E) : t_first_free K a { nx := fun _ H' => Q .non H', rt := Q } (start N_first_free vs) H := by
  obtain ⟨h, n, occ, w, rfl, hs, hn, h0, hw, q⟩ := h
  refine ⟨.int w, rfl, .ref h, rfl, h, _, rfl, .inl hs, w, ((heldL n occ).length : Nat), rfl, ?_, ?_⟩
  · rw [heldL_len]
    omega
  rw [heldL_len]
  have en : (((n + 1 : Nat) : Int) - w).toNat = ((n : Int) + 1 - w).toNat := by omega
  rw [en]
  refine for_range (fun i σ H' => H' = H ∧ ffree n occ w = ffr occ (((n : Int) + 1 - w).toNat - i) (w + i) ∧ ∃ y, σ = [some (.ref h), some (.int w), y]) ⟨rfl, by simp [ffree], none, rfl⟩ ?_ ?_
  · rintro i σ H' hi ⟨rfl, e, y, rfl⟩
    have hx : (heldL n occ)[(w + i).toNat]? = some (.bl (occ (w + i))) := by
      rw [heldL_at (by omega)]
      have : (((w + i).toNat : Nat) : Int) = w + i := by omega
      rw [this]
    refine ⟨.ref h, rfl, .int (w + i), rfl, h, _, _, .bl (occ (w + i)), rfl, rfl, hs, at_of (by omega) hx, occ (w + i), rfl, ?_⟩
    have e2 : ((n : Int) + 1 - w).toNat - i = (((n : Int) + 1 - w).toNat - (i + 1)) + 1 := by omega
    rw [e2] at e
    unfold ffr at e
    cases o : occ (w + i) with
    | true =>
      rw [o, if_pos rfl] at e
      refine iteF ⟨rfl, ?_, some (.int (w + i)), rfl⟩
      rw [e]
      congr 1
      omega
    | false =>
      rw [o, if_neg Bool.false_ne_true] at e
      refine iteT ⟨.int (w + i), rfl, ?_⟩
      rw [e] at q
      exact q
  · rintro σ H' ⟨rfl, e, y, rfl⟩
    rw [Nat.sub_self] at e
    rw [e] at q
    exact q
/-! ### placed -/
/-! ### taken, gone_on -/
def somes (l : List (Option Int)) : List Int := l.filterMap id
def sortI (l : List Int) : List Int := l.mergeSort fun x y => decide (x ≤ y)
theorem sortI_perm (l : List Int) : (sortI l).Perm l := List.mergeSort_perm l _
theorem sortI_sorted (l : List Int) : (sortI l).Pairwise (· ≤ ·) := by
  have h := List.pairwise_mergeSort (le := fun (x y : Int) => decide (x ≤ y)) (fun a b c h1 h2 => by simp only [decide_eq_true_eq] at *; omega) (fun a b => by simp only [Bool.or_eq_true, decide_eq_true_eq]; omega) l
  exact List.Pairwise.imp (fun h => of_decide_eq_true h) h
theorem sortI_uniq {l l' : List Int} (hp : l'.Perm l) (hs : l'.Pairwise (· ≤ ·)) : l' = sortI l := PySem.W.ksm_same (hp.trans (sortI_perm l).symm) hs (sortI_sorted l)
def takenL (n : Nat) (ws : List Int) : List Int := sortI (somes (placedL n ws))
/-- of each ship that lies, how far behind its wish -/
def goneL (ws : List Int) (bs : List (Option Int)) : List Int := (ws.zip bs).filterMap fun p => p.2.map fun b => b - p.1
theorem filter_some : ∀ l : List (Option Int), (l.filter Option.isSome).map vO = (somes l).map V.int
  | [] => rfl
  | none :: l => filter_some l
  | some b :: l => congrArg (V.int b :: ·) (filter_some l)
theorem vO_not (o : Option Int) : (!decide (vO o = .non)) = o.isSome := by
  cases o <;> rfl
theorem zip_gone : ∀ (ws : List Int) (bs : List (Option Int)), ((ws.zip bs).filter fun p => p.2.isSome).map (fun p => V.int ((p.2.getD 0) - p.1)) = (goneL ws bs).map V.int
  | [], _ => by simp [goneL]
  | _ :: _, [] => by simp [goneL]
  | w :: ws, none :: bs => by
    have ih := zip_gone ws bs
    simp only [List.zip_cons_cons, goneL] at ih ⊢
    simpa using ih
  | w :: ws, some b :: bs => by
    have ih := zip_gone ws bs
    simp only [List.zip_cons_cons, goneL] at ih ⊢
    simpa using ih
theorem zip_at {ws : List Int} {bs : List (Option Int)} {i : Nat} {x : Int × Option Int} (h : (ws.zip bs)[i]? = some x) : ws[i]? = some x.1 ∧ bs[i]? = some x.2 := by
  rw [List.getElem?_zip_eq_some] at h
  exact h
/-! ### good wishes: counting -/
theorem sub_len : ∀ {l1 l2 : List Int}, l1.Nodup → (∀ x ∈ l1, x ∈ l2) → l1.length ≤ l2.length
  | [], _, _, _ => Nat.zero_le _
  | x :: r, l2, nd, h => by
    obtain ⟨n1, n2⟩ := List.nodup_cons.mp nd
    have hx := h x List.mem_cons_self
    have ih := sub_len (l1 := r) (l2 := l2.erase x) n2 fun y hy => by
      have ne : y ≠ x := fun e => n1 (e ▸ hy)
      exact (List.mem_erase_of_ne ne).mpr (h y (List.mem_cons_of_mem _ hy))
    have e := List.length_erase_of_mem hx
    have p : 0 < l2.length := List.length_pos_of_mem hx
    rw [List.length_cons]
    omega
def upTo (lo : Int) (k : Nat) : List Int := (List.range k).map fun (i : Nat) => lo + (i : Int)
theorem mem_upTo {lo x : Int} {k : Nat} : x ∈ upTo lo k ↔ lo ≤ x ∧ x < lo + k := by
  unfold upTo
  simp only [List.mem_map, List.mem_range]
  constructor
  · rintro ⟨i, hi, rfl⟩
    omega
  · rintro ⟨h1, h2⟩
    exact ⟨(x - lo).toNat, by omega, by omega⟩
theorem upTo_len {lo : Int} {k : Nat} : (upTo lo k).length = k := by simp [upTo]
theorem upTo_nodup {lo : Int} {k : Nat} : (upTo lo k).Nodup := by
  unfold upTo
  exact (List.pairwise_map.mpr (List.Pairwise.imp (fun h => by omega) List.pairwise_lt_range))
theorem len_le_of {l : List Int} {lo : Int} {k : Nat} (nd : l.Nodup) (h : ∀ x ∈ l, lo ≤ x ∧ x < lo + k) : l.length ≤ k := by
  have := sub_len nd fun x hx => mem_upTo.mpr (h x hx)
  rw [upTo_len] at this
  exact this
theorem le_len_of {l : List Int} {lo : Int} {k : Nat} (h : ∀ x, lo ≤ x → x < lo + k → x ∈ l) : k ≤ l.length := by
  have := sub_len (upTo_nodup (lo := lo) (k := k)) fun x hx => by
    obtain ⟨h1, h2⟩ := mem_upTo.mp hx
    exact h x h1 h2
  rw [upTo_len] at this
  exact this
/-- how many of them are b or more -/
def cntGe (l : List Int) (b : Int) : Nat := (l.filter fun w => decide (b ≤ w)).length
theorem cntGe_snoc (l : List Int) (w b : Int) : cntGe (l ++ [w]) b = cntGe l b + if b ≤ w then 1 else 0 := by
  unfold cntGe
  rw [List.filter_append, List.length_append]
  by_cases h : b ≤ w <;> simp [List.filter, h]
theorem cntGe_le (l : List Int) (b : Int) : cntGe l b ≤ l.length := List.length_filter_le _ _
theorem cntGe_perm {l l' : List Int} (h : l.Perm l') (b : Int) : cntGe l b = cntGe l' b := (h.filter _).length_eq
theorem somes_snoc (l : List (Option Int)) (o : Option Int) : somes (l ++ [o]) = somes l ++ o.toList := by
  unfold somes
  rw [List.filterMap_append]
  cases o <;> rfl
/-- what holds behind ships that came -/
structure Lay (n : Nat) (ws : List Int) : Prop where
  occ : ∀ x, (prun n ws).1 x = true ↔ x ∈ somes (placedL n ws)
  nd : (somes (placedL n ws)).Nodup
  bd : ∀ x ∈ somes (placedL n ws), 1 ≤ x ∧ x ≤ n
  few : ∀ b, (b ≤ 1 ∨ (prun n ws).1 (b - 1) = false) → cntGe (somes (placedL n ws)) b ≤ cntGe ws b
  many : none ∉ placedL n ws → ∀ b, cntGe ws b ≤ cntGe (somes (placedL n ws)) b
  crowd : none ∈ placedL n ws → ∃ b : Int, 1 ≤ b ∧ b ≤ n ∧ (n : Int) - b + 1 < cntGe ws b
theorem placedL_snoc {n : Nat} {ws : List Int} {w : Int} : placedL n (ws ++ [w]) = placedL n ws ++ [ffree n (prun n ws).1 w] := by
  unfold placedL
  rw [prun_snoc]
  unfold pstep
  cases ffree n (prun n ws).1 w <;> rfl
theorem occ_snoc {n : Nat} {ws : List Int} {w : Int} : (prun n (ws ++ [w])).1 = match ffree n (prun n ws).1 w with | none => (prun n ws).1 | some b => setO (prun n ws).1 b := by
  rw [prun_snoc]
  unfold pstep
  cases ffree n (prun n ws).1 w <;> rfl
/-- the least one from which on all are held -/
theorem least_full {occ : Int → Bool} : ∀ (k : Nat), (∀ x, (k : Int) + 1 ≤ x → x ≤ k + 1 → occ x = true) → ∀ m : Int, (∀ x, (k : Int) + 1 ≤ x → x ≤ m → occ x = true) → ∃ b : Int, 1 ≤ b ∧ b ≤ k + 1 ∧ (∀ x, b ≤ x → x ≤ m → occ x = true) ∧ (b ≤ 1 ∨ occ (b - 1) = false)
  | 0, _, m, h => ⟨1, by omega, by omega, fun x h1 h2 => h x (by omega) h2, .inl (by omega)⟩
  | k + 1, h0, m, h => by
    cases e : occ ((k : Int) + 1) with
    | false => exact ⟨(k : Int) + 1 + 1, by omega, by omega, fun x h1 h2 => h x (by omega) h2, .inr (by rw [show (k : Int) + 1 + 1 - 1 = (k : Int) + 1 by omega]; exact e)⟩
    | true =>
      obtain ⟨b, b1, b2, b3, b4⟩ := least_full (occ := occ) k (fun x h1 h2 => by rw [show x = (k : Int) + 1 by omega]; exact e) m fun x h1 h2 => by
        by_cases z : x = (k : Int) + 1
        · rw [z]; exact e
        · exact h x (by omega) h2
      exact ⟨b, b1, by omega, b3, b4⟩
theorem lay (n : Nat) : ∀ ws : List Int, (∀ w ∈ ws, 1 ≤ w ∧ w ≤ n) → Lay n ws := snoc_ind (fun _ => ⟨fun x => by simp [prun, placedL, somes], List.nodup_nil, fun x hx => (by cases hx), fun b _ => Nat.zero_le _, fun _ b => Nat.le_refl _, fun h => (by cases h)⟩) fun ws w ih hb => by
  have hw := hb w (List.mem_append_right _ (List.mem_singleton.mpr rfl))
  obtain ⟨i1, i2, i3, i4, i5, i6⟩ := ih fun x hx => hb x (List.mem_append_left _ hx)
  cases e : ffree n (prun n ws).1 w with
  | none =>
    have es : somes (placedL n (ws ++ [w])) = somes (placedL n ws) := by rw [placedL_snoc, e, somes_snoc]; simp
    have eo : (prun n (ws ++ [w])).1 = (prun n ws).1 := by rw [occ_snoc, e]
    have full := ffree_none e
    refine ⟨fun x => by rw [eo, es]; exact i1 x, by rw [es]; exact i2, by rw [es]; exact i3, fun b h => ?_, fun h => ?_, fun _ => ?_⟩
    · rw [es, cntGe_snoc]
      rw [eo] at h
      have := i4 b h
      omega
    · rw [placedL_snoc, e] at h
      exact absurd (List.mem_append_right _ (List.mem_singleton.mpr rfl)) h
    · obtain ⟨b, b1, b2, b3, b4⟩ := least_full (occ := (prun n ws).1) (w - 1).toNat (fun x h1 h2 => full x (by omega) (by omega)) n fun x h1 h2 => full x (by omega) h2
      have c1 := i4 b b4
      have c2 : ((n : Int) - b + 1).toNat ≤ cntGe (somes (placedL n ws)) b := le_len_of (lo := b) fun x h1 h2 => List.mem_filter.mpr ⟨(i1 x).mp (b3 x h1 (by omega)), by simpa using h1⟩
      refine ⟨b, b1, by omega, ?_⟩
      rw [cntGe_snoc, if_pos (by omega)]
      omega
  | some x =>
    have es : somes (placedL n (ws ++ [w])) = somes (placedL n ws) ++ [x] := by rw [placedL_snoc, e, somes_snoc]; rfl
    have eo : (prun n (ws ++ [w])).1 = setO (prun n ws).1 x := by rw [occ_snoc, e]
    obtain ⟨x1, x2, x3, x4⟩ := ffree_some e
    have hn : x ∉ somes (placedL n ws) := fun z => by
      rw [(i1 x).mpr z] at x3
      cases x3
    refine ⟨fun y => ?_, ?_, ?_, fun b h => ?_, fun h b => ?_, fun h => ?_⟩
    · rw [eo, es, List.mem_append, List.mem_singleton, ← i1 y]
      unfold setO
      by_cases z : y = x <;> simp [z]
    · rw [es, List.nodup_append]
      exact ⟨i2, by simp, fun a ha b hb => by rw [List.mem_singleton.mp hb]; exact fun z => hn (z ▸ ha)⟩
    · intro y hy
      rw [es] at hy
      rcases List.mem_append.mp hy with k | k
      · exact i3 y k
      · rw [List.mem_singleton.mp k]
        omega
    · rw [es, cntGe_snoc, cntGe_snoc]
      have h' : b ≤ 1 ∨ (prun n ws).1 (b - 1) = false := by
        rcases h with h | h
        · exact .inl h
        · rw [eo] at h
          unfold setO at h
          exact .inr (Bool.or_eq_false_iff.mp h).2
      have := i4 b h'
      by_cases hbx : b ≤ x
      · have hbw : b ≤ w := by
          by_cases z : b ≤ w
          · exact z
          · rcases h' with h' | h'
            · omega
            · rw [x4 (b - 1) (by omega) (by omega)] at h'
              cases h'
        rw [if_pos hbx, if_pos hbw]
        omega
      · rw [if_neg hbx]
        omega
    · have h' : none ∉ placedL n ws := fun z => h (by rw [placedL_snoc]; exact List.mem_append_left _ z)
      have := i5 h' b
      rw [es, cntGe_snoc, cntGe_snoc]
      by_cases z : b ≤ w
      · rw [if_pos z, if_pos (by omega)]
        omega
      · rw [if_neg z]
        omega
    · rw [placedL_snoc, e] at h
      rcases List.mem_append.mp h with k | k
      · obtain ⟨b, b1, b2, b3⟩ := i6 k
        refine ⟨b, b1, b2, ?_⟩
        rw [cntGe_snoc]
        omega
      · simp at k
/-- the last berth from which on more wish -/
def downTo (n : Nat) : List Int := (List.range n).map fun (i : Nat) => (n : Int) - (i : Int)
def crowdedL (n : Nat) (ws : List Int) : Option Int := (downTo n).find? fun b => decide ((n : Int) - b + 1 < (cntGe ws b : Int))
theorem mem_downTo {n : Nat} {x : Int} : x ∈ downTo n ↔ 1 ≤ x ∧ x ≤ n := by
  unfold downTo
  simp only [List.mem_map, List.mem_range]
  constructor
  · rintro ⟨i, hi, rfl⟩
    omega
  · rintro ⟨h1, h2⟩
    exact ⟨(n - x).toNat, by omega, by omega⟩
theorem crowded_none {n : Nat} {ws : List Int} : crowdedL n ws = none ↔ ∀ b : Int, 1 ≤ b → b ≤ n → (cntGe ws b : Int) ≤ n - b + 1 := by
  unfold crowdedL
  rw [List.find?_eq_none]
  simp only [decide_eq_true_eq, Int.not_lt]
  exact ⟨fun h b b1 b2 => h b (mem_downTo.mpr ⟨b1, b2⟩), fun h b hb => h b (mem_downTo.mp hb).1 (mem_downTo.mp hb).2⟩
theorem good_iff {n : Nat} {ws : List Int} (hb : ∀ w ∈ ws, 1 ≤ w ∧ w ≤ n) : crowdedL n ws = none ↔ none ∉ placedL n ws := by
  have L := lay n ws hb
  rw [crowded_none]
  constructor
  · intro h z
    obtain ⟨b, b1, b2, b3⟩ := L.crowd z
    have := h b b1 b2
    omega
  · intro h b b1 b2
    have h1 := L.many h b
    have h2 : cntGe (somes (placedL n ws)) b ≤ ((n : Int) - b + 1).toNat := len_le_of (lo := b) (L.nd.filter _) fun x hx => by
      obtain ⟨k1, k2⟩ := List.mem_filter.mp hx
      have := L.bd x k1
      have k3 : b ≤ x := by simpa using k2
      omega
    omega
/-! in rising order -/
theorem sorted_cut {b : Int} : ∀ {o : List Int}, o.Pairwise (· ≤ ·) → o = o.filter (fun w => !decide (b ≤ w)) ++ o.filter (fun w => decide (b ≤ w))
  | [], _ => rfl
  | x :: r, h => by
    obtain ⟨h1, h2⟩ := List.pairwise_cons.mp h
    by_cases z : b ≤ x
    · have e1 : r.filter (fun w => !decide (b ≤ w)) = [] := List.filter_eq_nil_iff.mpr fun y hy => by
        have := h1 y hy
        simp only [Bool.not_eq_true', decide_eq_false_iff_not]
        omega
      have e2 : r.filter (fun w => decide (b ≤ w)) = r := List.filter_eq_self.mpr fun y hy => by
        have := h1 y hy
        simp only [decide_eq_true_eq]
        omega
      simp [List.filter_cons, z, e1, e2]
    · have ih := sorted_cut (b := b) h2
      simp only [List.filter_cons, z, decide_false, Bool.not_false, if_true, Bool.false_eq_true, if_false, List.cons_append]
      rw [← ih]
def goodS (n : Nat) (o : List Int) : Bool := (List.range o.length).all fun (i : Nat) => decide (o.getD i 0 ≤ (n : Int) - o.length + i + 1)
theorem goodS_iff {n : Nat} {ws : List Int} (hb : ∀ w ∈ ws, 1 ≤ w ∧ w ≤ n) : goodS n (sortI ws) = true ↔ crowdedL n ws = none := by
  have hp := sortI_perm ws
  have hs := sortI_sorted ws
  rw [crowded_none]
  unfold goodS
  simp only [List.all_eq_true, List.mem_range, decide_eq_true_eq]
  generalize hO : sortI ws = o at hp hs
  have hbo : ∀ w ∈ o, 1 ≤ w ∧ w ≤ n := fun w hw => hb w (hp.mem_iff.mp hw)
  constructor
  · intro h b b1 b2
    rw [← cntGe_perm hp b]
    have cut := sorted_cut (b := b) hs
    by_cases z : cntGe o b = 0
    · rw [z]
      omega
    · have hlen : (o.filter (fun w => !decide (b ≤ w))).length + cntGe o b = o.length := by
        unfold cntGe
        rw [← List.length_append, ← cut]
      have hi : (o.filter (fun w => !decide (b ≤ w))).length < o.length := by omega
      have h1 := h _ hi
      have e : o.getD (o.filter (fun w => !decide (b ≤ w))).length 0 = o[(o.filter (fun w => !decide (b ≤ w))).length] := by simp [List.getD_eq_getElem?_getD, List.getElem?_eq_getElem hi]
      rw [e] at h1
      have hm : o[(o.filter (fun w => !decide (b ≤ w))).length] ∈ o.filter (fun w => decide (b ≤ w)) := by
        have e2 : o[(o.filter (fun w => !decide (b ≤ w))).length]? = (o.filter (fun w => decide (b ≤ w)))[0]? := by
          conv => lhs; arg 1; rw [cut]
          rw [List.getElem?_append_right (Nat.le_refl _), Nat.sub_self]
        rw [List.getElem?_eq_getElem hi] at e2
        exact List.mem_of_getElem? e2.symm
      have h2 : b ≤ o[(o.filter (fun w => !decide (b ≤ w))).length] := by simpa using (List.mem_filter.mp hm).2
      omega
  · intro h i hi
    have e : o.getD i 0 = o[i] := by simp [List.getD_eq_getElem?_getD, List.getElem?_eq_getElem hi]
    rw [e]
    have hbi := hbo o[i] (List.getElem_mem hi)
    have h1 := h o[i] hbi.1 hbi.2
    rw [← cntGe_perm hp] at h1
    have h2 : o.length - i ≤ cntGe o o[i] := by
      have e3 : (o.drop i).filter (fun w => decide (o[i] ≤ w)) = o.drop i := List.filter_eq_self.mpr fun y hy => by
        obtain ⟨j, hj, ej⟩ := List.getElem_of_mem hy
        rw [List.getElem_drop] at ej
        simp only [decide_eq_true_eq]
        rw [← ej]
        by_cases z : j = 0
        · subst z
          simp
        · exact List.pairwise_iff_getElem.mp hs i (i + j) hi (by rw [List.length_drop] at hj; omega) (by omega)
      have e4 : (o.filter (fun w => decide (o[i] ≤ w))).length = ((o.take i).filter (fun w => decide (o[i] ≤ w))).length + ((o.drop i).filter (fun w => decide (o[i] ≤ w))).length := by
        rw [← List.length_append, ← List.filter_append, List.take_append_drop]
      unfold cntGe
      rw [e4, e3, List.length_drop]
      omega
    omega

/-! ### any order of the same ships -/
theorem ffree_is {n : Nat} {occ : Int → Bool} {w b : Int} (h1 : w ≤ b) (h2 : b ≤ n) (h3 : occ b = false) (h4 : ∀ x, w ≤ x → x < b → occ x = true) : ffree n occ w = some b := by
  cases e : ffree n occ w with
  | none =>
    rw [ffree_none e b h1 h2] at h3
    cases h3
  | some c =>
    obtain ⟨c1, c2, c3, c4⟩ := ffree_some e
    congr 1
    by_cases z : c < b
    · rw [h4 c c1 z] at c3
      cases c3
    · by_cases z2 : b < c
      · rw [c4 b h1 z2] at h3
        cases h3
      · omega
theorem ffree_non {n : Nat} {occ : Int → Bool} {w : Int} (h : ∀ x, w ≤ x → x ≤ n → occ x = true) : ffree n occ w = none := by
  cases e : ffree n occ w with
  | none => rfl
  | some c =>
    obtain ⟨c1, c2, c3, c4⟩ := ffree_some e
    rw [h c c1 c2] at c3
    cases c3
def stp (n : Nat) (occ : Int → Bool) (w : Int) : Int → Bool := match ffree n occ w with
  | none => occ
  | some b => setO occ b
theorem stp_none {n : Nat} {occ : Int → Bool} {w : Int} (h : ffree n occ w = none) : stp n occ w = occ := by simp only [stp, h]
theorem stp_some {n : Nat} {occ : Int → Bool} {w b : Int} (h : ffree n occ w = some b) : stp n occ w = setO occ b := by simp only [stp, h]
theorem setO_comm (occ : Int → Bool) (x y : Int) : setO (setO occ x) y = setO (setO occ y) x := by
  funext z
  unfold setO
  cases decide (z = x) <;> cases decide (z = y) <;> rfl
theorem setO_mono {occ : Int → Bool} {x y : Int} (h : occ y = true) : setO occ x y = true := by
  unfold setO
  rw [h, Bool.or_true]
theorem setO_ne {occ : Int → Bool} {x y : Int} (h : y ≠ x) : setO occ x y = occ y := by
  unfold setO
  rw [decide_eq_false h, Bool.false_or]
theorem setO_self {occ : Int → Bool} {x : Int} : setO occ x x = true := by simp [setO]
theorem stp_comm_le {n : Nat} {occ : Int → Bool} {w1 w2 : Int} (h : w1 ≤ w2) : stp n (stp n occ w1) w2 = stp n (stp n occ w2) w1 := by
  cases eb : ffree n occ w2 with
  | none =>
    have fb := ffree_none eb
    rw [stp_none eb]
    cases ea : ffree n occ w1 with
    | none => rw [stp_none ea, stp_none eb]
    | some x =>
      rw [stp_some ea]
      exact stp_none (ffree_non fun y h1 h2 => setO_mono (fb y h1 h2))
  | some y =>
    obtain ⟨y1, y2, y3, y4⟩ := ffree_some eb
    rw [stp_some eb]
    cases ea : ffree n occ w1 with
    | none =>
      rw [ffree_none ea y (by omega) y2] at y3
      cases y3
    | some x =>
      obtain ⟨x1, x2, x3, x4⟩ := ffree_some ea
      rw [stp_some ea]
      by_cases z : x = y
      · subst z
        have hocc : ∀ u, w1 ≤ u → u ≤ x → setO occ x u = true := fun u h1 h2 => by
          by_cases q : u = x
          · rw [q]; exact setO_self
          · exact setO_mono (x4 u h1 (by omega))
        cases ec : ffree n (setO occ x) w2 with
        | none =>
          have fc := ffree_none ec
          rw [stp_none ec]
          refine (stp_none (ffree_non fun u h1 h2 => ?_)).symm
          by_cases q : u ≤ x
          · exact hocc u h1 q
          · exact fc u (by omega) h2
        | some z =>
          obtain ⟨z1, z2, z3, z4⟩ := ffree_some ec
          have hz : x < z := by
            by_cases q : x < z
            · exact q
            · rw [hocc z (by omega) (by omega)] at z3
              cases z3
          rw [stp_some ec]
          refine (stp_some (ffree_is (by omega) z2 z3 fun u h1 h2 => ?_)).symm
          by_cases q : u ≤ x
          · exact hocc u h1 q
          · exact z4 u (by omega) h2
      · have hx : x < y := by
          by_cases q : x < y
          · exact q
          · rw [x4 y (by omega) (by omega)] at y3
            cases y3
        have e1 : stp n (setO occ x) w2 = setO (setO occ x) y := stp_some (ffree_is y1 y2 (by rw [setO_ne (Ne.symm z)]; exact y3) fun u h1 h2 => setO_mono (y4 u h1 h2))
        have e2 : stp n (setO occ y) w1 = setO (setO occ y) x := stp_some (ffree_is x1 x2 (by rw [setO_ne z]; exact x3) fun u h1 h2 => setO_mono (x4 u h1 h2))
        rw [e1, e2, setO_comm]
theorem stp_comm {n : Nat} {occ : Int → Bool} {w1 w2 : Int} : stp n (stp n occ w1) w2 = stp n (stp n occ w2) w1 := by
  by_cases h : w1 ≤ w2
  · exact stp_comm_le h
  · exact (stp_comm_le (by omega)).symm
theorem occ_fold {n : Nat} : ∀ ws : List Int, (prun n ws).1 = ws.foldl (stp n) (fun _ => false) := snoc_ind rfl fun ws w ih => by
  rw [occ_snoc, List.foldl_append, ← ih]
  rfl
theorem occ_perm {n : Nat} {ws ws' : List Int} (h : ws.Perm ws') : (prun n ws).1 = (prun n ws').1 := by
  rw [occ_fold, occ_fold]
  exact h.foldl_eq' (fun x _ y _ z => stp_comm) _
theorem somes_perm {n : Nat} {ws ws' : List Int} (h : ws.Perm ws') (hb : ∀ w ∈ ws, 1 ≤ w ∧ w ≤ n) : (somes (placedL n ws)).Perm (somes (placedL n ws')) := by
  have L := lay n ws hb
  have L' := lay n ws' fun w hw => hb w (h.mem_iff.mpr hw)
  refine (List.perm_ext_iff_of_nodup L.nd L'.nd).mpr fun x => ?_
  rw [← L.occ, ← L'.occ, occ_perm h]
theorem sortI_perm_eq {l l' : List Int} (h : l.Perm l') : sortI l = sortI l' := sortI_uniq ((sortI_perm l).trans h) (sortI_sorted l)
theorem taken_perm {n : Nat} {ws ws' : List Int} (h : ws.Perm ws') (hb : ∀ w ∈ ws, 1 ≤ w ∧ w ≤ n) : takenL n ws = takenL n ws' := sortI_perm_eq (somes_perm h hb)
theorem crowded_perm {n : Nat} {ws ws' : List Int} (h : ws.Perm ws') : crowdedL n ws = crowdedL n ws' := by
  unfold crowdedL
  congr 1
  funext b
  rw [cntGe_perm h]
theorem away_len : ∀ os : List (Option Int), (os.filter Option.isNone).length + (somes os).length = os.length
  | [] => rfl
  | none :: os => by
    have := away_len os
    simp only [List.filter_cons, Option.isNone_none, if_true, List.length_cons]
    show (os.filter Option.isNone).length + 1 + (somes os).length = os.length + 1
    omega
  | some b :: os => by
    have := away_len os
    show (os.filter Option.isNone).length + ((somes os).length + 1) = os.length + 1
    omega
theorem sum_perm {l l' : List Int} (h : l.Perm l') : l.sum = l'.sum := by
  induction h with
  | nil => rfl
  | cons x _ ih => rw [List.sum_cons, List.sum_cons, ih]
  | swap x y l =>
    simp only [List.sum_cons]
    omega
  | trans _ _ h1 h2 => exact h1.trans h2
/-- the wishes of those that lie -/
def lieL (ws : List Int) (os : List (Option Int)) : List Int := ((ws.zip os).filter fun p => p.2.isSome).map (·.1)
theorem lieL_snoc {ws : List Int} {os : List (Option Int)} {w : Int} {o : Option Int} (h : ws.length = os.length) : lieL (ws ++ [w]) (os ++ [o]) = lieL ws os ++ (if o.isSome = true then [w] else []) := by
  unfold lieL
  rw [List.zip_append h, List.filter_append, List.map_append]
  cases o <;> rfl
theorem gone_sum : ∀ (ws : List Int) (os : List (Option Int)), ws.length = os.length → (goneL ws os).sum = (somes os).sum - (lieL ws os).sum
  | [], [], _ => rfl
  | w :: ws, none :: os, h => gone_sum ws os (Nat.succ.inj h)
  | w :: ws, some b :: os, h => by
    have ih := gone_sum ws os (Nat.succ.inj h)
    show ((b - w) :: goneL ws os).sum = (b :: somes os).sum - (w :: lieL ws os).sum
    rw [List.sum_cons, List.sum_cons, List.sum_cons, ih]
    omega
theorem lie_all : ∀ (ws : List Int) (os : List (Option Int)), ws.length = os.length → none ∉ os → lieL ws os = ws
  | [], [], _, _ => rfl
  | w :: ws, none :: os, _, h => absurd List.mem_cons_self h
  | w :: ws, some b :: os, h, hn => by
    have ih := lie_all ws os (Nat.succ.inj h) fun z => hn (List.mem_cons_of_mem _ z)
    show w :: lieL ws os = w :: ws
    rw [ih]
theorem lie_run {n : Nat} : ∀ ws : List Int, prun n (lieL ws (placedL n ws)) = ((prun n ws).1, (placedL n ws).filter Option.isSome) := snoc_ind rfl fun ws w ih => by
  rw [placedL_snoc, lieL_snoc (placedL_len).symm, List.filter_append, occ_snoc]
  cases e : ffree n (prun n ws).1 w with
  | none =>
    simp only [Option.isSome_none, Bool.false_eq_true, if_false, List.append_nil]
    rw [ih]
    simp [List.filter]
  | some b =>
    simp only [Option.isSome_some, if_true]
    rw [prun_snoc, ih]
    unfold pstep
    simp only [e]
    simp [List.filter]
theorem lie_placed {n : Nat} {ws : List Int} : placedL n (lieL ws (placedL n ws)) = (placedL n ws).filter Option.isSome := by
  have := lie_run (n := n) ws
  unfold placedL at this ⊢
  rw [this]
theorem somes_filter (os : List (Option Int)) : somes (os.filter Option.isSome) = somes os := by
  induction os with
  | nil => rfl
  | cons o os ih => cases o with
    | none => exact ih
    | some b => exact congrArg (b :: ·) ih
theorem none_filter_some {os : List (Option Int)} : none ∉ os.filter Option.isSome := fun z => by
  have := (List.mem_filter.mp z).2
  cases this
theorem mem_lie {ws : List Int} {os : List (Option Int)} {x : Int} (h : x ∈ lieL ws os) : x ∈ ws := by
  unfold lieL at h
  obtain ⟨p, hp, rfl⟩ := List.mem_map.mp h
  exact (List.of_mem_zip (List.mem_filter.mp hp).1).1
theorem lie_len (ws : List Int) (os : List (Option Int)) : (lieL ws os).length ≤ ws.length := by
  unfold lieL
  rw [List.length_map]
  refine Nat.le_trans (List.length_filter_le _ _) ?_
  rw [List.length_zip]
  omega
/-- a ship more takes one berth more, or none -/
theorem taken_mem {n : Nat} {ws : List Int} {x : Int} : x ∈ takenL n ws ↔ x ∈ somes (placedL n ws) := (sortI_perm _).mem_iff
theorem somes_last {n : Nat} {ws : List Int} (hne : ws ≠ []) : ∃ o : Option Int, somes (placedL n ws) = somes (placedL n ws.dropLast) ++ o.toList := by
  refine ⟨ffree n (prun n ws.dropLast).1 (ws.getLast hne), ?_⟩
  rw [← somes_snoc, ← placedL_snoc, List.dropLast_concat_getLast hne]

/-! ### the round quay: the mathematics -/
def rfree (n : Nat) (occ : Int → Bool) (w : Int) : Option Int := match ffree n occ w with
  | some b => some b
  | none => ffree n occ 1
def rstep (n : Nat) (s : (Int → Bool) × List Int) (w : Int) : (Int → Bool) × List Int := (setO s.1 ((rfree n s.1 w).getD 0), s.2 ++ [(rfree n s.1 w).getD 0])
def rrun (n : Nat) (ws : List Int) : (Int → Bool) × List Int := ws.foldl (rstep n) (fun _ => false, [])
def placedR (n : Nat) (ws : List Int) : List Int := (rrun n ws).2
theorem rrun_more {n : Nat} {ws : List Int} {i : Nat} {w : Int} (h : ws[i]? = some w) : rrun n (ws.take (i + 1)) = rstep n (rrun n (ws.take i)) w := by
  unfold rrun
  rw [take_more h, List.foldl_append]
  rfl
theorem rrun_snoc {n : Nat} {ws : List Int} {w : Int} : rrun n (ws ++ [w]) = rstep n (rrun n ws) w := by
  unfold rrun
  rw [List.foldl_append]
  rfl
theorem rrun_len {n : Nat} : ∀ ws : List Int, (rrun n ws).2.length = ws.length := snoc_ind rfl fun ws w ih => by
  rw [rrun_snoc]
  unfold rstep
  simp [ih]
theorem placedR_len {n : Nat} {ws : List Int} : (placedR n ws).length = ws.length := rrun_len ws
theorem rfree_some {n : Nat} {occ : Int → Bool} {w b : Int} (hw : 1 ≤ w) (h : rfree n occ w = some b) : 1 ≤ b ∧ b ≤ n ∧ occ b = false := by
  unfold rfree at h
  cases e : ffree n occ w with
  | some c =>
    rw [e] at h
    cases h
    obtain ⟨c1, c2, c3, _⟩ := ffree_some e
    exact ⟨by omega, c2, c3⟩
  | none =>
    rw [e] at h
    obtain ⟨c1, c2, c3, _⟩ := ffree_some h
    exact ⟨c1, c2, c3⟩
theorem rfree_ex {n : Nat} {occ : Int → Bool} {w : Int} {l : List Int} (ho : ∀ x, occ x = true ↔ x ∈ l) (hl : l.length < n) : ∃ b, rfree n occ w = some b := by
  unfold rfree
  cases e : ffree n occ w with
  | some c => exact ⟨c, rfl⟩
  | none =>
    cases e2 : ffree n occ 1 with
    | some c => exact ⟨c, by rw [← e2]⟩
    | none =>
      exfalso
      have := ffree_none e2
      have h2 : n ≤ l.length := le_len_of (lo := 1) fun x h1 h2 => (ho x).mp (this x h1 (by omega))
      omega
structure LayR (n : Nat) (ws : List Int) : Prop where
  occ : ∀ x, (rrun n ws).1 x = true ↔ x ∈ placedR n ws
  nd : (placedR n ws).Nodup
  bd : ∀ x ∈ placedR n ws, 1 ≤ x ∧ x ≤ n
theorem layR (n : Nat) : ∀ ws : List Int, (∀ w ∈ ws, 1 ≤ w ∧ w ≤ n) → ws.length ≤ n → LayR n ws := snoc_ind (fun _ _ => ⟨fun x => by simp [rrun, placedR], List.nodup_nil, fun x hx => (by cases hx)⟩) fun ws w ih hb hl => by
  rw [List.length_append, List.length_singleton] at hl
  have hw := hb w (List.mem_append_right _ (List.mem_singleton.mpr rfl))
  obtain ⟨i1, i2, i3⟩ := ih (fun x hx => hb x (List.mem_append_left _ hx)) (by omega)
  obtain ⟨b, e⟩ := rfree_ex (n := n) (w := w) i1 (by rw [placedR_len]; omega)
  obtain ⟨b1, b2, b3⟩ := rfree_some hw.1 e
  have ep : placedR n (ws ++ [w]) = placedR n ws ++ [b] := by
    unfold placedR
    rw [rrun_snoc]
    unfold rstep
    rw [e]
    rfl
  have eo : (rrun n (ws ++ [w])).1 = setO (rrun n ws).1 b := by
    rw [rrun_snoc]
    unfold rstep
    rw [e]
    rfl
  have hn : b ∉ placedR n ws := fun z => by
    rw [(i1 b).mpr z] at b3
    cases b3
  refine ⟨fun y => ?_, ?_, fun y hy => ?_⟩
  · rw [eo, ep, List.mem_append, List.mem_singleton, ← i1 y]
    unfold setO
    by_cases z : y = b <;> simp [z]
  · rw [ep, List.nodup_append]
    exact ⟨i2, by simp, fun x hx y hy => by rw [List.mem_singleton.mp hy]; exact fun z => hn (z ▸ hx)⟩
  · rw [ep] at hy
    rcases List.mem_append.mp hy with k | k
    · exact i3 y k
    · rw [List.mem_singleton.mp k]
      exact ⟨b1, b2⟩
theorem layR_take {n : Nat} {ws : List Int} (hb : ∀ w ∈ ws, 1 ≤ w ∧ w ≤ n) (hl : ws.length ≤ n) (i : Nat) : LayR n (ws.take i) := layR n _ (fun w hw => hb w (List.mem_of_mem_take hw)) (by rw [List.length_take]; omega)
theorem step_ex {n : Nat} {ws : List Int} {i : Nat} {w : Int} (hb : ∀ w ∈ ws, 1 ≤ w ∧ w ≤ n) (hl : ws.length ≤ n) (h : ws[i]? = some w) : ∃ b, rfree n (rrun n (ws.take i)).1 w = some b ∧ 1 ≤ b ∧ b ≤ n ∧ rrun n (ws.take (i + 1)) = (setO (rrun n (ws.take i)).1 b, (rrun n (ws.take i)).2 ++ [b]) := by
  have hi := (List.getElem?_eq_some_iff.mp h).1
  obtain ⟨b, e⟩ := rfree_ex (n := n) (w := w) (layR_take hb hl i).occ (by rw [placedR_len, List.length_take]; omega)
  obtain ⟨b1, b2, b3⟩ := rfree_some (hb w (List.mem_of_getElem? h)).1 e
  refine ⟨b, e, b1, b2, ?_⟩
  rw [rrun_more h]
  unfold rstep
  rw [e]
  rfl
def allB (n : Nat) : List Int := (List.range n).map fun (i : Nat) => (1 : Int) + i
theorem mem_allB {n : Nat} {x : Int} : x ∈ allB n ↔ 1 ≤ x ∧ x ≤ n := by
  unfold allB
  simp only [List.mem_map, List.mem_range]
  constructor
  · rintro ⟨i, hi, rfl⟩
    omega
  · rintro ⟨h1, h2⟩
    exact ⟨(x - 1).toNat, by omega, by omega⟩
theorem allB_sorted {n : Nat} : (allB n).Pairwise (· < ·) := by
  unfold allB
  rw [List.pairwise_map]
  exact List.Pairwise.imp (fun h => by omega) List.pairwise_lt_range
def leftR (n : Nat) (ws : List Int) : List Int := (allB n).filter fun b => !decide (b ∈ placedR n ws)
theorem mem_left {n : Nat} {ws : List Int} {x : Int} : x ∈ leftR n ws ↔ (1 ≤ x ∧ x ≤ n) ∧ x ∉ placedR n ws := by
  unfold leftR
  rw [List.mem_filter, mem_allB]
  simp
theorem left_sorted {n : Nat} {ws : List Int} : (leftR n ws).Pairwise (· < ·) := List.Pairwise.filter _ allB_sorted
theorem left_nodup {n : Nat} {ws : List Int} : (leftR n ws).Nodup := List.Pairwise.imp (fun h => Int.ne_of_lt h) left_sorted
/-! turning -/
def turn (n : Nat) (k w : Int) : Int := (w - 1 + k) % n + 1
theorem turn_bd {n : Nat} (hn : 1 ≤ n) (k w : Int) : 1 ≤ turn n k w ∧ turn n k w ≤ n := by
  unfold turn
  have b1 := Int.emod_nonneg (w - 1 + k) (show (n : Int) ≠ 0 by omega)
  have b2 := Int.emod_lt_of_pos (w - 1 + k) (show (0 : Int) < n by omega)
  omega
theorem turn_inj {n : Nat} {k x y : Int} (hx : 1 ≤ x ∧ x ≤ n) (hy : 1 ≤ y ∧ y ≤ n) (h : turn n k x = turn n k y) : x = y := by
  unfold turn at h
  have h' : (x - 1 + k) % n = (y - 1 + k) % n := by omega
  have d : ((n : Int)) ∣ (x - y) := by
    have := Int.emod_emod_of_dvd
    have e := Int.sub_emod (x - 1 + k) (y - 1 + k) n
    rw [h', Int.sub_self, Int.zero_emod] at e
    have e2 : x - 1 + k - (y - 1 + k) = x - y := by omega
    rw [e2] at e
    exact Int.dvd_of_emod_eq_zero e
  obtain ⟨c, hc⟩ := d
  have : c = 0 := by
    by_cases z : c = 0
    · exact z
    · exfalso
      rcases Int.lt_or_gt_of_ne z with q | q
      · have : (n : Int) * c ≤ (n : Int) * (-1) := Int.mul_le_mul_of_nonneg_left (by omega) (by omega)
        omega
      · have : (n : Int) * 1 ≤ (n : Int) * c := Int.mul_le_mul_of_nonneg_left (by omega) (by omega)
        omega
  rw [this] at hc
  omega
/-- the j-th berth going round from w -/
def cyc (n : Nat) (w : Int) (j : Nat) : Int := turn n (j : Int) w
theorem cyc_lo {n : Nat} {w : Int} {j : Nat} (hw : 1 ≤ w) (h : w + j ≤ n) : cyc n w j = w + j := by
  unfold cyc turn
  rw [Int.emod_eq_of_lt (by omega) (by omega)]
  omega
theorem cyc_hi {n : Nat} {w : Int} {j : Nat} (hw : 1 ≤ w ∧ w ≤ n) (hj : j < n) (h : (n : Int) < w + j) : cyc n w j = w + j - n := by
  unfold cyc turn
  have e : w - 1 + (j : Int) = (w - 1 + j - n) + n := by omega
  rw [e, Int.add_emod_right, Int.emod_eq_of_lt (by omega) (by omega)]
  omega
theorem cyc_turn {n : Nat} {w k : Int} {j : Nat} : cyc n (turn n k w) j = turn n k (cyc n w j) := by
  unfold cyc turn
  have e1 : (w - 1 + k) % (n : Int) + 1 - 1 + (j : Int) = (w - 1 + k) % n + j := by omega
  have e2 : (w - 1 + (j : Int)) % (n : Int) + 1 - 1 + k = (w - 1 + j) % n + k := by omega
  rw [e1, e2, Int.emod_add_emod, Int.emod_add_emod]
  congr 2
  omega
theorem rfree_is {n : Nat} {occ : Int → Bool} {w : Int} {j : Nat} (hw : 1 ≤ w ∧ w ≤ n) (hj : j < n) (h1 : occ (cyc n w j) = false) (h2 : ∀ i, i < j → occ (cyc n w i) = true) : rfree n occ w = some (cyc n w j) := by
  unfold rfree
  by_cases z : w + j ≤ n
  · rw [cyc_lo hw.1 z] at h1 ⊢
    rw [ffree_is (by omega) z h1 fun x x1 x2 => ?_]
    have := h2 (x - w).toNat (by omega)
    rw [cyc_lo hw.1 (by omega)] at this
    rw [show w + (((x - w).toNat : Nat) : Int) = x by omega] at this
    exact this
  · rw [cyc_hi hw hj (by omega)] at h1 ⊢
    rw [ffree_non fun x x1 x2 => ?_]
    · show ffree n occ 1 = _
      rw [ffree_is (by omega) (by omega) h1 fun x x1 x2 => ?_]
      have := h2 (x + n - w).toNat (by omega)
      rw [cyc_hi hw (by omega) (by omega)] at this
      rw [show w + (((x + n - w).toNat : Nat) : Int) - n = x by omega] at this
      exact this
    · have := h2 (x - w).toNat (by omega)
      rw [cyc_lo hw.1 (by omega)] at this
      rw [show w + (((x - w).toNat : Nat) : Int) = x by omega] at this
      exact this
theorem rfree_cyc {n : Nat} {occ : Int → Bool} {w b : Int} (hw : 1 ≤ w ∧ w ≤ n) (h : rfree n occ w = some b) : ∃ j, j < n ∧ b = cyc n w j ∧ occ b = false ∧ ∀ i, i < j → occ (cyc n w i) = true := by
  unfold rfree at h
  cases e : ffree n occ w with
  | some c =>
    rw [e] at h
    cases h
    obtain ⟨c1, c2, c3, c4⟩ := ffree_some e
    refine ⟨(b - w).toNat, by omega, ?_, c3, fun i hi => ?_⟩
    · rw [cyc_lo hw.1 (by omega)]
      omega
    · rw [cyc_lo hw.1 (by omega)]
      exact c4 _ (by omega) (by omega)
  | none =>
    rw [e] at h
    have f := ffree_none e
    obtain ⟨c1, c2, c3, c4⟩ := ffree_some h
    have hbw : b < w := by
      by_cases z : b < w
      · exact z
      · rw [f b (by omega) c2] at c3
        cases c3
    refine ⟨(b + n - w).toNat, by omega, ?_, c3, fun i hi => ?_⟩
    · rw [cyc_hi hw (by omega) (by omega)]
      omega
    · by_cases z : w + (i : Int) ≤ n
      · rw [cyc_lo hw.1 z]
        exact f _ (by omega) z
      · rw [cyc_hi hw (by omega) (by omega)]
        exact c4 _ (by omega) (by omega)
/-- turned wishes: turned berths -/
theorem turned_run {n : Nat} (hn : 1 ≤ n) (k : Int) : ∀ ws : List Int, (∀ w ∈ ws, 1 ≤ w ∧ w ≤ n) → ws.length ≤ n → placedR n (ws.map (turn n k)) = (placedR n ws).map (turn n k) ∧ ∀ x : Int, 1 ≤ x → x ≤ n → (rrun n (ws.map (turn n k))).1 (turn n k x) = (rrun n ws).1 x := snoc_ind (fun _ _ => ⟨rfl, fun x _ _ => rfl⟩) fun ws w ih hb hl => by
  rw [List.length_append, List.length_singleton] at hl
  have hw := hb w (List.mem_append_right _ (List.mem_singleton.mpr rfl))
  have hb' : ∀ w ∈ ws, 1 ≤ w ∧ w ≤ n := fun x hx => hb x (List.mem_append_left _ hx)
  obtain ⟨i1, i2⟩ := ih hb' (by omega)
  have L := layR n ws hb' (by omega)
  obtain ⟨b, e⟩ := rfree_ex (n := n) (w := w) L.occ (by rw [placedR_len]; omega)
  obtain ⟨b1, b2, b3⟩ := rfree_some hw.1 e
  obtain ⟨j, j1, j2, j3, j4⟩ := rfree_cyc hw e
  have cb : ∀ i, 1 ≤ cyc n w i ∧ cyc n w i ≤ n := fun i => turn_bd hn _ _
  have e' : rfree n (rrun n (ws.map (turn n k))).1 (turn n k w) = some (turn n k b) := by
    rw [j2, ← cyc_turn]
    refine rfree_is (turn_bd hn _ _) j1 ?_ fun i hi => ?_
    · rw [cyc_turn, i2 _ (cb j).1 (cb j).2, ← j2]
      exact j3
    · rw [cyc_turn, i2 _ (cb i).1 (cb i).2]
      exact j4 i hi
  rw [List.map_append, List.map_singleton]
  unfold placedR at i1 ⊢
  rw [rrun_snoc, rrun_snoc]
  unfold rstep
  rw [e, e', i1]
  refine ⟨by simp, fun x x1 x2 => ?_⟩
  show setO (rrun n (ws.map (turn n k))).1 (turn n k b) (turn n k x) = setO (rrun n ws).1 b x
  unfold setO
  rw [i2 x x1 x2]
  congr 1
  by_cases z : x = b
  · rw [z, decide_eq_true rfl, decide_eq_true rfl]
  · rw [decide_eq_false z, decide_eq_false fun q => z (turn_inj ⟨x1, x2⟩ ⟨b1, b2⟩ q)]
theorem turned_placed {n : Nat} {k : Int} {ws : List Int} (hn : 1 ≤ n) (hb : ∀ w ∈ ws, 1 ≤ w ∧ w ≤ n) (hl : ws.length ≤ n) : placedR n (ws.map (turn n k)) = (placedR n ws).map (turn n k) := (turned_run hn k ws hb hl).1
theorem turn_back {n : Nat} {k x : Int} (hx : 1 ≤ x ∧ x ≤ n) : turn n k (turn n (-k) x) = x := by
  unfold turn
  have e : (x - 1 + -k) % (n : Int) + 1 - 1 + k = (x - 1 + -k) % n + k := by omega
  rw [e, Int.emod_add_emod]
  have e2 : x - 1 + -k + k = x - 1 := by omega
  rw [e2, Int.emod_eq_of_lt (by omega) (by omega)]
  omega
theorem turned_left {n : Nat} {k : Int} {ws : List Int} (hn : 1 ≤ n) (hb : ∀ w ∈ ws, 1 ≤ w ∧ w ≤ n) (hl : ws.length ≤ n) : leftR n (ws.map (turn n k)) = sortI ((leftR n ws).map (turn n k)) := by
  have L := layR n ws hb hl
  refine sortI_uniq ?_ (List.Pairwise.imp (fun h => Int.le_of_lt h) left_sorted)
  have nd2 : ((leftR n ws).map (turn n k)).Nodup := by
    rw [List.nodup_iff_pairwise_ne, List.pairwise_map]
    refine List.Pairwise.imp_of_mem (fun {x y} hx hy h => ?_) left_nodup
    exact fun z => h (turn_inj (mem_left.mp hx).1 (mem_left.mp hy).1 z)
  refine (List.perm_ext_iff_of_nodup left_nodup nd2).mpr fun x => ?_
  rw [mem_left, turned_placed hn hb hl]
  constructor
  · rintro ⟨hx, hnx⟩
    refine List.mem_map.mpr ⟨turn n (-k) x, mem_left.mpr ⟨turn_bd hn _ _, fun z => hnx ?_⟩, turn_back hx⟩
    have := List.mem_map_of_mem (f := turn n k) z
    rw [turn_back hx] at this
    exact this
  · intro h
    obtain ⟨y, hy, rfl⟩ := List.mem_map.mp h
    obtain ⟨y1, y2⟩ := mem_left.mp hy
    refine ⟨turn_bd hn _ _, fun z => ?_⟩
    obtain ⟨u, hu, eu⟩ := List.mem_map.mp z
    rw [turn_inj (L.bd u hu) y1 eu] at hu
    exact y2 hu
/-- as many are left as berths are more than ships -/
theorem left_len {n : Nat} {ws : List Int} (hb : ∀ w ∈ ws, 1 ≤ w ∧ w ≤ n) (hl : ws.length ≤ n) : (leftR n ws).length + ws.length = n := by
  have L := layR n ws hb hl
  have h1 : (leftR n ws ++ placedR n ws).Perm (upTo 1 n) := by
    refine (List.perm_ext_iff_of_nodup ?_ upTo_nodup).mpr fun x => ?_
    · rw [List.nodup_append]
      exact ⟨left_nodup, L.nd, fun x hx y hy e => (mem_left.mp hx).2 (e ▸ hy)⟩
    · rw [List.mem_append, mem_left, mem_upTo]
      constructor
      · rintro (⟨h, _⟩ | h)
        · omega
        · have := L.bd x h
          omega
      · intro h
        by_cases z : x ∈ placedR n ws
        · exact .inr z
        · exact .inl ⟨by omega, z⟩
  have := h1.length_eq
  rw [List.length_append, upTo_len, placedR_len] at this
  exact this

/-! ### the round quay -/
theorem tyb_isInt {K : PySem.W.Frag} {H : Hp} {x : V} {T : String} (h : TyB K H x T) : True := trivial
def sp_first_free_round (K : PySem.W.Frag) (a : Ad) : Sp := fun vs H Q _ => ∃ (h : Addr) (n : Nat) (occ : Int → Bool) (w : Int), vs = [.ref h, .int w] ∧ SqL K H h (heldL n occ) ∧ n ≤ 900 ∧ 0 ≤ w ∧ w ≤ 1000 ∧ Q (vO (rfree n occ w)) H
abbrev N_first_free_round : List Str := ["held", "wish", "berth"]
def t_first_free_round (K : PySem.W.Frag) (a : Ad) : TS :=
  (tSeq (tAsg (tCall (sp_first_free K a) [] E0 (tCons (tVar 0) (tCons (tVar 1) tNil))) (gName 2))
    (tSeq (tIfS (tB (tIsN (tVar 2))) (tRet (tCall (sp_first_free K a) [] E0 (tCons (tVar 0) (tCons (tC (.int 1)) tNil)))) tNext)
    (tRet (tVar 2))))
theorem len_first_free_round {K : PySem.W.Frag} {a : Ad} {vs : List V} {H : Hp} {Q : VK} {E : XK} (h : sp_first_free_round K a vs H Q E) : vs.length = 2 := by
  obtain ⟨h, n, occ, w, rfl, _⟩ := h
  rfl
theorem pu_first_free_round {K : PySem.W.Frag} {a : Ad} {vs : List V} {H : Hp} {Q : VK} {E : XK} (h : sp_first_free_round K a vs H Q E) : t_first_free_round K a { nx := fun _ H' => Q .non H', rt := Q } (start N_first_free_round vs) H := by
  obtain ⟨h, n, occ, w, rfl, hs, hn, h0, hw, q⟩ := h
  refine ⟨.ref h, rfl, .int w, rfl, h, n, occ, w, rfl, hs, hn, h0, hw, ?_⟩
  unfold rfree at q
  cases e0 : ffree n occ w with
  | none =>
    rw [e0] at q
    exact ⟨.non, rfl, true, rfl, iteT ⟨.ref h, rfl, h, n, occ, 1, rfl, hs, hn, by decide, by decide, q⟩⟩
  | some c =>
    rw [e0] at q
    exact ⟨.int c, rfl, false, rfl, iteF ⟨.int c, rfl, q⟩⟩
def sp_placed_round (K : PySem.W.Frag) (a : Ad) : Sp := fun vs H Q E => ∃ b w, vs = [b, w] ∧ ChkW K a b w H E fun n ws _ => (n < ws.length ∧ E (.ref a.e_TooMany) none H) ∨ (ws.length ≤ n ∧ ∀ (l : Addr) (H' : Hp), H l = none → Same H H' → H' l = some (.lst ((placedR n ws).map V.int)) → Q (.ref l) H')
abbrev N_placed_round : List Str := ["berths", "wishes", "held", "found", "wish", "berth"]
def t_placed_round (K : PySem.W.Frag) (a : Ad) (E : XK) : TS :=
  (tSeq (tDrop (tCall (sp_check_wishes K a) [] E (tCons (tVar 0) (tCons (tVar 1) tNil))))
    (tSeq (tIfS (tTest (tOp rGtI (tCB (rLenSq K) (tCons (tVar 1) tNil)) (tVar 0))) (tRaise a.e_TooMany E) tNext)
    (tSeq (tAsg (tOp rRep (tLst (tCons (tC (.bl false)) tNil)) (tOp rAddI (tVar 0) (tC (.int 1)))) (gName 2))
    (tSeq (tAsg (tLst tNil) (gName 3))
    (tSeq (tFor (iSeq K (tVar 1)) (gName 4)
    (tSeq (tAsg (tCall (sp_first_free_round K a) [] E0 (tCons (tVar 2) (tCons (tVar 4) tNil))) (gName 5))
    (tSeq (tAsg (tC (.bl true)) (gSub (tVar 2) (tVar 5) rSetL))
    (tDrop (tBM K "list" rAppend (tVar 3) (tCons (tVar 5) tNil))))))
    (tRet (tVar 3)))))))
theorem len_placed_round {K : PySem.W.Frag} {a : Ad} {vs : List V} {H : Hp} {Q : VK} {E : XK} (h : sp_placed_round K a vs H Q E) : vs.length = 2 := by
  obtain ⟨b, w, rfl, _⟩ := h
  rfl
theorem pu_placed_round {K : PySem.W.Frag} {a : Ad} {vs : List V} {H : Hp} {Q : VK} {E : XK} (h : sp_placed_round K a vs H Q E) : t_placed_round K a E { nx := fun _ H' => Q .non H', rt := Q } (start N_placed_round vs) H := by
  obtain ⟨b, w, rfl, h⟩ := h
  refine ⟨b, rfl, w, rfl, b, w, rfl, ChkW.imp h fun n ws p eb ew h1 h2 hs hl hb r => ?_⟩
  subst eb
  subst ew
  refine ⟨.ref p, rfl, p, _, rfl, hs, .int n, rfl, _, n, rfl, rfl, _, rfl, ite2 (fun c => ?_) (fun c => ?_)⟩
  · have c : (n : Int) < ((ws.map V.int).length : Nat) := of_decide_eq_true c
    rw [List.length_map] at c
    rcases r with ⟨_, q⟩ | ⟨h, _⟩
    · exact q
    · omega
  have c : ¬ (n : Int) < ((ws.map V.int).length : Nat) := fun z => c (decide_eq_true z)
  rw [List.length_map] at c
  have hln : ws.length ≤ n := by omega
  have q : ∀ (l : Addr) (H' : Hp), H l = none → Same H H' → H' l = some (.lst ((placedR n ws).map V.int)) → Q (.ref l) H' := by
    rcases r with ⟨h, _⟩ | ⟨_, q⟩
    · omega
    · exact q
  refine ⟨by decide, fun l0 nl0 => ⟨.int n, rfl, n, 1, rfl, rfl, l0, _, _, rfl, rfl, upd_same, by omega, by omega, ?_, fun l1 nl1 => ?_⟩⟩
  · refine l1000 ?_
    show 1 * _ ≤ _
    omega
  have e1 : ((n : Int) + 1).toNat = n + 1 := by omega
  rw [e1, heldL_new]
  have s0 : Same H (upd H l0 (.lst [.bl false])) := same_new nl0
  have n1 : H l1 = none := s0.free nl1
  have s1 := s0.store n1 (o := .lst (heldL n fun _ => false))
  refine ⟨Nat.zero_le _, fun l2 nl2 => ?_⟩
  have n2 : H l2 = none := s1.free nl2
  have hne : l1 ≠ l2 := ne_of_none upd_same nl2
  refine for_seq (K := K) (H0 := H) (fun Q q => ⟨.ref p, rfl, q⟩) hs (fun i σ H' => (∃ y z, σ = [some (.int n), some (.ref p), some (.ref l1), some (.ref l2), y, z]) ∧ Same H H' ∧ H' l1 = some (.lst (heldL n (rrun n (ws.take i)).1)) ∧ H' l2 = some (.lst ((rrun n (ws.take i)).2.map V.int))) ⟨⟨none, none, rfl⟩, s1.store n2, by rw [upd_ne hne]; exact upd_same, upd_same⟩ (fun i σ H' h => h.2.1) ?_ ?_
  · rintro i x σ H' hx ⟨⟨y, z, rfl⟩, s, eh, ef⟩
    obtain ⟨w, hw, rfl⟩ := item_of hx
    have bw := hb w (List.mem_of_getElem? hw)
    obtain ⟨b, e, b1, b2, step⟩ := step_ex hb hln hw
    have fl : (rrun n (ws.take i)).2.length < sizeLine := by
      rw [rrun_len, List.length_take]
      exact small1000 (by omega)
    -- behind the berth's finding
    have rest : ∀ y, (tSeq (tAsg (tC (.bl true)) (gSub (tVar 2) (tVar 5) rSetL)) (tDrop (tBM K "list" rAppend (tVar 3) (tCons (tVar 5) tNil)))) { nx := fun σ H' => (∃ y z, σ = [some (.int n), some (.ref p), some (.ref l1), some (.ref l2), y, z]) ∧ Same H H' ∧ H' l1 = some (.lst (heldL n (rrun n (ws.take (i + 1))).1)) ∧ H' l2 = some (.lst ((rrun n (ws.take (i + 1))).2.map V.int)), rt := Q, bk := fun σ H => tRet (tVar 3) { nx := fun _ H' => Q .non H', rt := Q } σ H, ct := fun σ H' => (∃ y z, σ = [some (.int n), some (.ref p), some (.ref l1), some (.ref l2), y, z]) ∧ Same H H' ∧ H' l1 = some (.lst (heldL n (rrun n (ws.take (i + 1))).1)) ∧ H' l2 = some (.lst ((rrun n (ws.take (i + 1))).2.map V.int)) } [some (.int n), some (.ref p), some (.ref l1), some (.ref l2), y, some (.int b)] H' := by
      intro y
      refine ⟨.ref l1, rfl, .int b, rfl, l1, _, b, b.toNat, rfl, rfl, eh, ?_, ?_⟩
      · unfold ixN
        rw [if_pos (by omega), heldL_len, if_pos (by omega)]
      rw [heldL_set (by omega) b2]
      have ef' : (upd H' l1 (.lst (heldL n (setO (rrun n (ws.take i)).1 b)))) l2 = some (.lst ((rrun n (ws.take i)).2.map V.int)) := by rw [upd_ne hne.symm]; exact ef
      refine ⟨.ref l2, rfl, .inl ⟨rfl, _, .inl (.inl ef')⟩, .int b, rfl, l2, _, _, rfl, rfl, ef', by rw [List.length_map]; exact fl, ?_⟩
      refine ⟨⟨_, _, rfl⟩, (s.store n1).store n2, ?_, ?_⟩
      · rw [upd_ne hne, upd_same, step]
      · rw [upd_same, step, List.map_append]
        rfl
    refine ⟨.ref l1, rfl, .int w, rfl, l1, n, _, w, rfl, .inl (.inl eh), by omega, by omega, by omega, ?_⟩
    rw [e]
    exact rest _
  · rintro σ H' ⟨⟨y, z, rfl⟩, s, eh, ef⟩
    rw [List.length_map, List.take_length] at ef
    exact ⟨.ref l2, rfl, q l2 H' n2 s ef⟩
theorem inV_ints {x : Int} {l : List Int} : inV (.int x) (l.map V.int) = decide (x ∈ l) := by
  unfold inV
  rw [List.any_map, Bool.eq_iff_iff, List.any_eq_true, decide_eq_true_eq]
  constructor
  · rintro ⟨y, hy, e⟩
    have e' : eqV (.int y) (.int x) = true := e
    have : y = x := by simpa [eqV] using e'
    exact this ▸ hy
  · intro h
    exact ⟨x, h, by show eqV (.int x) (.int x) = true; simp [eqV]⟩
theorem flat_ints {l : List Int} : (l.map V.int).all flatV = true := by
  rw [List.all_map, List.all_eq_true]
  intro x _
  rfl
def sp_left_over (K : PySem.W.Frag) (a : Ad) : Sp := fun vs H Q E => ∃ b w, vs = [b, w] ∧ ChkW K a b w H E fun n ws _ => (n < ws.length ∧ E (.ref a.e_TooMany) none H) ∨ (ws.length ≤ n ∧ ∀ (l : Addr) (H' : Hp), H l = none → Same H H' → H' l = some (.lst ((leftR n ws).map V.int)) → Q (.ref l) H')
abbrev N_left_over : List Str := ["berths", "wishes", "found", "berth"]
def t_left_over (K : PySem.W.Frag) (a : Ad) (E : XK) : TS :=
  (tSeq (tAsg (tCall (sp_placed_round K a) [] E (tCons (tVar 0) (tCons (tVar 1) tNil))) (gName 2))
    (tRet (tLc (iRng2 (tCons (tC (.int 1)) (tCons (tOp rAddI (tVar 0) (tC (.int 1))) tNil))) (gName 3) (tTest (tOp (rIn K true) (tVar 3) (tVar 2))) (tVar 3) [3])))
theorem len_left_over {K : PySem.W.Frag} {a : Ad} {vs : List V} {H : Hp} {Q : VK} {E : XK} (h : sp_left_over K a vs H Q E) : vs.length = 2 := by
  obtain ⟨b, w, rfl, _⟩ := h
  rfl
theorem allB_at {n i : Nat} {x : Int} (h : (allB n)[i]? = some x) : x = 1 + (i : Int) := by
  unfold allB at h
  obtain ⟨h1, h2⟩ := List.getElem?_eq_some_iff.mp h
  rw [List.getElem_map, List.getElem_range] at h2
  exact h2.symm
theorem pu_left_over {K : PySem.W.Frag} {a : Ad} {vs : List V} {H : Hp} {Q : VK} {E : XK} (h : sp_left_over K a vs H Q E) : t_left_over K a E { nx := fun _ H' => Q .non H', rt := Q } (start N_left_over vs) H := by
  obtain ⟨b, w, rfl, h⟩ := h
  refine ⟨b, rfl, w, rfl, b, w, rfl, ChkW.imp h fun n ws p eb ew h1 h2 hs hl hb r => ?_⟩
  rcases r with r | ⟨hln, q⟩
  · exact .inl r
  refine .inr ⟨hln, fun l H1 nl s el => ?_⟩
  have en : ((n : Int) + 1 - 1).toNat = n := by omega
  refine ⟨b, rfl, n, 1, eb, rfl, 1, (n : Int) + 1, rfl, ⟨by omega, by omega, by omega, by omega⟩, ?_⟩
  rw [en]
  refine lc_pure (walk_range (lo := 1) (n := n)) (small1000 (by omega)) (allB n) (by simp [allB]) (fun x => !decide (x ∈ placedR n ws)) V.int (fun _ _ => trivial) ?_ ?_
  · intro j x v H5 H6 R hx2 s5 hy k
    obtain ⟨rfl, hv⟩ := hy
    have ev := allB_at hx2
    replace hv : v = .int (1 + (j : Int)) := hv
    rw [← ev] at hv
    subst hv
    refine ⟨rfl, .int x, rfl, .ref l, rfl, l, _, rfl, .inl (sqL_of (s5 _ _ el)), rfl, flat_ints, _, rfl, ?_⟩
    rw [if_pos rfl, inV_ints]
    have kk := k (.int x) _ (Same.refl _) fun _ => rfl
    cases e : (!decide (x ∈ placedR n ws)) with
    | true =>
      rw [e] at kk
      exact iteT ⟨.int x, rfl, kk⟩
    | false =>
      have kk := k .non _ (Same.refl _) fun z => by rw [e] at z; cases z
      rw [e] at kk
      exact iteF kk
  · intro D H2 nD s2 eD
    exact q D H2 (s.free nD) (s.trans s2) eD
def sp_turned (K : PySem.W.Frag) (a : Ad) : Sp := fun vs H Q E => ∃ b w y, vs = [b, w, y] ∧ ChkW K a b w H E fun n ws _ => ∃ T, TyB K H y T ∧ ((isInt y = false ∧ E (.ref a.e_NoCount) none H) ∨ ∃ k : Int, y = .int k ∧ ∀ (l : Addr) (H' : Hp), H l = none → Same H H' → H' l = some (.lst ((ws.map (turn n k)).map V.int)) → Q (.ref l) H')
abbrev N_turned : List Str := ["berths", "wishes", "by", "wish"]
def t_turned (K : PySem.W.Frag) (a : Ad) (E : XK) : TS :=
  (tSeq (tDrop (tCall (sp_check_wishes K a) [] E (tCons (tVar 0) (tCons (tVar 1) tNil))))
    (tSeq (tIfS (tNot (tB (tCall (sp_is_number K a) [] E0 (tCons (tVar 2) tNil)))) (tRaise a.e_NoCount E) tNext)
    (tRet (tLc (iSeq K (tVar 1)) (gName 3) tYes (tOp rAddI (tOp rModI (tOp rAddI (tOp rSubI (tVar 3) (tC (.int 1))) (tVar 2)) (tVar 0)) (tC (.int 1))) [3]))))
theorem len_turned {K : PySem.W.Frag} {a : Ad} {vs : List V} {H : Hp} {Q : VK} {E : XK} (h : sp_turned K a vs H Q E) : vs.length = 3 := by
  obtain ⟨b, w, y, rfl, _⟩ := h
  rfl
theorem pu_turned {K : PySem.W.Frag} {a : Ad} {vs : List V} {H : Hp} {Q : VK} {E : XK} (h : sp_turned K a vs H Q E) : t_turned K a E { nx := fun _ H' => Q .non H', rt := Q } (start N_turned vs) H := by
  obtain ⟨b, w, y, rfl, h⟩ := h
  refine ⟨b, rfl, w, rfl, b, w, rfl, ChkW.imp h fun n ws p eb ew h1 h2 hs hl hb r => ?_⟩
  subst eb
  subst ew
  obtain ⟨T, ty, r⟩ := r
  refine ⟨y, rfl, y, T, rfl, ty, isInt y, rfl, ?_⟩
  rcases r with ⟨e, q⟩ | ⟨k, rfl, q⟩
  · rw [e]
    exact iteT q
  refine iteF ?_
  have turnOk : ∀ {J : It} {Y : Nat → Hp → V → Hp → Prop} {G : Hp → Prop}, Walk J (ws.map V.int).length G Y → (∀ i H v H', Y i H v H' → H' = H ∧ (ws.map V.int)[i]? = some v) → (∀ H', Same H H' → G H') →
      ∀ D, H D = none → ∃ W : Nat → Nat → Hp → Prop, (∃ m, W 0 m (upd H D (.lst []))) ∧ ∀ i m H', W i m H' →
      (J.stop i H' ∧ Q (.ref D) H') ∨ (J.go i H' ∧ ∃ Nx : Hp → Prop, (∀ H', Nx H' → ∃ m', m' < m ∧ W (i + 1) m' H') ∧ ∀ x H'', J.yld i H' x H'' → gName 3 x (wipe [some (.int (n : Int)), some (.ref p), some (.int k), none] [3]) H'' fun σ2 H2 => wipe σ2 [3] = wipe [some (.int (n : Int)), some (.ref p), some (.int k), none] [3] ∧ tYes σ2 H2 fun b H3 =>
        if b = true then (tOp rAddI (tOp rModI (tOp rAddI (tOp rSubI (tVar 3) (tC (.int 1))) (tVar 2)) (tVar 0)) (tC (.int 1))) σ2 H3 fun y H4 => ∃ acc, H4 D = some (.lst acc) ∧ acc.length < sizeLine ∧ Nx (upd H4 D (.lst (acc ++ [y]))) else Nx H3) := by
    intro J Y G W hY hG
    refine lc_pure (Qd := fun D H' => Q (.ref D) H') W (by rw [List.length_map]; exact small1000 (by omega)) ws (by rw [List.length_map]) (fun _ => true) (fun x => V.int (turn n k x)) hG ?_ ?_
    · intro j x v H5 H6 R hx2 s5 hy kk
      obtain ⟨rfl, hv⟩ := hY _ _ _ _ hy
      rw [List.getElem?_map, hx2] at hv
      cases hv
      refine ⟨rfl, ?_⟩
      refine iteT (B := R false .non H6) ⟨.int x, rfl, x, 1, rfl, rfl, .int k, rfl, _, _, rfl, rfl, .int n, rfl, _, n, rfl, rfl, (by show (0 : Int) < n; omega), _, 1, rfl, rfl, kk _ _ (Same.refl _) fun _ => rfl⟩
    · intro D H2 nD s2 eD
      rw [List.filter_eq_self.mpr (fun _ _ => rfl)] at eD
      exact q D H2 nD s2 (by rw [eD, List.map_map]; rfl)
  rcases hs with hs | hs
  · exact .inl ⟨.ref p, rfl, p, rfl, ⟨_, hs⟩, turnOk (walk_list (K := K) (a := p)) (fun i H v H' y => y) (fun H' s' => s'.seq hs)⟩
  · exact .inr ⟨.ref p, rfl, p, rfl, ⟨_, hs⟩, turnOk (walk_tup (K := K) (a := p)) (fun i H v H' y => y) (fun H' s' => s'.seqT hs)⟩
def sp_turning (K : PySem.W.Frag) (a : Ad) : Sp := fun vs H Q E => ∃ b w, vs = [b, w] ∧ ChkW K a b w H E fun n ws _ => (ws.length + 1 ≠ n ∧ E (.ref a.e_NoWishes) none H) ∨ (ws.length + 1 = n ∧ ∀ (H' : Hp), Same H H' → Q (.int ((n : Int) - (leftR n ws).headD 0)) H')
abbrev N_turning : List Str := ["berths", "wishes"]
def t_turning (K : PySem.W.Frag) (a : Ad) (E : XK) : TS :=
  (tSeq (tDrop (tCall (sp_check_wishes K a) [] E (tCons (tVar 0) (tCons (tVar 1) tNil))))
    (tSeq (tIfS (tTest (tOp rNe (tCB (rLenSq K) (tCons (tVar 1) tNil)) (tOp rSubI (tVar 0) (tC (.int 1))))) (tRaise a.e_NoWishes E) tNext)
    (tRet (tOp rSubI (tVar 0) (tOp (rIxL K) (tCall (sp_left_over K a) [] E (tCons (tVar 0) (tCons (tVar 1) tNil))) (tC (.int 0)))))))
theorem len_turning {K : PySem.W.Frag} {a : Ad} {vs : List V} {H : Hp} {Q : VK} {E : XK} (h : sp_turning K a vs H Q E) : vs.length = 2 := by
  obtain ⟨b, w, rfl, _⟩ := h
  rfl
theorem pu_turning {K : PySem.W.Frag} {a : Ad} {vs : List V} {H : Hp} {Q : VK} {E : XK} (h : sp_turning K a vs H Q E) : t_turning K a E { nx := fun _ H' => Q .non H', rt := Q } (start N_turning vs) H := by
  obtain ⟨b, w, rfl, h⟩ := h
  refine ⟨b, rfl, w, rfl, b, w, rfl, ChkW.imp h fun n ws p eb ew h1 h2 hs hl hb r => ?_⟩
  subst eb
  subst ew
  refine ⟨.ref p, rfl, p, _, rfl, hs, .int n, rfl, n, 1, rfl, rfl, rfl, _, rfl, ite2 (fun c => ?_) (fun c => ?_)⟩
  · have c : (!decide (V.int (((ws.map V.int).length : Nat) : Int) = V.int ((n : Int) - 1))) = true := c
    rw [List.length_map] at c
    rcases r with ⟨_, q⟩ | ⟨h, _⟩
    · exact q
    · have e : ((ws.length : Nat) : Int) = (n : Int) - 1 := by omega
      rw [e, decide_eq_true rfl] at c
      cases c
  have c : ¬ (!decide (V.int (((ws.map V.int).length : Nat) : Int) = V.int ((n : Int) - 1))) = true := c
  rw [List.length_map] at c
  have hln : ws.length + 1 = n := by
    by_cases z : ws.length + 1 = n
    · exact z
    · exfalso
      apply c
      rw [decide_eq_false fun q => z (by have := V.int.inj q; omega)]
      rfl
  have q : ∀ (H' : Hp), Same H H' → Q (.int ((n : Int) - (leftR n ws).headD 0)) H' := by
    rcases r with ⟨h, _⟩ | ⟨_, q⟩
    · omega
    · exact q
  refine ⟨.int n, rfl, .int n, rfl, .ref p, rfl, _, _, rfl, ChkW.ok h1 h2 hs hl hb (.inr ⟨by omega, fun l H1 nl s el => ?_⟩)⟩
  have hlen := left_len hb (show ws.length ≤ n by omega)
  cases e : leftR n ws with
  | nil =>
    rw [e] at hlen
    simp at hlen
    omega
  | cons x r =>
    rw [e] at el q
    exact ⟨l, _, 0, .int x, rfl, rfl, sqL_of el, atI_nat (j := 0) rfl, n, x, rfl, rfl, q H1 s⟩

/-! ### crowded, is_good -/
def cntEq (l : List Int) (b : Int) : Nat := (l.filter fun w => decide (w = b)).length
theorem cntEq_snoc (l : List Int) (w b : Int) : cntEq (l ++ [w]) b = cntEq l b + if w = b then 1 else 0 := by
  unfold cntEq
  rw [List.filter_append, List.length_append]
  by_cases h : w = b <;> simp [List.filter, h]
theorem cntGe_step (l : List Int) (b : Int) : cntGe l b = cntGe l (b + 1) + cntEq l b := by
  refine snoc_ind (p := fun l => cntGe l b = cntGe l (b + 1) + cntEq l b) rfl (fun l w ih => ?_) l
  rw [cntGe_snoc, cntGe_snoc, cntEq_snoc, ih]
  by_cases h1 : w = b
  · subst h1
    rw [if_pos (Int.le_refl _), if_neg (by omega), if_pos rfl]
    omega
  · rw [if_neg h1]
    by_cases h2 : b ≤ w
    · rw [if_pos h2, if_pos (by omega)]
      omega
    · rw [if_neg h2, if_neg (by omega)]
      omega
theorem cntGe_top {n : Nat} {ws : List Int} (hb : ∀ w ∈ ws, 1 ≤ w ∧ w ≤ n) : cntGe ws ((n : Int) + 1) = 0 := by
  unfold cntGe
  rw [List.length_eq_zero_iff, List.filter_eq_nil_iff]
  intro w hw
  have := hb w hw
  simp only [decide_eq_true_eq]
  omega
def tallyL (n : Nat) (ws : List Int) : List V := (List.range (n + 1)).map fun (i : Nat) => V.int (cntEq ws (i : Int))
theorem tallyL_at {n : Nat} {ws : List Int} {i : Nat} (h : i ≤ n) : (tallyL n ws)[i]? = some (.int (cntEq ws (i : Int))) := by
  unfold tallyL
  rw [List.getElem?_map, List.getElem?_range (by omega)]
  rfl
theorem tallyL_len {n : Nat} {ws : List Int} : (tallyL n ws).length = n + 1 := by simp [tallyL]
theorem tallyL_set {n : Nat} {ws : List Int} {w : Int} (h0 : 0 ≤ w) (h : w ≤ n) : (tallyL n ws).set w.toNat (.int (cntEq ws w + 1)) = tallyL n (ws ++ [w]) := by
  apply List.ext_getElem?
  intro i
  by_cases hi : i ≤ n
  · rw [tallyL_at hi, cntEq_snoc]
    by_cases e : i = w.toNat
    · subst e
      rw [List.getElem?_set_self (by rw [tallyL_len]; omega)]
      have : ((w.toNat : Nat) : Int) = w := by omega
      rw [this, if_pos rfl]
      rfl
    · rw [List.getElem?_set_ne (Ne.symm e), tallyL_at hi]
      have : ¬ w = ((i : Nat) : Int) := by omega
      rw [if_neg this]
      rfl
  · rw [List.getElem?_eq_none (show ((tallyL n ws).set w.toNat (.int (cntEq ws w + 1))).length ≤ i by rw [List.length_set, tallyL_len]; omega), List.getElem?_eq_none (show (tallyL n (ws ++ [w])).length ≤ i by rw [tallyL_len]; omega)]
theorem tallyL_new {n : Nat} : (List.replicate (n + 1) [V.int 0]).flatten = tallyL n [] := by
  apply List.ext_getElem?
  intro i
  have e : (List.replicate (n + 1) [V.int 0]).flatten = List.replicate (n + 1) (V.int 0) := by
    generalize n + 1 = m
    induction m with
    | zero => rfl
    | succ m ih => rw [List.replicate_succ, List.replicate_succ, List.flatten_cons, ih]; rfl
  rw [e]
  by_cases hi : i ≤ n
  · rw [tallyL_at hi, List.getElem?_replicate_of_lt (by omega)]
    rfl
  · rw [List.getElem?_eq_none (show (List.replicate (n + 1) (V.int 0)).length ≤ i by rw [List.length_replicate]; omega), List.getElem?_eq_none (show (tallyL n []).length ≤ i by rw [tallyL_len]; omega)]
theorem downTo_at {n i : Nat} (h : i < n) : (downTo n)[i]? = some ((n : Int) - i) := by
  unfold downTo
  rw [List.getElem?_map, List.getElem?_range h]
  rfl
theorem find_drop {α : Type} {p : α → Bool} {l : List α} {i : Nat} {x : α} (h : l[i]? = some x) : (l.drop i).find? p = if p x = true then some x else (l.drop (i + 1)).find? p := by
  obtain ⟨hi, rfl⟩ := List.getElem?_eq_some_iff.mp h
  rw [List.drop_eq_getElem_cons hi, List.find?_cons]
  cases p l[i] <;> rfl
def sp_crowded (K : PySem.W.Frag) (a : Ad) : Sp := fun vs H Q E => ∃ b w, vs = [b, w] ∧ ChkW K a b w H E fun n ws _ => ∀ (H' : Hp), Same H H' → Q (vO (crowdedL n ws)) H'
abbrev N_crowded : List Str := ["berths", "wishes", "tally", "wish", "many", "berth"]
def t_crowded (K : PySem.W.Frag) (a : Ad) (E : XK) : TS :=
  (tSeq (tDrop (tCall (sp_check_wishes K a) [] E (tCons (tVar 0) (tCons (tVar 1) tNil))))
    (tSeq (tAsg (tOp rRep (tLst (tCons (tC (.int 0)) tNil)) (tOp rAddI (tVar 0) (tC (.int 1)))) (gName 2))
    (tSeq (tFor (iSeq K (tVar 1)) (gName 3)
    (tAugS (tVar 2) (tVar 3) (tC (.int 1)) (rIxL K) ipAdd rSetL))
    (tSeq (tAsg (tC (.int 0)) (gName 4))
    (tSeq (tFor (iRng3 (tCons (tVar 0) (tCons (tC (.int 0)) (tCons (tUn (rU fun i => .int (-i)) (tC (.int 1))) tNil)))) (gName 5)
    (tSeq (tAug 4 (tOp (rIxL K) (tVar 2) (tVar 5)) ipAdd)
    (tIfS (tTest (tOp rGtI (tVar 4) (tOp rAddI (tOp rSubI (tVar 0) (tVar 5)) (tC (.int 1))))) (tRet (tVar 5)) tNext)))
    (tRet (tC .non)))))))
theorem len_crowded {K : PySem.W.Frag} {a : Ad} {vs : List V} {H : Hp} {Q : VK} {E : XK} (h : sp_crowded K a vs H Q E) : vs.length = 2 := by
  obtain ⟨b, w, rfl, _⟩ := h
  rfl
theorem pu_crowded {K : PySem.W.Frag} {a : Ad} {vs : List V} {H : Hp} {Q : VK} {E : XK} (h : sp_crowded K a vs H Q E) : t_crowded K a E { nx := fun _ H' => Q .non H', rt := Q } (start N_crowded vs) H := by
  obtain ⟨b, w, rfl, h⟩ := h
  refine ⟨b, rfl, w, rfl, b, w, rfl, ChkW.imp h fun n ws p eb ew h1 h2 hs hl hb q => ?_⟩
  subst eb
  subst ew
  -- tally = [0] * (berths + 1)
  refine ⟨by decide, fun l0 nl0 => ⟨.int n, rfl, n, 1, rfl, rfl, l0, _, _, rfl, rfl, upd_same, by omega, by omega, ?_, fun l1 nl1 => ?_⟩⟩
  · refine l1000 ?_
    show 1 * _ ≤ _
    omega
  have e1 : ((n : Int) + 1).toNat = n + 1 := by omega
  rw [e1, tallyL_new]
  have s0 : Same H (upd H l0 (.lst [.int 0])) := same_new nl0
  have n1 : H l1 = none := s0.free nl1
  have s1 := s0.store n1 (o := .lst (tallyL n []))
  refine for_seq (K := K) (H0 := H) (fun Q q => ⟨.ref p, rfl, q⟩) hs (fun i σ H' => (∃ y, σ = [some (.int n), some (.ref p), some (.ref l1), y, none, none]) ∧ Same H H' ∧ H' l1 = some (.lst (tallyL n (ws.take i)))) ⟨⟨none, rfl⟩, s1, upd_same⟩ (fun i σ H' h => h.2.1) ?_ ?_
  · rintro i x σ H' hx ⟨⟨y, rfl⟩, s, eh⟩
    obtain ⟨w, hw, rfl⟩ := item_of hx
    have bw := hb w (List.mem_of_getElem? hw)
    have ex : (tallyL n (ws.take i))[w.toNat]? = some (.int (cntEq (ws.take i) w)) := by
      rw [tallyL_at (by omega)]
      have : ((w.toNat : Nat) : Int) = w := by omega
      rw [this]
    refine ⟨.ref l1, rfl, .int w, rfl, l1, _, w, _, rfl, rfl, sqL_of eh, at_of (j := w.toNat) (by omega) ex, _, 1, rfl, rfl, l1, _, w, w.toNat, rfl, rfl, eh, ?_, ?_⟩
    · unfold ixN
      rw [if_pos (by omega), tallyL_len, if_pos (by omega)]
    refine ⟨⟨_, rfl⟩, s.store n1, ?_⟩
    rw [upd_same]
    rw [tallyL_set (by omega) bw.2, take_more hw]
  · rintro σ H' ⟨⟨y, rfl⟩, s, eh⟩
    rw [List.length_map, List.take_length] at eh
    refine ⟨.int n, rfl, _, rfl, n, 0, -1, ((n : Int) - 0).toNat, rfl, RgC.neg (by omega) (by omega) (by omega) (by omega), ?_⟩
    have en : ((n : Int) - 0).toNat = n := by omega
    rw [en]
    refine for_it walk_rangeC (fun i σ H2 => H2 = H' ∧ (∃ z, σ = [some (.int n), some (.ref p), some (.ref l1), y, some (.int (cntGe ws ((n : Int) - i + 1))), z]) ∧ crowdedL n ws = ((downTo n).drop i).find? fun b => decide ((n : Int) - b + 1 < (cntGe ws b : Int))) ⟨rfl, ⟨none, ?_⟩, rfl⟩ (fun _ _ _ _ _ => trivial) ?_ ?_
    · rw [show (n : Int) - ((0 : Nat) : Int) + 1 = (n : Int) + 1 by omega, cntGe_top hb]
      rfl
    · rintro i x σ H2 H3 hi ⟨rfl, ⟨z, rfl⟩, e⟩ ⟨rfl, ex0⟩
      rw [find_drop (downTo_at hi)] at e
      have ex : (tallyL n ws)[n - i]? = some (.int (cntEq ws ((n : Int) - i))) := by
        rw [tallyL_at (by omega)]
        have : (((n - i : Nat)) : Int) = (n : Int) - i := by omega
        rw [this]
      have ev : (n : Int) + (i : Int) * -1 = (n : Int) - i := by omega
      obtain rfl : x = .int ((n : Int) - i) := by
        rw [ex0]
        show V.int ((n : Int) + (i : Int) * -1) = _
        rw [ev]
      refine ⟨_, rfl, .ref l1, rfl, .int ((n : Int) - i), rfl, l1, _, (n : Int) - i, _, rfl, rfl, sqL_of eh, at_of (j := n - i) (by omega) ex, _, _, rfl, rfl, ?_⟩
      have step := cntGe_step ws ((n : Int) - i)
      refine ⟨_, rfl, .int n, rfl, .int ((n : Int) - i), rfl, n, _, rfl, rfl, _, 1, rfl, rfl, _, _, rfl, rfl, _, rfl, ?_⟩
      have e3 : ((cntGe ws ((n : Int) - i + 1) : Nat) : Int) + (cntEq ws ((n : Int) - i) : Nat) = (cntGe ws ((n : Int) - i) : Nat) := by omega
      refine ite2 (fun h => ?_) (fun h => ?_)
      · have h : (n : Int) - ((n : Int) - i) + 1 < ((cntGe ws ((n : Int) - i + 1) : Nat) : Int) + (cntEq ws ((n : Int) - i) : Nat) := of_decide_eq_true h
        rw [e3] at h
        rw [if_pos (decide_eq_true h)] at e
        refine ⟨.int ((n : Int) - i), rfl, ?_⟩
        have := q _ s
        rw [e] at this
        exact this
      · have h : ¬ (n : Int) - ((n : Int) - i) + 1 < ((cntGe ws ((n : Int) - i + 1) : Nat) : Int) + (cntEq ws ((n : Int) - i) : Nat) := fun z => h (decide_eq_true z)
        rw [e3] at h
        rw [if_neg (by simpa using h)] at e
        have e5 : ((cntGe ws ((n : Int) - i + 1) : Nat) : Int) + (cntEq ws ((n : Int) - i) : Nat) = (cntGe ws ((n : Int) - ((i + 1 : Nat) : Int) + 1) : Nat) := by
          rw [e3]
          have : (n : Int) - ((i + 1 : Nat) : Int) + 1 = (n : Int) - i := by omega
          rw [this]
        exact ⟨rfl, ⟨some (.int ((n : Int) - i)), congrArg (fun t => [some (V.int n), some (V.ref p), some (V.ref l1), y, some (V.int t), some (V.int ((n : Int) - i))]) e5⟩, e⟩
    · rintro σ H2 ⟨rfl, ⟨z, rfl⟩, e⟩
      have hd : (downTo n).drop n = [] := List.drop_eq_nil_of_le (by simp [downTo])
      rw [hd] at e
      have := q _ s
      rw [e] at this
      exact this
def sp_is_good (K : PySem.W.Frag) (a : Ad) : Sp := fun vs H Q E => ∃ b w, vs = [b, w] ∧ ChkW K a b w H E fun n ws _ => ∀ (H' : Hp), Same H H' → Q (.bl (crowdedL n ws).isNone) H'
abbrev N_is_good : List Str := ["berths", "wishes"]
def t_is_good (K : PySem.W.Frag) (a : Ad) (E : XK) : TS :=
  (tRet (tIsN (tCall (sp_crowded K a) [] E (tCons (tVar 0) (tCons (tVar 1) tNil)))))
theorem len_is_good {K : PySem.W.Frag} {a : Ad} {vs : List V} {H : Hp} {Q : VK} {E : XK} (h : sp_is_good K a vs H Q E) : vs.length = 2 := by
  obtain ⟨b, w, rfl, _⟩ := h
  rfl
theorem vO_isN (o : Option Int) : decide (vO o = .non) = o.isNone := by
  cases o <;> rfl
theorem pu_is_good {K : PySem.W.Frag} {a : Ad} {vs : List V} {H : Hp} {Q : VK} {E : XK} (h : sp_is_good K a vs H Q E) : t_is_good K a E { nx := fun _ H' => Q .non H', rt := Q } (start N_is_good vs) H := by
  obtain ⟨b, w, rfl, h⟩ := h
  refine ⟨b, rfl, w, rfl, b, w, rfl, ChkW.imp h fun n ws p eb ew h1 h2 hs hl hb q => ?_⟩
  intro H' s
  have := q H' s
  show Q (.bl (decide (vO (crowdedL n ws) = .non))) H'
  rw [vO_isN]
  exact this

/-! ### what the laws read of a script -/
def cellAt (ns : List Int) (k : Int) : Int := ns.getD k.toNat 0
theorem cut_drop (xs : List V) (k : Nat) : cutV xs (some (k : Int)) none = xs.drop k := by
  unfold cutV
  rw [HT.sIx_nat, HT.sIx_none]
  by_cases h : k ≤ xs.length
  · rw [Nat.min_eq_left h]
    exact List.take_of_length_le (by rw [List.length_drop]; omega)
  · rw [Nat.min_eq_right (by omega), Nat.sub_self, List.take_zero, List.drop_eq_nil_of_le (by omega)]
theorem cut2 (xs : List V) : cutV xs (some 2) none = xs.drop 2 := cut_drop xs 2
theorem atI_lit (xs : List V) (j : Nat) {v : V} (h : xs[j]? = some v) : atI xs (j : Int) = some v := atI_nat h
def sp_l_cell_at (K : PySem.W.Frag) : Sp := fun vs H Q _ => ∃ (s : Addr) (ns : List Int) (k : Int), vs = [.ref s, .int k] ∧ SqL K H s (ns.map V.int) ∧ 0 ≤ k ∧ Q (.int (cellAt ns k)) H
abbrev N_l_cell_at : List Str := ["_law_script", "_law_k"]
def t_l_cell_at (K : PySem.W.Frag) (a : Ad) : TS :=
  (tSeq (tIfS (tTest (tOp rLtI (tVar 1) (tCB (rLenSq K) (tCons (tVar 0) tNil)))) (tRet (tOp (rIxL K) (tVar 0) (tVar 1))) tNext)
    (tRet (tC (.int 0))))
theorem len_l_cell_at {K : PySem.W.Frag} {vs : List V} {H : Hp} {Q : VK} {E : XK} (h : sp_l_cell_at K vs H Q E) : vs.length = 2 := by
  obtain ⟨s, ns, k, rfl, _⟩ := h
  rfl
theorem pu_l_cell_at {K : PySem.W.Frag} {a : Ad} {vs : List V} {H : Hp} {Q : VK} {E : XK} (h : sp_l_cell_at K vs H Q E) : t_l_cell_at K a { nx := fun _ H' => Q .non H', rt := Q } (start N_l_cell_at vs) H := by
  obtain ⟨s, ns, k, rfl, hs, h0, q⟩ := h
  refine ⟨.int k, rfl, .ref s, rfl, s, _, rfl, .inl hs, _, _, rfl, rfl, _, rfl, ?_⟩
  by_cases h : k < ((ns.map V.int).length : Nat)
  · rw [decide_eq_true h]
    rw [List.length_map] at h
    have e : ns[k.toNat]? = some (cellAt ns k) := by
      unfold cellAt
      rw [List.getD_eq_getElem?_getD, List.getElem?_eq_getElem (by omega)]
      rfl
    refine iteT ⟨.ref s, rfl, .int k, rfl, s, _, k, _, rfl, rfl, hs, at_of (j := k.toNat) (by omega) (by rw [List.getElem?_map, e]; rfl), q⟩
  · rw [decide_eq_false h]
    rw [List.length_map] at h
    have e : cellAt ns k = 0 := by
      unfold cellAt
      rw [List.getD_eq_getElem?_getD, List.getElem?_eq_none (by omega)]
      rfl
    rw [e] at q
    exact iteF q
theorem p3 : (0 : Int) < 3 := by decide
theorem p4 : (0 : Int) < 4 := by decide
theorem d2 {n : Int} : CDiv n 2 := ⟨by decide, by decide⟩
theorem d3 {n : Int} : CDiv n 3 := ⟨by decide, by decide⟩
theorem d12 {n : Int} : CDiv n 12 := ⟨by decide, by decide⟩
theorem pick3 (c : Int) (x y z : V) : ∃ v, atI [x, y, z] (c % 3) = some v ∧ (v = x ∨ v = y ∨ v = z) := by
  have h : c % 3 = 0 ∨ c % 3 = 1 ∨ c % 3 = 2 := by omega
  rcases h with h | h | h <;> rw [h]
  · exact ⟨x, rfl, .inl rfl⟩
  · exact ⟨y, rfl, .inr (.inl rfl)⟩
  · exact ⟨z, rfl, .inr (.inr rfl)⟩
theorem pick4 (c : Int) (x y z u : V) : ∃ v, atI [x, y, z, u] (c % 4) = some v ∧ (v = x ∨ v = y ∨ v = z ∨ v = u) := by
  have h : c % 4 = 0 ∨ c % 4 = 1 ∨ c % 4 = 2 ∨ c % 4 = 3 := by omega
  rcases h with h | h | h | h <;> rw [h]
  · exact ⟨x, rfl, .inl rfl⟩
  · exact ⟨y, rfl, .inr (.inl rfl)⟩
  · exact ⟨z, rfl, .inr (.inr (.inl rfl))⟩
  · exact ⟨u, rfl, .inr (.inr (.inr rfl))⟩
/-! ### mixed numbers, an order of so many -/
def sp_l_mix (K : PySem.W.Frag) : Sp := fun vs H Q _ => ∃ (p : Addr) (st c : Int), vs = [.ref p, .int c] ∧ H p = some (.lst [.int st]) ∧ 0 ≤ st ∧ st < 2147483647 ∧ ∀ st' r : Int, 0 ≤ st' → st' < 2147483647 → 0 ≤ r → r < 2147483647 → Q (.int r) (upd H p (.lst [.int st']))
abbrev N_l_mix : List Str := ["_law_state", "_law_cell"]
def t_l_mix (K : PySem.W.Frag) (a : Ad) : TS :=
  (tSeq (tAsg (tOp rModI (tOp rAddI (tOp rAddI (tOp rMulI (tOp (rIxL K) (tVar 0) (tC (.int 0))) (tC (.int 48271))) (tOp rMulI (tVar 1) (tC (.int 16807)))) (tC (.int 11))) (tC (.int 2147483647))) (gSub (tVar 0) (tC (.int 0)) rSetL))
    (tRet (tOp rDivI (tOp rModI (tOp rMulI (tOp (rIxL K) (tVar 0) (tC (.int 0))) (tOp (rIxL K) (tVar 0) (tC (.int 0)))) (tC (.int 2147483647))) (tC (.int 5)))))
theorem len_l_mix {K : PySem.W.Frag} {vs : List V} {H : Hp} {Q : VK} {E : XK} (h : sp_l_mix K vs H Q E) : vs.length = 2 := by
  obtain ⟨p, st, c, rfl, _⟩ := h
  rfl
theorem d5 {n : Int} : CDiv n 5 := ⟨by decide, by decide⟩
theorem pmix : (0 : Int) < 2147483647 := by decide
theorem pu_l_mix {K : PySem.W.Frag} {a : Ad} {vs : List V} {H : Hp} {Q : VK} {E : XK} (h : sp_l_mix K vs H Q E) : t_l_mix K a { nx := fun _ H' => Q .non H', rt := Q } (start N_l_mix vs) H := by
  obtain ⟨p, st, c, rfl, hp, h0, h1, q⟩ := h
  refine ⟨.ref p, rfl, p, _, 0, .int st, rfl, rfl, sqL_of hp, atI_nat (j := 0) rfl, st, 48271, rfl, rfl, .inr ⟨by decide, by decide⟩, .int c, rfl, c, 16807, rfl, rfl, .inr ⟨by decide, by decide⟩, _, _, rfl, rfl, _, 11, rfl, rfl, _, 2147483647, rfl, rfl, pmix, .ref p, rfl, p, _, 0, 0, rfl, rfl, hp, rfl, ?_⟩
  have b1 := Int.emod_nonneg (st * 48271 + c * 16807 + 11) (show (2147483647 : Int) ≠ 0 by decide)
  have b2 := Int.emod_lt_of_pos (st * 48271 + c * 16807 + 11) pmix
  refine ⟨.ref p, rfl, p, _, 0, .int ((st * 48271 + c * 16807 + 11) % 2147483647), rfl, rfl, sqL_of upd_same, atI_nat (j := 0) rfl, .ref p, rfl, p, _, 0, .int ((st * 48271 + c * 16807 + 11) % 2147483647), rfl, rfl, sqL_of upd_same, atI_nat (j := 0) rfl, _, _, rfl, rfl, .inl ⟨by omega, by omega⟩, _, 2147483647, rfl, rfl, pmix, _, 5, rfl, rfl, d5, ?_⟩
  have c1 := Int.emod_nonneg (((st * 48271 + c * 16807 + 11) % 2147483647) * ((st * 48271 + c * 16807 + 11) % 2147483647)) (show (2147483647 : Int) ≠ 0 by decide)
  have c2 := Int.emod_lt_of_pos (((st * 48271 + c * 16807 + 11) % 2147483647) * ((st * 48271 + c * 16807 + 11) % 2147483647)) pmix
  generalize (((st * 48271 + c * 16807 + 11) % 2147483647) * ((st * 48271 + c * 16807 + 11) % 2147483647)) % 2147483647 = u at c1 c2
  exact q _ _ b1 b2 (by omega) (by omega)
theorem rg_upTo {m : Nat} : rgV 0 (m : Int) = (upTo 0 m).map V.int := by
  unfold rgV upTo
  rw [List.map_map]
  have e : ((m : Int) - 0).toNat = m := by omega
  rw [e]
  rfl
theorem pop_perm {l : List Int} {k : Nat} {y : Int} (h : l[k]? = some y) : (y :: l.eraseIdx k).Perm l := by
  induction l generalizing k with
  | nil => simp at h
  | cons x r ih =>
    cases k with
    | zero =>
      cases h
      exact List.Perm.refl _
    | succ k => exact (List.Perm.swap x y _).trans ((ih (k := k) (by simpa using h)).cons x)
/-! ### a whole number -/
def sp_l_whole (K : PySem.W.Frag) : Sp := fun vs H Q _ => ∃ (i : Int), vs = [.int i] ∧ Q (.bl true) H
abbrev N_l_whole : List Str := ["_law_found"]
def t_l_whole (K : PySem.W.Frag) (a : Ad) : TS :=
  (tRet (tAndV (tCB (rIsi K) (tCons (tVar 0) (tCons (tC (.ty "int")) tNil))) (tNotV (tCB (rIsi K) (tCons (tVar 0) (tCons (tC (.ty "bool")) tNil))))))
theorem len_l_whole {K : PySem.W.Frag} {vs : List V} {H : Hp} {Q : VK} {E : XK} (h : sp_l_whole K vs H Q E) : vs.length = 1 := by
  obtain ⟨i, rfl, _⟩ := h
  rfl
theorem kit_ii {K : PySem.W.Frag} : PySem.W.kitOne K (.type "int") (.type "int") = some true := kit_ty (by decide +kernel)
theorem kit_ib {K : PySem.W.Frag} : PySem.W.kitOne K (.type "int") (.type "bool") = some false := kit_ty (by decide +kernel)
theorem kit_ll {K : PySem.W.Frag} : PySem.W.kitOne K (.type "list") (.type "list") = some true := kit_ty (by decide +kernel)
theorem pu_l_whole {K : PySem.W.Frag} {a : Ad} {vs : List V} {H : Hp} {Q : VK} {E : XK} (h : sp_l_whole K vs H Q E) : t_l_whole K a { nx := fun _ H' => Q .non H', rt := Q } (start N_l_whole vs) H := by
  obtain ⟨i, rfl, q⟩ := h
  exact ⟨.int i, rfl, .int i, _, _, _, true, rfl, .ty _, .base (.int i), kit_ii, true, rfl, iteT ⟨.int i, rfl, .int i, _, _, _, false, rfl, .ty _, .base (.int i), kit_ib, false, rfl, q⟩⟩

/-! ### law k05 -/
theorem one_left {n : Nat} {ws : List Int} (hb : ∀ w ∈ ws, 1 ≤ w ∧ w ≤ n) (hl : ws.length + 1 = n) : ∃ L, leftR n ws = [L] ∧ 1 ≤ L ∧ L ≤ n := by
  have h := left_len hb (by omega)
  cases e : leftR n ws with
  | nil =>
    rw [e] at h
    simp at h
    omega
  | cons L r =>
    rw [e] at h
    have hr : r = [] := List.length_eq_zero_iff.mp (by simp at h; omega)
    subst hr
    have hm : L ∈ leftR n ws := by rw [e]; exact List.mem_singleton.mpr rfl
    exact ⟨L, rfl, (mem_left.mp hm).1.1, (mem_left.mp hm).1.2⟩
theorem turn_last {n : Nat} {k L : Int} (hL : 1 ≤ L ∧ L ≤ n) (hk : 0 ≤ k ∧ k < n) : turn n k L = n ↔ k = n - L := by
  unfold turn
  by_cases z : L - 1 + k < n
  · rw [Int.emod_eq_of_lt (by omega) z]
    omega
  · have e : L - 1 + k = (L - 1 + k - n) + n := by omega
    rw [e, Int.add_emod_right, Int.emod_eq_of_lt (by omega) (by omega)]
    omega
theorem sortI_one {x : Int} : sortI [x] = [x] := (sortI_uniq (List.Perm.refl _) (List.pairwise_singleton _ _)).symm
theorem left_turned {n : Nat} {k L : Int} {ws : List Int} (hn : 1 ≤ n) (hb : ∀ w ∈ ws, 1 ≤ w ∧ w ≤ n) (hl : ws.length + 1 = n) (e : leftR n ws = [L]) : leftR n (ws.map (turn n k)) = [turn n k L] := by
  rw [turned_left hn hb (by omega), e]
  exact sortI_one
/-- good for the straight quay with one berth less: laid alike -/
theorem straight_occ {m : Nat} : ∀ ws : List Int, (∀ w ∈ ws, 1 ≤ w ∧ w ≤ m) → none ∉ placedL m ws → (rrun (m + 1) ws).1 = (prun m ws).1 := snoc_ind (fun _ _ => rfl) fun ws w ih hb hn => by
  rw [placedL_snoc] at hn
  have i := ih (fun x hx => hb x (List.mem_append_left _ hx)) fun z => hn (List.mem_append_left _ z)
  cases e : ffree m (prun m ws).1 w with
  | none => exact absurd (List.mem_append_right _ (by rw [e]; exact List.mem_singleton.mpr rfl)) hn
  | some b =>
    obtain ⟨b1, b2, b3, b4⟩ := ffree_some e
    have e2 : rfree (m + 1) (rrun (m + 1) ws).1 w = some b := by
      unfold rfree
      rw [i, ffree_is b1 (by omega) b3 b4]
    rw [rrun_snoc, occ_snoc, e]
    unfold rstep
    rw [e2, i]
    rfl
theorem round_straight {m : Nat} : ∀ ws : List Int, (∀ w ∈ ws, 1 ≤ w ∧ w ≤ (m + 1 : Nat)) → ws.length ≤ m + 1 → (rrun (m + 1) ws).1 ((m : Int) + 1) = false → (∀ w ∈ ws, w ≤ m) ∧ none ∉ placedL m ws ∧ (rrun (m + 1) ws).1 = (prun m ws).1 := snoc_ind (fun _ _ _ => ⟨fun w hw => (by cases hw), fun h => (by cases h), rfl⟩) fun ws w ih hb hl h => by
  rw [List.length_append, List.length_singleton] at hl
  have hw := hb w (List.mem_append_right _ (List.mem_singleton.mpr rfl))
  have hb' : ∀ w ∈ ws, 1 ≤ w ∧ w ≤ (m + 1 : Nat) := fun x hx => hb x (List.mem_append_left _ hx)
  obtain ⟨b, e⟩ := rfree_ex (n := m + 1) (w := w) (layR (m + 1) ws hb' (by omega)).occ (by rw [placedR_len]; omega)
  have ro : (rrun (m + 1) (ws ++ [w])).1 = setO (rrun (m + 1) ws).1 b := by
    rw [rrun_snoc]
    unfold rstep
    rw [e]
    rfl
  rw [ro] at h ⊢
  unfold setO at h
  obtain ⟨h1, h2⟩ := Bool.or_eq_false_iff.mp h
  have hbm : (m : Int) + 1 ≠ b := of_decide_eq_false h1
  obtain ⟨i1, i2, i3⟩ := ih hb' (by omega) h2
  unfold rfree at e
  cases e0 : ffree (m + 1) (rrun (m + 1) ws).1 w with
  | none =>
    have := ffree_none e0 ((m : Int) + 1) (by omega) (by omega)
    rw [h2] at this
    cases this
  | some c =>
    rw [e0] at e
    cases e
    obtain ⟨b1, b2, b3, b4⟩ := ffree_some e0
    have hbm2 : b ≤ m := by
      by_cases z : b ≤ m
      · exact z
      · exact absurd (show (m : Int) + 1 = b by omega) hbm
    have e2 : ffree m (prun m ws).1 w = some b := by
      rw [← i3]
      exact ffree_is b1 hbm2 b3 b4
    refine ⟨fun x hx => ?_, fun z => ?_, ?_⟩
    · rcases List.mem_append.mp hx with k | k
      · exact i1 x k
      · rw [List.mem_singleton.mp k]
        omega
    · rw [placedL_snoc, e2] at z
      rcases List.mem_append.mp z with k | k
      · exact i2 k
      · simp at k
    · rw [occ_snoc, e2, i3]
theorem alone_iff {m : Nat} {ws : List Int} (hb : ∀ w ∈ ws, 1 ≤ w ∧ w ≤ (m + 1 : Nat)) (hl : ws.length = m) : ((m : Int) + 1 ∉ ws ∧ crowdedL m ws = none) ↔ leftR (m + 1) ws = [(m : Int) + 1] := by
  obtain ⟨L, eL, L1, L2⟩ := one_left hb (by omega)
  have LR := layR (m + 1) ws hb (by omega)
  constructor
  · rintro ⟨h1, h2⟩
    have hb' : ∀ w ∈ ws, 1 ≤ w ∧ w ≤ m := fun w hw => by
      have := hb w hw
      have : w ≠ (m : Int) + 1 := fun e => h1 (e ▸ hw)
      omega
    have hn := (good_iff hb').mp h2
    have ho := straight_occ ws hb' hn
    have hm : (m : Int) + 1 ∈ leftR (m + 1) ws := by
      refine mem_left.mpr ⟨⟨by omega, by omega⟩, fun z => ?_⟩
      have := (LR.occ _).mpr z
      rw [ho] at this
      have := (lay m ws hb').bd _ (((lay m ws hb').occ _).mp this)
      omega
    rw [eL] at hm ⊢
    rw [List.mem_singleton.mp hm]
  · intro h
    have hm : (m : Int) + 1 ∈ leftR (m + 1) ws := by rw [h]; exact List.mem_singleton.mpr rfl
    have ho : (rrun (m + 1) ws).1 ((m : Int) + 1) = false := by
      cases e : (rrun (m + 1) ws).1 ((m : Int) + 1) with
      | false => rfl
      | true => exact absurd ((LR.occ _).mp e) (mem_left.mp hm).2
    obtain ⟨i1, i2, _⟩ := round_straight ws hb (by omega) ho
    refine ⟨fun z => ?_, (good_iff fun w hw => ⟨(hb w hw).1, i1 w hw⟩).mpr i2⟩
    have := i1 _ z
    omega
theorem cut_ints (ns : List Int) (lo hi : Option Int) : ∃ zs : List Int, cutV (ns.map V.int) lo hi = zs.map V.int ∧ zs.length = (cutV (ns.map V.int) lo hi).length := by
  refine ⟨(ns.drop (HT.sIx ns.length 0 lo)).take (HT.sIx ns.length ns.length hi - HT.sIx ns.length 0 lo), ?_, ?_⟩
  · unfold cutV
    rw [List.length_map, List.map_take, List.map_drop]
  · unfold cutV
    rw [List.length_map, List.length_take, List.length_take, List.length_drop, List.length_drop, List.length_map]
theorem cut_len2 {xs : List V} {n : Nat} : (cutV xs (some 2) (some (1 + (n : Int)))).length ≤ n - 1 := by
  unfold cutV
  have e1 : HT.sIx xs.length 0 (some (2 : Int)) = min 2 xs.length := HT.sIx_nat xs.length 0 2
  have e2 : HT.sIx xs.length xs.length (some (1 + (n : Int))) = min (1 + n) xs.length := by
    have := HT.sIx_nat xs.length xs.length (1 + n)
    rw [← this]
    congr 2
  rw [e1, e2, List.length_take, List.length_drop]
  omega
theorem turn_dat {n : Nat} {ws : List Int} (hn : 1 ≤ n) {k : Int} : ∀ x ∈ ws.map (turn n k), 1 ≤ x ∧ x ≤ n := fun x hx => by
  obtain ⟨w, _, rfl⟩ := List.mem_map.mp hx
  exact turn_bd hn k w
def sp_law (K : PySem.W.Frag) : Sp := fun vs H Q _ => ∃ (s : Addr) (ns : List Int), vs = [.ref s] ∧ SqL K H s (ns.map V.int) ∧ ns.length ≤ 63 ∧ ∀ H', Q (.bl true) H'
abbrev N_law : List Str := ["_law_script", "_law_berths", "_law_near", "_law_state", "_law_wishes", "_law_by", "_law_turn", "_law_other", "_law_alone", "_law_good", "_law_cell"]
def t_law (K : PySem.W.Frag) (a : Ad) : TS :=
  (tSeq (tAsg (tOp rAddI (tC (.int 2)) (tOp rModI (tCall (sp_l_cell_at K) [] E0 (tCons (tVar 0) (tCons (tC (.int 0)) tNil))) (tOp (rIxL K) (tLst (tCons (tC (.int 5)) (tCons (tC (.int 39)) (tCons (tC (.int 89)) tNil)))) (tOp rModI (tCall (sp_l_cell_at K) [] E0 (tCons (tVar 0) (tCons (tC (.int 1)) tNil))) (tC (.int 3)))))) (gName 1))
    (tSeq (tAsg (tOp (rIxL K) (tLst (tCons (tVar 1) (tCons (tCB rMin2 (tCons (tVar 1) (tCons (tC (.int 4)) tNil))) tNil))) (tOp rModI (tOp rDivI (tCall (sp_l_cell_at K) [] E0 (tCons (tVar 0) (tCons (tC (.int 1)) tNil))) (tC (.int 3))) (tC (.int 2)))) (gName 2))
    (tSeq (tAsg (tLst (tCons (tOp rAddI (tC (.int 1)) (tOp rModI (tCall (sp_l_cell_at K) [] E0 (tCons (tVar 0) (tCons (tC (.int 0)) tNil))) (tC (.int 2147483646)))) tNil)) (gName 3))
    (tSeq (tAsg (tLc (iList K (tSl (rSlL K) (tVar 0) (tPart (tC (.int 2))) (tPart (tOp rAddI (tC (.int 1)) (tVar 1))))) (gName 10) tYes (tOp rAddI (tC (.int 1)) (tOp rModI (tVar 10) (tVar 2))) [10]) (gName 4))
    (tSeq (tWhile (tTest (tOp rLtI (tCB (rLenSq K) (tCons (tVar 4) tNil)) (tOp rSubI (tVar 1) (tC (.int 1))))) (tDrop (tBM K "list" rAppend (tVar 4) (tCons (tOp rAddI (tC (.int 1)) (tOp rModI (tCall (sp_l_mix K) [] E0 (tCons (tVar 3) (tCons (tCall (sp_l_cell_at K) [] E0 (tCons (tVar 0) (tCons (tC (.int 1)) tNil))) tNil))) (tVar 2))) tNil))))
    (tSeq (tAsg (tCall (sp_turning K a) [] E0 (tCons (tVar 1) (tCons (tVar 4) tNil))) (gName 5))
    (tSeq (tIfS (tOr (tNot (tB (tCall (sp_l_whole K) [] E0 (tCons (tVar 5) tNil)))) (tOr (tNot (tTest (tChain rLeI rLtI (tC (.int 0)) (tVar 5) (tVar 1)))) (tTest (tOp rNe (tCB (rLenSq K) (tCons (tCall (sp_left_over K a) [] E0 (tCons (tVar 1) (tCons (tVar 4) tNil))) tNil)) (tC (.int 1)))))) (tRet (tC (.bl false))) tNext)
    (tSeq (tFor (iRng1 (tCons (tVar 1) tNil)) (gName 6)
    (tSeq (tAsg (tCall (sp_turned K a) [] E0 (tCons (tVar 1) (tCons (tVar 4) (tCons (tVar 6) tNil)))) (gName 7))
    (tSeq (tAsg (tOp (rEqT K) (tCall (sp_left_over K a) [] E0 (tCons (tVar 1) (tCons (tVar 7) tNil))) (tLst (tCons (tVar 1) tNil))) (gName 8))
    (tSeq (tAsg (tC (.bl false)) (gName 9))
    (tSeq (tIfS (tTest (tOp (rIn K true) (tVar 1) (tVar 7))) (tAsg (tCall (sp_is_good K a) [] E0 (tCons (tOp rSubI (tVar 1) (tC (.int 1))) (tCons (tVar 7) tNil))) (gName 9)) tNext)
    (tIfS (tOr (tTest (tOp rNe (tVar 8) (tOp rEq (tVar 6) (tVar 5)))) (tTest (tOp rNe (tVar 9) (tVar 8)))) (tRet (tC (.bl false))) tNext))))))
    (tRet (tAndV (tOp rEq (tCall (sp_turning K a) [] E0 (tCons (tVar 1) (tCons (tCB (rTupleOf K) (tCons (tVar 4) tNil)) tNil))) (tVar 5)) (tOp rEq (tCall (sp_turning K a) [] E0 (tCons (tVar 1) (tCons (tCall (sp_turned K a) [] E0 (tCons (tVar 1) (tCons (tVar 4) (tCons (tVar 5) tNil)))) tNil))) (tC (.int 0)))))))))))))
theorem len_law {K : PySem.W.Frag} {vs : List V} {H : Hp} {Q : VK} {E : XK} (h : sp_law K vs H Q E) : vs.length = 1 := by
  obtain ⟨s, ns, rfl, _⟩ := h
  rfl
theorem pu_law {K : PySem.W.Frag} {a : Ad} {vs : List V} {H : Hp} {Q : VK} {E : XK} (h : sp_law K vs H Q E) : t_law K a { nx := fun _ H' => Q .non H', rt := Q } (start N_law vs) H := by
  obtain ⟨s, ns, rfl, hs, hl, q⟩ := h
  -- berths
  refine ⟨.ref s, rfl, s, ns, 0, rfl, hs, Int.le_refl _, l1000 (by show 3 ≤ 1000; decide), fun l nl => ?_⟩
  have s1 := same_new nl (o := .lst [.int 5, .int 39, .int 89])
  refine ⟨.ref s, rfl, s, ns, 1, rfl, s1.seq hs, by decide, _, 3, rfl, rfl, p3, ?_⟩
  obtain ⟨v, e, hv⟩ := pick3 (cellAt ns 1) (.int 5) (.int 39) (.int 89)
  obtain ⟨md, rfl, m1, m2⟩ : ∃ m, v = .int m ∧ 1 ≤ m ∧ m ≤ 89 := by
    rcases hv with h | h | h <;> subst h <;> exact ⟨_, rfl, by decide, by decide⟩
  refine ⟨l, _, _, _, rfl, rfl, sqL_of upd_same, e, _, md, rfl, rfl, (by show 0 < md; omega), 2, _, rfl, rfl, ?_⟩
  have b1 := Int.emod_nonneg (cellAt ns 0) (show md ≠ 0 by omega)
  have b2 := Int.emod_lt_of_pos (cellAt ns 0) (show 0 < md by omega)
  obtain ⟨m, hm⟩ : ∃ m : Nat, 2 + cellAt ns 0 % md = ((m + 1 : Nat) : Int) := ⟨(1 + cellAt ns 0 % md).toNat, by omega⟩
  have hm1 : 1 ≤ m := by omega
  have hm2 : m ≤ 89 := by omega
  generalize upd H l (.lst [.int 5, .int 39, .int 89]) = H1 at s1
  dsimp only
  rw [hm]
  -- near
  refine ⟨.int (m + 1 : Nat), rfl, .int (m + 1 : Nat), rfl, _, 4, rfl, l1000 (by show 2 ≤ 1000; decide), fun l2 nl2 => ?_⟩
  have s2 := s1.trans (same_new nl2 (o := .lst [.int (m + 1 : Nat), .int (if (4 : Int) < (m + 1 : Nat) then 4 else (m + 1 : Nat))]))
  refine ⟨.ref s, rfl, s, ns, 1, rfl, s2.seq hs, by decide, _, 3, rfl, rfl, d3, _, 2, rfl, rfl, (by show (0 : Int) < 2; decide), ?_⟩
  obtain ⟨near, en, hn1⟩ : ∃ near : Int, atI [V.int (m + 1 : Nat), .int (if (4 : Int) < (m + 1 : Nat) then 4 else (m + 1 : Nat))] (cellAt ns 1 / 3 % 2) = some (.int near) ∧ 1 ≤ near ∧ near ≤ (m + 1 : Nat) := by
    have h : cellAt ns 1 / 3 % 2 = 0 ∨ cellAt ns 1 / 3 % 2 = 1 := by omega
    rcases h with h | h <;> rw [h]
    · exact ⟨_, rfl, by omega, by omega⟩
    · refine ⟨_, rfl, ?_, ?_⟩ <;> split <;> omega
  refine ⟨l2, _, _, _, rfl, rfl, sqL_of upd_same, en, ?_⟩
  generalize upd H1 l2 (.lst [.int (m + 1 : Nat), .int (if (4 : Int) < (m + 1 : Nat) then 4 else (m + 1 : Nat))]) = H2 at s2
  -- state
  refine ⟨.ref s, rfl, s, ns, 0, rfl, s2.seq hs, Int.le_refl _, _, 2147483646, rfl, rfl, (by show (0 : Int) < 2147483646; decide), 1, _, rfl, rfl, l1000 (by show 1 ≤ 1000; decide), fun ls nls => ?_⟩
  have g1 := Int.emod_nonneg (cellAt ns 0) (show (2147483646 : Int) ≠ 0 by decide)
  have g2 := Int.emod_lt_of_pos (cellAt ns 0) (show (0 : Int) < 2147483646 by decide)
  have nlsH : H ls = none := s2.free nls
  have s3 := s2.store nlsH (o := .lst [.int (1 + cellAt ns 0 % 2147483646)])
  have es3 : (upd H2 ls (.lst [.int (1 + cellAt ns 0 % 2147483646)])) ls = some (.lst [.int (1 + cellAt ns 0 % 2147483646)]) := upd_same
  -- the wishes by the script
  refine ⟨.ref s, rfl, 2, rfl, .int (m + 1 : Nat), rfl, 1, _, rfl, rfl, _, rfl, s, _, rfl, s3.seq hs, fun c nc => ?_⟩
  obtain ⟨zs, ez, lz⟩ := cut_ints ns (some 2) (some (1 + ((m + 1 : Nat) : Int)))
  have lz2 : zs.length ≤ m := by
    rw [lz]
    have := cut_len2 (xs := ns.map V.int) (n := m + 1)
    omega
  have ec : (upd (upd H2 ls (.lst [.int (1 + cellAt ns 0 % 2147483646)])) c (.lst (cutV (ns.map V.int) (some 2) (some (1 + ((m + 1 : Nat) : Int)))))) c = some (.lst (zs.map V.int)) := by rw [upd_same, ez]
  have ncH : H c = none := s3.free nc
  have nlc : ls ≠ c := ne_of_none es3 nc
  have s4 := s3.store ncH (o := .lst (cutV (ns.map V.int) (some 2) (some (1 + ((m + 1 : Nat) : Int)))))
  have es4 : (upd (upd H2 ls (.lst [.int (1 + cellAt ns 0 % 2147483646)])) c (.lst (cutV (ns.map V.int) (some 2) (some (1 + ((m + 1 : Nat) : Int)))))) ls = some (.lst [.int (1 + cellAt ns 0 % 2147483646)]) := by rw [upd_ne nlc]; exact upd_same
  refine ⟨c, rfl, ⟨_, sqL_of upd_same⟩, ?_⟩
  refine lc_pure (walk_list (K := K) (a := c) (xs := zs.map V.int)) (by rw [List.length_map]; exact small1000 (by omega)) zs (by rw [List.length_map]) (fun _ => true) (fun z => V.int (1 + z % near)) (fun H' s' => s'.seq (sqL_of ec)) ?_ ?_
  · intro j x v H5 H6 R hx2 s5 hy k
    obtain ⟨rfl, hv⟩ := hy
    rw [List.getElem?_map, hx2] at hv
    cases hv
    refine ⟨rfl, ?_⟩
    exact iteT (B := R false .non H6) ⟨.int x, rfl, .int near, rfl, x, near, rfl, rfl, (by show 0 < near; omega), 1, _, rfl, rfl, k _ _ (Same.refl _) fun _ => rfl⟩
  intro w H5 nw s5 ew
  rw [List.filter_eq_self.mpr (fun _ _ => rfl)] at ew
  have ew : H5 w = some (.lst ((zs.map fun z => 1 + z % near).map V.int)) := by rw [ew, List.map_map]; rfl
  have hbz : ∀ x ∈ zs.map (fun z => 1 + z % near), 1 ≤ x ∧ x ≤ (m + 1 : Nat) := fun x hx => by
    obtain ⟨z, _, rfl⟩ := List.mem_map.mp hx
    have b1 := Int.emod_nonneg z (show near ≠ 0 by omega)
    have b2 := Int.emod_lt_of_pos z (show 0 < near by omega)
    omega
  have hlz : (zs.map fun z => 1 + z % near).length ≤ m := by rw [List.length_map]; exact lz2
  have es5 := s5 _ _ es4
  have nwH : H w = none := s4.free nw
  have nlw : ls ≠ w := ne_of_none es4 nw
  have s6 := s4.trans s5
  generalize (zs.map fun z => 1 + z % near) = w0 at ew hbz hlz
  -- more wishes, mixed
  refine ⟨fun k σ H' => ∃ (st : Int) (ws : List Int), σ = [some (.ref s), some (.int (m + 1 : Nat)), some (.int near), some (.ref ls), some (.ref w), none, none, none, none, none, none] ∧ Same H H' ∧ H' ls = some (.lst [.int st]) ∧ 0 ≤ st ∧ st < 2147483647 ∧
    H' w = some (.lst (ws.map V.int)) ∧ (∀ x ∈ ws, 1 ≤ x ∧ x ≤ (m + 1 : Nat)) ∧ ws.length ≤ m ∧ k = m - ws.length, ⟨_, _, w0, rfl, s6, es5, by omega, by omega, ew, hbz, hlz, rfl⟩, ?_⟩
  rintro k σ H6 ⟨st, ws, rfl, sH, es, h0, h1, ew6, hb, hlw, rfl⟩
  refine ⟨.ref w, rfl, w, _, rfl, .inl (sqL_of ew6), .int (m + 1 : Nat), rfl, _, 1, rfl, rfl, _, _, rfl, rfl, _, rfl, ?_⟩
  refine ite2 (fun cc => ?_) (fun cc => ?_)
  · have cc : (((ws.map V.int).length : Nat) : Int) < ((m + 1 : Nat) : Int) - 1 := of_decide_eq_true cc
    rw [List.length_map] at cc
    refine ⟨fun σ' H' => ∃ (st : Int) (ws' : List Int), σ' = [some (.ref s), some (.int (m + 1 : Nat)), some (.int near), some (.ref ls), some (.ref w), none, none, none, none, none, none] ∧ Same H H' ∧ H' ls = some (.lst [.int st]) ∧ 0 ≤ st ∧ st < 2147483647 ∧
      H' w = some (.lst (ws'.map V.int)) ∧ (∀ x ∈ ws', 1 ≤ x ∧ x ≤ (m + 1 : Nat)) ∧ ws'.length = ws.length + 1, ?_, ?_⟩
    · rintro σ' H' ⟨st', ws', rfl, t1, t2, t3, t4, t5, t6, t7⟩
      exact ⟨m - ws'.length, by omega, st', ws', rfl, t1, t2, t3, t4, t5, t6, by omega, rfl⟩
    · refine ⟨.ref w, rfl, .inl ⟨rfl, _, sqL_of ew6⟩, .ref ls, rfl, .ref s, rfl, s, ns, 1, rfl, sH.seq hs, by decide, ls, st, _, rfl, es, h0, h1, fun st' r u0 u1 r0 r1 => ?_⟩
      have b1 := Int.emod_nonneg r (show near ≠ 0 by omega)
      have b2 := Int.emod_lt_of_pos r (show 0 < near by omega)
      have ew7 : (upd H6 ls (.lst [.int st'])) w = some (.lst (ws.map V.int)) := by rw [upd_ne nlw.symm]; exact ew6
      refine ⟨.int near, rfl, _, near, rfl, rfl, (by show 0 < near; omega), 1, _, rfl, rfl, w, _, _, rfl, rfl, ew7, by rw [List.length_map]; exact small1000 (by omega), ?_⟩
      refine ⟨st', ws ++ [1 + r % near], rfl, (sH.store nlsH).store nwH, ?_, u0, u1, ?_, ?_, ?_⟩
      · rw [upd_ne nlw]
        exact upd_same
      · rw [upd_same, List.map_append]
        rfl
      · intro x hx
        rcases List.mem_append.mp hx with k | k
        · exact hb x k
        · rw [List.mem_singleton.mp k]
          omega
      · rw [List.length_append]
        rfl
  have cc : ¬ (((ws.map V.int).length : Nat) : Int) < ((m + 1 : Nat) : Int) - 1 := fun z => cc (decide_eq_true z)
  rw [List.length_map] at cc
  have hl1 : ws.length = m := by omega
  have hl2 : ws.length + 1 = m + 1 := by omega
  obtain ⟨L, eL, L1, L2⟩ := one_left hb hl2
  have hl4 : ws.length ≤ 400 := by omega
  have N1 : 1 ≤ m + 1 := by omega
  have N2 : m + 1 ≤ 400 := by omega
  -- by
  refine ⟨.int (m + 1 : Nat), rfl, .ref w, rfl, _, _, rfl, ChkW.ok N1 N2 (.inl (sqL_of ew6)) hl4 hb (.inr ⟨hl2, fun H7 s7 => ?_⟩)⟩
  rw [eL]
  have ew7 := s7 _ _ ew6
  refine ⟨_, rfl, _, rfl, true, rfl, iteF ⟨_, rfl, _, _, rfl, rfl, true, ?_, iteT ⟨.int (m + 1 : Nat), rfl, _, _, rfl, rfl, _, rfl, ?_⟩⟩⟩
  · have : decide ((0 : Int) ≤ ((m + 1 : Nat) : Int) - L) = true := decide_eq_true (by omega)
    exact congrArg V.bl this
  have dl : decide (((m + 1 : Nat) : Int) - [L].headD 0 < ((m + 1 : Nat) : Int)) = true := decide_eq_true (by show ((m + 1 : Nat) : Int) - L < _; omega)
  rw [dl]
  refine iteF ⟨.int (m + 1 : Nat), rfl, .ref w, rfl, _, _, rfl, ChkW.ok N1 N2 (.inl (sqL_of ew7)) hl4 hb (.inr ⟨by omega, fun l8 H8 nl8 s8 el8 => ?_⟩)⟩
  rw [eL] at el8
  refine ⟨l8, _, rfl, .inl (sqL_of el8), rfl, _, rfl, iteF ?_⟩
  have ew8 := s8 _ _ ew7
  -- each turning
  refine ⟨.int (m + 1 : Nat), rfl, _, rfl, by omega, by omega, ?_⟩
  have em : (((m + 1 : Nat) : Int)).toNat = m + 1 := by omega
  rw [em]
  refine for_range (fun i σ H' => Same H8 H' ∧ ∃ y6 y7 y8 y9, σ = [some (.ref s), some (.int (m + 1 : Nat)), some (.int near), some (.ref ls), some (.ref w), some (.int (((m + 1 : Nat) : Int) - L)), y6, y7, y8, y9, none]) ⟨Same.refl _, none, none, none, none, rfl⟩ ?_ ?_
  · rintro i σ H' hi ⟨s9, y6, y7, y8, y9, rfl⟩
    have e0 : (0 : Int) + i = i := by omega
    rw [e0]
    have ew9 := s9 _ _ ew8
    have hbt := turn_dat (n := m + 1) (ws := ws) N1 (k := i)
    have hlt : (ws.map (turn (m + 1) i)).length ≤ 400 := by rw [List.length_map]; exact hl4
    have hlt2 : (ws.map (turn (m + 1) i)).length + 1 = m + 1 := by rw [List.length_map]; exact hl2
    have elt := left_turned (k := i) N1 hb hl2 eL
    refine ⟨.int (m + 1 : Nat), rfl, .ref w, rfl, .int i, rfl, _, _, _, rfl, ChkW.ok N1 N2 (.inl (sqL_of ew9)) hl4 hb ⟨_, .int i, .inr ⟨i, rfl, fun ot H10 not s10 eot => ?_⟩⟩⟩
    refine ⟨.int (m + 1 : Nat), rfl, .ref ot, rfl, _, _, rfl, ChkW.ok N1 N2 (.inl (sqL_of eot)) hlt hbt (.inr ⟨by omega, fun l11 H11 nl11 s11 el11 => ?_⟩)⟩
    rw [elt] at el11
    have eot11 := s11 _ _ eot
    refine ⟨.int (m + 1 : Nat), rfl, l1000 (by show 1 ≤ 1000; decide), fun l12 nl12 => ?_⟩
    have s12 := same_new nl12 (o := .lst [.int (m + 1 : Nat)])
    refine eqT_of (a := [turn (m + 1) i L]) (b := [((m + 1 : Nat) : Int)]) (ho_ints (sqL_of (s12 _ _ el11))) (ho_ints (sqL_of upd_same)) (by decide) ?_
    have eot12 := s12 _ _ eot11
    have AI := alone_iff (m := m) (ws := ws.map (turn (m + 1) i)) hbt (by omega)
    rw [elt] at AI
    have TL := turn_last (n := m + 1) (k := i) (L := L) ⟨L1, L2⟩ ⟨by omega, by omega⟩
    -- what follows once good is known
    have fin : ∀ g : Bool, g = decide ([turn (m + 1) i L] = [((m + 1 : Nat) : Int)]) → ∀ H13, Same H8 H13 → (tIfS (tOr (tTest (tOp rNe (tVar 8) (tOp rEq (tVar 6) (tVar 5)))) (tTest (tOp rNe (tVar 9) (tVar 8)))) (tRet (tC (.bl false))) tNext)
        { nx := fun σ H' => Same H8 H' ∧ ∃ y6 y7 y8 y9, σ = [some (.ref s), some (.int (m + 1 : Nat)), some (.int near), some (.ref ls), some (.ref w), some (.int (((m + 1 : Nat) : Int) - L)), y6, y7, y8, y9, none], rt := Q, bk := fun σ H => (tRet (tAndV (tOp rEq (tCall (sp_turning K a) [] E0 (tCons (tVar 1) (tCons (tCB (rTupleOf K) (tCons (tVar 4) tNil)) tNil))) (tVar 5)) (tOp rEq (tCall (sp_turning K a) [] E0 (tCons (tVar 1) (tCons (tCall (sp_turned K a) [] E0 (tCons (tVar 1) (tCons (tVar 4) (tCons (tVar 5) tNil)))) tNil))) (tC (.int 0))))) { nx := fun _ H' => Q .non H', rt := Q } σ H,
          ct := fun σ H' => Same H8 H' ∧ ∃ y6 y7 y8 y9, σ = [some (.ref s), some (.int (m + 1 : Nat)), some (.int near), some (.ref ls), some (.ref w), some (.int (((m + 1 : Nat) : Int) - L)), y6, y7, y8, y9, none] }
        [some (.ref s), some (.int (m + 1 : Nat)), some (.int near), some (.ref ls), some (.ref w), some (.int (((m + 1 : Nat) : Int) - L)), some (.int i), some (.ref ot), some (.bl (decide ([turn (m + 1) i L] = [((m + 1 : Nat) : Int)]))), some (.bl g), none] H13 := by
      intro g hg H13 s13
      subst hg
      have e1 : decide ([turn (m + 1) i L] = [((m + 1 : Nat) : Int)]) = decide (V.int i = V.int (((m + 1 : Nat) : Int) - L)) := by
        rw [Bool.eq_iff_iff, decide_eq_true_eq, decide_eq_true_eq]
        constructor
        · intro h
          rw [TL.mp (List.cons.inj h).1]
        · intro h
          rw [TL.mpr (V.int.inj h)]
      refine ⟨_, rfl, .int i, rfl, .int (((m + 1 : Nat) : Int) - L), rfl, rfl, rfl, _, rfl, ?_⟩
      rw [← e1, decide_eq_true rfl]
      refine iteF ⟨_, rfl, _, rfl, rfl, _, rfl, ?_⟩
      rw [decide_eq_true rfl]
      exact iteF ⟨s13, _, _, _, _, rfl⟩
    -- good
    have s813 := ((s9.trans s10).trans s11).trans s12
    refine ⟨.int (m + 1 : Nat), rfl, .ref ot, rfl, ot, _, rfl, .inl (sqL_of eot12), rfl, flat_ints, _, rfl, ?_⟩
    rw [if_pos rfl, inV_ints]
    by_cases hm : ((m + 1 : Nat) : Int) ∈ ws.map (turn (m + 1) i)
    · rw [decide_eq_true hm]
      refine iteF (fin false ?_ _ s813)
      refine (decide_eq_false fun z => ?_).symm
      exact (AI.mpr z).1 hm
    · rw [decide_eq_false hm]
      have hbt' : ∀ x ∈ ws.map (turn (m + 1) i), 1 ≤ x ∧ x ≤ m := fun x hx => by
        have := hbt x hx
        have : x ≠ ((m + 1 : Nat) : Int) := fun e => hm (e ▸ hx)
        omega
      have em1 : ((m + 1 : Nat) : Int) - 1 = (m : Int) := by omega
      refine iteT ⟨.int (m + 1 : Nat), rfl, _, 1, rfl, rfl, .ref ot, rfl, _, _, rfl, ?_⟩
      show ChkW K a (.int (((m + 1 : Nat) : Int) - 1)) (.ref ot) _ _ _
      rw [em1]
      refine ChkW.ok hm1 (by omega) (.inl (sqL_of eot12)) hlt hbt' fun H13 s13 => fin _ ?_ _ (s813.trans s13)
      rw [Bool.eq_iff_iff, Option.isNone_iff_eq_none, decide_eq_true_eq]
      exact ⟨fun h => AI.mp ⟨hm, h⟩, fun h => (AI.mpr h).2⟩
  · rintro σ H' ⟨s9, y6, y7, y8, y9, rfl⟩
    have ew9 := s9 _ _ ew8
    refine ⟨.int (m + 1 : Nat), rfl, .ref w, rfl, w, _, rfl, .inl ⟨sqL_of ew9, fun t nt => ?_⟩⟩
    have s10 := same_new nt (o := .tup (ws.map V.int))
    refine ⟨_, _, rfl, ChkW.ok N1 N2 (.inr (sqT_of upd_same)) hl4 hb (.inr ⟨hl2, fun H11 s11 => ?_⟩)⟩
    rw [eL]
    have ew11 := s11 _ _ (s10 _ _ ew9)
    refine ⟨_, rfl, rfl, _, rfl, ?_⟩
    refine ite2 (fun _ => ?_) (fun z => absurd (decide_eq_true rfl) z)
    have hbt := turn_dat (n := m + 1) (ws := ws) N1 (k := ((m + 1 : Nat) : Int) - L)
    have elt := left_turned (k := ((m + 1 : Nat) : Int) - L) N1 hb hl2 eL
    have TL := turn_last (n := m + 1) (k := ((m + 1 : Nat) : Int) - L) (L := L) ⟨L1, L2⟩ ⟨by omega, by omega⟩
    rw [TL.mpr rfl] at elt
    refine ⟨.int (m + 1 : Nat), rfl, .int (m + 1 : Nat), rfl, .ref w, rfl, _, rfl, _, _, _, rfl, ChkW.ok N1 N2 (.inl (sqL_of ew11)) hl4 hb ⟨_, .int _, .inr ⟨_, rfl, fun ot H12 not s12 eot => ?_⟩⟩⟩
    refine ⟨_, _, rfl, ChkW.ok N1 N2 (.inl (sqL_of eot)) (by rw [List.length_map]; exact hl4) hbt (.inr ⟨by rw [List.length_map]; exact hl2, fun H13 s13 => ?_⟩)⟩
    refine ⟨rfl, ?_⟩
    have e9 : decide (V.int (((m + 1 : Nat) : Int) - (leftR (m + 1) (ws.map (turn (m + 1) (((m + 1 : Nat) : Int) - L)))).headD 0) = V.int 0) = true := by
      rw [elt]
      refine decide_eq_true ?_
      show V.int (((m + 1 : Nat) : Int) - ((m + 1 : Nat) : Int)) = V.int 0
      rw [Int.sub_self]
    show Q (.bl (decide (V.int (((m + 1 : Nat) : Int) - (leftR (m + 1) (ws.map (turn (m + 1) (((m + 1 : Nat) : Int) - L)))).headD 0) = V.int 0))) _
    rw [e9]
    exact q _

section
variable {P : Program} {w : World} {K : PySem.W.Frag} {mg : Str → Option Value} {base : Heap} {a : Ad}
def topS (i : Nat) : Stmt := PySem.Challenge.pw_berthrow_k05_whole_one_turning.main.body.getD i (.Pass ⟨0, 0, 0, 0⟩)
structure Txt (K : PySem.W.Frag) (mg : Str → Option Value) (a : Ad) : Prop where
  t_0 : True
  b_bool : mg "bool" = none
  b_int : mg "int" = none
  b_isinstance : mg "isinstance" = none
  b_len : mg "len" = none
  b_list : mg "list" = none
  b_min : mg "min" = none
  b_range : mg "range" = none
  b_tuple : mg "tuple" = none
  b_type : mg "type" = none
  c_MOST : ∃ u, mg "MOST" = some u ∧ RelV (.int 400) u
  e_NoCount : ExF K mg "NoCount" a.e_NoCount
  e_NoQuay : ExF K mg "NoQuay" a.e_NoQuay
  e_NoWishes : ExF K mg "NoWishes" a.e_NoWishes
  e_TooMany : ExF K mg "TooMany" a.e_TooMany
abbrev s_is_number : Stmt := topS 8
theorem sc_is_number : FnScope N_is_number ["thing"] (defScope s_is_number) := ⟨rfl, rfl, rfl, by decide +kernel, rfl, by decide +kernel, by decide +kernel⟩
theorem ok_is_number (D : DF K mg "is_number" s_is_number ["thing"] a.f_is_number) (T : Txt K mg a) : Cb P w K mg base CX0 1 "is_number" a.f_is_number ["thing"] (sp_is_number K a) := by
  obtain ⟨⟨fd, F, bb⟩, gg⟩ := D
  refine ⟨⟨fd, F.ok sc_is_number (fun vs H Q E h => len_is_number h) (fun cdv A outer s H vs Q E hr h => ⟨t_is_number K a, ?_, pu_is_number h⟩), bb⟩, gg, F.kp⟩
  exact (pss_one (ps_ret (pe_cmpR op_isTyB (pe_callTy call_type1 (by rfl) T.b_type (by decide +kernel) (pa_cons (pv 0) pa_nil)) (pe_bltn (by rfl) T.b_int (by decide +kernel) rfl) (nomark _))))

abbrev s_is_from_to : Stmt := topS 9
theorem sc_is_from_to : FnScope N_is_from_to ["low", "high", "thing"] (defScope s_is_from_to) := ⟨rfl, rfl, rfl, by decide +kernel, rfl, by decide +kernel, by decide +kernel⟩
theorem ok_is_from_to (D : DF K mg "is_from_to" s_is_from_to ["low", "high", "thing"] a.f_is_from_to) (T : Txt K mg a) (g_is_number : Cb P w K mg base CX0 1 "is_number" a.f_is_number ["thing"] (sp_is_number K a)) : Cb P w K mg base CX0 2 "is_from_to" a.f_is_from_to ["low", "high", "thing"] (sp_is_from_to K a) := by
  obtain ⟨⟨fd, F, bb⟩, gg⟩ := D
  refine ⟨⟨fd, F.ok sc_is_from_to (fun vs H Q E h => len_is_from_to h) (fun cdv A outer s H vs Q E hr h => ⟨t_is_from_to K a, ?_, pu_is_from_to h⟩), bb⟩, gg, F.kp⟩
  exact (pss_one (ps_ret (pe_and (pe_cb g_is_number (hr.mono (by decide)) (by rfl) pass0 (pa_cons (pv 2) pa_nil)) (pe_one (pe_chain op_le op_le (pv 0) (pv 2) (pv 1))))))

abbrev s_is_row : Stmt := topS 10
theorem sc_is_row : FnScope N_is_row ["thing"] (defScope s_is_row) := ⟨rfl, rfl, rfl, by decide +kernel, rfl, by decide +kernel, by decide +kernel⟩
theorem ok_is_row (D : DF K mg "is_row" s_is_row ["thing"] a.f_is_row) (T : Txt K mg a) : Cb P w K mg base CX0 1 "is_row" a.f_is_row ["thing"] (sp_is_row K a) := by
  obtain ⟨⟨fd, F, bb⟩, gg⟩ := D
  refine ⟨⟨fd, F.ok sc_is_row (fun vs H Q E h => len_is_row h) (fun cdv A outer s H vs Q E hr h => ⟨t_is_row K a, ?_, pu_is_row h⟩), bb⟩, gg, F.kp⟩
  exact (pss_one (ps_ret (pe_or (pe_cmpR op_isTyB (pe_callTy call_type1 (by rfl) T.b_type (by decide +kernel) (pa_cons (pv 0) pa_nil)) (pe_bltn (by rfl) T.b_list (by decide +kernel) rfl) (nomark _)) (pe_one (pe_cmpR op_isTyB (pe_callTy call_type1 (by rfl) T.b_type (by decide +kernel) (pa_cons (pv 0) pa_nil)) (pe_bltn (by rfl) T.b_tuple (by decide +kernel) rfl) (nomark _))))))

abbrev s_check_quay : Stmt := topS 11
theorem sc_check_quay : FnScope N_check_quay ["berths"] (defScope s_check_quay) := ⟨rfl, rfl, rfl, by decide +kernel, rfl, by decide +kernel, by decide +kernel⟩
theorem ok_check_quay (D : DF K mg "check_quay" s_check_quay ["berths"] a.f_check_quay) (T : Txt K mg a) (g_is_from_to : Cb P w K mg base CX0 2 "is_from_to" a.f_is_from_to ["low", "high", "thing"] (sp_is_from_to K a)) : Cb P w K mg base (L2.CX P w) 3 "check_quay" a.f_check_quay ["berths"] (sp_check_quay K a) := by
  obtain ⟨⟨fd, F, bb⟩, gg⟩ := D
  refine ⟨⟨fd, F.okX sc_check_quay (fun vs H Q E h => len_check_quay h) (fun cdv A outer s H vs Q E hr h => ⟨t_check_quay K a E, ?_, pu_check_quay h⟩), bb⟩, gg, F.kp⟩
  exact (pss_one (ps_if (pt_not (pt_val (pe_cb g_is_from_to (hr.mono (by decide)) (by rfl) pass0 (pa_cons pe_int (pa_cons (pe_gl (by rfl) T.c_MOST) (pa_cons (pv 0) pa_nil)))))) (pss_one (ps_raise rfl (takes_of rfl rfl rfl rfl) (pmk_own PySem.F.excBase_ValueError T.e_NoQuay.x T.e_NoQuay.g T.e_NoQuay.k (raises_own T.e_NoQuay.b T.e_NoQuay.t) (by exact rfl)))) pss_nil))

abbrev s_check_wishes : Stmt := topS 12
theorem sc_check_wishes : FnScope N_check_wishes ["berths", "wishes"] (defScope s_check_wishes) := ⟨rfl, rfl, rfl, by decide +kernel, rfl, by decide +kernel, by decide +kernel⟩
theorem ok_check_wishes (D : DF K mg "check_wishes" s_check_wishes ["berths", "wishes"] a.f_check_wishes) (T : Txt K mg a) (g_is_from_to : Cb P w K mg base CX0 2 "is_from_to" a.f_is_from_to ["low", "high", "thing"] (sp_is_from_to K a)) (g_is_row : Cb P w K mg base CX0 1 "is_row" a.f_is_row ["thing"] (sp_is_row K a)) (g_check_quay : Cb P w K mg base (L2.CX P w) 3 "check_quay" a.f_check_quay ["berths"] (sp_check_quay K a)) : Cb P w K mg base (L2.CX P w) 4 "check_wishes" a.f_check_wishes ["berths", "wishes"] (sp_check_wishes K a) := by
  obtain ⟨⟨fd, F, bb⟩, gg⟩ := D
  refine ⟨⟨fd, F.okX sc_check_wishes (fun vs H Q E h => len_check_wishes h) (fun cdv A outer s H vs Q E hr h => ⟨t_check_wishes K a E, ?_, pu_check_wishes h⟩), bb⟩, gg, F.kp⟩
  exact (pss_cons (ps_expr (pe_cb g_check_quay (hr.mono (by decide)) (by rfl) (passes_call (takes_of rfl rfl rfl rfl) (fun _ _ _ _ h => h)) (pa_cons (pv 0) pa_nil)))
    (pss_cons (ps_if (pt_not (pt_val (pe_cb g_is_row (hr.mono (by decide)) (by rfl) pass0 (pa_cons (pv 1) pa_nil)))) (pss_one (ps_raise rfl (takes_of rfl rfl rfl rfl) (pmk_own PySem.F.excBase_ValueError T.e_NoWishes.x T.e_NoWishes.g T.e_NoWishes.k (raises_own T.e_NoWishes.b T.e_NoWishes.t) (by exact rfl)))) pss_nil)
    (pss_cons (ps_if (pt_cmpR op_gt (pe_callB call_len_seq (by rfl) T.b_len (by decide +kernel) (pa_cons (pv 1) pa_nil)) (pe_gl (by rfl) T.c_MOST) (nomark _)) (pss_one (ps_raise rfl (takes_of rfl rfl rfl rfl) (pmk_own PySem.F.excBase_ValueError T.e_NoWishes.x T.e_NoWishes.g T.e_NoWishes.k (raises_own T.e_NoWishes.b T.e_NoWishes.t) (by exact rfl)))) pss_nil)
    (pss_one (ps_for (passes_of rfl) rfl (pi_seq (pv 1)) (pg_name (i := 2) sc_check_wishes.nd rfl (by first | exact Or.inl rfl | exact Or.inr rfl))
    (pss_one (ps_if (pt_not (pt_val (pe_cb g_is_from_to (hr.mono (by decide)) (by rfl) pass0 (pa_cons pe_int (pa_cons (pv 0) (pa_cons (pv 2) pa_nil)))))) (pss_one (ps_raise rfl (takes_of rfl rfl rfl rfl) (pmk_own PySem.F.excBase_ValueError T.e_NoWishes.x T.e_NoWishes.g T.e_NoWishes.k (raises_own T.e_NoWishes.b T.e_NoWishes.t) (by exact rfl)))) pss_nil)))))))

abbrev s_first_free : Stmt := topS 14
theorem sc_first_free : FnScope N_first_free ["held", "wish"] (defScope s_first_free) := ⟨rfl, rfl, rfl, by decide +kernel, rfl, by decide +kernel, by decide +kernel⟩
theorem ok_first_free (D : DF K mg "first_free" s_first_free ["held", "wish"] a.f_first_free) (T : Txt K mg a) : Cb P w K mg base CX0 1 "first_free" a.f_first_free ["held", "wish"] (sp_first_free K a) := by
  obtain ⟨⟨fd, F, bb⟩, gg⟩ := D
  refine ⟨⟨fd, F.ok sc_first_free (fun vs H Q E h => len_first_free h) (fun cdv A outer s H vs Q E hr h => ⟨t_first_free K a, ?_, pu_first_free h⟩), bb⟩, gg, F.kp⟩
  exact (pss_cons (ps_for PassesOwn.never rfl (pi_range2 (by rfl) T.b_range (pa_cons (pv 1) (pa_cons (pe_callB call_len_seq (by rfl) T.b_len (by decide +kernel) (pa_cons (pv 0) pa_nil)) pa_nil))) (pg_name (i := 2) sc_first_free.nd rfl (by first | exact Or.inl rfl | exact Or.inr rfl))
    (pss_one (ps_if (pt_not (pt_val (pe_ix ix_list (pv 0) (pv 2) (fun _ _ => rfl)))) (pss_one (ps_ret (pv 2))) pss_nil)))
    (pss_one (ps_ret pe_non)))

abbrev s_crowded : Stmt := topS 16
theorem sc_crowded : FnScope N_crowded ["berths", "wishes"] (defScope s_crowded) := ⟨rfl, rfl, rfl, by decide +kernel, rfl, by decide +kernel, by decide +kernel⟩
theorem ok_crowded (D : DF K mg "crowded" s_crowded ["berths", "wishes"] a.f_crowded) (T : Txt K mg a) (g_check_wishes : Cb P w K mg base (L2.CX P w) 4 "check_wishes" a.f_check_wishes ["berths", "wishes"] (sp_check_wishes K a)) : Cb P w K mg base (L2.CX P w) 5 "crowded" a.f_crowded ["berths", "wishes"] (sp_crowded K a) := by
  obtain ⟨⟨fd, F, bb⟩, gg⟩ := D
  refine ⟨⟨fd, F.okX sc_crowded (fun vs H Q E h => len_crowded h) (fun cdv A outer s H vs Q E hr h => ⟨t_crowded K a E, ?_, pu_crowded h⟩), bb⟩, gg, F.kp⟩
  exact (pss_cons (ps_expr (pe_cb g_check_wishes (hr.mono (by decide)) (by rfl) (passes_call (takes_of rfl rfl rfl rfl) (fun _ _ _ _ h => h)) (pa_cons (pv 0) (pa_cons (pv 1) pa_nil))))
    (pss_cons (ps_set (i := 2) sc_crowded.nd rfl (by first | exact Or.inl rfl | exact Or.inr rfl) (pe_op op_rep (pe_lst (pa_cons pe_int pa_nil)) (pe_op op_add (pv 0) pe_int)))
    (pss_cons (ps_for (passes_of rfl) rfl (pi_seq (pv 1)) (pg_name (i := 3) sc_crowded.nd rfl (by first | exact Or.inl rfl | exact Or.inr rfl))
    (pss_one (ps_augS (pv 2) (pv 3) gt_list pe_int ip_add set_list)))
    (pss_cons (ps_set (i := 4) sc_crowded.nd rfl (by first | exact Or.inl rfl | exact Or.inr rfl) pe_int)
    (pss_cons (ps_for (passes_of rfl) rfl (pi_range3 (by rfl) T.b_range (pa_cons (pv 0) (pa_cons pe_int (pa_cons (pe_un un_neg pe_int) pa_nil)))) (pg_name (i := 5) sc_crowded.nd rfl (by first | exact Or.inl rfl | exact Or.inr rfl))
    (pss_cons (ps_aug (i := 4) sc_crowded.nd rfl (by first | exact Or.inl rfl | exact Or.inr rfl) (pe_ix ix_list (pv 2) (pv 5) (fun _ _ => rfl)) ip_add)
    (pss_one (ps_if (pt_cmpR op_gt (pv 4) (pe_op op_add (pe_op op_sub (pv 0) (pv 5)) pe_int) (nomark _)) (pss_one (ps_ret (pv 5))) pss_nil))))
    (pss_one (ps_ret pe_non)))))))

abbrev s_is_good : Stmt := topS 15
theorem sc_is_good : FnScope N_is_good ["berths", "wishes"] (defScope s_is_good) := ⟨rfl, rfl, rfl, by decide +kernel, rfl, by decide +kernel, by decide +kernel⟩
theorem ok_is_good (D : DF K mg "is_good" s_is_good ["berths", "wishes"] a.f_is_good) (T : Txt K mg a) (g_crowded : Cb P w K mg base (L2.CX P w) 5 "crowded" a.f_crowded ["berths", "wishes"] (sp_crowded K a)) : Cb P w K mg base (L2.CX P w) 6 "is_good" a.f_is_good ["berths", "wishes"] (sp_is_good K a) := by
  obtain ⟨⟨fd, F, bb⟩, gg⟩ := D
  refine ⟨⟨fd, F.okX sc_is_good (fun vs H Q E h => len_is_good h) (fun cdv A outer s H vs Q E hr h => ⟨t_is_good K a E, ?_, pu_is_good h⟩), bb⟩, gg, F.kp⟩
  exact (pss_one (ps_ret (pe_cmp (pc_isN (pe_cb g_crowded (hr.mono (by decide)) (by rfl) (passes_call (takes_of rfl rfl rfl rfl) (fun _ _ _ _ h => h)) (pa_cons (pv 0) (pa_cons (pv 1) pa_nil)))) rfl)))

abbrev s_first_free_round : Stmt := topS 18
theorem sc_first_free_round : FnScope N_first_free_round ["held", "wish"] (defScope s_first_free_round) := ⟨rfl, rfl, rfl, by decide +kernel, rfl, by decide +kernel, by decide +kernel⟩
theorem ok_first_free_round (D : DF K mg "first_free_round" s_first_free_round ["held", "wish"] a.f_first_free_round) (T : Txt K mg a) (g_first_free : Cb P w K mg base CX0 1 "first_free" a.f_first_free ["held", "wish"] (sp_first_free K a)) : Cb P w K mg base CX0 2 "first_free_round" a.f_first_free_round ["held", "wish"] (sp_first_free_round K a) := by
  obtain ⟨⟨fd, F, bb⟩, gg⟩ := D
  refine ⟨⟨fd, F.ok sc_first_free_round (fun vs H Q E h => len_first_free_round h) (fun cdv A outer s H vs Q E hr h => ⟨t_first_free_round K a, ?_, pu_first_free_round h⟩), bb⟩, gg, F.kp⟩
  exact (pss_cons (ps_set (i := 2) sc_first_free_round.nd rfl (by first | exact Or.inl rfl | exact Or.inr rfl) (pe_cb g_first_free (hr.mono (by decide)) (by rfl) pass0 (pa_cons (pv 0) (pa_cons (pv 1) pa_nil))))
    (pss_cons (ps_if (pt_cmp (pc_isN (pv 2)) rfl) (pss_one (ps_ret (pe_cb g_first_free (hr.mono (by decide)) (by rfl) pass0 (pa_cons (pv 0) (pa_cons pe_int pa_nil))))) pss_nil)
    (pss_one (ps_ret (pv 2)))))

abbrev s_placed_round : Stmt := topS 19
theorem sc_placed_round : FnScope N_placed_round ["berths", "wishes"] (defScope s_placed_round) := ⟨rfl, rfl, rfl, by decide +kernel, rfl, by decide +kernel, by decide +kernel⟩
theorem ok_placed_round (D : DF K mg "placed_round" s_placed_round ["berths", "wishes"] a.f_placed_round) (T : Txt K mg a) (g_check_wishes : Cb P w K mg base (L2.CX P w) 4 "check_wishes" a.f_check_wishes ["berths", "wishes"] (sp_check_wishes K a)) (g_first_free_round : Cb P w K mg base CX0 2 "first_free_round" a.f_first_free_round ["held", "wish"] (sp_first_free_round K a)) : Cb P w K mg base (L2.CX P w) 5 "placed_round" a.f_placed_round ["berths", "wishes"] (sp_placed_round K a) := by
  obtain ⟨⟨fd, F, bb⟩, gg⟩ := D
  refine ⟨⟨fd, F.okX sc_placed_round (fun vs H Q E h => len_placed_round h) (fun cdv A outer s H vs Q E hr h => ⟨t_placed_round K a E, ?_, pu_placed_round h⟩), bb⟩, gg, F.kp⟩
  exact (pss_cons (ps_expr (pe_cb g_check_wishes (hr.mono (by decide)) (by rfl) (passes_call (takes_of rfl rfl rfl rfl) (fun _ _ _ _ h => h)) (pa_cons (pv 0) (pa_cons (pv 1) pa_nil))))
    (pss_cons (ps_if (pt_cmpR op_gt (pe_callB call_len_seq (by rfl) T.b_len (by decide +kernel) (pa_cons (pv 1) pa_nil)) (pv 0) (nomark _)) (pss_one (ps_raise rfl (takes_of rfl rfl rfl rfl) (pmk_own PySem.F.excBase_ValueError T.e_TooMany.x T.e_TooMany.g T.e_TooMany.k (raises_own T.e_TooMany.b T.e_TooMany.t) (by exact rfl)))) pss_nil)
    (pss_cons (ps_set (i := 2) sc_placed_round.nd rfl (by first | exact Or.inl rfl | exact Or.inr rfl) (pe_op op_rep (pe_lst (pa_cons pe_bl pa_nil)) (pe_op op_add (pv 0) pe_int)))
    (pss_cons (ps_set (i := 3) sc_placed_round.nd rfl (by first | exact Or.inl rfl | exact Or.inr rfl) (pe_lst pa_nil))
    (pss_cons (ps_for (passes_of rfl) rfl (pi_seq (pv 1)) (pg_name (i := 4) sc_placed_round.nd rfl (by first | exact Or.inl rfl | exact Or.inr rfl))
    (pss_cons (ps_set (i := 5) sc_placed_round.nd rfl (by first | exact Or.inl rfl | exact Or.inr rfl) (pe_cb g_first_free_round (hr.mono (by decide)) (by rfl) pass0 (pa_cons (pv 2) (pa_cons (pv 4) pa_nil))))
    (pss_cons (ps_asg pe_bl (pg_sub (pv 2) (pv 5) set_list))
    (pss_one (ps_expr (pe_bm PySem.F.plainAttrs_list PySem.F.slot_list_append PySem.F.type_list_append mt_append (pv 3) (pa_cons (pv 5) pa_nil)))))))
    (pss_one (ps_ret (pv 3))))))))

abbrev s_left_over : Stmt := topS 20
theorem sc_left_over : FnScope N_left_over ["berths", "wishes"] (defScope s_left_over) := ⟨rfl, rfl, rfl, by decide +kernel, rfl, by decide +kernel, by decide +kernel⟩
theorem ok_left_over (D : DF K mg "left_over" s_left_over ["berths", "wishes"] a.f_left_over) (T : Txt K mg a) (g_placed_round : Cb P w K mg base (L2.CX P w) 5 "placed_round" a.f_placed_round ["berths", "wishes"] (sp_placed_round K a)) : Cb P w K mg base (L2.CX P w) 6 "left_over" a.f_left_over ["berths", "wishes"] (sp_left_over K a) := by
  obtain ⟨⟨fd, F, bb⟩, gg⟩ := D
  refine ⟨⟨fd, F.okX sc_left_over (fun vs H Q E h => len_left_over h) (fun cdv A outer s H vs Q E hr h => ⟨t_left_over K a E, ?_, pu_left_over h⟩), bb⟩, gg, F.kp⟩
  exact (pss_cons (ps_set (i := 2) sc_left_over.nd rfl (by first | exact Or.inl rfl | exact Or.inr rfl) (pe_cb g_placed_round (hr.mono (by decide)) (by rfl) (passes_call (takes_of rfl rfl rfl rfl) (fun _ _ _ _ h => h)) (pa_cons (pv 0) (pa_cons (pv 1) pa_nil))))
    (pss_one (ps_ret (pe_lc (own := [("berth", 3)]) rfl sc_left_over.nd (pi_range2 (by rfl) T.b_range (pa_cons pe_int (pa_cons (pe_op op_add (pv 0) pe_int) pa_nil))) (blkOk_by (N := N_left_over) (sc := defScope s_left_over) (by decide +kernel)) (fun _ _ _ _ _ => (pg_name (i := 3) sc_left_over.nd rfl (by first | exact Or.inl rfl | exact Or.inr rfl))) (fun _ _ _ _ _ => (pts_one (pt_cmpR op_notIn_seq (pv 3) (pv 2) (by rfl)))) (fun _ _ _ _ _ => (pv 3))))))

abbrev s_turned : Stmt := topS 21
theorem sc_turned : FnScope N_turned ["berths", "wishes", "by"] (defScope s_turned) := ⟨rfl, rfl, rfl, by decide +kernel, rfl, by decide +kernel, by decide +kernel⟩
theorem ok_turned (D : DF K mg "turned" s_turned ["berths", "wishes", "by"] a.f_turned) (T : Txt K mg a) (g_is_number : Cb P w K mg base CX0 1 "is_number" a.f_is_number ["thing"] (sp_is_number K a)) (g_check_wishes : Cb P w K mg base (L2.CX P w) 4 "check_wishes" a.f_check_wishes ["berths", "wishes"] (sp_check_wishes K a)) : Cb P w K mg base (L2.CX P w) 5 "turned" a.f_turned ["berths", "wishes", "by"] (sp_turned K a) := by
  obtain ⟨⟨fd, F, bb⟩, gg⟩ := D
  refine ⟨⟨fd, F.okX sc_turned (fun vs H Q E h => len_turned h) (fun cdv A outer s H vs Q E hr h => ⟨t_turned K a E, ?_, pu_turned h⟩), bb⟩, gg, F.kp⟩
  exact (pss_cons (ps_expr (pe_cb g_check_wishes (hr.mono (by decide)) (by rfl) (passes_call (takes_of rfl rfl rfl rfl) (fun _ _ _ _ h => h)) (pa_cons (pv 0) (pa_cons (pv 1) pa_nil))))
    (pss_cons (ps_if (pt_not (pt_val (pe_cb g_is_number (hr.mono (by decide)) (by rfl) pass0 (pa_cons (pv 2) pa_nil)))) (pss_one (ps_raise rfl (takes_of rfl rfl rfl rfl) (pmk_own PySem.F.excBase_ValueError T.e_NoCount.x T.e_NoCount.g T.e_NoCount.k (raises_own T.e_NoCount.b T.e_NoCount.t) (by exact rfl)))) pss_nil)
    (pss_one (ps_ret (pe_lc (own := [("wish", 3)]) rfl sc_turned.nd (pi_seq (pv 1)) (blkOk_by (N := N_turned) (sc := defScope s_turned) (by decide +kernel)) (fun _ _ _ _ _ => (pg_name (i := 3) sc_turned.nd rfl (by first | exact Or.inl rfl | exact Or.inr rfl))) (fun _ _ _ _ _ => pts_nil) (fun _ _ _ _ _ => (pe_op op_add (pe_op op_mod (pe_op op_add (pe_op op_sub (pv 3) pe_int) (pv 2)) (pv 0)) pe_int)))))))

abbrev s_turning : Stmt := topS 22
theorem sc_turning : FnScope N_turning ["berths", "wishes"] (defScope s_turning) := ⟨rfl, rfl, rfl, by decide +kernel, rfl, by decide +kernel, by decide +kernel⟩
theorem ok_turning (D : DF K mg "turning" s_turning ["berths", "wishes"] a.f_turning) (T : Txt K mg a) (g_check_wishes : Cb P w K mg base (L2.CX P w) 4 "check_wishes" a.f_check_wishes ["berths", "wishes"] (sp_check_wishes K a)) (g_left_over : Cb P w K mg base (L2.CX P w) 6 "left_over" a.f_left_over ["berths", "wishes"] (sp_left_over K a)) : Cb P w K mg base (L2.CX P w) 7 "turning" a.f_turning ["berths", "wishes"] (sp_turning K a) := by
  obtain ⟨⟨fd, F, bb⟩, gg⟩ := D
  refine ⟨⟨fd, F.okX sc_turning (fun vs H Q E h => len_turning h) (fun cdv A outer s H vs Q E hr h => ⟨t_turning K a E, ?_, pu_turning h⟩), bb⟩, gg, F.kp⟩
  exact (pss_cons (ps_expr (pe_cb g_check_wishes (hr.mono (by decide)) (by rfl) (passes_call (takes_of rfl rfl rfl rfl) (fun _ _ _ _ h => h)) (pa_cons (pv 0) (pa_cons (pv 1) pa_nil))))
    (pss_cons (ps_if (pt_cmpR op_ne (pe_callB call_len_seq (by rfl) T.b_len (by decide +kernel) (pa_cons (pv 1) pa_nil)) (pe_op op_sub (pv 0) pe_int) (nomark _)) (pss_one (ps_raise rfl (takes_of rfl rfl rfl rfl) (pmk_own PySem.F.excBase_ValueError T.e_NoWishes.x T.e_NoWishes.g T.e_NoWishes.k (raises_own T.e_NoWishes.b T.e_NoWishes.t) (by exact rfl)))) pss_nil)
    (pss_one (ps_ret (pe_op op_sub (pv 0) (pe_ix ix_list (pe_cb g_left_over (hr.mono (by decide)) (by rfl) (passes_call (takes_of rfl rfl rfl rfl) (fun _ _ _ _ h => h)) (pa_cons (pv 0) (pa_cons (pv 1) pa_nil))) pe_int (fun _ _ => rfl)))))))

abbrev s_l_cell_at : Stmt := topS 24
theorem sc_l_cell_at : FnScope N_l_cell_at ["_law_script", "_law_k"] (defScope s_l_cell_at) := ⟨rfl, rfl, rfl, by decide +kernel, rfl, by decide +kernel, by decide +kernel⟩
theorem ok_l_cell_at (D : DF K mg "_law_cell_at" s_l_cell_at ["_law_script", "_law_k"] a.f_l_cell_at) (T : Txt K mg a) : Cb P w K mg base CX0 1 "_law_cell_at" a.f_l_cell_at ["_law_script", "_law_k"] (sp_l_cell_at K) := by
  obtain ⟨⟨fd, F, bb⟩, gg⟩ := D
  refine ⟨⟨fd, F.ok sc_l_cell_at (fun vs H Q E h => len_l_cell_at h) (fun cdv A outer s H vs Q E hr h => ⟨t_l_cell_at K a, ?_, pu_l_cell_at h⟩), bb⟩, gg, F.kp⟩
  exact (pss_cons (ps_if (pt_cmpR op_lt (pv 1) (pe_callB call_len_seq (by rfl) T.b_len (by decide +kernel) (pa_cons (pv 0) pa_nil)) (nomark _)) (pss_one (ps_ret (pe_ix ix_list (pv 0) (pv 1) (fun _ _ => rfl)))) pss_nil)
    (pss_one (ps_ret pe_int)))

abbrev s_l_mix : Stmt := topS 25
theorem sc_l_mix : FnScope N_l_mix ["_law_state", "_law_cell"] (defScope s_l_mix) := ⟨rfl, rfl, rfl, by decide +kernel, rfl, by decide +kernel, by decide +kernel⟩
theorem ok_l_mix (D : DF K mg "_law_mix" s_l_mix ["_law_state", "_law_cell"] a.f_l_mix) (T : Txt K mg a) : Cb P w K mg base CX0 1 "_law_mix" a.f_l_mix ["_law_state", "_law_cell"] (sp_l_mix K) := by
  obtain ⟨⟨fd, F, bb⟩, gg⟩ := D
  refine ⟨⟨fd, F.ok sc_l_mix (fun vs H Q E h => len_l_mix h) (fun cdv A outer s H vs Q E hr h => ⟨t_l_mix K a, ?_, pu_l_mix h⟩), bb⟩, gg, F.kp⟩
  exact (pss_cons (ps_asg (pe_op op_mod (pe_op op_add (pe_op op_add (pe_op op_mul (pe_ix ix_list (pv 0) pe_int (fun _ _ => rfl)) pe_int) (pe_op op_mul (pv 1) pe_int)) pe_int) pe_int) (pg_sub (pv 0) pe_int set_list))
    (pss_one (ps_ret (pe_op op_fdiv (pe_op op_mod (pe_op op_mul (pe_ix ix_list (pv 0) pe_int (fun _ _ => rfl)) (pe_ix ix_list (pv 0) pe_int (fun _ _ => rfl))) pe_int) pe_int))))

abbrev s_l_whole : Stmt := topS 26
theorem sc_l_whole : FnScope N_l_whole ["_law_found"] (defScope s_l_whole) := ⟨rfl, rfl, rfl, by decide +kernel, rfl, by decide +kernel, by decide +kernel⟩
theorem ok_l_whole (D : DF K mg "_law_whole" s_l_whole ["_law_found"] a.f_l_whole) (T : Txt K mg a) : Cb P w K mg base CX0 1 "_law_whole" a.f_l_whole ["_law_found"] (sp_l_whole K) := by
  obtain ⟨⟨fd, F, bb⟩, gg⟩ := D
  refine ⟨⟨fd, F.ok sc_l_whole (fun vs H Q E h => len_l_whole h) (fun cdv A outer s H vs Q E hr h => ⟨t_l_whole K a, ?_, pu_l_whole h⟩), bb⟩, gg, F.kp⟩
  exact (pss_one (ps_ret (pe_and (pe_callB call_isi (by rfl) T.b_isinstance (by decide +kernel) (pa_cons (pv 0) (pa_cons (pe_bltn (by rfl) T.b_int (by decide +kernel) rfl) pa_nil))) (pe_one (pe_not (pe_callB call_isi (by rfl) T.b_isinstance (by decide +kernel) (pa_cons (pv 0) (pa_cons (pe_bltn (by rfl) T.b_bool (by decide +kernel) rfl) pa_nil))))))))

abbrev s_law : Stmt := topS 27
theorem sc_law : FnScope N_law ["_law_script"] (defScope s_law) := ⟨rfl, rfl, rfl, by decide +kernel, rfl, by decide +kernel, by decide +kernel⟩
theorem ok_law {f : Addr} {fd : FuncData} (F : Fun K "law" "law" s_law f fd) (T : Txt K mg a) (g_is_good : Cb P w K mg base (L2.CX P w) 6 "is_good" a.f_is_good ["berths", "wishes"] (sp_is_good K a)) (g_left_over : Cb P w K mg base (L2.CX P w) 6 "left_over" a.f_left_over ["berths", "wishes"] (sp_left_over K a)) (g_turned : Cb P w K mg base (L2.CX P w) 5 "turned" a.f_turned ["berths", "wishes", "by"] (sp_turned K a)) (g_turning : Cb P w K mg base (L2.CX P w) 7 "turning" a.f_turning ["berths", "wishes"] (sp_turning K a)) (g_l_cell_at : Cb P w K mg base CX0 1 "_law_cell_at" a.f_l_cell_at ["_law_script", "_law_k"] (sp_l_cell_at K)) (g_l_mix : Cb P w K mg base CX0 1 "_law_mix" a.f_l_mix ["_law_state", "_law_cell"] (sp_l_mix K)) (g_l_whole : Cb P w K mg base CX0 1 "_law_whole" a.f_l_whole ["_law_found"] (sp_l_whole K)) : FnOk P w K mg base CX0 8 f fd ["_law_script"] (sp_law K) := by
  refine F.ok sc_law (fun vs H Q E h => len_law h) (fun cdv A outer s H vs Q E hr h => ⟨t_law K a, ?_, pu_law h⟩)
  exact (pss_cons (ps_set (i := 1) sc_law.nd rfl (by first | exact Or.inl rfl | exact Or.inr rfl) (pe_op op_add pe_int (pe_op op_mod (pe_cb g_l_cell_at (hr.mono (by decide)) (by rfl) pass0 (pa_cons (pv 0) (pa_cons pe_int pa_nil))) (pe_ix ix_list (pe_lst (pa_cons pe_int (pa_cons pe_int (pa_cons pe_int pa_nil)))) (pe_op op_mod (pe_cb g_l_cell_at (hr.mono (by decide)) (by rfl) pass0 (pa_cons (pv 0) (pa_cons pe_int pa_nil))) pe_int) (fun _ _ => rfl)))))
    (pss_cons (ps_set (i := 2) sc_law.nd rfl (by first | exact Or.inl rfl | exact Or.inr rfl) (pe_ix ix_list (pe_lst (pa_cons (pv 1) (pa_cons (pe_callB (call_min2 rfl) (by rfl) T.b_min (by decide +kernel) (pa_cons (pv 1) (pa_cons pe_int pa_nil))) pa_nil))) (pe_op op_mod (pe_op op_fdiv (pe_cb g_l_cell_at (hr.mono (by decide)) (by rfl) pass0 (pa_cons (pv 0) (pa_cons pe_int pa_nil))) pe_int) pe_int) (fun _ _ => rfl)))
    (pss_cons (ps_set (i := 3) sc_law.nd rfl (by first | exact Or.inl rfl | exact Or.inr rfl) (pe_lst (pa_cons (pe_op op_add pe_int (pe_op op_mod (pe_cb g_l_cell_at (hr.mono (by decide)) (by rfl) pass0 (pa_cons (pv 0) (pa_cons pe_int pa_nil))) pe_int)) pa_nil)))
    (pss_cons (ps_setLc (i := 4) (own := [("_law_cell", 10)]) rfl sc_law.nd rfl rfl (sw_true rfl rfl rfl (by decide +kernel)) (pi_list (pe_slice sl_list (pv 0) (po_some pe_int) (po_some (pe_op op_add pe_int (pv 1))))) (blkOk_by (N := N_law) (sc := defScope s_law) (by decide +kernel)) (fun _ _ _ _ _ => (pg_name (i := 10) sc_law.nd rfl (by first | exact Or.inl rfl | exact Or.inr rfl))) (fun _ _ _ _ _ => pts_nil) (fun _ _ _ _ _ => (pe_op op_add pe_int (pe_op op_mod (pv 10) (pv 2)))))
    (pss_cons (ps_while PassesOwn.never (pt_cmpR op_lt (pe_callB call_len_seq (by rfl) T.b_len (by decide +kernel) (pa_cons (pv 4) pa_nil)) (pe_op op_sub (pv 1) pe_int) (nomark _)) (pss_one (ps_expr (pe_bm PySem.F.plainAttrs_list PySem.F.slot_list_append PySem.F.type_list_append mt_append (pv 4) (pa_cons (pe_op op_add pe_int (pe_op op_mod (pe_cb g_l_mix (hr.mono (by decide)) (by rfl) pass0 (pa_cons (pv 3) (pa_cons (pe_cb g_l_cell_at (hr.mono (by decide)) (by rfl) pass0 (pa_cons (pv 0) (pa_cons pe_int pa_nil))) pa_nil))) (pv 2))) pa_nil)))))
    (pss_cons (ps_set (i := 5) sc_law.nd rfl (by first | exact Or.inl rfl | exact Or.inr rfl) (pe_cb g_turning (hr.mono (by decide)) (by rfl) passL (pa_cons (pv 1) (pa_cons (pv 4) pa_nil))))
    (pss_cons (ps_if (PW.pt (pw_or (pt_not (pt_val (pe_cb g_l_whole (hr.mono (by decide)) (by rfl) pass0 (pa_cons (pv 5) pa_nil)))) (pw_or (pt_not (pt_chain op_le op_lt pe_int (pv 5) (pv 1))) (pw_or1 (pt_cmpR op_ne (pe_callB call_len_seq (by rfl) T.b_len (by decide +kernel) (pa_cons (pe_cb g_left_over (hr.mono (by decide)) (by rfl) passL (pa_cons (pv 1) (pa_cons (pv 4) pa_nil))) pa_nil)) pe_int (nomark _)))))) (pss_one (ps_ret pe_bl)) pss_nil)
    (pss_cons (ps_for PassesOwn.never rfl (pi_range1 (by rfl) T.b_range (pa_cons (pv 1) pa_nil)) (pg_name (i := 6) sc_law.nd rfl (by first | exact Or.inl rfl | exact Or.inr rfl))
    (pss_cons (ps_set (i := 7) sc_law.nd rfl (by first | exact Or.inl rfl | exact Or.inr rfl) (pe_cb g_turned (hr.mono (by decide)) (by rfl) passL (pa_cons (pv 1) (pa_cons (pv 4) (pa_cons (pv 6) pa_nil)))))
    (pss_cons (ps_set (i := 8) sc_law.nd rfl (by first | exact Or.inl rfl | exact Or.inr rfl) (pe_cmpR (op_eqT hr.units) (pe_cb g_left_over (hr.mono (by decide)) (by rfl) passL (pa_cons (pv 1) (pa_cons (pv 7) pa_nil))) (pe_lst (pa_cons (pv 1) pa_nil)) (nomark _)))
    (pss_cons (ps_set (i := 9) sc_law.nd rfl (by first | exact Or.inl rfl | exact Or.inr rfl) pe_bl)
    (pss_cons (ps_if (pt_cmpR op_notIn_seq (pv 1) (pv 7) (by rfl)) (pss_one (ps_set (i := 9) sc_law.nd rfl (by first | exact Or.inl rfl | exact Or.inr rfl) (pe_cb g_is_good (hr.mono (by decide)) (by rfl) passL (pa_cons (pe_op op_sub (pv 1) pe_int) (pa_cons (pv 7) pa_nil))))) pss_nil)
    (pss_one (ps_if (PW.pt (pw_or (pt_cmpR op_ne (pv 8) (pe_cmpR op_eq (pv 6) (pv 5) (nomark _)) (nomark _)) (pw_or1 (pt_cmpR op_ne (pv 9) (pv 8) (nomark _))))) (pss_one (ps_ret pe_bl)) pss_nil)))))))
    (pss_one (ps_ret (pe_and (pe_cmpR op_eq (pe_cb g_turning (hr.mono (by decide)) (by rfl) passL (pa_cons (pv 1) (pa_cons (pe_callTy call_tuple_of (by rfl) T.b_tuple (by decide +kernel) (pa_cons (pv 4) pa_nil)) pa_nil))) (pv 5) (nomark _)) (pe_one (pe_cmpR op_eq (pe_cb g_turning (hr.mono (by decide)) (by rfl) passL (pa_cons (pv 1) (pa_cons (pe_cb g_turned (hr.mono (by decide)) (by rfl) passL (pa_cons (pv 1) (pa_cons (pv 4) (pa_cons (pv 5) pa_nil)))) pa_nil))) pe_int (nomark _))))))))))))))
end
theorem all_mk {P : Program} {w : World} {K : PySem.W.Frag} {h : Heap} {mg : Str → Option Value} {fa : Addr} (X : K.In h) (G : h.Ns mainGlobals mg) (hfa : mg "law" = some (.ref fa))
    {f_is_number f_is_from_to f_is_row f_check_quay f_check_wishes f_first_free f_crowded f_is_good f_first_free_round f_placed_round f_left_over f_turned f_turning f_l_cell_at f_l_mix f_l_whole f_law e_NoCount e_NoQuay e_NoWishes e_TooMany : Addr}
    {od_is_number an_is_number od_is_from_to an_is_from_to od_is_row an_is_row od_check_quay an_check_quay od_check_wishes an_check_wishes od_first_free an_first_free od_crowded an_crowded od_is_good an_is_good od_first_free_round an_first_free_round od_placed_round an_placed_round od_left_over an_left_over od_turned an_turned od_turning an_turning od_l_cell_at an_l_cell_at od_l_mix an_l_mix od_l_whole an_l_whole od_law an_law : Option Addr}
    {sl_is_number sl_is_from_to sl_is_row sl_check_quay sl_check_wishes sl_first_free sl_crowded sl_is_good sl_first_free_round sl_placed_round sl_left_over sl_turned sl_turning sl_l_cell_at sl_l_mix sl_l_whole sl_law : Array (Option Value)}
    {oc_is_number kV_is_number dc_is_number pm_is_number cd_is_number ct_is_number oc_is_from_to kV_is_from_to dc_is_from_to pm_is_from_to cd_is_from_to ct_is_from_to oc_is_row kV_is_row dc_is_row pm_is_row cd_is_row ct_is_row oc_check_quay kV_check_quay dc_check_quay pm_check_quay cd_check_quay ct_check_quay oc_check_wishes kV_check_wishes dc_check_wishes pm_check_wishes cd_check_wishes ct_check_wishes oc_first_free kV_first_free dc_first_free pm_first_free cd_first_free ct_first_free oc_crowded kV_crowded dc_crowded pm_crowded cd_crowded ct_crowded oc_is_good kV_is_good dc_is_good pm_is_good cd_is_good ct_is_good oc_first_free_round kV_first_free_round dc_first_free_round pm_first_free_round cd_first_free_round ct_first_free_round oc_placed_round kV_placed_round dc_placed_round pm_placed_round cd_placed_round ct_placed_round oc_left_over kV_left_over dc_left_over pm_left_over cd_left_over ct_left_over oc_turned kV_turned dc_turned pm_turned cd_turned ct_turned oc_turning kV_turning dc_turning pm_turning cd_turning ct_turning oc_l_cell_at kV_l_cell_at dc_l_cell_at pm_l_cell_at cd_l_cell_at ct_l_cell_at oc_l_mix kV_l_mix dc_l_mix pm_l_mix cd_l_mix ct_l_mix oc_l_whole kV_l_whole dc_l_whole pm_l_whole cd_l_whole ct_l_whole oc_law kV_law dc_law pm_law cd_law ct_law : Value}
    {t_MOST : Tok}
    (a_is_number : PySem.W.nsIn K mainGlobals "is_number" = some (some (.ref f_is_number))) (l_is_number : K.lookup f_is_number = some ⟨oc_is_number, od_is_number, .func (PySem.W.fnOf "is_number" "is_number" (defArgs s_is_number) (defBody s_is_number) (defScope s_is_number) .none kV_is_number dc_is_number pm_is_number an_is_number cd_is_number ct_is_number), sl_is_number⟩) (cI_is_number : PySem.W.codeIn K cd_is_number "is_number" = true) (kI_is_number : PySem.W.keepIn K (.ref f_is_number) = true)
    (a_is_from_to : PySem.W.nsIn K mainGlobals "is_from_to" = some (some (.ref f_is_from_to))) (l_is_from_to : K.lookup f_is_from_to = some ⟨oc_is_from_to, od_is_from_to, .func (PySem.W.fnOf "is_from_to" "is_from_to" (defArgs s_is_from_to) (defBody s_is_from_to) (defScope s_is_from_to) .none kV_is_from_to dc_is_from_to pm_is_from_to an_is_from_to cd_is_from_to ct_is_from_to), sl_is_from_to⟩) (cI_is_from_to : PySem.W.codeIn K cd_is_from_to "is_from_to" = true) (kI_is_from_to : PySem.W.keepIn K (.ref f_is_from_to) = true)
    (a_is_row : PySem.W.nsIn K mainGlobals "is_row" = some (some (.ref f_is_row))) (l_is_row : K.lookup f_is_row = some ⟨oc_is_row, od_is_row, .func (PySem.W.fnOf "is_row" "is_row" (defArgs s_is_row) (defBody s_is_row) (defScope s_is_row) .none kV_is_row dc_is_row pm_is_row an_is_row cd_is_row ct_is_row), sl_is_row⟩) (cI_is_row : PySem.W.codeIn K cd_is_row "is_row" = true) (kI_is_row : PySem.W.keepIn K (.ref f_is_row) = true)
    (a_check_quay : PySem.W.nsIn K mainGlobals "check_quay" = some (some (.ref f_check_quay))) (l_check_quay : K.lookup f_check_quay = some ⟨oc_check_quay, od_check_quay, .func (PySem.W.fnOf "check_quay" "check_quay" (defArgs s_check_quay) (defBody s_check_quay) (defScope s_check_quay) .none kV_check_quay dc_check_quay pm_check_quay an_check_quay cd_check_quay ct_check_quay), sl_check_quay⟩) (cI_check_quay : PySem.W.codeIn K cd_check_quay "check_quay" = true) (kI_check_quay : PySem.W.keepIn K (.ref f_check_quay) = true)
    (a_check_wishes : PySem.W.nsIn K mainGlobals "check_wishes" = some (some (.ref f_check_wishes))) (l_check_wishes : K.lookup f_check_wishes = some ⟨oc_check_wishes, od_check_wishes, .func (PySem.W.fnOf "check_wishes" "check_wishes" (defArgs s_check_wishes) (defBody s_check_wishes) (defScope s_check_wishes) .none kV_check_wishes dc_check_wishes pm_check_wishes an_check_wishes cd_check_wishes ct_check_wishes), sl_check_wishes⟩) (cI_check_wishes : PySem.W.codeIn K cd_check_wishes "check_wishes" = true) (kI_check_wishes : PySem.W.keepIn K (.ref f_check_wishes) = true)
    (a_first_free : PySem.W.nsIn K mainGlobals "first_free" = some (some (.ref f_first_free))) (l_first_free : K.lookup f_first_free = some ⟨oc_first_free, od_first_free, .func (PySem.W.fnOf "first_free" "first_free" (defArgs s_first_free) (defBody s_first_free) (defScope s_first_free) .none kV_first_free dc_first_free pm_first_free an_first_free cd_first_free ct_first_free), sl_first_free⟩) (cI_first_free : PySem.W.codeIn K cd_first_free "first_free" = true) (kI_first_free : PySem.W.keepIn K (.ref f_first_free) = true)
    (a_crowded : PySem.W.nsIn K mainGlobals "crowded" = some (some (.ref f_crowded))) (l_crowded : K.lookup f_crowded = some ⟨oc_crowded, od_crowded, .func (PySem.W.fnOf "crowded" "crowded" (defArgs s_crowded) (defBody s_crowded) (defScope s_crowded) .none kV_crowded dc_crowded pm_crowded an_crowded cd_crowded ct_crowded), sl_crowded⟩) (cI_crowded : PySem.W.codeIn K cd_crowded "crowded" = true) (kI_crowded : PySem.W.keepIn K (.ref f_crowded) = true)
    (a_is_good : PySem.W.nsIn K mainGlobals "is_good" = some (some (.ref f_is_good))) (l_is_good : K.lookup f_is_good = some ⟨oc_is_good, od_is_good, .func (PySem.W.fnOf "is_good" "is_good" (defArgs s_is_good) (defBody s_is_good) (defScope s_is_good) .none kV_is_good dc_is_good pm_is_good an_is_good cd_is_good ct_is_good), sl_is_good⟩) (cI_is_good : PySem.W.codeIn K cd_is_good "is_good" = true) (kI_is_good : PySem.W.keepIn K (.ref f_is_good) = true)
    (a_first_free_round : PySem.W.nsIn K mainGlobals "first_free_round" = some (some (.ref f_first_free_round))) (l_first_free_round : K.lookup f_first_free_round = some ⟨oc_first_free_round, od_first_free_round, .func (PySem.W.fnOf "first_free_round" "first_free_round" (defArgs s_first_free_round) (defBody s_first_free_round) (defScope s_first_free_round) .none kV_first_free_round dc_first_free_round pm_first_free_round an_first_free_round cd_first_free_round ct_first_free_round), sl_first_free_round⟩) (cI_first_free_round : PySem.W.codeIn K cd_first_free_round "first_free_round" = true) (kI_first_free_round : PySem.W.keepIn K (.ref f_first_free_round) = true)
    (a_placed_round : PySem.W.nsIn K mainGlobals "placed_round" = some (some (.ref f_placed_round))) (l_placed_round : K.lookup f_placed_round = some ⟨oc_placed_round, od_placed_round, .func (PySem.W.fnOf "placed_round" "placed_round" (defArgs s_placed_round) (defBody s_placed_round) (defScope s_placed_round) .none kV_placed_round dc_placed_round pm_placed_round an_placed_round cd_placed_round ct_placed_round), sl_placed_round⟩) (cI_placed_round : PySem.W.codeIn K cd_placed_round "placed_round" = true) (kI_placed_round : PySem.W.keepIn K (.ref f_placed_round) = true)
    (a_left_over : PySem.W.nsIn K mainGlobals "left_over" = some (some (.ref f_left_over))) (l_left_over : K.lookup f_left_over = some ⟨oc_left_over, od_left_over, .func (PySem.W.fnOf "left_over" "left_over" (defArgs s_left_over) (defBody s_left_over) (defScope s_left_over) .none kV_left_over dc_left_over pm_left_over an_left_over cd_left_over ct_left_over), sl_left_over⟩) (cI_left_over : PySem.W.codeIn K cd_left_over "left_over" = true) (kI_left_over : PySem.W.keepIn K (.ref f_left_over) = true)
    (a_turned : PySem.W.nsIn K mainGlobals "turned" = some (some (.ref f_turned))) (l_turned : K.lookup f_turned = some ⟨oc_turned, od_turned, .func (PySem.W.fnOf "turned" "turned" (defArgs s_turned) (defBody s_turned) (defScope s_turned) .none kV_turned dc_turned pm_turned an_turned cd_turned ct_turned), sl_turned⟩) (cI_turned : PySem.W.codeIn K cd_turned "turned" = true) (kI_turned : PySem.W.keepIn K (.ref f_turned) = true)
    (a_turning : PySem.W.nsIn K mainGlobals "turning" = some (some (.ref f_turning))) (l_turning : K.lookup f_turning = some ⟨oc_turning, od_turning, .func (PySem.W.fnOf "turning" "turning" (defArgs s_turning) (defBody s_turning) (defScope s_turning) .none kV_turning dc_turning pm_turning an_turning cd_turning ct_turning), sl_turning⟩) (cI_turning : PySem.W.codeIn K cd_turning "turning" = true) (kI_turning : PySem.W.keepIn K (.ref f_turning) = true)
    (a_l_cell_at : PySem.W.nsIn K mainGlobals "_law_cell_at" = some (some (.ref f_l_cell_at))) (l_l_cell_at : K.lookup f_l_cell_at = some ⟨oc_l_cell_at, od_l_cell_at, .func (PySem.W.fnOf "_law_cell_at" "_law_cell_at" (defArgs s_l_cell_at) (defBody s_l_cell_at) (defScope s_l_cell_at) .none kV_l_cell_at dc_l_cell_at pm_l_cell_at an_l_cell_at cd_l_cell_at ct_l_cell_at), sl_l_cell_at⟩) (cI_l_cell_at : PySem.W.codeIn K cd_l_cell_at "_law_cell_at" = true) (kI_l_cell_at : PySem.W.keepIn K (.ref f_l_cell_at) = true)
    (a_l_mix : PySem.W.nsIn K mainGlobals "_law_mix" = some (some (.ref f_l_mix))) (l_l_mix : K.lookup f_l_mix = some ⟨oc_l_mix, od_l_mix, .func (PySem.W.fnOf "_law_mix" "_law_mix" (defArgs s_l_mix) (defBody s_l_mix) (defScope s_l_mix) .none kV_l_mix dc_l_mix pm_l_mix an_l_mix cd_l_mix ct_l_mix), sl_l_mix⟩) (cI_l_mix : PySem.W.codeIn K cd_l_mix "_law_mix" = true) (kI_l_mix : PySem.W.keepIn K (.ref f_l_mix) = true)
    (a_l_whole : PySem.W.nsIn K mainGlobals "_law_whole" = some (some (.ref f_l_whole))) (l_l_whole : K.lookup f_l_whole = some ⟨oc_l_whole, od_l_whole, .func (PySem.W.fnOf "_law_whole" "_law_whole" (defArgs s_l_whole) (defBody s_l_whole) (defScope s_l_whole) .none kV_l_whole dc_l_whole pm_l_whole an_l_whole cd_l_whole ct_l_whole), sl_l_whole⟩) (cI_l_whole : PySem.W.codeIn K cd_l_whole "_law_whole" = true) (kI_l_whole : PySem.W.keepIn K (.ref f_l_whole) = true)
    (a_law : PySem.W.nsIn K mainGlobals "law" = some (some (.ref f_law))) (l_law : K.lookup f_law = some ⟨oc_law, od_law, .func (PySem.W.fnOf "law" "law" (defArgs s_law) (defBody s_law) (defScope s_law) .none kV_law dc_law pm_law an_law cd_law ct_law), sl_law⟩) (cI_law : PySem.W.codeIn K cd_law "law" = true) (kI_law : PySem.W.keepIn K (.ref f_law) = true)
    (z_bool : PySem.W.nsIn K mainGlobals "bool" = some none)
    (z_int : PySem.W.nsIn K mainGlobals "int" = some none)
    (z_isinstance : PySem.W.nsIn K mainGlobals "isinstance" = some none)
    (z_len : PySem.W.nsIn K mainGlobals "len" = some none)
    (z_list : PySem.W.nsIn K mainGlobals "list" = some none)
    (z_min : PySem.W.nsIn K mainGlobals "min" = some none)
    (z_range : PySem.W.nsIn K mainGlobals "range" = some none)
    (z_tuple : PySem.W.nsIn K mainGlobals "tuple" = some none)
    (z_type : PySem.W.nsIn K mainGlobals "type" = some none)
    (y_MOST : PySem.W.nsIn K mainGlobals "MOST" = some (some (.int 400 t_MOST)))
    (xg_NoCount : PySem.W.nsIn K mainGlobals "NoCount" = some (some (.ref e_NoCount)))
    (xx_NoCount : PySem.W.excIn K e_NoCount [.type "ValueError", .type "Exception", .type "BaseException", .type "object"] "ValueError.__new__" = true)
    (xk_NoCount : PySem.W.keepIn K (.ref e_NoCount) = true)
    (xb_NoCount : PySem.W.subIn K (.ref e_NoCount) (.type "BaseException") = some true)
    (xt_NoCount : PySem.W.typeIn K (.ref e_NoCount) = some (.type "type"))
    (xg_NoQuay : PySem.W.nsIn K mainGlobals "NoQuay" = some (some (.ref e_NoQuay)))
    (xx_NoQuay : PySem.W.excIn K e_NoQuay [.type "ValueError", .type "Exception", .type "BaseException", .type "object"] "ValueError.__new__" = true)
    (xk_NoQuay : PySem.W.keepIn K (.ref e_NoQuay) = true)
    (xb_NoQuay : PySem.W.subIn K (.ref e_NoQuay) (.type "BaseException") = some true)
    (xt_NoQuay : PySem.W.typeIn K (.ref e_NoQuay) = some (.type "type"))
    (xg_NoWishes : PySem.W.nsIn K mainGlobals "NoWishes" = some (some (.ref e_NoWishes)))
    (xx_NoWishes : PySem.W.excIn K e_NoWishes [.type "ValueError", .type "Exception", .type "BaseException", .type "object"] "ValueError.__new__" = true)
    (xk_NoWishes : PySem.W.keepIn K (.ref e_NoWishes) = true)
    (xb_NoWishes : PySem.W.subIn K (.ref e_NoWishes) (.type "BaseException") = some true)
    (xt_NoWishes : PySem.W.typeIn K (.ref e_NoWishes) = some (.type "type"))
    (xg_TooMany : PySem.W.nsIn K mainGlobals "TooMany" = some (some (.ref e_TooMany)))
    (xx_TooMany : PySem.W.excIn K e_TooMany [.type "ValueError", .type "Exception", .type "BaseException", .type "object"] "ValueError.__new__" = true)
    (xk_TooMany : PySem.W.keepIn K (.ref e_TooMany) = true)
    (xb_TooMany : PySem.W.subIn K (.ref e_TooMany) (.type "BaseException") = some true)
    (xt_TooMany : PySem.W.typeIn K (.ref e_TooMany) = some (.type "type"))
    : ∃ fd : FuncData, (∀ (s : Shared) (v : Value), BindsTo s fd ⟨[v], []⟩ [("_law_script", v)]) ∧ ∀ base : Heap, K.In base → base.Ns mainGlobals mg → FnOk P w K mg base CX0 8 fa fd ["_law_script"] (sp_law K) := by
  have e := hfa.symm.trans (PySem.W.mg_of X G a_law)
  cases e
  have T : Txt K mg ({ f_is_number := f_is_number, f_is_from_to := f_is_from_to, f_is_row := f_is_row, f_check_quay := f_check_quay, f_check_wishes := f_check_wishes, f_first_free := f_first_free, f_crowded := f_crowded, f_is_good := f_is_good, f_first_free_round := f_first_free_round, f_placed_round := f_placed_round, f_left_over := f_left_over, f_turned := f_turned, f_turning := f_turning, f_l_cell_at := f_l_cell_at, f_l_mix := f_l_mix, f_l_whole := f_l_whole, e_NoCount := e_NoCount, e_NoQuay := e_NoQuay, e_NoWishes := e_NoWishes, e_TooMany := e_TooMany } : Ad) := ⟨trivial,
    PySem.W.mg_none_of X G z_bool,
    PySem.W.mg_none_of X G z_int,
    PySem.W.mg_none_of X G z_isinstance,
    PySem.W.mg_none_of X G z_len,
    PySem.W.mg_none_of X G z_list,
    PySem.W.mg_none_of X G z_min,
    PySem.W.mg_none_of X G z_range,
    PySem.W.mg_none_of X G z_tuple,
    PySem.W.mg_none_of X G z_type,
    ⟨_, PySem.W.mg_of X G y_MOST, ⟨_, rfl⟩⟩,
    ⟨PySem.W.mg_of X G xg_NoCount, xx_NoCount, xk_NoCount, xb_NoCount, xt_NoCount⟩,
    ⟨PySem.W.mg_of X G xg_NoQuay, xx_NoQuay, xk_NoQuay, xb_NoQuay, xt_NoQuay⟩,
    ⟨PySem.W.mg_of X G xg_NoWishes, xx_NoWishes, xk_NoWishes, xb_NoWishes, xt_NoWishes⟩,
    ⟨PySem.W.mg_of X G xg_TooMany, xx_TooMany, xk_TooMany, xb_TooMany, xt_TooMany⟩⟩
  have D_is_number : DF K mg "is_number" s_is_number ["thing"] f_is_number := df_mk (fun_mk (st := s_is_number) l_is_number cI_is_number kI_is_number) (fun _ _ _ _ _ _ us hl => match us, hl with | [_], _ => rfl) (PySem.W.mg_of X G a_is_number)
  have D_is_from_to : DF K mg "is_from_to" s_is_from_to ["low", "high", "thing"] f_is_from_to := df_mk (fun_mk (st := s_is_from_to) l_is_from_to cI_is_from_to kI_is_from_to) (fun _ _ _ _ _ _ us hl => match us, hl with | [_, _, _], _ => rfl) (PySem.W.mg_of X G a_is_from_to)
  have D_is_row : DF K mg "is_row" s_is_row ["thing"] f_is_row := df_mk (fun_mk (st := s_is_row) l_is_row cI_is_row kI_is_row) (fun _ _ _ _ _ _ us hl => match us, hl with | [_], _ => rfl) (PySem.W.mg_of X G a_is_row)
  have D_check_quay : DF K mg "check_quay" s_check_quay ["berths"] f_check_quay := df_mk (fun_mk (st := s_check_quay) l_check_quay cI_check_quay kI_check_quay) (fun _ _ _ _ _ _ us hl => match us, hl with | [_], _ => rfl) (PySem.W.mg_of X G a_check_quay)
  have D_check_wishes : DF K mg "check_wishes" s_check_wishes ["berths", "wishes"] f_check_wishes := df_mk (fun_mk (st := s_check_wishes) l_check_wishes cI_check_wishes kI_check_wishes) (fun _ _ _ _ _ _ us hl => match us, hl with | [_, _], _ => rfl) (PySem.W.mg_of X G a_check_wishes)
  have D_first_free : DF K mg "first_free" s_first_free ["held", "wish"] f_first_free := df_mk (fun_mk (st := s_first_free) l_first_free cI_first_free kI_first_free) (fun _ _ _ _ _ _ us hl => match us, hl with | [_, _], _ => rfl) (PySem.W.mg_of X G a_first_free)
  have D_crowded : DF K mg "crowded" s_crowded ["berths", "wishes"] f_crowded := df_mk (fun_mk (st := s_crowded) l_crowded cI_crowded kI_crowded) (fun _ _ _ _ _ _ us hl => match us, hl with | [_, _], _ => rfl) (PySem.W.mg_of X G a_crowded)
  have D_is_good : DF K mg "is_good" s_is_good ["berths", "wishes"] f_is_good := df_mk (fun_mk (st := s_is_good) l_is_good cI_is_good kI_is_good) (fun _ _ _ _ _ _ us hl => match us, hl with | [_, _], _ => rfl) (PySem.W.mg_of X G a_is_good)
  have D_first_free_round : DF K mg "first_free_round" s_first_free_round ["held", "wish"] f_first_free_round := df_mk (fun_mk (st := s_first_free_round) l_first_free_round cI_first_free_round kI_first_free_round) (fun _ _ _ _ _ _ us hl => match us, hl with | [_, _], _ => rfl) (PySem.W.mg_of X G a_first_free_round)
  have D_placed_round : DF K mg "placed_round" s_placed_round ["berths", "wishes"] f_placed_round := df_mk (fun_mk (st := s_placed_round) l_placed_round cI_placed_round kI_placed_round) (fun _ _ _ _ _ _ us hl => match us, hl with | [_, _], _ => rfl) (PySem.W.mg_of X G a_placed_round)
  have D_left_over : DF K mg "left_over" s_left_over ["berths", "wishes"] f_left_over := df_mk (fun_mk (st := s_left_over) l_left_over cI_left_over kI_left_over) (fun _ _ _ _ _ _ us hl => match us, hl with | [_, _], _ => rfl) (PySem.W.mg_of X G a_left_over)
  have D_turned : DF K mg "turned" s_turned ["berths", "wishes", "by"] f_turned := df_mk (fun_mk (st := s_turned) l_turned cI_turned kI_turned) (fun _ _ _ _ _ _ us hl => match us, hl with | [_, _, _], _ => rfl) (PySem.W.mg_of X G a_turned)
  have D_turning : DF K mg "turning" s_turning ["berths", "wishes"] f_turning := df_mk (fun_mk (st := s_turning) l_turning cI_turning kI_turning) (fun _ _ _ _ _ _ us hl => match us, hl with | [_, _], _ => rfl) (PySem.W.mg_of X G a_turning)
  have D_l_cell_at : DF K mg "_law_cell_at" s_l_cell_at ["_law_script", "_law_k"] f_l_cell_at := df_mk (fun_mk (st := s_l_cell_at) l_l_cell_at cI_l_cell_at kI_l_cell_at) (fun _ _ _ _ _ _ us hl => match us, hl with | [_, _], _ => rfl) (PySem.W.mg_of X G a_l_cell_at)
  have D_l_mix : DF K mg "_law_mix" s_l_mix ["_law_state", "_law_cell"] f_l_mix := df_mk (fun_mk (st := s_l_mix) l_l_mix cI_l_mix kI_l_mix) (fun _ _ _ _ _ _ us hl => match us, hl with | [_, _], _ => rfl) (PySem.W.mg_of X G a_l_mix)
  have D_l_whole : DF K mg "_law_whole" s_l_whole ["_law_found"] f_l_whole := df_mk (fun_mk (st := s_l_whole) l_l_whole cI_l_whole kI_l_whole) (fun _ _ _ _ _ _ us hl => match us, hl with | [_], _ => rfl) (PySem.W.mg_of X G a_l_whole)
  refine ⟨PySem.W.fnOf "law" "law" (defArgs s_law) (defBody s_law) (defScope s_law) .none kV_law dc_law pm_law an_law cd_law ct_law, fun s v => .of_eq rfl, fun base _ _ => ?_⟩
  have g_is_number := ok_is_number (P := P) (w := w) (base := base) D_is_number T
  have g_is_from_to := ok_is_from_to (P := P) (w := w) (base := base) D_is_from_to T g_is_number
  have g_is_row := ok_is_row (P := P) (w := w) (base := base) D_is_row T
  have g_check_quay := ok_check_quay (P := P) (w := w) (base := base) D_check_quay T g_is_from_to
  have g_check_wishes := ok_check_wishes (P := P) (w := w) (base := base) D_check_wishes T g_is_from_to g_is_row g_check_quay
  have g_first_free := ok_first_free (P := P) (w := w) (base := base) D_first_free T
  have g_crowded := ok_crowded (P := P) (w := w) (base := base) D_crowded T g_check_wishes
  have g_is_good := ok_is_good (P := P) (w := w) (base := base) D_is_good T g_crowded
  have g_first_free_round := ok_first_free_round (P := P) (w := w) (base := base) D_first_free_round T g_first_free
  have g_placed_round := ok_placed_round (P := P) (w := w) (base := base) D_placed_round T g_check_wishes g_first_free_round
  have g_left_over := ok_left_over (P := P) (w := w) (base := base) D_left_over T g_placed_round
  have g_turned := ok_turned (P := P) (w := w) (base := base) D_turned T g_is_number g_check_wishes
  have g_turning := ok_turning (P := P) (w := w) (base := base) D_turning T g_check_wishes g_left_over
  have g_l_cell_at := ok_l_cell_at (P := P) (w := w) (base := base) D_l_cell_at T
  have g_l_mix := ok_l_mix (P := P) (w := w) (base := base) D_l_mix T
  have g_l_whole := ok_l_whole (P := P) (w := w) (base := base) D_l_whole T
  exact ok_law (fun_mk (st := s_law) l_law cI_law kI_law) T g_is_good g_left_over g_turned g_turning g_l_cell_at g_l_mix g_l_whole
end Br
open PySem PySem.W PyProof.Rows
set_option maxHeartbeats 0 in
theorem PySem.Challenge.cw_berthrow_k05_whole_one_turning_holds : PySem.Challenge.rw_berthrow_k05_whole_one_turning.Holds := by
  w_on; o_law; k_head; (case hw => w_witness2)
  k_fill
  refine L2.walk_of (l := PySem.Challenge.rw_berthrow_k05_whole_one_turning) (n := 63) (k := 8) (x := "_law_script") (CX := fun _ => L2.CX0) (sp := fun w => Br.sp_law _) rfl (by decide) rfl ⟨rfl, by decide, by decide⟩ (fun w h Y => PySem.W.kIn_of Y) ?F (fun _ _ a ns hl _ hS => ⟨a, ns, rfl, hS, hl, fun _ => rfl⟩) (fun _ _ _ _ _ h => h)
  case F =>
    intro w mg fa h KX G hmg
    refine' Br.all_mk KX G hmg ?a_is_number ?l_is_number ?cI_is_number ?kI_is_number ?a_is_from_to ?l_is_from_to ?cI_is_from_to ?kI_is_from_to ?a_is_row ?l_is_row ?cI_is_row ?kI_is_row ?a_check_quay ?l_check_quay ?cI_check_quay ?kI_check_quay ?a_check_wishes ?l_check_wishes ?cI_check_wishes ?kI_check_wishes ?a_first_free ?l_first_free ?cI_first_free ?kI_first_free ?a_crowded ?l_crowded ?cI_crowded ?kI_crowded ?a_is_good ?l_is_good ?cI_is_good ?kI_is_good ?a_first_free_round ?l_first_free_round ?cI_first_free_round ?kI_first_free_round ?a_placed_round ?l_placed_round ?cI_placed_round ?kI_placed_round ?a_left_over ?l_left_over ?cI_left_over ?kI_left_over ?a_turned ?l_turned ?cI_turned ?kI_turned ?a_turning ?l_turning ?cI_turning ?kI_turning ?a_l_cell_at ?l_l_cell_at ?cI_l_cell_at ?kI_l_cell_at ?a_l_mix ?l_l_mix ?cI_l_mix ?kI_l_mix ?a_l_whole ?l_l_whole ?cI_l_whole ?kI_l_whole ?a_law ?l_law ?cI_law ?kI_law ?z_bool ?z_int ?z_isinstance ?z_len ?z_list ?z_min ?z_range ?z_tuple ?z_type ?y_MOST ?xg_NoCount ?xx_NoCount ?xk_NoCount ?xb_NoCount ?xt_NoCount ?xg_NoQuay ?xx_NoQuay ?xk_NoQuay ?xb_NoQuay ?xt_NoQuay ?xg_NoWishes ?xx_NoWishes ?xk_NoWishes ?xb_NoWishes ?xt_NoWishes ?xg_TooMany ?xx_TooMany ?xk_TooMany ?xb_TooMany ?xt_TooMany
    (case a_is_number => k_is)
    (case l_is_number => k_is)
    (case cI_is_number => k_is)
    (case kI_is_number => k_is)
    (case a_is_from_to => k_is)
    (case l_is_from_to => k_is)
    (case cI_is_from_to => k_is)
    (case kI_is_from_to => k_is)
    (case a_is_row => k_is)
    (case l_is_row => k_is)
    (case cI_is_row => k_is)
    (case kI_is_row => k_is)
    (case a_check_quay => k_is)
    (case l_check_quay => k_is)
    (case cI_check_quay => k_is)
    (case kI_check_quay => k_is)
    (case a_check_wishes => k_is)
    (case l_check_wishes => k_is)
    (case cI_check_wishes => k_is)
    (case kI_check_wishes => k_is)
    (case a_first_free => k_is)
    (case l_first_free => k_is)
    (case cI_first_free => k_is)
    (case kI_first_free => k_is)
    (case a_crowded => k_is)
    (case l_crowded => k_is)
    (case cI_crowded => k_is)
    (case kI_crowded => k_is)
    (case a_is_good => k_is)
    (case l_is_good => k_is)
    (case cI_is_good => k_is)
    (case kI_is_good => k_is)
    (case a_first_free_round => k_is)
    (case l_first_free_round => k_is)
    (case cI_first_free_round => k_is)
    (case kI_first_free_round => k_is)
    (case a_placed_round => k_is)
    (case l_placed_round => k_is)
    (case cI_placed_round => k_is)
    (case kI_placed_round => k_is)
    (case a_left_over => k_is)
    (case l_left_over => k_is)
    (case cI_left_over => k_is)
    (case kI_left_over => k_is)
    (case a_turned => k_is)
    (case l_turned => k_is)
    (case cI_turned => k_is)
    (case kI_turned => k_is)
    (case a_turning => k_is)
    (case l_turning => k_is)
    (case cI_turning => k_is)
    (case kI_turning => k_is)
    (case a_l_cell_at => k_is)
    (case l_l_cell_at => k_is)
    (case cI_l_cell_at => k_is)
    (case kI_l_cell_at => k_is)
    (case a_l_mix => k_is)
    (case l_l_mix => k_is)
    (case cI_l_mix => k_is)
    (case kI_l_mix => k_is)
    (case a_l_whole => k_is)
    (case l_l_whole => k_is)
    (case cI_l_whole => k_is)
    (case kI_l_whole => k_is)
    (case a_law => k_is)
    (case l_law => k_is)
    (case cI_law => k_is)
    (case kI_law => k_is)
    (case z_bool => k_is)
    (case z_int => k_is)
    (case z_isinstance => k_is)
    (case z_len => k_is)
    (case z_list => k_is)
    (case z_min => k_is)
    (case z_range => k_is)
    (case z_tuple => k_is)
    (case z_type => k_is)
    (case y_MOST => k_is)
    (case xg_NoCount => k_is)
    (case xx_NoCount => k_exc)
    (case xk_NoCount => k_is)
    (case xb_NoCount => k_is)
    (case xt_NoCount => k_is)
    (case xg_NoQuay => k_is)
    (case xx_NoQuay => k_exc)
    (case xk_NoQuay => k_is)
    (case xb_NoQuay => k_is)
    (case xt_NoQuay => k_is)
    (case xg_NoWishes => k_is)
    (case xx_NoWishes => k_exc)
    (case xk_NoWishes => k_is)
    (case xb_NoWishes => k_is)
    (case xt_NoWishes => k_is)
    (case xg_TooMany => k_is)
    (case xx_TooMany => k_exc)
    (case xk_TooMany => k_is)
    (case xb_TooMany => k_is)
    (case xt_TooMany => k_is)

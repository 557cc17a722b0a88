import PyProof.Rows.All
import Wide.All
import OpenK.AllK
import Wide.FinOn
import HandS.ForMost
import HandS.ForExc
import HandS.More
import HandS.Walk
import HandS.SortInts
import HandS.SetFor
import HandS.Style
import HandS.RevRange
import HandS.TupAny
import HandS.TupMul
import HandS.IsInst
import HandS.Conv
import HandS.ExcIs
import HandS.ExcCtx
import HandS.SortKw
import HandS.Remove
import HandS.TupLe
import HandS.Zip
import HandS.Small
import KE.DatumOrd
import KE.DatumMore
import KE.KSortedM
import KE.KStateDown
import KE.KDictPairs
import PySem.Challenge.RW_berthrow_k04_round_and_turned
set_option Elab.async false
set_option linter.all false
set_option maxRecDepth 100000
set_option maxHeartbeats 4000000
namespace Br
open PySem PySem.Spec PyProof.Rows L2
/-! ### addresses of what the top has made, by name -/
structure Ad where
  f_is_number : Addr := 0
  f_is_from_to : Addr := 0
  f_is_row : Addr := 0
  f_check_quay : Addr := 0
  f_check_wishes : Addr := 0
  f_first_free : Addr := 0
  f_placed : Addr := 0
  f_taken : Addr := 0
  f_gone_on : Addr := 0
  f_is_good : Addr := 0
  f_crowded : Addr := 0
  f_placed_round : Addr := 0
  f_left_over : Addr := 0
  f_turned : Addr := 0
  f_turning : Addr := 0
  f_how_many : Addr := 0
  f_first_row : Addr := 0
  f_last_row : Addr := 0
  f_next_row : Addr := 0
  f_p_check_ships : Addr := 0
  f_l_cell_at : Addr := 0
  f_l_mix : Addr := 0
  f_l_quay : Addr := 0
  f_l_wishes : Addr := 0
  f_l_placed : Addr := 0
  f_l_whole : Addr := 0
  f_l_good : Addr := 0
  f_l_crowded : Addr := 0
  f_l_order : Addr := 0
  f_l_round : Addr := 0
  f_l_refused : Addr := 0
  f_l_due : Addr := 0
  f_l_caught : Addr := 0
  f_l_lowered : Addr := 0
  f_first_free_round : Addr := 0
  f_check_full_row : Addr := 0
  f_tree_of : Addr := 0
  f_wishes_of : Addr := 0
  f_p_check_knots : Addr := 0
  f_lies : Addr := 0
  f_reaches : Addr := 0
  f_rows_to : Addr := 0
  f_p_check_order : Addr := 0
  f_is_name : Addr := 0
  f_written : Addr := 0
  f_read : Addr := 0
  f_p_parts : Addr := 0
  f_p_pair : Addr := 0
  f_p_number : Addr := 0
  f_p_check_name : Addr := 0
  f_l_asked : Addr := 0
  f_l_word : Addr := 0
  f_l_told : Addr := 0
  f_l_odd : Addr := 0
  f_l_no_quay : Addr := 0
  f_l_full : Addr := 0
  f_l_tree : Addr := 0
  f_l_drawn : Addr := 0
  f_l_hangs : Addr := 0
  f_l_right : Addr := 0
  f_l_lying : Addr := 0
  f_l_words : Addr := 0
  f_l_done : Addr := 0
  f_l_stands : Addr := 0
  f_l_nearer : Addr := 0
  f_l_read : Addr := 0
  f_l_text : Addr := 0
  f_l_odd_text : Addr := 0
  f_law : Addr := 0
  e_BerthError : Addr := 0
  e_NoQuay : Addr := 0
  e_NoWishes : Addr := 0
  e_TooMany : Addr := 0
  e_NoCount : Addr := 0
  e_NoTree : Addr := 0
  e_NoOrder : Addr := 0
  e_NoName : Addr := 0
  e_Taken : Addr := 0
  e_NoWish : Addr := 0
  e_NoRoom : Addr := 0
  e_NoShip : Addr := 0
  e_NoText : Addr := 0
/-- a def as it stands behind the top -/
structure DF (K : PySem.W.Frag) (mg : Str → Option Value) (x : Str) (st : Stmt) (ps : List Str) (f : Addr) : Prop where
  ex : ∃ fd, Fun K x x st f fd ∧ Binds K fd ps []
  g : mg x = some (.ref f)
/-- a def that keeps its promise, ready to be called by its name -/
structure Cb (P : Program) (w : World) (K : PySem.W.Frag) (mg : Str → Option Value) (base : Heap) (CX : CXT) (k : Nat) (x : Str) (f : Addr) (ps : List Str) (sp : Sp) : Prop where
  ex : ∃ fd, FnOk P w K mg base CX k f fd ps sp ∧ Binds K fd ps []
  g : mg x = some (.ref f)
  kp : PySem.W.keepIn K (.ref f) = true
/-- an own exception's class -/
structure ExF (K : PySem.W.Frag) (mg : Str → Option Value) (x : Str) (c : Addr) : Prop where
  g : mg x = some (.ref c)
  x : PySem.W.excIn K c [.type "ValueError", .type "Exception", .type "BaseException", .type "object"] "ValueError.__new__" = true
  k : PySem.W.keepIn K (.ref c) = true
  b : PySem.W.subIn K (.ref c) (.type "BaseException") = some true
  t : PySem.W.typeIn K (.ref c) = some (.type "type")
theorem df_mk {K : PySem.W.Frag} {mg : Str → Option Value} {x : Str} {st : Stmt} {ps : List Str} {f : Addr} {fd : FuncData} (F : Fun K x x st f fd)
    (h : ∀ (kV doc pm : Value) (an : Option Addr) (cdv ct : Value) (us : List Value), us.length = ps.length → bindArgs (PySem.W.fnOf x x (defArgs st) (defBody st) (defScope st) .none kV doc pm an cdv ct) ⟨us, []⟩ = pure (ps.zip us)) (g : mg x = some (.ref f)) : DF K mg x st ps f :=
  ⟨⟨fd, F, F.binds h⟩, g⟩
/-! ### readings by short names -/
def rAddI : R2 := rI0 fun i j => .int (i + j)
def rSubI : R2 := rI0 fun i j => .int (i - j)
def rMulI : R2 := rI CMul fun i j => .int (i * j)
def rModI : R2 := rI (fun _ j => 0 < j) fun i j => .int (i % j)
def rDivI : R2 := rI CDiv fun i j => .int (i / j)
def rPowI : R2 := rI CPow fun i j => .int (i ^ j.toNat)
def rLtI : R2 := rI0 fun i j => .bl (decide (i < j))
def rLeI : R2 := rI0 fun i j => .bl (decide (i ≤ j))
def rGtI : R2 := rI0 fun i j => .bl (decide (j < i))
def rGeI : R2 := rI0 fun i j => .bl (decide (j ≤ i))
def rIsTyB : R2 := fun x y H Q => ∃ a b, x = .ty a ∧ y = .ty b ∧ Q (.bl (decide (a = b))) H
def rIsB1 : R2 := fun x y H Q => ∃ a b, x = .bl a ∧ y = .bl b ∧ Q (.bl (decide (a = b))) H
def rLenSq (K : PySem.W.Frag) : List V → Hp → VK → Prop := fun xs H Q => ∃ p ys, xs = [.ref p] ∧ (SqL K H p ys ∨ SqT K H p ys) ∧ Q (.int ys.length) H
def rMin2 : List V → Hp → VK → Prop := fun xs H Q => ∃ i j, xs = [.int i, .int j] ∧ Q (.int (if j < i then j else i)) H
def rMax2 : List V → Hp → VK → Prop := fun xs H Q => ∃ i j, xs = [.int i, .int j] ∧ Q (.int (if j > i then j else i)) H
def rInt1 : List V → Hp → VK → Prop := fun xs H Q => (∃ i, xs = [.int i] ∧ Q (.int i) H) ∨ ∃ k, xs = [.bl k] ∧ Q (.int (if k then 1 else 0)) H
def rListOf (K : PySem.W.Frag) : List V → Hp → VK → Prop := fun xs H Q => ∃ p ys, xs = [.ref p] ∧ (SqL K H p ys ∨ SqT K H p ys) ∧ ∀ l, H l = none → Q (.ref l) (upd H l (.lst ys))
def rTupleOf (K : PySem.W.Frag) : List V → Hp → VK → Prop := fun xs H Q => ∃ p ys, xs = [.ref p] ∧ ((SqL K H p ys ∧ ∀ l, H l = none → Q (.ref l) (upd H l (.tup ys))) ∨ (SqT K H p ys ∧ Q (.ref p) H))
def ipAdd : TIp := ipI fun i j => i + j
def ipSub : TIp := ipI fun i j => i - j
def tTru (K : PySem.W.Frag) (te : TE) : TT := fun σ H Q => te σ H fun x H' => ∃ k, TruV K x H' k ∧ Q k H'
def tRaise (c : Addr) (E : XK) : TS := fun _ _ H => E (.ref c) none H
def iSeq (K : PySem.W.Frag) (tl : TE) : TI := fun σ H R => iList K tl σ H R ∨ iTup K tl σ H R
def SqA (K : PySem.W.Frag) (H : Hp) (a : Addr) (xs : List V) : Prop := SqL K H a xs ∨ SqT K H a xs
theorem item_of0 {ns : List Int} {i : Nat} {y : V} (hi : (ns.map V.int)[i]? = some y) : ∃ z, ns[i]? = some z ∧ y = V.int z := by
  rw [List.getElem?_map] at hi
  cases e : ns[i]? with
  | none => rw [e] at hi; cases hi
  | some z => rw [e] at hi; exact ⟨z, rfl, (Option.some.inj hi).symm⟩
/-! ### rules -/
section
variable {X : Cx}
theorem pe_gl {x : Str} {v : V} {pos : Pos} (hg : Gl X x) (h : ∃ u, X.mg x = some u ∧ RelV v u) (hd : (x == ("__debug__" : Str)) = false := by decide) : PE X (.Name x pos) (tC v) := by
  obtain ⟨u, hm, r⟩ := h
  exact pe_glob hg hm r hd
theorem pe_cb {CX : CXT} {k : Nat} {f : Addr} {ps : List Str} {sp : Sp} {E : XK} {x : Str} {p pos : Pos} {e : Expr} {es : List Expr} {t : TA} (G : Cb X.prog X.w X.K X.mg X.base CX k x f ps sp) (hr : Room k X.A) (hg : Gl X x) (hx : Passes CX X E) (ha : PA X (e :: es) t)
    (hdb : (x == ("__debug__" : Str)) = false := by decide) (he : starEach (e :: es) X.env = (false, eval e X.env) :: starEach es X.env := by rfl) (hpl : (backTo pos (starEach es X.env)).any (·.1) = false := by rfl) :
    PE X (.Call (.Name x p) (e :: es) [] pos) (tCall sp [] E t) := by
  obtain ⟨⟨fd, F, b⟩, g, kp⟩ := G
  exact pe_call F hr hg g kp b .nil hx ha hdb he hpl
theorem pe_cbS {CX : CXT} {k : Nat} {f : Addr} {ps : List Str} {sp : Sp} {E : L2.St → XK} {x : Str} {p pos : Pos} {e : Expr} {es : List Expr} {t : TA} (G : Cb X.prog X.w X.K X.mg X.base CX k x f ps sp) (hr : Room k X.A) (hg : Gl X x) (hx : ∀ σ, PassesAt CX X σ (E σ)) (ha : PA X (e :: es) t)
    (hdb : (x == ("__debug__" : Str)) = false := by decide) (he : starEach (e :: es) X.env = (false, eval e X.env) :: starEach es X.env := by rfl) (hpl : (backTo pos (starEach es X.env)).any (·.1) = false := by rfl) :
    PE X (.Call (.Name x p) (e :: es) [] pos) (tCallS sp E t) := by
  obtain ⟨⟨fd, F, b⟩, g, kp⟩ := G
  exact pe_callS F hr hg g kp b hx ha hdb he hpl
theorem pi_seq {tg l : Expr} {tl : TE} (hl : PE X l tl) : PI X tg l (iSeq X.K tl) :=
  ⟨fun pins s σ H R I h => h.elim (fun h => (pi_list hl).run pins s σ H R I h) (fun h => (pi_tup hl).run pins s σ H R I h)⟩
/-- xs[i], by values: for xs[i] += e -/
theorem gt_list : PGet X (rIxL X.K) := by
  intro pins s σ H x y v u Q I rx ry h
  obtain ⟨p, xs, i, z, rfl, rfl, hq, he, q⟩ := h
  cases rx
  obtain ⟨t, rfl⟩ := ry
  obtain ⟨its, r, pl, hz⟩ := I.list hq
  obtain ⟨j, h1, h2, h3, h4, h5⟩ := atI_get he
  obtain ⟨w, ew, rw'⟩ := r.get h2
  have hl := r.length
  have hn := line63
  have fin : EP X pins σ Q w s := ⟨z, H, I, rw', q⟩
  by_cases h0 : 0 ≤ i
  · have hj : i.toNat = j := by
      rw [seqIndex_of h0 h5] at h1
      exact Option.some.inj h1
    exact wpAny_getItem_list pl.isList h0 (by omega) (by rw [hj]; simpa using ew) fin
  · have hj : (i + (its.toArray.size : Int)).toNat = j := by
      rw [seqIndex_neg (by omega) h4] at h1
      rw [List.size_toArray, ← hl]
      exact Option.some.inj h1
    exact wpAny_getItem_list_neg pl.isList (by omega) (by rw [List.size_toArray] <;> omega) (by omega) (by rw [hj]; simpa using ew) fin
/-! ### min(xs, default=d), xs a list of whole numbers -/
theorem minOf_int : ∀ (ys : List Int) (y : Int), PySem.W.minOf y ys ∈ y :: ys ∧ ∀ z ∈ y :: ys, PySem.W.minOf y ys ≤ z
  | [], y => ⟨List.mem_singleton.mpr rfl, fun z hz => by rw [List.mem_singleton.mp hz]; exact Int.le_refl _⟩
  | x :: r, y => by
    have e : PySem.W.minOf y (x :: r) = PySem.W.minOf (if x < y then x else y) r := by
      show PySem.W.minOf (if (decide (x < y)) = true then x else y) r = _
      by_cases h : x < y <;> simp [h]
    obtain ⟨h1, h2⟩ := minOf_int r (if x < y then x else y)
    rw [e]
    refine ⟨?_, fun z hz => ?_⟩
    · rcases List.mem_cons.mp h1 with k | k
      · rw [k]
        by_cases h : x < y <;> simp [h]
      · simp [k]
    · have hc := h2 _ (List.mem_cons_self)
      rcases List.mem_cons.mp hz with k | k
      · subst k
        by_cases h : x < z
        · rw [if_pos h] at hc ⊢
          omega
        · rw [if_neg h] at hc ⊢
          exact hc
      · rcases List.mem_cons.mp k with k | k
        · subst k
          by_cases h : z < y
          · rw [if_pos h] at hc ⊢
            exact hc
          · rw [if_neg h] at hc ⊢
            omega
        · exact h2 z (List.mem_cons_of_mem _ k)
def rMinD (K : PySem.W.Frag) : List V → List V → Hp → VK → Prop := fun vs zs H Q => ∃ (p : Addr) (d : V) (ns : List Int), vs = [.ref p] ∧ zs = [d] ∧ SqL K H p (ns.map V.int) ∧
  (ns = [] → Q d H) ∧ ∀ m, m ∈ ns → (∀ y ∈ ns, m ≤ y) → Q (.int m) H
def tMinD (K : PySem.W.Frag) (ta td : TE) : TE := tCKw (rMinD K) (tCons ta tNil) (tCons td tNil)
theorem dp_ints {K : PySem.W.Frag} {H : Hp} : ∀ ns : List Int, DpAll K H (ns.map V.int) (ns.map PyData.int)
  | [] => .nil
  | n :: r => .cons (.int n) (dp_ints r)
theorem cr_minD (hc : X.calm = true) (hu : X.A.units + 64 < cLine) : CallRK X (.builtin "min") [Str.ofString "default"] (rMinD X.K) := by
  intro pins s σ H vs zs us ws Q I r rz h
  obtain ⟨p, d, ns, rfl, rfl, hs, q0, q1⟩ := h
  obtain ⟨w, rfl, rw'⟩ := vals1 rz
  obtain ⟨its, rv, hl, _⟩ := I.list hs
  rw [Vals.ref1 r]
  obtain ⟨as, ra⟩ := Dp.readsAll I (ns.map PyData.int) _ its (dp_ints ns) rv
  have HA : PySem.W.HoldAll s.heap its.toArray.toList ns := ⟨as, ra⟩
  refine PySem.W.min_list_datum_default (I.ok.hd hc) hl.isList HA (by show X.A.units + 1 + PySem.W.Datum.depth Int < cLine; have e : PySem.W.Datum.depth Int = 0 := rfl; rw [e]; omega) (fun e h' tk hk => ⟨d, H, I.kept hk, rw', q0 e⟩) fun y ys i v h' tk e hi hv hk => ?_
  subst e
  obtain ⟨as2, r2⟩ := hv
  have hi' : its[i]? = some v := by simpa using hi
  have hlen := rv.length
  have hlt : i < ((y :: ys).map V.int).length := by rw [hlen]; exact (List.getElem?_eq_some_iff.mp hi').1
  obtain ⟨u, hu1, hu2⟩ := rv.get (List.getElem?_eq_getElem hlt)
  rw [hi'] at hu1
  cases hu1
  obtain ⟨z, hz, ez⟩ := item_of0 (List.getElem?_eq_getElem hlt)
  rw [ez] at hu2
  obtain ⟨t, rfl⟩ := hu2
  have em : PySem.W.minOf y ys = z := by
    have r2' : Reads h' (.int z t) (.int (PySem.W.minOf y ys)) as2 := r2
    cases r2'
    rfl
  obtain ⟨m1, m2⟩ := minOf_int ys y
  rw [em] at m1 m2
  exact ⟨.int z, H, I.kept hk, ⟨_, rfl⟩, q1 z m1 m2⟩
theorem pe_minD {p pos kpos : Pos} {e d : Expr} {ta td : TE} (hc : X.calm = true) (hu : X.A.units + 64 < cLine) (hg : Gl X "min") (hm : X.mg "min" = none) (ha : PE X e ta) (hd : PE X d td)
    (he : backTo pos (starEach (e :: []) X.env) = (false, eval e X.env) :: backTo pos (starEach [] X.env) := by rfl) (hse : starEach (e :: []) X.env = (false, eval e X.env) :: starEach [] X.env := by rfl) (hpl : (backTo pos (starEach (e :: []) X.env)).any (·.1) = false := by rfl)
    (hall : (backToKw pos (keywordEach [⟨some (Str.ofString "default"), d, kpos⟩] X.env)).all (·.1.isSome) = true := by rfl) (hnone : (backToKw pos (keywordEach [⟨some (Str.ofString "default"), d, kpos⟩] X.env)).any (·.1.isNone) = false := by rfl)
    (hks : (backToKw pos (keywordEach [⟨some (Str.ofString "default"), d, kpos⟩] X.env)).filterMap (·.1) = [Str.ofString "default"] := by rfl) :
    PE X (.Call (.Name "min" p) [e] [⟨some (Str.ofString "default"), d, kpos⟩] pos) (tMinD X.K ta td) :=
  pe_callBK (cr_minD hc hu) hg hm (by decide +kernel) (pa_cons ha pa_nil hse) (pk_cons hd pk_nil) (by decide) (by decide) he hpl hall hnone hks
end
/-! ### == and != of data -/
def rEqT (K : PySem.W.Frag) : R2 := fun x y H Q => ∃ (α : Type) (_ : DecidableEq α) (_ : PySem.W.Datum α) (a b : α), Dp K H x (PySem.W.Datum.toD a) ∧ Dp K H y (PySem.W.Datum.toD b) ∧ PySem.W.Datum.depth α ≤ 64 ∧ Q (.bl (decide (a = b))) H
def rNeT (K : PySem.W.Frag) : R2 := fun x y H Q => ∃ (α : Type) (_ : DecidableEq α) (_ : PySem.W.Datum α) (a b : α), Dp K H x (PySem.W.Datum.toD a) ∧ Dp K H y (PySem.W.Datum.toD b) ∧ PySem.W.Datum.depth α ≤ 64 ∧ Q (.bl (decide (a ≠ b))) H
section
variable {X : Cx}
theorem op_eqT (hu : X.A.units + 64 < cLine) : OpR X (compareOp .Eq) (rEqT X.K) := by
  intro pins s σ H x y v u Q I rx ry h
  obtain ⟨α, d1, d2, a, b, ha, hb, hd, q⟩ := h
  exact PySem.W.eq_datum (Dp.reads I _ x v ha rx) (Dp.reads I _ y u hb ry) (by omega) ⟨.bl _, H, I, rfl, q⟩
theorem op_neT (hu : X.A.units + 64 < cLine) : OpR X (compareOp .NotEq) (rNeT X.K) := by
  intro pins s σ H x y v u Q I rx ry h
  obtain ⟨α, d1, d2, a, b, ha, hb, hd, q⟩ := h
  exact PySem.W.ne_datum (Dp.reads I _ x v ha rx) (Dp.reads I _ y u hb ry) (by omega) ⟨.bl _, H, I, rfl, q⟩
end
theorem eqT_of {K : PySem.W.Frag} {x y : V} {H : Hp} {Q : VK} {α : Type} [DecidableEq α] [PySem.W.Datum α] {a b : α} (ha : Dp K H x (PySem.W.Datum.toD a)) (hb : Dp K H y (PySem.W.Datum.toD b)) (hd : PySem.W.Datum.depth α ≤ 64) (q : Q (.bl (decide (a = b))) H) : rEqT K x y H Q := ⟨α, _, _, a, b, ha, hb, hd, q⟩
theorem neT_of {K : PySem.W.Frag} {x y : V} {H : Hp} {Q : VK} {α : Type} [DecidableEq α] [PySem.W.Datum α] {a b : α} (ha : Dp K H x (PySem.W.Datum.toD a)) (hb : Dp K H y (PySem.W.Datum.toD b)) (hd : PySem.W.Datum.depth α ≤ 64) (q : Q (.bl (decide (a ≠ b))) H) : rNeT K x y H Q := ⟨α, _, _, a, b, ha, hb, hd, q⟩
theorem ho_ints {K : PySem.W.Frag} {H : Hp} {p : Addr} {ns : List Int} (h : SqL K H p (ns.map V.int)) : Dp K H (.ref p) (PySem.W.Datum.toD ns) := .lst h (dp_ints ns)
/-! ### heaps -/
theorem same_new {H : Hp} {p : Addr} {o : HO} (h : H p = none) : Same H (upd H p o) := fun b x e => by
  rw [upd_ne (ne_of_none e h)]
  exact e
/-- what stood ahead of an object's making stands behind a store into it -/
theorem _root_.L2.Same.store {H H' : Hp} {p : Addr} {o : HO} (s : Same H H') (h : H p = none) : Same H (upd H' p o) := fun b x e => by
  rw [upd_ne (ne_of_none e h)]
  exact s b x e
theorem _root_.L2.Same.seqT {K : PySem.W.Frag} {H H' : Hp} {a : Addr} {xs : List V} (e : Same H H') (h : SqT K H a xs) : SqT K H' a xs := by
  rcases h with (h | ⟨o, h⟩) | h
  · exact .inl (.inl (e _ _ h))
  · exact .inl (.inr ⟨o, e _ _ h⟩)
  · exact .inr h
theorem _root_.L2.Same.seqA {K : PySem.W.Frag} {H H' : Hp} {a : Addr} {xs : List V} (e : Same H H') (h : SqA K H a xs) : SqA K H' a xs := h.elim (fun h => .inl (e.seq h)) (fun h => .inr (e.seqT h))
theorem sqL_of {K : PySem.W.Frag} {H : Hp} {a : Addr} {xs : List V} (h : H a = some (.lst xs)) : SqL K H a xs := .inl (.inl h)
theorem sqT_of {K : PySem.W.Frag} {H : Hp} {a : Addr} {xs : List V} (h : H a = some (.tup xs)) : SqT K H a xs := .inl (.inl h)
/-! ### loops and comprehensions in short -/
theorem for_seq {K : PySem.W.Frag} {a : Addr} {xs : List V} {tl : TE} {g : TG} {tb : TS} {D : Ends} {σ : L2.St} {H0 H : Hp} (ht : ∀ Q : VK, Q (.ref a) H → tl σ H Q) (hA : SqA K H0 a xs) (Pv : Nat → L2.St → Hp → Prop) (h0 : Pv 0 σ H) (hl : ∀ i σ H', Pv i σ H' → Same H0 H')
    (hs : ∀ i x σ H, xs[i]? = some x → Pv i σ H → g x σ H fun σ2 H2 => tb { D with nx := Pv (i + 1), ct := Pv (i + 1), bk := D.nx } σ2 H2) (hd : ∀ σ H, Pv xs.length σ H → D.nx σ H) : tFor (iSeq K tl) g tb D σ H := by
  rcases hA with h | h
  · exact .inl (ht _ ⟨a, rfl, ⟨_, (hl _ _ _ h0).seq h⟩, for_list (K := K) (a := a) Pv h0 (fun i σ H' _ p => (hl i σ H' p).seq h) hs hd⟩)
  · exact .inr (ht _ ⟨a, rfl, ⟨_, (hl _ _ _ h0).seqT h⟩, for_tup (K := K) (a := a) Pv h0 (fun i σ H' _ p => (hl i σ H' p).seqT h) hs hd⟩)
theorem take_more {α : Type} : ∀ {l : List α} {i : Nat} {x : α}, l[i]? = some x → l.take (i + 1) = l.take i ++ [x] := fun {l i x} h => by
  rw [List.take_add_one, h]
  rfl
theorem item_of {ns : List Int} {i : Nat} {y : V} (hi : (ns.map V.int)[i]? = some y) : ∃ z, ns[i]? = some z ∧ y = V.int z := by
  rw [List.getElem?_map] at hi
  cases e : ns[i]? with
  | none => rw [e] at hi; cases hi
  | some z => rw [e] at hi; exact ⟨z, rfl, (Option.some.inj hi).symm⟩
/-- a comprehension over anything that gives n values it 0, it 1 .. and leaves what is tracked; p the test, f the element -/
theorem lc_pure {J : It} {n : Nat} {G : Hp → Prop} {tt : TT} {te : TE} {g : TG} {vs : List Nat} {σ : L2.St} {H1 : Hp} {Qd : Addr → Hp → Prop} {Y : Nat → Hp → V → Hp → Prop} {α : Type} (w : Walk J n G Y) (hn : n < sizeLine) (xs : List α) (hx : xs.length = n) (p : α → Bool) (f : α → V) (hG : ∀ H', Same H1 H' → G H')
    (hs : ∀ i (x : α) (v : V) (H H' : Hp) (R : Bool → V → Hp → Prop), xs[i]? = some x → Same H1 H → Y i H v H' → (∀ y H'', Same H H'' → (p x = true → y = f x) → R (p x) y H'') →
      g v (wipe σ vs) H' fun σ2 H2 => wipe σ2 vs = wipe σ vs ∧ tt σ2 H2 fun b H3 => if b = true then te σ2 H3 fun y H4 => R true y H4 else R false .non H3)
    (hQ : ∀ D H', H1 D = none → Same H1 H' → H' D = some (.lst ((xs.filter p).map f)) → Qd D H') :
    ∀ D, H1 D = none → ∃ W : Nat → Nat → Hp → Prop, (∃ m, W 0 m (upd H1 D (.lst []))) ∧ ∀ i m H, W i m H →
      (J.stop i H ∧ Qd D H) ∨ (J.go i H ∧ ∃ Nx : Hp → Prop, (∀ H', Nx H' → ∃ m', m' < m ∧ W (i + 1) m' H') ∧ ∀ x H', J.yld i H x H' → g x (wipe σ vs) H' fun σ2 H2 => wipe σ2 vs = wipe σ vs ∧ tt σ2 H2 fun b H3 =>
        if b = true then te σ2 H3 fun y H4 => ∃ acc, H4 D = some (.lst acc) ∧ acc.length < sizeLine ∧ Nx (upd H4 D (.lst (acc ++ [y]))) else Nx H3) := by
  intro D hD
  refine lc_it w (fun i H => Same H1 H ∧ H D = some (.lst (((xs.take i).filter p).map f))) ⟨same_new hD, upd_same⟩ (fun i H _ h => hG H h.1) ?_ ?_
  · intro i v H H' hi ⟨s, e⟩ y
    have hi' : i < xs.length := by omega
    have hx' : xs[i]? = some xs[i] := List.getElem?_eq_getElem hi'
    have fin := hs i xs[i] v H H' (fun b y H4 => if b = true then ∃ acc, H4 D = some (.lst acc) ∧ acc.length < sizeLine ∧ (Same H1 (upd H4 D (.lst (acc ++ [y]))) ∧ (upd H4 D (.lst (acc ++ [y]))) D = some (.lst (((xs.take (i + 1)).filter p).map f))) else Same H1 H4 ∧ H4 D = some (.lst (((xs.take (i + 1)).filter p).map f))) hx' s y ?_
    · exact fin
    · intro y H4 s4 hy
      have e4 := s4 _ _ e
      rw [take_more hx', List.filter_append, List.map_append]
      cases hp : p xs[i] with
      | true =>
        rw [if_pos rfl]
        refine ⟨_, e4, ?_, (s.trans s4).store hD, ?_⟩
        · rw [List.length_map]
          refine Nat.lt_of_le_of_lt (List.length_filter_le _ _) (Nat.lt_of_le_of_lt (List.length_take_le _ _) ?_)
          omega
        · rw [upd_same, hy hp]
          simp [List.filter, hp]
      | false =>
        rw [if_neg Bool.false_ne_true]
        refine ⟨s.trans s4, ?_⟩
        rw [e4]
        simp [List.filter, hp]
  · intro H ⟨s, e⟩
    rw [← hx, List.take_length] at e
    exact hQ D H hD s e

/-! ### what is a number, a quay, wishes -/
def isInt : V → Bool
  | .int _ => true
  | _ => false
def inB (lo hi : Int) : V → Bool
  | .int i => decide (lo ≤ i) && decide (i ≤ hi)
  | _ => false
def goodW (n : Nat) (xs : List V) : Bool := decide (xs.length ≤ 400) && xs.all (inB 1 n)
/-- what a check of a quay and of wishes for it comes to: R behind a good one -/
def ChkQ (K : PySem.W.Frag) (a : Ad) (b : V) (H : Hp) (E : XK) (R : Nat → Prop) : Prop := ∃ T, TyB K H b T ∧ ((inB 1 400 b = false ∧ E (.ref a.e_NoQuay) none H) ∨ ∃ n : Nat, b = .int n ∧ 1 ≤ n ∧ n ≤ 400 ∧ R n)
def ChkW (K : PySem.W.Frag) (a : Ad) (b w : V) (H : Hp) (E : XK) (R : Nat → List Int → Addr → Prop) : Prop := ChkQ K a b H E fun n =>
  (∃ T, TyB K H w T ∧ T ≠ "list" ∧ T ≠ "tuple" ∧ E (.ref a.e_NoWishes) none H) ∨
  ∃ p xs, w = .ref p ∧ SqA K H p xs ∧ (∀ x ∈ xs, ∃ T, TyB K H x T) ∧ ((goodW n xs = false ∧ E (.ref a.e_NoWishes) none H) ∨
    ∃ ws : List Int, xs = ws.map V.int ∧ ws.length ≤ 400 ∧ (∀ x ∈ ws, 1 ≤ x ∧ x ≤ n) ∧ R n ws p)
theorem ChkQ.imp {K : PySem.W.Frag} {a : Ad} {b : V} {H : Hp} {E : XK} {R R' : Nat → Prop} (h : ChkQ K a b H E R) (k : ∀ n : Nat, b = .int n → 1 ≤ n → n ≤ 400 → R n → R' n) : ChkQ K a b H E R' := by
  obtain ⟨T, ty, h | ⟨n, e, h1, h2, r⟩⟩ := h
  · exact ⟨T, ty, .inl h⟩
  · exact ⟨T, ty, .inr ⟨n, e, h1, h2, k n e h1 h2 r⟩⟩
theorem ChkW.imp {K : PySem.W.Frag} {a : Ad} {b w : V} {H : Hp} {E : XK} {R R' : Nat → List Int → Addr → Prop} (h : ChkW K a b w H E R)
    (k : ∀ (n : Nat) (ws : List Int) (p : Addr), b = .int n → w = .ref p → 1 ≤ n → n ≤ 400 → SqA K H p (ws.map V.int) → ws.length ≤ 400 → (∀ x ∈ ws, 1 ≤ x ∧ x ≤ n) → R n ws p → R' n ws p) : ChkW K a b w H E R' := by
  refine ChkQ.imp h fun n e h1 h2 r => ?_
  rcases r with r | ⟨p, xs, ew, hs, ht, r | ⟨ws, ex, hl, hb, r⟩⟩
  · exact .inl r
  · exact .inr ⟨p, xs, ew, hs, ht, .inl r⟩
  · exact .inr ⟨p, xs, ew, hs, ht, .inr ⟨ws, ex, hl, hb, k n ws p e ew h1 h2 (ex ▸ hs) hl hb r⟩⟩
/-- a check that is passed -/
theorem ChkQ.ok {K : PySem.W.Frag} {a : Ad} {H : Hp} {E : XK} {R : Nat → Prop} {n : Nat} (h1 : 1 ≤ n) (h2 : n ≤ 400) (r : R n) : ChkQ K a (.int n) H E R := ⟨_, .int _, .inr ⟨n, rfl, h1, h2, r⟩⟩
theorem ChkW.ok {K : PySem.W.Frag} {a : Ad} {H : Hp} {E : XK} {R : Nat → List Int → Addr → Prop} {n : Nat} {ws : List Int} {p : Addr} (h1 : 1 ≤ n) (h2 : n ≤ 400) (hs : SqA K H p (ws.map V.int)) (hl : ws.length ≤ 400) (hb : ∀ x ∈ ws, 1 ≤ x ∧ x ≤ n) (r : R n ws p) : ChkW K a (.int n) (.ref p) H E R :=
  ChkQ.ok h1 h2 (.inr ⟨p, _, rfl, hs, fun x hx => by
    obtain ⟨i, _, rfl⟩ := List.mem_map.mp hx
    exact ⟨_, .int i⟩, .inr ⟨ws, rfl, hl, hb, r⟩⟩)
theorem goodW_ints {n : Nat} {ws : List Int} : goodW n (ws.map V.int) = true ↔ ws.length ≤ 400 ∧ ∀ x ∈ ws, 1 ≤ x ∧ x ≤ n := by
  unfold goodW
  simp [inB]
theorem inB_int {lo hi : Int} {v : V} (h : inB lo hi v = true) : ∃ i, v = .int i ∧ lo ≤ i ∧ i ≤ hi := by
  cases v with
  | int i =>
    simp only [inB, Bool.and_eq_true, decide_eq_true_eq] at h
    exact ⟨i, rfl, h⟩
  | _ => cases h
theorem goodW_of {n : Nat} {xs : List V} (h : goodW n xs = true) : ∃ ws : List Int, xs = ws.map V.int ∧ ws.length ≤ 400 ∧ ∀ x ∈ ws, 1 ≤ x ∧ x ≤ n := by
  unfold goodW at h
  simp only [Bool.and_eq_true, decide_eq_true_eq, List.all_eq_true] at h
  obtain ⟨h1, h2⟩ := h
  have e : ∃ ws : List Int, xs = ws.map V.int := by
    clear h1
    induction xs with
    | nil => exact ⟨[], rfl⟩
    | cons x r ih =>
      obtain ⟨ws, e⟩ := ih fun y hy => h2 y (List.mem_cons_of_mem _ hy)
      obtain ⟨i, ei, _⟩ := inB_int (h2 x List.mem_cons_self)
      exact ⟨i :: ws, by rw [ei, e]; rfl⟩
  obtain ⟨ws, rfl⟩ := e
  refine ⟨ws, rfl, by simpa using h1, fun x hx => ?_⟩
  obtain ⟨i, ei, h3, h4⟩ := inB_int (h2 (.int x) (List.mem_map_of_mem hx))
  cases ei
  exact ⟨h3, h4⟩
theorem tyb_int {K : PySem.W.Frag} {H : Hp} {x : V} {T : String} (h : TyB K H x T) : decide (T = "int") = isInt x := by
  cases h <;> first | rfl | decide
theorem tyb_ref {K : PySem.W.Frag} {H : Hp} {x : V} {T : String} (h : TyB K H x T) (e : T = "list" ∨ T = "tuple") : ∃ p xs, x = .ref p ∧ SqA K H p xs := by
  cases h with
  | lst h => exact ⟨_, _, rfl, .inl h⟩
  | tup h => exact ⟨_, _, rfl, .inr h⟩
  | non => rcases e with e | e <;> exact absurd e (by decide)
  | bl => rcases e with e | e <;> exact absurd e (by decide)
  | int => rcases e with e | e <;> exact absurd e (by decide)
  | str => rcases e with e | e <;> exact absurd e (by decide)
  | byt => rcases e with e | e <;> exact absurd e (by decide)
  | dK => rcases e with e | e <;> exact absurd e (by decide)
theorem SqA.ty {K : PySem.W.Frag} {H : Hp} {p : Addr} {xs : List V} (h : SqA K H p xs) : ∃ T, TyB K H (.ref p) T ∧ (decide (T = "list") || decide (T = "tuple")) = true := by
  rcases h with h | h
  · exact ⟨_, .lst h, by decide⟩
  · exact ⟨_, .tup h, by decide⟩
/-! is_number, is_from_to, is_row -/
def sp_is_number (K : PySem.W.Frag) (a : Ad) : Sp := fun vs H Q _ => ∃ x T, vs = [x] ∧ TyB K H x T ∧ Q (.bl (isInt x)) H
abbrev N_is_number : List Str := ["thing"]
def t_is_number (K : PySem.W.Frag) (a : Ad) : TS :=
  (tRet (tOp rIsTyB (tCB (rTyp K) (tCons (tVar 0) tNil)) (tC (.ty "int"))))
theorem len_is_number {K : PySem.W.Frag} {a : Ad} {vs : List V} {H : Hp} {Q : VK} {E : XK} (h : sp_is_number K a vs H Q E) : vs.length = 1 := by
  obtain ⟨x, T, rfl, _⟩ := h
  rfl
theorem pu_is_number {K : PySem.W.Frag} {a : Ad} {vs : List V} {H : Hp} {Q : VK} {E : XK} (h : sp_is_number K a vs H Q E) : t_is_number K a { nx := fun _ H' => Q .non H', rt := Q } (start N_is_number vs) H := by
  obtain ⟨x, T, rfl, ty, q⟩ := h
  refine ⟨x, rfl, x, T, rfl, ty, _, _, rfl, rfl, ?_⟩
  rw [tyb_int ty]
  exact q
def sp_is_from_to (K : PySem.W.Frag) (a : Ad) : Sp := fun vs H Q _ => ∃ lo hi x T, vs = [.int lo, .int hi, x] ∧ TyB K H x T ∧ Q (.bl (inB lo hi x)) H
abbrev N_is_from_to : List Str := ["low", "high", "thing"]
def t_is_from_to (K : PySem.W.Frag) (a : Ad) : TS :=
  (tRet (tAndV (tCall (sp_is_number K a) [] E0 (tCons (tVar 2) tNil)) (tChain rLeI rLeI (tVar 0) (tVar 2) (tVar 1))))
theorem len_is_from_to {K : PySem.W.Frag} {a : Ad} {vs : List V} {H : Hp} {Q : VK} {E : XK} (h : sp_is_from_to K a vs H Q E) : vs.length = 3 := by
  obtain ⟨lo, hi, x, T, rfl, _⟩ := h
  rfl
theorem pu_is_from_to {K : PySem.W.Frag} {a : Ad} {vs : List V} {H : Hp} {Q : VK} {E : XK} (h : sp_is_from_to K a vs H Q E) : t_is_from_to K a { nx := fun _ H' => Q .non H', rt := Q } (start N_is_from_to vs) H := by
  obtain ⟨lo, hi, x, T, rfl, ty, q⟩ := h
  refine ⟨x, rfl, x, T, rfl, ty, isInt x, rfl, ?_⟩
  cases x with
  | int i =>
    refine iteT ⟨_, rfl, _, rfl, lo, i, rfl, rfl, _, rfl, ?_⟩
    by_cases h1 : lo ≤ i
    · rw [decide_eq_true h1]
      refine iteT ⟨_, rfl, i, hi, rfl, rfl, ?_⟩
      have e : inB lo hi (.int i) = decide (i ≤ hi) := by simp [inB, h1]
      rw [e] at q
      exact q
    · rw [decide_eq_false h1]
      have e : inB lo hi (.int i) = false := by simp [inB, h1]
      rw [e] at q
      exact iteF q
  | _ => exact iteF q
def sp_is_row (K : PySem.W.Frag) (a : Ad) : Sp := fun vs H Q _ => ∃ x T, vs = [x] ∧ TyB K H x T ∧ Q (.bl (decide (T = "list") || decide (T = "tuple"))) H
abbrev N_is_row : List Str := ["thing"]
def t_is_row (K : PySem.W.Frag) (a : Ad) : TS :=
  (tRet (tOrV (tOp rIsTyB (tCB (rTyp K) (tCons (tVar 0) tNil)) (tC (.ty "list"))) (tOp rIsTyB (tCB (rTyp K) (tCons (tVar 0) tNil)) (tC (.ty "tuple")))))
theorem len_is_row {K : PySem.W.Frag} {a : Ad} {vs : List V} {H : Hp} {Q : VK} {E : XK} (h : sp_is_row K a vs H Q E) : vs.length = 1 := by
  obtain ⟨x, T, rfl, _⟩ := h
  rfl
theorem pu_is_row {K : PySem.W.Frag} {a : Ad} {vs : List V} {H : Hp} {Q : VK} {E : XK} (h : sp_is_row K a vs H Q E) : t_is_row K a { nx := fun _ H' => Q .non H', rt := Q } (start N_is_row vs) H := by
  obtain ⟨x, T, rfl, ty, q⟩ := h
  refine ⟨x, rfl, x, T, rfl, ty, _, _, rfl, rfl, _, rfl, ?_⟩
  by_cases h1 : T = "list"
  · rw [decide_eq_true h1] at q ⊢
    exact iteT q
  · rw [decide_eq_false h1] at q ⊢
    exact iteF ⟨x, rfl, x, T, rfl, ty, _, _, rfl, rfl, q⟩
/-! check_quay, check_wishes -/
def sp_check_quay (K : PySem.W.Frag) (a : Ad) : Sp := fun vs H Q E => ∃ b, vs = [b] ∧ ChkQ K a b H E fun _ => Q .non H
abbrev N_check_quay : List Str := ["berths"]
def t_check_quay (K : PySem.W.Frag) (a : Ad) (E : XK) : TS :=
  (tIfS (tNot (tB (tCall (sp_is_from_to K a) [] E0 (tCons (tC (.int 1)) (tCons (tC (.int 400)) (tCons (tVar 0) tNil)))))) (tRaise a.e_NoQuay E) tNext)
theorem len_check_quay {K : PySem.W.Frag} {a : Ad} {vs : List V} {H : Hp} {Q : VK} {E : XK} (h : sp_check_quay K a vs H Q E) : vs.length = 1 := by
  obtain ⟨b, rfl, _⟩ := h
  rfl
theorem pu_check_quay {K : PySem.W.Frag} {a : Ad} {vs : List V} {H : Hp} {Q : VK} {E : XK} (h : sp_check_quay K a vs H Q E) : t_check_quay K a E { nx := fun _ H' => Q .non H', rt := Q } (start N_check_quay vs) H := by
  obtain ⟨b, rfl, T, ty, h⟩ := h
  refine ⟨b, rfl, 1, 400, b, T, rfl, ty, inB 1 400 b, rfl, ?_⟩
  rcases h with ⟨e, q⟩ | ⟨n, rfl, h1, h2, q⟩
  · rw [e]
    exact iteT q
  · have e : inB 1 400 (.int n) = true := by simp [inB]; omega
    rw [e]
    exact iteF q
def sp_check_wishes (K : PySem.W.Frag) (a : Ad) : Sp := fun vs H Q E => ∃ b w, vs = [b, w] ∧ ChkW K a b w H E fun _ _ _ => Q .non H
abbrev N_check_wishes : List Str := ["berths", "wishes", "wish"]
def t_check_wishes (K : PySem.W.Frag) (a : Ad) (E : XK) : TS :=
  (tSeq (tDrop (tCall (sp_check_quay K a) [] E (tCons (tVar 0) tNil)))
    (tSeq (tIfS (tNot (tB (tCall (sp_is_row K a) [] E0 (tCons (tVar 1) tNil)))) (tRaise a.e_NoWishes E) tNext)
    (tSeq (tIfS (tTest (tOp rGtI (tCB (rLenSq K) (tCons (tVar 1) tNil)) (tC (.int 400)))) (tRaise a.e_NoWishes E) tNext)
    (tFor (iSeq K (tVar 1)) (gName 2)
    (tIfS (tNot (tB (tCall (sp_is_from_to K a) [] E0 (tCons (tC (.int 1)) (tCons (tVar 0) (tCons (tVar 2) tNil)))))) (tRaise a.e_NoWishes E) tNext)))))
theorem len_check_wishes {K : PySem.W.Frag} {a : Ad} {vs : List V} {H : Hp} {Q : VK} {E : XK} (h : sp_check_wishes K a vs H Q E) : vs.length = 2 := by
  obtain ⟨b, w, rfl, _⟩ := h
  rfl
theorem pu_check_wishes {K : PySem.W.Frag} {a : Ad} {vs : List V} {H : Hp} {Q : VK} {E : XK} (h : sp_check_wishes K a vs H Q E) : t_check_wishes K a E { nx := fun _ H' => Q .non H', rt := Q } (start N_check_wishes vs) H := by
  obtain ⟨b, w, rfl, h⟩ := h
  refine ⟨b, rfl, b, rfl, ChkQ.imp h fun n e h1 h2 r => ?_⟩
  rcases r with ⟨T, ty, n1, n2, q⟩ | ⟨p, xs, rfl, hs, ht, r⟩
  · refine ⟨w, rfl, w, T, rfl, ty, _, rfl, ?_⟩
    rw [decide_eq_false n1, decide_eq_false n2]
    exact iteT q
  · obtain ⟨T, ty, eT⟩ := hs.ty
    refine ⟨.ref p, rfl, .ref p, T, rfl, ty, _, rfl, ?_⟩
    rw [eT]
    refine iteF ⟨.ref p, rfl, p, xs, rfl, hs, _, _, rfl, rfl, _, rfl, ?_⟩
    have done : (goodW n xs = false → E (.ref a.e_NoWishes) none H) ∧ (goodW n xs = true → Q .non H) := by
      rcases r with ⟨g, q⟩ | ⟨ws, ex, hl, hb, q⟩
      · exact ⟨fun _ => q, fun g' => by rw [g] at g'; cases g'⟩
      · have g : goodW n xs = true := by rw [ex]; exact goodW_ints.mpr ⟨hl, hb⟩
        exact ⟨fun g' => (by rw [g] at g'; cases g'), fun _ => q⟩
    by_cases hl : xs.length ≤ 400
    · rw [decide_eq_false (show ¬ ((400 : Int) < (xs.length : Int)) by omega)]
      refine iteF (for_seq (K := K) (H0 := H) (fun Q q => ⟨.ref p, rfl, q⟩) hs (fun i σ H' => H' = H ∧ (xs.take i).all (inB 1 n) = true ∧ ∃ y, σ = [some b, some (.ref p), y]) ⟨rfl, rfl, none, rfl⟩ (fun i σ H' e => by rw [e.1]; exact Same.refl H) ?_ ?_)
      · rintro i x σ H' hx ⟨rfl, ha, y, rfl⟩
        obtain ⟨T, ty⟩ := ht x (List.mem_of_getElem? hx)
        refine ⟨b, rfl, x, rfl, 1, n, x, T, by rw [e] <;> rfl, ty, inB 1 n x, rfl, ?_⟩
        cases g : inB 1 n x with
        | true => exact iteF ⟨rfl, by rw [take_more hx, List.all_append, ha]; simp [g], some x, rfl⟩
        | false =>
          refine iteT (done.1 ?_)
          unfold goodW
          have : xs.all (inB 1 n) = false := by
            cases z : xs.all (inB 1 n) with
            | false => rfl
            | true =>
              rw [List.all_eq_true] at z
              rw [z x (List.mem_of_getElem? hx)] at g
              cases g
          rw [this, Bool.and_false]
      · rintro σ H' ⟨rfl, ha, y, rfl⟩
        rw [List.take_length] at ha
        refine done.2 ?_
        unfold goodW
        rw [ha, decide_eq_true hl]
        rfl
    · rw [decide_eq_true (show (400 : Int) < (xs.length : Int) by omega)]
      refine iteT (done.1 ?_)
      unfold goodW
      rw [decide_eq_false hl]
      rfl

/-! ### the straight quay: the mathematics of laying -/
/-- the first free one of k berths from w on -/
def ffr (occ : Int → Bool) : Nat → Int → Option Int
  | 0, _ => none
  | k + 1, w => if occ w = true then ffr occ k (w + 1) else some w
def ffree (n : Nat) (occ : Int → Bool) (w : Int) : Option Int := ffr occ ((n : Int) + 1 - w).toNat w
def setO (occ : Int → Bool) (b : Int) : Int → Bool := fun x => decide (x = b) || occ x
def pstep (n : Nat) (s : (Int → Bool) × List (Option Int)) (w : Int) : (Int → Bool) × List (Option Int) :=
  match ffree n s.1 w with
  | none => (s.1, s.2 ++ [none])
  | some b => (setO s.1 b, s.2 ++ [some b])
def prun (n : Nat) (ws : List Int) : (Int → Bool) × List (Option Int) := ws.foldl (pstep n) (fun _ => false, [])
def placedL (n : Nat) (ws : List Int) : List (Option Int) := (prun n ws).2
def vO : Option Int → V
  | none => .non
  | some b => .int b
def heldL (n : Nat) (occ : Int → Bool) : List V := (List.range (n + 1)).map fun (i : Nat) => V.bl (occ (i : Int))
theorem ffr_spec {occ : Int → Bool} : ∀ (k : Nat) (w : Int), (∀ b, ffr occ k w = some b → w ≤ b ∧ b < w + k ∧ occ b = false ∧ ∀ x, w ≤ x → x < b → occ x = true) ∧ (ffr occ k w = none → ∀ x, w ≤ x → x < w + k → occ x = true)
  | 0, w => ⟨fun b h => (by cases h), fun _ x h1 h2 => by omega⟩
  | k + 1, w => by
    obtain ⟨i1, i2⟩ := ffr_spec (occ := occ) k (w + 1)
    unfold ffr
    cases e : occ w with
    | true =>
      rw [if_pos rfl]
      refine ⟨fun b h => ?_, fun h x h1 h2 => ?_⟩
      · obtain ⟨j1, j2, j3, j4⟩ := i1 b h
        refine ⟨by omega, by omega, j3, fun x h1 h2 => ?_⟩
        by_cases z : x = w
        · rw [z]; exact e
        · exact j4 x (by omega) h2
      · by_cases z : x = w
        · rw [z]; exact e
        · exact i2 h x (by omega) (by omega)
    | false =>
      rw [if_neg Bool.false_ne_true]
      refine ⟨fun b h => ?_, fun h => (by cases h)⟩
      cases h
      exact ⟨Int.le_refl _, by omega, e, fun x h1 h2 => by omega⟩
theorem ffree_some {n : Nat} {occ : Int → Bool} {w b : Int} (h : ffree n occ w = some b) : w ≤ b ∧ b ≤ n ∧ occ b = false ∧ ∀ x, w ≤ x → x < b → occ x = true := by
  obtain ⟨h1, h2, h3, h4⟩ := (ffr_spec _ _).1 b h
  exact ⟨h1, by omega, h3, h4⟩
theorem ffree_none {n : Nat} {occ : Int → Bool} {w : Int} (h : ffree n occ w = none) : ∀ x, w ≤ x → x ≤ n → occ x = true := fun x h1 h2 => (ffr_spec _ _).2 h x h1 (by omega)
theorem prun_more {n : Nat} {ws : List Int} {i : Nat} {w : Int} (h : ws[i]? = some w) : prun n (ws.take (i + 1)) = pstep n (prun n (ws.take i)) w := by
  unfold prun
  rw [take_more h, List.foldl_append]
  rfl
theorem prun_snoc {n : Nat} {ws : List Int} {w : Int} : prun n (ws ++ [w]) = pstep n (prun n ws) w := by
  unfold prun
  rw [List.foldl_append]
  rfl
theorem pstep_len {n : Nat} {s : (Int → Bool) × List (Option Int)} {w : Int} : (pstep n s w).2.length = s.2.length + 1 := by
  unfold pstep
  cases ffree n s.1 w <;> simp
theorem snoc_ind {α : Type} {p : List α → Prop} (h0 : p []) (h1 : ∀ l x, p l → p (l ++ [x])) : ∀ l, p l := fun l => by
  have : ∀ n, ∀ l : List α, l.length = n → p l := by
    intro n
    induction n with
    | zero => intro l h; rw [List.length_eq_zero_iff.mp h]; exact h0
    | succ n ih =>
      intro l h
      have hne : l ≠ [] := fun z => by rw [z] at h; cases h
      rw [← List.dropLast_concat_getLast hne]
      exact h1 _ _ (ih _ (by rw [List.length_dropLast, h]; rfl))
  exact this _ l rfl
theorem prun_len {n : Nat} : ∀ ws : List Int, (prun n ws).2.length = ws.length := snoc_ind rfl fun ws w ih => by
  rw [prun_snoc, pstep_len, ih]
  simp
theorem placedL_len {n : Nat} {ws : List Int} : (placedL n ws).length = ws.length := prun_len ws
theorem heldL_at {n : Nat} {occ : Int → Bool} {i : Nat} (h : i ≤ n) : (heldL n occ)[i]? = some (.bl (occ (i : Int))) := by
  unfold heldL
  rw [List.getElem?_map, List.getElem?_range (by omega)]
  rfl
theorem heldL_len {n : Nat} {occ : Int → Bool} : (heldL n occ).length = n + 1 := by simp [heldL]
theorem heldL_set {n : Nat} {occ : Int → Bool} {b : Int} (h0 : 0 ≤ b) (h : b ≤ n) : (heldL n occ).set b.toNat (.bl true) = heldL n (setO occ b) := by
  apply List.ext_getElem?
  intro i
  by_cases hi : i ≤ n
  · rw [heldL_at hi]
    by_cases e : i = b.toNat
    · subst e
      rw [List.getElem?_set_self (by rw [heldL_len]; omega)]
      have : ((b.toNat : Nat) : Int) = b := by omega
      simp [setO, this]
    · rw [List.getElem?_set_ne (Ne.symm e), heldL_at hi]
      have : ¬ ((i : Nat) : Int) = b := by omega
      simp [setO, this]
  · rw [List.getElem?_eq_none (show ((heldL n occ).set b.toNat (V.bl true)).length ≤ i by rw [List.length_set, heldL_len]; omega), List.getElem?_eq_none (show (heldL n (setO occ b)).length ≤ i by rw [heldL_len]; omega)]
theorem heldL_new {n : Nat} : (List.replicate (n + 1) [V.bl false]).flatten = heldL n (fun _ => false) := by
  apply List.ext_getElem?
  intro i
  have e : (List.replicate (n + 1) [V.bl false]).flatten = List.replicate (n + 1) (V.bl false) := by
    generalize n + 1 = m
    induction m with
    | zero => rfl
    | succ m ih => rw [List.replicate_succ, List.replicate_succ, List.flatten_cons, ih]; rfl
  rw [e]
  by_cases hi : i ≤ n
  · rw [heldL_at hi, List.getElem?_replicate_of_lt (by omega)]
  · rw [List.getElem?_eq_none (show (List.replicate (n + 1) (V.bl false)).length ≤ i by rw [List.length_replicate]; omega), List.getElem?_eq_none (show (heldL n fun _ => false).length ≤ i by rw [heldL_len]; omega)]
theorem l1000 {n : Nat} (h : n ≤ 1000) : n ≤ sizeLine := Nat.le_of_lt (small1000 h)
/-! ### first_free -/
def sp_first_free (K : PySem.W.Frag) (a : Ad) : Sp := fun vs H Q _ => ∃ (h : Addr) (n : Nat) (occ : Int → Bool) (w : Int), vs = [.ref h, .int w] ∧ SqL K H h (heldL n occ) ∧ n ≤ 900 ∧ 0 ≤ w ∧ w ≤ 1000 ∧ Q (vO (ffree n occ w)) H
abbrev N_first_free : List Str := ["held", "wish", "berth"]
def t_first_free (K : PySem.W.Frag) (a : Ad) : TS :=
  (tSeq (tFor (iRng2 (tCons (tVar 1) (tCons (tCB (rLenSq K) (tCons (tVar 0) tNil)) tNil))) (gName 2)
    (tIfS (tNot (tB (tOp (rIxL K) (tVar 0) (tVar 2)))) (tRet (tVar 2)) tNext))
    (tRet (tC .non)))
theorem len_first_free {K : PySem.W.Frag} {a : Ad} {vs : List V} {H : Hp} {Q : VK} {E : XK} (h : sp_first_free K a vs H Q E) : vs.length = 2 := by
  obtain ⟨h, n, occ, w, rfl, _⟩ := h
  rfl
theorem pu_first_free {K : PySem.W.Frag} {a : Ad} {vs : List V} {H : Hp} {Q : VK} {E : XK} (h : sp_first_free K a vs H Q E) : t_first_free K a { nx := fun _ H' => Q .non H', rt := Q } (start N_first_free vs) H := by
  obtain ⟨h, n, occ, w, rfl, hs, hn, h0, hw, q⟩ := h
  refine ⟨.int w, rfl, .ref h, rfl, h, _, rfl, .inl hs, w, ((heldL n occ).length : Nat), rfl, ?_, ?_⟩
  · rw [heldL_len]
    omega
  rw [heldL_len]
  have en : (((n + 1 : Nat) : Int) - w).toNat = ((n : Int) + 1 - w).toNat := by omega
  rw [en]
  refine for_range (fun i σ H' => H' = H ∧ ffree n occ w = ffr occ (((n : Int) + 1 - w).toNat - i) (w + i) ∧ ∃ y, σ = [some (.ref h), some (.int w), y]) ⟨rfl, by simp [ffree], none, rfl⟩ ?_ ?_
  · rintro i σ H' hi ⟨rfl, e, y, rfl⟩
    have hx : (heldL n occ)[(w + i).toNat]? = some (.bl (occ (w + i))) := by
      rw [heldL_at (by omega)]
      have : (((w + i).toNat : Nat) : Int) = w + i := by omega
      rw [this]
    refine ⟨.ref h, rfl, .int (w + i), rfl, h, _, _, .bl (occ (w + i)), rfl, rfl, hs, at_of (by omega) hx, occ (w + i), rfl, ?_⟩
    have e2 : ((n : Int) + 1 - w).toNat - i = (((n : Int) + 1 - w).toNat - (i + 1)) + 1 := by omega
    rw [e2] at e
    unfold ffr at e
    cases o : occ (w + i) with
    | true =>
      rw [o, if_pos rfl] at e
      refine iteF ⟨rfl, ?_, some (.int (w + i)), rfl⟩
      rw [e]
      congr 1
      omega
    | false =>
      rw [o, if_neg Bool.false_ne_true] at e
      refine iteT ⟨.int (w + i), rfl, ?_⟩
      rw [e] at q
      exact q
  · rintro σ H' ⟨rfl, e, y, rfl⟩
    rw [Nat.sub_self] at e
    rw [e] at q
    exact q
/-! ### placed -/
/-! ### taken, gone_on -/
def somes (l : List (Option Int)) : List Int := l.filterMap id
def sortI (l : List Int) : List Int := l.mergeSort fun x y => decide (x ≤ y)
theorem sortI_perm (l : List Int) : (sortI l).Perm l := List.mergeSort_perm l _
theorem sortI_sorted (l : List Int) : (sortI l).Pairwise (· ≤ ·) := by
  have h := List.pairwise_mergeSort (le := fun (x y : Int) => decide (x ≤ y)) (fun a b c h1 h2 => by simp only [decide_eq_true_eq] at *; omega) (fun a b => by simp only [Bool.or_eq_true, decide_eq_true_eq]; omega) l
  exact List.Pairwise.imp (fun h => of_decide_eq_true h) h
theorem sortI_uniq {l l' : List Int} (hp : l'.Perm l) (hs : l'.Pairwise (· ≤ ·)) : l' = sortI l := PySem.W.ksm_same (hp.trans (sortI_perm l).symm) hs (sortI_sorted l)
def takenL (n : Nat) (ws : List Int) : List Int := sortI (somes (placedL n ws))
/-- of each ship that lies, how far behind its wish -/
def goneL (ws : List Int) (bs : List (Option Int)) : List Int := (ws.zip bs).filterMap fun p => p.2.map fun b => b - p.1
theorem filter_some : ∀ l : List (Option Int), (l.filter Option.isSome).map vO = (somes l).map V.int
  | [] => rfl
  | none :: l => filter_some l
  | some b :: l => congrArg (V.int b :: ·) (filter_some l)
theorem vO_not (o : Option Int) : (!decide (vO o = .non)) = o.isSome := by
  cases o <;> rfl
theorem zip_gone : ∀ (ws : List Int) (bs : List (Option Int)), ((ws.zip bs).filter fun p => p.2.isSome).map (fun p => V.int ((p.2.getD 0) - p.1)) = (goneL ws bs).map V.int
  | [], _ => by simp [goneL]
  | _ :: _, [] => by simp [goneL]
  | w :: ws, none :: bs => by
    have ih := zip_gone ws bs
    simp only [List.zip_cons_cons, goneL] at ih ⊢
    simpa using ih
  | w :: ws, some b :: bs => by
    have ih := zip_gone ws bs
    simp only [List.zip_cons_cons, goneL] at ih ⊢
    simpa using ih
theorem zip_at {ws : List Int} {bs : List (Option Int)} {i : Nat} {x : Int × Option Int} (h : (ws.zip bs)[i]? = some x) : ws[i]? = some x.1 ∧ bs[i]? = some x.2 := by
  rw [List.getElem?_zip_eq_some] at h
  exact h
/-! ### good wishes: counting -/
theorem sub_len : ∀ {l1 l2 : List Int}, l1.Nodup → (∀ x ∈ l1, x ∈ l2) → l1.length ≤ l2.length
  | [], _, _, _ => Nat.zero_le _
  | x :: r, l2, nd, h => by
    obtain ⟨n1, n2⟩ := List.nodup_cons.mp nd
    have hx := h x List.mem_cons_self
    have ih := sub_len (l1 := r) (l2 := l2.erase x) n2 fun y hy => by
      have ne : y ≠ x := fun e => n1 (e ▸ hy)
      exact (List.mem_erase_of_ne ne).mpr (h y (List.mem_cons_of_mem _ hy))
    have e := List.length_erase_of_mem hx
    have p : 0 < l2.length := List.length_pos_of_mem hx
    rw [List.length_cons]
    omega
def upTo (lo : Int) (k : Nat) : List Int := (List.range k).map fun (i : Nat) => lo + (i : Int)
theorem mem_upTo {lo x : Int} {k : Nat} : x ∈ upTo lo k ↔ lo ≤ x ∧ x < lo + k := by
  unfold upTo
  simp only [List.mem_map, List.mem_range]
  constructor
  · rintro ⟨i, hi, rfl⟩
    omega
  · rintro ⟨h1, h2⟩
    exact ⟨(x - lo).toNat, by omega, by omega⟩
theorem upTo_len {lo : Int} {k : Nat} : (upTo lo k).length = k := by simp [upTo]
theorem upTo_nodup {lo : Int} {k : Nat} : (upTo lo k).Nodup := by
  unfold upTo
  exact (List.pairwise_map.mpr (List.Pairwise.imp (fun h => by omega) List.pairwise_lt_range))
theorem len_le_of {l : List Int} {lo : Int} {k : Nat} (nd : l.Nodup) (h : ∀ x ∈ l, lo ≤ x ∧ x < lo + k) : l.length ≤ k := by
  have := sub_len nd fun x hx => mem_upTo.mpr (h x hx)
  rw [upTo_len] at this
  exact this
theorem le_len_of {l : List Int} {lo : Int} {k : Nat} (h : ∀ x, lo ≤ x → x < lo + k → x ∈ l) : k ≤ l.length := by
  have := sub_len (upTo_nodup (lo := lo) (k := k)) fun x hx => by
    obtain ⟨h1, h2⟩ := mem_upTo.mp hx
    exact h x h1 h2
  rw [upTo_len] at this
  exact this
/-- how many of them are b or more -/
def cntGe (l : List Int) (b : Int) : Nat := (l.filter fun w => decide (b ≤ w)).length
theorem cntGe_snoc (l : List Int) (w b : Int) : cntGe (l ++ [w]) b = cntGe l b + if b ≤ w then 1 else 0 := by
  unfold cntGe
  rw [List.filter_append, List.length_append]
  by_cases h : b ≤ w <;> simp [List.filter, h]
theorem cntGe_le (l : List Int) (b : Int) : cntGe l b ≤ l.length := List.length_filter_le _ _
theorem cntGe_perm {l l' : List Int} (h : l.Perm l') (b : Int) : cntGe l b = cntGe l' b := (h.filter _).length_eq
theorem somes_snoc (l : List (Option Int)) (o : Option Int) : somes (l ++ [o]) = somes l ++ o.toList := by
  unfold somes
  rw [List.filterMap_append]
  cases o <;> rfl
/-- what holds behind ships that came -/
structure Lay (n : Nat) (ws : List Int) : Prop where
  occ : ∀ x, (prun n ws).1 x = true ↔ x ∈ somes (placedL n ws)
  nd : (somes (placedL n ws)).Nodup
  bd : ∀ x ∈ somes (placedL n ws), 1 ≤ x ∧ x ≤ n
  few : ∀ b, (b ≤ 1 ∨ (prun n ws).1 (b - 1) = false) → cntGe (somes (placedL n ws)) b ≤ cntGe ws b
  many : none ∉ placedL n ws → ∀ b, cntGe ws b ≤ cntGe (somes (placedL n ws)) b
  crowd : none ∈ placedL n ws → ∃ b : Int, 1 ≤ b ∧ b ≤ n ∧ (n : Int) - b + 1 < cntGe ws b
theorem placedL_snoc {n : Nat} {ws : List Int} {w : Int} : placedL n (ws ++ [w]) = placedL n ws ++ [ffree n (prun n ws).1 w] := by
  unfold placedL
  rw [prun_snoc]
  unfold pstep
  cases ffree n (prun n ws).1 w <;> rfl
theorem occ_snoc {n : Nat} {ws : List Int} {w : Int} : (prun n (ws ++ [w])).1 = match ffree n (prun n ws).1 w with | none => (prun n ws).1 | some b => setO (prun n ws).1 b := by
  rw [prun_snoc]
  unfold pstep
  cases ffree n (prun n ws).1 w <;> rfl
/-- the least one from which on all are held -/
theorem least_full {occ : Int → Bool} : ∀ (k : Nat), (∀ x, (k : Int) + 1 ≤ x → x ≤ k + 1 → occ x = true) → ∀ m : Int, (∀ x, (k : Int) + 1 ≤ x → x ≤ m → occ x = true) → ∃ b : Int, 1 ≤ b ∧ b ≤ k + 1 ∧ (∀ x, b ≤ x → x ≤ m → occ x = true) ∧ (b ≤ 1 ∨ occ (b - 1) = false)
  | 0, _, m, h => ⟨1, by omega, by omega, fun x h1 h2 => h x (by omega) h2, .inl (by omega)⟩
  | k + 1, h0, m, h => by
    cases e : occ ((k : Int) + 1) with
    | false => exact ⟨(k : Int) + 1 + 1, by omega, by omega, fun x h1 h2 => h x (by omega) h2, .inr (by rw [show (k : Int) + 1 + 1 - 1 = (k : Int) + 1 by omega]; exact e)⟩
    | true =>
      obtain ⟨b, b1, b2, b3, b4⟩ := least_full (occ := occ) k (fun x h1 h2 => by rw [show x = (k : Int) + 1 by omega]; exact e) m fun x h1 h2 => by
        by_cases z : x = (k : Int) + 1
        · rw [z]; exact e
        · exact h x (by omega) h2
      exact ⟨b, b1, by omega, b3, b4⟩
theorem lay (n : Nat) : ∀ ws : List Int, (∀ w ∈ ws, 1 ≤ w ∧ w ≤ n) → Lay n ws := snoc_ind (fun _ => ⟨fun x => by simp [prun, placedL, somes], List.nodup_nil, fun x hx => (by cases hx), fun b _ => Nat.zero_le _, fun _ b => Nat.le_refl _, fun h => (by cases h)⟩) fun ws w ih hb => by
  have hw := hb w (List.mem_append_right _ (List.mem_singleton.mpr rfl))
  obtain ⟨i1, i2, i3, i4, i5, i6⟩ := ih fun x hx => hb x (List.mem_append_left _ hx)
  cases e : ffree n (prun n ws).1 w with
  | none =>
    have es : somes (placedL n (ws ++ [w])) = somes (placedL n ws) := by rw [placedL_snoc, e, somes_snoc]; simp
    have eo : (prun n (ws ++ [w])).1 = (prun n ws).1 := by rw [occ_snoc, e]
    have full := ffree_none e
    refine ⟨fun x => by rw [eo, es]; exact i1 x, by rw [es]; exact i2, by rw [es]; exact i3, fun b h => ?_, fun h => ?_, fun _ => ?_⟩
    · rw [es, cntGe_snoc]
      rw [eo] at h
      have := i4 b h
      omega
    · rw [placedL_snoc, e] at h
      exact absurd (List.mem_append_right _ (List.mem_singleton.mpr rfl)) h
    · obtain ⟨b, b1, b2, b3, b4⟩ := least_full (occ := (prun n ws).1) (w - 1).toNat (fun x h1 h2 => full x (by omega) (by omega)) n fun x h1 h2 => full x (by omega) h2
      have c1 := i4 b b4
      have c2 : ((n : Int) - b + 1).toNat ≤ cntGe (somes (placedL n ws)) b := le_len_of (lo := b) fun x h1 h2 => List.mem_filter.mpr ⟨(i1 x).mp (b3 x h1 (by omega)), by simpa using h1⟩
      refine ⟨b, b1, by omega, ?_⟩
      rw [cntGe_snoc, if_pos (by omega)]
      omega
  | some x =>
    have es : somes (placedL n (ws ++ [w])) = somes (placedL n ws) ++ [x] := by rw [placedL_snoc, e, somes_snoc]; rfl
    have eo : (prun n (ws ++ [w])).1 = setO (prun n ws).1 x := by rw [occ_snoc, e]
    obtain ⟨x1, x2, x3, x4⟩ := ffree_some e
    have hn : x ∉ somes (placedL n ws) := fun z => by
      rw [(i1 x).mpr z] at x3
      cases x3
    refine ⟨fun y => ?_, ?_, ?_, fun b h => ?_, fun h b => ?_, fun h => ?_⟩
    · rw [eo, es, List.mem_append, List.mem_singleton, ← i1 y]
      unfold setO
      by_cases z : y = x <;> simp [z]
    · rw [es, List.nodup_append]
      exact ⟨i2, by simp, fun a ha b hb => by rw [List.mem_singleton.mp hb]; exact fun z => hn (z ▸ ha)⟩
    · intro y hy
      rw [es] at hy
      rcases List.mem_append.mp hy with k | k
      · exact i3 y k
      · rw [List.mem_singleton.mp k]
        omega
    · rw [es, cntGe_snoc, cntGe_snoc]
      have h' : b ≤ 1 ∨ (prun n ws).1 (b - 1) = false := by
        rcases h with h | h
        · exact .inl h
        · rw [eo] at h
          unfold setO at h
          exact .inr (Bool.or_eq_false_iff.mp h).2
      have := i4 b h'
      by_cases hbx : b ≤ x
      · have hbw : b ≤ w := by
          by_cases z : b ≤ w
          · exact z
          · rcases h' with h' | h'
            · omega
            · rw [x4 (b - 1) (by omega) (by omega)] at h'
              cases h'
        rw [if_pos hbx, if_pos hbw]
        omega
      · rw [if_neg hbx]
        omega
    · have h' : none ∉ placedL n ws := fun z => h (by rw [placedL_snoc]; exact List.mem_append_left _ z)
      have := i5 h' b
      rw [es, cntGe_snoc, cntGe_snoc]
      by_cases z : b ≤ w
      · rw [if_pos z, if_pos (by omega)]
        omega
      · rw [if_neg z]
        omega
    · rw [placedL_snoc, e] at h
      rcases List.mem_append.mp h with k | k
      · obtain ⟨b, b1, b2, b3⟩ := i6 k
        refine ⟨b, b1, b2, ?_⟩
        rw [cntGe_snoc]
        omega
      · simp at k
/-- the last berth from which on more wish -/
def downTo (n : Nat) : List Int := (List.range n).map fun (i : Nat) => (n : Int) - (i : Int)
def crowdedL (n : Nat) (ws : List Int) : Option Int := (downTo n).find? fun b => decide ((n : Int) - b + 1 < (cntGe ws b : Int))
theorem mem_downTo {n : Nat} {x : Int} : x ∈ downTo n ↔ 1 ≤ x ∧ x ≤ n := by
  unfold downTo
  simp only [List.mem_map, List.mem_range]
  constructor
  · rintro ⟨i, hi, rfl⟩
    omega
  · rintro ⟨h1, h2⟩
    exact ⟨(n - x).toNat, by omega, by omega⟩
theorem crowded_none {n : Nat} {ws : List Int} : crowdedL n ws = none ↔ ∀ b : Int, 1 ≤ b → b ≤ n → (cntGe ws b : Int) ≤ n - b + 1 := by
  unfold crowdedL
  rw [List.find?_eq_none]
  simp only [decide_eq_true_eq, Int.not_lt]
  exact ⟨fun h b b1 b2 => h b (mem_downTo.mpr ⟨b1, b2⟩), fun h b hb => h b (mem_downTo.mp hb).1 (mem_downTo.mp hb).2⟩
theorem good_iff {n : Nat} {ws : List Int} (hb : ∀ w ∈ ws, 1 ≤ w ∧ w ≤ n) : crowdedL n ws = none ↔ none ∉ placedL n ws := by
  have L := lay n ws hb
  rw [crowded_none]
  constructor
  · intro h z
    obtain ⟨b, b1, b2, b3⟩ := L.crowd z
    have := h b b1 b2
    omega
  · intro h b b1 b2
    have h1 := L.many h b
    have h2 : cntGe (somes (placedL n ws)) b ≤ ((n : Int) - b + 1).toNat := len_le_of (lo := b) (L.nd.filter _) fun x hx => by
      obtain ⟨k1, k2⟩ := List.mem_filter.mp hx
      have := L.bd x k1
      have k3 : b ≤ x := by simpa using k2
      omega
    omega
/-! in rising order -/
theorem sorted_cut {b : Int} : ∀ {o : List Int}, o.Pairwise (· ≤ ·) → o = o.filter (fun w => !decide (b ≤ w)) ++ o.filter (fun w => decide (b ≤ w))
  | [], _ => rfl
  | x :: r, h => by
    obtain ⟨h1, h2⟩ := List.pairwise_cons.mp h
    by_cases z : b ≤ x
    · have e1 : r.filter (fun w => !decide (b ≤ w)) = [] := List.filter_eq_nil_iff.mpr fun y hy => by
        have := h1 y hy
        simp only [Bool.not_eq_true', decide_eq_false_iff_not]
        omega
      have e2 : r.filter (fun w => decide (b ≤ w)) = r := List.filter_eq_self.mpr fun y hy => by
        have := h1 y hy
        simp only [decide_eq_true_eq]
        omega
      simp [List.filter_cons, z, e1, e2]
    · have ih := sorted_cut (b := b) h2
      simp only [List.filter_cons, z, decide_false, Bool.not_false, if_true, Bool.false_eq_true, if_false, List.cons_append]
      rw [← ih]
def goodS (n : Nat) (o : List Int) : Bool := (List.range o.length).all fun (i : Nat) => decide (o.getD i 0 ≤ (n : Int) - o.length + i + 1)
theorem goodS_iff {n : Nat} {ws : List Int} (hb : ∀ w ∈ ws, 1 ≤ w ∧ w ≤ n) : goodS n (sortI ws) = true ↔ crowdedL n ws = none := by
  have hp := sortI_perm ws
  have hs := sortI_sorted ws
  rw [crowded_none]
  unfold goodS
  simp only [List.all_eq_true, List.mem_range, decide_eq_true_eq]
  generalize hO : sortI ws = o at hp hs
  have hbo : ∀ w ∈ o, 1 ≤ w ∧ w ≤ n := fun w hw => hb w (hp.mem_iff.mp hw)
  constructor
  · intro h b b1 b2
    rw [← cntGe_perm hp b]
    have cut := sorted_cut (b := b) hs
    by_cases z : cntGe o b = 0
    · rw [z]
      omega
    · have hlen : (o.filter (fun w => !decide (b ≤ w))).length + cntGe o b = o.length := by
        unfold cntGe
        rw [← List.length_append, ← cut]
      have hi : (o.filter (fun w => !decide (b ≤ w))).length < o.length := by omega
      have h1 := h _ hi
      have e : o.getD (o.filter (fun w => !decide (b ≤ w))).length 0 = o[(o.filter (fun w => !decide (b ≤ w))).length] := by simp [List.getD_eq_getElem?_getD, List.getElem?_eq_getElem hi]
      rw [e] at h1
      have hm : o[(o.filter (fun w => !decide (b ≤ w))).length] ∈ o.filter (fun w => decide (b ≤ w)) := by
        have e2 : o[(o.filter (fun w => !decide (b ≤ w))).length]? = (o.filter (fun w => decide (b ≤ w)))[0]? := by
          conv => lhs; arg 1; rw [cut]
          rw [List.getElem?_append_right (Nat.le_refl _), Nat.sub_self]
        rw [List.getElem?_eq_getElem hi] at e2
        exact List.mem_of_getElem? e2.symm
      have h2 : b ≤ o[(o.filter (fun w => !decide (b ≤ w))).length] := by simpa using (List.mem_filter.mp hm).2
      omega
  · intro h i hi
    have e : o.getD i 0 = o[i] := by simp [List.getD_eq_getElem?_getD, List.getElem?_eq_getElem hi]
    rw [e]
    have hbi := hbo o[i] (List.getElem_mem hi)
    have h1 := h o[i] hbi.1 hbi.2
    rw [← cntGe_perm hp] at h1
    have h2 : o.length - i ≤ cntGe o o[i] := by
      have e3 : (o.drop i).filter (fun w => decide (o[i] ≤ w)) = o.drop i := List.filter_eq_self.mpr fun y hy => by
        obtain ⟨j, hj, ej⟩ := List.getElem_of_mem hy
        rw [List.getElem_drop] at ej
        simp only [decide_eq_true_eq]
        rw [← ej]
        by_cases z : j = 0
        · subst z
          simp
        · exact List.pairwise_iff_getElem.mp hs i (i + j) hi (by rw [List.length_drop] at hj; omega) (by omega)
      have e4 : (o.filter (fun w => decide (o[i] ≤ w))).length = ((o.take i).filter (fun w => decide (o[i] ≤ w))).length + ((o.drop i).filter (fun w => decide (o[i] ≤ w))).length := by
        rw [← List.length_append, ← List.filter_append, List.take_append_drop]
      unfold cntGe
      rw [e4, e3, List.length_drop]
      omega
    omega

/-! ### any order of the same ships -/
theorem ffree_is {n : Nat} {occ : Int → Bool} {w b : Int} (h1 : w ≤ b) (h2 : b ≤ n) (h3 : occ b = false) (h4 : ∀ x, w ≤ x → x < b → occ x = true) : ffree n occ w = some b := by
  cases e : ffree n occ w with
  | none =>
    rw [ffree_none e b h1 h2] at h3
    cases h3
  | some c =>
    obtain ⟨c1, c2, c3, c4⟩ := ffree_some e
    congr 1
    by_cases z : c < b
    · rw [h4 c c1 z] at c3
      cases c3
    · by_cases z2 : b < c
      · rw [c4 b h1 z2] at h3
        cases h3
      · omega
theorem ffree_non {n : Nat} {occ : Int → Bool} {w : Int} (h : ∀ x, w ≤ x → x ≤ n → occ x = true) : ffree n occ w = none := by
  cases e : ffree n occ w with
  | none => rfl
  | some c =>
    obtain ⟨c1, c2, c3, c4⟩ := ffree_some e
    rw [h c c1 c2] at c3
    cases c3
def stp (n : Nat) (occ : Int → Bool) (w : Int) : Int → Bool := match ffree n occ w with
  | none => occ
  | some b => setO occ b
theorem stp_none {n : Nat} {occ : Int → Bool} {w : Int} (h : ffree n occ w = none) : stp n occ w = occ := by simp only [stp, h]
theorem stp_some {n : Nat} {occ : Int → Bool} {w b : Int} (h : ffree n occ w = some b) : stp n occ w = setO occ b := by simp only [stp, h]
theorem setO_comm (occ : Int → Bool) (x y : Int) : setO (setO occ x) y = setO (setO occ y) x := by
  funext z
  unfold setO
  cases decide (z = x) <;> cases decide (z = y) <;> rfl
theorem setO_mono {occ : Int → Bool} {x y : Int} (h : occ y = true) : setO occ x y = true := by
  unfold setO
  rw [h, Bool.or_true]
theorem setO_ne {occ : Int → Bool} {x y : Int} (h : y ≠ x) : setO occ x y = occ y := by
  unfold setO
  rw [decide_eq_false h, Bool.false_or]
theorem setO_self {occ : Int → Bool} {x : Int} : setO occ x x = true := by simp [setO]
theorem stp_comm_le {n : Nat} {occ : Int → Bool} {w1 w2 : Int} (h : w1 ≤ w2) : stp n (stp n occ w1) w2 = stp n (stp n occ w2) w1 := by
  cases eb : ffree n occ w2 with
  | none =>
    have fb := ffree_none eb
    rw [stp_none eb]
    cases ea : ffree n occ w1 with
    | none => rw [stp_none ea, stp_none eb]
    | some x =>
      rw [stp_some ea]
      exact stp_none (ffree_non fun y h1 h2 => setO_mono (fb y h1 h2))
  | some y =>
    obtain ⟨y1, y2, y3, y4⟩ := ffree_some eb
    rw [stp_some eb]
    cases ea : ffree n occ w1 with
    | none =>
      rw [ffree_none ea y (by omega) y2] at y3
      cases y3
    | some x =>
      obtain ⟨x1, x2, x3, x4⟩ := ffree_some ea
      rw [stp_some ea]
      by_cases z : x = y
      · subst z
        have hocc : ∀ u, w1 ≤ u → u ≤ x → setO occ x u = true := fun u h1 h2 => by
          by_cases q : u = x
          · rw [q]; exact setO_self
          · exact setO_mono (x4 u h1 (by omega))
        cases ec : ffree n (setO occ x) w2 with
        | none =>
          have fc := ffree_none ec
          rw [stp_none ec]
          refine (stp_none (ffree_non fun u h1 h2 => ?_)).symm
          by_cases q : u ≤ x
          · exact hocc u h1 q
          · exact fc u (by omega) h2
        | some z =>
          obtain ⟨z1, z2, z3, z4⟩ := ffree_some ec
          have hz : x < z := by
            by_cases q : x < z
            · exact q
            · rw [hocc z (by omega) (by omega)] at z3
              cases z3
          rw [stp_some ec]
          refine (stp_some (ffree_is (by omega) z2 z3 fun u h1 h2 => ?_)).symm
          by_cases q : u ≤ x
          · exact hocc u h1 q
          · exact z4 u (by omega) h2
      · have hx : x < y := by
          by_cases q : x < y
          · exact q
          · rw [x4 y (by omega) (by omega)] at y3
            cases y3
        have e1 : stp n (setO occ x) w2 = setO (setO occ x) y := stp_some (ffree_is y1 y2 (by rw [setO_ne (Ne.symm z)]; exact y3) fun u h1 h2 => setO_mono (y4 u h1 h2))
        have e2 : stp n (setO occ y) w1 = setO (setO occ y) x := stp_some (ffree_is x1 x2 (by rw [setO_ne z]; exact x3) fun u h1 h2 => setO_mono (x4 u h1 h2))
        rw [e1, e2, setO_comm]
theorem stp_comm {n : Nat} {occ : Int → Bool} {w1 w2 : Int} : stp n (stp n occ w1) w2 = stp n (stp n occ w2) w1 := by
  by_cases h : w1 ≤ w2
  · exact stp_comm_le h
  · exact (stp_comm_le (by omega)).symm
theorem occ_fold {n : Nat} : ∀ ws : List Int, (prun n ws).1 = ws.foldl (stp n) (fun _ => false) := snoc_ind rfl fun ws w ih => by
  rw [occ_snoc, List.foldl_append, ← ih]
  rfl
theorem occ_perm {n : Nat} {ws ws' : List Int} (h : ws.Perm ws') : (prun n ws).1 = (prun n ws').1 := by
  rw [occ_fold, occ_fold]
  exact h.foldl_eq' (fun x _ y _ z => stp_comm) _
theorem somes_perm {n : Nat} {ws ws' : List Int} (h : ws.Perm ws') (hb : ∀ w ∈ ws, 1 ≤ w ∧ w ≤ n) : (somes (placedL n ws)).Perm (somes (placedL n ws')) := by
  have L := lay n ws hb
  have L' := lay n ws' fun w hw => hb w (h.mem_iff.mpr hw)
  refine (List.perm_ext_iff_of_nodup L.nd L'.nd).mpr fun x => ?_
  rw [← L.occ, ← L'.occ, occ_perm h]
theorem sortI_perm_eq {l l' : List Int} (h : l.Perm l') : sortI l = sortI l' := sortI_uniq ((sortI_perm l).trans h) (sortI_sorted l)
theorem taken_perm {n : Nat} {ws ws' : List Int} (h : ws.Perm ws') (hb : ∀ w ∈ ws, 1 ≤ w ∧ w ≤ n) : takenL n ws = takenL n ws' := sortI_perm_eq (somes_perm h hb)
theorem crowded_perm {n : Nat} {ws ws' : List Int} (h : ws.Perm ws') : crowdedL n ws = crowdedL n ws' := by
  unfold crowdedL
  congr 1
  funext b
  rw [cntGe_perm h]
theorem away_len : ∀ os : List (Option Int), (os.filter Option.isNone).length + (somes os).length = os.length
  | [] => rfl
  | none :: os => by
    have := away_len os
    simp only [List.filter_cons, Option.isNone_none, if_true, List.length_cons]
    show (os.filter Option.isNone).length + 1 + (somes os).length = os.length + 1
    omega
  | some b :: os => by
    have := away_len os
    show (os.filter Option.isNone).length + ((somes os).length + 1) = os.length + 1
    omega
theorem sum_perm {l l' : List Int} (h : l.Perm l') : l.sum = l'.sum := by
  induction h with
  | nil => rfl
  | cons x _ ih => rw [List.sum_cons, List.sum_cons, ih]
  | swap x y l =>
    simp only [List.sum_cons]
    omega
  | trans _ _ h1 h2 => exact h1.trans h2
/-- the wishes of those that lie -/
def lieL (ws : List Int) (os : List (Option Int)) : List Int := ((ws.zip os).filter fun p => p.2.isSome).map (·.1)
theorem lieL_snoc {ws : List Int} {os : List (Option Int)} {w : Int} {o : Option Int} (h : ws.length = os.length) : lieL (ws ++ [w]) (os ++ [o]) = lieL ws os ++ (if o.isSome = true then [w] else []) := by
  unfold lieL
  rw [List.zip_append h, List.filter_append, List.map_append]
  cases o <;> rfl
theorem gone_sum : ∀ (ws : List Int) (os : List (Option Int)), ws.length = os.length → (goneL ws os).sum = (somes os).sum - (lieL ws os).sum
  | [], [], _ => rfl
  | w :: ws, none :: os, h => gone_sum ws os (Nat.succ.inj h)
  | w :: ws, some b :: os, h => by
    have ih := gone_sum ws os (Nat.succ.inj h)
    show ((b - w) :: goneL ws os).sum = (b :: somes os).sum - (w :: lieL ws os).sum
    rw [List.sum_cons, List.sum_cons, List.sum_cons, ih]
    omega
theorem lie_all : ∀ (ws : List Int) (os : List (Option Int)), ws.length = os.length → none ∉ os → lieL ws os = ws
  | [], [], _, _ => rfl
  | w :: ws, none :: os, _, h => absurd List.mem_cons_self h
  | w :: ws, some b :: os, h, hn => by
    have ih := lie_all ws os (Nat.succ.inj h) fun z => hn (List.mem_cons_of_mem _ z)
    show w :: lieL ws os = w :: ws
    rw [ih]
theorem lie_run {n : Nat} : ∀ ws : List Int, prun n (lieL ws (placedL n ws)) = ((prun n ws).1, (placedL n ws).filter Option.isSome) := snoc_ind rfl fun ws w ih => by
  rw [placedL_snoc, lieL_snoc (placedL_len).symm, List.filter_append, occ_snoc]
  cases e : ffree n (prun n ws).1 w with
  | none =>
    simp only [Option.isSome_none, Bool.false_eq_true, if_false, List.append_nil]
    rw [ih]
    simp [List.filter]
  | some b =>
    simp only [Option.isSome_some, if_true]
    rw [prun_snoc, ih]
    unfold pstep
    simp only [e]
    simp [List.filter]
theorem lie_placed {n : Nat} {ws : List Int} : placedL n (lieL ws (placedL n ws)) = (placedL n ws).filter Option.isSome := by
  have := lie_run (n := n) ws
  unfold placedL at this ⊢
  rw [this]
theorem somes_filter (os : List (Option Int)) : somes (os.filter Option.isSome) = somes os := by
  induction os with
  | nil => rfl
  | cons o os ih => cases o with
    | none => exact ih
    | some b => exact congrArg (b :: ·) ih
theorem none_filter_some {os : List (Option Int)} : none ∉ os.filter Option.isSome := fun z => by
  have := (List.mem_filter.mp z).2
  cases this
theorem mem_lie {ws : List Int} {os : List (Option Int)} {x : Int} (h : x ∈ lieL ws os) : x ∈ ws := by
  unfold lieL at h
  obtain ⟨p, hp, rfl⟩ := List.mem_map.mp h
  exact (List.of_mem_zip (List.mem_filter.mp hp).1).1
theorem lie_len (ws : List Int) (os : List (Option Int)) : (lieL ws os).length ≤ ws.length := by
  unfold lieL
  rw [List.length_map]
  refine Nat.le_trans (List.length_filter_le _ _) ?_
  rw [List.length_zip]
  omega
/-- a ship more takes one berth more, or none -/
theorem taken_mem {n : Nat} {ws : List Int} {x : Int} : x ∈ takenL n ws ↔ x ∈ somes (placedL n ws) := (sortI_perm _).mem_iff
theorem somes_last {n : Nat} {ws : List Int} (hne : ws ≠ []) : ∃ o : Option Int, somes (placedL n ws) = somes (placedL n ws.dropLast) ++ o.toList := by
  refine ⟨ffree n (prun n ws.dropLast).1 (ws.getLast hne), ?_⟩
  rw [← somes_snoc, ← placedL_snoc, List.dropLast_concat_getLast hne]

/-! ### the round quay: the mathematics -/
def rfree (n : Nat) (occ : Int → Bool) (w : Int) : Option Int := match ffree n occ w with
  | some b => some b
  | none => ffree n occ 1
def rstep (n : Nat) (s : (Int → Bool) × List Int) (w : Int) : (Int → Bool) × List Int := (setO s.1 ((rfree n s.1 w).getD 0), s.2 ++ [(rfree n s.1 w).getD 0])
def rrun (n : Nat) (ws : List Int) : (Int → Bool) × List Int := ws.foldl (rstep n) (fun _ => false, [])
def placedR (n : Nat) (ws : List Int) : List Int := (rrun n ws).2
theorem rrun_more {n : Nat} {ws : List Int} {i : Nat} {w : Int} (h : ws[i]? = some w) : rrun n (ws.take (i + 1)) = rstep n (rrun n (ws.take i)) w := by
  unfold rrun
  rw [take_more h, List.foldl_append]
  rfl
theorem rrun_snoc {n : Nat} {ws : List Int} {w : Int} : rrun n (ws ++ [w]) = rstep n (rrun n ws) w := by
  unfold rrun
  rw [List.foldl_append]
  rfl
theorem rrun_len {n : Nat} : ∀ ws : List Int, (rrun n ws).2.length = ws.length := snoc_ind rfl fun ws w ih => by
  rw [rrun_snoc]
  unfold rstep
  simp [ih]
theorem placedR_len {n : Nat} {ws : List Int} : (placedR n ws).length = ws.length := rrun_len ws
theorem rfree_some {n : Nat} {occ : Int → Bool} {w b : Int} (hw : 1 ≤ w) (h : rfree n occ w = some b) : 1 ≤ b ∧ b ≤ n ∧ occ b = false := by
  unfold rfree at h
  cases e : ffree n occ w with
  | some c =>
    rw [e] at h
    cases h
    obtain ⟨c1, c2, c3, _⟩ := ffree_some e
    exact ⟨by omega, c2, c3⟩
  | none =>
    rw [e] at h
    obtain ⟨c1, c2, c3, _⟩ := ffree_some h
    exact ⟨c1, c2, c3⟩
theorem rfree_ex {n : Nat} {occ : Int → Bool} {w : Int} {l : List Int} (ho : ∀ x, occ x = true ↔ x ∈ l) (hl : l.length < n) : ∃ b, rfree n occ w = some b := by
  unfold rfree
  cases e : ffree n occ w with
  | some c => exact ⟨c, rfl⟩
  | none =>
    cases e2 : ffree n occ 1 with
    | some c => exact ⟨c, by rw [← e2]⟩
    | none =>
      exfalso
      have := ffree_none e2
      have h2 : n ≤ l.length := le_len_of (lo := 1) fun x h1 h2 => (ho x).mp (this x h1 (by omega))
      omega
structure LayR (n : Nat) (ws : List Int) : Prop where
  occ : ∀ x, (rrun n ws).1 x = true ↔ x ∈ placedR n ws
  nd : (placedR n ws).Nodup
  bd : ∀ x ∈ placedR n ws, 1 ≤ x ∧ x ≤ n
theorem layR (n : Nat) : ∀ ws : List Int, (∀ w ∈ ws, 1 ≤ w ∧ w ≤ n) → ws.length ≤ n → LayR n ws := snoc_ind (fun _ _ => ⟨fun x => by simp [rrun, placedR], List.nodup_nil, fun x hx => (by cases hx)⟩) fun ws w ih hb hl => by
  rw [List.length_append, List.length_singleton] at hl
  have hw := hb w (List.mem_append_right _ (List.mem_singleton.mpr rfl))
  obtain ⟨i1, i2, i3⟩ := ih (fun x hx => hb x (List.mem_append_left _ hx)) (by omega)
  obtain ⟨b, e⟩ := rfree_ex (n := n) (w := w) i1 (by rw [placedR_len]; omega)
  obtain ⟨b1, b2, b3⟩ := rfree_some hw.1 e
  have ep : placedR n (ws ++ [w]) = placedR n ws ++ [b] := by
    unfold placedR
    rw [rrun_snoc]
    unfold rstep
    rw [e]
    rfl
  have eo : (rrun n (ws ++ [w])).1 = setO (rrun n ws).1 b := by
    rw [rrun_snoc]
    unfold rstep
    rw [e]
    rfl
  have hn : b ∉ placedR n ws := fun z => by
    rw [(i1 b).mpr z] at b3
    cases b3
  refine ⟨fun y => ?_, ?_, fun y hy => ?_⟩
  · rw [eo, ep, List.mem_append, List.mem_singleton, ← i1 y]
    unfold setO
    by_cases z : y = b <;> simp [z]
  · rw [ep, List.nodup_append]
    exact ⟨i2, by simp, fun x hx y hy => by rw [List.mem_singleton.mp hy]; exact fun z => hn (z ▸ hx)⟩
  · rw [ep] at hy
    rcases List.mem_append.mp hy with k | k
    · exact i3 y k
    · rw [List.mem_singleton.mp k]
      exact ⟨b1, b2⟩
theorem layR_take {n : Nat} {ws : List Int} (hb : ∀ w ∈ ws, 1 ≤ w ∧ w ≤ n) (hl : ws.length ≤ n) (i : Nat) : LayR n (ws.take i) := layR n _ (fun w hw => hb w (List.mem_of_mem_take hw)) (by rw [List.length_take]; omega)
theorem step_ex {n : Nat} {ws : List Int} {i : Nat} {w : Int} (hb : ∀ w ∈ ws, 1 ≤ w ∧ w ≤ n) (hl : ws.length ≤ n) (h : ws[i]? = some w) : ∃ b, rfree n (rrun n (ws.take i)).1 w = some b ∧ 1 ≤ b ∧ b ≤ n ∧ rrun n (ws.take (i + 1)) = (setO (rrun n (ws.take i)).1 b, (rrun n (ws.take i)).2 ++ [b]) := by
  have hi := (List.getElem?_eq_some_iff.mp h).1
  obtain ⟨b, e⟩ := rfree_ex (n := n) (w := w) (layR_take hb hl i).occ (by rw [placedR_len, List.length_take]; omega)
  obtain ⟨b1, b2, b3⟩ := rfree_some (hb w (List.mem_of_getElem? h)).1 e
  refine ⟨b, e, b1, b2, ?_⟩
  rw [rrun_more h]
  unfold rstep
  rw [e]
  rfl
def allB (n : Nat) : List Int := (List.range n).map fun (i : Nat) => (1 : Int) + i
theorem mem_allB {n : Nat} {x : Int} : x ∈ allB n ↔ 1 ≤ x ∧ x ≤ n := by
  unfold allB
  simp only [List.mem_map, List.mem_range]
  constructor
  · rintro ⟨i, hi, rfl⟩
    omega
  · rintro ⟨h1, h2⟩
    exact ⟨(x - 1).toNat, by omega, by omega⟩
theorem allB_sorted {n : Nat} : (allB n).Pairwise (· < ·) := by
  unfold allB
  rw [List.pairwise_map]
  exact List.Pairwise.imp (fun h => by omega) List.pairwise_lt_range
def leftR (n : Nat) (ws : List Int) : List Int := (allB n).filter fun b => !decide (b ∈ placedR n ws)
theorem mem_left {n : Nat} {ws : List Int} {x : Int} : x ∈ leftR n ws ↔ (1 ≤ x ∧ x ≤ n) ∧ x ∉ placedR n ws := by
  unfold leftR
  rw [List.mem_filter, mem_allB]
  simp
theorem left_sorted {n : Nat} {ws : List Int} : (leftR n ws).Pairwise (· < ·) := List.Pairwise.filter _ allB_sorted
theorem left_nodup {n : Nat} {ws : List Int} : (leftR n ws).Nodup := List.Pairwise.imp (fun h => Int.ne_of_lt h) left_sorted
/-! turning -/
def turn (n : Nat) (k w : Int) : Int := (w - 1 + k) % n + 1
theorem turn_bd {n : Nat} (hn : 1 ≤ n) (k w : Int) : 1 ≤ turn n k w ∧ turn n k w ≤ n := by
  unfold turn
  have b1 := Int.emod_nonneg (w - 1 + k) (show (n : Int) ≠ 0 by omega)
  have b2 := Int.emod_lt_of_pos (w - 1 + k) (show (0 : Int) < n by omega)
  omega
theorem turn_inj {n : Nat} {k x y : Int} (hx : 1 ≤ x ∧ x ≤ n) (hy : 1 ≤ y ∧ y ≤ n) (h : turn n k x = turn n k y) : x = y := by
  unfold turn at h
  have h' : (x - 1 + k) % n = (y - 1 + k) % n := by omega
  have d : ((n : Int)) ∣ (x - y) := by
    have := Int.emod_emod_of_dvd
    have e := Int.sub_emod (x - 1 + k) (y - 1 + k) n
    rw [h', Int.sub_self, Int.zero_emod] at e
    have e2 : x - 1 + k - (y - 1 + k) = x - y := by omega
    rw [e2] at e
    exact Int.dvd_of_emod_eq_zero e
  obtain ⟨c, hc⟩ := d
  have : c = 0 := by
    by_cases z : c = 0
    · exact z
    · exfalso
      rcases Int.lt_or_gt_of_ne z with q | q
      · have : (n : Int) * c ≤ (n : Int) * (-1) := Int.mul_le_mul_of_nonneg_left (by omega) (by omega)
        omega
      · have : (n : Int) * 1 ≤ (n : Int) * c := Int.mul_le_mul_of_nonneg_left (by omega) (by omega)
        omega
  rw [this] at hc
  omega
/-- the j-th berth going round from w -/
def cyc (n : Nat) (w : Int) (j : Nat) : Int := turn n (j : Int) w
theorem cyc_lo {n : Nat} {w : Int} {j : Nat} (hw : 1 ≤ w) (h : w + j ≤ n) : cyc n w j = w + j := by
  unfold cyc turn
  rw [Int.emod_eq_of_lt (by omega) (by omega)]
  omega
theorem cyc_hi {n : Nat} {w : Int} {j : Nat} (hw : 1 ≤ w ∧ w ≤ n) (hj : j < n) (h : (n : Int) < w + j) : cyc n w j = w + j - n := by
  unfold cyc turn
  have e : w - 1 + (j : Int) = (w - 1 + j - n) + n := by omega
  rw [e, Int.add_emod_right, Int.emod_eq_of_lt (by omega) (by omega)]
  omega
theorem cyc_turn {n : Nat} {w k : Int} {j : Nat} : cyc n (turn n k w) j = turn n k (cyc n w j) := by
  unfold cyc turn
  have e1 : (w - 1 + k) % (n : Int) + 1 - 1 + (j : Int) = (w - 1 + k) % n + j := by omega
  have e2 : (w - 1 + (j : Int)) % (n : Int) + 1 - 1 + k = (w - 1 + j) % n + k := by omega
  rw [e1, e2, Int.emod_add_emod, Int.emod_add_emod]
  congr 2
  omega
theorem rfree_is {n : Nat} {occ : Int → Bool} {w : Int} {j : Nat} (hw : 1 ≤ w ∧ w ≤ n) (hj : j < n) (h1 : occ (cyc n w j) = false) (h2 : ∀ i, i < j → occ (cyc n w i) = true) : rfree n occ w = some (cyc n w j) := by
  unfold rfree
  by_cases z : w + j ≤ n
  · rw [cyc_lo hw.1 z] at h1 ⊢
    rw [ffree_is (by omega) z h1 fun x x1 x2 => ?_]
    have := h2 (x - w).toNat (by omega)
    rw [cyc_lo hw.1 (by omega)] at this
    rw [show w + (((x - w).toNat : Nat) : Int) = x by omega] at this
    exact this
  · rw [cyc_hi hw hj (by omega)] at h1 ⊢
    rw [ffree_non fun x x1 x2 => ?_]
    · show ffree n occ 1 = _
      rw [ffree_is (by omega) (by omega) h1 fun x x1 x2 => ?_]
      have := h2 (x + n - w).toNat (by omega)
      rw [cyc_hi hw (by omega) (by omega)] at this
      rw [show w + (((x + n - w).toNat : Nat) : Int) - n = x by omega] at this
      exact this
    · have := h2 (x - w).toNat (by omega)
      rw [cyc_lo hw.1 (by omega)] at this
      rw [show w + (((x - w).toNat : Nat) : Int) = x by omega] at this
      exact this
theorem rfree_cyc {n : Nat} {occ : Int → Bool} {w b : Int} (hw : 1 ≤ w ∧ w ≤ n) (h : rfree n occ w = some b) : ∃ j, j < n ∧ b = cyc n w j ∧ occ b = false ∧ ∀ i, i < j → occ (cyc n w i) = true := by
  unfold rfree at h
  cases e : ffree n occ w with
  | some c =>
    rw [e] at h
    cases h
    obtain ⟨c1, c2, c3, c4⟩ := ffree_some e
    refine ⟨(b - w).toNat, by omega, ?_, c3, fun i hi => ?_⟩
    · rw [cyc_lo hw.1 (by omega)]
      omega
    · rw [cyc_lo hw.1 (by omega)]
      exact c4 _ (by omega) (by omega)
  | none =>
    rw [e] at h
    have f := ffree_none e
    obtain ⟨c1, c2, c3, c4⟩ := ffree_some h
    have hbw : b < w := by
      by_cases z : b < w
      · exact z
      · rw [f b (by omega) c2] at c3
        cases c3
    refine ⟨(b + n - w).toNat, by omega, ?_, c3, fun i hi => ?_⟩
    · rw [cyc_hi hw (by omega) (by omega)]
      omega
    · by_cases z : w + (i : Int) ≤ n
      · rw [cyc_lo hw.1 z]
        exact f _ (by omega) z
      · rw [cyc_hi hw (by omega) (by omega)]
        exact c4 _ (by omega) (by omega)
/-- turned wishes: turned berths -/
theorem turned_run {n : Nat} (hn : 1 ≤ n) (k : Int) : ∀ ws : List Int, (∀ w ∈ ws, 1 ≤ w ∧ w ≤ n) → ws.length ≤ n → placedR n (ws.map (turn n k)) = (placedR n ws).map (turn n k) ∧ ∀ x : Int, 1 ≤ x → x ≤ n → (rrun n (ws.map (turn n k))).1 (turn n k x) = (rrun n ws).1 x := snoc_ind (fun _ _ => ⟨rfl, fun x _ _ => rfl⟩) fun ws w ih hb hl => by
  rw [List.length_append, List.length_singleton] at hl
  have hw := hb w (List.mem_append_right _ (List.mem_singleton.mpr rfl))
  have hb' : ∀ w ∈ ws, 1 ≤ w ∧ w ≤ n := fun x hx => hb x (List.mem_append_left _ hx)
  obtain ⟨i1, i2⟩ := ih hb' (by omega)
  have L := layR n ws hb' (by omega)
  obtain ⟨b, e⟩ := rfree_ex (n := n) (w := w) L.occ (by rw [placedR_len]; omega)
  obtain ⟨b1, b2, b3⟩ := rfree_some hw.1 e
  obtain ⟨j, j1, j2, j3, j4⟩ := rfree_cyc hw e
  have cb : ∀ i, 1 ≤ cyc n w i ∧ cyc n w i ≤ n := fun i => turn_bd hn _ _
  have e' : rfree n (rrun n (ws.map (turn n k))).1 (turn n k w) = some (turn n k b) := by
    rw [j2, ← cyc_turn]
    refine rfree_is (turn_bd hn _ _) j1 ?_ fun i hi => ?_
    · rw [cyc_turn, i2 _ (cb j).1 (cb j).2, ← j2]
      exact j3
    · rw [cyc_turn, i2 _ (cb i).1 (cb i).2]
      exact j4 i hi
  rw [List.map_append, List.map_singleton]
  unfold placedR at i1 ⊢
  rw [rrun_snoc, rrun_snoc]
  unfold rstep
  rw [e, e', i1]
  refine ⟨by simp, fun x x1 x2 => ?_⟩
  show setO (rrun n (ws.map (turn n k))).1 (turn n k b) (turn n k x) = setO (rrun n ws).1 b x
  unfold setO
  rw [i2 x x1 x2]
  congr 1
  by_cases z : x = b
  · rw [z, decide_eq_true rfl, decide_eq_true rfl]
  · rw [decide_eq_false z, decide_eq_false fun q => z (turn_inj ⟨x1, x2⟩ ⟨b1, b2⟩ q)]
theorem turned_placed {n : Nat} {k : Int} {ws : List Int} (hn : 1 ≤ n) (hb : ∀ w ∈ ws, 1 ≤ w ∧ w ≤ n) (hl : ws.length ≤ n) : placedR n (ws.map (turn n k)) = (placedR n ws).map (turn n k) := (turned_run hn k ws hb hl).1
theorem turn_back {n : Nat} {k x : Int} (hx : 1 ≤ x ∧ x ≤ n) : turn n k (turn n (-k) x) = x := by
  unfold turn
  have e : (x - 1 + -k) % (n : Int) + 1 - 1 + k = (x - 1 + -k) % n + k := by omega
  rw [e, Int.emod_add_emod]
  have e2 : x - 1 + -k + k = x - 1 := by omega
  rw [e2, Int.emod_eq_of_lt (by omega) (by omega)]
  omega
theorem turned_left {n : Nat} {k : Int} {ws : List Int} (hn : 1 ≤ n) (hb : ∀ w ∈ ws, 1 ≤ w ∧ w ≤ n) (hl : ws.length ≤ n) : leftR n (ws.map (turn n k)) = sortI ((leftR n ws).map (turn n k)) := by
  have L := layR n ws hb hl
  refine sortI_uniq ?_ (List.Pairwise.imp (fun h => Int.le_of_lt h) left_sorted)
  have nd2 : ((leftR n ws).map (turn n k)).Nodup := by
    rw [List.nodup_iff_pairwise_ne, List.pairwise_map]
    refine List.Pairwise.imp_of_mem (fun {x y} hx hy h => ?_) left_nodup
    exact fun z => h (turn_inj (mem_left.mp hx).1 (mem_left.mp hy).1 z)
  refine (List.perm_ext_iff_of_nodup left_nodup nd2).mpr fun x => ?_
  rw [mem_left, turned_placed hn hb hl]
  constructor
  · rintro ⟨hx, hnx⟩
    refine List.mem_map.mpr ⟨turn n (-k) x, mem_left.mpr ⟨turn_bd hn _ _, fun z => hnx ?_⟩, turn_back hx⟩
    have := List.mem_map_of_mem (f := turn n k) z
    rw [turn_back hx] at this
    exact this
  · intro h
    obtain ⟨y, hy, rfl⟩ := List.mem_map.mp h
    obtain ⟨y1, y2⟩ := mem_left.mp hy
    refine ⟨turn_bd hn _ _, fun z => ?_⟩
    obtain ⟨u, hu, eu⟩ := List.mem_map.mp z
    rw [turn_inj (L.bd u hu) y1 eu] at hu
    exact y2 hu
/-- as many are left as berths are more than ships -/
theorem left_len {n : Nat} {ws : List Int} (hb : ∀ w ∈ ws, 1 ≤ w ∧ w ≤ n) (hl : ws.length ≤ n) : (leftR n ws).length + ws.length = n := by
  have L := layR n ws hb hl
  have h1 : (leftR n ws ++ placedR n ws).Perm (upTo 1 n) := by
    refine (List.perm_ext_iff_of_nodup ?_ upTo_nodup).mpr fun x => ?_
    · rw [List.nodup_append]
      exact ⟨left_nodup, L.nd, fun x hx y hy e => (mem_left.mp hx).2 (e ▸ hy)⟩
    · rw [List.mem_append, mem_left, mem_upTo]
      constructor
      · rintro (⟨h, _⟩ | h)
        · omega
        · have := L.bd x h
          omega
      · intro h
        by_cases z : x ∈ placedR n ws
        · exact .inr z
        · exact .inl ⟨by omega, z⟩
  have := h1.length_eq
  rw [List.length_append, upTo_len, placedR_len] at this
  exact this

/-! ### the round quay -/
theorem tyb_isInt {K : PySem.W.Frag} {H : Hp} {x : V} {T : String} (h : TyB K H x T) : True := trivial
def sp_first_free_round (K : PySem.W.Frag) (a : Ad) : Sp := fun vs H Q _ => ∃ (h : Addr) (n : Nat) (occ : Int → Bool) (w : Int), vs = [.ref h, .int w] ∧ SqL K H h (heldL n occ) ∧ n ≤ 900 ∧ 0 ≤ w ∧ w ≤ 1000 ∧ Q (vO (rfree n occ w)) H
abbrev N_first_free_round : List Str := ["held", "wish", "berth"]
def t_first_free_round (K : PySem.W.Frag) (a : Ad) : TS :=
  (tSeq (tAsg (tCall (sp_first_free K a) [] E0 (tCons (tVar 0) (tCons (tVar 1) tNil))) (gName 2))
    (tSeq (tIfS (tB (tIsN (tVar 2))) (tRet (tCall (sp_first_free K a) [] E0 (tCons (tVar 0) (tCons (tC (.int 1)) tNil)))) tNext)
    (tRet (tVar 2))))
theorem len_first_free_round {K : PySem.W.Frag} {a : Ad} {vs : List V} {H : Hp} {Q : VK} {E : XK} (h : sp_first_free_round K a vs H Q E) : vs.length = 2 := by
  obtain ⟨h, n, occ, w, rfl, _⟩ := h
  rfl
theorem pu_first_free_round {K : PySem.W.Frag} {a : Ad} {vs : List V} {H : Hp} {Q : VK} {E : XK} (h : sp_first_free_round K a vs H Q E) : t_first_free_round K a { nx := fun _ H' => Q .non H', rt := Q } (start N_first_free_round vs) H := by
  obtain ⟨h, n, occ, w, rfl, hs, hn, h0, hw, q⟩ := h
  refine ⟨.ref h, rfl, .int w, rfl, h, n, occ, w, rfl, hs, hn, h0, hw, ?_⟩
  unfold rfree at q
  cases e0 : ffree n occ w with
  | none =>
    rw [e0] at q
    exact ⟨.non, rfl, true, rfl, iteT ⟨.ref h, rfl, h, n, occ, 1, rfl, hs, hn, by decide, by decide, q⟩⟩
  | some c =>
    rw [e0] at q
    exact ⟨.int c, rfl, false, rfl, iteF ⟨.int c, rfl, q⟩⟩
def sp_placed_round (K : PySem.W.Frag) (a : Ad) : Sp := fun vs H Q E => ∃ b w, vs = [b, w] ∧ ChkW K a b w H E fun n ws _ => (n < ws.length ∧ E (.ref a.e_TooMany) none H) ∨ (ws.length ≤ n ∧ ∀ (l : Addr) (H' : Hp), H l = none → Same H H' → H' l = some (.lst ((placedR n ws).map V.int)) → Q (.ref l) H')
abbrev N_placed_round : List Str := ["berths", "wishes", "held", "found", "wish", "berth"]
def t_placed_round (K : PySem.W.Frag) (a : Ad) (E : XK) : TS :=
  (tSeq (tDrop (tCall (sp_check_wishes K a) [] E (tCons (tVar 0) (tCons (tVar 1) tNil))))
    (tSeq (tIfS (tTest (tOp rGtI (tCB (rLenSq K) (tCons (tVar 1) tNil)) (tVar 0))) (tRaise a.e_TooMany E) tNext)
    (tSeq (tAsg (tOp rRep (tLst (tCons (tC (.bl false)) tNil)) (tOp rAddI (tVar 0) (tC (.int 1)))) (gName 2))
    (tSeq (tAsg (tLst tNil) (gName 3))
    (tSeq (tFor (iSeq K (tVar 1)) (gName 4)
    (tSeq (tAsg (tCall (sp_first_free_round K a) [] E0 (tCons (tVar 2) (tCons (tVar 4) tNil))) (gName 5))
    (tSeq (tAsg (tC (.bl true)) (gSub (tVar 2) (tVar 5) rSetL))
    (tDrop (tBM K "list" rAppend (tVar 3) (tCons (tVar 5) tNil))))))
    (tRet (tVar 3)))))))
theorem len_placed_round {K : PySem.W.Frag} {a : Ad} {vs : List V} {H : Hp} {Q : VK} {E : XK} (h : sp_placed_round K a vs H Q E) : vs.length = 2 := by
  obtain ⟨b, w, rfl, _⟩ := h
  rfl
theorem pu_placed_round {K : PySem.W.Frag} {a : Ad} {vs : List V} {H : Hp} {Q : VK} {E : XK} (h : sp_placed_round K a vs H Q E) : t_placed_round K a E { nx := fun _ H' => Q .non H', rt := Q } (start N_placed_round vs) H := by
  obtain ⟨b, w, rfl, h⟩ := h
  refine ⟨b, rfl, w, rfl, b, w, rfl, ChkW.imp h fun n ws p eb ew h1 h2 hs hl hb r => ?_⟩
  subst eb
  subst ew
  refine ⟨.ref p, rfl, p, _, rfl, hs, .int n, rfl, _, n, rfl, rfl, _, rfl, ite2 (fun c => ?_) (fun c => ?_)⟩
  · have c : (n : Int) < ((ws.map V.int).length : Nat) := of_decide_eq_true c
    rw [List.length_map] at c
    rcases r with ⟨_, q⟩ | ⟨h, _⟩
    · exact q
    · omega
  have c : ¬ (n : Int) < ((ws.map V.int).length : Nat) := fun z => c (decide_eq_true z)
  rw [List.length_map] at c
  have hln : ws.length ≤ n := by omega
  have q : ∀ (l : Addr) (H' : Hp), H l = none → Same H H' → H' l = some (.lst ((placedR n ws).map V.int)) → Q (.ref l) H' := by
    rcases r with ⟨h, _⟩ | ⟨_, q⟩
    · omega
    · exact q
  refine ⟨by decide, fun l0 nl0 => ⟨.int n, rfl, n, 1, rfl, rfl, l0, _, _, rfl, rfl, upd_same, by omega, by omega, ?_, fun l1 nl1 => ?_⟩⟩
  · refine l1000 ?_
    show 1 * _ ≤ _
    omega
  have e1 : ((n : Int) + 1).toNat = n + 1 := by omega
  rw [e1, heldL_new]
  have s0 : Same H (upd H l0 (.lst [.bl false])) := same_new nl0
  have n1 : H l1 = none := s0.free nl1
  have s1 := s0.store n1 (o := .lst (heldL n fun _ => false))
  refine ⟨Nat.zero_le _, fun l2 nl2 => ?_⟩
  have n2 : H l2 = none := s1.free nl2
  have hne : l1 ≠ l2 := ne_of_none upd_same nl2
  refine for_seq (K := K) (H0 := H) (fun Q q => ⟨.ref p, rfl, q⟩) hs (fun i σ H' => (∃ y z, σ = [some (.int n), some (.ref p), some (.ref l1), some (.ref l2), y, z]) ∧ Same H H' ∧ H' l1 = some (.lst (heldL n (rrun n (ws.take i)).1)) ∧ H' l2 = some (.lst ((rrun n (ws.take i)).2.map V.int))) ⟨⟨none, none, rfl⟩, s1.store n2, by rw [upd_ne hne]; exact upd_same, upd_same⟩ (fun i σ H' h => h.2.1) ?_ ?_
  · rintro i x σ H' hx ⟨⟨y, z, rfl⟩, s, eh, ef⟩
    obtain ⟨w, hw, rfl⟩ := item_of hx
    have bw := hb w (List.mem_of_getElem? hw)
    obtain ⟨b, e, b1, b2, step⟩ := step_ex hb hln hw
    have fl : (rrun n (ws.take i)).2.length < sizeLine := by
      rw [rrun_len, List.length_take]
      exact small1000 (by omega)
    -- behind the berth's finding
    have rest : ∀ y, (tSeq (tAsg (tC (.bl true)) (gSub (tVar 2) (tVar 5) rSetL)) (tDrop (tBM K "list" rAppend (tVar 3) (tCons (tVar 5) tNil)))) { nx := fun σ H' => (∃ y z, σ = [some (.int n), some (.ref p), some (.ref l1), some (.ref l2), y, z]) ∧ Same H H' ∧ H' l1 = some (.lst (heldL n (rrun n (ws.take (i + 1))).1)) ∧ H' l2 = some (.lst ((rrun n (ws.take (i + 1))).2.map V.int)), rt := Q, bk := fun σ H => tRet (tVar 3) { nx := fun _ H' => Q .non H', rt := Q } σ H, ct := fun σ H' => (∃ y z, σ = [some (.int n), some (.ref p), some (.ref l1), some (.ref l2), y, z]) ∧ Same H H' ∧ H' l1 = some (.lst (heldL n (rrun n (ws.take (i + 1))).1)) ∧ H' l2 = some (.lst ((rrun n (ws.take (i + 1))).2.map V.int)) } [some (.int n), some (.ref p), some (.ref l1), some (.ref l2), y, some (.int b)] H' := by
      intro y
      refine ⟨.ref l1, rfl, .int b, rfl, l1, _, b, b.toNat, rfl, rfl, eh, ?_, ?_⟩
      · unfold ixN
        rw [if_pos (by omega), heldL_len, if_pos (by omega)]
      rw [heldL_set (by omega) b2]
      have ef' : (upd H' l1 (.lst (heldL n (setO (rrun n (ws.take i)).1 b)))) l2 = some (.lst ((rrun n (ws.take i)).2.map V.int)) := by rw [upd_ne hne.symm]; exact ef
      refine ⟨.ref l2, rfl, .inl ⟨rfl, _, .inl (.inl ef')⟩, .int b, rfl, l2, _, _, rfl, rfl, ef', by rw [List.length_map]; exact fl, ?_⟩
      refine ⟨⟨_, _, rfl⟩, (s.store n1).store n2, ?_, ?_⟩
      · rw [upd_ne hne, upd_same, step]
      · rw [upd_same, step, List.map_append]
        rfl
    refine ⟨.ref l1, rfl, .int w, rfl, l1, n, _, w, rfl, .inl (.inl eh), by omega, by omega, by omega, ?_⟩
    rw [e]
    exact rest _
  · rintro σ H' ⟨⟨y, z, rfl⟩, s, eh, ef⟩
    rw [List.length_map, List.take_length] at ef
    exact ⟨.ref l2, rfl, q l2 H' n2 s ef⟩
theorem inV_ints {x : Int} {l : List Int} : inV (.int x) (l.map V.int) = decide (x ∈ l) := by
  unfold inV
  rw [List.any_map, Bool.eq_iff_iff, List.any_eq_true, decide_eq_true_eq]
  constructor
  · rintro ⟨y, hy, e⟩
    have e' : eqV (.int y) (.int x) = true := e
    have : y = x := by simpa [eqV] using e'
    exact this ▸ hy
  · intro h
    exact ⟨x, h, by show eqV (.int x) (.int x) = true; simp [eqV]⟩
theorem flat_ints {l : List Int} : (l.map V.int).all flatV = true := by
  rw [List.all_map, List.all_eq_true]
  intro x _
  rfl
def sp_left_over (K : PySem.W.Frag) (a : Ad) : Sp := fun vs H Q E => ∃ b w, vs = [b, w] ∧ ChkW K a b w H E fun n ws _ => (n < ws.length ∧ E (.ref a.e_TooMany) none H) ∨ (ws.length ≤ n ∧ ∀ (l : Addr) (H' : Hp), H l = none → Same H H' → H' l = some (.lst ((leftR n ws).map V.int)) → Q (.ref l) H')
abbrev N_left_over : List Str := ["berths", "wishes", "found", "berth"]
def t_left_over (K : PySem.W.Frag) (a : Ad) (E : XK) : TS :=
  (tSeq (tAsg (tCall (sp_placed_round K a) [] E (tCons (tVar 0) (tCons (tVar 1) tNil))) (gName 2))
    (tRet (tLc (iRng2 (tCons (tC (.int 1)) (tCons (tOp rAddI (tVar 0) (tC (.int 1))) tNil))) (gName 3) (tTest (tOp (rIn K true) (tVar 3) (tVar 2))) (tVar 3) [3])))
theorem len_left_over {K : PySem.W.Frag} {a : Ad} {vs : List V} {H : Hp} {Q : VK} {E : XK} (h : sp_left_over K a vs H Q E) : vs.length = 2 := by
  obtain ⟨b, w, rfl, _⟩ := h
  rfl
theorem allB_at {n i : Nat} {x : Int} (h : (allB n)[i]? = some x) : x = 1 + (i : Int) := by
  unfold allB at h
  obtain ⟨h1, h2⟩ := List.getElem?_eq_some_iff.mp h
  rw [List.getElem_map, List.getElem_range] at h2
  exact h2.symm
theorem pu_left_over {K : PySem.W.Frag} {a : Ad} {vs : List V} {H : Hp} {Q : VK} {E : XK} (h : sp_left_over K a vs H Q E) : t_left_over K a E { nx := fun _ H' => Q .non H', rt := Q } (start N_left_over vs) H := by
  obtain ⟨b, w, rfl, h⟩ := h
  refine ⟨b, rfl, w, rfl, b, w, rfl, ChkW.imp h fun n ws p eb ew h1 h2 hs hl hb r => ?_⟩
  rcases r with r | ⟨hln, q⟩
  · exact .inl r
  refine .inr ⟨hln, fun l H1 nl s el => ?_⟩
  have en : ((n : Int) + 1 - 1).toNat = n := by omega
  refine ⟨b, rfl, n, 1, eb, rfl, 1, (n : Int) + 1, rfl, ⟨by omega, by omega, by omega, by omega⟩, ?_⟩
  rw [en]
  refine lc_pure (walk_range (lo := 1) (n := n)) (small1000 (by omega)) (allB n) (by simp [allB]) (fun x => !decide (x ∈ placedR n ws)) V.int (fun _ _ => trivial) ?_ ?_
  · intro j x v H5 H6 R hx2 s5 hy k
    obtain ⟨rfl, hv⟩ := hy
    have ev := allB_at hx2
    replace hv : v = .int (1 + (j : Int)) := hv
    rw [← ev] at hv
    subst hv
    refine ⟨rfl, .int x, rfl, .ref l, rfl, l, _, rfl, .inl (sqL_of (s5 _ _ el)), rfl, flat_ints, _, rfl, ?_⟩
    rw [if_pos rfl, inV_ints]
    have kk := k (.int x) _ (Same.refl _) fun _ => rfl
    cases e : (!decide (x ∈ placedR n ws)) with
    | true =>
      rw [e] at kk
      exact iteT ⟨.int x, rfl, kk⟩
    | false =>
      have kk := k .non _ (Same.refl _) fun z => by rw [e] at z; cases z
      rw [e] at kk
      exact iteF kk
  · intro D H2 nD s2 eD
    exact q D H2 (s.free nD) (s.trans s2) eD
def sp_turned (K : PySem.W.Frag) (a : Ad) : Sp := fun vs H Q E => ∃ b w y, vs = [b, w, y] ∧ ChkW K a b w H E fun n ws _ => ∃ T, TyB K H y T ∧ ((isInt y = false ∧ E (.ref a.e_NoCount) none H) ∨ ∃ k : Int, y = .int k ∧ ∀ (l : Addr) (H' : Hp), H l = none → Same H H' → H' l = some (.lst ((ws.map (turn n k)).map V.int)) → Q (.ref l) H')
abbrev N_turned : List Str := ["berths", "wishes", "by", "wish"]
def t_turned (K : PySem.W.Frag) (a : Ad) (E : XK) : TS :=
  (tSeq (tDrop (tCall (sp_check_wishes K a) [] E (tCons (tVar 0) (tCons (tVar 1) tNil))))
    (tSeq (tIfS (tNot (tB (tCall (sp_is_number K a) [] E0 (tCons (tVar 2) tNil)))) (tRaise a.e_NoCount E) tNext)
    (tRet (tLc (iSeq K (tVar 1)) (gName 3) tYes (tOp rAddI (tOp rModI (tOp rAddI (tOp rSubI (tVar 3) (tC (.int 1))) (tVar 2)) (tVar 0)) (tC (.int 1))) [3]))))
theorem len_turned {K : PySem.W.Frag} {a : Ad} {vs : List V} {H : Hp} {Q : VK} {E : XK} (h : sp_turned K a vs H Q E) : vs.length = 3 := by
  obtain ⟨b, w, y, rfl, _⟩ := h
  rfl
theorem pu_turned {K : PySem.W.Frag} {a : Ad} {vs : List V} {H : Hp} {Q : VK} {E : XK} (h : sp_turned K a vs H Q E) : t_turned K a E { nx := fun _ H' => Q .non H', rt := Q } (start N_turned vs) H := by
  obtain ⟨b, w, y, rfl, h⟩ := h
  refine ⟨b, rfl, w, rfl, b, w, rfl, ChkW.imp h fun n ws p eb ew h1 h2 hs hl hb r => ?_⟩
  subst eb
  subst ew
  obtain ⟨T, ty, r⟩ := r
  refine ⟨y, rfl, y, T, rfl, ty, isInt y, rfl, ?_⟩
  rcases r with ⟨e, q⟩ | ⟨k, rfl, q⟩
  · rw [e]
    exact iteT q
  refine iteF ?_
  have turnOk : ∀ {J : It} {Y : Nat → Hp → V → Hp → Prop} {G : Hp → Prop}, Walk J (ws.map V.int).length G Y → (∀ i H v H', Y i H v H' → H' = H ∧ (ws.map V.int)[i]? = some v) → (∀ H', Same H H' → G H') →
      ∀ D, H D = none → ∃ W : Nat → Nat → Hp → Prop, (∃ m, W 0 m (upd H D (.lst []))) ∧ ∀ i m H', W i m H' →
      (J.stop i H' ∧ Q (.ref D) H') ∨ (J.go i H' ∧ ∃ Nx : Hp → Prop, (∀ H', Nx H' → ∃ m', m' < m ∧ W (i + 1) m' H') ∧ ∀ x H'', J.yld i H' x H'' → gName 3 x (wipe [some (.int (n : Int)), some (.ref p), some (.int k), none] [3]) H'' fun σ2 H2 => wipe σ2 [3] = wipe [some (.int (n : Int)), some (.ref p), some (.int k), none] [3] ∧ tYes σ2 H2 fun b H3 =>
        if b = true then (tOp rAddI (tOp rModI (tOp rAddI (tOp rSubI (tVar 3) (tC (.int 1))) (tVar 2)) (tVar 0)) (tC (.int 1))) σ2 H3 fun y H4 => ∃ acc, H4 D = some (.lst acc) ∧ acc.length < sizeLine ∧ Nx (upd H4 D (.lst (acc ++ [y]))) else Nx H3) := by
    intro J Y G W hY hG
    refine lc_pure (Qd := fun D H' => Q (.ref D) H') W (by rw [List.length_map]; exact small1000 (by omega)) ws (by rw [List.length_map]) (fun _ => true) (fun x => V.int (turn n k x)) hG ?_ ?_
    · intro j x v H5 H6 R hx2 s5 hy kk
      obtain ⟨rfl, hv⟩ := hY _ _ _ _ hy
      rw [List.getElem?_map, hx2] at hv
      cases hv
      refine ⟨rfl, ?_⟩
      refine iteT (B := R false .non H6) ⟨.int x, rfl, x, 1, rfl, rfl, .int k, rfl, _, _, rfl, rfl, .int n, rfl, _, n, rfl, rfl, (by show (0 : Int) < n; omega), _, 1, rfl, rfl, kk _ _ (Same.refl _) fun _ => rfl⟩
    · intro D H2 nD s2 eD
      rw [List.filter_eq_self.mpr (fun _ _ => rfl)] at eD
      exact q D H2 nD s2 (by rw [eD, List.map_map]; rfl)
  rcases hs with hs | hs
  · exact .inl ⟨.ref p, rfl, p, rfl, ⟨_, hs⟩, turnOk (walk_list (K := K) (a := p)) (fun i H v H' y => y) (fun H' s' => s'.seq hs)⟩
  · exact .inr ⟨.ref p, rfl, p, rfl, ⟨_, hs⟩, turnOk (walk_tup (K := K) (a := p)) (fun i H v H' y => y) (fun H' s' => s'.seqT hs)⟩
/-! ### what the laws read of a script -/
def cellAt (ns : List Int) (k : Int) : Int := ns.getD k.toNat 0
theorem cut_drop (xs : List V) (k : Nat) : cutV xs (some (k : Int)) none = xs.drop k := by
  unfold cutV
  rw [HT.sIx_nat, HT.sIx_none]
  by_cases h : k ≤ xs.length
  · rw [Nat.min_eq_left h]
    exact List.take_of_length_le (by rw [List.length_drop]; omega)
  · rw [Nat.min_eq_right (by omega), Nat.sub_self, List.take_zero, List.drop_eq_nil_of_le (by omega)]
theorem cut2 (xs : List V) : cutV xs (some 2) none = xs.drop 2 := cut_drop xs 2
theorem atI_lit (xs : List V) (j : Nat) {v : V} (h : xs[j]? = some v) : atI xs (j : Int) = some v := atI_nat h
def sp_l_cell_at (K : PySem.W.Frag) : Sp := fun vs H Q _ => ∃ (s : Addr) (ns : List Int) (k : Int), vs = [.ref s, .int k] ∧ SqL K H s (ns.map V.int) ∧ 0 ≤ k ∧ Q (.int (cellAt ns k)) H
abbrev N_l_cell_at : List Str := ["_law_script", "_law_k"]
def t_l_cell_at (K : PySem.W.Frag) (a : Ad) : TS :=
  (tSeq (tIfS (tTest (tOp rLtI (tVar 1) (tCB (rLenSq K) (tCons (tVar 0) tNil)))) (tRet (tOp (rIxL K) (tVar 0) (tVar 1))) tNext)
    (tRet (tC (.int 0))))
theorem len_l_cell_at {K : PySem.W.Frag} {vs : List V} {H : Hp} {Q : VK} {E : XK} (h : sp_l_cell_at K vs H Q E) : vs.length = 2 := by
  obtain ⟨s, ns, k, rfl, _⟩ := h
  rfl
theorem pu_l_cell_at {K : PySem.W.Frag} {a : Ad} {vs : List V} {H : Hp} {Q : VK} {E : XK} (h : sp_l_cell_at K vs H Q E) : t_l_cell_at K a { nx := fun _ H' => Q .non H', rt := Q } (start N_l_cell_at vs) H := by
  obtain ⟨s, ns, k, rfl, hs, h0, q⟩ := h
  refine ⟨.int k, rfl, .ref s, rfl, s, _, rfl, .inl hs, _, _, rfl, rfl, _, rfl, ?_⟩
  by_cases h : k < ((ns.map V.int).length : Nat)
  · rw [decide_eq_true h]
    rw [List.length_map] at h
    have e : ns[k.toNat]? = some (cellAt ns k) := by
      unfold cellAt
      rw [List.getD_eq_getElem?_getD, List.getElem?_eq_getElem (by omega)]
      rfl
    refine iteT ⟨.ref s, rfl, .int k, rfl, s, _, k, _, rfl, rfl, hs, at_of (j := k.toNat) (by omega) (by rw [List.getElem?_map, e]; rfl), q⟩
  · rw [decide_eq_false h]
    rw [List.length_map] at h
    have e : cellAt ns k = 0 := by
      unfold cellAt
      rw [List.getD_eq_getElem?_getD, List.getElem?_eq_none (by omega)]
      rfl
    rw [e] at q
    exact iteF q
def sp_l_quay (K : PySem.W.Frag) : Sp := fun vs H Q _ => ∃ (s : Addr) (ns : List Int), vs = [.ref s] ∧ SqL K H s (ns.map V.int) ∧ ∀ (n : Nat) (H' : Hp), 1 ≤ n → n ≤ 400 → Same H H' → Q (.int n) H'
abbrev N_l_quay : List Str := ["_law_script"]
def t_l_quay (K : PySem.W.Frag) (a : Ad) : TS :=
  (tRet (tOp rAddI (tC (.int 1)) (tOp rModI (tCall (sp_l_cell_at K) [] E0 (tCons (tVar 0) (tCons (tC (.int 0)) tNil))) (tOp (rIxL K) (tLst (tCons (tC (.int 6)) (tCons (tC (.int 40)) (tCons (tC (.int 400)) tNil)))) (tOp rModI (tCall (sp_l_cell_at K) [] E0 (tCons (tVar 0) (tCons (tC (.int 1)) tNil))) (tC (.int 3)))))))
theorem len_l_quay {K : PySem.W.Frag} {vs : List V} {H : Hp} {Q : VK} {E : XK} (h : sp_l_quay K vs H Q E) : vs.length = 1 := by
  obtain ⟨s, ns, rfl, _⟩ := h
  rfl
theorem p3 : (0 : Int) < 3 := by decide
theorem p4 : (0 : Int) < 4 := by decide
theorem d2 {n : Int} : CDiv n 2 := ⟨by decide, by decide⟩
theorem d3 {n : Int} : CDiv n 3 := ⟨by decide, by decide⟩
theorem d12 {n : Int} : CDiv n 12 := ⟨by decide, by decide⟩
theorem pick3 (c : Int) (x y z : V) : ∃ v, atI [x, y, z] (c % 3) = some v ∧ (v = x ∨ v = y ∨ v = z) := by
  have h : c % 3 = 0 ∨ c % 3 = 1 ∨ c % 3 = 2 := by omega
  rcases h with h | h | h <;> rw [h]
  · exact ⟨x, rfl, .inl rfl⟩
  · exact ⟨y, rfl, .inr (.inl rfl)⟩
  · exact ⟨z, rfl, .inr (.inr rfl)⟩
theorem pick4 (c : Int) (x y z u : V) : ∃ v, atI [x, y, z, u] (c % 4) = some v ∧ (v = x ∨ v = y ∨ v = z ∨ v = u) := by
  have h : c % 4 = 0 ∨ c % 4 = 1 ∨ c % 4 = 2 ∨ c % 4 = 3 := by omega
  rcases h with h | h | h | h <;> rw [h]
  · exact ⟨x, rfl, .inl rfl⟩
  · exact ⟨y, rfl, .inr (.inl rfl)⟩
  · exact ⟨z, rfl, .inr (.inr (.inl rfl))⟩
  · exact ⟨u, rfl, .inr (.inr (.inr rfl))⟩
theorem pu_l_quay {K : PySem.W.Frag} {a : Ad} {vs : List V} {H : Hp} {Q : VK} {E : XK} (h : sp_l_quay K vs H Q E) : t_l_quay K a { nx := fun _ H' => Q .non H', rt := Q } (start N_l_quay vs) H := by
  obtain ⟨s, ns, rfl, hs, q⟩ := h
  refine ⟨.ref s, rfl, s, ns, 0, rfl, hs, Int.le_refl _, by decide, fun l nl => ?_⟩
  have s1 := same_new nl (o := .lst [.int 6, .int 40, .int 400])
  refine ⟨.ref s, rfl, s, ns, 1, rfl, s1.seq hs, by decide, _, 3, rfl, rfl, p3, ?_⟩
  obtain ⟨v, e, hv⟩ := pick3 (cellAt ns 1) (.int 6) (.int 40) (.int 400)
  obtain ⟨m, rfl, m1, m2⟩ : ∃ m, v = .int m ∧ 1 ≤ m ∧ m ≤ 400 := by
    rcases hv with h | h | h <;> subst h <;> exact ⟨_, rfl, by decide, by decide⟩
  refine ⟨l, _, _, _, rfl, rfl, sqL_of upd_same, e, _, m, rfl, rfl, (by show 0 < m; omega), 1, _, rfl, rfl, ?_⟩
  have b1 := Int.emod_nonneg (cellAt ns 0) (show m ≠ 0 by omega)
  have b2 := Int.emod_lt_of_pos (cellAt ns 0) (show 0 < m by omega)
  have e2 : 1 + cellAt ns 0 % m = ((1 + cellAt ns 0 % m).toNat : Nat) := by omega
  show Q (.int (1 + cellAt ns 0 % m)) _
  rw [e2]
  exact q _ _ (by omega) (by omega) s1
def sp_l_wishes (K : PySem.W.Frag) : Sp := fun vs H Q _ => ∃ (s : Addr) (ns : List Int) (n : Nat) (most : Int), vs = [.ref s, .int n, .int most] ∧ SqL K H s (ns.map V.int) ∧ 1 ≤ n ∧ n ≤ 400 ∧ 0 ≤ most ∧ ns.length ≤ 63 ∧
  ∀ (l : Addr) (H' : Hp) (ws : List Int), H l = none → Same H H' → H' l = some (.lst (ws.map V.int)) → (∀ x ∈ ws, 1 ≤ x ∧ x ≤ n) → ws.length ≤ 61 → (ws.length : Int) ≤ most → Q (.ref l) H'
abbrev N_l_wishes : List Str := ["_law_script", "_law_berths", "_law_most", "_law_near", "_law_far", "_law_wishes_here", "_law_cell"]
def t_l_wishes (K : PySem.W.Frag) (a : Ad) : TS :=
  (tSeq (tAsg (tOp (rIxL K) (tLst (tCons (tVar 1) (tCons (tOp rAddI (tC (.int 1)) (tOp rDivI (tVar 1) (tC (.int 2)))) (tCons (tCB rMin2 (tCons (tVar 1) (tCons (tC (.int 3)) tNil))) (tCons (tVar 1) tNil))))) (tOp rModI (tOp rDivI (tCall (sp_l_cell_at K) [] E0 (tCons (tVar 0) (tCons (tC (.int 1)) tNil))) (tC (.int 3))) (tC (.int 4)))) (gName 3))
    (tSeq (tAsg (tOp rModI (tOp rDivI (tCall (sp_l_cell_at K) [] E0 (tCons (tVar 0) (tCons (tC (.int 1)) tNil))) (tC (.int 12))) (tVar 1)) (gName 4))
    (tSeq (tAsg (tLst tNil) (gName 5))
    (tSeq (tFor (iList K (tSl (rSlL K) (tVar 0) (tPart (tC (.int 2))) tNoPart)) (gName 6)
    (tIfS (tTest (tOp rLtI (tCB (rLenSq K) (tCons (tVar 5) tNil)) (tVar 2))) (tDrop (tBM K "list" rAppend (tVar 5) (tCons (tOp rAddI (tOp rModI (tOp rAddI (tOp rModI (tVar 6) (tVar 3)) (tVar 4)) (tVar 1)) (tC (.int 1))) tNil))) tNext))
    (tRet (tVar 5))))))
theorem len_l_wishes {K : PySem.W.Frag} {vs : List V} {H : Hp} {Q : VK} {E : XK} (h : sp_l_wishes K vs H Q E) : vs.length = 3 := by
  obtain ⟨s, ns, n, most, rfl, _⟩ := h
  rfl
theorem pu_l_wishes {K : PySem.W.Frag} {a : Ad} {vs : List V} {H : Hp} {Q : VK} {E : XK} (h : sp_l_wishes K vs H Q E) : t_l_wishes K a { nx := fun _ H' => Q .non H', rt := Q } (start N_l_wishes vs) H := by
  obtain ⟨s, ns, n, most, rfl, hs, h1, h2, h0, hl, q⟩ := h
  -- near
  refine ⟨.int n, rfl, .int n, rfl, n, 2, rfl, rfl, d2, 1, _, rfl, rfl, .int n, rfl, n, 3, rfl, .int n, rfl, l1000 (by show 4 ≤ 1000; decide), fun l0 nl0 => ?_⟩
  have s0 := same_new nl0 (o := .lst [.int n, .int (1 + n / 2), .int (if (3 : Int) < n then 3 else n), .int n])
  refine ⟨.ref s, rfl, s, ns, 1, rfl, s0.seq hs, by decide, _, 3, rfl, rfl, d3, _, 4, rfl, rfl, p4, ?_⟩
  obtain ⟨v, e, hv⟩ := pick4 (cellAt ns 1 / 3) (.int n) (.int (1 + n / 2)) (.int (if (3 : Int) < n then 3 else n)) (.int n)
  obtain ⟨near, rfl, m1⟩ : ∃ m, v = .int m ∧ 1 ≤ m := by
    rcases hv with h | h | h | h <;> subst h
    · exact ⟨_, rfl, by omega⟩
    · exact ⟨_, rfl, by omega⟩
    · refine ⟨_, rfl, ?_⟩
      split <;> omega
    · exact ⟨_, rfl, by omega⟩
  refine ⟨l0, _, _, _, rfl, rfl, sqL_of upd_same, e, ?_⟩
  -- far
  refine ⟨.ref s, rfl, s, ns, 1, rfl, s0.seq hs, by decide, _, 12, rfl, rfl, d12, .int n, rfl, _, _, rfl, rfl, (by show (0 : Int) < n; omega), ?_⟩
  -- the list
  refine ⟨Nat.zero_le _, fun l nl => ?_⟩
  have nlH : H l = none := s0.free nl
  have s1 := s0.store nlH (o := .lst [])
  -- the script's rest
  refine ⟨.ref s, rfl, 2, rfl, s, _, rfl, s1.seq hs, fun c nc => ?_⟩
  have ncH : H c = none := s1.free nc
  have ncl : l ≠ c := ne_of_none upd_same nc
  have s2 := s1.store ncH (o := .lst (cutV (ns.map V.int) (some 2) none))
  refine ⟨c, rfl, ⟨_, sqL_of upd_same⟩, for_list (K := K) (a := c) (xs := (ns.drop 2).map V.int) (fun i σ H' => ∃ (ws : List Int) (y : Option V), σ = [some (.ref s), some (.int n), some (.int most), some (.int near), some (.int (cellAt ns 1 / 12 % n)), some (.ref l), y] ∧ Same H H' ∧
    H' c = some (.lst ((ns.drop 2).map V.int)) ∧ H' l = some (.lst (ws.map V.int)) ∧ (∀ x ∈ ws, 1 ≤ x ∧ x ≤ n) ∧ ws.length ≤ i ∧ (ws.length : Int) ≤ most) ?_ (fun i σ H' _ ⟨_, _, _, _, h, _⟩ => sqL_of h) ?_ ?_⟩
  · refine ⟨[], none, rfl, s2, ?_, ?_, fun x hx => absurd hx (by simp), Nat.le_refl _, by simpa using h0⟩
    · rw [upd_same, cut2, List.map_drop]
    · rw [upd_ne ncl, upd_same]
      rfl
  · rintro i x σ H' hx ⟨ws, y, rfl, s3, hc, hw, hb, hi, hm⟩
    obtain ⟨z, hz, rfl⟩ := item_of hx
    have hi2 : i < (ns.drop 2).length := (List.getElem?_eq_some_iff.mp hz).1
    rw [List.length_drop] at hi2
    refine ⟨.ref l, rfl, l, _, rfl, .inl (sqL_of hw), .int most, rfl, _, _, rfl, rfl, _, rfl, ?_⟩
    by_cases hlt : (((ws.map V.int).length : Nat) : Int) < most
    · rw [decide_eq_true hlt]
      rw [List.length_map] at hlt
      refine iteT ⟨.ref l, rfl, .inl ⟨rfl, _, sqL_of hw⟩, .int z, rfl, .int near, rfl, z, near, rfl, rfl, (by show 0 < near; omega), .int (cellAt ns 1 / 12 % n), rfl, _, _, rfl, rfl, .int n, rfl, _, n, rfl, rfl, (by show (0 : Int) < n; omega), _, 1, rfl, rfl, l, _, _, rfl, rfl, hw, by rw [List.length_map]; exact small1000 (by omega), ?_⟩
      have b1 := Int.emod_nonneg (z % near + cellAt ns 1 / 12 % n) (show (n : Int) ≠ 0 by omega)
      have b2 := Int.emod_lt_of_pos (z % near + cellAt ns 1 / 12 % n) (show (0 : Int) < n by omega)
      refine ⟨ws ++ [(z % near + cellAt ns 1 / 12 % n) % n + 1], some (.int z), rfl, s3.store nlH, ?_, ?_, ?_, ?_, ?_⟩
      · rw [upd_ne ncl.symm]
        exact hc
      · rw [upd_same, List.map_append]
        rfl
      · intro x hx
        rcases List.mem_append.mp hx with k | k
        · exact hb x k
        · rw [List.mem_singleton.mp k]
          omega
      · rw [List.length_append, List.length_singleton]
        omega
      · rw [List.length_append, List.length_singleton]
        omega
    · rw [decide_eq_false hlt]
      exact iteF ⟨ws, some (.int z), rfl, s3, hc, hw, hb, by omega, hm⟩
  · rintro σ H' ⟨ws, y, rfl, s3, hc, hw, hb, hi, hm⟩
    rw [List.length_map, List.length_drop] at hi
    exact ⟨.ref l, rfl, q l H' ws nlH s3 hw hb (by omega) hm⟩

/-! ### try: .. except C as e: kept = e: the caught one stays known by its class -/
def ExK (cls : Value) (d : Option Addr) (a : Addr) : HO := .ext fun h => ∃ (oe : Obj) (vs : Array Value), h.get? a = some oe ∧ Zc cls d oe ∧ oe.data = .fields vs
theorem exK_ok {P : Program} {w : World} {H : Hp} {h : Heap} {a : Addr} {cls : Value} {d : Option Addr} {oe : Obj} {vs : Array Value} (e : h.get? a = some oe) (z : Zc cls d oe) (dd : oe.data = .fields vs) : ObjOk P w H h a (ExK cls d a) :=
  ⟨⟨oe, vs, e, z, dd⟩, ⟨oe, e⟩, fun _ _ ⟨o, v, q, r⟩ k => ⟨o, v, k o q, r⟩⟩
section
variable {X : Cx} {pins : List (Addr × Obj)} {σ : L2.St} {H : Hp} {s : Shared}
/-- a pinned exception that came behind the entry becomes tracked -/
theorem keep_exc {a : Addr} {oe : Obj} {vs : Array Value} {cls : Value} {d : Option Addr} (J : Inv X ((a, oe) :: pins) σ H s) (z : Zc cls d oe) (dd : oe.data = .fields vs) (h0 : X.s_0.heap.get? a = none) (np : ∀ p ∈ X.pn ++ pins, p.1 ≠ a) : Inv X pins σ (upd H a (ExK cls d a)) s := by
  obtain ⟨ea, na, nL, nF, nc⟩ := J.pin (a, oe) (List.mem_append_right _ List.mem_cons_self)
  have ne : ∀ {b : Addr} {o : HO}, H b = some o → b ≠ a := fun e q => by
    rw [q] at e
    have na' : H a = none := na
    rw [na'] at e
    cases e
  refine ⟨J.ok, J.os, J.bare, ⟨J.base.keep, J.base.slot, fun b o e n hx => ?_, J.base.there, fun b xs e => ?_, fun b o u e => ?_, fun b ps e => ?_⟩, J.loc, J.cell, ?_, fun x c e => ?_, fun p hp => ?_, fun b o e => ?_, J.len⟩
  · have hb : b ≠ a := fun q => by
      rw [q, h0] at e
      cases e
    rw [upd_ne hb]
    exact J.base.free b o e n hx
  · have e2 := J.base.tups b xs e
    rw [upd_ne (ne e2)]
    exact e2
  · have e2 := J.base.frzs b o u e
    rw [upd_ne (ne e2)]
    exact e2
  · obtain ⟨more, e2⟩ := J.base.tbls b ps e
    refine ⟨more, ?_⟩
    rw [upd_ne (ne e2)]
    exact e2
  · rw [upd_ne (fun q => nL q.symm)]
    exact J.free
  · have hc : c ≠ a := fun q => by
      obtain ⟨v, o, e1, e2⟩ := J.cell x c e
      rw [q] at e1
      have ea' : s.heap.get? a = some oe := ea
      rw [ea'] at e1
      cases e1
      rw [dd] at e2
      cases e2
    rw [upd_ne hc]
    exact J.freeC x c e
  · have hp' : p ∈ X.pn ++ (a, oe) :: pins := by
      rcases List.mem_append.mp hp with k | k
      · exact List.mem_append_left _ k
      · exact List.mem_append_right _ (List.mem_cons_of_mem _ k)
    obtain ⟨q1, q2, q3, q4, q5⟩ := J.pin p hp'
    exact ⟨q1, by rw [upd_ne (np p hp)]; exact q2, q3, q4, q5⟩
  · by_cases hb : b = a
    · subst hb
      rw [upd_same] at e
      cases e
      exact exK_ok ea z dd
    · rw [upd_ne hb] at e
      refine (J.hok b o e).stay (fun c u _ q => q) (fun c q => ?_) fun c xs q => ?_
      · rw [upd_ne (ne q)]
        exact q
      · rw [upd_ne (ne q)]
        exact q
end
/-- what the clause wishes of an exception of the body: it is caught, kept in slot j; the clause's own name, slot i, is empty behind it -/
def wKeep (K : PySem.W.Frag) (c : Addr) (i j : Nat) (D : Ends) : WX := fun cls d σ H =>
  PySem.W.exmOne K cls (.ref c) = some true ∧ ∀ a, H a = none → D.nx (((σ.set i (some (.ref a))).set j (some (.ref a))).set i none) (upd H a (ExK cls d a))
def tTryKeep (K : PySem.W.Frag) (c : Addr) (i j : Nat) (tb : WX → TS) : TS := fun D σ H => tb (wKeep K c i j D) D σ H
section
variable {X : Cx} {x n : Str} {c : Addr} {i j : Nat} {body suite : List Stmt} {b1 : Stmt} {np pos pos' : Pos} {tb : WX → TS}
/-- an exception caught, its clause ended, it is tracked -/
theorem caught_kept {a : Addr} {pins : List (Addr × Obj)} {σ : L2.St} {H : Hp} {B : Heap} {sI s' : Shared} {cls : Value} {d : Option Addr} {D : Ends}
    (hs : X.stack = X.env :: X.outer) (hf : X.env.frame = some X.env.locals) (hex : X.ex = []) (hN : X.N.Nodup) (hi : X.N[i]? = some n) (hln : X.env.kindOf n = some .local) (hc : Names X x (.ref c)) (ok : X.Ok)
    (hsu : ∀ (a : Addr) (oe : Obj) (cls : Value) (d : Option Addr) (pn : List (Addr × Obj)), Zc cls d oe → (∃ vs, oe.data = .fields vs) → PSs (X.suite a ((a, oe) :: pn)) (b1 :: suite) (tAsg (tVar i) (gName j)))
    (hln2 : i < σ.length)
    (J : Inv X pins σ H sI) (nb : ∀ b o, sI.heap.get? b = some o → b ∉ frs X.stack → B.get? b = some o) (up : sI.heap.UpToSlots s'.heap) (sky : Sky B X.stack a (Zc cls d) X.env.locals s'.heap) (na : H a = none) (os : s'.os = sI.os) (ag : AllBare s'.gens)
    (w : wKeep X.K c i j D cls d σ H) :
    wpAny (model X.prog X.w) X.A (noteFrame (.ref a) X.env) (fun _ s₂ => wpAny (model X.prog X.w) X.A (setFlight (.ref a) none) (fun _ s₃ =>
      wpAny (model X.prog X.w) X.A (handleBy (.ref a) X.env [.ExceptHandler (some (.Name x np)) (some n) (b1 :: suite) pos']) (SP X pins D) X.xe s₃) X.xe s₂) X.xe s' := by
  obtain ⟨hb, hyes⟩ := w
  have frames : X.A.frames = some (X.env :: X.outer) := ok.frames.trans (congrArg some hs)
  have sky2 : Sky B (X.env :: X.outer) a (Zc cls d) X.env.locals s'.heap := hs ▸ sky
  -- the exception stands apart from all that stood
  have hB : B.get? a = none := by
    rcases sky with q | q | q
    · exact q.2.1
    · exact q.2.1
    · exact q.2.1
  refine Sky.land Zc.steady frames hf sky2 fun h3 fl3 up3 => ?_
  have J3 : Inv X pins σ H { s' with heap := h3 } := J.landed nb fl3.1 (up.trans up3) os ag
  obtain ⟨oe3, vs3, he3, hz3, hd3⟩ := fl3.there
  have notIn : a ∉ frs (X.env :: X.outer) := fun hm => by
    obtain ⟨_, o, e, hnf⟩ := fl3.2.2.1.mem hm
    rw [he3] at e
    cases e
    exact hnf _ hd3
  have nL : a ≠ X.env.locals := fun z => notIn (List.mem_filterMap.mpr ⟨X.env, List.mem_cons_self, hf.trans (congrArg some z.symm)⟩)
  have nF : a ∉ X.fs := fun hm => by
    obtain ⟨e, he, q⟩ := List.mem_filterMap.mp hm
    exact notIn (List.mem_filterMap.mpr ⟨e, List.mem_cons_of_mem _ he, q⟩)
  have nS : a ∉ frs X.stack := hs ▸ notIn
  have h0 : X.s_0.heap.get? a = none := by
    cases q : X.s_0.heap.get? a with
    | none => rfl
    | some o =>
      obtain ⟨o', e⟩ := J.base.there a o q (by rw [hex]; simp)
      rw [nb a o' e nS] at hB
      cases hB
  have npin : ∀ p ∈ X.pn ++ pins, p.1 ≠ a := fun p hp z => by
    obtain ⟨e, _, p3, p4, _⟩ := J.pin p hp
    rw [z] at e
    rw [nb a p.2 e nS] at hB
    cases hB
  refine wpAny_handleBy_cons (codeAny_handlers_test ?_) (by intro q; cases q)
  have S3 := J3.suite he3 hd3 na nL nF
  have LT : PySem.W.Looks (model X.prog X.w) h3 (typeOf (.ref a)) cls := fun A Q E s k q => wpAny_typeOf_ref (k _ _ he3) (by rw [hz3.1]; exact q)
  have test : ∀ {Q : Value → Shared → Prop} {E : Value → Shared → Prop}, Q (.ref c) { s' with heap := h3 } → wpAny (model X.prog X.w) (X.A.mark (some (.ref a))) (eval (.Name x np) X.env) Q E { s' with heap := h3 } := fun {Q E} q => by
    obtain ⟨hg, hdbg, hm | ⟨hm, hv, hnn⟩⟩ := hc
    · exact ld_glob (X := X.suite a ((a, oe3) :: (X.pn ++ pins))) S3 hg hm q hdbg
    · exact ld_blt (X := X.suite a ((a, oe3) :: (X.pn ++ pins))) S3 hg hm hv q hnn hdbg
  refine test ((PySem.W.exm_one (M := model X.prog X.w) J3.kIn LT hb).here ?_)
  refine codeAny_handlers_suite_as (HandSPX.lands_againZ fl3 fun h4 fl4 up4 => ?_)
  have J4 : Inv X pins σ H { s' with heap := h4 } := J.landed nb fl4.1 ((up.trans up3).trans up4) os ag
  obtain ⟨oe4, vs4, he4, hz4, hd4⟩ := fl4.there
  have S4 := J4.suite he4 hd4 na nL nF
  refine store_ok (X := X.suite a ((a, oe4) :: (X.pn ++ pins))) (v := .ref a) S4 hN hi (.inl hln) rfl (fun s5 S5 => ?_) (.inr hln)
  have q5 : (tAsg (tVar i) (gName j)) { nx := fun σ' H' => H' = H ∧ σ' = (σ.set i (some (.ref a))).set j (some (.ref a)), rt := fun _ _ => False } (σ.set i (some (.ref a))) H := by
    exact ⟨.ref a, by rw [List.getElem?_set_self hln2], rfl, rfl⟩
  refine wpAny_mono ((hsu a oe4 cls d (X.pn ++ pins) hz4 ⟨_, hd4⟩).run [] s5 _ H _ S5 q5) (fun f s6 hsp => ?_) (fun _ _ z => False.elim z)
  cases f with
  | next =>
    obtain ⟨σ6, H6, S6, rfl, rfl⟩ := hsp
    have P6 : Inv X ((a, oe4) :: pins) ((σ.set i (some (.ref a))).set j (some (.ref a))) H6 s6 :=
      ⟨ok, S6.os, S6.bare, S6.base, S6.loc, S6.cell, S6.free, S6.freeC, fun p hp => S6.pin p (by
        rw [List.append_nil]
        rcases List.mem_append.mp hp with k | k
        · exact List.mem_cons_of_mem _ (List.mem_append_left _ k)
        · rcases List.mem_cons.mp k with k | k
          · rw [k]; exact List.mem_cons_self
          · exact List.mem_cons_of_mem _ (List.mem_append_right _ k)), S6.hok, S6.len⟩
    refine gone_ok P6 hN hi hln fun s7 J7 => ?_
    exact ⟨_, _, keep_exc J7 hz4 hd4 h0 npin, hyes a na⟩
  | brk =>
    obtain ⟨_, _, _, q⟩ := hsp
    exact q.elim
  | cont =>
    obtain ⟨_, _, _, q⟩ := hsp
    exact q.elim
  | ret u =>
    obtain ⟨_, _, _, _, _, q⟩ := hsp
    exact q.elim
theorem ps_try_keep (hs : X.stack = X.env :: X.outer) (hf : X.env.frame = some X.env.locals) (hex : X.ex = []) (hN : X.N.Nodup) (hi : X.N[i]? = some n) (hln : X.env.kindOf n = some .local) (hc : Names X x (.ref c))
    (hb : ∀ (W : WX) (pn : List (Addr × Obj)) (xe : Value → Shared → Prop), Takes (X.tr pn xe) W → PassesOwn (model X.prog X.w) X.A X.env xe → PSs (X.tr pn xe) body (tb W))
    (hsu : ∀ (a : Addr) (oe : Obj) (cls : Value) (d : Option Addr) (pn : List (Addr × Obj)), Zc cls d oe → (∃ vs, oe.data = .fields vs) → PSs (X.suite a ((a, oe) :: pn)) (b1 :: suite) (tAsg (tVar i) (gName j))) :
    PS X (.Try body [.ExceptHandler (some (.Name x np)) (some n) (b1 :: suite) pos'] [] [] pos) (tTryKeep X.K c i j tb) := by
  refine ⟨fun pins s σ H D I h => wpAny_Try_except ?_⟩
  have ok := I.ok
  refine wpAny_mono ((hb (wKeep X.K c i j D) (X.pn ++ pins) (fun e s₁ => wpAny (model X.prog X.w) X.A (noteFrame e X.env) (fun _ s₂ => wpAny (model X.prog X.w) X.A (setFlight e none) (fun _ s₃ =>
    wpAny (model X.prog X.w) X.A (handleBy e X.env [.ExceptHandler (some (.Name x np)) (some n) (b1 :: suite) pos']) (SP X pins D) X.xe s₃) X.xe s₂) X.xe s₁) (fun u s' xx => ?_) PassesOwn.looking).run [] s σ H D (I.toTry _) h) (fun f s1 hsp => ?_) (fun e s1 he => he)
  · obtain ⟨a, B, sI, pins', σ', H', cls, d, rfl, J', nb, up, sky, na, os, ag, w⟩ := xx
    have il : i < σ'.length := by
      have e1 := (List.getElem?_eq_some_iff.mp hi).1
      have e2 := J'.len
      have e3 : σ'.length = X.N.length := e2
      omega
    exact caught_kept hs hf hex hN hi hln hc ok hsu il (J'.ofTry ok) nb up sky na os ag w
  · cases f with
    | next =>
      obtain ⟨σ', H', J', q⟩ := hsp
      exact wpAny_execs_nil ⟨σ', H', J'.ofTry ok, q⟩
    | brk =>
      obtain ⟨σ', H', J', q⟩ := hsp
      exact ⟨σ', H', J'.ofTry ok, q⟩
    | cont =>
      obtain ⟨σ', H', J', q⟩ := hsp
      exact ⟨σ', H', J'.ofTry ok, q⟩
    | ret u =>
      obtain ⟨v, σ', H', J', r, q⟩ := hsp
      exact ⟨v, σ', H', J'.ofTry ok, r, q⟩
end

/-! ### isinstance of a kept exception; a call, inside a try, of a local that holds a def -/
structure ExG (K : PySem.W.Frag) (C : Addr) : Prop where
  c : ExcC K C
  ty : PySem.W.typeIn K (.ref C) = some (.type "type")
  self : PySem.W.subIn K (.ref C) (.ref C) = some true
theorem cls_some {K : PySem.W.Frag} {C : Addr} (h : PySem.W.hasDictIn K C = true) : (PySem.W.clsIn K C).isSome = true := by
  obtain ⟨cd, hc, _⟩ := PySem.W.any_some h
  rw [hc]
  rfl
theorem kit_ref {K : PySem.W.Frag} {C D : Addr} {b : Bool} (g : ExG K C) (h : PySem.W.subIn K (.ref D) (.ref C) = some b) : PySem.W.kitOne K (.ref D) (.ref C) = some b := by
  unfold PySem.W.kitOne
  by_cases e : (Value.ref D == Value.ref C) = true
  · rw [if_pos e]
    have e2 : D = C := Value.ref.inj (beq_iff_eq.mp e)
    subst e2
    rw [g.self] at h
    exact h
  · rw [if_neg e]
    have e2 : ((PySem.W.clsIn K C).isSome && PySem.W.typeIn K (.ref C) == some (.type "type")) = true := by rw [cls_some g.c.hd, g.ty] <;> rfl
    show (if ((PySem.W.clsIn K C).isSome && PySem.W.typeIn K (.ref C) == some (.type "type")) = true then PySem.W.subIn K (.ref D) (.ref C) else none) = some b
    rw [if_pos e2]
    exact h
theorem kit_typ {K : PySem.W.Frag} {D : Addr} {T : String} {b : Bool} (hm : PySem.W.kitMeta T = true) (h : PySem.W.subIn K (.ref D) (.type T) = some b) : PySem.W.kitOne K (.ref D) (.type T) = some b := by
  unfold PySem.W.kitOne
  have e : ¬ (Value.ref D == Value.type T) = true := fun z => by cases beq_iff_eq.mp z
  rw [if_neg e]
  show (if PySem.W.kitMeta T = true then PySem.W.subIn K (.ref D) (.type T) else none) = some b
  rw [if_pos hm]
  exact h
theorem exm_of {K : PySem.W.Frag} {C : Addr} {cls : Value} {b : Bool} (g : ExG K C) (h : PySem.W.subIn K cls (.ref C) = some b) : PySem.W.exmOne K cls (.ref C) = some b := PySem.W.exm_ref g.c.hs g.c.hd g.ty h
inductive TyE (K : PySem.W.Frag) (H : Hp) : V → Value → Prop where
  | old {x : V} {t : Value} : TyX K H x t → TyE K H x t
  | exc {a D : Addr} : H a = some (ExK (.ref D) none a) → ExcC K D → TyE K H (.ref a) (.ref D)
def rIsiE (K : PySem.W.Frag) : List V → Hp → VK → Prop := fun xs H Q => ∃ (x c : V) (t u : Value) (b : Bool), xs = [x, c] ∧ ClsV c u ∧ TyE K H x t ∧ PySem.W.kitOne K t u = some b ∧ Q (.bl b) H
def rIsiTE (K : PySem.W.Frag) : List V → Hp → VK → Prop := fun xs H Q => ∃ (x : V) (tp : Addr) (cs : List V) (t : Value) (us : List Value) (b : Bool), xs = [x, .ref tp] ∧ H tp = some (.tup cs) ∧ Paired ClsV cs us ∧ TyE K H x t ∧ PySem.W.kitAny K t us = some b ∧ Q (.bl b) H
section
variable {X : Cx} {pins : List (Addr × Obj)} {σ : L2.St} {H : Hp} {s : Shared}
theorem kit_ofE {x : V} {u t : Value} (I : Inv X pins σ H s) (rx : RelV x u) (ty : TyE X.K H x t) : ∃ P : Heap → Prop, PySem.W.KitX X.K u t P ∧ P s.heap ∧ u ≠ .builtin "__main__.__loader__#opaque" := by
  cases ty with
  | old ty => exact kit_of I rx ty
  | @exc a D e C =>
    cases (show u = Value.ref a from rx)
    obtain ⟨⟨oe, vs, e1, z, dd⟩, _, _⟩ := (show ObjOk X.prog X.w H s.heap a (ExK (.ref D) none a) from I.hok a _ e)
    have J : PySem.W.InstAt s.heap a oe D none := by
      obtain ⟨oc, od, oda, osl⟩ := oe
      obtain ⟨h1, h2⟩ := z
      dsimp only at h1 h2 dd
      subst h1 h2 dd
      exact ⟨e1, rfl, rfl, trivial⟩
    exact ⟨_, PySem.W.handS_kitx_exc C.hg C.hk C.hs C.hd C.ha C.hn C.ht C.hm, J, fun z => nomatch z⟩
theorem call_isiE : CallR X (.builtin "isinstance") (rIsiE X.K) := by
  intro pins s σ H xs us Q I r h
  obtain ⟨x, c, t, u, b, rfl, k, ty, e, q⟩ := h
  obtain ⟨u1, u2, rfl, r1, r2⟩ := vals2 r
  have e2 := k.eq r2
  subst e2
  obtain ⟨P, Z, p, hx⟩ := kit_ofE I r1 ty
  exact PySem.W.kia_one Z I.kIn p e hx fun tk => ⟨.bl b, H, I.tok tk, rfl, q⟩
theorem call_isiTE : CallR X (.builtin "isinstance") (rIsiTE X.K) := by
  intro pins s σ H xs us Q I r h
  obtain ⟨x, tp, cs, t, ws, b, rfl, hT, k, ty, e, q⟩ := h
  obtain ⟨u1, u2, rfl, r1, r2⟩ := vals2 r
  cases (show u2 = Value.ref tp from r2)
  obtain ⟨P, Z, p, hx⟩ := kit_ofE I r1 ty
  obtain ⟨_, its, rv, o, h1, h2, n, h3⟩ := (show ObjOk X.prog X.w H s.heap tp (.tup cs) from I.hok tp _ hT)
  have e3 := ClsV.all k rv
  subst e3
  obtain ⟨oc, od, dt, sl⟩ := o
  simp only at h2 h3
  subst h2 h3
  exact PySem.W.kia_tup Z I.kIn p h1 e hx fun tk => ⟨.bl b, H, I.tok tk, rfl, q⟩
end
/-- a def that a local may hold -/
structure Hd (P : Program) (w : World) (K : PySem.W.Frag) (mg : Str → Option Value) (base : Heap) (CX : CXT) (kk : Nat) (f : Addr) (sp : Sp) : Prop where
  ex : ∃ (k : Nat) (fd : FuncData) (ps : List Str), k ≤ kk ∧ FnOk P w K mg base CX k f fd ps sp ∧ Binds K fd ps []
  kp : PySem.W.keepIn K (.ref f) = true
theorem hd_of {P : Program} {w : World} {K : PySem.W.Frag} {mg : Str → Option Value} {base : Heap} {CX : CXT} {k kk : Nat} {x : Str} {f : Addr} {ps : List Str} {sp : Sp} (G : Cb P w K mg base CX k x f ps sp) (h : k ≤ kk) : Hd P w K mg base CX kk f sp := by
  obtain ⟨⟨fd, F, b⟩, g, kp⟩ := G
  exact ⟨⟨k, fd, ps, h, F, b⟩, kp⟩
def tCallD (i : Nat) (S : Addr → Sp → Prop) (E : L2.St → XK) (t : TA) : TE := fun σ H Q => ∃ f sp, σ[i]? = some (some (.ref f)) ∧ S f sp ∧ t σ H fun vs H1 => sp vs H1 Q (E σ)
theorem pe_callD {X : Cx} {CX : CXT} {kk i : Nat} {S : Addr → Sp → Prop} {E : L2.St → XK} {x : Str} {p pos : Pos} {e : Expr} {es : List Expr} {t : TA} (A : ∀ f sp, S f sp → Hd X.prog X.w X.K X.mg X.base CX kk f sp) (hr : Room kk X.A) (hx : ∀ σ, PassesAt CX X σ (E σ))
    (ha : PA X (e :: es) t) (hN : X.N[i]? = some x := by rfl) (hv : Vis X.env.scope x := by first | exact Or.inl rfl | exact Or.inr (Or.inl rfl) | exact Or.inr (Or.inr rfl))
    (hdb : (x == ("__debug__" : Str)) = false := by decide) (hcd : (x == ("__classdict__" : Str)) = false := by decide)
    (he : starEach (e :: es) X.env = (false, eval e X.env) :: starEach es X.env := by rfl) (hpl : (backTo pos (starEach es X.env)).any (·.1) = false := by rfl) : PE X (.Call (.Name x p) (e :: es) [] pos) (tCallD i S E t) := by
  refine ⟨fun pins s σ H Q I h => ?_⟩
  obtain ⟨f, sp, hs, hS, ht⟩ := h
  obtain ⟨⟨k, fd, ps, hk, F, hb⟩, kp⟩ := A f sp hS
  refine wpAny_Call_Name_kw (thn ((pe_var (pos := p) hN hv hdb hcd).run pins s σ H (fun v H1 => v = .ref f ∧ H1 = H) I ⟨.ref f, hs, rfl, rfl⟩) fun u s1 ⟨v, H1, I1, r1, q1⟩ => ?_)
  obtain ⟨rfl, rfl⟩ := q1
  cases r1
  refine PySem.W.callWith_K (h₀ := X.base) I.ok.mod.kin kp (thn (ha.run pos pins s1 σ _ _ I1 ht) fun us s2 ⟨vs, H2, I2, r, q⟩ => ⟨I2.kIn, ?_⟩) he hpl
  exact run_fnS F (hr.mono hk) hb (hx σ) I2 r q

/-! ### the law's own round quay -/
theorem cyc_succ {n : Nat} {w : Int} {j : Nat} (hn : 1 ≤ n) : cyc n w (j + 1) = if cyc n w j = n then 1 else cyc n w j + 1 := by
  have b := turn_bd hn (j : Int) w
  unfold cyc turn at *
  have e : w - 1 + ((j + 1 : Nat) : Int) = (w - 1 + j) + 1 := by omega
  rw [e, ← Int.emod_add_emod]
  generalize (w - 1 + (j : Int)) % (n : Int) = m at *
  by_cases z : m + 1 = n
  · rw [if_pos z, z, Int.emod_self]
    rfl
  · rw [if_neg z, Int.emod_eq_of_lt (by omega) (by omega)]
def HeldD (H : Hp) (d : Addr) (L : List Int) : Prop := ∃ kvs : List (Key × V), H d = some (.dK kvs) ∧ kvs.length ≤ L.length ∧ ∀ x : Int, valV kvs (.inl x) = if x ∈ L then some (.bl true) else none
def sp_l_round (K : PySem.W.Frag) : Sp := fun vs H Q _ => ∃ (n : Nat) (w : Addr) (ws : List Int), vs = [.int n, .ref w] ∧ SqL K H w (ws.map V.int) ∧ 1 ≤ n ∧ n ≤ 400 ∧ ws.length ≤ n ∧ (∀ x ∈ ws, 1 ≤ x ∧ x ≤ n) ∧
  ∀ (l : Addr) (H' : Hp), H l = none → Same H H' → H' l = some (.lst ((placedR n ws).map V.int)) → Q (.ref l) H'
abbrev N_l_round : List Str := ["_law_berths", "_law_wishes_here", "_law_held", "_law_found", "_law_wish", "_law_berth"]
def t_l_round (K : PySem.W.Frag) (a : Ad) : TS :=
  (tSeq (tAsg tDNewK (gName 2))
    (tSeq (tAsg (tLst tNil) (gName 3))
    (tSeq (tFor (iList K (tVar 1)) (gName 4)
    (tSeq (tAsg (tVar 4) (gName 5))
    (tSeq (tWhile (tB (tDGet2 (tVar 2) (tVar 5) (tC (.bl false)))) (tAsg (tOp (rIxL K) (tLst (tCons (tOp rAddI (tVar 5) (tC (.int 1))) (tCons (tC (.int 1)) tNil))) (tCB rInt1 (tCons (tOp rEq (tVar 5) (tVar 0)) tNil))) (gName 5)))
    (tSeq (tAsg (tC (.bl true)) (gSub (tVar 2) (tVar 5) rSetD))
    (tDrop (tBM K "list" rAppend (tVar 3) (tCons (tVar 5) tNil)))))))
    (tRet (tVar 3)))))
theorem len_l_round {K : PySem.W.Frag} {vs : List V} {H : Hp} {Q : VK} {E : XK} (h : sp_l_round K vs H Q E) : vs.length = 2 := by
  obtain ⟨n, w, ws, rfl, _⟩ := h
  rfl
theorem pu_l_round {K : PySem.W.Frag} {a : Ad} {vs : List V} {H : Hp} {Q : VK} {E : XK} (h : sp_l_round K vs H Q E) : t_l_round K a { nx := fun _ H' => Q .non H', rt := Q } (start N_l_round vs) H := by
  obtain ⟨n, w, ws, rfl, hs, h1, h2, hl, hb, q⟩ := h
  intro d nd
  have s0 : Same H (upd H d (.dK [])) := same_new nd
  refine ⟨Nat.zero_le _, fun l nl => ?_⟩
  have nlH : H l = none := s0.free nl
  have ndl : d ≠ l := ne_of_none upd_same nl
  have s1 := s0.store nlH (o := .lst [])
  refine ⟨.ref w, rfl, w, rfl, ⟨_, s1.seq hs⟩, for_list (K := K) (a := w) (xs := ws.map V.int) (fun i σ H' => (∃ y z, σ = [some (.int n), some (.ref w), some (.ref d), some (.ref l), y, z]) ∧ Same H H' ∧ HeldD H' d (placedR n (ws.take i)) ∧ H' l = some (.lst ((placedR n (ws.take i)).map V.int))) ?_ (fun i σ H' _ p => p.2.1.seq hs) ?_ ?_⟩
  · refine ⟨⟨none, none, rfl⟩, s1, ⟨[], by rw [upd_ne ndl, upd_same], Nat.le_refl _, fun x => ?_⟩, upd_same⟩
    rw [valV_nil]
    exact (if_neg (by simp [placedR, rrun])).symm
  · rintro i x σ H' hx ⟨⟨y, z, rfl⟩, s, hd, el⟩
    obtain ⟨w0, hw, rfl⟩ := item_of hx
    have bw := hb w0 (List.mem_of_getElem? hw)
    obtain ⟨b, e, b1, b2, step⟩ := step_ex hb hl hw
    obtain ⟨j0, j1, rfl, j3, j4⟩ := rfree_cyc bw e
    have L := layR_take hb hl i
    have estep : placedR n (ws.take (i + 1)) = placedR n (ws.take i) ++ [cyc n w0 j0] := by
      unfold placedR
      rw [step]
    have hi := (List.getElem?_eq_some_iff.mp hw).1
    have hlen : (placedR n (ws.take i)).length ≤ 400 := by
      rw [placedR_len, List.length_take]
      omega
    refine ⟨.int w0, rfl, fun m σ H'' => ∃ j : Nat, j ≤ j0 ∧ m = j0 - j ∧ Same H' H'' ∧ σ = [some (.int n), some (.ref w), some (.ref d), some (.ref l), some (.int w0), some (.int (cyc n w0 j))], ⟨_, 0, Nat.zero_le _, rfl, Same.refl _, ?_⟩, ?_⟩
    · have : cyc n w0 0 = w0 := cyc_lo bw.1 (by omega) |>.trans (by omega)
      rw [this]
      rfl
    rintro m σ H'' ⟨j, hj, rfl, s3, rfl⟩
    obtain ⟨kvs, ed, kl, hk⟩ := hd
    have ed' := s3 _ _ ed
    have el' := s3 _ _ el
    have hval : (valV kvs (.inl (cyc n w0 j))).getD (.bl false) = .bl (decide (cyc n w0 j ∈ placedR n (ws.take i))) := by
      rw [hk]
      by_cases c : cyc n w0 j ∈ placedR n (ws.take i) <;> simp [c]
    refine ⟨.ref d, rfl, d, rfl, .inl ⟨kvs, .inl ed'⟩, .int (cyc n w0 j), rfl, _, DGet.k (k := .inl (cyc n w0 j)) ed', _, hval, ite2 (fun c => ?_) (fun c => ?_)⟩
    · have c : cyc n w0 j ∈ placedR n (ws.take i) := of_decide_eq_true c
      have hlt : j < j0 := by
        by_cases z : j = j0
        · rw [z] at c
          rw [(L.occ _).mpr c] at j3
          cases j3
        · omega
      refine ⟨fun σ' H3 => Same H' H3 ∧ σ' = [some (.int n), some (.ref w), some (.ref d), some (.ref l), some (.int w0), some (.int (cyc n w0 (j + 1)))], ?_, ?_⟩
      · rintro σ' H3 ⟨s4, rfl⟩
        exact ⟨j0 - (j + 1), by omega, j + 1, hlt, rfl, s4, rfl⟩
      · refine ⟨.int (cyc n w0 j), rfl, _, 1, rfl, rfl, l1000 (by show 2 ≤ 1000; decide), fun p np => ?_⟩
        refine ⟨.int (cyc n w0 j), rfl, .int n, rfl, rfl, .inr ⟨_, rfl, p, _, _, .int (cyc n w0 (j + 1)), rfl, rfl, sqL_of upd_same, ?_, s3.trans (same_new np), rfl⟩⟩
        by_cases z : cyc n w0 j = n
        · have e1 : cyc n w0 (j + 1) = 1 := by rw [cyc_succ h1, if_pos z]
          rw [e1, z, decide_eq_true rfl]
          rfl
        · have e1 : cyc n w0 (j + 1) = cyc n w0 j + 1 := by rw [cyc_succ h1, if_neg z]
          rw [e1, decide_eq_false fun q => z (V.int.inj q)]
          rfl
    · have c : ¬ cyc n w0 j ∈ placedR n (ws.take i) := fun z => c (decide_eq_true z)
      have hj0 : j = j0 := by
        by_cases z : j < j0
        · exact absurd ((L.occ _).mp (j4 j z)) c
        · omega
      subst hj0
      refine ⟨.ref d, rfl, .int (cyc n w0 j), rfl, d, _, rfl, DPut.k (k := .inl (cyc n w0 j)) ed' (small1000 (by omega)), ?_⟩
      have el2 : (upd H'' d (.dK (putK kvs (.inl (cyc n w0 j)) (.bl true)))) l = some (.lst ((placedR n (ws.take i)).map V.int)) := by rw [upd_ne ndl.symm]; exact el'
      refine ⟨.ref l, rfl, .inl ⟨rfl, _, sqL_of el2⟩, .int (cyc n w0 j), rfl, l, _, _, rfl, rfl, el2, by rw [List.length_map]; exact small1000 (by omega), ?_⟩
      refine ⟨⟨_, _, rfl⟩, ((s.trans s3).store nd).store nlH, ?_, ?_⟩
      · refine ⟨_, by rw [upd_ne ndl, upd_same], ?_, fun x => ?_⟩
        · rw [estep, List.length_append, List.length_singleton]
          exact Nat.le_trans (length_putK _ _ _) (by omega)
        · rw [valV_put, estep, hk]
          by_cases z : x = cyc n w0 j
          · subst z
            simp
          · have z2 : ¬ (Sum.inl x : Key) = .inl (cyc n w0 j) := fun e => z (Sum.inl.inj e)
            rw [if_neg z2]
            simp [z]
      · rw [upd_same, estep, List.map_append]
        rfl
  · rintro σ H' ⟨⟨y, z, rfl⟩, s, hd, el⟩
    rw [List.length_map, List.take_length] at el
    exact ⟨.ref l, rfl, q l H' nlH s el⟩
/-! ### what is refused by TooMany -/
structure RefF (K : PySem.W.Frag) (a : Ad) : Prop where
  ex : PySem.W.exmOne K (.ref a.e_TooMany) (.ref a.e_BerthError) = some true
  c : ExcC K a.e_TooMany
  k0 : PySem.W.kitAny K (.ref a.e_TooMany) [.ref a.e_NoCount, .ref a.e_NoQuay, .ref a.e_NoWishes] = some false
  k1 : PySem.W.kitOne K (.ref a.e_TooMany) (.ref a.e_TooMany) = some true
  k2 : PySem.W.kitOne K (.ref a.e_TooMany) (.type "ValueError") = some true
theorem kit3 {K : PySem.W.Frag} {t c1 c2 c3 : Value} (h1 : PySem.W.kitOne K t c1 = some false) (h2 : PySem.W.kitOne K t c2 = some false) (h3 : PySem.W.kitOne K t c3 = some false) : PySem.W.kitAny K t [c1, c2, c3] = some false :=
  kitAny_cons h1 (fun _ => kitAny_cons h2 (fun _ => kitAny_cons h3 (fun _ => rfl) (fun z => by cases z)) (fun z => by cases z)) (fun z => by cases z)
def S_act (K : PySem.W.Frag) (a : Ad) : Addr → Sp → Prop := fun f sp => (f = a.f_placed_round ∧ sp = sp_placed_round K a) ∨ (f = a.f_left_over ∧ sp = sp_left_over K a)
theorem A_act {P : Program} {w : World} {K : PySem.W.Frag} {mg : Str → Option Value} {base : Heap} {CX : CXT} {k1 k2 kk : Nat} {x1 x2 : Str} {ps1 ps2 : List Str} {a : Ad} (g1 : Cb P w K mg base CX k1 x1 a.f_placed_round ps1 (sp_placed_round K a))
    (g2 : Cb P w K mg base CX k2 x2 a.f_left_over ps2 (sp_left_over K a)) (h1 : k1 ≤ kk) (h2 : k2 ≤ kk) (f : Addr) (sp : Sp) (h : S_act K a f sp) : Hd P w K mg base CX kk f sp := by
  rcases h with ⟨rfl, rfl⟩ | ⟨rfl, rfl⟩
  · exact hd_of g1 h1
  · exact hd_of g2 h2
def sp_l_refused (K : PySem.W.Frag) (a : Ad) : Sp := fun vs H Q _ => ∃ (f : Addr) (b w : V) (sp : Sp), vs = [.ref f, b, w] ∧ S_act K a f sp ∧ (∀ (Q' : VK) (E' : XK), E' (.ref a.e_TooMany) none H → sp [b, w] H Q' E') ∧ ∀ H' : Hp, Same H H' → Q (.bl true) H'
abbrev N_l_refused : List Str := ["_law_act", "_law_berths", "_law_wishes_here", "_law_caught", "e"]
def t_l_refused (K : PySem.W.Frag) (a : Ad) : TS :=
  (tSeq (tAsg (tC .non) (gName 3))
    (tSeq (tTryKeep K a.e_BerthError 4 3 fun W => (tDrop (tCallD 0 (S_act K a) (WE W) (tCons (tVar 1) (tCons (tVar 2) tNil)))))
    (tSeq (tIfS (tB (tCB (rIsiTE K) (tCons (tVar 3) (tCons (tTup (tCons (tC (.ref a.e_NoCount)) (tCons (tC (.ref a.e_NoQuay)) (tCons (tC (.ref a.e_NoWishes)) tNil)))) tNil)))) (tRet (tC (.bl false))) tNext)
    (tRet (tAndV (tCB (rIsiE K) (tCons (tVar 3) (tCons (tC (.ref a.e_TooMany)) tNil))) (tCB (rIsiE K) (tCons (tVar 3) (tCons (tC (.ty "ValueError")) tNil))))))))
theorem len_l_refused {K : PySem.W.Frag} {a : Ad} {vs : List V} {H : Hp} {Q : VK} {E : XK} (h : sp_l_refused K a vs H Q E) : vs.length = 3 := by
  obtain ⟨f, b, w, sp, rfl, _⟩ := h
  rfl
theorem pu_l_refused {K : PySem.W.Frag} {a : Ad} (F : RefF K a) {vs : List V} {H : Hp} {Q : VK} {E : XK} (h : sp_l_refused K a vs H Q E) : t_l_refused K a { nx := fun _ H' => Q .non H', rt := Q } (start N_l_refused vs) H := by
  obtain ⟨f, b, w, sp, rfl, hS, hsp, q⟩ := h
  refine ⟨f, sp, rfl, hS, b, rfl, w, rfl, hsp _ _ ⟨F.ex, fun x nx => ?_⟩⟩
  have s1 : Same H (upd H x (ExK (.ref a.e_TooMany) none x)) := same_new nx
  refine ⟨.ref x, rfl, l1000 (by show 3 ≤ 1000; decide), fun tp ntp => ⟨.ref x, tp, _, _, _, false, rfl, upd_same, .cons (.own _) (.cons (.own _) (.cons (.own _) .nil)), .exc (same_new ntp _ _ upd_same) F.c, F.k0, false, rfl, iteF ?_⟩⟩
  refine ⟨.ref x, rfl, .ref x, _, _, _, true, rfl, .own _, .exc (same_new ntp _ _ upd_same) F.c, F.k1, true, rfl, iteT ?_⟩
  exact ⟨.ref x, rfl, .ref x, _, _, _, true, rfl, .ty _, .exc (same_new ntp _ _ upd_same) F.c, F.k2, q _ (s1.trans (same_new ntp))⟩

/-! ### a whole number -/
theorem kit_ii {K : PySem.W.Frag} : PySem.W.kitOne K (.type "int") (.type "int") = some true := kit_ty (by decide +kernel)
theorem kit_ib {K : PySem.W.Frag} : PySem.W.kitOne K (.type "int") (.type "bool") = some false := kit_ty (by decide +kernel)
theorem kit_ll {K : PySem.W.Frag} : PySem.W.kitOne K (.type "list") (.type "list") = some true := kit_ty (by decide +kernel)
/-! ### the law: round, and turned -/
theorem turn_is {n : Nat} {k x : Int} : (x + k - 1) % (n : Int) + 1 = turn n k x := by
  unfold turn
  rw [show x + k - 1 = x - 1 + k by omega]
theorem lc_turn {K : PySem.W.Frag} {j n : Nat} {k : Int} {tl : TE} {σ : L2.St} {H : Hp} {Q : VK} {p : Addr} {ws : List Int} (hn0 : 1 ≤ n) (ht : ∀ Q' : VK, Q' (.ref p) H → tl σ H Q') (hp : SqL K H p (ws.map V.int)) (hl : ws.length ≤ 400)
    (hj : ∀ v : V, ((wipe σ [j]).set j (some v))[j]? = some (some v)) (hn : ∀ v : V, ((wipe σ [j]).set j (some v))[1]? = some (some (.int n))) (hk : ∀ v : V, ((wipe σ [j]).set j (some v))[3]? = some (some (.int k)))
    (hw : ∀ v : V, wipe ((wipe σ [j]).set j (some v)) [j] = wipe σ [j])
    (q : ∀ (l : Addr) (H' : Hp), H l = none → Same H H' → H' l = some (.lst ((ws.map (turn n k)).map V.int)) → Q (.ref l) H') :
    (tLc (iList K tl) (gName j) tYes (tOp rAddI (tOp rModI (tOp rSubI (tOp rAddI (tVar j) (tVar 3)) (tC (.int 1))) (tVar 1)) (tC (.int 1))) [j]) σ H Q := by
  refine ht _ ⟨p, rfl, ⟨_, hp⟩, lc_pure (walk_list (K := K) (a := p) (xs := ws.map V.int)) (by rw [List.length_map]; exact small1000 (by omega)) ws (by rw [List.length_map]) (fun _ => true) (fun x => V.int (turn n k x)) (fun H' s' => s'.seq hp) ?_ ?_⟩
  · intro i x v H5 H6 R hx2 s5 hy kk
    obtain ⟨rfl, hv⟩ := hy
    rw [List.getElem?_map, hx2] at hv
    cases hv
    refine ⟨hw _, ?_⟩
    refine iteT (B := R false .non H6) ⟨.int x, hj _, .int k, hk _, x, k, rfl, rfl, _, 1, rfl, rfl, .int n, hn _, _, n, rfl, rfl, (by show (0 : Int) < n; omega), _, 1, rfl, rfl, ?_⟩
    have z : R true (.int ((x + k - 1) % (n : Int) + 1)) H6 := by
      rw [turn_is]
      exact kk _ _ (Same.refl _) fun _ => rfl
    exact z
  · intro D H2 nD s2 eD
    rw [List.filter_eq_self.mpr (fun _ _ => rfl)] at eD
    exact q D H2 nD s2 (by rw [eD, List.map_map]; rfl)
theorem lc_turnS {K : PySem.W.Frag} {i j n : Nat} {k : Int} {tl : TE} {r : TS} {D : Ends} {σ : L2.St} {H : Hp} {p : Addr} {ws : List Int} (hn0 : 1 ≤ n) (ht : ∀ Q' : VK, Q' (.ref p) H → tl σ H Q') (hp : SqL K H p (ws.map V.int)) (hl : ws.length ≤ 400)
    (hj : ∀ v : V, ((wipe σ [j]).set j (some v))[j]? = some (some v)) (hn : ∀ v : V, ((wipe σ [j]).set j (some v))[1]? = some (some (.int n))) (hk : ∀ v : V, ((wipe σ [j]).set j (some v))[3]? = some (some (.int k)))
    (hw : ∀ v : V, wipe ((wipe σ [j]).set j (some v)) [j] = wipe σ [j])
    (q : ∀ (l : Addr) (H' : Hp), H l = none → Same H H' → H' l = some (.lst ((ws.map (turn n k)).map V.int)) → r D (σ.set i (some (.ref l))) H') :
    tSeq (tAsg (tLc (iList K tl) (gName j) tYes (tOp rAddI (tOp rModI (tOp rSubI (tOp rAddI (tVar j) (tVar 3)) (tC (.int 1))) (tVar 1)) (tC (.int 1))) [j]) (gName i)) r D σ H := by
  change (tLc (iList K tl) (gName j) tYes (tOp rAddI (tOp rModI (tOp rSubI (tOp rAddI (tVar j) (tVar 3)) (tC (.int 1))) (tVar 1)) (tC (.int 1))) [j]) σ H (fun x H1 => r D (σ.set i (some x)) H1)
  exact lc_turn (Q := fun x H1 => r D (σ.set i (some x)) H1) hn0 ht hp hl hj hn hk hw q
theorem lc_turnSo {K : PySem.W.Frag} {j n : Nat} {k : Int} {tl : TE} {σ : L2.St} {H : Hp} {Q : VK} {p : Addr} {ws : List Int} (hn0 : 1 ≤ n) (ht : ∀ Q' : VK, Q' (.ref p) H → tl σ H Q') (hp : SqL K H p (ws.map V.int)) (hl : ws.length ≤ 400)
    (hj : ∀ v : V, ((wipe σ [j]).set j (some v))[j]? = some (some v)) (hn : ∀ v : V, ((wipe σ [j]).set j (some v))[1]? = some (some (.int n))) (hk : ∀ v : V, ((wipe σ [j]).set j (some v))[3]? = some (some (.int k)))
    (hw : ∀ v : V, wipe ((wipe σ [j]).set j (some v)) [j] = wipe σ [j])
    (q : ∀ (l : Addr) (H' : Hp), H l = none → Same H H' → H' l = some (.lst ((sortI (ws.map (turn n k))).map V.int)) → Q (.ref l) H') :
    (tCB (rSortedI K) (tCons (tLc (iList K tl) (gName j) tYes (tOp rAddI (tOp rModI (tOp rSubI (tOp rAddI (tVar j) (tVar 3)) (tC (.int 1))) (tVar 1)) (tC (.int 1))) [j]) tNil)) σ H Q := by
  change (tLc (iList K tl) (gName j) tYes (tOp rAddI (tOp rModI (tOp rSubI (tOp rAddI (tVar j) (tVar 3)) (tC (.int 1))) (tVar 1)) (tC (.int 1))) [j]) σ H (fun x H1 => rSortedI K [x] H1 Q)
  refine lc_turn (Q := fun x H1 => rSortedI K [x] H1 Q) hn0 ht hp hl hj hn hk hw fun lt H15 nlt s15 elt => ⟨lt, _, rfl, sqL_of elt, fun ns' p' hp hs' np => ?_⟩
  rw [sortI_uniq hp hs']
  exact q p' _ (s15.free np) (s15.trans (same_new np)) upd_same
theorem l_by {K : PySem.W.Frag} {s : Addr} {ns : List Int} {σ : L2.St} {H : Hp} {Q : VK} (h0 : σ[0]? = some (some (.ref s))) (hs : SqL K H s (ns.map V.int)) (q : ∀ k : Int, Q (.int k) H) :
    (tOp rSubI (tOp rModI (tCall (sp_l_cell_at K) [] E0 (tCons (tVar 0) (tCons (tC (.int 0)) tNil))) (tOp rMulI (tC (.int 2)) (tOp rPowI (tC (.int 10)) (tC (.int 60))))) (tOp rPowI (tC (.int 10)) (tC (.int 60)))) σ H Q := by
  have cp : CPow 10 60 := ⟨by decide, by decide, by decide⟩
  refine ⟨.ref s, h0, s, ns, 0, rfl, hs, Int.le_refl _, 10, 60, rfl, rfl, cp, 2, _, rfl, rfl, .inl ⟨by decide, by decide⟩, _, _, rfl, rfl, ?_, 10, 60, rfl, rfl, cp, _, _, rfl, rfl, q _⟩
  show (0 : Int) < 2 * 10 ^ (60 : Int).toNat
  exact Int.mul_pos (by decide) (Int.pow_pos (by decide))
theorem flat_rep (n : Nat) (x : Int) : (List.replicate n [V.int x]).flatten = (List.replicate n x).map V.int := by
  induction n with
  | zero => rfl
  | succ n ih => rw [List.replicate_succ, List.replicate_succ, List.flatten_cons, ih]; rfl
theorem cut_take (xs : List V) (k : Nat) : cutV xs none (some (k : Int)) = xs.take k := by
  unfold cutV
  rw [HT.sIx_nat, HT.sIx_none, List.drop_zero, Nat.sub_zero]
  by_cases h : k ≤ xs.length
  · rw [Nat.min_eq_left h]
  · rw [Nat.min_eq_right (by omega), List.take_of_length_le (Nat.le_refl _), List.take_of_length_le (by omega)]
theorem more_is {n : Nat} {ws : List Int} : cutV (ws.map V.int ++ (List.replicate ((n : Int)).toNat [V.int 1]).flatten) none (some (n : Int)) ++ [V.int 1] = ((ws ++ List.replicate n 1).take n ++ [1]).map V.int := by
  rw [cut_take, show ((n : Int)).toNat = n by omega, flat_rep, List.map_append, ← List.map_append, List.map_take]
  rfl
def sp_law (K : PySem.W.Frag) : Sp := fun vs H Q _ => ∃ (s : Addr) (ns : List Int), vs = [.ref s] ∧ SqL K H s (ns.map V.int) ∧ ns.length ≤ 63 ∧ ∀ H', Q (.bl true) H'
abbrev N_law : List Str := ["_law_script", "_law_berths", "_law_wishes_here", "_law_by", "_law_due", "_law_handed", "_law_found", "_law_rest", "_law_other", "_law_moved", "_law_more", "_law_act", "_law_berth", "_law_wish"]
def t_law (K : PySem.W.Frag) (a : Ad) : TS :=
  (tSeq (tAsg (tCall (sp_l_quay K) [] E0 (tCons (tVar 0) tNil)) (gName 1))
    (tSeq (tAsg (tCall (sp_l_wishes K) [] E0 (tCons (tVar 0) (tCons (tVar 1) (tCons (tVar 1) tNil)))) (gName 2))
    (tSeq (tAsg (tOp rSubI (tOp rModI (tCall (sp_l_cell_at K) [] E0 (tCons (tVar 0) (tCons (tC (.int 0)) tNil))) (tOp rMulI (tC (.int 2)) (tOp rPowI (tC (.int 10)) (tC (.int 60))))) (tOp rPowI (tC (.int 10)) (tC (.int 60)))) (gName 3))
    (tSeq (tAsg (tCall (sp_l_round K) [] E0 (tCons (tVar 1) (tCons (tVar 2) tNil))) (gName 4))
    (tSeq (tAsg (tCB (rListOf K) (tCons (tVar 2) tNil)) (gName 5))
    (tSeq (tAsg (tCall (sp_placed_round K a) [] E0 (tCons (tVar 1) (tCons (tVar 5) tNil))) (gName 6))
    (tSeq (tAsg (tCall (sp_left_over K a) [] E0 (tCons (tVar 1) (tCons (tCB (rTupleOf K) (tCons (tVar 2) tNil)) tNil))) (gName 7))
    (tSeq (tIfS (tOr (tNot (tB (tCB (rIsi K) (tCons (tVar 6) (tCons (tC (.ty "list")) tNil))))) (tOr (tTest (tOp (rNeT K) (tVar 6) (tVar 4))) (tOr (tTest (tOp (rNeT K) (tVar 5) (tVar 2))) (tNot (tB (tCB (rIsi K) (tCons (tVar 7) (tCons (tC (.ty "list")) tNil)))))))) (tRet (tC (.bl false))) tNext)
    (tSeq (tIfS (tTest (tOp (rNeT K) (tVar 7) (tLc (iRng2 (tCons (tC (.int 1)) (tCons (tOp rAddI (tVar 1) (tC (.int 1))) tNil))) (gName 12) (tTest (tOp (rIn K true) (tVar 12) (tVar 4))) (tVar 12) [12]))) (tRet (tC (.bl false))) tNext)
    (tSeq (tAsg (tCall (sp_turned K a) [] E0 (tCons (tVar 1) (tCons (tVar 5) (tCons (tVar 3) tNil)))) (gName 8))
    (tSeq (tAsg (tLc (iList K (tVar 2)) (gName 13) tYes (tOp rAddI (tOp rModI (tOp rSubI (tOp rAddI (tVar 13) (tVar 3)) (tC (.int 1))) (tVar 1)) (tC (.int 1))) [13]) (gName 9))
    (tSeq (tIfS (tOr (tNot (tB (tCB (rIsi K) (tCons (tVar 8) (tCons (tC (.ty "list")) tNil))))) (tOr (tTest (tOp (rNeT K) (tVar 8) (tVar 9))) (tTest (tOp (rNeT K) (tVar 5) (tVar 2))))) (tRet (tC (.bl false))) tNext)
    (tSeq (tIfS (tTest (tOp (rNeT K) (tCall (sp_placed_round K a) [] E0 (tCons (tVar 1) (tCons (tVar 8) tNil))) (tLc (iList K (tVar 4)) (gName 12) tYes (tOp rAddI (tOp rModI (tOp rSubI (tOp rAddI (tVar 12) (tVar 3)) (tC (.int 1))) (tVar 1)) (tC (.int 1))) [12]))) (tRet (tC (.bl false))) tNext)
    (tSeq (tIfS (tTest (tOp (rNeT K) (tCall (sp_left_over K a) [] E0 (tCons (tVar 1) (tCons (tVar 8) tNil))) (tCB (rSortedI K) (tCons (tLc (iList K (tVar 7)) (gName 12) tYes (tOp rAddI (tOp rModI (tOp rSubI (tOp rAddI (tVar 12) (tVar 3)) (tC (.int 1))) (tVar 1)) (tC (.int 1))) [12]) tNil)))) (tRet (tC (.bl false))) tNext)
    (tSeq (tAsg (tOp rCat (tSl (rSlL K) (tOp rCat (tVar 2) (tOp rRep (tLst (tCons (tC (.int 1)) tNil)) (tVar 1))) tNoPart (tPart (tVar 1))) (tLst (tCons (tC (.int 1)) tNil))) (gName 10))
    (tSeq (tFor (iList K (tLst (tCons (tC (.ref a.f_placed_round)) (tCons (tC (.ref a.f_left_over)) tNil)))) (gName 11)
    (tIfS (tAnd (tTest (tOp rLtI (tVar 1) (tC (.int 400)))) (tNot (tB (tCall (sp_l_refused K a) [] E0 (tCons (tVar 11) (tCons (tVar 1) (tCons (tVar 10) tNil))))))) (tRet (tC (.bl false))) tNext))
    (tSeq (tDrop (tBM0 K "list" rClear (tVar 6)))
    (tSeq (tDrop (tBM K "list" rAppend (tVar 7) (tCons (tC (.int 0)) tNil)))
    (tSeq (tDrop (tBM K "list" rAppend (tVar 8) (tCons (tC (.int 0)) tNil)))
    (tRet (tAndV (tOp (rEqT K) (tCall (sp_placed_round K a) [] E0 (tCons (tVar 1) (tCons (tVar 2) tNil))) (tVar 4)) (tOp (rEqT K) (tCall (sp_turned K a) [] E0 (tCons (tVar 1) (tCons (tCB (rTupleOf K) (tCons (tVar 2) tNil)) (tCons (tVar 3) tNil)))) (tVar 9)))))))))))))))))))))))
theorem len_law {K : PySem.W.Frag} {vs : List V} {H : Hp} {Q : VK} {E : XK} (h : sp_law K vs H Q E) : vs.length = 1 := by
  obtain ⟨s, ns, rfl, _⟩ := h
  rfl
theorem pu_law {K : PySem.W.Frag} {a : Ad} {vs : List V} {H : Hp} {Q : VK} {E : XK} (h : sp_law K vs H Q E) : t_law K a { nx := fun _ H' => Q .non H', rt := Q } (start N_law vs) H := by
  obtain ⟨s, ns, rfl, hs, hl, q⟩ := h
  refine ⟨.ref s, rfl, s, ns, rfl, hs, fun n H1 n1 n2 s1 => ?_⟩
  refine ⟨.ref s, rfl, .int n, rfl, .int n, rfl, s, ns, n, n, rfl, s1.seq hs, n1, n2, by omega, hl, fun p H2 ws np2 s2 ep hb hw hm => ?_⟩
  have hw4 : ws.length ≤ 400 := by omega
  have hln : ws.length ≤ n := by omega
  refine l_by (K := K) (s := s) (ns := ns) rfl ((s1.trans s2).seq hs) fun k => ?_
  -- due, handed
  refine ⟨.int n, rfl, .ref p, rfl, n, p, ws, rfl, sqL_of ep, n1, n2, hln, hb, fun due H3 nd3 s3 ed => ?_⟩
  have ep3 := s3 _ _ ep
  refine ⟨.ref p, rfl, p, _, rfl, .inl (sqL_of ep3), fun hd nhd => ?_⟩
  have s4 := same_new nhd (o := .lst (ws.map V.int))
  -- found, rest
  refine ⟨.int n, rfl, .ref hd, rfl, _, _, rfl, ChkW.ok n1 n2 (.inl (sqL_of upd_same)) hw4 hb (.inr ⟨hln, fun fo H5 nf5 s5 ef => ?_⟩)⟩
  have ed5 := s5 _ _ (s4 _ _ ed)
  have ep5 := s5 _ _ (s4 _ _ ep3)
  have eh5 : H5 hd = some (.lst (ws.map V.int)) := s5 _ _ upd_same
  refine ⟨.int n, rfl, .ref p, rfl, p, _, rfl, .inl ⟨sqL_of ep5, fun tu ntu => ?_⟩⟩
  have s6 := same_new ntu (o := .tup (ws.map V.int))
  refine ⟨_, _, rfl, ChkW.ok n1 n2 (.inr (sqT_of upd_same)) hw4 hb (.inr ⟨hln, fun re H7 nr7 s7 er => ?_⟩)⟩
  have s67 := s6.trans s7
  have ed7 := s67 _ _ ed5
  have ep7 := s67 _ _ ep5
  have eh7 := s67 _ _ eh5
  have ef7 := s67 _ _ ef
  -- the first test
  refine ⟨.ref fo, rfl, .ref fo, _, _, _, true, rfl, .ty _, .base (.lst ef7), kit_ll, true, rfl, iteF ?_⟩
  refine ⟨.ref fo, rfl, .ref due, rfl, neT_of (ho_ints (sqL_of ef7)) (ho_ints (sqL_of ed7)) (by decide) ⟨_, rfl, ?_⟩⟩
  rw [decide_eq_false (fun z => z rfl)]
  refine iteF ⟨.ref hd, rfl, .ref p, rfl, neT_of (ho_ints (sqL_of eh7)) (ho_ints (sqL_of ep7)) (by decide) ⟨_, rfl, ?_⟩⟩
  rw [decide_eq_false (fun z => z rfl)]
  refine iteF ⟨.ref re, rfl, .ref re, _, _, _, true, rfl, .ty _, .base (.lst er), kit_ll, true, rfl, iteF ?_⟩
  -- the berths left
  have en : ((n : Int) + 1 - 1).toNat = n := by omega
  refine ⟨.ref re, rfl, .int n, rfl, n, 1, rfl, rfl, 1, (n : Int) + 1, rfl, ⟨by omega, by omega, by omega, by omega⟩, ?_⟩
  rw [en]
  refine lc_pure (walk_range (lo := 1) (n := n)) (small1000 (by omega)) (allB n) (by simp [allB]) (fun x => !decide (x ∈ placedR n ws)) V.int (fun _ _ => trivial) ?_ ?_
  · intro j x v H5 H6 R hx2 s5 hy k
    obtain ⟨rfl, hv⟩ := hy
    have ev := allB_at hx2
    replace hv : v = .int (1 + (j : Int)) := hv
    rw [← ev] at hv
    subst hv
    refine ⟨rfl, .int x, rfl, .ref due, rfl, due, _, rfl, .inl (sqL_of (s5 _ _ ed7)), rfl, flat_ints, _, rfl, ?_⟩
    rw [if_pos rfl, inV_ints]
    have kk := k (.int x) _ (Same.refl _) fun _ => rfl
    cases e : (!decide (x ∈ placedR n ws)) with
    | true =>
      rw [e] at kk
      exact iteT ⟨.int x, rfl, kk⟩
    | false =>
      have kk := k .non _ (Same.refl _) fun z => by rw [e] at z; cases z
      rw [e] at kk
      exact iteF kk
  intro lf H8 nl8 s8 el8
  refine neT_of (a := leftR n ws) (b := leftR n ws) (ho_ints (sqL_of (s8 _ _ er))) (ho_ints (sqL_of el8)) (by decide) ⟨_, rfl, ?_⟩
  rw [decide_eq_false (fun z => z rfl)]
  refine iteF ?_
  have ed8 := s8 _ _ ed7
  have ep8 := s8 _ _ ep7
  have eh8 := s8 _ _ eh7
  have er8 := s8 _ _ er
  have ef8 := s8 _ _ ef7
  -- turned
  refine ⟨.int n, rfl, .ref hd, rfl, .int k, rfl, _, _, _, rfl, ChkW.ok n1 n2 (.inl (sqL_of eh8)) hw4 hb ⟨_, .int k, .inr ⟨k, rfl, fun ot H10 not s10 eot => ?_⟩⟩⟩
  change (tSeq (tAsg (tLc (iList K (tVar 2)) (gName 13) tYes (tOp rAddI (tOp rModI (tOp rSubI (tOp rAddI (tVar 13) (tVar 3)) (tC (.int 1))) (tVar 1)) (tC (.int 1))) [13]) (gName 9)) _) _ _ _
  refine lc_turnS (n := n) (k := k) (p := p) (ws := ws) n1 (fun Q' q' => ⟨.ref p, rfl, q'⟩) (sqL_of (s10 _ _ ep8)) hw4 (fun _ => rfl) (fun _ => rfl) (fun _ => rfl) (fun _ => rfl) fun mo H11 nmo s11 emo => ?_
  have s1011 := s10.trans s11
  have ed11 := s1011 _ _ ed8
  have ep11 := s1011 _ _ ep8
  have eh11 := s1011 _ _ eh8
  have er11 := s1011 _ _ er8
  have ef11 := s1011 _ _ ef8
  have eot11 := s11 _ _ eot
  refine ⟨.ref ot, rfl, .ref ot, _, _, _, true, rfl, .ty _, .base (.lst eot11), kit_ll, true, rfl, iteF ?_⟩
  refine ⟨.ref ot, rfl, .ref mo, rfl, neT_of (ho_ints (sqL_of eot11)) (ho_ints (sqL_of emo)) (by decide) ⟨_, rfl, ?_⟩⟩
  rw [decide_eq_false (fun z => z rfl)]
  refine iteF ⟨.ref hd, rfl, .ref p, rfl, neT_of (ho_ints (sqL_of eh11)) (ho_ints (sqL_of ep11)) (by decide) ⟨_, rfl, ?_⟩⟩
  rw [decide_eq_false (fun z => z rfl)]
  refine iteF ?_
  -- turned ships lie so far round
  have hbt : ∀ x ∈ ws.map (turn n k), 1 ≤ x ∧ x ≤ n := fun x hx => by
    obtain ⟨y, _, rfl⟩ := List.mem_map.mp hx
    exact turn_bd n1 _ _
  have hlt : (ws.map (turn n k)).length ≤ n := by rw [List.length_map]; exact hln
  have hlt4 : (ws.map (turn n k)).length ≤ 400 := by omega
  refine ⟨.int n, rfl, .ref ot, rfl, _, _, rfl, ChkW.ok n1 n2 (.inl (sqL_of eot11)) hlt4 hbt (.inr ⟨hlt, fun po H12 npo s12 epo => ?_⟩)⟩
  rw [turned_placed n1 hb hln] at epo
  change (tLc (iList K (tVar 4)) (gName 12) tYes (tOp rAddI (tOp rModI (tOp rSubI (tOp rAddI (tVar 12) (tVar 3)) (tC (.int 1))) (tVar 1)) (tC (.int 1))) [12]) _ _ _
  refine lc_turn (n := n) (k := k) (p := due) (ws := placedR n ws) n1 (fun Q' q' => ⟨.ref due, rfl, q'⟩) (sqL_of (s12 _ _ ed11)) (by rw [placedR_len]; exact hw4) (fun _ => rfl) (fun _ => rfl) (fun _ => rfl) (fun _ => rfl) fun dt H13 ndt s13 edt => ?_
  refine neT_of (a := (placedR n ws).map (turn n k)) (b := (placedR n ws).map (turn n k)) (ho_ints (sqL_of (s13 _ _ epo))) (ho_ints (sqL_of edt)) (by decide) ⟨_, rfl, ?_⟩
  rw [decide_eq_false (fun z => z rfl)]
  refine iteF ?_
  have s1213 := s12.trans s13
  have eot13 := s1213 _ _ eot11
  have er13 := s1213 _ _ er11
  refine ⟨.int n, rfl, .ref ot, rfl, _, _, rfl, ChkW.ok n1 n2 (.inl (sqL_of eot13)) hlt4 hbt (.inr ⟨hlt, fun lo H14 nlo s14 elo => ?_⟩)⟩
  rw [turned_left n1 hb hln] at elo
  have hleft := left_len hb hln
  change (tCB (rSortedI K) (tCons (tLc (iList K (tVar 7)) (gName 12) tYes (tOp rAddI (tOp rModI (tOp rSubI (tOp rAddI (tVar 12) (tVar 3)) (tC (.int 1))) (tVar 1)) (tC (.int 1))) [12]) tNil)) _ _ _
  refine lc_turnSo (n := n) (k := k) (p := re) (ws := leftR n ws) n1 (fun Q' q' => ⟨.ref re, rfl, q'⟩) (sqL_of (s14 _ _ er13)) (by omega) (fun _ => rfl) (fun _ => rfl) (fun _ => rfl) (fun _ => rfl) fun p' H16 np s16 esp => ?_
  refine neT_of (a := sortI ((leftR n ws).map (turn n k))) (b := sortI ((leftR n ws).map (turn n k))) (ho_ints (sqL_of (s16 _ _ elo))) (ho_ints (sqL_of esp)) (by decide) ⟨_, rfl, ?_⟩
  rw [decide_eq_false (fun z => z rfl)]
  refine iteF ?_
  have s1116 := (s1213.trans s14).trans s16
  have ed16 := s1116 _ _ ed11
  have ep16 := s1116 _ _ ep11
  have er16 := s1116 _ _ er11
  have ef16 := s1116 _ _ ef11
  have eot16 := s1116 _ _ eot11
  have emo16 := s1116 _ _ emo
  -- more wishes than berths
  refine ⟨.ref p, rfl, l1000 (by show 1 ≤ 1000; decide), fun l0 nl0 => ⟨.int n, rfl, l0, n, _, rfl, rfl, upd_same, by omega, by omega, ?_, fun l1 nl1 => ?_⟩⟩
  · refine l1000 ?_
    show 1 * _ ≤ _
    omega
  have t0 := same_new nl0 (o := .lst [.int 1])
  have t1 := t0.store (t0.free nl1) (o := .lst (List.replicate ((n : Int)).toNat [V.int 1]).flatten)
  refine ⟨p, l1, _, _, rfl, rfl, t1 _ _ ep16, upd_same, ?_, fun l2 nl2 => ?_⟩
  · refine l1000 ?_
    rw [flat_rep, List.length_map, List.length_map, List.length_replicate]
    omega
  have t2 := t1.store (t1.free nl2) (o := .lst (ws.map V.int ++ (List.replicate ((n : Int)).toNat [V.int 1]).flatten))
  refine ⟨.int n, rfl, n, rfl, l2, _, rfl, sqL_of upd_same, fun l3 nl3 => ?_⟩
  have t3 := t2.store (t2.free nl3) (o := .lst (cutV (ws.map V.int ++ (List.replicate ((n : Int)).toNat [V.int 1]).flatten) none (some (n : Int))))
  refine ⟨l1000 (by show 1 ≤ 1000; decide), fun l4 nl4 => ?_⟩
  have t4 := t3.store (t3.free nl4) (o := .lst [.int 1])
  refine ⟨l3, l4, _, _, rfl, rfl, same_new nl4 _ _ upd_same, upd_same, ?_, fun m nm => ?_⟩
  · refine l1000 ?_
    have := cutV_length (ws.map V.int ++ (List.replicate ((n : Int)).toNat [V.int 1]).flatten) none (some (n : Int))
    rw [List.length_append, flat_rep, List.length_map, List.length_map, List.length_replicate] at this
    show _ + 1 ≤ _
    rw [flat_rep]
    omega
  rw [more_is]
  have t5 := t4.store (t4.free nm) (o := .lst (((ws ++ List.replicate n 1).take n ++ [1]).map V.int))
  have em : (upd (upd (upd (upd (upd (upd H16 l0 (.lst [.int 1])) l1 (.lst (List.replicate ((n : Int)).toNat [V.int 1]).flatten)) l2 (.lst (ws.map V.int ++ (List.replicate ((n : Int)).toNat [V.int 1]).flatten))) l3 (.lst (cutV (ws.map V.int ++ (List.replicate ((n : Int)).toNat [V.int 1]).flatten) none (some (n : Int))))) l4 (.lst [.int 1])) m (.lst (((ws ++ List.replicate n 1).take n ++ [1]).map V.int))) m = some (.lst (((ws ++ List.replicate n 1).take n ++ [1]).map V.int)) := upd_same
  generalize (upd (upd (upd (upd (upd (upd H16 l0 (.lst [.int 1])) l1 (.lst (List.replicate ((n : Int)).toNat [V.int 1]).flatten)) l2 (.lst (ws.map V.int ++ (List.replicate ((n : Int)).toNat [V.int 1]).flatten))) l3 (.lst (cutV (ws.map V.int ++ (List.replicate ((n : Int)).toNat [V.int 1]).flatten) none (some (n : Int))))) l4 (.lst [.int 1])) m (.lst (((ws ++ List.replicate n 1).take n ++ [1]).map V.int))) = H17 at *
  have hmb : ∀ x ∈ ((ws ++ List.replicate n (1 : Int)).take n ++ [(1 : Int)]), (1 : Int) ≤ x ∧ x ≤ n := fun x hx => by
    rcases List.mem_append.mp hx with z | z
    · rcases List.mem_append.mp (List.mem_of_mem_take z) with z | z
      · exact hb x z
      · rw [(List.mem_replicate.mp z).2]
        omega
    · rw [List.mem_singleton.mp z]
      omega
  have hml : ((ws ++ List.replicate n (1 : Int)).take n ++ [(1 : Int)]).length = n + 1 := by
    rw [List.length_append, List.length_take, List.length_append, List.length_replicate, List.length_singleton]
    omega
  generalize ((ws ++ List.replicate n (1 : Int)).take n ++ [(1 : Int)]) = w2 at *
  refine ⟨l1000 (by show 2 ≤ 1000; decide), fun la nla => ?_⟩
  have t6 := same_new nla (o := .lst [.ref a.f_placed_round, .ref a.f_left_over])
  refine ⟨la, rfl, ⟨_, sqL_of upd_same⟩, for_list (K := K) (a := la) (xs := [.ref a.f_placed_round, .ref a.f_left_over]) (fun i σ H' => (∃ y, σ = [some (.ref s), some (.int n), some (.ref p), some (.int k), some (.ref due), some (.ref hd), some (.ref fo), some (.ref re), some (.ref ot), some (.ref mo), some (.ref m), y, none, none]) ∧ Same H17 H' ∧ H' la = some (.lst [.ref a.f_placed_round, .ref a.f_left_over])) ⟨⟨none, rfl⟩, t6, upd_same⟩ (fun i σ H' _ z => sqL_of z.2.2) ?_ ?_⟩
  · rintro i x σ H' hx ⟨⟨y, rfl⟩, u1, u2⟩
    have hx2 : ∃ f sp, x = .ref f ∧ S_act K a f sp ∧ ∀ (Q' : VK) (E' : XK), n < 400 → E' (.ref a.e_TooMany) none H' → sp [.int n, .ref m] H' Q' E' := by
      have c1 : n < 400 → w2.length ≤ 400 := fun z => by omega
      match i, hx with
      | 0, hx => cases hx; exact ⟨_, _, rfl, .inl ⟨rfl, rfl⟩, fun Q' E' z e => ⟨_, _, rfl, ChkW.ok n1 n2 (.inl (sqL_of (u1 _ _ em))) (c1 z) hmb (.inl ⟨by omega, e⟩)⟩⟩
      | 1, hx => cases hx; exact ⟨_, _, rfl, .inr ⟨rfl, rfl⟩, fun Q' E' z e => ⟨_, _, rfl, ChkW.ok n1 n2 (.inl (sqL_of (u1 _ _ em))) (c1 z) hmb (.inl ⟨by omega, e⟩)⟩⟩
      | i + 2, hx => cases hx
    obtain ⟨f, sp, rfl, hS, hsp⟩ := hx2
    refine ⟨.int n, rfl, n, 400, rfl, rfl, _, rfl, ite2 (fun c => ?_) (fun c => ?_)⟩
    · have c : (n : Int) < 400 := of_decide_eq_true c
      refine ⟨.ref f, rfl, .int n, rfl, .ref m, rfl, f, _, _, sp, rfl, hS, fun Q' E' e => hsp Q' E' (by omega) e, fun H'' s'' => ⟨true, rfl, iteF ⟨⟨_, rfl⟩, u1.trans s'', s'' _ _ u2⟩⟩⟩
    · exact iteF ⟨⟨_, rfl⟩, u1, u2⟩
  rintro σ H' ⟨⟨y, rfl⟩, u1, u2⟩
  have v17 := t5.trans u1
  have ed18 := v17 _ _ ed16
  have ep18 := v17 _ _ ep16
  have er18 := v17 _ _ er16
  have ef18 := v17 _ _ ef16
  have eot18 := v17 _ _ eot16
  have emo18 := v17 _ _ emo16
  -- what was handed out is the asker's own
  have d1 : due ≠ fo := ne_of_none (s4 _ _ ed) nf5
  have d2 : due ≠ re := ne_of_none (s6 _ _ ed5) nr7
  have d3 : due ≠ ot := ne_of_none ed8 not
  have p1 : p ≠ fo := ne_of_none (s4 _ _ ep3) nf5
  have p2 : p ≠ re := ne_of_none (s6 _ _ ep5) nr7
  have p3 : p ≠ ot := ne_of_none ep8 not
  have r1 : re ≠ fo := (ne_of_none (s6 _ _ ef) nr7).symm
  have o1 : ot ≠ fo := (ne_of_none ef8 not).symm
  have o2 : ot ≠ re := (ne_of_none er8 not).symm
  have m1 : mo ≠ fo := (ne_of_none (s10 _ _ ef8) nmo).symm
  have m2 : mo ≠ re := (ne_of_none (s10 _ _ er8) nmo).symm
  have m3 : mo ≠ ot := (ne_of_none eot nmo).symm
  refine ⟨.ref fo, rfl, .inl ⟨rfl, _, sqL_of ef18⟩, fo, _, rfl, rfl, ef18, ?_⟩
  have er19 : (upd H' fo (.lst [])) re = some (.lst ((leftR n ws).map V.int)) := by rw [upd_ne r1]; exact er18
  refine ⟨.ref re, rfl, .inl ⟨rfl, _, sqL_of er19⟩, re, _, _, rfl, rfl, er19, by rw [List.length_map]; exact small1000 (by omega), ?_⟩
  have eo20 : (upd (upd H' fo (.lst [])) re (.lst ((leftR n ws).map V.int ++ [.int 0]))) ot = some (.lst ((ws.map (turn n k)).map V.int)) := by rw [upd_ne o2, upd_ne o1]; exact eot18
  refine ⟨.ref ot, rfl, .inl ⟨rfl, _, sqL_of eo20⟩, ot, _, _, rfl, rfl, eo20, by rw [List.length_map]; exact small1000 (by omega), ?_⟩
  have ed21 : (upd (upd (upd H' fo (.lst [])) re (.lst ((leftR n ws).map V.int ++ [.int 0]))) ot (.lst ((ws.map (turn n k)).map V.int ++ [.int 0]))) due = some (.lst ((placedR n ws).map V.int)) := by rw [upd_ne d3, upd_ne d2, upd_ne d1]; exact ed18
  have ep21 : (upd (upd (upd H' fo (.lst [])) re (.lst ((leftR n ws).map V.int ++ [.int 0]))) ot (.lst ((ws.map (turn n k)).map V.int ++ [.int 0]))) p = some (.lst (ws.map V.int)) := by rw [upd_ne p3, upd_ne p2, upd_ne p1]; exact ep18
  have em21 : (upd (upd (upd H' fo (.lst [])) re (.lst ((leftR n ws).map V.int ++ [.int 0]))) ot (.lst ((ws.map (turn n k)).map V.int ++ [.int 0]))) mo = some (.lst ((ws.map (turn n k)).map V.int)) := by rw [upd_ne m3, upd_ne m2, upd_ne m1]; exact emo18
  -- the answer
  refine ⟨.int n, rfl, .ref p, rfl, _, _, rfl, ChkW.ok n1 n2 (.inl (sqL_of ep21)) hw4 hb (.inr ⟨hln, fun f2 H22 nf2 s22 ef2 => ?_⟩)⟩
  have ep22 := s22 _ _ ep21
  refine ⟨.ref due, rfl, eqT_of (ho_ints (sqL_of ef2)) (ho_ints (sqL_of (s22 _ _ ed21))) (by decide) ⟨_, rfl, ?_⟩⟩
  rw [decide_eq_true rfl]
  refine iteT ⟨.int n, rfl, .ref p, rfl, p, _, rfl, .inl ⟨sqL_of ep22, fun t nt => ?_⟩⟩
  have s23 := same_new nt (o := .tup (ws.map V.int))
  refine ⟨.int k, rfl, _, _, _, rfl, ChkW.ok n1 n2 (.inr (sqT_of upd_same)) hw4 hb ⟨_, .int k, .inr ⟨k, rfl, fun o4 H24 no4 s24 eo4 => ?_⟩⟩⟩
  refine ⟨.ref mo, rfl, eqT_of (ho_ints (sqL_of eo4)) (ho_ints (sqL_of (s24 _ _ (s23 _ _ (s22 _ _ em21))))) (by decide) ?_⟩
  have e : decide (ws.map (turn n k) = ws.map (turn n k)) = true := decide_eq_true rfl
  rw [e]
  exact q _

section
variable {P : Program} {w : World} {K : PySem.W.Frag} {mg : Str → Option Value} {base : Heap} {a : Ad}
def topS (i : Nat) : Stmt := PySem.Challenge.pw_berthrow_k04_round_and_turned.main.body.getD i (.Pass ⟨0, 0, 0, 0⟩)
structure Txt (K : PySem.W.Frag) (mg : Str → Option Value) (a : Ad) : Prop where
  t_0 : True
  b_ValueError : mg "ValueError" = none
  b_int : mg "int" = none
  b_isinstance : mg "isinstance" = none
  b_len : mg "len" = none
  b_list : mg "list" = none
  b_min : mg "min" = none
  b_range : mg "range" = none
  b_sorted : mg "sorted" = none
  b_tuple : mg "tuple" = none
  b_type : mg "type" = none
  c_MOST : ∃ u, mg "MOST" = some u ∧ RelV (.int 400) u
  e_BerthError : ExF K mg "BerthError" a.e_BerthError
  e_NoCount : ExF K mg "NoCount" a.e_NoCount
  e_NoQuay : ExF K mg "NoQuay" a.e_NoQuay
  e_NoWishes : ExF K mg "NoWishes" a.e_NoWishes
  e_TooMany : ExF K mg "TooMany" a.e_TooMany
  g_BerthError : ExG K a.e_BerthError
  g_NoQuay : ExG K a.e_NoQuay
  g_NoWishes : ExG K a.e_NoWishes
  g_TooMany : ExG K a.e_TooMany
  g_NoCount : ExG K a.e_NoCount
  s_TooMany_BerthError : PySem.W.subIn K (.ref a.e_TooMany) (.ref a.e_BerthError) = some true
  s_TooMany_NoCount : PySem.W.subIn K (.ref a.e_TooMany) (.ref a.e_NoCount) = some false
  s_TooMany_NoQuay : PySem.W.subIn K (.ref a.e_TooMany) (.ref a.e_NoQuay) = some false
  s_TooMany_NoWishes : PySem.W.subIn K (.ref a.e_TooMany) (.ref a.e_NoWishes) = some false
  s_TooMany_TooMany : PySem.W.subIn K (.ref a.e_TooMany) (.ref a.e_TooMany) = some true
  s_TooMany_V : PySem.W.subIn K (.ref a.e_TooMany) (.type "ValueError") = some true
abbrev s_is_number : Stmt := topS 8
theorem sc_is_number : FnScope N_is_number ["thing"] (defScope s_is_number) := ⟨rfl, rfl, rfl, by decide +kernel, rfl, by decide +kernel, by decide +kernel⟩
theorem ok_is_number (D : DF K mg "is_number" s_is_number ["thing"] a.f_is_number) (T : Txt K mg a) : Cb P w K mg base CX0 1 "is_number" a.f_is_number ["thing"] (sp_is_number K a) := by
  obtain ⟨⟨fd, F, bb⟩, gg⟩ := D
  refine ⟨⟨fd, F.ok sc_is_number (fun vs H Q E h => len_is_number h) (fun cdv A outer s H vs Q E hr h => ⟨t_is_number K a, ?_, pu_is_number h⟩), bb⟩, gg, F.kp⟩
  exact (pss_one (ps_ret (pe_cmpR op_isTyB (pe_callTy call_type1 (by rfl) T.b_type (by decide +kernel) (pa_cons (pv 0) pa_nil)) (pe_bltn (by rfl) T.b_int (by decide +kernel) rfl) (nomark _))))

abbrev s_is_from_to : Stmt := topS 9
theorem sc_is_from_to : FnScope N_is_from_to ["low", "high", "thing"] (defScope s_is_from_to) := ⟨rfl, rfl, rfl, by decide +kernel, rfl, by decide +kernel, by decide +kernel⟩
theorem ok_is_from_to (D : DF K mg "is_from_to" s_is_from_to ["low", "high", "thing"] a.f_is_from_to) (T : Txt K mg a) (g_is_number : Cb P w K mg base CX0 1 "is_number" a.f_is_number ["thing"] (sp_is_number K a)) : Cb P w K mg base CX0 2 "is_from_to" a.f_is_from_to ["low", "high", "thing"] (sp_is_from_to K a) := by
  obtain ⟨⟨fd, F, bb⟩, gg⟩ := D
  refine ⟨⟨fd, F.ok sc_is_from_to (fun vs H Q E h => len_is_from_to h) (fun cdv A outer s H vs Q E hr h => ⟨t_is_from_to K a, ?_, pu_is_from_to h⟩), bb⟩, gg, F.kp⟩
  exact (pss_one (ps_ret (pe_and (pe_cb g_is_number (hr.mono (by decide)) (by rfl) pass0 (pa_cons (pv 2) pa_nil)) (pe_one (pe_chain op_le op_le (pv 0) (pv 2) (pv 1))))))

abbrev s_is_row : Stmt := topS 10
theorem sc_is_row : FnScope N_is_row ["thing"] (defScope s_is_row) := ⟨rfl, rfl, rfl, by decide +kernel, rfl, by decide +kernel, by decide +kernel⟩
theorem ok_is_row (D : DF K mg "is_row" s_is_row ["thing"] a.f_is_row) (T : Txt K mg a) : Cb P w K mg base CX0 1 "is_row" a.f_is_row ["thing"] (sp_is_row K a) := by
  obtain ⟨⟨fd, F, bb⟩, gg⟩ := D
  refine ⟨⟨fd, F.ok sc_is_row (fun vs H Q E h => len_is_row h) (fun cdv A outer s H vs Q E hr h => ⟨t_is_row K a, ?_, pu_is_row h⟩), bb⟩, gg, F.kp⟩
  exact (pss_one (ps_ret (pe_or (pe_cmpR op_isTyB (pe_callTy call_type1 (by rfl) T.b_type (by decide +kernel) (pa_cons (pv 0) pa_nil)) (pe_bltn (by rfl) T.b_list (by decide +kernel) rfl) (nomark _)) (pe_one (pe_cmpR op_isTyB (pe_callTy call_type1 (by rfl) T.b_type (by decide +kernel) (pa_cons (pv 0) pa_nil)) (pe_bltn (by rfl) T.b_tuple (by decide +kernel) rfl) (nomark _))))))

abbrev s_check_quay : Stmt := topS 11
theorem sc_check_quay : FnScope N_check_quay ["berths"] (defScope s_check_quay) := ⟨rfl, rfl, rfl, by decide +kernel, rfl, by decide +kernel, by decide +kernel⟩
theorem ok_check_quay (D : DF K mg "check_quay" s_check_quay ["berths"] a.f_check_quay) (T : Txt K mg a) (g_is_from_to : Cb P w K mg base CX0 2 "is_from_to" a.f_is_from_to ["low", "high", "thing"] (sp_is_from_to K a)) : Cb P w K mg base (L2.CX P w) 3 "check_quay" a.f_check_quay ["berths"] (sp_check_quay K a) := by
  obtain ⟨⟨fd, F, bb⟩, gg⟩ := D
  refine ⟨⟨fd, F.okX sc_check_quay (fun vs H Q E h => len_check_quay h) (fun cdv A outer s H vs Q E hr h => ⟨t_check_quay K a E, ?_, pu_check_quay h⟩), bb⟩, gg, F.kp⟩
  exact (pss_one (ps_if (pt_not (pt_val (pe_cb g_is_from_to (hr.mono (by decide)) (by rfl) pass0 (pa_cons pe_int (pa_cons (pe_gl (by rfl) T.c_MOST) (pa_cons (pv 0) pa_nil)))))) (pss_one (ps_raise rfl (takes_of rfl rfl rfl rfl) (pmk_own PySem.F.excBase_ValueError T.e_NoQuay.x T.e_NoQuay.g T.e_NoQuay.k (raises_own T.e_NoQuay.b T.e_NoQuay.t) (by exact rfl)))) pss_nil))

abbrev s_check_wishes : Stmt := topS 12
theorem sc_check_wishes : FnScope N_check_wishes ["berths", "wishes"] (defScope s_check_wishes) := ⟨rfl, rfl, rfl, by decide +kernel, rfl, by decide +kernel, by decide +kernel⟩
theorem ok_check_wishes (D : DF K mg "check_wishes" s_check_wishes ["berths", "wishes"] a.f_check_wishes) (T : Txt K mg a) (g_is_from_to : Cb P w K mg base CX0 2 "is_from_to" a.f_is_from_to ["low", "high", "thing"] (sp_is_from_to K a)) (g_is_row : Cb P w K mg base CX0 1 "is_row" a.f_is_row ["thing"] (sp_is_row K a)) (g_check_quay : Cb P w K mg base (L2.CX P w) 3 "check_quay" a.f_check_quay ["berths"] (sp_check_quay K a)) : Cb P w K mg base (L2.CX P w) 4 "check_wishes" a.f_check_wishes ["berths", "wishes"] (sp_check_wishes K a) := by
  obtain ⟨⟨fd, F, bb⟩, gg⟩ := D
  refine ⟨⟨fd, F.okX sc_check_wishes (fun vs H Q E h => len_check_wishes h) (fun cdv A outer s H vs Q E hr h => ⟨t_check_wishes K a E, ?_, pu_check_wishes h⟩), bb⟩, gg, F.kp⟩
  exact (pss_cons (ps_expr (pe_cb g_check_quay (hr.mono (by decide)) (by rfl) (passes_call (takes_of rfl rfl rfl rfl) (fun _ _ _ _ h => h)) (pa_cons (pv 0) pa_nil)))
    (pss_cons (ps_if (pt_not (pt_val (pe_cb g_is_row (hr.mono (by decide)) (by rfl) pass0 (pa_cons (pv 1) pa_nil)))) (pss_one (ps_raise rfl (takes_of rfl rfl rfl rfl) (pmk_own PySem.F.excBase_ValueError T.e_NoWishes.x T.e_NoWishes.g T.e_NoWishes.k (raises_own T.e_NoWishes.b T.e_NoWishes.t) (by exact rfl)))) pss_nil)
    (pss_cons (ps_if (pt_cmpR op_gt (pe_callB call_len_seq (by rfl) T.b_len (by decide +kernel) (pa_cons (pv 1) pa_nil)) (pe_gl (by rfl) T.c_MOST) (nomark _)) (pss_one (ps_raise rfl (takes_of rfl rfl rfl rfl) (pmk_own PySem.F.excBase_ValueError T.e_NoWishes.x T.e_NoWishes.g T.e_NoWishes.k (raises_own T.e_NoWishes.b T.e_NoWishes.t) (by exact rfl)))) pss_nil)
    (pss_one (ps_for (passes_of rfl) rfl (pi_seq (pv 1)) (pg_name (i := 2) sc_check_wishes.nd rfl (by first | exact Or.inl rfl | exact Or.inr rfl))
    (pss_one (ps_if (pt_not (pt_val (pe_cb g_is_from_to (hr.mono (by decide)) (by rfl) pass0 (pa_cons pe_int (pa_cons (pv 0) (pa_cons (pv 2) pa_nil)))))) (pss_one (ps_raise rfl (takes_of rfl rfl rfl rfl) (pmk_own PySem.F.excBase_ValueError T.e_NoWishes.x T.e_NoWishes.g T.e_NoWishes.k (raises_own T.e_NoWishes.b T.e_NoWishes.t) (by exact rfl)))) pss_nil)))))))

abbrev s_first_free : Stmt := topS 14
theorem sc_first_free : FnScope N_first_free ["held", "wish"] (defScope s_first_free) := ⟨rfl, rfl, rfl, by decide +kernel, rfl, by decide +kernel, by decide +kernel⟩
theorem ok_first_free (D : DF K mg "first_free" s_first_free ["held", "wish"] a.f_first_free) (T : Txt K mg a) : Cb P w K mg base CX0 1 "first_free" a.f_first_free ["held", "wish"] (sp_first_free K a) := by
  obtain ⟨⟨fd, F, bb⟩, gg⟩ := D
  refine ⟨⟨fd, F.ok sc_first_free (fun vs H Q E h => len_first_free h) (fun cdv A outer s H vs Q E hr h => ⟨t_first_free K a, ?_, pu_first_free h⟩), bb⟩, gg, F.kp⟩
  exact (pss_cons (ps_for PassesOwn.never rfl (pi_range2 (by rfl) T.b_range (pa_cons (pv 1) (pa_cons (pe_callB call_len_seq (by rfl) T.b_len (by decide +kernel) (pa_cons (pv 0) pa_nil)) pa_nil))) (pg_name (i := 2) sc_first_free.nd rfl (by first | exact Or.inl rfl | exact Or.inr rfl))
    (pss_one (ps_if (pt_not (pt_val (pe_ix ix_list (pv 0) (pv 2) (fun _ _ => rfl)))) (pss_one (ps_ret (pv 2))) pss_nil)))
    (pss_one (ps_ret pe_non)))

abbrev s_first_free_round : Stmt := topS 16
theorem sc_first_free_round : FnScope N_first_free_round ["held", "wish"] (defScope s_first_free_round) := ⟨rfl, rfl, rfl, by decide +kernel, rfl, by decide +kernel, by decide +kernel⟩
theorem ok_first_free_round (D : DF K mg "first_free_round" s_first_free_round ["held", "wish"] a.f_first_free_round) (T : Txt K mg a) (g_first_free : Cb P w K mg base CX0 1 "first_free" a.f_first_free ["held", "wish"] (sp_first_free K a)) : Cb P w K mg base CX0 2 "first_free_round" a.f_first_free_round ["held", "wish"] (sp_first_free_round K a) := by
  obtain ⟨⟨fd, F, bb⟩, gg⟩ := D
  refine ⟨⟨fd, F.ok sc_first_free_round (fun vs H Q E h => len_first_free_round h) (fun cdv A outer s H vs Q E hr h => ⟨t_first_free_round K a, ?_, pu_first_free_round h⟩), bb⟩, gg, F.kp⟩
  exact (pss_cons (ps_set (i := 2) sc_first_free_round.nd rfl (by first | exact Or.inl rfl | exact Or.inr rfl) (pe_cb g_first_free (hr.mono (by decide)) (by rfl) pass0 (pa_cons (pv 0) (pa_cons (pv 1) pa_nil))))
    (pss_cons (ps_if (pt_cmp (pc_isN (pv 2)) rfl) (pss_one (ps_ret (pe_cb g_first_free (hr.mono (by decide)) (by rfl) pass0 (pa_cons (pv 0) (pa_cons pe_int pa_nil))))) pss_nil)
    (pss_one (ps_ret (pv 2)))))

abbrev s_placed_round : Stmt := topS 17
theorem sc_placed_round : FnScope N_placed_round ["berths", "wishes"] (defScope s_placed_round) := ⟨rfl, rfl, rfl, by decide +kernel, rfl, by decide +kernel, by decide +kernel⟩
theorem ok_placed_round (D : DF K mg "placed_round" s_placed_round ["berths", "wishes"] a.f_placed_round) (T : Txt K mg a) (g_check_wishes : Cb P w K mg base (L2.CX P w) 4 "check_wishes" a.f_check_wishes ["berths", "wishes"] (sp_check_wishes K a)) (g_first_free_round : Cb P w K mg base CX0 2 "first_free_round" a.f_first_free_round ["held", "wish"] (sp_first_free_round K a)) : Cb P w K mg base (L2.CX P w) 5 "placed_round" a.f_placed_round ["berths", "wishes"] (sp_placed_round K a) := by
  obtain ⟨⟨fd, F, bb⟩, gg⟩ := D
  refine ⟨⟨fd, F.okX sc_placed_round (fun vs H Q E h => len_placed_round h) (fun cdv A outer s H vs Q E hr h => ⟨t_placed_round K a E, ?_, pu_placed_round h⟩), bb⟩, gg, F.kp⟩
  exact (pss_cons (ps_expr (pe_cb g_check_wishes (hr.mono (by decide)) (by rfl) (passes_call (takes_of rfl rfl rfl rfl) (fun _ _ _ _ h => h)) (pa_cons (pv 0) (pa_cons (pv 1) pa_nil))))
    (pss_cons (ps_if (pt_cmpR op_gt (pe_callB call_len_seq (by rfl) T.b_len (by decide +kernel) (pa_cons (pv 1) pa_nil)) (pv 0) (nomark _)) (pss_one (ps_raise rfl (takes_of rfl rfl rfl rfl) (pmk_own PySem.F.excBase_ValueError T.e_TooMany.x T.e_TooMany.g T.e_TooMany.k (raises_own T.e_TooMany.b T.e_TooMany.t) (by exact rfl)))) pss_nil)
    (pss_cons (ps_set (i := 2) sc_placed_round.nd rfl (by first | exact Or.inl rfl | exact Or.inr rfl) (pe_op op_rep (pe_lst (pa_cons pe_bl pa_nil)) (pe_op op_add (pv 0) pe_int)))
    (pss_cons (ps_set (i := 3) sc_placed_round.nd rfl (by first | exact Or.inl rfl | exact Or.inr rfl) (pe_lst pa_nil))
    (pss_cons (ps_for (passes_of rfl) rfl (pi_seq (pv 1)) (pg_name (i := 4) sc_placed_round.nd rfl (by first | exact Or.inl rfl | exact Or.inr rfl))
    (pss_cons (ps_set (i := 5) sc_placed_round.nd rfl (by first | exact Or.inl rfl | exact Or.inr rfl) (pe_cb g_first_free_round (hr.mono (by decide)) (by rfl) pass0 (pa_cons (pv 2) (pa_cons (pv 4) pa_nil))))
    (pss_cons (ps_asg pe_bl (pg_sub (pv 2) (pv 5) set_list))
    (pss_one (ps_expr (pe_bm PySem.F.plainAttrs_list PySem.F.slot_list_append PySem.F.type_list_append mt_append (pv 3) (pa_cons (pv 5) pa_nil)))))))
    (pss_one (ps_ret (pv 3))))))))

abbrev s_left_over : Stmt := topS 18
theorem sc_left_over : FnScope N_left_over ["berths", "wishes"] (defScope s_left_over) := ⟨rfl, rfl, rfl, by decide +kernel, rfl, by decide +kernel, by decide +kernel⟩
theorem ok_left_over (D : DF K mg "left_over" s_left_over ["berths", "wishes"] a.f_left_over) (T : Txt K mg a) (g_placed_round : Cb P w K mg base (L2.CX P w) 5 "placed_round" a.f_placed_round ["berths", "wishes"] (sp_placed_round K a)) : Cb P w K mg base (L2.CX P w) 6 "left_over" a.f_left_over ["berths", "wishes"] (sp_left_over K a) := by
  obtain ⟨⟨fd, F, bb⟩, gg⟩ := D
  refine ⟨⟨fd, F.okX sc_left_over (fun vs H Q E h => len_left_over h) (fun cdv A outer s H vs Q E hr h => ⟨t_left_over K a E, ?_, pu_left_over h⟩), bb⟩, gg, F.kp⟩
  exact (pss_cons (ps_set (i := 2) sc_left_over.nd rfl (by first | exact Or.inl rfl | exact Or.inr rfl) (pe_cb g_placed_round (hr.mono (by decide)) (by rfl) (passes_call (takes_of rfl rfl rfl rfl) (fun _ _ _ _ h => h)) (pa_cons (pv 0) (pa_cons (pv 1) pa_nil))))
    (pss_one (ps_ret (pe_lc (own := [("berth", 3)]) rfl sc_left_over.nd (pi_range2 (by rfl) T.b_range (pa_cons pe_int (pa_cons (pe_op op_add (pv 0) pe_int) pa_nil))) (blkOk_by (N := N_left_over) (sc := defScope s_left_over) (by decide +kernel)) (fun _ _ _ _ _ => (pg_name (i := 3) sc_left_over.nd rfl (by first | exact Or.inl rfl | exact Or.inr rfl))) (fun _ _ _ _ _ => (pts_one (pt_cmpR op_notIn_seq (pv 3) (pv 2) (by rfl)))) (fun _ _ _ _ _ => (pv 3))))))

abbrev s_turned : Stmt := topS 19
theorem sc_turned : FnScope N_turned ["berths", "wishes", "by"] (defScope s_turned) := ⟨rfl, rfl, rfl, by decide +kernel, rfl, by decide +kernel, by decide +kernel⟩
theorem ok_turned (D : DF K mg "turned" s_turned ["berths", "wishes", "by"] a.f_turned) (T : Txt K mg a) (g_is_number : Cb P w K mg base CX0 1 "is_number" a.f_is_number ["thing"] (sp_is_number K a)) (g_check_wishes : Cb P w K mg base (L2.CX P w) 4 "check_wishes" a.f_check_wishes ["berths", "wishes"] (sp_check_wishes K a)) : Cb P w K mg base (L2.CX P w) 5 "turned" a.f_turned ["berths", "wishes", "by"] (sp_turned K a) := by
  obtain ⟨⟨fd, F, bb⟩, gg⟩ := D
  refine ⟨⟨fd, F.okX sc_turned (fun vs H Q E h => len_turned h) (fun cdv A outer s H vs Q E hr h => ⟨t_turned K a E, ?_, pu_turned h⟩), bb⟩, gg, F.kp⟩
  exact (pss_cons (ps_expr (pe_cb g_check_wishes (hr.mono (by decide)) (by rfl) (passes_call (takes_of rfl rfl rfl rfl) (fun _ _ _ _ h => h)) (pa_cons (pv 0) (pa_cons (pv 1) pa_nil))))
    (pss_cons (ps_if (pt_not (pt_val (pe_cb g_is_number (hr.mono (by decide)) (by rfl) pass0 (pa_cons (pv 2) pa_nil)))) (pss_one (ps_raise rfl (takes_of rfl rfl rfl rfl) (pmk_own PySem.F.excBase_ValueError T.e_NoCount.x T.e_NoCount.g T.e_NoCount.k (raises_own T.e_NoCount.b T.e_NoCount.t) (by exact rfl)))) pss_nil)
    (pss_one (ps_ret (pe_lc (own := [("wish", 3)]) rfl sc_turned.nd (pi_seq (pv 1)) (blkOk_by (N := N_turned) (sc := defScope s_turned) (by decide +kernel)) (fun _ _ _ _ _ => (pg_name (i := 3) sc_turned.nd rfl (by first | exact Or.inl rfl | exact Or.inr rfl))) (fun _ _ _ _ _ => pts_nil) (fun _ _ _ _ _ => (pe_op op_add (pe_op op_mod (pe_op op_add (pe_op op_sub (pv 3) pe_int) (pv 2)) (pv 0)) pe_int)))))))

abbrev s_l_cell_at : Stmt := topS 21
theorem sc_l_cell_at : FnScope N_l_cell_at ["_law_script", "_law_k"] (defScope s_l_cell_at) := ⟨rfl, rfl, rfl, by decide +kernel, rfl, by decide +kernel, by decide +kernel⟩
theorem ok_l_cell_at (D : DF K mg "_law_cell_at" s_l_cell_at ["_law_script", "_law_k"] a.f_l_cell_at) (T : Txt K mg a) : Cb P w K mg base CX0 1 "_law_cell_at" a.f_l_cell_at ["_law_script", "_law_k"] (sp_l_cell_at K) := by
  obtain ⟨⟨fd, F, bb⟩, gg⟩ := D
  refine ⟨⟨fd, F.ok sc_l_cell_at (fun vs H Q E h => len_l_cell_at h) (fun cdv A outer s H vs Q E hr h => ⟨t_l_cell_at K a, ?_, pu_l_cell_at h⟩), bb⟩, gg, F.kp⟩
  exact (pss_cons (ps_if (pt_cmpR op_lt (pv 1) (pe_callB call_len_seq (by rfl) T.b_len (by decide +kernel) (pa_cons (pv 0) pa_nil)) (nomark _)) (pss_one (ps_ret (pe_ix ix_list (pv 0) (pv 1) (fun _ _ => rfl)))) pss_nil)
    (pss_one (ps_ret pe_int)))

abbrev s_l_quay : Stmt := topS 22
theorem sc_l_quay : FnScope N_l_quay ["_law_script"] (defScope s_l_quay) := ⟨rfl, rfl, rfl, by decide +kernel, rfl, by decide +kernel, by decide +kernel⟩
theorem ok_l_quay (D : DF K mg "_law_quay" s_l_quay ["_law_script"] a.f_l_quay) (T : Txt K mg a) (g_l_cell_at : Cb P w K mg base CX0 1 "_law_cell_at" a.f_l_cell_at ["_law_script", "_law_k"] (sp_l_cell_at K)) : Cb P w K mg base CX0 2 "_law_quay" a.f_l_quay ["_law_script"] (sp_l_quay K) := by
  obtain ⟨⟨fd, F, bb⟩, gg⟩ := D
  refine ⟨⟨fd, F.ok sc_l_quay (fun vs H Q E h => len_l_quay h) (fun cdv A outer s H vs Q E hr h => ⟨t_l_quay K a, ?_, pu_l_quay h⟩), bb⟩, gg, F.kp⟩
  exact (pss_one (ps_ret (pe_op op_add pe_int (pe_op op_mod (pe_cb g_l_cell_at (hr.mono (by decide)) (by rfl) pass0 (pa_cons (pv 0) (pa_cons pe_int pa_nil))) (pe_ix ix_list (pe_lst (pa_cons pe_int (pa_cons pe_int (pa_cons pe_int pa_nil)))) (pe_op op_mod (pe_cb g_l_cell_at (hr.mono (by decide)) (by rfl) pass0 (pa_cons (pv 0) (pa_cons pe_int pa_nil))) pe_int) (fun _ _ => rfl))))))

abbrev s_l_wishes : Stmt := topS 23
theorem sc_l_wishes : FnScope N_l_wishes ["_law_script", "_law_berths", "_law_most"] (defScope s_l_wishes) := ⟨rfl, rfl, rfl, by decide +kernel, rfl, by decide +kernel, by decide +kernel⟩
theorem ok_l_wishes (D : DF K mg "_law_wishes" s_l_wishes ["_law_script", "_law_berths", "_law_most"] a.f_l_wishes) (T : Txt K mg a) (g_l_cell_at : Cb P w K mg base CX0 1 "_law_cell_at" a.f_l_cell_at ["_law_script", "_law_k"] (sp_l_cell_at K)) : Cb P w K mg base CX0 2 "_law_wishes" a.f_l_wishes ["_law_script", "_law_berths", "_law_most"] (sp_l_wishes K) := by
  obtain ⟨⟨fd, F, bb⟩, gg⟩ := D
  refine ⟨⟨fd, F.ok sc_l_wishes (fun vs H Q E h => len_l_wishes h) (fun cdv A outer s H vs Q E hr h => ⟨t_l_wishes K a, ?_, pu_l_wishes h⟩), bb⟩, gg, F.kp⟩
  exact (pss_cons (ps_set (i := 3) sc_l_wishes.nd rfl (by first | exact Or.inl rfl | exact Or.inr rfl) (pe_ix ix_list (pe_lst (pa_cons (pv 1) (pa_cons (pe_op op_add pe_int (pe_op op_fdiv (pv 1) pe_int)) (pa_cons (pe_callB (call_min2 rfl) (by rfl) T.b_min (by decide +kernel) (pa_cons (pv 1) (pa_cons pe_int pa_nil))) (pa_cons (pv 1) pa_nil))))) (pe_op op_mod (pe_op op_fdiv (pe_cb g_l_cell_at (hr.mono (by decide)) (by rfl) pass0 (pa_cons (pv 0) (pa_cons pe_int pa_nil))) pe_int) pe_int) (fun _ _ => rfl)))
    (pss_cons (ps_set (i := 4) sc_l_wishes.nd rfl (by first | exact Or.inl rfl | exact Or.inr rfl) (pe_op op_mod (pe_op op_fdiv (pe_cb g_l_cell_at (hr.mono (by decide)) (by rfl) pass0 (pa_cons (pv 0) (pa_cons pe_int pa_nil))) pe_int) (pv 1)))
    (pss_cons (ps_set (i := 5) sc_l_wishes.nd rfl (by first | exact Or.inl rfl | exact Or.inr rfl) (pe_lst pa_nil))
    (pss_cons (ps_for PassesOwn.never rfl (pi_list (pe_slice sl_list (pv 0) (po_some pe_int) po_none)) (pg_name (i := 6) sc_l_wishes.nd rfl (by first | exact Or.inl rfl | exact Or.inr rfl))
    (pss_one (ps_if (pt_cmpR op_lt (pe_callB call_len_seq (by rfl) T.b_len (by decide +kernel) (pa_cons (pv 5) pa_nil)) (pv 2) (nomark _)) (pss_one (ps_expr (pe_bm PySem.F.plainAttrs_list PySem.F.slot_list_append PySem.F.type_list_append mt_append (pv 5) (pa_cons (pe_op op_add (pe_op op_mod (pe_op op_add (pe_op op_mod (pv 6) (pv 3)) (pv 4)) (pv 1)) pe_int) pa_nil)))) pss_nil)))
    (pss_one (ps_ret (pv 5)))))))

abbrev s_l_round : Stmt := topS 24
theorem sc_l_round : FnScope N_l_round ["_law_berths", "_law_wishes_here"] (defScope s_l_round) := ⟨rfl, rfl, rfl, by decide +kernel, rfl, by decide +kernel, by decide +kernel⟩
theorem ok_l_round (D : DF K mg "_law_round" s_l_round ["_law_berths", "_law_wishes_here"] a.f_l_round) (T : Txt K mg a) : Cb P w K mg base CX0 1 "_law_round" a.f_l_round ["_law_berths", "_law_wishes_here"] (sp_l_round K) := by
  obtain ⟨⟨fd, F, bb⟩, gg⟩ := D
  refine ⟨⟨fd, F.ok sc_l_round (fun vs H Q E h => len_l_round h) (fun cdv A outer s H vs Q E hr h => ⟨t_l_round K a, ?_, pu_l_round h⟩), bb⟩, gg, F.kp⟩
  exact (pss_cons (ps_set (i := 2) sc_l_round.nd rfl (by first | exact Or.inl rfl | exact Or.inr rfl) pe_dnewK)
    (pss_cons (ps_set (i := 3) sc_l_round.nd rfl (by first | exact Or.inl rfl | exact Or.inr rfl) (pe_lst pa_nil))
    (pss_cons (ps_for PassesOwn.never rfl (pi_list (pv 1)) (pg_name (i := 4) sc_l_round.nd rfl (by first | exact Or.inl rfl | exact Or.inr rfl))
    (pss_cons (ps_set (i := 5) sc_l_round.nd rfl (by first | exact Or.inl rfl | exact Or.inr rfl) (pv 4))
    (pss_cons (ps_while PassesOwn.never (pt_val (pe_dget2 (Nat.lt_of_le_of_lt (Nat.add_le_add_left (by decide : 1 ≤ 64) _) hr.units) (pv 2) (pv 5) pe_bl ⟨by rfl, by rfl, by rfl, by rfl⟩)) (pss_one (ps_set (i := 5) sc_l_round.nd rfl (by first | exact Or.inl rfl | exact Or.inr rfl) (pe_ix ix_list (pe_lst (pa_cons (pe_op op_add (pv 5) pe_int) (pa_cons pe_int pa_nil))) (pe_callTy call_int1 (by rfl) T.b_int (by decide +kernel) (pa_cons (pe_cmpR op_eq (pv 5) (pv 0) (nomark _)) pa_nil)) (fun _ _ => rfl)))))
    (pss_cons (ps_asg pe_bl (pg_sub (pv 2) (pv 5) (set_dict (Nat.lt_of_le_of_lt (Nat.add_le_add_left (by decide : 1 ≤ 64) _) hr.units))))
    (pss_one (ps_expr (pe_bm PySem.F.plainAttrs_list PySem.F.slot_list_append PySem.F.type_list_append mt_append (pv 3) (pa_cons (pv 5) pa_nil))))))))
    (pss_one (ps_ret (pv 3))))))

abbrev s_l_refused : Stmt := topS 25
theorem sc_l_refused : FnScope N_l_refused ["_law_act", "_law_berths", "_law_wishes_here"] (defScope s_l_refused) := ⟨rfl, rfl, rfl, by decide +kernel, rfl, by decide +kernel, by decide +kernel⟩
theorem ok_l_refused (D : DF K mg "_law_refused" s_l_refused ["_law_act", "_law_berths", "_law_wishes_here"] a.f_l_refused) (T : Txt K mg a) (g_placed_round : Cb P w K mg base (L2.CX P w) 5 "placed_round" a.f_placed_round ["berths", "wishes"] (sp_placed_round K a)) (g_left_over : Cb P w K mg base (L2.CX P w) 6 "left_over" a.f_left_over ["berths", "wishes"] (sp_left_over K a)) : Cb P w K mg base CX0 7 "_law_refused" a.f_l_refused ["_law_act", "_law_berths", "_law_wishes_here"] (sp_l_refused K a) := by
  obtain ⟨⟨fd, F, bb⟩, gg⟩ := D
  refine ⟨⟨fd, F.ok sc_l_refused (fun vs H Q E h => len_l_refused h) (fun cdv A outer s H vs Q E hr h => ⟨t_l_refused K a, ?_, pu_l_refused ⟨exm_of T.g_BerthError T.s_TooMany_BerthError, T.g_TooMany.c, kit3 (kit_ref T.g_NoCount T.s_TooMany_NoCount) (kit_ref T.g_NoQuay T.s_TooMany_NoQuay) (kit_ref T.g_NoWishes T.s_TooMany_NoWishes), kit_ref T.g_TooMany T.s_TooMany_TooMany, kit_typ (by decide +kernel) T.s_TooMany_V⟩ h⟩), bb⟩, gg, F.kp⟩
  exact (pss_cons (ps_set (i := 3) sc_l_refused.nd rfl (by first | exact Or.inl rfl | exact Or.inr rfl) pe_non)
    (pss_cons (ps_try_keep (i := 4) (j := 3) (tb := fun W => (tDrop (tCallD 0 (S_act K a) (WE W) (tCons (tVar 1) (tCons (tVar 2) tNil))))) rfl rfl rfl sc_l_refused.nd rfl rfl ⟨rfl, by decide, .inl T.e_BerthError.g⟩ (fun W pn xe tk _ => (pss_one (ps_expr (pe_callD (kk := 6) (i := 0) (A_act g_placed_round g_left_over (by decide) (by decide)) (hr.mono (by decide)) (fun s => passAt tk s) (pa_cons (pv 1) (pa_cons (pv 2) pa_nil)))))) (fun _ _ _ _ _ _ _ => pss_one (ps_set (i := 3) sc_l_refused.nd rfl (.inl rfl) (pv 4))))
    (pss_cons (ps_if (pt_val (pe_callB call_isiTE (by rfl) T.b_isinstance (by decide +kernel) (pa_cons (pv 3) (pa_cons (pe_tup (pa_cons (pe_glob (by rfl) T.e_NoCount.g rfl) (pa_cons (pe_glob (by rfl) T.e_NoQuay.g rfl) (pa_cons (pe_glob (by rfl) T.e_NoWishes.g rfl) pa_nil)))) pa_nil)))) (pss_one (ps_ret pe_bl)) pss_nil)
    (pss_one (ps_ret (pe_and (pe_callB call_isiE (by rfl) T.b_isinstance (by decide +kernel) (pa_cons (pv 3) (pa_cons (pe_glob (by rfl) T.e_TooMany.g rfl) pa_nil))) (pe_one (pe_callB call_isiE (by rfl) T.b_isinstance (by decide +kernel) (pa_cons (pv 3) (pa_cons (pe_bltn (by rfl) T.b_ValueError (by decide +kernel) rfl) pa_nil))))))))))

abbrev s_law : Stmt := topS 26
theorem sc_law : FnScope N_law ["_law_script"] (defScope s_law) := ⟨rfl, rfl, rfl, by decide +kernel, rfl, by decide +kernel, by decide +kernel⟩
theorem ok_law {f : Addr} {fd : FuncData} (F : Fun K "law" "law" s_law f fd) (T : Txt K mg a) (g_placed_round : Cb P w K mg base (L2.CX P w) 5 "placed_round" a.f_placed_round ["berths", "wishes"] (sp_placed_round K a)) (g_left_over : Cb P w K mg base (L2.CX P w) 6 "left_over" a.f_left_over ["berths", "wishes"] (sp_left_over K a)) (g_turned : Cb P w K mg base (L2.CX P w) 5 "turned" a.f_turned ["berths", "wishes", "by"] (sp_turned K a)) (g_l_cell_at : Cb P w K mg base CX0 1 "_law_cell_at" a.f_l_cell_at ["_law_script", "_law_k"] (sp_l_cell_at K)) (g_l_quay : Cb P w K mg base CX0 2 "_law_quay" a.f_l_quay ["_law_script"] (sp_l_quay K)) (g_l_wishes : Cb P w K mg base CX0 2 "_law_wishes" a.f_l_wishes ["_law_script", "_law_berths", "_law_most"] (sp_l_wishes K)) (g_l_round : Cb P w K mg base CX0 1 "_law_round" a.f_l_round ["_law_berths", "_law_wishes_here"] (sp_l_round K)) (g_l_refused : Cb P w K mg base CX0 7 "_law_refused" a.f_l_refused ["_law_act", "_law_berths", "_law_wishes_here"] (sp_l_refused K a)) : FnOk P w K mg base CX0 8 f fd ["_law_script"] (sp_law K) := by
  refine F.ok sc_law (fun vs H Q E h => len_law h) (fun cdv A outer s H vs Q E hr h => ⟨t_law K a, ?_, pu_law h⟩)
  exact (pss_cons (ps_set (i := 1) sc_law.nd rfl (by first | exact Or.inl rfl | exact Or.inr rfl) (pe_cb g_l_quay (hr.mono (by decide)) (by rfl) pass0 (pa_cons (pv 0) pa_nil)))
    (pss_cons (ps_set (i := 2) sc_law.nd rfl (by first | exact Or.inl rfl | exact Or.inr rfl) (pe_cb g_l_wishes (hr.mono (by decide)) (by rfl) pass0 (pa_cons (pv 0) (pa_cons (pv 1) (pa_cons (pv 1) pa_nil)))))
    (pss_cons (ps_set (i := 3) sc_law.nd rfl (by first | exact Or.inl rfl | exact Or.inr rfl) (pe_op op_sub (pe_op op_mod (pe_cb g_l_cell_at (hr.mono (by decide)) (by rfl) pass0 (pa_cons (pv 0) (pa_cons pe_int pa_nil))) (pe_op op_mul pe_int (pe_op op_pow pe_int pe_int))) (pe_op op_pow pe_int pe_int)))
    (pss_cons (ps_set (i := 4) sc_law.nd rfl (by first | exact Or.inl rfl | exact Or.inr rfl) (pe_cb g_l_round (hr.mono (by decide)) (by rfl) pass0 (pa_cons (pv 1) (pa_cons (pv 2) pa_nil))))
    (pss_cons (ps_set (i := 5) sc_law.nd rfl (by first | exact Or.inl rfl | exact Or.inr rfl) (pe_callTy call_list_of (by rfl) T.b_list (by decide +kernel) (pa_cons (pv 2) pa_nil)))
    (pss_cons (ps_set (i := 6) sc_law.nd rfl (by first | exact Or.inl rfl | exact Or.inr rfl) (pe_cb g_placed_round (hr.mono (by decide)) (by rfl) passL (pa_cons (pv 1) (pa_cons (pv 5) pa_nil))))
    (pss_cons (ps_set (i := 7) sc_law.nd rfl (by first | exact Or.inl rfl | exact Or.inr rfl) (pe_cb g_left_over (hr.mono (by decide)) (by rfl) passL (pa_cons (pv 1) (pa_cons (pe_callTy call_tuple_of (by rfl) T.b_tuple (by decide +kernel) (pa_cons (pv 2) pa_nil)) pa_nil))))
    (pss_cons (ps_if (PW.pt (pw_or (pt_not (pt_val (pe_callB call_isi (by rfl) T.b_isinstance (by decide +kernel) (pa_cons (pv 6) (pa_cons (pe_bltn (by rfl) T.b_list (by decide +kernel) rfl) pa_nil))))) (pw_or (pt_cmpR (op_neT hr.units) (pv 6) (pv 4) (nomark _)) (pw_or (pt_cmpR (op_neT hr.units) (pv 5) (pv 2) (nomark _)) (pw_or1 (pt_not (pt_val (pe_callB call_isi (by rfl) T.b_isinstance (by decide +kernel) (pa_cons (pv 7) (pa_cons (pe_bltn (by rfl) T.b_list (by decide +kernel) rfl) pa_nil)))))))))) (pss_one (ps_ret pe_bl)) pss_nil)
    (pss_cons (ps_if (pt_cmpR (op_neT hr.units) (pv 7) (pe_lc (own := [("_law_berth", 12)]) rfl sc_law.nd (pi_range2 (by rfl) T.b_range (pa_cons pe_int (pa_cons (pe_op op_add (pv 1) pe_int) pa_nil))) (blkOk_by (N := N_law) (sc := defScope s_law) (by decide +kernel)) (fun _ _ _ _ _ => (pg_name (i := 12) sc_law.nd rfl (by first | exact Or.inl rfl | exact Or.inr rfl))) (fun _ _ _ _ _ => (pts_one (pt_cmpR op_notIn_seq (pv 12) (pv 4) (by rfl)))) (fun _ _ _ _ _ => (pv 12))) (nomark _)) (pss_one (ps_ret pe_bl)) pss_nil)
    (pss_cons (ps_set (i := 8) sc_law.nd rfl (by first | exact Or.inl rfl | exact Or.inr rfl) (pe_cb g_turned (hr.mono (by decide)) (by rfl) passL (pa_cons (pv 1) (pa_cons (pv 5) (pa_cons (pv 3) pa_nil)))))
    (pss_cons (ps_setLc (i := 9) (own := [("_law_wish", 13)]) rfl sc_law.nd rfl rfl (sw_true rfl rfl rfl (by decide +kernel)) (pi_list (pv 2)) (blkOk_by (N := N_law) (sc := defScope s_law) (by decide +kernel)) (fun _ _ _ _ _ => (pg_name (i := 13) sc_law.nd rfl (by first | exact Or.inl rfl | exact Or.inr rfl))) (fun _ _ _ _ _ => pts_nil) (fun _ _ _ _ _ => (pe_op op_add (pe_op op_mod (pe_op op_sub (pe_op op_add (pv 13) (pv 3)) pe_int) (pv 1)) pe_int)))
    (pss_cons (ps_if (PW.pt (pw_or (pt_not (pt_val (pe_callB call_isi (by rfl) T.b_isinstance (by decide +kernel) (pa_cons (pv 8) (pa_cons (pe_bltn (by rfl) T.b_list (by decide +kernel) rfl) pa_nil))))) (pw_or (pt_cmpR (op_neT hr.units) (pv 8) (pv 9) (nomark _)) (pw_or1 (pt_cmpR (op_neT hr.units) (pv 5) (pv 2) (nomark _)))))) (pss_one (ps_ret pe_bl)) pss_nil)
    (pss_cons (ps_if (pt_cmpR (op_neT hr.units) (pe_cb g_placed_round (hr.mono (by decide)) (by rfl) passL (pa_cons (pv 1) (pa_cons (pv 8) pa_nil))) (pe_lc (own := [("_law_berth", 12)]) rfl sc_law.nd (pi_list (pv 4)) (blkOk_by (N := N_law) (sc := defScope s_law) (by decide +kernel)) (fun _ _ _ _ _ => (pg_name (i := 12) sc_law.nd rfl (by first | exact Or.inl rfl | exact Or.inr rfl))) (fun _ _ _ _ _ => pts_nil) (fun _ _ _ _ _ => (pe_op op_add (pe_op op_mod (pe_op op_sub (pe_op op_add (pv 12) (pv 3)) pe_int) (pv 1)) pe_int))) (nomark _)) (pss_one (ps_ret pe_bl)) pss_nil)
    (pss_cons (ps_if (pt_cmpR (op_neT hr.units) (pe_cb g_left_over (hr.mono (by decide)) (by rfl) passL (pa_cons (pv 1) (pa_cons (pv 8) pa_nil))) (pe_callB cr_sortedI (by rfl) T.b_sorted (by decide +kernel) (pa_cons (pe_lc (own := [("_law_berth", 12)]) rfl sc_law.nd (pi_list (pv 7)) (blkOk_by (N := N_law) (sc := defScope s_law) (by decide +kernel)) (fun _ _ _ _ _ => (pg_name (i := 12) sc_law.nd rfl (by first | exact Or.inl rfl | exact Or.inr rfl))) (fun _ _ _ _ _ => pts_nil) (fun _ _ _ _ _ => (pe_op op_add (pe_op op_mod (pe_op op_sub (pe_op op_add (pv 12) (pv 3)) pe_int) (pv 1)) pe_int))) pa_nil)) (nomark _)) (pss_one (ps_ret pe_bl)) pss_nil)
    (pss_cons (ps_set (i := 10) sc_law.nd rfl (by first | exact Or.inl rfl | exact Or.inr rfl) (pe_op op_cat (pe_slice sl_list (pe_op op_cat (pv 2) (pe_op op_rep (pe_lst (pa_cons pe_int pa_nil)) (pv 1))) po_none (po_some (pv 1))) (pe_lst (pa_cons pe_int pa_nil))))
    (pss_cons (ps_for PassesOwn.never rfl (pi_list (pe_lst (pa_cons (pe_glob (by rfl) g_placed_round.g rfl) (pa_cons (pe_glob (by rfl) g_left_over.g rfl) pa_nil)))) (pg_name (i := 11) sc_law.nd rfl (by first | exact Or.inl rfl | exact Or.inr rfl))
    (pss_one (ps_if (PW.pt (pw_and (pt_cmpR op_lt (pv 1) pe_int (nomark _)) (pw_and1 (pt_not (pt_val (pe_cb g_l_refused (hr.mono (by decide)) (by rfl) pass0 (pa_cons (pv 11) (pa_cons (pv 1) (pa_cons (pv 10) pa_nil))))))))) (pss_one (ps_ret pe_bl)) pss_nil)))
    (pss_cons (ps_expr (pe_bm0 PySem.F.plainAttrs_list PySem.F.slot_list_clear PySem.F.type_list_clear mt_clear (pv 6)))
    (pss_cons (ps_expr (pe_bm PySem.F.plainAttrs_list PySem.F.slot_list_append PySem.F.type_list_append mt_append (pv 7) (pa_cons pe_int pa_nil)))
    (pss_cons (ps_expr (pe_bm PySem.F.plainAttrs_list PySem.F.slot_list_append PySem.F.type_list_append mt_append (pv 8) (pa_cons pe_int pa_nil)))
    (pss_one (ps_ret (pe_and (pe_cmpR (op_eqT hr.units) (pe_cb g_placed_round (hr.mono (by decide)) (by rfl) passL (pa_cons (pv 1) (pa_cons (pv 2) pa_nil))) (pv 4) (nomark _)) (pe_one (pe_cmpR (op_eqT hr.units) (pe_cb g_turned (hr.mono (by decide)) (by rfl) passL (pa_cons (pv 1) (pa_cons (pe_callTy call_tuple_of (by rfl) T.b_tuple (by decide +kernel) (pa_cons (pv 2) pa_nil)) (pa_cons (pv 3) pa_nil)))) (pv 9) (nomark _)))))))))))))))))))))))))
end
theorem all_mk {P : Program} {w : World} {K : PySem.W.Frag} {h : Heap} {mg : Str → Option Value} {fa : Addr} (X : K.In h) (G : h.Ns mainGlobals mg) (hfa : mg "law" = some (.ref fa))
    {f_is_number f_is_from_to f_is_row f_check_quay f_check_wishes f_first_free f_first_free_round f_placed_round f_left_over f_turned f_l_cell_at f_l_quay f_l_wishes f_l_round f_l_refused f_law e_BerthError e_NoCount e_NoQuay e_NoWishes e_TooMany : Addr}
    {od_is_number an_is_number od_is_from_to an_is_from_to od_is_row an_is_row od_check_quay an_check_quay od_check_wishes an_check_wishes od_first_free an_first_free od_first_free_round an_first_free_round od_placed_round an_placed_round od_left_over an_left_over od_turned an_turned od_l_cell_at an_l_cell_at od_l_quay an_l_quay od_l_wishes an_l_wishes od_l_round an_l_round od_l_refused an_l_refused od_law an_law : Option Addr}
    {sl_is_number sl_is_from_to sl_is_row sl_check_quay sl_check_wishes sl_first_free sl_first_free_round sl_placed_round sl_left_over sl_turned sl_l_cell_at sl_l_quay sl_l_wishes sl_l_round sl_l_refused sl_law : Array (Option Value)}
    {oc_is_number kV_is_number dc_is_number pm_is_number cd_is_number ct_is_number oc_is_from_to kV_is_from_to dc_is_from_to pm_is_from_to cd_is_from_to ct_is_from_to oc_is_row kV_is_row dc_is_row pm_is_row cd_is_row ct_is_row oc_check_quay kV_check_quay dc_check_quay pm_check_quay cd_check_quay ct_check_quay oc_check_wishes kV_check_wishes dc_check_wishes pm_check_wishes cd_check_wishes ct_check_wishes oc_first_free kV_first_free dc_first_free pm_first_free cd_first_free ct_first_free oc_first_free_round kV_first_free_round dc_first_free_round pm_first_free_round cd_first_free_round ct_first_free_round oc_placed_round kV_placed_round dc_placed_round pm_placed_round cd_placed_round ct_placed_round oc_left_over kV_left_over dc_left_over pm_left_over cd_left_over ct_left_over oc_turned kV_turned dc_turned pm_turned cd_turned ct_turned oc_l_cell_at kV_l_cell_at dc_l_cell_at pm_l_cell_at cd_l_cell_at ct_l_cell_at oc_l_quay kV_l_quay dc_l_quay pm_l_quay cd_l_quay ct_l_quay oc_l_wishes kV_l_wishes dc_l_wishes pm_l_wishes cd_l_wishes ct_l_wishes oc_l_round kV_l_round dc_l_round pm_l_round cd_l_round ct_l_round oc_l_refused kV_l_refused dc_l_refused pm_l_refused cd_l_refused ct_l_refused oc_law kV_law dc_law pm_law cd_law ct_law : Value}
    {t_MOST : Tok}
    (a_is_number : PySem.W.nsIn K mainGlobals "is_number" = some (some (.ref f_is_number))) (l_is_number : K.lookup f_is_number = some ⟨oc_is_number, od_is_number, .func (PySem.W.fnOf "is_number" "is_number" (defArgs s_is_number) (defBody s_is_number) (defScope s_is_number) .none kV_is_number dc_is_number pm_is_number an_is_number cd_is_number ct_is_number), sl_is_number⟩) (cI_is_number : PySem.W.codeIn K cd_is_number "is_number" = true) (kI_is_number : PySem.W.keepIn K (.ref f_is_number) = true)
    (a_is_from_to : PySem.W.nsIn K mainGlobals "is_from_to" = some (some (.ref f_is_from_to))) (l_is_from_to : K.lookup f_is_from_to = some ⟨oc_is_from_to, od_is_from_to, .func (PySem.W.fnOf "is_from_to" "is_from_to" (defArgs s_is_from_to) (defBody s_is_from_to) (defScope s_is_from_to) .none kV_is_from_to dc_is_from_to pm_is_from_to an_is_from_to cd_is_from_to ct_is_from_to), sl_is_from_to⟩) (cI_is_from_to : PySem.W.codeIn K cd_is_from_to "is_from_to" = true) (kI_is_from_to : PySem.W.keepIn K (.ref f_is_from_to) = true)
    (a_is_row : PySem.W.nsIn K mainGlobals "is_row" = some (some (.ref f_is_row))) (l_is_row : K.lookup f_is_row = some ⟨oc_is_row, od_is_row, .func (PySem.W.fnOf "is_row" "is_row" (defArgs s_is_row) (defBody s_is_row) (defScope s_is_row) .none kV_is_row dc_is_row pm_is_row an_is_row cd_is_row ct_is_row), sl_is_row⟩) (cI_is_row : PySem.W.codeIn K cd_is_row "is_row" = true) (kI_is_row : PySem.W.keepIn K (.ref f_is_row) = true)
    (a_check_quay : PySem.W.nsIn K mainGlobals "check_quay" = some (some (.ref f_check_quay))) (l_check_quay : K.lookup f_check_quay = some ⟨oc_check_quay, od_check_quay, .func (PySem.W.fnOf "check_quay" "check_quay" (defArgs s_check_quay) (defBody s_check_quay) (defScope s_check_quay) .none kV_check_quay dc_check_quay pm_check_quay an_check_quay cd_check_quay ct_check_quay), sl_check_quay⟩) (cI_check_quay : PySem.W.codeIn K cd_check_quay "check_quay" = true) (kI_check_quay : PySem.W.keepIn K (.ref f_check_quay) = true)
    (a_check_wishes : PySem.W.nsIn K mainGlobals "check_wishes" = some (some (.ref f_check_wishes))) (l_check_wishes : K.lookup f_check_wishes = some ⟨oc_check_wishes, od_check_wishes, .func (PySem.W.fnOf "check_wishes" "check_wishes" (defArgs s_check_wishes) (defBody s_check_wishes) (defScope s_check_wishes) .none kV_check_wishes dc_check_wishes pm_check_wishes an_check_wishes cd_check_wishes ct_check_wishes), sl_check_wishes⟩) (cI_check_wishes : PySem.W.codeIn K cd_check_wishes "check_wishes" = true) (kI_check_wishes : PySem.W.keepIn K (.ref f_check_wishes) = true)
    (a_first_free : PySem.W.nsIn K mainGlobals "first_free" = some (some (.ref f_first_free))) (l_first_free : K.lookup f_first_free = some ⟨oc_first_free, od_first_free, .func (PySem.W.fnOf "first_free" "first_free" (defArgs s_first_free) (defBody s_first_free) (defScope s_first_free) .none kV_first_free dc_first_free pm_first_free an_first_free cd_first_free ct_first_free), sl_first_free⟩) (cI_first_free : PySem.W.codeIn K cd_first_free "first_free" = true) (kI_first_free : PySem.W.keepIn K (.ref f_first_free) = true)
    (a_first_free_round : PySem.W.nsIn K mainGlobals "first_free_round" = some (some (.ref f_first_free_round))) (l_first_free_round : K.lookup f_first_free_round = some ⟨oc_first_free_round, od_first_free_round, .func (PySem.W.fnOf "first_free_round" "first_free_round" (defArgs s_first_free_round) (defBody s_first_free_round) (defScope s_first_free_round) .none kV_first_free_round dc_first_free_round pm_first_free_round an_first_free_round cd_first_free_round ct_first_free_round), sl_first_free_round⟩) (cI_first_free_round : PySem.W.codeIn K cd_first_free_round "first_free_round" = true) (kI_first_free_round : PySem.W.keepIn K (.ref f_first_free_round) = true)
    (a_placed_round : PySem.W.nsIn K mainGlobals "placed_round" = some (some (.ref f_placed_round))) (l_placed_round : K.lookup f_placed_round = some ⟨oc_placed_round, od_placed_round, .func (PySem.W.fnOf "placed_round" "placed_round" (defArgs s_placed_round) (defBody s_placed_round) (defScope s_placed_round) .none kV_placed_round dc_placed_round pm_placed_round an_placed_round cd_placed_round ct_placed_round), sl_placed_round⟩) (cI_placed_round : PySem.W.codeIn K cd_placed_round "placed_round" = true) (kI_placed_round : PySem.W.keepIn K (.ref f_placed_round) = true)
    (a_left_over : PySem.W.nsIn K mainGlobals "left_over" = some (some (.ref f_left_over))) (l_left_over : K.lookup f_left_over = some ⟨oc_left_over, od_left_over, .func (PySem.W.fnOf "left_over" "left_over" (defArgs s_left_over) (defBody s_left_over) (defScope s_left_over) .none kV_left_over dc_left_over pm_left_over an_left_over cd_left_over ct_left_over), sl_left_over⟩) (cI_left_over : PySem.W.codeIn K cd_left_over "left_over" = true) (kI_left_over : PySem.W.keepIn K (.ref f_left_over) = true)
    (a_turned : PySem.W.nsIn K mainGlobals "turned" = some (some (.ref f_turned))) (l_turned : K.lookup f_turned = some ⟨oc_turned, od_turned, .func (PySem.W.fnOf "turned" "turned" (defArgs s_turned) (defBody s_turned) (defScope s_turned) .none kV_turned dc_turned pm_turned an_turned cd_turned ct_turned), sl_turned⟩) (cI_turned : PySem.W.codeIn K cd_turned "turned" = true) (kI_turned : PySem.W.keepIn K (.ref f_turned) = true)
    (a_l_cell_at : PySem.W.nsIn K mainGlobals "_law_cell_at" = some (some (.ref f_l_cell_at))) (l_l_cell_at : K.lookup f_l_cell_at = some ⟨oc_l_cell_at, od_l_cell_at, .func (PySem.W.fnOf "_law_cell_at" "_law_cell_at" (defArgs s_l_cell_at) (defBody s_l_cell_at) (defScope s_l_cell_at) .none kV_l_cell_at dc_l_cell_at pm_l_cell_at an_l_cell_at cd_l_cell_at ct_l_cell_at), sl_l_cell_at⟩) (cI_l_cell_at : PySem.W.codeIn K cd_l_cell_at "_law_cell_at" = true) (kI_l_cell_at : PySem.W.keepIn K (.ref f_l_cell_at) = true)
    (a_l_quay : PySem.W.nsIn K mainGlobals "_law_quay" = some (some (.ref f_l_quay))) (l_l_quay : K.lookup f_l_quay = some ⟨oc_l_quay, od_l_quay, .func (PySem.W.fnOf "_law_quay" "_law_quay" (defArgs s_l_quay) (defBody s_l_quay) (defScope s_l_quay) .none kV_l_quay dc_l_quay pm_l_quay an_l_quay cd_l_quay ct_l_quay), sl_l_quay⟩) (cI_l_quay : PySem.W.codeIn K cd_l_quay "_law_quay" = true) (kI_l_quay : PySem.W.keepIn K (.ref f_l_quay) = true)
    (a_l_wishes : PySem.W.nsIn K mainGlobals "_law_wishes" = some (some (.ref f_l_wishes))) (l_l_wishes : K.lookup f_l_wishes = some ⟨oc_l_wishes, od_l_wishes, .func (PySem.W.fnOf "_law_wishes" "_law_wishes" (defArgs s_l_wishes) (defBody s_l_wishes) (defScope s_l_wishes) .none kV_l_wishes dc_l_wishes pm_l_wishes an_l_wishes cd_l_wishes ct_l_wishes), sl_l_wishes⟩) (cI_l_wishes : PySem.W.codeIn K cd_l_wishes "_law_wishes" = true) (kI_l_wishes : PySem.W.keepIn K (.ref f_l_wishes) = true)
    (a_l_round : PySem.W.nsIn K mainGlobals "_law_round" = some (some (.ref f_l_round))) (l_l_round : K.lookup f_l_round = some ⟨oc_l_round, od_l_round, .func (PySem.W.fnOf "_law_round" "_law_round" (defArgs s_l_round) (defBody s_l_round) (defScope s_l_round) .none kV_l_round dc_l_round pm_l_round an_l_round cd_l_round ct_l_round), sl_l_round⟩) (cI_l_round : PySem.W.codeIn K cd_l_round "_law_round" = true) (kI_l_round : PySem.W.keepIn K (.ref f_l_round) = true)
    (a_l_refused : PySem.W.nsIn K mainGlobals "_law_refused" = some (some (.ref f_l_refused))) (l_l_refused : K.lookup f_l_refused = some ⟨oc_l_refused, od_l_refused, .func (PySem.W.fnOf "_law_refused" "_law_refused" (defArgs s_l_refused) (defBody s_l_refused) (defScope s_l_refused) .none kV_l_refused dc_l_refused pm_l_refused an_l_refused cd_l_refused ct_l_refused), sl_l_refused⟩) (cI_l_refused : PySem.W.codeIn K cd_l_refused "_law_refused" = true) (kI_l_refused : PySem.W.keepIn K (.ref f_l_refused) = true)
    (a_law : PySem.W.nsIn K mainGlobals "law" = some (some (.ref f_law))) (l_law : K.lookup f_law = some ⟨oc_law, od_law, .func (PySem.W.fnOf "law" "law" (defArgs s_law) (defBody s_law) (defScope s_law) .none kV_law dc_law pm_law an_law cd_law ct_law), sl_law⟩) (cI_law : PySem.W.codeIn K cd_law "law" = true) (kI_law : PySem.W.keepIn K (.ref f_law) = true)
    (z_ValueError : PySem.W.nsIn K mainGlobals "ValueError" = some none)
    (z_int : PySem.W.nsIn K mainGlobals "int" = some none)
    (z_isinstance : PySem.W.nsIn K mainGlobals "isinstance" = some none)
    (z_len : PySem.W.nsIn K mainGlobals "len" = some none)
    (z_list : PySem.W.nsIn K mainGlobals "list" = some none)
    (z_min : PySem.W.nsIn K mainGlobals "min" = some none)
    (z_range : PySem.W.nsIn K mainGlobals "range" = some none)
    (z_sorted : PySem.W.nsIn K mainGlobals "sorted" = some none)
    (z_tuple : PySem.W.nsIn K mainGlobals "tuple" = some none)
    (z_type : PySem.W.nsIn K mainGlobals "type" = some none)
    (y_MOST : PySem.W.nsIn K mainGlobals "MOST" = some (some (.int 400 t_MOST)))
    (xg_BerthError : PySem.W.nsIn K mainGlobals "BerthError" = some (some (.ref e_BerthError)))
    (xx_BerthError : PySem.W.excIn K e_BerthError [.type "ValueError", .type "Exception", .type "BaseException", .type "object"] "ValueError.__new__" = true)
    (xk_BerthError : PySem.W.keepIn K (.ref e_BerthError) = true)
    (xb_BerthError : PySem.W.subIn K (.ref e_BerthError) (.type "BaseException") = some true)
    (xt_BerthError : PySem.W.typeIn K (.ref e_BerthError) = some (.type "type"))
    (xg_NoCount : PySem.W.nsIn K mainGlobals "NoCount" = some (some (.ref e_NoCount)))
    (xx_NoCount : PySem.W.excIn K e_NoCount [.type "ValueError", .type "Exception", .type "BaseException", .type "object"] "ValueError.__new__" = true)
    (xk_NoCount : PySem.W.keepIn K (.ref e_NoCount) = true)
    (xb_NoCount : PySem.W.subIn K (.ref e_NoCount) (.type "BaseException") = some true)
    (xt_NoCount : PySem.W.typeIn K (.ref e_NoCount) = some (.type "type"))
    (xg_NoQuay : PySem.W.nsIn K mainGlobals "NoQuay" = some (some (.ref e_NoQuay)))
    (xx_NoQuay : PySem.W.excIn K e_NoQuay [.type "ValueError", .type "Exception", .type "BaseException", .type "object"] "ValueError.__new__" = true)
    (xk_NoQuay : PySem.W.keepIn K (.ref e_NoQuay) = true)
    (xb_NoQuay : PySem.W.subIn K (.ref e_NoQuay) (.type "BaseException") = some true)
    (xt_NoQuay : PySem.W.typeIn K (.ref e_NoQuay) = some (.type "type"))
    (xg_NoWishes : PySem.W.nsIn K mainGlobals "NoWishes" = some (some (.ref e_NoWishes)))
    (xx_NoWishes : PySem.W.excIn K e_NoWishes [.type "ValueError", .type "Exception", .type "BaseException", .type "object"] "ValueError.__new__" = true)
    (xk_NoWishes : PySem.W.keepIn K (.ref e_NoWishes) = true)
    (xb_NoWishes : PySem.W.subIn K (.ref e_NoWishes) (.type "BaseException") = some true)
    (xt_NoWishes : PySem.W.typeIn K (.ref e_NoWishes) = some (.type "type"))
    (xg_TooMany : PySem.W.nsIn K mainGlobals "TooMany" = some (some (.ref e_TooMany)))
    (xx_TooMany : PySem.W.excIn K e_TooMany [.type "ValueError", .type "Exception", .type "BaseException", .type "object"] "ValueError.__new__" = true)
    (xk_TooMany : PySem.W.keepIn K (.ref e_TooMany) = true)
    (xb_TooMany : PySem.W.subIn K (.ref e_TooMany) (.type "BaseException") = some true)
    (xt_TooMany : PySem.W.typeIn K (.ref e_TooMany) = some (.type "type"))
    (v_hn : PySem.W.specialIn K (.builtin "object.__class__") "__get__" = some (some (.builtin "getset_descriptor.__get__")))
    (v_ht : PySem.W.takesIn K (.builtin "object.__class__") = some true)
    (vhg_BerthError : PySem.W.findIn K (.ref e_BerthError) "__getattribute__" = some (some (.builtin "BaseException.__getattribute__")))
    (vhk_BerthError : PySem.W.findIn K (.ref e_BerthError) "__getattr__" = some none)
    (vhs_BerthError : PySem.W.subIn K (.ref e_BerthError) (.type "BaseException") = some true)
    (vhd_BerthError : PySem.W.hasDictIn K e_BerthError = true)
    (vha_BerthError : PySem.W.findIn K (.ref e_BerthError) "__class__" = some (some (.builtin "object.__class__")))
    (vhm_BerthError : PySem.W.mroIn K e_BerthError (.type "object") = some true)
    (vty_BerthError : PySem.W.typeIn K (.ref e_BerthError) = some (.type "type"))
    (vse_BerthError : PySem.W.subIn K (.ref e_BerthError) (.ref e_BerthError) = some true)
    (vhg_NoQuay : PySem.W.findIn K (.ref e_NoQuay) "__getattribute__" = some (some (.builtin "BaseException.__getattribute__")))
    (vhk_NoQuay : PySem.W.findIn K (.ref e_NoQuay) "__getattr__" = some none)
    (vhs_NoQuay : PySem.W.subIn K (.ref e_NoQuay) (.type "BaseException") = some true)
    (vhd_NoQuay : PySem.W.hasDictIn K e_NoQuay = true)
    (vha_NoQuay : PySem.W.findIn K (.ref e_NoQuay) "__class__" = some (some (.builtin "object.__class__")))
    (vhm_NoQuay : PySem.W.mroIn K e_NoQuay (.type "object") = some true)
    (vty_NoQuay : PySem.W.typeIn K (.ref e_NoQuay) = some (.type "type"))
    (vse_NoQuay : PySem.W.subIn K (.ref e_NoQuay) (.ref e_NoQuay) = some true)
    (vhg_NoWishes : PySem.W.findIn K (.ref e_NoWishes) "__getattribute__" = some (some (.builtin "BaseException.__getattribute__")))
    (vhk_NoWishes : PySem.W.findIn K (.ref e_NoWishes) "__getattr__" = some none)
    (vhs_NoWishes : PySem.W.subIn K (.ref e_NoWishes) (.type "BaseException") = some true)
    (vhd_NoWishes : PySem.W.hasDictIn K e_NoWishes = true)
    (vha_NoWishes : PySem.W.findIn K (.ref e_NoWishes) "__class__" = some (some (.builtin "object.__class__")))
    (vhm_NoWishes : PySem.W.mroIn K e_NoWishes (.type "object") = some true)
    (vty_NoWishes : PySem.W.typeIn K (.ref e_NoWishes) = some (.type "type"))
    (vse_NoWishes : PySem.W.subIn K (.ref e_NoWishes) (.ref e_NoWishes) = some true)
    (vhg_TooMany : PySem.W.findIn K (.ref e_TooMany) "__getattribute__" = some (some (.builtin "BaseException.__getattribute__")))
    (vhk_TooMany : PySem.W.findIn K (.ref e_TooMany) "__getattr__" = some none)
    (vhs_TooMany : PySem.W.subIn K (.ref e_TooMany) (.type "BaseException") = some true)
    (vhd_TooMany : PySem.W.hasDictIn K e_TooMany = true)
    (vha_TooMany : PySem.W.findIn K (.ref e_TooMany) "__class__" = some (some (.builtin "object.__class__")))
    (vhm_TooMany : PySem.W.mroIn K e_TooMany (.type "object") = some true)
    (vty_TooMany : PySem.W.typeIn K (.ref e_TooMany) = some (.type "type"))
    (vse_TooMany : PySem.W.subIn K (.ref e_TooMany) (.ref e_TooMany) = some true)
    (vhg_NoCount : PySem.W.findIn K (.ref e_NoCount) "__getattribute__" = some (some (.builtin "BaseException.__getattribute__")))
    (vhk_NoCount : PySem.W.findIn K (.ref e_NoCount) "__getattr__" = some none)
    (vhs_NoCount : PySem.W.subIn K (.ref e_NoCount) (.type "BaseException") = some true)
    (vhd_NoCount : PySem.W.hasDictIn K e_NoCount = true)
    (vha_NoCount : PySem.W.findIn K (.ref e_NoCount) "__class__" = some (some (.builtin "object.__class__")))
    (vhm_NoCount : PySem.W.mroIn K e_NoCount (.type "object") = some true)
    (vty_NoCount : PySem.W.typeIn K (.ref e_NoCount) = some (.type "type"))
    (vse_NoCount : PySem.W.subIn K (.ref e_NoCount) (.ref e_NoCount) = some true)
    (w_TooMany_BerthError : PySem.W.subIn K (.ref e_TooMany) (.ref e_BerthError) = some true)
    (w_TooMany_NoCount : PySem.W.subIn K (.ref e_TooMany) (.ref e_NoCount) = some false)
    (w_TooMany_NoQuay : PySem.W.subIn K (.ref e_TooMany) (.ref e_NoQuay) = some false)
    (w_TooMany_NoWishes : PySem.W.subIn K (.ref e_TooMany) (.ref e_NoWishes) = some false)
    (w_TooMany_TooMany : PySem.W.subIn K (.ref e_TooMany) (.ref e_TooMany) = some true)
    (w_TooMany_V : PySem.W.subIn K (.ref e_TooMany) (.type "ValueError") = some true)
    : ∃ fd : FuncData, (∀ (s : Shared) (v : Value), BindsTo s fd ⟨[v], []⟩ [("_law_script", v)]) ∧ ∀ base : Heap, K.In base → base.Ns mainGlobals mg → FnOk P w K mg base CX0 8 fa fd ["_law_script"] (sp_law K) := by
  have e := hfa.symm.trans (PySem.W.mg_of X G a_law)
  cases e
  have T : Txt K mg ({ f_is_number := f_is_number, f_is_from_to := f_is_from_to, f_is_row := f_is_row, f_check_quay := f_check_quay, f_check_wishes := f_check_wishes, f_first_free := f_first_free, f_first_free_round := f_first_free_round, f_placed_round := f_placed_round, f_left_over := f_left_over, f_turned := f_turned, f_l_cell_at := f_l_cell_at, f_l_quay := f_l_quay, f_l_wishes := f_l_wishes, f_l_round := f_l_round, f_l_refused := f_l_refused, e_BerthError := e_BerthError, e_NoCount := e_NoCount, e_NoQuay := e_NoQuay, e_NoWishes := e_NoWishes, e_TooMany := e_TooMany } : Ad) := ⟨trivial,
    PySem.W.mg_none_of X G z_ValueError,
    PySem.W.mg_none_of X G z_int,
    PySem.W.mg_none_of X G z_isinstance,
    PySem.W.mg_none_of X G z_len,
    PySem.W.mg_none_of X G z_list,
    PySem.W.mg_none_of X G z_min,
    PySem.W.mg_none_of X G z_range,
    PySem.W.mg_none_of X G z_sorted,
    PySem.W.mg_none_of X G z_tuple,
    PySem.W.mg_none_of X G z_type,
    ⟨_, PySem.W.mg_of X G y_MOST, ⟨_, rfl⟩⟩,
    ⟨PySem.W.mg_of X G xg_BerthError, xx_BerthError, xk_BerthError, xb_BerthError, xt_BerthError⟩,
    ⟨PySem.W.mg_of X G xg_NoCount, xx_NoCount, xk_NoCount, xb_NoCount, xt_NoCount⟩,
    ⟨PySem.W.mg_of X G xg_NoQuay, xx_NoQuay, xk_NoQuay, xb_NoQuay, xt_NoQuay⟩,
    ⟨PySem.W.mg_of X G xg_NoWishes, xx_NoWishes, xk_NoWishes, xb_NoWishes, xt_NoWishes⟩,
    ⟨PySem.W.mg_of X G xg_TooMany, xx_TooMany, xk_TooMany, xb_TooMany, xt_TooMany⟩,
    ⟨⟨vhg_BerthError, vhk_BerthError, vhs_BerthError, vhd_BerthError, vha_BerthError, v_hn, v_ht, vhm_BerthError⟩, vty_BerthError, vse_BerthError⟩,
    ⟨⟨vhg_NoQuay, vhk_NoQuay, vhs_NoQuay, vhd_NoQuay, vha_NoQuay, v_hn, v_ht, vhm_NoQuay⟩, vty_NoQuay, vse_NoQuay⟩,
    ⟨⟨vhg_NoWishes, vhk_NoWishes, vhs_NoWishes, vhd_NoWishes, vha_NoWishes, v_hn, v_ht, vhm_NoWishes⟩, vty_NoWishes, vse_NoWishes⟩,
    ⟨⟨vhg_TooMany, vhk_TooMany, vhs_TooMany, vhd_TooMany, vha_TooMany, v_hn, v_ht, vhm_TooMany⟩, vty_TooMany, vse_TooMany⟩,
    ⟨⟨vhg_NoCount, vhk_NoCount, vhs_NoCount, vhd_NoCount, vha_NoCount, v_hn, v_ht, vhm_NoCount⟩, vty_NoCount, vse_NoCount⟩,
    w_TooMany_BerthError,
    w_TooMany_NoCount,
    w_TooMany_NoQuay,
    w_TooMany_NoWishes,
    w_TooMany_TooMany,
    w_TooMany_V⟩
  have D_is_number : DF K mg "is_number" s_is_number ["thing"] f_is_number := df_mk (fun_mk (st := s_is_number) l_is_number cI_is_number kI_is_number) (fun _ _ _ _ _ _ us hl => match us, hl with | [_], _ => rfl) (PySem.W.mg_of X G a_is_number)
  have D_is_from_to : DF K mg "is_from_to" s_is_from_to ["low", "high", "thing"] f_is_from_to := df_mk (fun_mk (st := s_is_from_to) l_is_from_to cI_is_from_to kI_is_from_to) (fun _ _ _ _ _ _ us hl => match us, hl with | [_, _, _], _ => rfl) (PySem.W.mg_of X G a_is_from_to)
  have D_is_row : DF K mg "is_row" s_is_row ["thing"] f_is_row := df_mk (fun_mk (st := s_is_row) l_is_row cI_is_row kI_is_row) (fun _ _ _ _ _ _ us hl => match us, hl with | [_], _ => rfl) (PySem.W.mg_of X G a_is_row)
  have D_check_quay : DF K mg "check_quay" s_check_quay ["berths"] f_check_quay := df_mk (fun_mk (st := s_check_quay) l_check_quay cI_check_quay kI_check_quay) (fun _ _ _ _ _ _ us hl => match us, hl with | [_], _ => rfl) (PySem.W.mg_of X G a_check_quay)
  have D_check_wishes : DF K mg "check_wishes" s_check_wishes ["berths", "wishes"] f_check_wishes := df_mk (fun_mk (st := s_check_wishes) l_check_wishes cI_check_wishes kI_check_wishes) (fun _ _ _ _ _ _ us hl => match us, hl with | [_, _], _ => rfl) (PySem.W.mg_of X G a_check_wishes)
  have D_first_free : DF K mg "first_free" s_first_free ["held", "wish"] f_first_free := df_mk (fun_mk (st := s_first_free) l_first_free cI_first_free kI_first_free) (fun _ _ _ _ _ _ us hl => match us, hl with | [_, _], _ => rfl) (PySem.W.mg_of X G a_first_free)
  have D_first_free_round : DF K mg "first_free_round" s_first_free_round ["held", "wish"] f_first_free_round := df_mk (fun_mk (st := s_first_free_round) l_first_free_round cI_first_free_round kI_first_free_round) (fun _ _ _ _ _ _ us hl => match us, hl with | [_, _], _ => rfl) (PySem.W.mg_of X G a_first_free_round)
  have D_placed_round : DF K mg "placed_round" s_placed_round ["berths", "wishes"] f_placed_round := df_mk (fun_mk (st := s_placed_round) l_placed_round cI_placed_round kI_placed_round) (fun _ _ _ _ _ _ us hl => match us, hl with | [_, _], _ => rfl) (PySem.W.mg_of X G a_placed_round)
  have D_left_over : DF K mg "left_over" s_left_over ["berths", "wishes"] f_left_over := df_mk (fun_mk (st := s_left_over) l_left_over cI_left_over kI_left_over) (fun _ _ _ _ _ _ us hl => match us, hl with | [_, _], _ => rfl) (PySem.W.mg_of X G a_left_over)
  have D_turned : DF K mg "turned" s_turned ["berths", "wishes", "by"] f_turned := df_mk (fun_mk (st := s_turned) l_turned cI_turned kI_turned) (fun _ _ _ _ _ _ us hl => match us, hl with | [_, _, _], _ => rfl) (PySem.W.mg_of X G a_turned)
  have D_l_cell_at : DF K mg "_law_cell_at" s_l_cell_at ["_law_script", "_law_k"] f_l_cell_at := df_mk (fun_mk (st := s_l_cell_at) l_l_cell_at cI_l_cell_at kI_l_cell_at) (fun _ _ _ _ _ _ us hl => match us, hl with | [_, _], _ => rfl) (PySem.W.mg_of X G a_l_cell_at)
  have D_l_quay : DF K mg "_law_quay" s_l_quay ["_law_script"] f_l_quay := df_mk (fun_mk (st := s_l_quay) l_l_quay cI_l_quay kI_l_quay) (fun _ _ _ _ _ _ us hl => match us, hl with | [_], _ => rfl) (PySem.W.mg_of X G a_l_quay)
  have D_l_wishes : DF K mg "_law_wishes" s_l_wishes ["_law_script", "_law_berths", "_law_most"] f_l_wishes := df_mk (fun_mk (st := s_l_wishes) l_l_wishes cI_l_wishes kI_l_wishes) (fun _ _ _ _ _ _ us hl => match us, hl with | [_, _, _], _ => rfl) (PySem.W.mg_of X G a_l_wishes)
  have D_l_round : DF K mg "_law_round" s_l_round ["_law_berths", "_law_wishes_here"] f_l_round := df_mk (fun_mk (st := s_l_round) l_l_round cI_l_round kI_l_round) (fun _ _ _ _ _ _ us hl => match us, hl with | [_, _], _ => rfl) (PySem.W.mg_of X G a_l_round)
  have D_l_refused : DF K mg "_law_refused" s_l_refused ["_law_act", "_law_berths", "_law_wishes_here"] f_l_refused := df_mk (fun_mk (st := s_l_refused) l_l_refused cI_l_refused kI_l_refused) (fun _ _ _ _ _ _ us hl => match us, hl with | [_, _, _], _ => rfl) (PySem.W.mg_of X G a_l_refused)
  refine ⟨PySem.W.fnOf "law" "law" (defArgs s_law) (defBody s_law) (defScope s_law) .none kV_law dc_law pm_law an_law cd_law ct_law, fun s v => .of_eq rfl, fun base _ _ => ?_⟩
  have g_is_number := ok_is_number (P := P) (w := w) (base := base) D_is_number T
  have g_is_from_to := ok_is_from_to (P := P) (w := w) (base := base) D_is_from_to T g_is_number
  have g_is_row := ok_is_row (P := P) (w := w) (base := base) D_is_row T
  have g_check_quay := ok_check_quay (P := P) (w := w) (base := base) D_check_quay T g_is_from_to
  have g_check_wishes := ok_check_wishes (P := P) (w := w) (base := base) D_check_wishes T g_is_from_to g_is_row g_check_quay
  have g_first_free := ok_first_free (P := P) (w := w) (base := base) D_first_free T
  have g_first_free_round := ok_first_free_round (P := P) (w := w) (base := base) D_first_free_round T g_first_free
  have g_placed_round := ok_placed_round (P := P) (w := w) (base := base) D_placed_round T g_check_wishes g_first_free_round
  have g_left_over := ok_left_over (P := P) (w := w) (base := base) D_left_over T g_placed_round
  have g_turned := ok_turned (P := P) (w := w) (base := base) D_turned T g_is_number g_check_wishes
  have g_l_cell_at := ok_l_cell_at (P := P) (w := w) (base := base) D_l_cell_at T
  have g_l_quay := ok_l_quay (P := P) (w := w) (base := base) D_l_quay T g_l_cell_at
  have g_l_wishes := ok_l_wishes (P := P) (w := w) (base := base) D_l_wishes T g_l_cell_at
  have g_l_round := ok_l_round (P := P) (w := w) (base := base) D_l_round T
  have g_l_refused := ok_l_refused (P := P) (w := w) (base := base) D_l_refused T g_placed_round g_left_over
  exact ok_law (fun_mk (st := s_law) l_law cI_law kI_law) T g_placed_round g_left_over g_turned g_l_cell_at g_l_quay g_l_wishes g_l_round g_l_refused
end Br
open PySem PySem.W PyProof.Rows
set_option maxHeartbeats 0 in
theorem PySem.Challenge.cw_berthrow_k04_round_and_turned_holds : PySem.Challenge.rw_berthrow_k04_round_and_turned.Holds := by
  w_on; o_law; k_head; (case hw => w_witness2)
  k_fill
  refine L2.walk_of (l := PySem.Challenge.rw_berthrow_k04_round_and_turned) (n := 63) (k := 8) (x := "_law_script") (CX := fun _ => L2.CX0) (sp := fun w => Br.sp_law _) rfl (by decide) rfl ⟨rfl, by decide, by decide⟩ (fun w h Y => PySem.W.kIn_of Y) ?F (fun _ _ a ns hl _ hS => ⟨a, ns, rfl, hS, hl, fun _ => rfl⟩) (fun _ _ _ _ _ h => h)
  case F =>
    intro w mg fa h KX G hmg
    refine' Br.all_mk KX G hmg ?a_is_number ?l_is_number ?cI_is_number ?kI_is_number ?a_is_from_to ?l_is_from_to ?cI_is_from_to ?kI_is_from_to ?a_is_row ?l_is_row ?cI_is_row ?kI_is_row ?a_check_quay ?l_check_quay ?cI_check_quay ?kI_check_quay ?a_check_wishes ?l_check_wishes ?cI_check_wishes ?kI_check_wishes ?a_first_free ?l_first_free ?cI_first_free ?kI_first_free ?a_first_free_round ?l_first_free_round ?cI_first_free_round ?kI_first_free_round ?a_placed_round ?l_placed_round ?cI_placed_round ?kI_placed_round ?a_left_over ?l_left_over ?cI_left_over ?kI_left_over ?a_turned ?l_turned ?cI_turned ?kI_turned ?a_l_cell_at ?l_l_cell_at ?cI_l_cell_at ?kI_l_cell_at ?a_l_quay ?l_l_quay ?cI_l_quay ?kI_l_quay ?a_l_wishes ?l_l_wishes ?cI_l_wishes ?kI_l_wishes ?a_l_round ?l_l_round ?cI_l_round ?kI_l_round ?a_l_refused ?l_l_refused ?cI_l_refused ?kI_l_refused ?a_law ?l_law ?cI_law ?kI_law ?z_ValueError ?z_int ?z_isinstance ?z_len ?z_list ?z_min ?z_range ?z_sorted ?z_tuple ?z_type ?y_MOST ?xg_BerthError ?xx_BerthError ?xk_BerthError ?xb_BerthError ?xt_BerthError ?xg_NoCount ?xx_NoCount ?xk_NoCount ?xb_NoCount ?xt_NoCount ?xg_NoQuay ?xx_NoQuay ?xk_NoQuay ?xb_NoQuay ?xt_NoQuay ?xg_NoWishes ?xx_NoWishes ?xk_NoWishes ?xb_NoWishes ?xt_NoWishes ?xg_TooMany ?xx_TooMany ?xk_TooMany ?xb_TooMany ?xt_TooMany ?v_hn ?v_ht ?vhg_BerthError ?vhk_BerthError ?vhs_BerthError ?vhd_BerthError ?vha_BerthError ?vhm_BerthError ?vty_BerthError ?vse_BerthError ?vhg_NoQuay ?vhk_NoQuay ?vhs_NoQuay ?vhd_NoQuay ?vha_NoQuay ?vhm_NoQuay ?vty_NoQuay ?vse_NoQuay ?vhg_NoWishes ?vhk_NoWishes ?vhs_NoWishes ?vhd_NoWishes ?vha_NoWishes ?vhm_NoWishes ?vty_NoWishes ?vse_NoWishes ?vhg_TooMany ?vhk_TooMany ?vhs_TooMany ?vhd_TooMany ?vha_TooMany ?vhm_TooMany ?vty_TooMany ?vse_TooMany ?vhg_NoCount ?vhk_NoCount ?vhs_NoCount ?vhd_NoCount ?vha_NoCount ?vhm_NoCount ?vty_NoCount ?vse_NoCount ?w_TooMany_BerthError ?w_TooMany_NoCount ?w_TooMany_NoQuay ?w_TooMany_NoWishes ?w_TooMany_TooMany ?w_TooMany_V
    (case a_is_number => k_is)
    (case l_is_number => k_is)
    (case cI_is_number => k_is)
    (case kI_is_number => k_is)
    (case a_is_from_to => k_is)
    (case l_is_from_to => k_is)
    (case cI_is_from_to => k_is)
    (case kI_is_from_to => k_is)
    (case a_is_row => k_is)
    (case l_is_row => k_is)
    (case cI_is_row => k_is)
    (case kI_is_row => k_is)
    (case a_check_quay => k_is)
    (case l_check_quay => k_is)
    (case cI_check_quay => k_is)
    (case kI_check_quay => k_is)
    (case a_check_wishes => k_is)
    (case l_check_wishes => k_is)
    (case cI_check_wishes => k_is)
    (case kI_check_wishes => k_is)
    (case a_first_free => k_is)
    (case l_first_free => k_is)
    (case cI_first_free => k_is)
    (case kI_first_free => k_is)
    (case a_first_free_round => k_is)
    (case l_first_free_round => k_is)
    (case cI_first_free_round => k_is)
    (case kI_first_free_round => k_is)
    (case a_placed_round => k_is)
    (case l_placed_round => k_is)
    (case cI_placed_round => k_is)
    (case kI_placed_round => k_is)
    (case a_left_over => k_is)
    (case l_left_over => k_is)
    (case cI_left_over => k_is)
    (case kI_left_over => k_is)
    (case a_turned => k_is)
    (case l_turned => k_is)
    (case cI_turned => k_is)
    (case kI_turned => k_is)
    (case a_l_cell_at => k_is)
    (case l_l_cell_at => k_is)
    (case cI_l_cell_at => k_is)
    (case kI_l_cell_at => k_is)
    (case a_l_quay => k_is)
    (case l_l_quay => k_is)
    (case cI_l_quay => k_is)
    (case kI_l_quay => k_is)
    (case a_l_wishes => k_is)
    (case l_l_wishes => k_is)
    (case cI_l_wishes => k_is)
    (case kI_l_wishes => k_is)
    (case a_l_round => k_is)
    (case l_l_round => k_is)
    (case cI_l_round => k_is)
    (case kI_l_round => k_is)
    (case a_l_refused => k_is)
    (case l_l_refused => k_is)
    (case cI_l_refused => k_is)
    (case kI_l_refused => k_is)
    (case a_law => k_is)
    (case l_law => k_is)
    (case cI_law => k_is)
    (case kI_law => k_is)
    (case z_ValueError => k_is)
    (case z_int => k_is)
    (case z_isinstance => k_is)
    (case z_len => k_is)
    (case z_list => k_is)
    (case z_min => k_is)
    (case z_range => k_is)
    (case z_sorted => k_is)
    (case z_tuple => k_is)
    (case z_type => k_is)
    (case y_MOST => k_is)
    (case xg_BerthError => k_is)
    (case xx_BerthError => k_exc)
    (case xk_BerthError => k_is)
    (case xb_BerthError => k_is)
    (case xt_BerthError => k_is)
    (case xg_NoCount => k_is)
    (case xx_NoCount => k_exc)
    (case xk_NoCount => k_is)
    (case xb_NoCount => k_is)
    (case xt_NoCount => k_is)
    (case xg_NoQuay => k_is)
    (case xx_NoQuay => k_exc)
    (case xk_NoQuay => k_is)
    (case xb_NoQuay => k_is)
    (case xt_NoQuay => k_is)
    (case xg_NoWishes => k_is)
    (case xx_NoWishes => k_exc)
    (case xk_NoWishes => k_is)
    (case xb_NoWishes => k_is)
    (case xt_NoWishes => k_is)
    (case xg_TooMany => k_is)
    (case xx_TooMany => k_exc)
    (case xk_TooMany => k_is)
    (case xb_TooMany => k_is)
    (case xt_TooMany => k_is)
    (case v_hn => k_is)
    (case v_ht => k_is)
    (case vhg_BerthError => k_is)
    (case vhk_BerthError => k_is)
    (case vhs_BerthError => k_is)
    (case vhd_BerthError => k_is)
    (case vha_BerthError => k_is)
    (case vhm_BerthError => k_is)
    (case vty_BerthError => k_is)
    (case vse_BerthError => k_is)
    (case vhg_NoQuay => k_is)
    (case vhk_NoQuay => k_is)
    (case vhs_NoQuay => k_is)
    (case vhd_NoQuay => k_is)
    (case vha_NoQuay => k_is)
    (case vhm_NoQuay => k_is)
    (case vty_NoQuay => k_is)
    (case vse_NoQuay => k_is)
    (case vhg_NoWishes => k_is)
    (case vhk_NoWishes => k_is)
    (case vhs_NoWishes => k_is)
    (case vhd_NoWishes => k_is)
    (case vha_NoWishes => k_is)
    (case vhm_NoWishes => k_is)
    (case vty_NoWishes => k_is)
    (case vse_NoWishes => k_is)
    (case vhg_TooMany => k_is)
    (case vhk_TooMany => k_is)
    (case vhs_TooMany => k_is)
    (case vhd_TooMany => k_is)
    (case vha_TooMany => k_is)
    (case vhm_TooMany => k_is)
    (case vty_TooMany => k_is)
    (case vse_TooMany => k_is)
    (case vhg_NoCount => k_is)
    (case vhk_NoCount => k_is)
    (case vhs_NoCount => k_is)
    (case vhd_NoCount => k_is)
    (case vha_NoCount => k_is)
    (case vhm_NoCount => k_is)
    (case vty_NoCount => k_is)
    (case vse_NoCount => k_is)
    (case w_TooMany_BerthError => k_is)
    (case w_TooMany_NoCount => k_is)
    (case w_TooMany_NoQuay => k_is)
    (case w_TooMany_NoWishes => k_is)
    (case w_TooMany_TooMany => k_is)
    (case w_TooMany_V => k_is)

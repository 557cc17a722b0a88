import PyProof.Rows.All
import Wide.All
import OpenK.AllK
import Wide.FinOn
import HandS.ForMost
import HandS.ForExc
import HandS.More
import HandS.Walk
import HandS.SortInts
import HandS.SetFor
import HandS.Style
import HandS.RevRange
import HandS.TupAny
import HandS.TupMul
import HandS.IsInst
import HandS.Conv
import HandS.ExcIs
import HandS.ExcCtx
import HandS.SortKw
import HandS.Remove
import HandS.TupLe
import HandS.Zip
import HandS.TupSets
import HandS.Small
import KE.DatumOrd
import KE.DatumMore
import KE.KSortedM
import KE.KStateDown
import KE.KDictPairs
import KE.KDictList
import KE.KDictIter
import KE.KDictSum
import HandS.ClsMeth
import KE.KSuperObj
import KE.KSuper
import KE.RegKSuper
import KE.KBoundM
import PySem.Challenge.RW_berthrow_k12_whole_quays_kept
set_option Elab.async false
set_option linter.all false
set_option maxRecDepth 100000
set_option maxHeartbeats 4000000
namespace Br
open PySem PySem.Spec PyProof.Rows L2
/-! ### addresses of what the top has made, by name -/
structure Ad where
  f_is_number : Addr := 0
  f_is_from_to : Addr := 0
  f_is_row : Addr := 0
  f_check_quay : Addr := 0
  f_check_wishes : Addr := 0
  f_first_free : Addr := 0
  f_placed : Addr := 0
  f_taken : Addr := 0
  f_gone_on : Addr := 0
  f_is_good : Addr := 0
  f_crowded : Addr := 0
  f_placed_round : Addr := 0
  f_left_over : Addr := 0
  f_turned : Addr := 0
  f_turning : Addr := 0
  f_how_many : Addr := 0
  f_first_row : Addr := 0
  f_last_row : Addr := 0
  f_next_row : Addr := 0
  f_p_check_ships : Addr := 0
  f_l_cell_at : Addr := 0
  f_l_mix : Addr := 0
  f_l_quay : Addr := 0
  f_l_wishes : Addr := 0
  f_l_placed : Addr := 0
  f_l_whole : Addr := 0
  f_l_good : Addr := 0
  f_l_crowded : Addr := 0
  f_l_order : Addr := 0
  f_l_round : Addr := 0
  f_l_refused : Addr := 0
  f_l_due : Addr := 0
  f_l_caught : Addr := 0
  f_l_lowered : Addr := 0
  f_first_free_round : Addr := 0
  f_check_full_row : Addr := 0
  f_tree_of : Addr := 0
  f_wishes_of : Addr := 0
  f_p_check_knots : Addr := 0
  f_lies : Addr := 0
  f_reaches : Addr := 0
  f_rows_to : Addr := 0
  f_p_check_order : Addr := 0
  f_is_name : Addr := 0
  f_written : Addr := 0
  f_read : Addr := 0
  f_p_parts : Addr := 0
  f_p_pair : Addr := 0
  f_p_number : Addr := 0
  f_p_check_name : Addr := 0
  f_l_asked : Addr := 0
  f_l_word : Addr := 0
  f_l_told : Addr := 0
  f_l_odd : Addr := 0
  f_l_no_quay : Addr := 0
  f_l_full : Addr := 0
  f_l_tree : Addr := 0
  f_l_drawn : Addr := 0
  f_l_hangs : Addr := 0
  f_l_right : Addr := 0
  f_l_lying : Addr := 0
  f_l_words : Addr := 0
  f_l_done : Addr := 0
  f_l_stands : Addr := 0
  f_l_nearer : Addr := 0
  f_l_read : Addr := 0
  f_l_text : Addr := 0
  f_l_odd_text : Addr := 0
  f_law : Addr := 0
  f_Q_init : Addr := 0
  f_Q_come : Addr := 0
  f_Q_leave : Addr := 0
  f_Q_where : Addr := 0
  f_Q_all_ships : Addr := 0
  f_Q_free_ones : Addr := 0
  f_Q_size : Addr := 0
  f_Q_kind : Addr := 0
  f_Q_first_free : Addr := 0
  f_Q_held : Addr := 0
  f_Q_check_there : Addr := 0
  f_R_init : Addr := 0
  f_R_come : Addr := 0
  f_R_leave : Addr := 0
  f_R_where : Addr := 0
  f_R_all_ships : Addr := 0
  f_R_free_ones : Addr := 0
  f_R_size : Addr := 0
  f_R_kind : Addr := 0
  f_R_first_free : Addr := 0
  c_Quay : Addr := 0
  c_Round : Addr := 0
  e_BerthError : Addr := 0
  e_NoQuay : Addr := 0
  e_NoWishes : Addr := 0
  e_TooMany : Addr := 0
  e_NoCount : Addr := 0
  e_NoTree : Addr := 0
  e_NoOrder : Addr := 0
  e_NoName : Addr := 0
  e_Taken : Addr := 0
  e_NoWish : Addr := 0
  e_NoRoom : Addr := 0
  e_NoShip : Addr := 0
  e_NoText : Addr := 0
/-- a def as it stands behind the top -/
structure DF (K : PySem.W.Frag) (mg : Str → Option Value) (x : Str) (st : Stmt) (ps : List Str) (f : Addr) : Prop where
  ex : ∃ fd, Fun K x x st f fd ∧ Binds K fd ps []
  g : mg x = some (.ref f)
/-- a def that keeps its promise, ready to be called by its name -/
structure Cb (P : Program) (w : World) (K : PySem.W.Frag) (mg : Str → Option Value) (base : Heap) (CX : CXT) (k : Nat) (x : Str) (f : Addr) (ps : List Str) (sp : Sp) : Prop where
  ex : ∃ fd, FnOk P w K mg base CX k f fd ps sp ∧ Binds K fd ps []
  g : mg x = some (.ref f)
  kp : PySem.W.keepIn K (.ref f) = true
/-- an own exception's class -/
structure ExF (K : PySem.W.Frag) (mg : Str → Option Value) (x : Str) (c : Addr) : Prop where
  g : mg x = some (.ref c)
  x : PySem.W.excIn K c [.type "ValueError", .type "Exception", .type "BaseException", .type "object"] "ValueError.__new__" = true
  k : PySem.W.keepIn K (.ref c) = true
  b : PySem.W.subIn K (.ref c) (.type "BaseException") = some true
  t : PySem.W.typeIn K (.ref c) = some (.type "type")
theorem df_mk {K : PySem.W.Frag} {mg : Str → Option Value} {x : Str} {st : Stmt} {ps : List Str} {f : Addr} {fd : FuncData} (F : Fun K x x st f fd)
    (h : ∀ (kV doc pm : Value) (an : Option Addr) (cdv ct : Value) (us : List Value), us.length = ps.length → bindArgs (PySem.W.fnOf x x (defArgs st) (defBody st) (defScope st) .none kV doc pm an cdv ct) ⟨us, []⟩ = pure (ps.zip us)) (g : mg x = some (.ref f)) : DF K mg x st ps f :=
  ⟨⟨fd, F, F.binds h⟩, g⟩
/-! ### readings by short names -/
def rAddI : R2 := rI0 fun i j => .int (i + j)
def rSubI : R2 := rI0 fun i j => .int (i - j)
def rMulI : R2 := rI CMul fun i j => .int (i * j)
def rModI : R2 := rI (fun _ j => 0 < j) fun i j => .int (i % j)
def rDivI : R2 := rI CDiv fun i j => .int (i / j)
def rPowI : R2 := rI CPow fun i j => .int (i ^ j.toNat)
def rLtI : R2 := rI0 fun i j => .bl (decide (i < j))
def rLeI : R2 := rI0 fun i j => .bl (decide (i ≤ j))
def rGtI : R2 := rI0 fun i j => .bl (decide (j < i))
def rGeI : R2 := rI0 fun i j => .bl (decide (j ≤ i))
def rIsTyB : R2 := fun x y H Q => ∃ a b, x = .ty a ∧ y = .ty b ∧ Q (.bl (decide (a = b))) H
def rIsB1 : R2 := fun x y H Q => ∃ a b, x = .bl a ∧ y = .bl b ∧ Q (.bl (decide (a = b))) H
def rLenSq (K : PySem.W.Frag) : List V → Hp → VK → Prop := fun xs H Q => ∃ p ys, xs = [.ref p] ∧ (SqL K H p ys ∨ SqT K H p ys) ∧ Q (.int ys.length) H
def rAddStr : R2 := fun x y H Q => ∃ i j, x = .str i ∧ y = .str j ∧ i.length + j.length ≤ sizeLine ∧ Q (.str (i ++ j)) H
def rMin2 : List V → Hp → VK → Prop := fun xs H Q => ∃ i j, xs = [.int i, .int j] ∧ Q (.int (if j < i then j else i)) H
def rMax2 : List V → Hp → VK → Prop := fun xs H Q => ∃ i j, xs = [.int i, .int j] ∧ Q (.int (if j > i then j else i)) H
def rInt1 : List V → Hp → VK → Prop := fun xs H Q => (∃ i, xs = [.int i] ∧ Q (.int i) H) ∨ ∃ k, xs = [.bl k] ∧ Q (.int (if k then 1 else 0)) H
def rListOf (K : PySem.W.Frag) : List V → Hp → VK → Prop := fun xs H Q => ∃ p ys, xs = [.ref p] ∧ (SqL K H p ys ∨ SqT K H p ys) ∧ ∀ l, H l = none → Q (.ref l) (upd H l (.lst ys))
def rTupleOf (K : PySem.W.Frag) : List V → Hp → VK → Prop := fun xs H Q => ∃ p ys, xs = [.ref p] ∧ ((SqL K H p ys ∧ ∀ l, H l = none → Q (.ref l) (upd H l (.tup ys))) ∨ (SqT K H p ys ∧ Q (.ref p) H))
def ipAdd : TIp := ipI fun i j => i + j
def ipSub : TIp := ipI fun i j => i - j
def tTru (K : PySem.W.Frag) (te : TE) : TT := fun σ H Q => te σ H fun x H' => ∃ k, TruV K x H' k ∧ Q k H'
def tRaise (c : Addr) (E : XK) : TS := fun _ _ H => E (.ref c) none H
def iSeq (K : PySem.W.Frag) (tl : TE) : TI := fun σ H R => iList K tl σ H R ∨ iTup K tl σ H R
def SqA (K : PySem.W.Frag) (H : Hp) (a : Addr) (xs : List V) : Prop := SqL K H a xs ∨ SqT K H a xs
theorem item_of0 {ns : List Int} {i : Nat} {y : V} (hi : (ns.map V.int)[i]? = some y) : ∃ z, ns[i]? = some z ∧ y = V.int z := by
  rw [List.getElem?_map] at hi
  cases e : ns[i]? with
  | none => rw [e] at hi; cases hi
  | some z => rw [e] at hi; exact ⟨z, rfl, (Option.some.inj hi).symm⟩
/-! ### rules -/
section
variable {X : Cx}
theorem pe_gl {x : Str} {v : V} {pos : Pos} (hg : Gl X x) (h : ∃ u, X.mg x = some u ∧ RelV v u) (hd : (x == ("__debug__" : Str)) = false := by decide) : PE X (.Name x pos) (tC v) := by
  obtain ⟨u, hm, r⟩ := h
  exact pe_glob hg hm r hd
theorem pe_cb {CX : CXT} {k : Nat} {f : Addr} {ps : List Str} {sp : Sp} {E : XK} {x : Str} {p pos : Pos} {e : Expr} {es : List Expr} {t : TA} (G : Cb X.prog X.w X.K X.mg X.base CX k x f ps sp) (hr : Room k X.A) (hg : Gl X x) (hx : Passes CX X E) (ha : PA X (e :: es) t)
    (hdb : (x == ("__debug__" : Str)) = false := by decide) (he : starEach (e :: es) X.env = (false, eval e X.env) :: starEach es X.env := by rfl) (hpl : (backTo pos (starEach es X.env)).any (·.1) = false := by rfl) :
    PE X (.Call (.Name x p) (e :: es) [] pos) (tCall sp [] E t) := by
  obtain ⟨⟨fd, F, b⟩, g, kp⟩ := G
  exact pe_call F hr hg g kp b .nil hx ha hdb he hpl
theorem pe_cbS {CX : CXT} {k : Nat} {f : Addr} {ps : List Str} {sp : Sp} {E : L2.St → XK} {x : Str} {p pos : Pos} {e : Expr} {es : List Expr} {t : TA} (G : Cb X.prog X.w X.K X.mg X.base CX k x f ps sp) (hr : Room k X.A) (hg : Gl X x) (hx : ∀ σ, PassesAt CX X σ (E σ)) (ha : PA X (e :: es) t)
    (hdb : (x == ("__debug__" : Str)) = false := by decide) (he : starEach (e :: es) X.env = (false, eval e X.env) :: starEach es X.env := by rfl) (hpl : (backTo pos (starEach es X.env)).any (·.1) = false := by rfl) :
    PE X (.Call (.Name x p) (e :: es) [] pos) (tCallS sp E t) := by
  obtain ⟨⟨fd, F, b⟩, g, kp⟩ := G
  exact pe_callS F hr hg g kp b hx ha hdb he hpl
theorem pi_seq {tg l : Expr} {tl : TE} (hl : PE X l tl) : PI X tg l (iSeq X.K tl) :=
  ⟨fun pins s σ H R I h => h.elim (fun h => (pi_list hl).run pins s σ H R I h) (fun h => (pi_tup hl).run pins s σ H R I h)⟩
/-- xs[i], by values: for xs[i] += e -/
theorem gt_list : PGet X (rIxL X.K) := by
  intro pins s σ H x y v u Q I rx ry h
  obtain ⟨p, xs, i, z, rfl, rfl, hq, he, q⟩ := h
  cases rx
  obtain ⟨t, rfl⟩ := ry
  obtain ⟨its, r, pl, hz⟩ := I.list hq
  obtain ⟨j, h1, h2, h3, h4, h5⟩ := atI_get he
  obtain ⟨w, ew, rw'⟩ := r.get h2
  have hl := r.length
  have hn := line63
  have fin : EP X pins σ Q w s := ⟨z, H, I, rw', q⟩
  by_cases h0 : 0 ≤ i
  · have hj : i.toNat = j := by
      rw [seqIndex_of h0 h5] at h1
      exact Option.some.inj h1
    exact wpAny_getItem_list pl.isList h0 (by omega) (by rw [hj]; simpa using ew) fin
  · have hj : (i + (its.toArray.size : Int)).toNat = j := by
      rw [seqIndex_neg (by omega) h4] at h1
      rw [List.size_toArray, ← hl]
      exact Option.some.inj h1
    exact wpAny_getItem_list_neg pl.isList (by omega) (by rw [List.size_toArray] <;> omega) (by omega) (by rw [hj]; simpa using ew) fin
/-! ### min(xs, default=d), xs a list of whole numbers -/
theorem minOf_int : ∀ (ys : List Int) (y : Int), PySem.W.minOf y ys ∈ y :: ys ∧ ∀ z ∈ y :: ys, PySem.W.minOf y ys ≤ z
  | [], y => ⟨List.mem_singleton.mpr rfl, fun z hz => by rw [List.mem_singleton.mp hz]; exact Int.le_refl _⟩
  | x :: r, y => by
    have e : PySem.W.minOf y (x :: r) = PySem.W.minOf (if x < y then x else y) r := by
      show PySem.W.minOf (if (decide (x < y)) = true then x else y) r = _
      by_cases h : x < y <;> simp [h]
    obtain ⟨h1, h2⟩ := minOf_int r (if x < y then x else y)
    rw [e]
    refine ⟨?_, fun z hz => ?_⟩
    · rcases List.mem_cons.mp h1 with k | k
      · rw [k]
        by_cases h : x < y <;> simp [h]
      · simp [k]
    · have hc := h2 _ (List.mem_cons_self)
      rcases List.mem_cons.mp hz with k | k
      · subst k
        by_cases h : x < z
        · rw [if_pos h] at hc ⊢
          omega
        · rw [if_neg h] at hc ⊢
          exact hc
      · rcases List.mem_cons.mp k with k | k
        · subst k
          by_cases h : z < y
          · rw [if_pos h] at hc ⊢
            exact hc
          · rw [if_neg h] at hc ⊢
            omega
        · exact h2 z (List.mem_cons_of_mem _ k)
def rMinD (K : PySem.W.Frag) : List V → List V → Hp → VK → Prop := fun vs zs H Q => ∃ (p : Addr) (d : V) (ns : List Int), vs = [.ref p] ∧ zs = [d] ∧ SqL K H p (ns.map V.int) ∧
  (ns = [] → Q d H) ∧ ∀ m, m ∈ ns → (∀ y ∈ ns, m ≤ y) → Q (.int m) H
def tMinD (K : PySem.W.Frag) (ta td : TE) : TE := tCKw (rMinD K) (tCons ta tNil) (tCons td tNil)
theorem dp_ints {K : PySem.W.Frag} {H : Hp} : ∀ ns : List Int, DpAll K H (ns.map V.int) (ns.map PyData.int)
  | [] => .nil
  | n :: r => .cons (.int n) (dp_ints r)
theorem cr_minD (hc : X.calm = true) (hu : X.A.units + 64 < cLine) : CallRK X (.builtin "min") [Str.ofString "default"] (rMinD X.K) := by
  intro pins s σ H vs zs us ws Q I r rz h
  obtain ⟨p, d, ns, rfl, rfl, hs, q0, q1⟩ := h
  obtain ⟨w, rfl, rw'⟩ := vals1 rz
  obtain ⟨its, rv, hl, _⟩ := I.list hs
  rw [Vals.ref1 r]
  obtain ⟨as, ra⟩ := Dp.readsAll I (ns.map PyData.int) _ its (dp_ints ns) rv
  have HA : PySem.W.HoldAll s.heap its.toArray.toList ns := ⟨as, ra⟩
  refine PySem.W.min_list_datum_default (I.ok.hd hc) hl.isList HA (by show X.A.units + 1 + PySem.W.Datum.depth Int < cLine; have e : PySem.W.Datum.depth Int = 0 := rfl; rw [e]; omega) (fun e h' tk hk => ⟨d, H, I.kept hk, rw', q0 e⟩) fun y ys i v h' tk e hi hv hk => ?_
  subst e
  obtain ⟨as2, r2⟩ := hv
  have hi' : its[i]? = some v := by simpa using hi
  have hlen := rv.length
  have hlt : i < ((y :: ys).map V.int).length := by rw [hlen]; exact (List.getElem?_eq_some_iff.mp hi').1
  obtain ⟨u, hu1, hu2⟩ := rv.get (List.getElem?_eq_getElem hlt)
  rw [hi'] at hu1
  cases hu1
  obtain ⟨z, hz, ez⟩ := item_of0 (List.getElem?_eq_getElem hlt)
  rw [ez] at hu2
  obtain ⟨t, rfl⟩ := hu2
  have em : PySem.W.minOf y ys = z := by
    have r2' : Reads h' (.int z t) (.int (PySem.W.minOf y ys)) as2 := r2
    cases r2'
    rfl
  obtain ⟨m1, m2⟩ := minOf_int ys y
  rw [em] at m1 m2
  exact ⟨.int z, H, I.kept hk, ⟨_, rfl⟩, q1 z m1 m2⟩
theorem pe_minD {p pos kpos : Pos} {e d : Expr} {ta td : TE} (hc : X.calm = true) (hu : X.A.units + 64 < cLine) (hg : Gl X "min") (hm : X.mg "min" = none) (ha : PE X e ta) (hd : PE X d td)
    (he : backTo pos (starEach (e :: []) X.env) = (false, eval e X.env) :: backTo pos (starEach [] X.env) := by rfl) (hse : starEach (e :: []) X.env = (false, eval e X.env) :: starEach [] X.env := by rfl) (hpl : (backTo pos (starEach (e :: []) X.env)).any (·.1) = false := by rfl)
    (hall : (backToKw pos (keywordEach [⟨some (Str.ofString "default"), d, kpos⟩] X.env)).all (·.1.isSome) = true := by rfl) (hnone : (backToKw pos (keywordEach [⟨some (Str.ofString "default"), d, kpos⟩] X.env)).any (·.1.isNone) = false := by rfl)
    (hks : (backToKw pos (keywordEach [⟨some (Str.ofString "default"), d, kpos⟩] X.env)).filterMap (·.1) = [Str.ofString "default"] := by rfl) :
    PE X (.Call (.Name "min" p) [e] [⟨some (Str.ofString "default"), d, kpos⟩] pos) (tMinD X.K ta td) :=
  pe_callBK (cr_minD hc hu) hg hm (by decide +kernel) (pa_cons ha pa_nil hse) (pk_cons hd pk_nil) (by decide) (by decide) he hpl hall hnone hks
end
/-! ### == and != of data -/
def rEqT (K : PySem.W.Frag) : R2 := fun x y H Q => ∃ (α : Type) (_ : DecidableEq α) (_ : PySem.W.Datum α) (a b : α), Dp K H x (PySem.W.Datum.toD a) ∧ Dp K H y (PySem.W.Datum.toD b) ∧ PySem.W.Datum.depth α ≤ 64 ∧ Q (.bl (decide (a = b))) H
def rNeT (K : PySem.W.Frag) : R2 := fun x y H Q => ∃ (α : Type) (_ : DecidableEq α) (_ : PySem.W.Datum α) (a b : α), Dp K H x (PySem.W.Datum.toD a) ∧ Dp K H y (PySem.W.Datum.toD b) ∧ PySem.W.Datum.depth α ≤ 64 ∧ Q (.bl (decide (a ≠ b))) H
section
variable {X : Cx}
theorem op_eqT (hu : X.A.units + 64 < cLine) : OpR X (compareOp .Eq) (rEqT X.K) := by
  intro pins s σ H x y v u Q I rx ry h
  obtain ⟨α, d1, d2, a, b, ha, hb, hd, q⟩ := h
  exact PySem.W.eq_datum (Dp.reads I _ x v ha rx) (Dp.reads I _ y u hb ry) (by omega) ⟨.bl _, H, I, rfl, q⟩
theorem op_neT (hu : X.A.units + 64 < cLine) : OpR X (compareOp .NotEq) (rNeT X.K) := by
  intro pins s σ H x y v u Q I rx ry h
  obtain ⟨α, d1, d2, a, b, ha, hb, hd, q⟩ := h
  exact PySem.W.ne_datum (Dp.reads I _ x v ha rx) (Dp.reads I _ y u hb ry) (by omega) ⟨.bl _, H, I, rfl, q⟩
end
theorem eqT_of {K : PySem.W.Frag} {x y : V} {H : Hp} {Q : VK} {α : Type} [DecidableEq α] [PySem.W.Datum α] {a b : α} (ha : Dp K H x (PySem.W.Datum.toD a)) (hb : Dp K H y (PySem.W.Datum.toD b)) (hd : PySem.W.Datum.depth α ≤ 64) (q : Q (.bl (decide (a = b))) H) : rEqT K x y H Q := ⟨α, _, _, a, b, ha, hb, hd, q⟩
theorem neT_of {K : PySem.W.Frag} {x y : V} {H : Hp} {Q : VK} {α : Type} [DecidableEq α] [PySem.W.Datum α] {a b : α} (ha : Dp K H x (PySem.W.Datum.toD a)) (hb : Dp K H y (PySem.W.Datum.toD b)) (hd : PySem.W.Datum.depth α ≤ 64) (q : Q (.bl (decide (a ≠ b))) H) : rNeT K x y H Q := ⟨α, _, _, a, b, ha, hb, hd, q⟩
theorem ho_ints {K : PySem.W.Frag} {H : Hp} {p : Addr} {ns : List Int} (h : SqL K H p (ns.map V.int)) : Dp K H (.ref p) (PySem.W.Datum.toD ns) := .lst h (dp_ints ns)
/-! ### heaps -/
theorem same_new {H : Hp} {p : Addr} {o : HO} (h : H p = none) : Same H (upd H p o) := fun b x e => by
  rw [upd_ne (ne_of_none e h)]
  exact e
/-- what stood ahead of an object's making stands behind a store into it -/
theorem _root_.L2.Same.store {H H' : Hp} {p : Addr} {o : HO} (s : Same H H') (h : H p = none) : Same H (upd H' p o) := fun b x e => by
  rw [upd_ne (ne_of_none e h)]
  exact s b x e
theorem _root_.L2.Same.seqT {K : PySem.W.Frag} {H H' : Hp} {a : Addr} {xs : List V} (e : Same H H') (h : SqT K H a xs) : SqT K H' a xs := by
  rcases h with (h | ⟨o, h⟩) | h
  · exact .inl (.inl (e _ _ h))
  · exact .inl (.inr ⟨o, e _ _ h⟩)
  · exact .inr h
theorem _root_.L2.Same.seqA {K : PySem.W.Frag} {H H' : Hp} {a : Addr} {xs : List V} (e : Same H H') (h : SqA K H a xs) : SqA K H' a xs := h.elim (fun h => .inl (e.seq h)) (fun h => .inr (e.seqT h))
theorem sqL_of {K : PySem.W.Frag} {H : Hp} {a : Addr} {xs : List V} (h : H a = some (.lst xs)) : SqL K H a xs := .inl (.inl h)
theorem sqT_of {K : PySem.W.Frag} {H : Hp} {a : Addr} {xs : List V} (h : H a = some (.tup xs)) : SqT K H a xs := .inl (.inl h)
/-! ### loops and comprehensions in short -/
theorem for_seq {K : PySem.W.Frag} {a : Addr} {xs : List V} {tl : TE} {g : TG} {tb : TS} {D : Ends} {σ : L2.St} {H0 H : Hp} (ht : ∀ Q : VK, Q (.ref a) H → tl σ H Q) (hA : SqA K H0 a xs) (Pv : Nat → L2.St → Hp → Prop) (h0 : Pv 0 σ H) (hl : ∀ i σ H', Pv i σ H' → Same H0 H')
    (hs : ∀ i x σ H, xs[i]? = some x → Pv i σ H → g x σ H fun σ2 H2 => tb { D with nx := Pv (i + 1), ct := Pv (i + 1), bk := D.nx } σ2 H2) (hd : ∀ σ H, Pv xs.length σ H → D.nx σ H) : tFor (iSeq K tl) g tb D σ H := by
  rcases hA with h | h
  · exact .inl (ht _ ⟨a, rfl, ⟨_, (hl _ _ _ h0).seq h⟩, for_list (K := K) (a := a) Pv h0 (fun i σ H' _ p => (hl i σ H' p).seq h) hs hd⟩)
  · exact .inr (ht _ ⟨a, rfl, ⟨_, (hl _ _ _ h0).seqT h⟩, for_tup (K := K) (a := a) Pv h0 (fun i σ H' _ p => (hl i σ H' p).seqT h) hs hd⟩)
theorem take_more {α : Type} : ∀ {l : List α} {i : Nat} {x : α}, l[i]? = some x → l.take (i + 1) = l.take i ++ [x] := fun {l i x} h => by
  rw [List.take_add_one, h]
  rfl
theorem item_of {ns : List Int} {i : Nat} {y : V} (hi : (ns.map V.int)[i]? = some y) : ∃ z, ns[i]? = some z ∧ y = V.int z := by
  rw [List.getElem?_map] at hi
  cases e : ns[i]? with
  | none => rw [e] at hi; cases hi
  | some z => rw [e] at hi; exact ⟨z, rfl, (Option.some.inj hi).symm⟩
/-- a comprehension over anything that gives n values it 0, it 1 .. and leaves what is tracked; p the test, f the element -/
theorem lc_pure {J : It} {n : Nat} {G : Hp → Prop} {tt : TT} {te : TE} {g : TG} {vs : List Nat} {σ : L2.St} {H1 : Hp} {Qd : Addr → Hp → Prop} {Y : Nat → Hp → V → Hp → Prop} {α : Type} (w : Walk J n G Y) (hn : n < sizeLine) (xs : List α) (hx : xs.length = n) (p : α → Bool) (f : α → V) (hG : ∀ H', Same H1 H' → G H')
    (hs : ∀ i (x : α) (v : V) (H H' : Hp) (R : Bool → V → Hp → Prop), xs[i]? = some x → Same H1 H → Y i H v H' → (∀ y H'', Same H H'' → (p x = true → y = f x) → R (p x) y H'') →
      g v (wipe σ vs) H' fun σ2 H2 => wipe σ2 vs = wipe σ vs ∧ tt σ2 H2 fun b H3 => if b = true then te σ2 H3 fun y H4 => R true y H4 else R false .non H3)
    (hQ : ∀ D H', H1 D = none → Same H1 H' → H' D = some (.lst ((xs.filter p).map f)) → Qd D H') :
    ∀ D, H1 D = none → ∃ W : Nat → Nat → Hp → Prop, (∃ m, W 0 m (upd H1 D (.lst []))) ∧ ∀ i m H, W i m H →
      (J.stop i H ∧ Qd D H) ∨ (J.go i H ∧ ∃ Nx : Hp → Prop, (∀ H', Nx H' → ∃ m', m' < m ∧ W (i + 1) m' H') ∧ ∀ x H', J.yld i H x H' → g x (wipe σ vs) H' fun σ2 H2 => wipe σ2 vs = wipe σ vs ∧ tt σ2 H2 fun b H3 =>
        if b = true then te σ2 H3 fun y H4 => ∃ acc, H4 D = some (.lst acc) ∧ acc.length < sizeLine ∧ Nx (upd H4 D (.lst (acc ++ [y]))) else Nx H3) := by
  intro D hD
  refine lc_it w (fun i H => Same H1 H ∧ H D = some (.lst (((xs.take i).filter p).map f))) ⟨same_new hD, upd_same⟩ (fun i H _ h => hG H h.1) ?_ ?_
  · intro i v H H' hi ⟨s, e⟩ y
    have hi' : i < xs.length := by omega
    have hx' : xs[i]? = some xs[i] := List.getElem?_eq_getElem hi'
    have fin := hs i xs[i] v H H' (fun b y H4 => if b = true then ∃ acc, H4 D = some (.lst acc) ∧ acc.length < sizeLine ∧ (Same H1 (upd H4 D (.lst (acc ++ [y]))) ∧ (upd H4 D (.lst (acc ++ [y]))) D = some (.lst (((xs.take (i + 1)).filter p).map f))) else Same H1 H4 ∧ H4 D = some (.lst (((xs.take (i + 1)).filter p).map f))) hx' s y ?_
    · exact fin
    · intro y H4 s4 hy
      have e4 := s4 _ _ e
      rw [take_more hx', List.filter_append, List.map_append]
      cases hp : p xs[i] with
      | true =>
        rw [if_pos rfl]
        refine ⟨_, e4, ?_, (s.trans s4).store hD, ?_⟩
        · rw [List.length_map]
          refine Nat.lt_of_le_of_lt (List.length_filter_le _ _) (Nat.lt_of_le_of_lt (List.length_take_le _ _) ?_)
          omega
        · rw [upd_same, hy hp]
          simp [List.filter, hp]
      | false =>
        rw [if_neg Bool.false_ne_true]
        refine ⟨s.trans s4, ?_⟩
        rw [e4]
        simp [List.filter, hp]
  · intro H ⟨s, e⟩
    rw [← hx, List.take_length] at e
    exact hQ D H hD s e

/-! ### what is a number, a quay, wishes -/
def isInt : V → Bool
  | .int _ => true
  | _ => false
def inB (lo hi : Int) : V → Bool
  | .int i => decide (lo ≤ i) && decide (i ≤ hi)
  | _ => false
def goodW (n : Nat) (xs : List V) : Bool := decide (xs.length ≤ 400) && xs.all (inB 1 n)
/-- what a check of a quay and of wishes for it comes to: R behind a good one -/
def ChkQ (K : PySem.W.Frag) (a : Ad) (b : V) (H : Hp) (E : XK) (R : Nat → Prop) : Prop := ∃ T, TyB K H b T ∧ ((inB 1 400 b = false ∧ E (.ref a.e_NoQuay) none H) ∨ ∃ n : Nat, b = .int n ∧ 1 ≤ n ∧ n ≤ 400 ∧ R n)
def ChkW (K : PySem.W.Frag) (a : Ad) (b w : V) (H : Hp) (E : XK) (R : Nat → List Int → Addr → Prop) : Prop := ChkQ K a b H E fun n =>
  (∃ T, TyB K H w T ∧ T ≠ "list" ∧ T ≠ "tuple" ∧ E (.ref a.e_NoWishes) none H) ∨
  ∃ p xs, w = .ref p ∧ SqA K H p xs ∧ (∀ x ∈ xs, ∃ T, TyB K H x T) ∧ ((goodW n xs = false ∧ E (.ref a.e_NoWishes) none H) ∨
    ∃ ws : List Int, xs = ws.map V.int ∧ ws.length ≤ 400 ∧ (∀ x ∈ ws, 1 ≤ x ∧ x ≤ n) ∧ R n ws p)
theorem ChkQ.imp {K : PySem.W.Frag} {a : Ad} {b : V} {H : Hp} {E : XK} {R R' : Nat → Prop} (h : ChkQ K a b H E R) (k : ∀ n : Nat, b = .int n → 1 ≤ n → n ≤ 400 → R n → R' n) : ChkQ K a b H E R' := by
  obtain ⟨T, ty, h | ⟨n, e, h1, h2, r⟩⟩ := h
  · exact ⟨T, ty, .inl h⟩
  · exact ⟨T, ty, .inr ⟨n, e, h1, h2, k n e h1 h2 r⟩⟩
theorem ChkW.imp {K : PySem.W.Frag} {a : Ad} {b w : V} {H : Hp} {E : XK} {R R' : Nat → List Int → Addr → Prop} (h : ChkW K a b w H E R)
    (k : ∀ (n : Nat) (ws : List Int) (p : Addr), b = .int n → w = .ref p → 1 ≤ n → n ≤ 400 → SqA K H p (ws.map V.int) → ws.length ≤ 400 → (∀ x ∈ ws, 1 ≤ x ∧ x ≤ n) → R n ws p → R' n ws p) : ChkW K a b w H E R' := by
  refine ChkQ.imp h fun n e h1 h2 r => ?_
  rcases r with r | ⟨p, xs, ew, hs, ht, r | ⟨ws, ex, hl, hb, r⟩⟩
  · exact .inl r
  · exact .inr ⟨p, xs, ew, hs, ht, .inl r⟩
  · exact .inr ⟨p, xs, ew, hs, ht, .inr ⟨ws, ex, hl, hb, k n ws p e ew h1 h2 (ex ▸ hs) hl hb r⟩⟩
/-- a check that is passed -/
theorem ChkQ.ok {K : PySem.W.Frag} {a : Ad} {H : Hp} {E : XK} {R : Nat → Prop} {n : Nat} (h1 : 1 ≤ n) (h2 : n ≤ 400) (r : R n) : ChkQ K a (.int n) H E R := ⟨_, .int _, .inr ⟨n, rfl, h1, h2, r⟩⟩
theorem ChkW.ok {K : PySem.W.Frag} {a : Ad} {H : Hp} {E : XK} {R : Nat → List Int → Addr → Prop} {n : Nat} {ws : List Int} {p : Addr} (h1 : 1 ≤ n) (h2 : n ≤ 400) (hs : SqA K H p (ws.map V.int)) (hl : ws.length ≤ 400) (hb : ∀ x ∈ ws, 1 ≤ x ∧ x ≤ n) (r : R n ws p) : ChkW K a (.int n) (.ref p) H E R :=
  ChkQ.ok h1 h2 (.inr ⟨p, _, rfl, hs, fun x hx => by
    obtain ⟨i, _, rfl⟩ := List.mem_map.mp hx
    exact ⟨_, .int i⟩, .inr ⟨ws, rfl, hl, hb, r⟩⟩)
theorem goodW_ints {n : Nat} {ws : List Int} : goodW n (ws.map V.int) = true ↔ ws.length ≤ 400 ∧ ∀ x ∈ ws, 1 ≤ x ∧ x ≤ n := by
  unfold goodW
  simp [inB]
theorem inB_int {lo hi : Int} {v : V} (h : inB lo hi v = true) : ∃ i, v = .int i ∧ lo ≤ i ∧ i ≤ hi := by
  cases v with
  | int i =>
    simp only [inB, Bool.and_eq_true, decide_eq_true_eq] at h
    exact ⟨i, rfl, h⟩
  | _ => cases h
theorem goodW_of {n : Nat} {xs : List V} (h : goodW n xs = true) : ∃ ws : List Int, xs = ws.map V.int ∧ ws.length ≤ 400 ∧ ∀ x ∈ ws, 1 ≤ x ∧ x ≤ n := by
  unfold goodW at h
  simp only [Bool.and_eq_true, decide_eq_true_eq, List.all_eq_true] at h
  obtain ⟨h1, h2⟩ := h
  have e : ∃ ws : List Int, xs = ws.map V.int := by
    clear h1
    induction xs with
    | nil => exact ⟨[], rfl⟩
    | cons x r ih =>
      obtain ⟨ws, e⟩ := ih fun y hy => h2 y (List.mem_cons_of_mem _ hy)
      obtain ⟨i, ei, _⟩ := inB_int (h2 x List.mem_cons_self)
      exact ⟨i :: ws, by rw [ei, e]; rfl⟩
  obtain ⟨ws, rfl⟩ := e
  refine ⟨ws, rfl, by simpa using h1, fun x hx => ?_⟩
  obtain ⟨i, ei, h3, h4⟩ := inB_int (h2 (.int x) (List.mem_map_of_mem hx))
  cases ei
  exact ⟨h3, h4⟩
theorem tyb_int {K : PySem.W.Frag} {H : Hp} {x : V} {T : String} (h : TyB K H x T) : decide (T = "int") = isInt x := by
  cases h <;> first | rfl | decide
theorem tyb_ref {K : PySem.W.Frag} {H : Hp} {x : V} {T : String} (h : TyB K H x T) (e : T = "list" ∨ T = "tuple") : ∃ p xs, x = .ref p ∧ SqA K H p xs := by
  cases h with
  | lst h => exact ⟨_, _, rfl, .inl h⟩
  | tup h => exact ⟨_, _, rfl, .inr h⟩
  | non => rcases e with e | e <;> exact absurd e (by decide)
  | bl => rcases e with e | e <;> exact absurd e (by decide)
  | int => rcases e with e | e <;> exact absurd e (by decide)
  | str => rcases e with e | e <;> exact absurd e (by decide)
  | byt => rcases e with e | e <;> exact absurd e (by decide)
  | dK => rcases e with e | e <;> exact absurd e (by decide)
theorem SqA.ty {K : PySem.W.Frag} {H : Hp} {p : Addr} {xs : List V} (h : SqA K H p xs) : ∃ T, TyB K H (.ref p) T ∧ (decide (T = "list") || decide (T = "tuple")) = true := by
  rcases h with h | h
  · exact ⟨_, .lst h, by decide⟩
  · exact ⟨_, .tup h, by decide⟩
/-! is_number, is_from_to, is_row -/
def sp_is_number (K : PySem.W.Frag) (a : Ad) : Sp := fun vs H Q _ => ∃ x T, vs = [x] ∧ TyB K H x T ∧ Q (.bl (isInt x)) H
abbrev N_is_number : List Str := ["thing"]
def t_is_number (K : PySem.W.Frag) (a : Ad) : TS :=
  (tRet (tOp rIsTyB (tCB (rTyp K) (tCons (tVar 0) tNil)) (tC (.ty "int"))))
theorem len_is_number {K : PySem.W.Frag} {a : Ad} {vs : List V} {H : Hp} {Q : VK} {E : XK} (h : sp_is_number K a vs H Q E) : vs.length = 1 := by
  obtain ⟨x, T, rfl, _⟩ := h
  rfl
theorem pu_is_number {K : PySem.W.Frag} {a : Ad} {vs : List V} {H : Hp} {Q : VK} {E : XK} (h : sp_is_number K a vs H Q E) : t_is_number K a { nx := fun _ H' => Q .non H', rt := Q } (start N_is_number vs) H := by
  obtain ⟨x, T, rfl, ty, q⟩ := h
  refine ⟨x, rfl, x, T, rfl, ty, _, _, rfl, rfl, ?_⟩
  rw [tyb_int ty]
  exact q
def sp_is_from_to (K : PySem.W.Frag) (a : Ad) : Sp := fun vs H Q _ => ∃ lo hi x T, vs = [.int lo, .int hi, x] ∧ TyB K H x T ∧ Q (.bl (inB lo hi x)) H
abbrev N_is_from_to : List Str := ["low", "high", "thing"]
def t_is_from_to (K : PySem.W.Frag) (a : Ad) : TS :=
  (tRet (tAndV (tCall (sp_is_number K a) [] E0 (tCons (tVar 2) tNil)) (tChain rLeI rLeI (tVar 0) (tVar 2) (tVar 1))))
theorem len_is_from_to {K : PySem.W.Frag} {a : Ad} {vs : List V} {H : Hp} {Q : VK} {E : XK} (h : sp_is_from_to K a vs H Q E) : vs.length = 3 := by
  obtain ⟨lo, hi, x, T, rfl, _⟩ := h
  rfl
theorem pu_is_from_to {K : PySem.W.Frag} {a : Ad} {vs : List V} {H : Hp} {Q : VK} {E : XK} (h : sp_is_from_to K a vs H Q E) : t_is_from_to K a { nx := fun _ H' => Q .non H', rt := Q } (start N_is_from_to vs) H := by
  obtain ⟨lo, hi, x, T, rfl, ty, q⟩ := h
  refine ⟨x, rfl, x, T, rfl, ty, isInt x, rfl, ?_⟩
  cases x with
  | int i =>
    refine iteT ⟨_, rfl, _, rfl, lo, i, rfl, rfl, _, rfl, ?_⟩
    by_cases h1 : lo ≤ i
    · rw [decide_eq_true h1]
      refine iteT ⟨_, rfl, i, hi, rfl, rfl, ?_⟩
      have e : inB lo hi (.int i) = decide (i ≤ hi) := by simp [inB, h1]
      rw [e] at q
      exact q
    · rw [decide_eq_false h1]
      have e : inB lo hi (.int i) = false := by simp [inB, h1]
      rw [e] at q
      exact iteF q
  | _ => exact iteF q
/-! check_quay, check_wishes -/
def sp_check_quay (K : PySem.W.Frag) (a : Ad) : Sp := fun vs H Q E => ∃ b, vs = [b] ∧ ChkQ K a b H E fun _ => Q .non H
abbrev N_check_quay : List Str := ["berths"]
def t_check_quay (K : PySem.W.Frag) (a : Ad) (E : XK) : TS :=
  (tIfS (tNot (tB (tCall (sp_is_from_to K a) [] E0 (tCons (tC (.int 1)) (tCons (tC (.int 400)) (tCons (tVar 0) tNil)))))) (tRaise a.e_NoQuay E) tNext)
theorem len_check_quay {K : PySem.W.Frag} {a : Ad} {vs : List V} {H : Hp} {Q : VK} {E : XK} (h : sp_check_quay K a vs H Q E) : vs.length = 1 := by
  obtain ⟨b, rfl, _⟩ := h
  rfl
theorem pu_check_quay {K : PySem.W.Frag} {a : Ad} {vs : List V} {H : Hp} {Q : VK} {E : XK} (h : sp_check_quay K a vs H Q E) : t_check_quay K a E { nx := fun _ H' => Q .non H', rt := Q } (start N_check_quay vs) H := by
  obtain ⟨b, rfl, T, ty, h⟩ := h
  refine ⟨b, rfl, 1, 400, b, T, rfl, ty, inB 1 400 b, rfl, ?_⟩
  rcases h with ⟨e, q⟩ | ⟨n, rfl, h1, h2, q⟩
  · rw [e]
    exact iteT q
  · have e : inB 1 400 (.int n) = true := by simp [inB]; omega
    rw [e]
    exact iteF q
/-! ### the straight quay: the mathematics of laying -/
/-- the first free one of k berths from w on -/
def ffr (occ : Int → Bool) : Nat → Int → Option Int
  | 0, _ => none
  | k + 1, w => if occ w = true then ffr occ k (w + 1) else some w
def ffree (n : Nat) (occ : Int → Bool) (w : Int) : Option Int := ffr occ ((n : Int) + 1 - w).toNat w
def setO (occ : Int → Bool) (b : Int) : Int → Bool := fun x => decide (x = b) || occ x
def pstep (n : Nat) (s : (Int → Bool) × List (Option Int)) (w : Int) : (Int → Bool) × List (Option Int) :=
  match ffree n s.1 w with
  | none => (s.1, s.2 ++ [none])
  | some b => (setO s.1 b, s.2 ++ [some b])
def prun (n : Nat) (ws : List Int) : (Int → Bool) × List (Option Int) := ws.foldl (pstep n) (fun _ => false, [])
def placedL (n : Nat) (ws : List Int) : List (Option Int) := (prun n ws).2
def vO : Option Int → V
  | none => .non
  | some b => .int b
def heldL (n : Nat) (occ : Int → Bool) : List V := (List.range (n + 1)).map fun (i : Nat) => V.bl (occ (i : Int))
theorem ffr_spec {occ : Int → Bool} : ∀ (k : Nat) (w : Int), (∀ b, ffr occ k w = some b → w ≤ b ∧ b < w + k ∧ occ b = false ∧ ∀ x, w ≤ x → x < b → occ x = true) ∧ (ffr occ k w = none → ∀ x, w ≤ x → x < w + k → occ x = true)
  | 0, w => ⟨fun b h => (by cases h), fun _ x h1 h2 => by omega⟩
  | k + 1, w => by
    obtain ⟨i1, i2⟩ := ffr_spec (occ := occ) k (w + 1)
    unfold ffr
    cases e : occ w with
    | true =>
      rw [if_pos rfl]
      refine ⟨fun b h => ?_, fun h x h1 h2 => ?_⟩
      · obtain ⟨j1, j2, j3, j4⟩ := i1 b h
        refine ⟨by omega, by omega, j3, fun x h1 h2 => ?_⟩
        by_cases z : x = w
        · rw [z]; exact e
        · exact j4 x (by omega) h2
      · by_cases z : x = w
        · rw [z]; exact e
        · exact i2 h x (by omega) (by omega)
    | false =>
      rw [if_neg Bool.false_ne_true]
      refine ⟨fun b h => ?_, fun h => (by cases h)⟩
      cases h
      exact ⟨Int.le_refl _, by omega, e, fun x h1 h2 => by omega⟩
theorem ffree_some {n : Nat} {occ : Int → Bool} {w b : Int} (h : ffree n occ w = some b) : w ≤ b ∧ b ≤ n ∧ occ b = false ∧ ∀ x, w ≤ x → x < b → occ x = true := by
  obtain ⟨h1, h2, h3, h4⟩ := (ffr_spec _ _).1 b h
  exact ⟨h1, by omega, h3, h4⟩
theorem ffree_none {n : Nat} {occ : Int → Bool} {w : Int} (h : ffree n occ w = none) : ∀ x, w ≤ x → x ≤ n → occ x = true := fun x h1 h2 => (ffr_spec _ _).2 h x h1 (by omega)
theorem prun_more {n : Nat} {ws : List Int} {i : Nat} {w : Int} (h : ws[i]? = some w) : prun n (ws.take (i + 1)) = pstep n (prun n (ws.take i)) w := by
  unfold prun
  rw [take_more h, List.foldl_append]
  rfl
theorem prun_snoc {n : Nat} {ws : List Int} {w : Int} : prun n (ws ++ [w]) = pstep n (prun n ws) w := by
  unfold prun
  rw [List.foldl_append]
  rfl
theorem pstep_len {n : Nat} {s : (Int → Bool) × List (Option Int)} {w : Int} : (pstep n s w).2.length = s.2.length + 1 := by
  unfold pstep
  cases ffree n s.1 w <;> simp
theorem snoc_ind {α : Type} {p : List α → Prop} (h0 : p []) (h1 : ∀ l x, p l → p (l ++ [x])) : ∀ l, p l := fun l => by
  have : ∀ n, ∀ l : List α, l.length = n → p l := by
    intro n
    induction n with
    | zero => intro l h; rw [List.length_eq_zero_iff.mp h]; exact h0
    | succ n ih =>
      intro l h
      have hne : l ≠ [] := fun z => by rw [z] at h; cases h
      rw [← List.dropLast_concat_getLast hne]
      exact h1 _ _ (ih _ (by rw [List.length_dropLast, h]; rfl))
  exact this _ l rfl
theorem prun_len {n : Nat} : ∀ ws : List Int, (prun n ws).2.length = ws.length := snoc_ind rfl fun ws w ih => by
  rw [prun_snoc, pstep_len, ih]
  simp
theorem placedL_len {n : Nat} {ws : List Int} : (placedL n ws).length = ws.length := prun_len ws
theorem heldL_at {n : Nat} {occ : Int → Bool} {i : Nat} (h : i ≤ n) : (heldL n occ)[i]? = some (.bl (occ (i : Int))) := by
  unfold heldL
  rw [List.getElem?_map, List.getElem?_range (by omega)]
  rfl
theorem heldL_len {n : Nat} {occ : Int → Bool} : (heldL n occ).length = n + 1 := by simp [heldL]
theorem heldL_set {n : Nat} {occ : Int → Bool} {b : Int} (h0 : 0 ≤ b) (h : b ≤ n) : (heldL n occ).set b.toNat (.bl true) = heldL n (setO occ b) := by
  apply List.ext_getElem?
  intro i
  by_cases hi : i ≤ n
  · rw [heldL_at hi]
    by_cases e : i = b.toNat
    · subst e
      rw [List.getElem?_set_self (by rw [heldL_len]; omega)]
      have : ((b.toNat : Nat) : Int) = b := by omega
      simp [setO, this]
    · rw [List.getElem?_set_ne (Ne.symm e), heldL_at hi]
      have : ¬ ((i : Nat) : Int) = b := by omega
      simp [setO, this]
  · rw [List.getElem?_eq_none (show ((heldL n occ).set b.toNat (V.bl true)).length ≤ i by rw [List.length_set, heldL_len]; omega), List.getElem?_eq_none (show (heldL n (setO occ b)).length ≤ i by rw [heldL_len]; omega)]
theorem heldL_new {n : Nat} : (List.replicate (n + 1) [V.bl false]).flatten = heldL n (fun _ => false) := by
  apply List.ext_getElem?
  intro i
  have e : (List.replicate (n + 1) [V.bl false]).flatten = List.replicate (n + 1) (V.bl false) := by
    generalize n + 1 = m
    induction m with
    | zero => rfl
    | succ m ih => rw [List.replicate_succ, List.replicate_succ, List.flatten_cons, ih]; rfl
  rw [e]
  by_cases hi : i ≤ n
  · rw [heldL_at hi, List.getElem?_replicate_of_lt (by omega)]
  · rw [List.getElem?_eq_none (show (List.replicate (n + 1) (V.bl false)).length ≤ i by rw [List.length_replicate]; omega), List.getElem?_eq_none (show (heldL n fun _ => false).length ≤ i by rw [heldL_len]; omega)]
theorem l1000 {n : Nat} (h : n ≤ 1000) : n ≤ sizeLine := Nat.le_of_lt (small1000 h)
/-! ### first_free -/
def sp_first_free (K : PySem.W.Frag) (a : Ad) : Sp := fun vs H Q _ => ∃ (h : Addr) (n : Nat) (occ : Int → Bool) (w : Int), vs = [.ref h, .int w] ∧ SqL K H h (heldL n occ) ∧ n ≤ 900 ∧ 0 ≤ w ∧ w ≤ 1000 ∧ Q (vO (ffree n occ w)) H
abbrev N_first_free : List Str := ["held", "wish", "berth"]
def t_first_free (K : PySem.W.Frag) (a : Ad) : TS :=
  (tSeq (tFor (iRng2 (tCons (tVar 1) (tCons (tCB (rLenSq K) (tCons (tVar 0) tNil)) tNil))) (gName 2)
    (tIfS (tNot (tB (tOp (rIxL K) (tVar 0) (tVar 2)))) (tRet (tVar 2)) tNext))
    (tRet (tC .non)))
theorem len_first_free {K : PySem.W.Frag} {a : Ad} {vs : List V} {H : Hp} {Q : VK} {E : XK} (h : sp_first_free K a vs H Q E) : vs.length = 2 := by
  obtain ⟨h, n, occ, w, rfl, _⟩ := h
  rfl
theorem pu_first_free {K : PySem.W.Frag} {a : Ad} {vs : List V} {H : Hp} {Q : VK} {E : XK} (h : sp_first_free K a vs H Q E) : t_first_free K a { nx := fun _ H' => Q .non H', rt := Q } (start N_first_free vs) H := by
  obtain ⟨h, n, occ, w, rfl, hs, hn, h0, hw, q⟩ := h
  refine ⟨.int w, rfl, .ref h, rfl, h, _, rfl, .inl hs, w, ((heldL n occ).length : Nat), rfl, ?_, ?_⟩
  · rw [heldL_len]
    omega
  rw [heldL_len]
  have en : (((n + 1 : Nat) : Int) - w).toNat = ((n : Int) + 1 - w).toNat := by omega
  rw [en]
  refine for_range (fun i σ H' => H' = H ∧ ffree n occ w = ffr occ (((n : Int) + 1 - w).toNat - i) (w + i) ∧ ∃ y, σ = [some (.ref h), some (.int w), y]) ⟨rfl, by simp [ffree], none, rfl⟩ ?_ ?_
  · rintro i σ H' hi ⟨rfl, e, y, rfl⟩
    have hx : (heldL n occ)[(w + i).toNat]? = some (.bl (occ (w + i))) := by
      rw [heldL_at (by omega)]
      have : (((w + i).toNat : Nat) : Int) = w + i := by omega
      rw [this]
    refine ⟨.ref h, rfl, .int (w + i), rfl, h, _, _, .bl (occ (w + i)), rfl, rfl, hs, at_of (by omega) hx, occ (w + i), rfl, ?_⟩
    have e2 : ((n : Int) + 1 - w).toNat - i = (((n : Int) + 1 - w).toNat - (i + 1)) + 1 := by omega
    rw [e2] at e
    unfold ffr at e
    cases o : occ (w + i) with
    | true =>
      rw [o, if_pos rfl] at e
      refine iteF ⟨rfl, ?_, some (.int (w + i)), rfl⟩
      rw [e]
      congr 1
      omega
    | false =>
      rw [o, if_neg Bool.false_ne_true] at e
      refine iteT ⟨.int (w + i), rfl, ?_⟩
      rw [e] at q
      exact q
  · rintro σ H' ⟨rfl, e, y, rfl⟩
    rw [Nat.sub_self] at e
    rw [e] at q
    exact q
/-! ### placed -/
/-! ### taken, gone_on -/
def somes (l : List (Option Int)) : List Int := l.filterMap id
def sortI (l : List Int) : List Int := l.mergeSort fun x y => decide (x ≤ y)
theorem sortI_perm (l : List Int) : (sortI l).Perm l := List.mergeSort_perm l _
theorem sortI_sorted (l : List Int) : (sortI l).Pairwise (· ≤ ·) := by
  have h := List.pairwise_mergeSort (le := fun (x y : Int) => decide (x ≤ y)) (fun a b c h1 h2 => by simp only [decide_eq_true_eq] at *; omega) (fun a b => by simp only [Bool.or_eq_true, decide_eq_true_eq]; omega) l
  exact List.Pairwise.imp (fun h => of_decide_eq_true h) h
theorem sortI_uniq {l l' : List Int} (hp : l'.Perm l) (hs : l'.Pairwise (· ≤ ·)) : l' = sortI l := PySem.W.ksm_same (hp.trans (sortI_perm l).symm) hs (sortI_sorted l)
def takenL (n : Nat) (ws : List Int) : List Int := sortI (somes (placedL n ws))
/-- of each ship that lies, how far behind its wish -/
def goneL (ws : List Int) (bs : List (Option Int)) : List Int := (ws.zip bs).filterMap fun p => p.2.map fun b => b - p.1
theorem filter_some : ∀ l : List (Option Int), (l.filter Option.isSome).map vO = (somes l).map V.int
  | [] => rfl
  | none :: l => filter_some l
  | some b :: l => congrArg (V.int b :: ·) (filter_some l)
theorem vO_not (o : Option Int) : (!decide (vO o = .non)) = o.isSome := by
  cases o <;> rfl
theorem zip_gone : ∀ (ws : List Int) (bs : List (Option Int)), ((ws.zip bs).filter fun p => p.2.isSome).map (fun p => V.int ((p.2.getD 0) - p.1)) = (goneL ws bs).map V.int
  | [], _ => by simp [goneL]
  | _ :: _, [] => by simp [goneL]
  | w :: ws, none :: bs => by
    have ih := zip_gone ws bs
    simp only [List.zip_cons_cons, goneL] at ih ⊢
    simpa using ih
  | w :: ws, some b :: bs => by
    have ih := zip_gone ws bs
    simp only [List.zip_cons_cons, goneL] at ih ⊢
    simpa using ih
theorem zip_at {ws : List Int} {bs : List (Option Int)} {i : Nat} {x : Int × Option Int} (h : (ws.zip bs)[i]? = some x) : ws[i]? = some x.1 ∧ bs[i]? = some x.2 := by
  rw [List.getElem?_zip_eq_some] at h
  exact h
/-! ### good wishes: counting -/
theorem sub_len : ∀ {l1 l2 : List Int}, l1.Nodup → (∀ x ∈ l1, x ∈ l2) → l1.length ≤ l2.length
  | [], _, _, _ => Nat.zero_le _
  | x :: r, l2, nd, h => by
    obtain ⟨n1, n2⟩ := List.nodup_cons.mp nd
    have hx := h x List.mem_cons_self
    have ih := sub_len (l1 := r) (l2 := l2.erase x) n2 fun y hy => by
      have ne : y ≠ x := fun e => n1 (e ▸ hy)
      exact (List.mem_erase_of_ne ne).mpr (h y (List.mem_cons_of_mem _ hy))
    have e := List.length_erase_of_mem hx
    have p : 0 < l2.length := List.length_pos_of_mem hx
    rw [List.length_cons]
    omega
def upTo (lo : Int) (k : Nat) : List Int := (List.range k).map fun (i : Nat) => lo + (i : Int)
theorem mem_upTo {lo x : Int} {k : Nat} : x ∈ upTo lo k ↔ lo ≤ x ∧ x < lo + k := by
  unfold upTo
  simp only [List.mem_map, List.mem_range]
  constructor
  · rintro ⟨i, hi, rfl⟩
    omega
  · rintro ⟨h1, h2⟩
    exact ⟨(x - lo).toNat, by omega, by omega⟩
theorem upTo_len {lo : Int} {k : Nat} : (upTo lo k).length = k := by simp [upTo]
theorem upTo_nodup {lo : Int} {k : Nat} : (upTo lo k).Nodup := by
  unfold upTo
  exact (List.pairwise_map.mpr (List.Pairwise.imp (fun h => by omega) List.pairwise_lt_range))
theorem len_le_of {l : List Int} {lo : Int} {k : Nat} (nd : l.Nodup) (h : ∀ x ∈ l, lo ≤ x ∧ x < lo + k) : l.length ≤ k := by
  have := sub_len nd fun x hx => mem_upTo.mpr (h x hx)
  rw [upTo_len] at this
  exact this
theorem le_len_of {l : List Int} {lo : Int} {k : Nat} (h : ∀ x, lo ≤ x → x < lo + k → x ∈ l) : k ≤ l.length := by
  have := sub_len (upTo_nodup (lo := lo) (k := k)) fun x hx => by
    obtain ⟨h1, h2⟩ := mem_upTo.mp hx
    exact h x h1 h2
  rw [upTo_len] at this
  exact this
/-- how many of them are b or more -/
def cntGe (l : List Int) (b : Int) : Nat := (l.filter fun w => decide (b ≤ w)).length
theorem cntGe_snoc (l : List Int) (w b : Int) : cntGe (l ++ [w]) b = cntGe l b + if b ≤ w then 1 else 0 := by
  unfold cntGe
  rw [List.filter_append, List.length_append]
  by_cases h : b ≤ w <;> simp [List.filter, h]
theorem cntGe_le (l : List Int) (b : Int) : cntGe l b ≤ l.length := List.length_filter_le _ _
theorem cntGe_perm {l l' : List Int} (h : l.Perm l') (b : Int) : cntGe l b = cntGe l' b := (h.filter _).length_eq
theorem somes_snoc (l : List (Option Int)) (o : Option Int) : somes (l ++ [o]) = somes l ++ o.toList := by
  unfold somes
  rw [List.filterMap_append]
  cases o <;> rfl
/-- what holds behind ships that came -/
structure Lay (n : Nat) (ws : List Int) : Prop where
  occ : ∀ x, (prun n ws).1 x = true ↔ x ∈ somes (placedL n ws)
  nd : (somes (placedL n ws)).Nodup
  bd : ∀ x ∈ somes (placedL n ws), 1 ≤ x ∧ x ≤ n
  few : ∀ b, (b ≤ 1 ∨ (prun n ws).1 (b - 1) = false) → cntGe (somes (placedL n ws)) b ≤ cntGe ws b
  many : none ∉ placedL n ws → ∀ b, cntGe ws b ≤ cntGe (somes (placedL n ws)) b
  crowd : none ∈ placedL n ws → ∃ b : Int, 1 ≤ b ∧ b ≤ n ∧ (n : Int) - b + 1 < cntGe ws b
theorem placedL_snoc {n : Nat} {ws : List Int} {w : Int} : placedL n (ws ++ [w]) = placedL n ws ++ [ffree n (prun n ws).1 w] := by
  unfold placedL
  rw [prun_snoc]
  unfold pstep
  cases ffree n (prun n ws).1 w <;> rfl
theorem occ_snoc {n : Nat} {ws : List Int} {w : Int} : (prun n (ws ++ [w])).1 = match ffree n (prun n ws).1 w with | none => (prun n ws).1 | some b => setO (prun n ws).1 b := by
  rw [prun_snoc]
  unfold pstep
  cases ffree n (prun n ws).1 w <;> rfl
/-- the least one from which on all are held -/
theorem least_full {occ : Int → Bool} : ∀ (k : Nat), (∀ x, (k : Int) + 1 ≤ x → x ≤ k + 1 → occ x = true) → ∀ m : Int, (∀ x, (k : Int) + 1 ≤ x → x ≤ m → occ x = true) → ∃ b : Int, 1 ≤ b ∧ b ≤ k + 1 ∧ (∀ x, b ≤ x → x ≤ m → occ x = true) ∧ (b ≤ 1 ∨ occ (b - 1) = false)
  | 0, _, m, h => ⟨1, by omega, by omega, fun x h1 h2 => h x (by omega) h2, .inl (by omega)⟩
  | k + 1, h0, m, h => by
    cases e : occ ((k : Int) + 1) with
    | false => exact ⟨(k : Int) + 1 + 1, by omega, by omega, fun x h1 h2 => h x (by omega) h2, .inr (by rw [show (k : Int) + 1 + 1 - 1 = (k : Int) + 1 by omega]; exact e)⟩
    | true =>
      obtain ⟨b, b1, b2, b3, b4⟩ := least_full (occ := occ) k (fun x h1 h2 => by rw [show x = (k : Int) + 1 by omega]; exact e) m fun x h1 h2 => by
        by_cases z : x = (k : Int) + 1
        · rw [z]; exact e
        · exact h x (by omega) h2
      exact ⟨b, b1, by omega, b3, b4⟩
theorem lay (n : Nat) : ∀ ws : List Int, (∀ w ∈ ws, 1 ≤ w ∧ w ≤ n) → Lay n ws := snoc_ind (fun _ => ⟨fun x => by simp [prun, placedL, somes], List.nodup_nil, fun x hx => (by cases hx), fun b _ => Nat.zero_le _, fun _ b => Nat.le_refl _, fun h => (by cases h)⟩) fun ws w ih hb => by
  have hw := hb w (List.mem_append_right _ (List.mem_singleton.mpr rfl))
  obtain ⟨i1, i2, i3, i4, i5, i6⟩ := ih fun x hx => hb x (List.mem_append_left _ hx)
  cases e : ffree n (prun n ws).1 w with
  | none =>
    have es : somes (placedL n (ws ++ [w])) = somes (placedL n ws) := by rw [placedL_snoc, e, somes_snoc]; simp
    have eo : (prun n (ws ++ [w])).1 = (prun n ws).1 := by rw [occ_snoc, e]
    have full := ffree_none e
    refine ⟨fun x => by rw [eo, es]; exact i1 x, by rw [es]; exact i2, by rw [es]; exact i3, fun b h => ?_, fun h => ?_, fun _ => ?_⟩
    · rw [es, cntGe_snoc]
      rw [eo] at h
      have := i4 b h
      omega
    · rw [placedL_snoc, e] at h
      exact absurd (List.mem_append_right _ (List.mem_singleton.mpr rfl)) h
    · obtain ⟨b, b1, b2, b3, b4⟩ := least_full (occ := (prun n ws).1) (w - 1).toNat (fun x h1 h2 => full x (by omega) (by omega)) n fun x h1 h2 => full x (by omega) h2
      have c1 := i4 b b4
      have c2 : ((n : Int) - b + 1).toNat ≤ cntGe (somes (placedL n ws)) b := le_len_of (lo := b) fun x h1 h2 => List.mem_filter.mpr ⟨(i1 x).mp (b3 x h1 (by omega)), by simpa using h1⟩
      refine ⟨b, b1, by omega, ?_⟩
      rw [cntGe_snoc, if_pos (by omega)]
      omega
  | some x =>
    have es : somes (placedL n (ws ++ [w])) = somes (placedL n ws) ++ [x] := by rw [placedL_snoc, e, somes_snoc]; rfl
    have eo : (prun n (ws ++ [w])).1 = setO (prun n ws).1 x := by rw [occ_snoc, e]
    obtain ⟨x1, x2, x3, x4⟩ := ffree_some e
    have hn : x ∉ somes (placedL n ws) := fun z => by
      rw [(i1 x).mpr z] at x3
      cases x3
    refine ⟨fun y => ?_, ?_, ?_, fun b h => ?_, fun h b => ?_, fun h => ?_⟩
    · rw [eo, es, List.mem_append, List.mem_singleton, ← i1 y]
      unfold setO
      by_cases z : y = x <;> simp [z]
    · rw [es, List.nodup_append]
      exact ⟨i2, by simp, fun a ha b hb => by rw [List.mem_singleton.mp hb]; exact fun z => hn (z ▸ ha)⟩
    · intro y hy
      rw [es] at hy
      rcases List.mem_append.mp hy with k | k
      · exact i3 y k
      · rw [List.mem_singleton.mp k]
        omega
    · rw [es, cntGe_snoc, cntGe_snoc]
      have h' : b ≤ 1 ∨ (prun n ws).1 (b - 1) = false := by
        rcases h with h | h
        · exact .inl h
        · rw [eo] at h
          unfold setO at h
          exact .inr (Bool.or_eq_false_iff.mp h).2
      have := i4 b h'
      by_cases hbx : b ≤ x
      · have hbw : b ≤ w := by
          by_cases z : b ≤ w
          · exact z
          · rcases h' with h' | h'
            · omega
            · rw [x4 (b - 1) (by omega) (by omega)] at h'
              cases h'
        rw [if_pos hbx, if_pos hbw]
        omega
      · rw [if_neg hbx]
        omega
    · have h' : none ∉ placedL n ws := fun z => h (by rw [placedL_snoc]; exact List.mem_append_left _ z)
      have := i5 h' b
      rw [es, cntGe_snoc, cntGe_snoc]
      by_cases z : b ≤ w
      · rw [if_pos z, if_pos (by omega)]
        omega
      · rw [if_neg z]
        omega
    · rw [placedL_snoc, e] at h
      rcases List.mem_append.mp h with k | k
      · obtain ⟨b, b1, b2, b3⟩ := i6 k
        refine ⟨b, b1, b2, ?_⟩
        rw [cntGe_snoc]
        omega
      · simp at k
/-- the last berth from which on more wish -/
def downTo (n : Nat) : List Int := (List.range n).map fun (i : Nat) => (n : Int) - (i : Int)
def crowdedL (n : Nat) (ws : List Int) : Option Int := (downTo n).find? fun b => decide ((n : Int) - b + 1 < (cntGe ws b : Int))
theorem mem_downTo {n : Nat} {x : Int} : x ∈ downTo n ↔ 1 ≤ x ∧ x ≤ n := by
  unfold downTo
  simp only [List.mem_map, List.mem_range]
  constructor
  · rintro ⟨i, hi, rfl⟩
    omega
  · rintro ⟨h1, h2⟩
    exact ⟨(n - x).toNat, by omega, by omega⟩
theorem crowded_none {n : Nat} {ws : List Int} : crowdedL n ws = none ↔ ∀ b : Int, 1 ≤ b → b ≤ n → (cntGe ws b : Int) ≤ n - b + 1 := by
  unfold crowdedL
  rw [List.find?_eq_none]
  simp only [decide_eq_true_eq, Int.not_lt]
  exact ⟨fun h b b1 b2 => h b (mem_downTo.mpr ⟨b1, b2⟩), fun h b hb => h b (mem_downTo.mp hb).1 (mem_downTo.mp hb).2⟩
theorem good_iff {n : Nat} {ws : List Int} (hb : ∀ w ∈ ws, 1 ≤ w ∧ w ≤ n) : crowdedL n ws = none ↔ none ∉ placedL n ws := by
  have L := lay n ws hb
  rw [crowded_none]
  constructor
  · intro h z
    obtain ⟨b, b1, b2, b3⟩ := L.crowd z
    have := h b b1 b2
    omega
  · intro h b b1 b2
    have h1 := L.many h b
    have h2 : cntGe (somes (placedL n ws)) b ≤ ((n : Int) - b + 1).toNat := len_le_of (lo := b) (L.nd.filter _) fun x hx => by
      obtain ⟨k1, k2⟩ := List.mem_filter.mp hx
      have := L.bd x k1
      have k3 : b ≤ x := by simpa using k2
      omega
    omega
/-! in rising order -/
theorem sorted_cut {b : Int} : ∀ {o : List Int}, o.Pairwise (· ≤ ·) → o = o.filter (fun w => !decide (b ≤ w)) ++ o.filter (fun w => decide (b ≤ w))
  | [], _ => rfl
  | x :: r, h => by
    obtain ⟨h1, h2⟩ := List.pairwise_cons.mp h
    by_cases z : b ≤ x
    · have e1 : r.filter (fun w => !decide (b ≤ w)) = [] := List.filter_eq_nil_iff.mpr fun y hy => by
        have := h1 y hy
        simp only [Bool.not_eq_true', decide_eq_false_iff_not]
        omega
      have e2 : r.filter (fun w => decide (b ≤ w)) = r := List.filter_eq_self.mpr fun y hy => by
        have := h1 y hy
        simp only [decide_eq_true_eq]
        omega
      simp [List.filter_cons, z, e1, e2]
    · have ih := sorted_cut (b := b) h2
      simp only [List.filter_cons, z, decide_false, Bool.not_false, if_true, Bool.false_eq_true, if_false, List.cons_append]
      rw [← ih]
def goodS (n : Nat) (o : List Int) : Bool := (List.range o.length).all fun (i : Nat) => decide (o.getD i 0 ≤ (n : Int) - o.length + i + 1)
theorem goodS_iff {n : Nat} {ws : List Int} (hb : ∀ w ∈ ws, 1 ≤ w ∧ w ≤ n) : goodS n (sortI ws) = true ↔ crowdedL n ws = none := by
  have hp := sortI_perm ws
  have hs := sortI_sorted ws
  rw [crowded_none]
  unfold goodS
  simp only [List.all_eq_true, List.mem_range, decide_eq_true_eq]
  generalize hO : sortI ws = o at hp hs
  have hbo : ∀ w ∈ o, 1 ≤ w ∧ w ≤ n := fun w hw => hb w (hp.mem_iff.mp hw)
  constructor
  · intro h b b1 b2
    rw [← cntGe_perm hp b]
    have cut := sorted_cut (b := b) hs
    by_cases z : cntGe o b = 0
    · rw [z]
      omega
    · have hlen : (o.filter (fun w => !decide (b ≤ w))).length + cntGe o b = o.length := by
        unfold cntGe
        rw [← List.length_append, ← cut]
      have hi : (o.filter (fun w => !decide (b ≤ w))).length < o.length := by omega
      have h1 := h _ hi
      have e : o.getD (o.filter (fun w => !decide (b ≤ w))).length 0 = o[(o.filter (fun w => !decide (b ≤ w))).length] := by simp [List.getD_eq_getElem?_getD, List.getElem?_eq_getElem hi]
      rw [e] at h1
      have hm : o[(o.filter (fun w => !decide (b ≤ w))).length] ∈ o.filter (fun w => decide (b ≤ w)) := by
        have e2 : o[(o.filter (fun w => !decide (b ≤ w))).length]? = (o.filter (fun w => decide (b ≤ w)))[0]? := by
          conv => lhs; arg 1; rw [cut]
          rw [List.getElem?_append_right (Nat.le_refl _), Nat.sub_self]
        rw [List.getElem?_eq_getElem hi] at e2
        exact List.mem_of_getElem? e2.symm
      have h2 : b ≤ o[(o.filter (fun w => !decide (b ≤ w))).length] := by simpa using (List.mem_filter.mp hm).2
      omega
  · intro h i hi
    have e : o.getD i 0 = o[i] := by simp [List.getD_eq_getElem?_getD, List.getElem?_eq_getElem hi]
    rw [e]
    have hbi := hbo o[i] (List.getElem_mem hi)
    have h1 := h o[i] hbi.1 hbi.2
    rw [← cntGe_perm hp] at h1
    have h2 : o.length - i ≤ cntGe o o[i] := by
      have e3 : (o.drop i).filter (fun w => decide (o[i] ≤ w)) = o.drop i := List.filter_eq_self.mpr fun y hy => by
        obtain ⟨j, hj, ej⟩ := List.getElem_of_mem hy
        rw [List.getElem_drop] at ej
        simp only [decide_eq_true_eq]
        rw [← ej]
        by_cases z : j = 0
        · subst z
          simp
        · exact List.pairwise_iff_getElem.mp hs i (i + j) hi (by rw [List.length_drop] at hj; omega) (by omega)
      have e4 : (o.filter (fun w => decide (o[i] ≤ w))).length = ((o.take i).filter (fun w => decide (o[i] ≤ w))).length + ((o.drop i).filter (fun w => decide (o[i] ≤ w))).length := by
        rw [← List.length_append, ← List.filter_append, List.take_append_drop]
      unfold cntGe
      rw [e4, e3, List.length_drop]
      omega
    omega

/-! ### any order of the same ships -/
theorem ffree_is {n : Nat} {occ : Int → Bool} {w b : Int} (h1 : w ≤ b) (h2 : b ≤ n) (h3 : occ b = false) (h4 : ∀ x, w ≤ x → x < b → occ x = true) : ffree n occ w = some b := by
  cases e : ffree n occ w with
  | none =>
    rw [ffree_none e b h1 h2] at h3
    cases h3
  | some c =>
    obtain ⟨c1, c2, c3, c4⟩ := ffree_some e
    congr 1
    by_cases z : c < b
    · rw [h4 c c1 z] at c3
      cases c3
    · by_cases z2 : b < c
      · rw [c4 b h1 z2] at h3
        cases h3
      · omega
theorem ffree_non {n : Nat} {occ : Int → Bool} {w : Int} (h : ∀ x, w ≤ x → x ≤ n → occ x = true) : ffree n occ w = none := by
  cases e : ffree n occ w with
  | none => rfl
  | some c =>
    obtain ⟨c1, c2, c3, c4⟩ := ffree_some e
    rw [h c c1 c2] at c3
    cases c3
def stp (n : Nat) (occ : Int → Bool) (w : Int) : Int → Bool := match ffree n occ w with
  | none => occ
  | some b => setO occ b
theorem stp_none {n : Nat} {occ : Int → Bool} {w : Int} (h : ffree n occ w = none) : stp n occ w = occ := by simp only [stp, h]
theorem stp_some {n : Nat} {occ : Int → Bool} {w b : Int} (h : ffree n occ w = some b) : stp n occ w = setO occ b := by simp only [stp, h]
theorem setO_comm (occ : Int → Bool) (x y : Int) : setO (setO occ x) y = setO (setO occ y) x := by
  funext z
  unfold setO
  cases decide (z = x) <;> cases decide (z = y) <;> rfl
theorem setO_mono {occ : Int → Bool} {x y : Int} (h : occ y = true) : setO occ x y = true := by
  unfold setO
  rw [h, Bool.or_true]
theorem setO_ne {occ : Int → Bool} {x y : Int} (h : y ≠ x) : setO occ x y = occ y := by
  unfold setO
  rw [decide_eq_false h, Bool.false_or]
theorem setO_self {occ : Int → Bool} {x : Int} : setO occ x x = true := by simp [setO]
theorem stp_comm_le {n : Nat} {occ : Int → Bool} {w1 w2 : Int} (h : w1 ≤ w2) : stp n (stp n occ w1) w2 = stp n (stp n occ w2) w1 := by
  cases eb : ffree n occ w2 with
  | none =>
    have fb := ffree_none eb
    rw [stp_none eb]
    cases ea : ffree n occ w1 with
    | none => rw [stp_none ea, stp_none eb]
    | some x =>
      rw [stp_some ea]
      exact stp_none (ffree_non fun y h1 h2 => setO_mono (fb y h1 h2))
  | some y =>
    obtain ⟨y1, y2, y3, y4⟩ := ffree_some eb
    rw [stp_some eb]
    cases ea : ffree n occ w1 with
    | none =>
      rw [ffree_none ea y (by omega) y2] at y3
      cases y3
    | some x =>
      obtain ⟨x1, x2, x3, x4⟩ := ffree_some ea
      rw [stp_some ea]
      by_cases z : x = y
      · subst z
        have hocc : ∀ u, w1 ≤ u → u ≤ x → setO occ x u = true := fun u h1 h2 => by
          by_cases q : u = x
          · rw [q]; exact setO_self
          · exact setO_mono (x4 u h1 (by omega))
        cases ec : ffree n (setO occ x) w2 with
        | none =>
          have fc := ffree_none ec
          rw [stp_none ec]
          refine (stp_none (ffree_non fun u h1 h2 => ?_)).symm
          by_cases q : u ≤ x
          · exact hocc u h1 q
          · exact fc u (by omega) h2
        | some z =>
          obtain ⟨z1, z2, z3, z4⟩ := ffree_some ec
          have hz : x < z := by
            by_cases q : x < z
            · exact q
            · rw [hocc z (by omega) (by omega)] at z3
              cases z3
          rw [stp_some ec]
          refine (stp_some (ffree_is (by omega) z2 z3 fun u h1 h2 => ?_)).symm
          by_cases q : u ≤ x
          · exact hocc u h1 q
          · exact z4 u (by omega) h2
      · have hx : x < y := by
          by_cases q : x < y
          · exact q
          · rw [x4 y (by omega) (by omega)] at y3
            cases y3
        have e1 : stp n (setO occ x) w2 = setO (setO occ x) y := stp_some (ffree_is y1 y2 (by rw [setO_ne (Ne.symm z)]; exact y3) fun u h1 h2 => setO_mono (y4 u h1 h2))
        have e2 : stp n (setO occ y) w1 = setO (setO occ y) x := stp_some (ffree_is x1 x2 (by rw [setO_ne z]; exact x3) fun u h1 h2 => setO_mono (x4 u h1 h2))
        rw [e1, e2, setO_comm]
theorem stp_comm {n : Nat} {occ : Int → Bool} {w1 w2 : Int} : stp n (stp n occ w1) w2 = stp n (stp n occ w2) w1 := by
  by_cases h : w1 ≤ w2
  · exact stp_comm_le h
  · exact (stp_comm_le (by omega)).symm
theorem occ_fold {n : Nat} : ∀ ws : List Int, (prun n ws).1 = ws.foldl (stp n) (fun _ => false) := snoc_ind rfl fun ws w ih => by
  rw [occ_snoc, List.foldl_append, ← ih]
  rfl
theorem occ_perm {n : Nat} {ws ws' : List Int} (h : ws.Perm ws') : (prun n ws).1 = (prun n ws').1 := by
  rw [occ_fold, occ_fold]
  exact h.foldl_eq' (fun x _ y _ z => stp_comm) _
theorem somes_perm {n : Nat} {ws ws' : List Int} (h : ws.Perm ws') (hb : ∀ w ∈ ws, 1 ≤ w ∧ w ≤ n) : (somes (placedL n ws)).Perm (somes (placedL n ws')) := by
  have L := lay n ws hb
  have L' := lay n ws' fun w hw => hb w (h.mem_iff.mpr hw)
  refine (List.perm_ext_iff_of_nodup L.nd L'.nd).mpr fun x => ?_
  rw [← L.occ, ← L'.occ, occ_perm h]
theorem sortI_perm_eq {l l' : List Int} (h : l.Perm l') : sortI l = sortI l' := sortI_uniq ((sortI_perm l).trans h) (sortI_sorted l)
theorem taken_perm {n : Nat} {ws ws' : List Int} (h : ws.Perm ws') (hb : ∀ w ∈ ws, 1 ≤ w ∧ w ≤ n) : takenL n ws = takenL n ws' := sortI_perm_eq (somes_perm h hb)
theorem crowded_perm {n : Nat} {ws ws' : List Int} (h : ws.Perm ws') : crowdedL n ws = crowdedL n ws' := by
  unfold crowdedL
  congr 1
  funext b
  rw [cntGe_perm h]
theorem away_len : ∀ os : List (Option Int), (os.filter Option.isNone).length + (somes os).length = os.length
  | [] => rfl
  | none :: os => by
    have := away_len os
    simp only [List.filter_cons, Option.isNone_none, if_true, List.length_cons]
    show (os.filter Option.isNone).length + 1 + (somes os).length = os.length + 1
    omega
  | some b :: os => by
    have := away_len os
    show (os.filter Option.isNone).length + ((somes os).length + 1) = os.length + 1
    omega
theorem sum_perm {l l' : List Int} (h : l.Perm l') : l.sum = l'.sum := by
  induction h with
  | nil => rfl
  | cons x _ ih => rw [List.sum_cons, List.sum_cons, ih]
  | swap x y l =>
    simp only [List.sum_cons]
    omega
  | trans _ _ h1 h2 => exact h1.trans h2
/-- the wishes of those that lie -/
def lieL (ws : List Int) (os : List (Option Int)) : List Int := ((ws.zip os).filter fun p => p.2.isSome).map (·.1)
theorem lieL_snoc {ws : List Int} {os : List (Option Int)} {w : Int} {o : Option Int} (h : ws.length = os.length) : lieL (ws ++ [w]) (os ++ [o]) = lieL ws os ++ (if o.isSome = true then [w] else []) := by
  unfold lieL
  rw [List.zip_append h, List.filter_append, List.map_append]
  cases o <;> rfl
theorem gone_sum : ∀ (ws : List Int) (os : List (Option Int)), ws.length = os.length → (goneL ws os).sum = (somes os).sum - (lieL ws os).sum
  | [], [], _ => rfl
  | w :: ws, none :: os, h => gone_sum ws os (Nat.succ.inj h)
  | w :: ws, some b :: os, h => by
    have ih := gone_sum ws os (Nat.succ.inj h)
    show ((b - w) :: goneL ws os).sum = (b :: somes os).sum - (w :: lieL ws os).sum
    rw [List.sum_cons, List.sum_cons, List.sum_cons, ih]
    omega
theorem lie_all : ∀ (ws : List Int) (os : List (Option Int)), ws.length = os.length → none ∉ os → lieL ws os = ws
  | [], [], _, _ => rfl
  | w :: ws, none :: os, _, h => absurd List.mem_cons_self h
  | w :: ws, some b :: os, h, hn => by
    have ih := lie_all ws os (Nat.succ.inj h) fun z => hn (List.mem_cons_of_mem _ z)
    show w :: lieL ws os = w :: ws
    rw [ih]
theorem lie_run {n : Nat} : ∀ ws : List Int, prun n (lieL ws (placedL n ws)) = ((prun n ws).1, (placedL n ws).filter Option.isSome) := snoc_ind rfl fun ws w ih => by
  rw [placedL_snoc, lieL_snoc (placedL_len).symm, List.filter_append, occ_snoc]
  cases e : ffree n (prun n ws).1 w with
  | none =>
    simp only [Option.isSome_none, Bool.false_eq_true, if_false, List.append_nil]
    rw [ih]
    simp [List.filter]
  | some b =>
    simp only [Option.isSome_some, if_true]
    rw [prun_snoc, ih]
    unfold pstep
    simp only [e]
    simp [List.filter]
theorem lie_placed {n : Nat} {ws : List Int} : placedL n (lieL ws (placedL n ws)) = (placedL n ws).filter Option.isSome := by
  have := lie_run (n := n) ws
  unfold placedL at this ⊢
  rw [this]
theorem somes_filter (os : List (Option Int)) : somes (os.filter Option.isSome) = somes os := by
  induction os with
  | nil => rfl
  | cons o os ih => cases o with
    | none => exact ih
    | some b => exact congrArg (b :: ·) ih
theorem none_filter_some {os : List (Option Int)} : none ∉ os.filter Option.isSome := fun z => by
  have := (List.mem_filter.mp z).2
  cases this
theorem mem_lie {ws : List Int} {os : List (Option Int)} {x : Int} (h : x ∈ lieL ws os) : x ∈ ws := by
  unfold lieL at h
  obtain ⟨p, hp, rfl⟩ := List.mem_map.mp h
  exact (List.of_mem_zip (List.mem_filter.mp hp).1).1
theorem lie_len (ws : List Int) (os : List (Option Int)) : (lieL ws os).length ≤ ws.length := by
  unfold lieL
  rw [List.length_map]
  refine Nat.le_trans (List.length_filter_le _ _) ?_
  rw [List.length_zip]
  omega
/-- a ship more takes one berth more, or none -/
theorem taken_mem {n : Nat} {ws : List Int} {x : Int} : x ∈ takenL n ws ↔ x ∈ somes (placedL n ws) := (sortI_perm _).mem_iff
theorem somes_last {n : Nat} {ws : List Int} (hne : ws ≠ []) : ∃ o : Option Int, somes (placedL n ws) = somes (placedL n ws.dropLast) ++ o.toList := by
  refine ⟨ffree n (prun n ws.dropLast).1 (ws.getLast hne), ?_⟩
  rw [← somes_snoc, ← placedL_snoc, List.dropLast_concat_getLast hne]

/-! ### the round quay: the mathematics -/
def rfree (n : Nat) (occ : Int → Bool) (w : Int) : Option Int := match ffree n occ w with
  | some b => some b
  | none => ffree n occ 1
def rstep (n : Nat) (s : (Int → Bool) × List Int) (w : Int) : (Int → Bool) × List Int := (setO s.1 ((rfree n s.1 w).getD 0), s.2 ++ [(rfree n s.1 w).getD 0])
def rrun (n : Nat) (ws : List Int) : (Int → Bool) × List Int := ws.foldl (rstep n) (fun _ => false, [])
def placedR (n : Nat) (ws : List Int) : List Int := (rrun n ws).2
theorem rrun_more {n : Nat} {ws : List Int} {i : Nat} {w : Int} (h : ws[i]? = some w) : rrun n (ws.take (i + 1)) = rstep n (rrun n (ws.take i)) w := by
  unfold rrun
  rw [take_more h, List.foldl_append]
  rfl
theorem rrun_snoc {n : Nat} {ws : List Int} {w : Int} : rrun n (ws ++ [w]) = rstep n (rrun n ws) w := by
  unfold rrun
  rw [List.foldl_append]
  rfl
theorem rrun_len {n : Nat} : ∀ ws : List Int, (rrun n ws).2.length = ws.length := snoc_ind rfl fun ws w ih => by
  rw [rrun_snoc]
  unfold rstep
  simp [ih]
theorem placedR_len {n : Nat} {ws : List Int} : (placedR n ws).length = ws.length := rrun_len ws
theorem rfree_some {n : Nat} {occ : Int → Bool} {w b : Int} (hw : 1 ≤ w) (h : rfree n occ w = some b) : 1 ≤ b ∧ b ≤ n ∧ occ b = false := by
  unfold rfree at h
  cases e : ffree n occ w with
  | some c =>
    rw [e] at h
    cases h
    obtain ⟨c1, c2, c3, _⟩ := ffree_some e
    exact ⟨by omega, c2, c3⟩
  | none =>
    rw [e] at h
    obtain ⟨c1, c2, c3, _⟩ := ffree_some h
    exact ⟨c1, c2, c3⟩
theorem rfree_ex {n : Nat} {occ : Int → Bool} {w : Int} {l : List Int} (ho : ∀ x, occ x = true ↔ x ∈ l) (hl : l.length < n) : ∃ b, rfree n occ w = some b := by
  unfold rfree
  cases e : ffree n occ w with
  | some c => exact ⟨c, rfl⟩
  | none =>
    cases e2 : ffree n occ 1 with
    | some c => exact ⟨c, by rw [← e2]⟩
    | none =>
      exfalso
      have := ffree_none e2
      have h2 : n ≤ l.length := le_len_of (lo := 1) fun x h1 h2 => (ho x).mp (this x h1 (by omega))
      omega
structure LayR (n : Nat) (ws : List Int) : Prop where
  occ : ∀ x, (rrun n ws).1 x = true ↔ x ∈ placedR n ws
  nd : (placedR n ws).Nodup
  bd : ∀ x ∈ placedR n ws, 1 ≤ x ∧ x ≤ n
theorem layR (n : Nat) : ∀ ws : List Int, (∀ w ∈ ws, 1 ≤ w ∧ w ≤ n) → ws.length ≤ n → LayR n ws := snoc_ind (fun _ _ => ⟨fun x => by simp [rrun, placedR], List.nodup_nil, fun x hx => (by cases hx)⟩) fun ws w ih hb hl => by
  rw [List.length_append, List.length_singleton] at hl
  have hw := hb w (List.mem_append_right _ (List.mem_singleton.mpr rfl))
  obtain ⟨i1, i2, i3⟩ := ih (fun x hx => hb x (List.mem_append_left _ hx)) (by omega)
  obtain ⟨b, e⟩ := rfree_ex (n := n) (w := w) i1 (by rw [placedR_len]; omega)
  obtain ⟨b1, b2, b3⟩ := rfree_some hw.1 e
  have ep : placedR n (ws ++ [w]) = placedR n ws ++ [b] := by
    unfold placedR
    rw [rrun_snoc]
    unfold rstep
    rw [e]
    rfl
  have eo : (rrun n (ws ++ [w])).1 = setO (rrun n ws).1 b := by
    rw [rrun_snoc]
    unfold rstep
    rw [e]
    rfl
  have hn : b ∉ placedR n ws := fun z => by
    rw [(i1 b).mpr z] at b3
    cases b3
  refine ⟨fun y => ?_, ?_, fun y hy => ?_⟩
  · rw [eo, ep, List.mem_append, List.mem_singleton, ← i1 y]
    unfold setO
    by_cases z : y = b <;> simp [z]
  · rw [ep, List.nodup_append]
    exact ⟨i2, by simp, fun x hx y hy => by rw [List.mem_singleton.mp hy]; exact fun z => hn (z ▸ hx)⟩
  · rw [ep] at hy
    rcases List.mem_append.mp hy with k | k
    · exact i3 y k
    · rw [List.mem_singleton.mp k]
      exact ⟨b1, b2⟩
theorem layR_take {n : Nat} {ws : List Int} (hb : ∀ w ∈ ws, 1 ≤ w ∧ w ≤ n) (hl : ws.length ≤ n) (i : Nat) : LayR n (ws.take i) := layR n _ (fun w hw => hb w (List.mem_of_mem_take hw)) (by rw [List.length_take]; omega)
theorem step_ex {n : Nat} {ws : List Int} {i : Nat} {w : Int} (hb : ∀ w ∈ ws, 1 ≤ w ∧ w ≤ n) (hl : ws.length ≤ n) (h : ws[i]? = some w) : ∃ b, rfree n (rrun n (ws.take i)).1 w = some b ∧ 1 ≤ b ∧ b ≤ n ∧ rrun n (ws.take (i + 1)) = (setO (rrun n (ws.take i)).1 b, (rrun n (ws.take i)).2 ++ [b]) := by
  have hi := (List.getElem?_eq_some_iff.mp h).1
  obtain ⟨b, e⟩ := rfree_ex (n := n) (w := w) (layR_take hb hl i).occ (by rw [placedR_len, List.length_take]; omega)
  obtain ⟨b1, b2, b3⟩ := rfree_some (hb w (List.mem_of_getElem? h)).1 e
  refine ⟨b, e, b1, b2, ?_⟩
  rw [rrun_more h]
  unfold rstep
  rw [e]
  rfl
def allB (n : Nat) : List Int := (List.range n).map fun (i : Nat) => (1 : Int) + i
theorem mem_allB {n : Nat} {x : Int} : x ∈ allB n ↔ 1 ≤ x ∧ x ≤ n := by
  unfold allB
  simp only [List.mem_map, List.mem_range]
  constructor
  · rintro ⟨i, hi, rfl⟩
    omega
  · rintro ⟨h1, h2⟩
    exact ⟨(x - 1).toNat, by omega, by omega⟩
theorem allB_sorted {n : Nat} : (allB n).Pairwise (· < ·) := by
  unfold allB
  rw [List.pairwise_map]
  exact List.Pairwise.imp (fun h => by omega) List.pairwise_lt_range
def leftR (n : Nat) (ws : List Int) : List Int := (allB n).filter fun b => !decide (b ∈ placedR n ws)
theorem mem_left {n : Nat} {ws : List Int} {x : Int} : x ∈ leftR n ws ↔ (1 ≤ x ∧ x ≤ n) ∧ x ∉ placedR n ws := by
  unfold leftR
  rw [List.mem_filter, mem_allB]
  simp
theorem left_sorted {n : Nat} {ws : List Int} : (leftR n ws).Pairwise (· < ·) := List.Pairwise.filter _ allB_sorted
theorem left_nodup {n : Nat} {ws : List Int} : (leftR n ws).Nodup := List.Pairwise.imp (fun h => Int.ne_of_lt h) left_sorted
/-! turning -/
def turn (n : Nat) (k w : Int) : Int := (w - 1 + k) % n + 1
theorem turn_bd {n : Nat} (hn : 1 ≤ n) (k w : Int) : 1 ≤ turn n k w ∧ turn n k w ≤ n := by
  unfold turn
  have b1 := Int.emod_nonneg (w - 1 + k) (show (n : Int) ≠ 0 by omega)
  have b2 := Int.emod_lt_of_pos (w - 1 + k) (show (0 : Int) < n by omega)
  omega
theorem turn_inj {n : Nat} {k x y : Int} (hx : 1 ≤ x ∧ x ≤ n) (hy : 1 ≤ y ∧ y ≤ n) (h : turn n k x = turn n k y) : x = y := by
  unfold turn at h
  have h' : (x - 1 + k) % n = (y - 1 + k) % n := by omega
  have d : ((n : Int)) ∣ (x - y) := by
    have := Int.emod_emod_of_dvd
    have e := Int.sub_emod (x - 1 + k) (y - 1 + k) n
    rw [h', Int.sub_self, Int.zero_emod] at e
    have e2 : x - 1 + k - (y - 1 + k) = x - y := by omega
    rw [e2] at e
    exact Int.dvd_of_emod_eq_zero e
  obtain ⟨c, hc⟩ := d
  have : c = 0 := by
    by_cases z : c = 0
    · exact z
    · exfalso
      rcases Int.lt_or_gt_of_ne z with q | q
      · have : (n : Int) * c ≤ (n : Int) * (-1) := Int.mul_le_mul_of_nonneg_left (by omega) (by omega)
        omega
      · have : (n : Int) * 1 ≤ (n : Int) * c := Int.mul_le_mul_of_nonneg_left (by omega) (by omega)
        omega
  rw [this] at hc
  omega
/-- the j-th berth going round from w -/
def cyc (n : Nat) (w : Int) (j : Nat) : Int := turn n (j : Int) w
theorem cyc_lo {n : Nat} {w : Int} {j : Nat} (hw : 1 ≤ w) (h : w + j ≤ n) : cyc n w j = w + j := by
  unfold cyc turn
  rw [Int.emod_eq_of_lt (by omega) (by omega)]
  omega
theorem cyc_hi {n : Nat} {w : Int} {j : Nat} (hw : 1 ≤ w ∧ w ≤ n) (hj : j < n) (h : (n : Int) < w + j) : cyc n w j = w + j - n := by
  unfold cyc turn
  have e : w - 1 + (j : Int) = (w - 1 + j - n) + n := by omega
  rw [e, Int.add_emod_right, Int.emod_eq_of_lt (by omega) (by omega)]
  omega
theorem cyc_turn {n : Nat} {w k : Int} {j : Nat} : cyc n (turn n k w) j = turn n k (cyc n w j) := by
  unfold cyc turn
  have e1 : (w - 1 + k) % (n : Int) + 1 - 1 + (j : Int) = (w - 1 + k) % n + j := by omega
  have e2 : (w - 1 + (j : Int)) % (n : Int) + 1 - 1 + k = (w - 1 + j) % n + k := by omega
  rw [e1, e2, Int.emod_add_emod, Int.emod_add_emod]
  congr 2
  omega
theorem rfree_is {n : Nat} {occ : Int → Bool} {w : Int} {j : Nat} (hw : 1 ≤ w ∧ w ≤ n) (hj : j < n) (h1 : occ (cyc n w j) = false) (h2 : ∀ i, i < j → occ (cyc n w i) = true) : rfree n occ w = some (cyc n w j) := by
  unfold rfree
  by_cases z : w + j ≤ n
  · rw [cyc_lo hw.1 z] at h1 ⊢
    rw [ffree_is (by omega) z h1 fun x x1 x2 => ?_]
    have := h2 (x - w).toNat (by omega)
    rw [cyc_lo hw.1 (by omega)] at this
    rw [show w + (((x - w).toNat : Nat) : Int) = x by omega] at this
    exact this
  · rw [cyc_hi hw hj (by omega)] at h1 ⊢
    rw [ffree_non fun x x1 x2 => ?_]
    · show ffree n occ 1 = _
      rw [ffree_is (by omega) (by omega) h1 fun x x1 x2 => ?_]
      have := h2 (x + n - w).toNat (by omega)
      rw [cyc_hi hw (by omega) (by omega)] at this
      rw [show w + (((x + n - w).toNat : Nat) : Int) - n = x by omega] at this
      exact this
    · have := h2 (x - w).toNat (by omega)
      rw [cyc_lo hw.1 (by omega)] at this
      rw [show w + (((x - w).toNat : Nat) : Int) = x by omega] at this
      exact this
theorem rfree_cyc {n : Nat} {occ : Int → Bool} {w b : Int} (hw : 1 ≤ w ∧ w ≤ n) (h : rfree n occ w = some b) : ∃ j, j < n ∧ b = cyc n w j ∧ occ b = false ∧ ∀ i, i < j → occ (cyc n w i) = true := by
  unfold rfree at h
  cases e : ffree n occ w with
  | some c =>
    rw [e] at h
    cases h
    obtain ⟨c1, c2, c3, c4⟩ := ffree_some e
    refine ⟨(b - w).toNat, by omega, ?_, c3, fun i hi => ?_⟩
    · rw [cyc_lo hw.1 (by omega)]
      omega
    · rw [cyc_lo hw.1 (by omega)]
      exact c4 _ (by omega) (by omega)
  | none =>
    rw [e] at h
    have f := ffree_none e
    obtain ⟨c1, c2, c3, c4⟩ := ffree_some h
    have hbw : b < w := by
      by_cases z : b < w
      · exact z
      · rw [f b (by omega) c2] at c3
        cases c3
    refine ⟨(b + n - w).toNat, by omega, ?_, c3, fun i hi => ?_⟩
    · rw [cyc_hi hw (by omega) (by omega)]
      omega
    · by_cases z : w + (i : Int) ≤ n
      · rw [cyc_lo hw.1 z]
        exact f _ (by omega) z
      · rw [cyc_hi hw (by omega) (by omega)]
        exact c4 _ (by omega) (by omega)
/-- turned wishes: turned berths -/
theorem turned_run {n : Nat} (hn : 1 ≤ n) (k : Int) : ∀ ws : List Int, (∀ w ∈ ws, 1 ≤ w ∧ w ≤ n) → ws.length ≤ n → placedR n (ws.map (turn n k)) = (placedR n ws).map (turn n k) ∧ ∀ x : Int, 1 ≤ x → x ≤ n → (rrun n (ws.map (turn n k))).1 (turn n k x) = (rrun n ws).1 x := snoc_ind (fun _ _ => ⟨rfl, fun x _ _ => rfl⟩) fun ws w ih hb hl => by
  rw [List.length_append, List.length_singleton] at hl
  have hw := hb w (List.mem_append_right _ (List.mem_singleton.mpr rfl))
  have hb' : ∀ w ∈ ws, 1 ≤ w ∧ w ≤ n := fun x hx => hb x (List.mem_append_left _ hx)
  obtain ⟨i1, i2⟩ := ih hb' (by omega)
  have L := layR n ws hb' (by omega)
  obtain ⟨b, e⟩ := rfree_ex (n := n) (w := w) L.occ (by rw [placedR_len]; omega)
  obtain ⟨b1, b2, b3⟩ := rfree_some hw.1 e
  obtain ⟨j, j1, j2, j3, j4⟩ := rfree_cyc hw e
  have cb : ∀ i, 1 ≤ cyc n w i ∧ cyc n w i ≤ n := fun i => turn_bd hn _ _
  have e' : rfree n (rrun n (ws.map (turn n k))).1 (turn n k w) = some (turn n k b) := by
    rw [j2, ← cyc_turn]
    refine rfree_is (turn_bd hn _ _) j1 ?_ fun i hi => ?_
    · rw [cyc_turn, i2 _ (cb j).1 (cb j).2, ← j2]
      exact j3
    · rw [cyc_turn, i2 _ (cb i).1 (cb i).2]
      exact j4 i hi
  rw [List.map_append, List.map_singleton]
  unfold placedR at i1 ⊢
  rw [rrun_snoc, rrun_snoc]
  unfold rstep
  rw [e, e', i1]
  refine ⟨by simp, fun x x1 x2 => ?_⟩
  show setO (rrun n (ws.map (turn n k))).1 (turn n k b) (turn n k x) = setO (rrun n ws).1 b x
  unfold setO
  rw [i2 x x1 x2]
  congr 1
  by_cases z : x = b
  · rw [z, decide_eq_true rfl, decide_eq_true rfl]
  · rw [decide_eq_false z, decide_eq_false fun q => z (turn_inj ⟨x1, x2⟩ ⟨b1, b2⟩ q)]
theorem turned_placed {n : Nat} {k : Int} {ws : List Int} (hn : 1 ≤ n) (hb : ∀ w ∈ ws, 1 ≤ w ∧ w ≤ n) (hl : ws.length ≤ n) : placedR n (ws.map (turn n k)) = (placedR n ws).map (turn n k) := (turned_run hn k ws hb hl).1
theorem turn_back {n : Nat} {k x : Int} (hx : 1 ≤ x ∧ x ≤ n) : turn n k (turn n (-k) x) = x := by
  unfold turn
  have e : (x - 1 + -k) % (n : Int) + 1 - 1 + k = (x - 1 + -k) % n + k := by omega
  rw [e, Int.emod_add_emod]
  have e2 : x - 1 + -k + k = x - 1 := by omega
  rw [e2, Int.emod_eq_of_lt (by omega) (by omega)]
  omega
theorem turned_left {n : Nat} {k : Int} {ws : List Int} (hn : 1 ≤ n) (hb : ∀ w ∈ ws, 1 ≤ w ∧ w ≤ n) (hl : ws.length ≤ n) : leftR n (ws.map (turn n k)) = sortI ((leftR n ws).map (turn n k)) := by
  have L := layR n ws hb hl
  refine sortI_uniq ?_ (List.Pairwise.imp (fun h => Int.le_of_lt h) left_sorted)
  have nd2 : ((leftR n ws).map (turn n k)).Nodup := by
    rw [List.nodup_iff_pairwise_ne, List.pairwise_map]
    refine List.Pairwise.imp_of_mem (fun {x y} hx hy h => ?_) left_nodup
    exact fun z => h (turn_inj (mem_left.mp hx).1 (mem_left.mp hy).1 z)
  refine (List.perm_ext_iff_of_nodup left_nodup nd2).mpr fun x => ?_
  rw [mem_left, turned_placed hn hb hl]
  constructor
  · rintro ⟨hx, hnx⟩
    refine List.mem_map.mpr ⟨turn n (-k) x, mem_left.mpr ⟨turn_bd hn _ _, fun z => hnx ?_⟩, turn_back hx⟩
    have := List.mem_map_of_mem (f := turn n k) z
    rw [turn_back hx] at this
    exact this
  · intro h
    obtain ⟨y, hy, rfl⟩ := List.mem_map.mp h
    obtain ⟨y1, y2⟩ := mem_left.mp hy
    refine ⟨turn_bd hn _ _, fun z => ?_⟩
    obtain ⟨u, hu, eu⟩ := List.mem_map.mp z
    rw [turn_inj (L.bd u hu) y1 eu] at hu
    exact y2 hu
/-- as many are left as berths are more than ships -/
theorem left_len {n : Nat} {ws : List Int} (hb : ∀ w ∈ ws, 1 ≤ w ∧ w ≤ n) (hl : ws.length ≤ n) : (leftR n ws).length + ws.length = n := by
  have L := layR n ws hb hl
  have h1 : (leftR n ws ++ placedR n ws).Perm (upTo 1 n) := by
    refine (List.perm_ext_iff_of_nodup ?_ upTo_nodup).mpr fun x => ?_
    · rw [List.nodup_append]
      exact ⟨left_nodup, L.nd, fun x hx y hy e => (mem_left.mp hx).2 (e ▸ hy)⟩
    · rw [List.mem_append, mem_left, mem_upTo]
      constructor
      · rintro (⟨h, _⟩ | h)
        · omega
        · have := L.bd x h
          omega
      · intro h
        by_cases z : x ∈ placedR n ws
        · exact .inr z
        · exact .inl ⟨by omega, z⟩
  have := h1.length_eq
  rw [List.length_append, upTo_len, placedR_len] at this
  exact this

/-! ### the round quay -/
theorem tyb_isInt {K : PySem.W.Frag} {H : Hp} {x : V} {T : String} (h : TyB K H x T) : True := trivial
def sp_first_free_round (K : PySem.W.Frag) (a : Ad) : Sp := fun vs H Q _ => ∃ (h : Addr) (n : Nat) (occ : Int → Bool) (w : Int), vs = [.ref h, .int w] ∧ SqL K H h (heldL n occ) ∧ n ≤ 900 ∧ 0 ≤ w ∧ w ≤ 1000 ∧ Q (vO (rfree n occ w)) H
abbrev N_first_free_round : List Str := ["held", "wish", "berth"]
def t_first_free_round (K : PySem.W.Frag) (a : Ad) : TS :=
  (tSeq (tAsg (tCall (sp_first_free K a) [] E0 (tCons (tVar 0) (tCons (tVar 1) tNil))) (gName 2))
    (tSeq (tIfS (tB (tIsN (tVar 2))) (tRet (tCall (sp_first_free K a) [] E0 (tCons (tVar 0) (tCons (tC (.int 1)) tNil)))) tNext)
    (tRet (tVar 2))))
theorem len_first_free_round {K : PySem.W.Frag} {a : Ad} {vs : List V} {H : Hp} {Q : VK} {E : XK} (h : sp_first_free_round K a vs H Q E) : vs.length = 2 := by
  obtain ⟨h, n, occ, w, rfl, _⟩ := h
  rfl
theorem pu_first_free_round {K : PySem.W.Frag} {a : Ad} {vs : List V} {H : Hp} {Q : VK} {E : XK} (h : sp_first_free_round K a vs H Q E) : t_first_free_round K a { nx := fun _ H' => Q .non H', rt := Q } (start N_first_free_round vs) H := by
  obtain ⟨h, n, occ, w, rfl, hs, hn, h0, hw, q⟩ := h
  refine ⟨.ref h, rfl, .int w, rfl, h, n, occ, w, rfl, hs, hn, h0, hw, ?_⟩
  unfold rfree at q
  cases e0 : ffree n occ w with
  | none =>
    rw [e0] at q
    exact ⟨.non, rfl, true, rfl, iteT ⟨.ref h, rfl, h, n, occ, 1, rfl, hs, hn, by decide, by decide, q⟩⟩
  | some c =>
    rw [e0] at q
    exact ⟨.int c, rfl, false, rfl, iteF ⟨.int c, rfl, q⟩⟩
theorem inV_ints {x : Int} {l : List Int} : inV (.int x) (l.map V.int) = decide (x ∈ l) := by
  unfold inV
  rw [List.any_map, Bool.eq_iff_iff, List.any_eq_true, decide_eq_true_eq]
  constructor
  · rintro ⟨y, hy, e⟩
    have e' : eqV (.int y) (.int x) = true := e
    have : y = x := by simpa [eqV] using e'
    exact this ▸ hy
  · intro h
    exact ⟨x, h, by show eqV (.int x) (.int x) = true; simp [eqV]⟩
theorem flat_ints {l : List Int} : (l.map V.int).all flatV = true := by
  rw [List.all_map, List.all_eq_true]
  intro x _
  rfl
theorem allB_at {n i : Nat} {x : Int} (h : (allB n)[i]? = some x) : x = 1 + (i : Int) := by
  unfold allB at h
  obtain ⟨h1, h2⟩ := List.getElem?_eq_some_iff.mp h
  rw [List.getElem_map, List.getElem_range] at h2
  exact h2.symm
/-! ### what the laws read of a script -/
def cellAt (ns : List Int) (k : Int) : Int := ns.getD k.toNat 0
theorem cut_drop (xs : List V) (k : Nat) : cutV xs (some (k : Int)) none = xs.drop k := by
  unfold cutV
  rw [HT.sIx_nat, HT.sIx_none]
  by_cases h : k ≤ xs.length
  · rw [Nat.min_eq_left h]
    exact List.take_of_length_le (by rw [List.length_drop]; omega)
  · rw [Nat.min_eq_right (by omega), Nat.sub_self, List.take_zero, List.drop_eq_nil_of_le (by omega)]
theorem cut2 (xs : List V) : cutV xs (some 2) none = xs.drop 2 := cut_drop xs 2
theorem atI_lit (xs : List V) (j : Nat) {v : V} (h : xs[j]? = some v) : atI xs (j : Int) = some v := atI_nat h
def sp_l_cell_at (K : PySem.W.Frag) : Sp := fun vs H Q _ => ∃ (s : Addr) (ns : List Int) (k : Int), vs = [.ref s, .int k] ∧ SqL K H s (ns.map V.int) ∧ 0 ≤ k ∧ Q (.int (cellAt ns k)) H
abbrev N_l_cell_at : List Str := ["_law_script", "_law_k"]
def t_l_cell_at (K : PySem.W.Frag) (a : Ad) : TS :=
  (tSeq (tIfS (tTest (tOp rLtI (tVar 1) (tCB (rLenSq K) (tCons (tVar 0) tNil)))) (tRet (tOp (rIxL K) (tVar 0) (tVar 1))) tNext)
    (tRet (tC (.int 0))))
theorem len_l_cell_at {K : PySem.W.Frag} {vs : List V} {H : Hp} {Q : VK} {E : XK} (h : sp_l_cell_at K vs H Q E) : vs.length = 2 := by
  obtain ⟨s, ns, k, rfl, _⟩ := h
  rfl
theorem pu_l_cell_at {K : PySem.W.Frag} {a : Ad} {vs : List V} {H : Hp} {Q : VK} {E : XK} (h : sp_l_cell_at K vs H Q E) : t_l_cell_at K a { nx := fun _ H' => Q .non H', rt := Q } (start N_l_cell_at vs) H := by
  obtain ⟨s, ns, k, rfl, hs, h0, q⟩ := h
  refine ⟨.int k, rfl, .ref s, rfl, s, _, rfl, .inl hs, _, _, rfl, rfl, _, rfl, ?_⟩
  by_cases h : k < ((ns.map V.int).length : Nat)
  · rw [decide_eq_true h]
    rw [List.length_map] at h
    have e : ns[k.toNat]? = some (cellAt ns k) := by
      unfold cellAt
      rw [List.getD_eq_getElem?_getD, List.getElem?_eq_getElem (by omega)]
      rfl
    refine iteT ⟨.ref s, rfl, .int k, rfl, s, _, k, _, rfl, rfl, hs, at_of (j := k.toNat) (by omega) (by rw [List.getElem?_map, e]; rfl), q⟩
  · rw [decide_eq_false h]
    rw [List.length_map] at h
    have e : cellAt ns k = 0 := by
      unfold cellAt
      rw [List.getD_eq_getElem?_getD, List.getElem?_eq_none (by omega)]
      rfl
    rw [e] at q
    exact iteF q
theorem p3 : (0 : Int) < 3 := by decide
theorem p4 : (0 : Int) < 4 := by decide
theorem d2 {n : Int} : CDiv n 2 := ⟨by decide, by decide⟩
theorem d3 {n : Int} : CDiv n 3 := ⟨by decide, by decide⟩
theorem d12 {n : Int} : CDiv n 12 := ⟨by decide, by decide⟩
theorem pick3 (c : Int) (x y z : V) : ∃ v, atI [x, y, z] (c % 3) = some v ∧ (v = x ∨ v = y ∨ v = z) := by
  have h : c % 3 = 0 ∨ c % 3 = 1 ∨ c % 3 = 2 := by omega
  rcases h with h | h | h <;> rw [h]
  · exact ⟨x, rfl, .inl rfl⟩
  · exact ⟨y, rfl, .inr (.inl rfl)⟩
  · exact ⟨z, rfl, .inr (.inr rfl)⟩
theorem pick4 (c : Int) (x y z u : V) : ∃ v, atI [x, y, z, u] (c % 4) = some v ∧ (v = x ∨ v = y ∨ v = z ∨ v = u) := by
  have h : c % 4 = 0 ∨ c % 4 = 1 ∨ c % 4 = 2 ∨ c % 4 = 3 := by omega
  rcases h with h | h | h | h <;> rw [h]
  · exact ⟨x, rfl, .inl rfl⟩
  · exact ⟨y, rfl, .inr (.inl rfl)⟩
  · exact ⟨z, rfl, .inr (.inr (.inl rfl))⟩
  · exact ⟨u, rfl, .inr (.inr (.inr rfl))⟩
/-! ### try: .. except C as e: kept = e: the caught one stays known by its class -/
def ExK (cls : Value) (d : Option Addr) (a : Addr) : HO := .ext fun h => ∃ (oe : Obj) (vs : Array Value), h.get? a = some oe ∧ Zc cls d oe ∧ oe.data = .fields vs
theorem exK_ok {P : Program} {w : World} {H : Hp} {h : Heap} {a : Addr} {cls : Value} {d : Option Addr} {oe : Obj} {vs : Array Value} (e : h.get? a = some oe) (z : Zc cls d oe) (dd : oe.data = .fields vs) : ObjOk P w H h a (ExK cls d a) :=
  ⟨⟨oe, vs, e, z, dd⟩, ⟨oe, e⟩, fun _ _ ⟨o, v, q, r⟩ k => ⟨o, v, k o q, r⟩⟩
section
variable {X : Cx} {pins : List (Addr × Obj)} {σ : L2.St} {H : Hp} {s : Shared}
/-- a pinned exception that came behind the entry becomes tracked -/
theorem keep_exc {a : Addr} {oe : Obj} {vs : Array Value} {cls : Value} {d : Option Addr} (J : Inv X ((a, oe) :: pins) σ H s) (z : Zc cls d oe) (dd : oe.data = .fields vs) (h0 : X.s_0.heap.get? a = none) (np : ∀ p ∈ X.pn ++ pins, p.1 ≠ a) : Inv X pins σ (upd H a (ExK cls d a)) s := by
  obtain ⟨ea, na, nL, nF, nc⟩ := J.pin (a, oe) (List.mem_append_right _ List.mem_cons_self)
  have ne : ∀ {b : Addr} {o : HO}, H b = some o → b ≠ a := fun e q => by
    rw [q] at e
    have na' : H a = none := na
    rw [na'] at e
    cases e
  refine ⟨J.ok, J.os, J.bare, ⟨J.base.keep, J.base.slot, fun b o e n hx => ?_, J.base.there, fun b xs e => ?_, fun b o u e => ?_, fun b ps e => ?_⟩, J.loc, J.cell, ?_, fun x c e => ?_, fun p hp => ?_, fun b o e => ?_, J.len⟩
  · have hb : b ≠ a := fun q => by
      rw [q, h0] at e
      cases e
    rw [upd_ne hb]
    exact J.base.free b o e n hx
  · have e2 := J.base.tups b xs e
    rw [upd_ne (ne e2)]
    exact e2
  · have e2 := J.base.frzs b o u e
    rw [upd_ne (ne e2)]
    exact e2
  · obtain ⟨more, e2⟩ := J.base.tbls b ps e
    refine ⟨more, ?_⟩
    rw [upd_ne (ne e2)]
    exact e2
  · rw [upd_ne (fun q => nL q.symm)]
    exact J.free
  · have hc : c ≠ a := fun q => by
      obtain ⟨v, o, e1, e2⟩ := J.cell x c e
      rw [q] at e1
      have ea' : s.heap.get? a = some oe := ea
      rw [ea'] at e1
      cases e1
      rw [dd] at e2
      cases e2
    rw [upd_ne hc]
    exact J.freeC x c e
  · have hp' : p ∈ X.pn ++ (a, oe) :: pins := by
      rcases List.mem_append.mp hp with k | k
      · exact List.mem_append_left _ k
      · exact List.mem_append_right _ (List.mem_cons_of_mem _ k)
    obtain ⟨q1, q2, q3, q4, q5⟩ := J.pin p hp'
    exact ⟨q1, by rw [upd_ne (np p hp)]; exact q2, q3, q4, q5⟩
  · by_cases hb : b = a
    · subst hb
      rw [upd_same] at e
      cases e
      exact exK_ok ea z dd
    · rw [upd_ne hb] at e
      refine (J.hok b o e).stay (fun c u _ q => q) (fun c q => ?_) fun c xs q => ?_
      · rw [upd_ne (ne q)]
        exact q
      · rw [upd_ne (ne q)]
        exact q
end
/-- what the clause wishes of an exception of the body: it is caught, kept in slot j; the clause's own name, slot i, is empty behind it -/
def wKeep (K : PySem.W.Frag) (c : Addr) (i j : Nat) (D : Ends) : WX := fun cls d σ H =>
  PySem.W.exmOne K cls (.ref c) = some true ∧ ∀ a, H a = none → D.nx (((σ.set i (some (.ref a))).set j (some (.ref a))).set i none) (upd H a (ExK cls d a))
def tTryKeep (K : PySem.W.Frag) (c : Addr) (i j : Nat) (tb : WX → TS) : TS := fun D σ H => tb (wKeep K c i j D) D σ H
section
variable {X : Cx} {x n : Str} {c : Addr} {i j : Nat} {body suite : List Stmt} {b1 : Stmt} {np pos pos' : Pos} {tb : WX → TS}
/-- an exception caught, its clause ended, it is tracked -/
theorem caught_kept {a : Addr} {pins : List (Addr × Obj)} {σ : L2.St} {H : Hp} {B : Heap} {sI s' : Shared} {cls : Value} {d : Option Addr} {D : Ends}
    (hs : X.stack = X.env :: X.outer) (hf : X.env.frame = some X.env.locals) (hex : X.ex = []) (hN : X.N.Nodup) (hi : X.N[i]? = some n) (hln : X.env.kindOf n = some .local) (hc : Names X x (.ref c)) (ok : X.Ok)
    (hsu : ∀ (a : Addr) (oe : Obj) (cls : Value) (d : Option Addr) (pn : List (Addr × Obj)), Zc cls d oe → (∃ vs, oe.data = .fields vs) → PSs (X.suite a ((a, oe) :: pn)) (b1 :: suite) (tAsg (tVar i) (gName j)))
    (hln2 : i < σ.length)
    (J : Inv X pins σ H sI) (nb : ∀ b o, sI.heap.get? b = some o → b ∉ frs X.stack → B.get? b = some o) (up : sI.heap.UpToSlots s'.heap) (sky : Sky B X.stack a (Zc cls d) X.env.locals s'.heap) (na : H a = none) (os : s'.os = sI.os) (ag : AllBare s'.gens)
    (w : wKeep X.K c i j D cls d σ H) :
    wpAny (model X.prog X.w) X.A (noteFrame (.ref a) X.env) (fun _ s₂ => wpAny (model X.prog X.w) X.A (setFlight (.ref a) none) (fun _ s₃ =>
      wpAny (model X.prog X.w) X.A (handleBy (.ref a) X.env [.ExceptHandler (some (.Name x np)) (some n) (b1 :: suite) pos']) (SP X pins D) X.xe s₃) X.xe s₂) X.xe s' := by
  obtain ⟨hb, hyes⟩ := w
  have frames : X.A.frames = some (X.env :: X.outer) := ok.frames.trans (congrArg some hs)
  have sky2 : Sky B (X.env :: X.outer) a (Zc cls d) X.env.locals s'.heap := hs ▸ sky
  -- the exception stands apart from all that stood
  have hB : B.get? a = none := by
    rcases sky with q | q | q
    · exact q.2.1
    · exact q.2.1
    · exact q.2.1
  refine Sky.land Zc.steady frames hf sky2 fun h3 fl3 up3 => ?_
  have J3 : Inv X pins σ H { s' with heap := h3 } := J.landed nb fl3.1 (up.trans up3) os ag
  obtain ⟨oe3, vs3, he3, hz3, hd3⟩ := fl3.there
  have notIn : a ∉ frs (X.env :: X.outer) := fun hm => by
    obtain ⟨_, o, e, hnf⟩ := fl3.2.2.1.mem hm
    rw [he3] at e
    cases e
    exact hnf _ hd3
  have nL : a ≠ X.env.locals := fun z => notIn (List.mem_filterMap.mpr ⟨X.env, List.mem_cons_self, hf.trans (congrArg some z.symm)⟩)
  have nF : a ∉ X.fs := fun hm => by
    obtain ⟨e, he, q⟩ := List.mem_filterMap.mp hm
    exact notIn (List.mem_filterMap.mpr ⟨e, List.mem_cons_of_mem _ he, q⟩)
  have nS : a ∉ frs X.stack := hs ▸ notIn
  have h0 : X.s_0.heap.get? a = none := by
    cases q : X.s_0.heap.get? a with
    | none => rfl
    | some o =>
      obtain ⟨o', e⟩ := J.base.there a o q (by rw [hex]; simp)
      rw [nb a o' e nS] at hB
      cases hB
  have npin : ∀ p ∈ X.pn ++ pins, p.1 ≠ a := fun p hp z => by
    obtain ⟨e, _, p3, p4, _⟩ := J.pin p hp
    rw [z] at e
    rw [nb a p.2 e nS] at hB
    cases hB
  refine wpAny_handleBy_cons (codeAny_handlers_test ?_) (by intro q; cases q)
  have S3 := J3.suite he3 hd3 na nL nF
  have LT : PySem.W.Looks (model X.prog X.w) h3 (typeOf (.ref a)) cls := fun A Q E s k q => wpAny_typeOf_ref (k _ _ he3) (by rw [hz3.1]; exact q)
  have test : ∀ {Q : Value → Shared → Prop} {E : Value → Shared → Prop}, Q (.ref c) { s' with heap := h3 } → wpAny (model X.prog X.w) (X.A.mark (some (.ref a))) (eval (.Name x np) X.env) Q E { s' with heap := h3 } := fun {Q E} q => by
    obtain ⟨hg, hdbg, hm | ⟨hm, hv, hnn⟩⟩ := hc
    · exact ld_glob (X := X.suite a ((a, oe3) :: (X.pn ++ pins))) S3 hg hm q hdbg
    · exact ld_blt (X := X.suite a ((a, oe3) :: (X.pn ++ pins))) S3 hg hm hv q hnn hdbg
  refine test ((PySem.W.exm_one (M := model X.prog X.w) J3.kIn LT hb).here ?_)
  refine codeAny_handlers_suite_as (HandSPX.lands_againZ fl3 fun h4 fl4 up4 => ?_)
  have J4 : Inv X pins σ H { s' with heap := h4 } := J.landed nb fl4.1 ((up.trans up3).trans up4) os ag
  obtain ⟨oe4, vs4, he4, hz4, hd4⟩ := fl4.there
  have S4 := J4.suite he4 hd4 na nL nF
  refine store_ok (X := X.suite a ((a, oe4) :: (X.pn ++ pins))) (v := .ref a) S4 hN hi (.inl hln) rfl (fun s5 S5 => ?_) (.inr hln)
  have q5 : (tAsg (tVar i) (gName j)) { nx := fun σ' H' => H' = H ∧ σ' = (σ.set i (some (.ref a))).set j (some (.ref a)), rt := fun _ _ => False } (σ.set i (some (.ref a))) H := by
    exact ⟨.ref a, by rw [List.getElem?_set_self hln2], rfl, rfl⟩
  refine wpAny_mono ((hsu a oe4 cls d (X.pn ++ pins) hz4 ⟨_, hd4⟩).run [] s5 _ H _ S5 q5) (fun f s6 hsp => ?_) (fun _ _ z => False.elim z)
  cases f with
  | next =>
    obtain ⟨σ6, H6, S6, rfl, rfl⟩ := hsp
    have P6 : Inv X ((a, oe4) :: pins) ((σ.set i (some (.ref a))).set j (some (.ref a))) H6 s6 :=
      ⟨ok, S6.os, S6.bare, S6.base, S6.loc, S6.cell, S6.free, S6.freeC, fun p hp => S6.pin p (by
        rw [List.append_nil]
        rcases List.mem_append.mp hp with k | k
        · exact List.mem_cons_of_mem _ (List.mem_append_left _ k)
        · rcases List.mem_cons.mp k with k | k
          · rw [k]; exact List.mem_cons_self
          · exact List.mem_cons_of_mem _ (List.mem_append_right _ k)), S6.hok, S6.len⟩
    refine gone_ok P6 hN hi hln fun s7 J7 => ?_
    exact ⟨_, _, keep_exc J7 hz4 hd4 h0 npin, hyes a na⟩
  | brk =>
    obtain ⟨_, _, _, q⟩ := hsp
    exact q.elim
  | cont =>
    obtain ⟨_, _, _, q⟩ := hsp
    exact q.elim
  | ret u =>
    obtain ⟨_, _, _, _, _, q⟩ := hsp
    exact q.elim
theorem ps_try_keep (hs : X.stack = X.env :: X.outer) (hf : X.env.frame = some X.env.locals) (hex : X.ex = []) (hN : X.N.Nodup) (hi : X.N[i]? = some n) (hln : X.env.kindOf n = some .local) (hc : Names X x (.ref c))
    (hb : ∀ (W : WX) (pn : List (Addr × Obj)) (xe : Value → Shared → Prop), Takes (X.tr pn xe) W → PassesOwn (model X.prog X.w) X.A X.env xe → PSs (X.tr pn xe) body (tb W))
    (hsu : ∀ (a : Addr) (oe : Obj) (cls : Value) (d : Option Addr) (pn : List (Addr × Obj)), Zc cls d oe → (∃ vs, oe.data = .fields vs) → PSs (X.suite a ((a, oe) :: pn)) (b1 :: suite) (tAsg (tVar i) (gName j))) :
    PS X (.Try body [.ExceptHandler (some (.Name x np)) (some n) (b1 :: suite) pos'] [] [] pos) (tTryKeep X.K c i j tb) := by
  refine ⟨fun pins s σ H D I h => wpAny_Try_except ?_⟩
  have ok := I.ok
  refine wpAny_mono ((hb (wKeep X.K c i j D) (X.pn ++ pins) (fun e s₁ => wpAny (model X.prog X.w) X.A (noteFrame e X.env) (fun _ s₂ => wpAny (model X.prog X.w) X.A (setFlight e none) (fun _ s₃ =>
    wpAny (model X.prog X.w) X.A (handleBy e X.env [.ExceptHandler (some (.Name x np)) (some n) (b1 :: suite) pos']) (SP X pins D) X.xe s₃) X.xe s₂) X.xe s₁) (fun u s' xx => ?_) PassesOwn.looking).run [] s σ H D (I.toTry _) h) (fun f s1 hsp => ?_) (fun e s1 he => he)
  · obtain ⟨a, B, sI, pins', σ', H', cls, d, rfl, J', nb, up, sky, na, os, ag, w⟩ := xx
    have il : i < σ'.length := by
      have e1 := (List.getElem?_eq_some_iff.mp hi).1
      have e2 := J'.len
      have e3 : σ'.length = X.N.length := e2
      omega
    exact caught_kept hs hf hex hN hi hln hc ok hsu il (J'.ofTry ok) nb up sky na os ag w
  · cases f with
    | next =>
      obtain ⟨σ', H', J', q⟩ := hsp
      exact wpAny_execs_nil ⟨σ', H', J'.ofTry ok, q⟩
    | brk =>
      obtain ⟨σ', H', J', q⟩ := hsp
      exact ⟨σ', H', J'.ofTry ok, q⟩
    | cont =>
      obtain ⟨σ', H', J', q⟩ := hsp
      exact ⟨σ', H', J'.ofTry ok, q⟩
    | ret u =>
      obtain ⟨v, σ', H', J', r, q⟩ := hsp
      exact ⟨v, σ', H', J'.ofTry ok, r, q⟩
end

/-! ### isinstance of a kept exception; a call, inside a try, of a local that holds a def -/
structure ExG (K : PySem.W.Frag) (C : Addr) : Prop where
  c : ExcC K C
  ty : PySem.W.typeIn K (.ref C) = some (.type "type")
  self : PySem.W.subIn K (.ref C) (.ref C) = some true
theorem cls_some {K : PySem.W.Frag} {C : Addr} (h : PySem.W.hasDictIn K C = true) : (PySem.W.clsIn K C).isSome = true := by
  obtain ⟨cd, hc, _⟩ := PySem.W.any_some h
  rw [hc]
  rfl
theorem kit_ref {K : PySem.W.Frag} {C D : Addr} {b : Bool} (g : ExG K C) (h : PySem.W.subIn K (.ref D) (.ref C) = some b) : PySem.W.kitOne K (.ref D) (.ref C) = some b := by
  unfold PySem.W.kitOne
  by_cases e : (Value.ref D == Value.ref C) = true
  · rw [if_pos e]
    have e2 : D = C := Value.ref.inj (beq_iff_eq.mp e)
    subst e2
    rw [g.self] at h
    exact h
  · rw [if_neg e]
    have e2 : ((PySem.W.clsIn K C).isSome && PySem.W.typeIn K (.ref C) == some (.type "type")) = true := by rw [cls_some g.c.hd, g.ty] <;> rfl
    show (if ((PySem.W.clsIn K C).isSome && PySem.W.typeIn K (.ref C) == some (.type "type")) = true then PySem.W.subIn K (.ref D) (.ref C) else none) = some b
    rw [if_pos e2]
    exact h
theorem kit_typ {K : PySem.W.Frag} {D : Addr} {T : String} {b : Bool} (hm : PySem.W.kitMeta T = true) (h : PySem.W.subIn K (.ref D) (.type T) = some b) : PySem.W.kitOne K (.ref D) (.type T) = some b := by
  unfold PySem.W.kitOne
  have e : ¬ (Value.ref D == Value.type T) = true := fun z => by cases beq_iff_eq.mp z
  rw [if_neg e]
  show (if PySem.W.kitMeta T = true then PySem.W.subIn K (.ref D) (.type T) else none) = some b
  rw [if_pos hm]
  exact h
theorem exm_of {K : PySem.W.Frag} {C : Addr} {cls : Value} {b : Bool} (g : ExG K C) (h : PySem.W.subIn K cls (.ref C) = some b) : PySem.W.exmOne K cls (.ref C) = some b := PySem.W.exm_ref g.c.hs g.c.hd g.ty h
inductive TyE (K : PySem.W.Frag) (H : Hp) : V → Value → Prop where
  | old {x : V} {t : Value} : TyX K H x t → TyE K H x t
  | exc {a D : Addr} : H a = some (ExK (.ref D) none a) → ExcC K D → TyE K H (.ref a) (.ref D)
def rIsiE (K : PySem.W.Frag) : List V → Hp → VK → Prop := fun xs H Q => ∃ (x c : V) (t u : Value) (b : Bool), xs = [x, c] ∧ ClsV c u ∧ TyE K H x t ∧ PySem.W.kitOne K t u = some b ∧ Q (.bl b) H
def rIsiTE (K : PySem.W.Frag) : List V → Hp → VK → Prop := fun xs H Q => ∃ (x : V) (tp : Addr) (cs : List V) (t : Value) (us : List Value) (b : Bool), xs = [x, .ref tp] ∧ H tp = some (.tup cs) ∧ Paired ClsV cs us ∧ TyE K H x t ∧ PySem.W.kitAny K t us = some b ∧ Q (.bl b) H
section
variable {X : Cx} {pins : List (Addr × Obj)} {σ : L2.St} {H : Hp} {s : Shared}
theorem kit_ofE {x : V} {u t : Value} (I : Inv X pins σ H s) (rx : RelV x u) (ty : TyE X.K H x t) : ∃ P : Heap → Prop, PySem.W.KitX X.K u t P ∧ P s.heap ∧ u ≠ .builtin "__main__.__loader__#opaque" := by
  cases ty with
  | old ty => exact kit_of I rx ty
  | @exc a D e C =>
    cases (show u = Value.ref a from rx)
    obtain ⟨⟨oe, vs, e1, z, dd⟩, _, _⟩ := (show ObjOk X.prog X.w H s.heap a (ExK (.ref D) none a) from I.hok a _ e)
    have J : PySem.W.InstAt s.heap a oe D none := by
      obtain ⟨oc, od, oda, osl⟩ := oe
      obtain ⟨h1, h2⟩ := z
      dsimp only at h1 h2 dd
      subst h1 h2 dd
      exact ⟨e1, rfl, rfl, trivial⟩
    exact ⟨_, PySem.W.handS_kitx_exc C.hg C.hk C.hs C.hd C.ha C.hn C.ht C.hm, J, fun z => nomatch z⟩
theorem call_isiE : CallR X (.builtin "isinstance") (rIsiE X.K) := by
  intro pins s σ H xs us Q I r h
  obtain ⟨x, c, t, u, b, rfl, k, ty, e, q⟩ := h
  obtain ⟨u1, u2, rfl, r1, r2⟩ := vals2 r
  have e2 := k.eq r2
  subst e2
  obtain ⟨P, Z, p, hx⟩ := kit_ofE I r1 ty
  exact PySem.W.kia_one Z I.kIn p e hx fun tk => ⟨.bl b, H, I.tok tk, rfl, q⟩
theorem call_isiTE : CallR X (.builtin "isinstance") (rIsiTE X.K) := by
  intro pins s σ H xs us Q I r h
  obtain ⟨x, tp, cs, t, ws, b, rfl, hT, k, ty, e, q⟩ := h
  obtain ⟨u1, u2, rfl, r1, r2⟩ := vals2 r
  cases (show u2 = Value.ref tp from r2)
  obtain ⟨P, Z, p, hx⟩ := kit_ofE I r1 ty
  obtain ⟨_, its, rv, o, h1, h2, n, h3⟩ := (show ObjOk X.prog X.w H s.heap tp (.tup cs) from I.hok tp _ hT)
  have e3 := ClsV.all k rv
  subst e3
  obtain ⟨oc, od, dt, sl⟩ := o
  simp only at h2 h3
  subst h2 h3
  exact PySem.W.kia_tup Z I.kIn p h1 e hx fun tk => ⟨.bl b, H, I.tok tk, rfl, q⟩
end
/-- a def that a local may hold -/
structure Hd (P : Program) (w : World) (K : PySem.W.Frag) (mg : Str → Option Value) (base : Heap) (CX : CXT) (kk : Nat) (f : Addr) (sp : Sp) : Prop where
  ex : ∃ (k : Nat) (fd : FuncData) (ps : List Str), k ≤ kk ∧ FnOk P w K mg base CX k f fd ps sp ∧ Binds K fd ps []
  kp : PySem.W.keepIn K (.ref f) = true
theorem hd_of {P : Program} {w : World} {K : PySem.W.Frag} {mg : Str → Option Value} {base : Heap} {CX : CXT} {k kk : Nat} {x : Str} {f : Addr} {ps : List Str} {sp : Sp} (G : Cb P w K mg base CX k x f ps sp) (h : k ≤ kk) : Hd P w K mg base CX kk f sp := by
  obtain ⟨⟨fd, F, b⟩, g, kp⟩ := G
  exact ⟨⟨k, fd, ps, h, F, b⟩, kp⟩
def tCallD (i : Nat) (S : Addr → Sp → Prop) (E : L2.St → XK) (t : TA) : TE := fun σ H Q => ∃ f sp, σ[i]? = some (some (.ref f)) ∧ S f sp ∧ t σ H fun vs H1 => sp vs H1 Q (E σ)
theorem pe_callD {X : Cx} {CX : CXT} {kk i : Nat} {S : Addr → Sp → Prop} {E : L2.St → XK} {x : Str} {p pos : Pos} {e : Expr} {es : List Expr} {t : TA} (A : ∀ f sp, S f sp → Hd X.prog X.w X.K X.mg X.base CX kk f sp) (hr : Room kk X.A) (hx : ∀ σ, PassesAt CX X σ (E σ))
    (ha : PA X (e :: es) t) (hN : X.N[i]? = some x := by rfl) (hv : Vis X.env.scope x := by first | exact Or.inl rfl | exact Or.inr (Or.inl rfl) | exact Or.inr (Or.inr rfl))
    (hdb : (x == ("__debug__" : Str)) = false := by decide) (hcd : (x == ("__classdict__" : Str)) = false := by decide)
    (he : starEach (e :: es) X.env = (false, eval e X.env) :: starEach es X.env := by rfl) (hpl : (backTo pos (starEach es X.env)).any (·.1) = false := by rfl) : PE X (.Call (.Name x p) (e :: es) [] pos) (tCallD i S E t) := by
  refine ⟨fun pins s σ H Q I h => ?_⟩
  obtain ⟨f, sp, hs, hS, ht⟩ := h
  obtain ⟨⟨k, fd, ps, hk, F, hb⟩, kp⟩ := A f sp hS
  refine wpAny_Call_Name_kw (thn ((pe_var (pos := p) hN hv hdb hcd).run pins s σ H (fun v H1 => v = .ref f ∧ H1 = H) I ⟨.ref f, hs, rfl, rfl⟩) fun u s1 ⟨v, H1, I1, r1, q1⟩ => ?_)
  obtain ⟨rfl, rfl⟩ := q1
  cases r1
  refine PySem.W.callWith_K (h₀ := X.base) I.ok.mod.kin kp (thn (ha.run pos pins s1 σ _ _ I1 ht) fun us s2 ⟨vs, H2, I2, r, q⟩ => ⟨I2.kIn, ?_⟩) he hpl
  exact run_fnS F (hr.mono hk) hb (hx σ) I2 r q

/-! ### the two classes: methods called on one's own object, on one of either class, and the making of an object, also inside a try -/
def Ad.cls (a : Ad) (b : Bool) : Addr := if b then a.c_Round else a.c_Quay
/-- a method that keeps its promise, as its class has it -/
structure Mb (P : Program) (w : World) (K : PySem.W.Frag) (mg : Str → Option Value) (base : Heap) (CX : CXT) (k : Nat) (C : Addr) (m : Str) (f : Addr) (ps : List Str) (sp : Sp) : Prop where
  ex : ∃ fd, FnOk P w K mg base CX k f fd ps sp ∧ Binds K fd ps []
  mt : Meth K C m f
theorem _root_.L2.FnOk.lift {P : Program} {w : World} {K : PySem.W.Frag} {mg : Str → Option Value} {base : Heap} {CX : CXT} {k k' : Nat} {f : Addr} {fd : FuncData} {ps : List Str} {sp : Sp} (F : FnOk P w K mg base CX k f fd ps sp) (h : k ≤ k') : FnOk P w K mg base CX k' f fd ps sp :=
  ⟨F.len, fun A outer s H args us vs Q E hr e0 hb r q => F.run A outer s H args us vs Q E (hr.mono h) e0 hb r q⟩
theorem Mb.lift {P : Program} {w : World} {K : PySem.W.Frag} {mg : Str → Option Value} {base : Heap} {CX : CXT} {k k' : Nat} {C : Addr} {m : Str} {f : Addr} {ps : List Str} {sp : Sp} (G : Mb P w K mg base CX k C m f ps sp) (h : k ≤ k') : Mb P w K mg base CX k' C m f ps sp := by
  obtain ⟨⟨fd, F, b⟩, mt⟩ := G
  exact ⟨⟨fd, F.lift h, b⟩, mt⟩
theorem passOf {CX : CXT} {X : Cx} {E : XK} (h : Passes CX X E) (σ : L2.St) : PassesAt CX X σ E := fun pins H s e s' I q => h pins σ H s e s' I q
def tMethB (C : Bool → Addr) (m : Str) (sp : Bool → Sp) (E : L2.St → XK) (ta : TE) (t : TA) : TE := fun σ H Q => ta σ H fun x H1 => ∃ b p dx fs, x = V.ref p ∧ H1 p = some (.ins (C b) dx fs) ∧ List.lookup m fs = none ∧ t σ H1 fun vs H2 => sp b (x :: vs) H2 Q (E σ)
def tMk (C : Addr) (sp : Sp) (E : L2.St → XK) (t : TA) : TE := fun σ H Q => t σ H fun vs H1 => ∀ (x dx : Addr), H1 x = none → H1 dx = none → dx ≠ x → sp (V.ref x :: vs) (upd (upd H1 dx (.own x)) x (.ins C dx [])) (fun v H2 => v = V.non ∧ Q (V.ref x) H2) (E σ)
section
variable {X : Cx}
theorem pe_mbB {CX : CXT} {k : Nat} {C : Bool → Addr} {f : Bool → Addr} {ps : List Str} {sp : Bool → Sp} {E : L2.St → XK} {m : Str} {pos apos : Pos} {o e : Expr} {es : List Expr} {ta : TE} {t : TA} {pl : Sem Bool}
    (G : ∀ b, Mb X.prog X.w X.K X.mg X.base CX k (C b) m (f b) ps (sp b)) (cl : ∀ b, Cls X.K (C b)) (hr : Room k X.A) (hx : ∀ σ, PassesAt CX X σ (E σ)) (ho : PE X o ta) (ha : PA X (e :: es) t)
    (hst : starEach (e :: es) X.env = (false, eval e X.env) :: starEach es X.env := by rfl) (hpl : (backTo pos (starEach es X.env)).any (·.1) = false := by rfl)
    (ht : eval (.Call (.Attribute o m apos) (e :: es) [] pos) X.env = (do
      let ov ← eval o X.env
      standAt apos.atName
      let __x ← holding [ov] (getMethod ov m pl)
      match __x with
        | (f, first) => callWith pos f first (backTo pos (starEach (e :: es) X.env)) (backToKw pos (keywordEach [] X.env))) := by rfl) :
    PE X (.Call (.Attribute o m apos) (e :: es) [] pos) (tMethB C m sp E ta t) := by
  refine ⟨fun pins s σ H Q I h => ?_⟩
  refine PySem.W.methodCall_KW (pl := pl) (thn (ho.run pins s σ H _ I h) ?_) ht
  rintro u s1 ⟨x, H1, I1, rx, b, p, dx, fs, rfl, hp, hl, q⟩
  cases rx
  obtain ⟨⟨fd, F, hb⟩, mt⟩ := G b
  refine getmeth_ok I1 hp (cl b) mt hl (PySem.W.callWith_K I1.ok.mod.kin mt.kp (thn (ha.run pos pins s1 σ H1 (fun vs H2 => sp b (V.ref p :: vs) H2 Q (E σ)) I1 q) ?_) hst hpl)
  rintro us s2 ⟨vs, H2, I2, r, q2⟩
  exact ⟨I2.kIn, run_fnS (E := E) F hr hb (hx σ) I2 (Paired.cons (F := L2.RelV) (a := V.ref p) (b := Value.ref p) rfl r) q2⟩
theorem pe_mbB0 {CX : CXT} {k : Nat} {C : Bool → Addr} {f : Bool → Addr} {ps : List Str} {sp : Bool → Sp} {E : L2.St → XK} {m : Str} {pos apos : Pos} {o : Expr} {ta : TE} {pl : Sem Bool}
    (G : ∀ b, Mb X.prog X.w X.K X.mg X.base CX k (C b) m (f b) ps (sp b)) (cl : ∀ b, Cls X.K (C b)) (hr : Room k X.A) (hx : ∀ σ, PassesAt CX X σ (E σ)) (ho : PE X o ta)
    (ht : eval (.Call (.Attribute o m apos) [] [] pos) X.env = (do
      let ov ← eval o X.env
      standAt apos.atName
      let __x ← holding [ov] (getMethod ov m pl)
      match __x with
        | (f, first) => callWith pos f first (backTo pos (starEach [] X.env)) (backToKw pos (keywordEach [] X.env))) := by rfl) :
    PE X (.Call (.Attribute o m apos) [] [] pos) (tMethB C m sp E ta tNil) := by
  refine ⟨fun pins s σ H Q I h => ?_⟩
  refine PySem.W.methodCall_KW (pl := pl) (thn (ho.run pins s σ H _ I h) ?_) ht
  rintro u s1 ⟨x, H1, I1, rx, b, p, dx, fs, rfl, hp, hl, q⟩
  cases rx
  obtain ⟨⟨fd, F, hb⟩, mt⟩ := G b
  exact getmeth_ok I1 hp (cl b) mt hl (PySem.W.callWith_K0 I1.kIn mt.kp (run_fnS (E := E) F hr hb (hx σ) I1 (Paired.cons (F := L2.RelV) (a := V.ref p) (b := Value.ref p) rfl .nil) q))
theorem run_makeS {CX : CXT} {k : Nat} {f C : Addr} {fd : FuncData} {ps : List Str} {sp : Sp} {E : L2.St → XK} {pins : List (Addr × Obj)} {σ : L2.St} {H : Hp} {s : Shared} {Q : VK} {us : List Value} {vs : List V}
    (M : Mk X.K C f) (F : FnOk X.prog X.w X.K X.mg X.base CX k f fd ps sp) (hr : Room (k + 1) X.A) (hb : L2.Binds X.K fd ps []) (hx : PassesAt CX X σ (E σ)) (I : L2.Inv X pins σ H s) (r : Vals vs us)
    (h : ∀ (x dx : Addr), H x = none → H dx = none → dx ≠ x → sp (V.ref x :: vs) (upd (upd H dx (.own x)) x (.ins C dx [])) (fun v H2 => v = V.non ∧ Q (V.ref x) H2) (E σ)) :
    wpAny (model X.prog X.w) X.A (call (Value.ref C) us) (EP X pins σ Q) X.xe s := by
  have hq := h (s.heap.objs.size + 1) s.heap.objs.size (HOk.fresh I.hok (Nat.le_succ _)) (HOk.fresh I.hok (Nat.le_refl _)) (Nat.ne_of_lt (Nat.lt_succ_self _))
  have I2 := Inv.made (C := C) I
  have r2 : Vals (V.ref (s.heap.objs.size + 1) :: vs) (Value.ref (s.heap.objs.size + 1) :: us) := .cons rfl r
  have hl : ((Value.ref (s.heap.objs.size + 1) :: us) ++ []).length = ps.length := by
    rw [List.append_nil]
    exact r2.length.symm.trans (F.len _ _ _ _ hq)
  have hb2 := hb { heap := (s.heap.push PySem.W.emptyDict).push (PySem.W.instObj C s.heap.objs.size), gens := s.gens, drawn := s.drawn, toks := s.toks, os := s.os } (Value.ref (s.heap.objs.size + 1) :: us) I2.kIn hl
  rw [List.append_nil] at hb2
  refine wpAny_call (make_map I.kIn M.makes M.init (beq_iff_eq.mp M.fn) (codeAny_mono (F.run (X.A.under (Code.builtin "type.__call__" { pos := Value.ref C :: us })) X.stack _ _ { pos := Value.ref (s.heap.objs.size + 1) :: us } (Value.ref (s.heap.objs.size + 1) :: us) _ _ (E σ) (Room.make hr C us []) (Env0.make I2.env0 C us []) hb2 r2 hq) ?_))
  intro rs s' hq'
  cases rs with
  | error e => exact hx pins _ _ e s' I2 hq'
  | ok fl =>
    cases fl with
    | ret u =>
      obtain ⟨v, H', I3, rv, rfl, q3⟩ := I2.after hq'
      exact ⟨rv, V.ref (s.heap.objs.size + 1), H', I3, (show L2.RelV (V.ref (s.heap.objs.size + 1)) (Value.ref (s.heap.objs.size + 1)) from rfl), q3⟩
    | _ => exact hq'.elim
theorem pe_mk {CX : CXT} {k : Nat} {f C : Addr} {ps : List Str} {sp : Sp} {E : L2.St → XK} {x : Str} {p pos : Pos} {e : Expr} {es : List Expr} {t : TA}
    (M : Mk X.K C f) (G : ∃ fd, FnOk X.prog X.w X.K X.mg X.base CX k f fd ps sp ∧ Binds X.K fd ps []) (hm : X.mg x = some (.ref C)) (hr : Room (k + 1) X.A) (hg : Gl X x) (hx : ∀ σ, PassesAt CX X σ (E σ)) (ha : PA X (e :: es) t)
    (hdb : (x == ("__debug__" : Str)) = false := by decide) (he : starEach (e :: es) X.env = (false, eval e X.env) :: starEach es X.env := by rfl) (hpl : (backTo pos (starEach es X.env)).any (·.1) = false := by rfl) :
    PE X (.Call (.Name x p) (e :: es) [] pos) (tMk C sp E t) := by
  obtain ⟨fd, F, hb⟩ := G
  refine ⟨fun pins s σ H Q I h => wpAny_Call_Name_kw (ld_glob I hg hm (PySem.W.callWith_K I.ok.mod.kin M.kp (thn (ha.run pos pins s σ H _ I h) ?_) he hpl) hdb)⟩
  rintro us s1 ⟨vs, H1, I1, r, q⟩
  exact ⟨I1.kIn, run_makeS (E := E) M F hr hb (hx σ) I1 r q⟩
end
theorem mb_two {P : Program} {w : World} {K : PySem.W.Frag} {mg : Str → Option Value} {base : Heap} {CX : CXT} {kQ kR k : Nat} {m : Str} {fQ fR : Addr} {ps : List Str} {sp : Ad → Bool → Sp} {a : Ad} {TX : Ad → Prop} (T : TX a) (hQ : ∃ fd, FnOk P w K mg base CX kQ fQ fd ps (sp a false) ∧ Binds K fd ps []) (hR : ∃ fd, FnOk P w K mg base CX kR fR fd ps (sp a true) ∧ Binds K fd ps [])
    (mQ : Meth K a.c_Quay m fQ) (mR : Meth K a.c_Round m fR) (h1 : kQ ≤ k) (h2 : kR ≤ k) : ∀ b, Mb P w K mg base CX k (a.cls b) m ((fun b => if b = true then fR else fQ) b) ps (sp a b) := fun b => by
  cases b with
  | false =>
    obtain ⟨fd, F, hb⟩ := hQ
    exact ⟨⟨fd, F.lift h1, hb⟩, mQ⟩
  | true =>
    obtain ⟨fd, F, hb⟩ := hR
    exact ⟨⟨fd, F.lift h2, hb⟩, mR⟩
theorem mb_one {P : Program} {w : World} {K : PySem.W.Frag} {mg : Str → Option Value} {base : Heap} {CX : CXT} {kQ k : Nat} {m : Str} {fQ : Addr} {ps : List Str} {sp : Ad → Bool → Sp} {a : Ad} {TX : Ad → Prop} (T : TX a) (hQ : ∀ b, ∃ fd, FnOk P w K mg base CX kQ fQ fd ps (sp a b) ∧ Binds K fd ps [])
    (mQ : Meth K a.c_Quay m fQ) (mR : Meth K a.c_Round m fQ) (h1 : kQ ≤ k) : ∀ b, Mb P w K mg base CX k (a.cls b) m ((fun _ => fQ) b) ps (sp a b) := fun b => by
  obtain ⟨fd, F, hb⟩ := hQ b
  cases b with
  | false => exact ⟨⟨fd, F.lift h1, hb⟩, mQ⟩
  | true => exact ⟨⟨fd, F.lift h1, hb⟩, mR⟩

/-! ### x in d.values(), x not in d.values(): whole numbers -/
theorem entry_in : entryFor table "proto.contains_iter" = some Builtin.«proto.contains_iter» := entryFor_of_tree (by rfl)
theorem look_in : typeLookup (Value.type "dict_values") ("__contains__" : Str) = pure none := by rfl
theorem qt_in {as : List Value} : (Code.builtin "proto.contains_iter" { pos := as }).quiet = true := Code.quiet_builtin _ (by decide +kernel)
theorem in_loop {P : Program} {w : World} {it d : Addr} {ep : Nat} {kvs : List (Key × Value)} {ns : List Int} {x : Int} {tx : Tok} (hd : d ≠ it) (hl : kvs.length = ns.length) (hv : ∀ (i : Nat) (z : Int), ns[i]? = some z → ∃ k t, kvs[i]? = some (k, Value.int z t)) :
    ∀ (m i : Nat) (A : Around) (R : Result → Shared → Prop) (s : Shared), ns.length - i = m → A.handled = none → s.heap.IsValIter it d i kvs.length ep → Heap.DictAt (mixKind P w) s.heap d kvs ep →
      (∀ (h' : Heap) (t' : Nat), (∀ b o, b ≠ it → s.heap.get? b = some o → h'.get? b = some o) → R (.ok (.ret (.bool (decide (x ∈ ns.drop i))))) { heap := h', gens := s.gens, drawn := s.drawn, toks := t', os := s.os }) →
      codeAny (model P w) A (Code.builtin "proto.contains_iter" { pos := [.ref it, .int x tx] }) R s := by
  intro m
  induction m with
  | zero =>
    intro i A R s hm hA hi hdt k
    refine codeAny_builtin entry_in ?_
    show wpAny _ _ (pyNext (Value.ref it) >>= _) _ _ _
    refine wpAny_bind (wpAny_pyNext_values_end (kvs := kvs) (knd := mixKind P w) hA hi hdt (List.getElem?_eq_none (by omega)) fun h' hk => ?_)
    refine wpAny_bind (wpAny_rule (wpAny_pure ?_))
    have e : ns.drop i = [] := List.drop_eq_nil_of_le (by omega)
    rw [e] at k
    exact k h' _ hk
  | succ m ih =>
    intro i A R s hm hA hi hdt k
    have hlt : i < ns.length := by omega
    obtain ⟨key, t, e⟩ := hv i _ (List.getElem?_eq_getElem hlt)
    refine codeAny_builtin entry_in ?_
    show wpAny _ _ (pyNext (Value.ref it) >>= _) _ _ _
    refine wpAny_bind (wpAny_pyNext_values_item (kvs := kvs) (knd := mixKind P w) hi hdt e fun h' hi' hk => ?_)
    refine wpAny_bind (wpAny_eqBool_int ?_)
    have ed : ns.drop i = ns[i] :: ns.drop (i + 1) := List.drop_eq_getElem_cons hlt
    by_cases hx : ns[i] = x
    · refine wpAny_ite_true (by simpa using hx) (wpAny_bind (wpAny_rule (wpAny_pure ?_)))
      have k := k h' s.toks (fun b o hb q => (hk.2 b hb).trans q)
      rw [ed, hx, decide_eq_true (List.mem_cons_self)] at k
      exact k
    · refine wpAny_ite_false (by simpa using hx) (wpAny_pure ⟨qt_in, ?_⟩)
      refine ih (i + 1) A R _ (by omega) hA hi' ?_ fun h2 t2 h3 => ?_
      · obtain ⟨o, es, q1, q2⟩ := hdt
        exact ⟨o, es, (hk.2 d hd).trans q1, q2⟩
      · have k := k h2 t2 (fun b o hb q => h3 b o hb ((hk.2 b hb).trans q))
        have e2 : decide (x ∈ ns.drop i) = decide (x ∈ ns.drop (i + 1)) := by
          rw [ed]
          congr 1
          rw [eq_iff_iff, List.mem_cons]
          constructor
          · rintro (q | q)
            · exact absurd q.symm hx
            · exact q
          · exact .inr
        rw [e2] at k
        exact k
theorem contains_vals {P : Program} {w : World} {A : Around} {E : Value → Shared → Prop} {s : Shared} {v d : Addr} {ep : Nat} {kvs : List (Key × Value)} {ns : List Int} {x : Int} {tx : Tok} {Q : Bool → Shared → Prop} (hA : A.handled = none) (hvw : s.heap.IsValuesView v d) (hdt : Heap.DictAt (mixKind P w) s.heap d kvs ep)
    (hl : kvs.length = ns.length) (hv : ∀ (i : Nat) (z : Int), ns[i]? = some z → ∃ k t, kvs[i]? = some (k, Value.int z t))
    (k : ∀ (h' : Heap) (t' : Nat), (∀ b o, s.heap.get? b = some o → h'.get? b = some o) → Q (decide (x ∈ ns)) { heap := h', gens := s.gens, drawn := s.drawn, toks := t', os := s.os }) :
    wpAny (model P w) A (contains (.ref v) (.int x tx)) Q E s := by
  have ht : s.TypeIs (.ref v) "dict_values" := by
    obtain ⟨o, h1, h2, h3⟩ := hvw
    exact ⟨o, h1, h2⟩
  refine wpAny_holding ?_
  show wpAny _ _ (specialOf (Value.ref v) ("__contains__" : Str) >>= _) _ _ _
  refine wpAny_bind (wpAny_specialOf ht look_in ?_)
  refine wpAny_ite_false (by rfl) ?_
  refine wpAny_bind (wpAny_bind (wpAny_specialOf ht look_in (wpAny_pure ?_)))
  refine wpAny_bind (wpAny_rule (wpAny_bind (wpAny_tryCatch (wpAny_pyIter_values hvw hdt ?_))))
  refine wpAny_bind (wpAny_runValue ?_)
  have hd : d < s.heap.objs.size := by
    obtain ⟨o, es, q, _⟩ := hdt
    exact Heap.lt_size q
  refine in_loop (it := s.heap.objs.size) (Nat.ne_of_lt hd) hl hv ns.length 0 _ _ _ rfl hA ⟨_, Heap.get?_push_at rfl rfl, rfl, rfl⟩ (hdt.push _) fun h' t' hk => ?_
  refine wpAny_pure ?_
  have k := k h' t' fun b o q => hk b o (Nat.ne_of_lt (Heap.lt_size q)) (Heap.get?_push_of_some _ q)
  rw [List.drop_zero]
  exact k
theorem pd_get {α β : Type} {F : α → β → Prop} {l : List α} {m : List β} (h : Paired F l m) : ∀ {i : Nat} {x : α}, l[i]? = some x → ∃ y, m[i]? = some y ∧ F x y := by
  induction h with
  | nil => intro i x e; cases i <;> cases e
  | cons a r ih =>
    intro i x e
    cases i with
    | zero => cases e; exact ⟨_, rfl, a⟩
    | succ i => exact ih e
def tInVals (neg : Bool) (ti td : TE) : TE := fun σ H Q => ti σ H fun y H1 => td σ H1 fun x H2 => ∃ (d : Addr) (kvs : List (Key × V)) (ns : List Int) (i : Int), x = .ref d ∧ y = .int i ∧ H2 d = some (.dK kvs) ∧ kvs.map (·.2) = ns.map V.int ∧ Q (.bl (if neg = true then !decide (i ∈ ns) else decide (i ∈ ns))) H2
section
variable {X : Cx}
theorem pc_notInVals {o i : Expr} {ti td : TE} {apos cpos : Pos} (hc : X.calm = true) (hi : PE X i ti) (ho : PE X o td) (hbase : attributeBase o ("values" : Str) X.env (eval o X.env) = eval o X.env := by rfl) (hline : (apos.endLine == cpos.line) = true := by rfl) :
    PC X .NotIn i (.Call (.Attribute o ("values" : Str) apos) [] [] cpos) (tInVals true ti td) := by
  refine ⟨fun pins s σ H Q I h => thn (hi.run pins s σ H _ I h) ?_⟩
  rintro iv s1 ⟨y, H1, I1, ry, q1⟩
  refine wpAny_Call_method hbase rfl hline F.plainAttrs_dict F.slot_dict_values F.type_dict_values (thn (ho.run pins s1 σ H1 _ I1 q1) ?_)
  rintro u s2 ⟨x, H2, I2, rx, d, kvs, ns, z, rfl, rfl, hd, hkv, q⟩
  cases rx
  obtain ⟨t, rfl⟩ := ry
  obtain ⟨od, L⟩ := I2.lock hd trivial
  obtain ⟨hs, hgd, hx, es, ep, vs, hdt, hsz, kv, hm⟩ := L.frzK upd_same
  have hl := kv.length
  refine ⟨Heap.DictOf.typeIs (Heap.DictAt.dictOf hm), Heap.MapOf.noDict (Heap.DictOf.mapOf (Heap.DictAt.dictOf hm)), ?_⟩
  have hkl : kvs.length = ns.length := by
    have e := congrArg List.length hkv
    rw [List.length_map, List.length_map] at e
    exact e
  have hv : ∀ (i : Nat) (z : Int), ns[i]? = some z → ∃ k t, vs[i]? = some (k, Value.int z t) := by
    intro i z hz
    have h1 : (kvs.map (·.2))[i]? = some (V.int z) := by
      rw [hkv, List.getElem?_map, hz]
      rfl
    rw [List.getElem?_map] at h1
    cases e : kvs[i]? with
    | none => rw [e] at h1; cases h1
    | some p =>
      rw [e] at h1
      obtain ⟨⟨k, u⟩, e1, e2, e3⟩ := pd_get kv e
      have e4 : p.2 = V.int z := Option.some.inj h1
      rw [e4] at e3
      obtain ⟨t, rfl⟩ := e3
      exact ⟨k, t, e1⟩
  refine method_meetsIn F.slot_dict_values F.entry_dict_values rfl (PySem.evalArgs_none ⟨rfl, Heap.DictOf.typeIs (Heap.DictAt.dictOf hm), F.args_dict_values_1 (Value.ref d), _, meets_dict_values (mixKind X.prog X.w) d hs, ⟨vs, Heap.DictAt.dictOf hm⟩, ?_⟩)
  show wpAny _ _ (contains (Value.ref s2.heap.objs.size) (Value.int z t) >>= _) _ _ _
  have I3 := I2.kept (t' := s2.toks) fun b ob q => Heap.get?_push_of_some { cls := Value.type "dict_values", data := Data.fields #[Value.ref d] } q
  refine wpAny_bind (contains_vals (ns := ns) (I2.ok.hd hc) ⟨_, Heap.get?_push_size s2.1 rfl, rfl, rfl⟩ (hm.push _) (hl.symm.trans hkl) hv fun h' t' hk => wpAny_pure ?_)
  exact ⟨.bl (!decide (z ∈ ns)), H2, I3.kept hk, (show L2.RelV (.bl (!decide (z ∈ ns))) (Value.bool (!decide (z ∈ ns))) from rfl), q⟩
end

/-! ### C.m(x, y, ..): a method read off its class and called with its object -/
def tClsFn (C : Addr) (sp : Sp) (E : XK) (ta : TE) (t : TA) : TE := fun σ H Q => ta σ H fun x H1 => x = .ref C ∧ t σ H1 fun vs H2 => sp vs H2 Q E
structure ClsF (K : PySem.W.Frag) (C : Addr) (m : Str) (f : Addr) : Prop where
  rd : ClX.CRead K C (.type "type")
  fc : PySem.W.findCls K (.ref C) (.type "type") m = some (.val (.ref f))
  kp : PySem.W.keepIn K (.ref f) = true
section
variable {X : Cx}
theorem pe_clsFn {CX : CXT} {k : Nat} {C f : Addr} {fd : FuncData} {ps : List Str} {sp : Sp} {E : XK} {o e : Expr} {es : List Expr} {m : Str} {pos apos : Pos} {ta : TE} {t : TA} {pl : Sem Bool}
    (he : PE X o ta) (c : ClsF X.K C m f) (G : FnOk X.prog X.w X.K X.mg X.base CX k f fd ps sp) (hr : Room k X.A) (hb : L2.Binds X.K fd ps []) (hx : Passes CX X E) (ha : PA X (e :: es) t)
    (hst : starEach (e :: es) X.env = (false, eval e X.env) :: starEach es X.env := by rfl) (hpl : (backTo pos (starEach es X.env)).any (·.1) = false := by rfl)
    (ht : eval (.Call (.Attribute o m apos) (e :: es) [] pos) X.env = (do
      let ov ← eval o X.env
      standAt apos.atName
      let __x ← holding [ov] (getMethod ov m pl)
      match __x with
        | (f, first) => callWith pos f first (backTo pos (starEach (e :: es) X.env)) (backToKw pos (keywordEach [] X.env))) := by rfl) :
    PE X (.Call (.Attribute o m apos) (e :: es) [] pos) (tClsFn C sp E ta t) := by
  refine ⟨fun pins s σ H Q I h => ?_⟩
  refine PySem.W.methodCall_KW (pl := pl) (thn (he.run pins s σ H (fun x H1 => x = .ref C ∧ t σ H1 fun vs H2 => sp vs H2 Q E) I h) ?_) ht
  rintro u s1 ⟨x, H1, I1, rx, rfl, q⟩
  cases rx
  refine PySem.W.method_cls I1.kIn c.rd.ga (PySem.W.cls_value I1.kIn c.rd.rd c.fc rfl ?_)
  refine PySem.W.callWith_K (Inv.kIn (Inv.tok I1 (s1.toks + 1))) c.kp (thn (ha.run pos pins _ σ H1 (fun vs H2 => sp vs H2 Q E) (Inv.tok I1 (s1.toks + 1)) q) ?_) hst hpl
  rintro us s2 ⟨vs, H2, I2, rv, q2⟩
  refine ⟨I2.kIn, run_fn G hr hb .nil hx I2 rv ?_⟩
  rw [List.append_nil]
  exact q2
end

/-! ### a method whose body is: return super().m(a, b, ..) -/
structure SupScope (ps : List Str) (sc : Scope) : Prop where
  kind : sc.kind = .function
  co : sc.isCoroutine = false
  gen : sc.isGenerator = false
  nocell : ∀ y ∈ sc.names, y.2 ≠ NameKind.cell
  par : ∀ x ∈ ps, sc.names.lookup x = some NameKind.local
  nd : ps.Nodup
  sup : (sc.names.lookup ("super" : Str)) = some NameKind.globalImplicit
  cls : (sc.names.lookup ("__class__" : Str)) = some NameKind.free
  fr : ∀ y ∈ sc.names, y.2 = NameKind.free → y.1 = ("__class__" : Str)
def supCx (CX : CXT) (P : Program) (w : World) (K : PySem.W.Frag) (mg : Str → Option Value) (base : Heap) (ps : List Str) (qual : Str) (sc : Scope) (f : Addr) (cd : Value) (cc : Addr) (A : Around) (outer : List Env) (s : Shared) (H : Hp) (E : XK) : Cx :=
  { prog := P, w := w, K := K, mg := mg, base := base, A := A.deeper (PySem.W.ksEnv qual sc s.heap.objs.size f cd cc), N := ps, s_0 := s, H_0 := H, env := PySem.W.ksEnv qual sc s.heap.objs.size f cd cc, outer := outer,
    stack := PySem.W.ksEnv qual sc s.heap.objs.size f cd cc :: outer, ex := [], fn := fun _ => false, calm := true, pn := [],
    xe := fun e s' => wpAny (model P w) (A.deeper (PySem.W.ksEnv qual sc s.heap.objs.size f cd cc)) (leaving (PySem.W.ksEnv qual sc s.heap.objs.size f cd cc) e) (fun _ s'' => CX outer H s E e s'') (fun e' s'' => CX outer H s E e' s'') s' }
theorem supCell {qual : Str} {sc : Scope} {L f : Addr} {cd : Value} {cc : Addr} {x : Str} {c : Addr} (h : List.lookup x (PySem.W.ksEnv qual sc L f cd cc).cells = some c) : x = "__class__" ∧ c = cc := by
  have h' : List.lookup x [(("__class__" : Str), cc)] = some c := h
  rw [List.lookup_cons] at h'
  by_cases e : x = ("__class__" : Str)
  · subst e
    simp at h'
    exact ⟨rfl, h'.symm⟩
  · rw [show (x == ("__class__" : Str)) = false from beq_false_of_ne e] at h'
    cases h'
theorem lk_mem : ∀ {l : List (Str × Value)} {x : Str} {u : Value}, (l.map (·.1)).Nodup → (x, u) ∈ l → List.lookup x l = some u
  | [], _, _, _, h => by cases h
  | (y, z) :: r, x, u, nd, h => by
    rw [List.lookup_cons]
    rw [List.map_cons, List.nodup_cons] at nd
    rcases List.mem_cons.mp h with e | e
    · cases e
      simp
    · have ne : x ≠ y := fun q => by
        subst q
        exact nd.1 (List.mem_map.mpr ⟨_, e, rfl⟩)
      rw [show (x == y) = false from beq_false_of_ne ne]
      exact lk_mem nd.2 e
theorem lk_zip {ps : List Str} {us : List Value} {i : Nat} {x : Str} {u : Value} (nd : ps.Nodup) (hl : us.length = ps.length) (h1 : ps[i]? = some x) (h2 : us[i]? = some u) : List.lookup x (ps.zip us).reverse = some u := by
  refine lk_mem ?_ ?_
  · rw [List.map_reverse, List.map_fst_zip (Nat.le_of_eq hl.symm)]
    exact List.pairwise_reverse.mpr (nd.imp fun h => Ne.symm h)
  · rw [List.mem_reverse]
    refine List.mem_of_getElem? (i := i) ?_
    rw [List.getElem?_zip_eq_some]
    exact ⟨h1, h2⟩
theorem sup_inv {CX : CXT} {P : Program} {w : World} {K : PySem.W.Frag} {mg : Str → Option Value} {base : Heap} {ps : List Str} {qual : Str} {sc : Scope} {f : Addr} {cd : Value} {cc : Addr} {A : Around} {outer : List Env} {s : Shared} {H : Hp} {E : XK} {us : List Value} {vs : List V} {h' : Heap} {oc : Obj} {vc : Value}
    (S : SupScope ps sc) (hd : A.handled = none) (e0 : Env0 P w K mg base A outer s H) (hl : vs.length = ps.length) (r : Vals vs us) (hcc : base.get? cc = some oc) (hcd : oc.data = .cell (some vc))
    (hns : h'.Ns s.heap.objs.size fun x => List.lookup x (ps.zip us).reverse) (keep : ∀ (b : Addr) (o : Obj), s.heap.get? b = some o → h'.get? b = some o) (tk : Nat) :
    L2.Inv (supCx CX P w K mg base ps qual sc f cd cc A outer s H E) [] (vs.map some) H { heap := h', gens := s.gens, drawn := s.drawn, toks := tk, os := s.os } := by
  have noA : ∀ (b : Addr), ¬ b ∈ ([] : List Addr) := fun b h => by cases h
  refine { ok := ?ok, os := rfl, bare := e0.bare, base := Un.kept keep, loc := ?loc, cell := ?cell, free := HOk.fresh e0.hok (Nat.le_refl _), freeC := ?freeC, pin := fun p hp => (by cases hp), hok := HOk.kept e0.hok keep, len := ?len }
  case ok =>
    exact { mod := e0.mod, kind := S.kind, glob := rfl, blt := rfl, above := Nat.le_refl _, inj := fun y z c h1 h2 => (supCell h1).1.trans (supCell h2).1.symm, has := fun y hy => by
              rcases hy with hy | hy
              · exact absurd rfl (S.nocell (y, NameKind.cell) (PySem.mem_of_lookup hy))
              · have : y = ("__class__" : Str) := S.fr (y, NameKind.free) (PySem.mem_of_lookup hy) rfl
                subst this
                exact ⟨cc, rfl⟩,
            cab := fun y c z h => (by cases z), hd := fun _ => hd, frames := Around.frames_deeper e0.frames, stk := .inr ⟨rfl, rfl⟩, exf := fun b z => absurd z (noA b), bs := e0.bs, bsz := e0.bsz, noex := fun b _ _ => noA b, exfs := fun b z => absurd z (noA b), funs := e0.funs, frf := e0.frf }
  case loc =>
    refine ⟨_, hns, fun i x v h1 h2 h3 => ?_⟩
    rw [List.getElem?_map] at h2
    cases e : vs[i]? with
    | none => rw [e] at h2; cases h2
    | some y =>
      rw [e] at h2
      cases h2
      obtain ⟨u, hu, rv⟩ := r.get e
      exact ⟨u, rv, .inl ⟨S.par x (List.mem_of_getElem? h1), lk_zip S.nd (r.length.symm.trans hl) h1 hu⟩⟩
  case cell =>
    intro y c h
    obtain ⟨rfl, rfl⟩ := supCell h
    exact ⟨some vc, oc, keep _ _ (e0.bs _ _ hcc).1, hcd⟩
  case freeC =>
    intro y c h
    obtain ⟨rfl, rfl⟩ := supCell h
    exact (e0.bs _ _ hcc).2
  case len => exact (List.length_map ..).trans hl
/-- what the top knows of the class R above whose method m the method g stands -/
structure SupM (K : PySem.W.Frag) (R : Addr) (m : Str) (g : Addr) : Prop where
  cd : ∃ cd : ClassData, PySem.W.clsIn K R = some cd ∧ PySem.W.alongIn K m (List.drop 1 (List.dropWhile (fun x => x != Value.ref R) cd.mro)) = some (some (.ref g))
  sub : PySem.W.subIn K (.ref R) (.ref R) = some true
  any : PySem.W.nsIn K cStatics ("thirdparty.any" : Str) = some none
  hd : PySem.W.hasDictIn K R = true
  fi : PySem.W.fnIn K g = true
  fty : ∃ od dt sl, K.lookup g = some ⟨.type "function", od, dt, sl⟩
theorem callW {M : Model} {A : Around} {E : Value → Shared → Prop} {s : Shared} {pos : Pos} {f : Value} {first : List Value} {Q : Value → Shared → Prop} {P : Heap → Prop} {as : List (Bool × Sem Value)}
    (hk : ∀ h : Heap, P h → ∃ k, (k = Keeper.frame ∨ k = Keeper.machine ∨ k = Keeper.boundFrame) ∧ PySem.W.Looks M h (keeperOf f) k)
    (h : (as = [] ∧ P s.heap ∧ wpAny M A (call f (first ++ [])) Q E s) ∨ ∃ x r, as = (false, x) :: r ∧ (r.any (·.1)) = false ∧ wpAny M A (spliced as) (fun vs s1 => P s1.heap ∧ wpAny M A (call f (first ++ vs)) Q E s1) E s) : wpAny M A (callWith pos f first as []) Q E s := by
  rcases h with ⟨rfl, hp, h⟩ | ⟨x, r, rfl, hr, h⟩
  · exact PySem.W.callWith_of rfl hk (evalArgs_nil3 ⟨hp, h⟩)
  · refine PySem.W.callWith_of (by simp [hr]) hk (Calls.evalArgs_plain h)
theorem super_ok {CX : CXT} {P : Program} {w : World} {K : PySem.W.Frag} {mg : Str → Option Value} {base : Heap} {k : Nat} {f R g cc c : Addr} {name qual m : Str} {params : Arguments} {scope : Scope} {dV kV doc pm ct oc och ocf : Value} {an od odh odf : Option Addr} {osl oslh oslf : Array (Option Value)} {fd : FuncData} {ps : List Str} {sp : Sp} {t : TA}
    {p0 p1 apos pos rpos : Pos} {es : List Expr} {ar : Arg} {vsf : Array Value} {file : Str} {tf : Tok}
    (lk : K.lookup f = some ⟨oc, od, .func (PySem.W.ksFn name qual params [.Return (some (.Call (.Attribute (.Call (.Name "super" p0) [] [] p1) m apos) es [] pos)) rpos] scope dV kV doc pm an (.ref c) ct cc), osl⟩)
    (hcd : PySem.W.codeIn K (.ref c) qual = true) (lc : K.lookup cc = some ⟨och, odh, .cell (some (.ref R)), oslh⟩) (lf : K.lookup c = some ⟨ocf, odf, .fields vsf, oslf⟩) (hvf : vsf[2]? = some (.str file tf)) (hfile : (P.main.file == file) = true) (hns : (List.lookup ("super" : Str) P.main.scope.names).isSome = false) (hmg : mg "super" = none)
    (S : SupScope ps scope) (hpar : (params.posonlyargs ++ params.args).head? = some ar) (hself : ps[0]? = some ar.arg) (M : SupM K R m g) (hm : (m == ("__class__" : Str)) = false) (G : FnOk P w K mg base CX k g fd ps sp) (bG : Binds K fd ps [])
    (hsp : ∀ (vs : List V) (H : Hp) (Q : VK) (E : XK), sp vs H Q E → ∃ p dx fs rest, vs = .ref p :: rest ∧ H p = some (.ins R dx fs))
    (harg : ∀ A outer s H E, PA (supCx CX P w K mg base ps qual scope f (.ref c) cc A outer s H E) es t) (ht : ∀ (vs : List V) (H : Hp) (Q : List V → Hp → Prop), vs.length = ps.length → Q vs.tail H → t (vs.map some) H Q)
    (hes : ∀ env, (es = [] ∧ ps.length = 1) ∨ ∃ x r, backTo pos (starEach es env) = (false, x) :: r ∧ (r.any (·.1)) = false)
    (hx : ∀ A outer s H E, Env0 P w K mg base A outer s H → Passes CX (supCx CX P w K mg base ps qual scope f (.ref c) cc A outer s H E) E)
    (hev : ∀ env : Env, ∃ pl : Sem Bool, eval (.Call (.Attribute (.Call (.Name "super" p0) [] [] p1) m apos) es [] pos) env = do
          let ov ← attributeBase (.Call (.Name "super" p0) [] [] p1) m env (eval (.Call (.Name "super" p0) [] [] p1) env)
          standAt apos.atName
          let __x ← holding [ov] (getMethod ov m pl)
          match __x with
            | (f, first) => callWith pos f first (backTo pos (starEach es env)) []) :
    FnOk P w K mg base CX (k + 1) f (PySem.W.ksFn name qual params [.Return (some (.Call (.Attribute (.Call (.Name "super" p0) [] [] p1) m apos) es [] pos)) rpos] scope dV kV doc pm an (.ref c) ct cc) ps sp := by
  refine ⟨G.len, fun A outer s H args us vs Q E hr e0 hb r hsp' => ?_⟩
  have hl := G.len vs H Q E hsp'
  have KX : K.In s.heap := e0.mod.kin.keeps fun b o e => (e0.bs b o e).1
  have lim := e0.mod.nolimit.keeps fun b o e => (e0.bs b o e).1
  have hul : us.length = ps.length := r.length.symm.trans hl
  refine ks_codeAny_call_defAt hr.depth (KX f _ lk) rfl lim (PySem.W.codeRec_of KX hcd) rfl hb S.nocell (fun y hy => S.par y.1 (List.of_mem_zip hy).1) (fun h1 hn1 hk1 => ?_) S.co S.gen S.kind
  obtain ⟨p, dx, fs, rest, rfl, hp⟩ := hsp _ _ _ _ hsp'
  have I : L2.Inv (supCx CX P w K mg base ps qual scope f (.ref c) cc A outer s H E) [] ((V.ref p :: rest).map some) H { heap := h1, gens := s.gens, drawn := s.drawn, toks := s.toks + (ps.zip us).length, os := s.os } :=
    sup_inv S hr.hd e0 hl r (e0.mod.kin cc _ lc) rfl hn1 hk1 _
  have KI : K.In h1 := I.kIn
  obtain ⟨cd, hcl, hal⟩ := M.cd
  obtain ⟨pl, hpl⟩ := hev (PySem.W.ksEnv qual scope s.heap.objs.size f (.ref c) cc)
  refine ks_wpAt_execs_cons (ks_wpAt_Return_some (ks_wpAt_MethodCall (pl := pl) ?_ hpl))
  refine ks_wpAt_super_base S.sup S.cls hm rfl (KI f _ lk) rfl hpar rfl (KI c _ lf) rfl hvf hfile hns ?_
  obtain ⟨mb, hb1, hb2⟩ := e0.mod.blt
  have bk := I.bk
  refine PySem.W.ks_loadName_global S.kind S.sup (Calls.loadGlobal_builtin (Heap.Ns.keeps e0.mod.glob bk) hmg (Heap.Ns.keeps hb1 bk) ((hb2 _ (by decide)).trans rfl) ⟨rfl, ?_⟩)
  refine wpAny_loadName_free S.kind S.cls (by rfl) ⟨_, KI cc _ lc, rfl⟩ ?_
  obtain ⟨us0, u0, rfl⟩ : ∃ us0 u0, us = u0 :: us0 := by
    cases r with
    | cons a b => exact ⟨_, _, rfl⟩
  have hu0 : u0 = .ref p := by
    cases r with
    | cons a b => exact a
  subst hu0
  refine wpAny_loadName_local S.kind (S.par _ (List.mem_of_getElem? hself)) hn1 (lk_zip S.nd hul hself rfl) ?_
  refine PySem.W.mc_isType KI M.hd _ _ _ _ (fun b o e => e) ⟨rfl, ?_⟩
  obtain ⟨mA, ⟨ho, _, _⟩, _⟩ := ins_get I.hok hp
  have hR : ∃ o, K.lookup R = some o ∧ o.data = .cls cd := by
    unfold PySem.W.clsIn at hcl
    split at hcl
    · rename_i cls dict cd' slots e
      cases hcl
      exact ⟨_, e, rfl⟩
    · cases hcl
  obtain ⟨oR, hR1, hR2⟩ := hR
  have pR : p ≠ R := fun e => by
    subst e
    have := (e0.bs _ _ (e0.mod.kin _ _ hR1)).2
    rw [hp] at this
    cases this
  refine ks_wpAny_call_super (KI R _ hR1) hR2 ho rfl (fun c z => by cases z) (PySem.W.looks_subIn KI M.sub) (fun h2 hso hk2 => ?_)
  have I2 := I.kept (t' := s.toks + (ps.zip (Value.ref p :: us0)).length) hk2
  have K2 : K.In h2 := I2.kIn
  obtain ⟨og, dg, sg, hg⟩ := M.fty
  have lm : PySem.W.Looks (model P w) h2 (mroOf (.ref R)) cd.mro := (PySem.W.looks_clsIn K2 hcl).andThen (by intro A Q E s _ q; exact wpAny_pure q)
  refine ks_wpAny_getMethod_super hso (PySem.W.looks_opaque K2 M.any) lm rfl K2 hal (K2 _ _ hg) rfl pR hm ?_
  have hpush := fun (b : Addr) (o : Obj) (e : h2.get? b = some o) => Heap.get?_push_of_some (PySem.W.methodObj (.ref g) (.ref p)) e
  have I3 := I2.kept (t' := s.toks + (ps.zip (Value.ref p :: us0)).length + 1) hpush
  have hu : (h2.push (PySem.W.methodObj (.ref g) (.ref p))).get? h2.objs.size = some (PySem.W.methodObj (.ref g) (.ref p)) := Heap.get?_push_at rfl rfl
  have I4 := I3.pins_of (pins' := [(h2.objs.size, PySem.W.methodObj (.ref g) (.ref p))]) (fun q hq => by
    rw [List.mem_singleton.mp hq]
    exact ⟨hu, I2.fresh, Nat.ne_of_gt I2.lt, I2.nofs (Nat.le_refl _), fun v z => by cases z⟩)
  have fin : ∀ (pins : List (Addr × Obj)) (s5 : Shared) (us' : List Value), L2.Inv (supCx CX P w K mg base ps qual scope f (.ref c) cc A outer s H E) pins ((V.ref p :: rest).map some) H s5 → Vals rest us' → s5.heap.get? h2.objs.size = some (PySem.W.methodObj (.ref g) (.ref p)) →
      wpAny (model P w) (A.deeper (PySem.W.ksEnv qual scope s.heap.objs.size f (.ref c) cc)) (call (.ref h2.objs.size) ([] ++ us')) (fun v s' => CE outer P w H s Q v s') (supCx CX P w K mg base ps qual scope f (.ref c) cc A outer s H E).xe s5 := by
    intro pins s5 us' I5 r5 hu5
    have rr : Vals (V.ref p :: rest) (Value.ref p :: us') := .cons rfl r5
    have hlen : ((Value.ref p :: us') ++ []).length = ps.length := by
      rw [List.append_nil]
      exact rr.length.symm.trans hl
    have hb5 := bG s5 (Value.ref p :: us') I5.kIn hlen
    rw [List.append_nil] at hb5
    refine wpAny_call (ks_codeAny_call_bound hu5 (codeAny_mono (G.run _ _ s5 H { pos := Value.ref p :: us' } (Value.ref p :: us') (V.ref p :: rest) Q E (hr.deeper _) I5.env0 hb5 rr hsp') (fun rs s' hq => ?_)))
    cases rs with
    | error e => exact hx A outer s H E e0 pins _ H s5 e s' I5 hq
    | ok fl =>
      cases fl with
      | ret u =>
        obtain ⟨v, H', J, rv, q⟩ := I5.after hq
        exact ⟨v, H', J.os, J.bare, J.base, J.hok, rv, q⟩
      | _ => exact hq
  refine callW (P := PySem.W.MethP K h2.objs.size g (.ref p)) (PySem.W.keeps_M M.fi) ?_
  rcases hes (PySem.W.ksEnv qual scope s.heap.objs.size f (.ref c) cc) with ⟨rfl, h1⟩ | ⟨x, r', he, hpln⟩
  · refine .inl ⟨rfl, ⟨hu, I4.kIn⟩, ?_⟩
    have : rest = [] := by
      cases rest with
      | nil => rfl
      | cons _ _ => simp [h1] at hl
    subst this
    exact fin _ _ [] I4 .nil hu
  · refine .inr ⟨x, r', he, hpln, ?_⟩
    refine wpAny_mono ((harg A outer s H E).run pos _ _ _ H (fun vs' H' => vs' = rest ∧ H' = H) I4 (ht _ H _ hl ⟨rfl, rfl⟩)) ?_ (fun _ _ h => h)
    rintro us' s5 ⟨vs', H', I5, r5, rfl, rfl⟩
    have hu5 := (I5.pin _ (List.mem_append_right _ (List.mem_singleton.mpr rfl))).1
    exact ⟨⟨hu5, I5.kIn⟩, fin _ _ us' I5 r5 hu5⟩
/-- such a method as the top has written it -/
structure SupDef (P : Program) (K : PySem.W.Frag) (mg : Str → Option Value) (R f g : Addr) (m qual : Str) (st : Stmt) : Prop where
  ex : ∃ (oc kV doc pm ct och ocf : Value) (an od odh odf : Option Addr) (osl oslh oslf : Array (Option Value)) (c cc : Addr) (vsf : Array Value) (file : Str) (tf : Tok),
    K.lookup f = some ⟨oc, od, .func (PySem.W.ksFn m qual (defArgs st) (defBody st) (defScope st) .none kV doc pm an (.ref c) ct cc), osl⟩ ∧ PySem.W.codeIn K (.ref c) qual = true ∧ K.lookup cc = some ⟨och, odh, .cell (some (.ref R)), oslh⟩ ∧
    K.lookup c = some ⟨ocf, odf, .fields vsf, oslf⟩ ∧ vsf[2]? = some (.str file tf) ∧ (P.main.file == file) = true
  ns : (List.lookup ("super" : Str) P.main.scope.names).isSome = false
  mgs : mg "super" = none
  M : SupM K R m g
theorem supM_of {K : PySem.W.Frag} {R C0 : Addr} {m : Str} {g : Addr} {od odR odQ : Option Addr} {dt : Data} {sl slR slQ : Array (Option Value)} {ocR ocQ : Value} {cdR cdQ : ClassData} {r : List Value} (h1 : K.lookup R = some ⟨ocR, odR, .cls cdR, slR⟩) (h2 : K.lookup C0 = some ⟨ocQ, odQ, .cls cdQ, slQ⟩) (h3 : cdR.mro = .ref R :: r) (h4 : cdQ.mro = r)
    (h : PySem.W.findIn K (.ref C0) m = some (some (.ref g))) (sub : PySem.W.subIn K (.ref R) (.ref R) = some true) (any : PySem.W.nsIn K cStatics ("thirdparty.any" : Str) = some none)
    (hd : PySem.W.hasDictIn K R = true) (fi : PySem.W.fnIn K g = true) (lg : K.lookup g = some ⟨.type "function", od, dt, sl⟩) : SupM K R m g := by
  refine ⟨⟨cdR, ?_, ?_⟩, sub, any, hd, fi, ⟨_, _, _, lg⟩⟩
  · unfold PySem.W.clsIn
    rw [h1]
  · have e : PySem.W.findIn K (.ref C0) m = PySem.W.alongIn K m cdQ.mro := by
      show (match List.lookup C0 K with
        | some { cls := cls, dict := dict, data := Data.cls cd, slots := slots } => PySem.W.alongIn K m cd.mro
        | x => none) = _
      rw [h2]
    rw [h4, h] at e
    rw [h3, List.dropWhile_cons, bne_self_eq_false, if_neg Bool.false_ne_true]
    exact e.symm
theorem super_cb {CX : CXT} {P : Program} {w : World} {K : PySem.W.Frag} {mg : Str → Option Value} {base : Heap} {k : Nat} {f R g : Addr} {m qual : Str} {st : Stmt} {ps : List Str} {sp : Sp} {t : TA} {p0 p1 apos pos rpos : Pos} {es : List Expr} {ar : Arg}
    (D : SupDef P K mg R f g m qual st) (S : SupScope ps (defScope st)) (hbody : defBody st = [.Return (some (.Call (.Attribute (.Call (.Name "super" p0) [] [] p1) m apos) es [] pos)) rpos]) (hpar : ((defArgs st).posonlyargs ++ (defArgs st).args).head? = some ar) (hself : ps[0]? = some ar.arg)
    (hm : (m == ("__class__" : Str)) = false) (G : ∃ fd, FnOk P w K mg base CX k g fd ps sp ∧ Binds K fd ps []) (hsp : ∀ (vs : List V) (H : Hp) (Q : VK) (E : XK), sp vs H Q E → ∃ p dx fs rest, vs = .ref p :: rest ∧ H p = some (.ins R dx fs))
    (harg : ∀ A outer s H E cd cc, PA (supCx CX P w K mg base ps qual (defScope st) f cd cc A outer s H E) es t) (ht : ∀ (vs : List V) (H : Hp) (Q : List V → Hp → Prop), vs.length = ps.length → Q vs.tail H → t (vs.map some) H Q)
    (hes : ∀ env, (es = [] ∧ ps.length = 1) ∨ ∃ x r, backTo pos (starEach es env) = (false, x) :: r ∧ (r.any (·.1)) = false) (hx : ∀ A outer s H E cd cc, Env0 P w K mg base A outer s H → Passes CX (supCx CX P w K mg base ps qual (defScope st) f cd cc A outer s H E) E)
    (hev : ∀ env : Env, ∃ pl : Sem Bool, eval (.Call (.Attribute (.Call (.Name "super" p0) [] [] p1) m apos) es [] pos) env = do
          let ov ← attributeBase (.Call (.Name "super" p0) [] [] p1) m env (eval (.Call (.Name "super" p0) [] [] p1) env)
          standAt apos.atName
          let __x ← holding [ov] (getMethod ov m pl)
          match __x with
            | (f, first) => callWith pos f first (backTo pos (starEach es env)) [])
    (hbnd : ∀ (kV doc pm : Value) (an : Option Addr) (cdv ct : Value) (cc : Addr) (us : List Value), us.length = ps.length → bindArgs (PySem.W.ksFn m qual (defArgs st) (defBody st) (defScope st) .none kV doc pm an cdv ct cc) ⟨us, []⟩ = pure (ps.zip us)) :
    ∃ fd, FnOk P w K mg base CX (k + 1) f fd ps sp ∧ Binds K fd ps [] := by
  obtain ⟨⟨oc, kV, doc, pm, ct, och, ocf, an, od, odh, odf, osl, oslh, oslf, c, cc, vsf, file, tf, lk, hcd, lc, lf, hvf, hfile⟩, hns, hmg, M⟩ := D
  obtain ⟨fd, F, bG⟩ := G
  refine ⟨_, super_ok (t := t) (ar := ar) (hbody ▸ lk) hcd lc lf hvf hfile hns hmg S hpar hself M hm F bG hsp (fun A outer s H E => harg A outer s H E _ _) ht hes (fun A outer s H E e0 => hx A outer s H E _ _ e0) hev, ?_⟩
  intro s us hK hl
  rw [List.append_nil] at hl ⊢
  have e := hbnd kV doc pm an (.ref c) ct cc us hl
  rw [hbody] at e
  exact .of_eq e

/-! ### a quay that is kept -/
def rLenStr : List V → Hp → VK → Prop := fun xs H Q => ∃ z : Str, xs = [.str z] ∧ z.length ≤ sizeLine ∧ Q (.int z.length) H
def rLeStr : R2 := fun x y H Q => ∃ i j : Str, x = .str i ∧ y = .str j ∧ Q (.bl (!decide (j.cps.toList < i.cps.toList))) H
def tJoin (K : PySem.W.Frag) (to te : TE) : TE := tM1 (fun x xs H Q => ∃ a p, ∃ ys : List Str, x = .str a ∧ xs = [.ref p] ∧ (SqL K H p (ys.map V.str) ∨ SqT K H p (ys.map V.str)) ∧ (ys.map (·.length)).sum + ys.length * a.length ≤ 16777216 ∧ Q (.str (Txt.join a ys)) H) to te
/-- name, wish, berth -/
abbrev Ship := Str × Int × Int
def ffq (b : Bool) (n : Nat) (occ : Int → Bool) (w : Int) : Option Int := if b = true then rfree n occ w else ffree n occ w
def occS (ss : List Ship) : Int → Bool := fun x => ss.any fun s => decide (s.2.2 = x)
theorem occS_snoc {ss : List Ship} {s : Ship} : occS (ss ++ [s]) = setO (occS ss) s.2.2 := by
  funext x
  unfold occS setO
  rw [List.any_append, Bool.or_comm]
  simp [eq_comm]
theorem occS_nil : occS [] = fun _ => false := rfl
def KvAt (K : PySem.W.Frag) (H : Hp) : List (Key × V) → List Ship → Prop := Paired fun kv s => kv.1 = .inr s.1 ∧ ∃ t, kv.2 = .ref t ∧ SqT K H t [.int s.2.1, .int s.2.2]
def TrAt (K : PySem.W.Frag) (H : Hp) : List V → List Ship → Prop := Paired fun v s => ∃ t, v = .ref t ∧ SqT K H t [.str s.1, .int s.2.1, .int s.2.2]
theorem pd_imp {α β : Type} {F G : α → β → Prop} {l : List α} {m : List β} (h : Paired F l m) (k : ∀ a b, F a b → G a b) : Paired G l m := by
  induction h with
  | nil => exact .nil
  | cons a _ ih => exact .cons (k _ _ a) ih
theorem pd_len {α β : Type} {F : α → β → Prop} {l : List α} {m : List β} (h : Paired F l m) : l.length = m.length := by
  induction h with
  | nil => rfl
  | cons _ _ ih => rw [List.length_cons, List.length_cons, ih]
theorem pd_snoc {α β : Type} {F : α → β → Prop} {l : List α} {m : List β} (h : Paired F l m) {a : α} {b : β} (k : F a b) : Paired F (l ++ [a]) (m ++ [b]) := by
  induction h with
  | nil => exact .cons k .nil
  | cons x _ ih => exact .cons x ih
theorem KvAt.same {K : PySem.W.Frag} {H H' : Hp} {kvs : List (Key × V)} {ss : List Ship} (h : KvAt K H kvs ss) (s : Same H H') : KvAt K H' kvs ss := pd_imp h fun _ _ ⟨e, t, q, r⟩ => ⟨e, t, q, s.seqT r⟩
theorem TrAt.same {K : PySem.W.Frag} {H H' : Hp} {vs : List V} {ss : List Ship} (h : TrAt K H vs ss) (s : Same H H') : TrAt K H' vs ss := pd_imp h fun _ _ ⟨t, q, r⟩ => ⟨t, q, s.seqT r⟩
/-- no tuple stands at d -/
def NT (H : Hp) (d : Addr) : Prop := (∀ xs, H d ≠ some (.tup xs)) ∧ ∀ o xs, H d ≠ some (.frz o (.tup xs))
theorem nt_dK {H : Hp} {d : Addr} {kvs : List (Key × V)} (h : H d = some (.dK kvs)) : NT H d := ⟨fun _ e => (by rw [h] at e; cases e), fun _ _ e => (by rw [h] at e; cases e)⟩
theorem nt_fz {H : Hp} {d : Addr} {o : Obj} {kvs : List (Key × V)} (h : H d = some (.frz o (.dK kvs))) : NT H d := ⟨fun _ e => (by rw [h] at e; cases e), fun _ _ e => (by rw [h] at e; cases e)⟩
theorem nt_lst {H : Hp} {d : Addr} {xs : List V} (h : H d = some (.lst xs)) : NT H d := ⟨fun _ e => (by rw [h] at e; cases e), fun _ _ e => (by rw [h] at e; cases e)⟩
theorem nt_none {H : Hp} {d : Addr} (h : H d = none) : NT H d := ⟨fun _ e => (by rw [h] at e; cases e), fun _ _ e => (by rw [h] at e; cases e)⟩
/-- tuples stay where only the object at d, no tuple, changes -/
theorem seqT_nt {K : PySem.W.Frag} {H H' : Hp} {t d : Addr} {xs : List V} (hd : NT H d) (k : ∀ c o, H c = some o → c ≠ d → H' c = some o) (h : SqT K H t xs) : SqT K H' t xs := by
  rcases h with (h | ⟨o, h⟩) | h
  · exact .inl (.inl (k _ _ h fun q => hd.1 xs (q ▸ h)))
  · exact .inl (.inr ⟨o, k _ _ h fun q => hd.2 o xs (q ▸ h)⟩)
  · exact .inr h
theorem seqT_but {K : PySem.W.Frag} {H H' : Hp} {t d : Addr} {xs : List V} {kvs : List (Key × V)} (hd : H d = some (.dK kvs)) (k : ∀ c o, H c = some o → c ≠ d → H' c = some o) (h : SqT K H t xs) : SqT K H' t xs := seqT_nt (nt_dK hd) k h
theorem KvAt.nt {K : PySem.W.Frag} {H H' : Hp} {d : Addr} {kvs : List (Key × V)} {ss : List Ship} (hd : NT H d) (k : ∀ c o, H c = some o → c ≠ d → H' c = some o) (h : KvAt K H kvs ss) : KvAt K H' kvs ss := pd_imp h fun _ _ ⟨e, t, q, r⟩ => ⟨e, t, q, seqT_nt hd k r⟩
theorem TrAt.nt {K : PySem.W.Frag} {H H' : Hp} {d : Addr} {vs : List V} {ss : List Ship} (hd : NT H d) (k : ∀ c o, H c = some o → c ≠ d → H' c = some o) (h : TrAt K H vs ss) : TrAt K H' vs ss := pd_imp h fun _ _ ⟨t, q, r⟩ => ⟨t, q, seqT_nt hd k r⟩
def flds (n : Nat) (d : Addr) : List (Str × V) := [("_berths", .int n), ("_ships", .ref d)]
theorem flds_b {n : Nat} {d : Addr} : (flds n d).lookup ("_berths" : Str) = some (.int n) := by rfl
theorem flds_s {n : Nat} {d : Addr} : (flds n d).lookup ("_ships" : Str) = some (.ref d) := by rfl
structure ClsT (K : PySem.W.Frag) (a : Ad) (b : Bool) : Prop where
  cl : Cls K (a.cls b)
  nB : NoAttr K (a.cls b) "_berths"
  nS : NoAttr K (a.cls b) "_ships"
/-- a quay of the class C stands at p, its ships at d -/
structure QuayAt (K : PySem.W.Frag) (C : Addr) (H : Hp) (p d : Addr) (n : Nat) (ss : List Ship) : Prop where
  ob : ∃ dx, H p = some (.ins C dx (flds n d))
  dc : ∃ kvs, H d = some (.dK kvs) ∧ KvAt K H kvs ss
  nd : (ss.map (·.1)).Nodup
  rg : ∀ s ∈ ss, 1 ≤ s.2.1 ∧ s.2.1 ≤ n ∧ 1 ≤ s.2.2 ∧ s.2.2 ≤ n
  n1 : 1 ≤ n ∧ n ≤ 400
  ln : ss.length ≤ 500
theorem QuayAt.same {K : PySem.W.Frag} {C : Addr} {H H' : Hp} {p d : Addr} {n : Nat} {ss : List Ship} (h : QuayAt K C H p d n ss) (s : Same H H') : QuayAt K C H' p d n ss := by
  obtain ⟨⟨dx, h1⟩, ⟨kvs, h2, h3⟩, h4, h5, h6, h7⟩ := h
  exact ⟨⟨dx, s _ _ h1⟩, ⟨kvs, s _ _ h2, h3.same s⟩, h4, h5, h6, h7⟩
theorem QuayAt.ne {K : PySem.W.Frag} {C : Addr} {H : Hp} {p d : Addr} {n : Nat} {ss : List Ship} (h : QuayAt K C H p d n ss) : p ≠ d := by
  obtain ⟨⟨dx, h1⟩, ⟨kvs, h2, h3⟩, _⟩ := h
  exact ne_of h1 h2 (by intro z; cases z)
/-! names -/
def isNm (t : Str) : Bool := decide (1 ≤ t.length) && decide (t.length ≤ 8) && t.cps.toList.all fun c => decide (97 ≤ c) && decide (c ≤ 122)
def nameV : V → Bool
  | .str t => isNm t
  | _ => false
def isStr : V → Bool
  | .str _ => true
  | _ => false
theorem tyb_str {K : PySem.W.Frag} {H : Hp} {x : V} {T : String} (h : TyB K H x T) : decide (T = "str") = isStr x := by
  cases h <;> first | rfl | decide
theorem le_one {x y : Nat} : (!decide (([y] : List Nat) < [x])) = decide (x ≤ y) := by
  by_cases h : x ≤ y
  · rw [decide_eq_true h]
    have : ¬ ([y] : List Nat) < [x] := fun z => by
      cases z with
      | rel q => omega
      | cons q => cases q
    rw [decide_eq_false this]
    rfl
  · rw [decide_eq_false h]
    have : ([y] : List Nat) < [x] := .rel (by omega)
    rw [decide_eq_true this]
    rfl
def sp_is_name (K : PySem.W.Frag) (a : Ad) : Sp := fun vs H Q _ => ∃ x T, vs = [x] ∧ TyB K H x T ∧ (∀ t, x = .str t → t.length ≤ sizeLine) ∧ Q (.bl (nameV x)) H
abbrev N_is_name : List Str := ["thing", "sign"]
def t_is_name (K : PySem.W.Frag) (a : Ad) : TS :=
  (tSeq (tIfS (tOr (tTest (tOp rNT (tCB (rTyp K) (tCons (tVar 0) tNil)) (tC (.ty "str")))) (tNot (tTest (tChain rLeI rLeI (tC (.int 1)) (tCB rLenStr (tCons (tVar 0) tNil)) (tC (.int 8)))))) (tRet (tC (.bl false))) tNext)
    (tSeq (tFor (iStr (tVar 0)) (gName 1)
    (tIfS (tNot (tTest (tChain rLeStr rLeStr (tC (.str (Str.ofString "a"))) (tVar 1) (tC (.str (Str.ofString "z")))))) (tRet (tC (.bl false))) tNext))
    (tRet (tC (.bl true)))))
theorem len_is_name {K : PySem.W.Frag} {a : Ad} {vs : List V} {H : Hp} {Q : VK} {E : XK} (h : sp_is_name K a vs H Q E) : vs.length = 1 := by
  obtain ⟨x, T, rfl, _⟩ := h
  rfl
theorem pu_is_name {K : PySem.W.Frag} {a : Ad} {vs : List V} {H : Hp} {Q : VK} {E : XK} (h : sp_is_name K a vs H Q E) : t_is_name K a { nx := fun _ H' => Q .non H', rt := Q } (start N_is_name vs) H := by
  obtain ⟨x, T, rfl, ty, hlen, q⟩ := h
  have et := tyb_str ty
  refine ⟨x, rfl, x, T, rfl, ty, T, "str", rfl, rfl, _, rfl, ?_⟩
  rw [et]
  cases x with
  | str t =>
    refine iteF ⟨.str t, rfl, t, rfl, hlen t rfl, 1, _, rfl, rfl, _, rfl, ?_⟩
    -- a text of another length
    have bad : (decide (1 ≤ t.length) && decide (t.length ≤ 8)) = false → Q (.bl false) H := fun e => by
      have e2 : nameV (.str t) = false := by
        show isNm t = false
        unfold isNm
        rw [e]
        rfl
      rw [e2] at q
      exact q
    by_cases h1 : 1 ≤ t.length
    rotate_left
    · rw [decide_eq_false (show ¬ (1 : Int) ≤ (t.length : Nat) by omega)]
      exact iteF ⟨false, rfl, iteT (bad (by rw [decide_eq_false h1]; rfl))⟩
    rw [decide_eq_true (show (1 : Int) ≤ (t.length : Nat) by omega)]
    refine iteT ⟨_, _, rfl, rfl, _, rfl, ?_⟩
    by_cases h2 : t.length ≤ 8
    rotate_left
    · rw [decide_eq_false (show ¬ ((t.length : Nat) : Int) ≤ 8 by omega)]
      exact iteT (bad (by rw [decide_eq_false h2, Bool.and_false]))
    rw [decide_eq_true (show ((t.length : Nat) : Int) ≤ 8 by omega)]
    refine iteF ⟨.str t, rfl, t, rfl, ?_⟩
    have en : nameV (.str t) = t.cps.toList.all fun c => decide (97 ≤ c) && decide (c ≤ 122) := by
      show isNm t = _
      unfold isNm
      rw [decide_eq_true h1, decide_eq_true h2]
      rfl
    rw [en] at q
    refine for_it (walk_str (z := t)) (fun i σ H' => H' = H ∧ ((t.cps.toList.take i).all fun c => decide (97 ≤ c) && decide (c ≤ 122)) = true ∧ ∃ y, σ = [some (.str t), y]) ⟨rfl, rfl, none, rfl⟩ (fun _ _ _ _ _ => trivial) ?_ ?_
    · rintro i v σ H1 H2 hi ⟨rfl, ha, y, rfl⟩ ⟨rfl, c, hc, rfl⟩
      refine ⟨_, rfl, "a", _, rfl, rfl, _, rfl, ?_⟩
      have hc' : t.cps.toList[i]? = some c := by rw [Array.getElem?_toList]; exact hc
      have ea : ("a" : Str).cps.toList = [97] := by decide +kernel
      have ez : ("z" : Str).cps.toList = [122] := by decide +kernel
      have fail : (decide (97 ≤ c) && decide (c ≤ 122)) = false → Q (.bl false) H2 := fun e => by
        have e2 : (t.cps.toList.all fun c => decide (97 ≤ c) && decide (c ≤ 122)) = false := by
          cases z : t.cps.toList.all fun c => decide (97 ≤ c) && decide (c ≤ 122) with
          | false => rfl
          | true =>
            rw [List.all_eq_true] at z
            rw [z c (List.mem_of_getElem? hc')] at e
            cases e
        rw [e2] at q
        exact q
      rw [ea]
      show (if (!decide (([c] : List Nat) < [97])) = true then _ else _)
      rw [le_one]
      by_cases g1 : 97 ≤ c
      rotate_left
      · rw [decide_eq_false g1]
        exact iteF ⟨false, rfl, iteT (fail (by rw [decide_eq_false g1]; rfl))⟩
      rw [decide_eq_true g1]
      refine iteT ⟨_, "z", rfl, rfl, _, rfl, ?_⟩
      rw [ez]
      show (if (!(!decide (([122] : List Nat) < [c]))) = true then _ else _)
      rw [le_one]
      by_cases g2 : c ≤ 122
      rotate_left
      · rw [decide_eq_false g2]
        exact iteT (fail (by rw [decide_eq_false g2, Bool.and_false]))
      rw [decide_eq_true g2]
      refine iteF ⟨rfl, ?_, _, rfl⟩
      rw [take_more hc', List.all_append, ha]
      simp [g1, g2]
    · rintro σ H1 ⟨rfl, ha, y, rfl⟩
      have e : t.cps.toList.take t.cps.size = t.cps.toList := by rw [← Array.length_toList, List.take_length]
      rw [e] at ha
      rw [ha] at q
      exact q
  | _ => exact iteT q
theorem nameV_true {x : V} (h : nameV x = true) : ∃ t, x = .str t ∧ isNm t = true := by
  cases x with
  | str t => exact ⟨t, rfl, h⟩
  | _ => cases h
/-- what a look at a name comes to: R behind a good one -/
def ChkN (K : PySem.W.Frag) (a : Ad) (x : V) (H : Hp) (E : XK) (R : Str → Prop) : Prop := (∃ T, TyB K H x T) ∧ (∀ t, x = .str t → t.length ≤ sizeLine) ∧ ((nameV x = false ∧ E (.ref a.e_NoName) none H) ∨ ∃ t, x = .str t ∧ isNm t = true ∧ R t)
theorem ChkN.imp {K : PySem.W.Frag} {a : Ad} {x : V} {H : Hp} {E : XK} {R R' : Str → Prop} (h : ChkN K a x H E R) (k : ∀ t, x = .str t → isNm t = true → R t → R' t) : ChkN K a x H E R' := by
  obtain ⟨h1, h2, h | ⟨t, e, g, r⟩⟩ := h
  · exact ⟨h1, h2, .inl h⟩
  · exact ⟨h1, h2, .inr ⟨t, e, g, k t e g r⟩⟩
def sp_p_check_name (K : PySem.W.Frag) (a : Ad) : Sp := fun vs H Q E => ∃ x, vs = [x] ∧ ChkN K a x H E fun _ => Q .non H
abbrev N_p_check_name : List Str := ["name"]
def t_p_check_name (K : PySem.W.Frag) (a : Ad) (E : XK) : TS :=
  (tIfS (tNot (tB (tCall (sp_is_name K a) [] E0 (tCons (tVar 0) tNil)))) (tRaise a.e_NoName E) tNext)
theorem len_p_check_name {K : PySem.W.Frag} {a : Ad} {vs : List V} {H : Hp} {Q : VK} {E : XK} (h : sp_p_check_name K a vs H Q E) : vs.length = 1 := by
  obtain ⟨x, rfl, _⟩ := h
  rfl
theorem pu_p_check_name {K : PySem.W.Frag} {a : Ad} {vs : List V} {H : Hp} {Q : VK} {E : XK} (h : sp_p_check_name K a vs H Q E) : t_p_check_name K a E { nx := fun _ H' => Q .non H', rt := Q } (start N_p_check_name vs) H := by
  obtain ⟨x, rfl, ⟨T, ty⟩, hl, h⟩ := h
  refine ⟨x, rfl, x, T, rfl, ty, hl, nameV x, rfl, ?_⟩
  rcases h with ⟨e, q⟩ | ⟨t, rfl, g, q⟩
  · rw [e]
    exact iteT q
  · rw [show nameV (.str t) = true from g]
    exact iteF q
/-! the methods -/
def sp_M_init (K : PySem.W.Frag) (a : Ad) (b : Bool) : Sp := fun vs H Q E => ∃ p dx y, vs = [.ref p, y] ∧ H p = some (.ins (a.cls b) dx []) ∧
  ChkQ K a y H E fun n => ∀ (d : Addr) (H' : Hp), H d = none → (∀ c o, H c = some o → c ≠ p → H' c = some o) → QuayAt K (a.cls b) H' p d n [] → Q .non H'
abbrev N_Q_init : List Str := ["self", "berths"]
def t_Q_init (K : PySem.W.Frag) (a : Ad) (E : XK) : TS :=
  (tSeq (tDrop (tCall (sp_check_quay K a) [] E (tCons (tVar 1) tNil)))
    (tSeq (sFld K (tVar 0) (tVar 1) "_berths")
    (sFld K (tVar 0) tDNewK "_ships")))
theorem len_M_init {K : PySem.W.Frag} {a : Ad} {b : Bool} {vs : List V} {H : Hp} {Q : VK} {E : XK} (h : sp_M_init K a b vs H Q E) : vs.length = 2 := by
  obtain ⟨p, dx, y, rfl, _⟩ := h
  rfl
theorem pu_Q_init {K : PySem.W.Frag} {a : Ad} {b : Bool} {vs : List V} {H : Hp} {Q : VK} {E : XK} (TC : ClsT K a b) (h : sp_M_init K a b vs H Q E) : t_Q_init K a E { nx := fun _ H' => Q .non H', rt := Q } (start N_Q_init vs) H := by
  obtain ⟨p, dx, y, rfl, hp, h⟩ := h
  refine ⟨y, rfl, y, rfl, ChkQ.imp h fun n e h1 h2 k => ?_⟩
  subst e
  refine ⟨_, rfl, _, rfl, p, _, dx, [], rfl, hp, TC.cl, TC.nB, (by show 0 < 1000; decide), ?_⟩
  intro d hd
  have npd : p ≠ d := ne_of_none upd_same hd
  refine ⟨_, rfl, p, _, dx, _, rfl, (by rw [upd_ne npd]; exact upd_same), TC.cl, TC.nS, (by show 1 < 1000; decide), ?_⟩
  have hd0 : H d = none := by rw [upd_ne npd.symm] at hd; exact hd
  refine k d _ hd0 (fun c o e ne => ?_) ⟨⟨dx, ?_⟩, ⟨[], ?_, .nil⟩, List.nodup_nil, fun s hs => (by cases hs), ⟨h1, h2⟩, by decide⟩
  · rw [upd_ne ne, upd_ne (ne_of_none e hd0), upd_ne ne]
    exact e
  · rw [upd_same]
    rfl
  · rw [upd_ne npd.symm, upd_same]
abbrev N_R_init : List Str := ["self", "berths"]
def t_R_init (K : PySem.W.Frag) (a : Ad) (E : XK) : TS :=
  (tDrop (tClsFn a.c_Quay (sp_M_init K a true) E (tC (.ref a.c_Quay)) (tCons (tVar 0) (tCons (tVar 1) tNil))))
theorem pu_R_init {K : PySem.W.Frag} {a : Ad} {vs : List V} {H : Hp} {Q : VK} {E : XK} (TC : ClsT K a true) (h : sp_M_init K a true vs H Q E) : t_R_init K a E { nx := fun _ H' => Q .non H', rt := Q } (start N_R_init vs) H := by
  obtain ⟨p, dx, y, rfl, hp, h⟩ := h
  exact ⟨rfl, _, rfl, _, rfl, p, dx, y, rfl, hp, h⟩
def sp_M_first_free (K : PySem.W.Frag) (a : Ad) (b : Bool) : Sp := fun vs H Q _ => ∃ (p dx h : Addr) (fs : List (Str × V)) (n : Nat) (occ : Int → Bool) (w : Int), vs = [.ref p, .ref h, .int w] ∧ H p = some (.ins (a.cls b) dx fs) ∧ SqL K H h (heldL n occ) ∧ n ≤ 900 ∧ 0 ≤ w ∧ w ≤ 1000 ∧ Q (vO (ffq b n occ w)) H
abbrev N_Q_first_free : List Str := ["self", "held", "wish"]
def t_Q_first_free (K : PySem.W.Frag) (a : Ad) : TS :=
  (tRet (tCall (sp_first_free K a) [] E0 (tCons (tVar 1) (tCons (tVar 2) tNil))))
theorem len_M_first_free {K : PySem.W.Frag} {a : Ad} {b : Bool} {vs : List V} {H : Hp} {Q : VK} {E : XK} (h : sp_M_first_free K a b vs H Q E) : vs.length = 3 := by
  obtain ⟨p, dx, h, fs, n, occ, w, rfl, _⟩ := h
  rfl
theorem pu_Q_first_free {K : PySem.W.Frag} {a : Ad} {vs : List V} {H : Hp} {Q : VK} {E : XK} (h : sp_M_first_free K a false vs H Q E) : t_Q_first_free K a { nx := fun _ H' => Q .non H', rt := Q } (start N_Q_first_free vs) H := by
  obtain ⟨p, dx, h, fs, n, occ, w, rfl, hp, hs, h1, h2, h3, q⟩ := h
  exact ⟨_, rfl, _, rfl, h, n, occ, w, rfl, hs, h1, h2, h3, q⟩
abbrev N_R_first_free : List Str := ["self", "held", "wish"]
def t_R_first_free (K : PySem.W.Frag) (a : Ad) : TS :=
  (tRet (tCall (sp_first_free_round K a) [] E0 (tCons (tVar 1) (tCons (tVar 2) tNil))))
theorem pu_R_first_free {K : PySem.W.Frag} {a : Ad} {vs : List V} {H : Hp} {Q : VK} {E : XK} (h : sp_M_first_free K a true vs H Q E) : t_R_first_free K a { nx := fun _ H' => Q .non H', rt := Q } (start N_R_first_free vs) H := by
  obtain ⟨p, dx, h, fs, n, occ, w, rfl, hp, hs, h1, h2, h3, q⟩ := h
  exact ⟨_, rfl, _, rfl, h, n, occ, w, rfl, hs, h1, h2, h3, q⟩
def sp_M_size (K : PySem.W.Frag) (a : Ad) (b : Bool) : Sp := fun vs H Q _ => ∃ (p d : Addr) (n : Nat) (ss : List Ship), vs = [.ref p] ∧ QuayAt K (a.cls b) H p d n ss ∧ Q (.int n) H
abbrev N_Q_size : List Str := ["self"]
def t_Q_size (K : PySem.W.Frag) (a : Ad) : TS :=
  (tRet (tFld K (tVar 0) "_berths"))
theorem len_M_size {K : PySem.W.Frag} {a : Ad} {b : Bool} {vs : List V} {H : Hp} {Q : VK} {E : XK} (h : sp_M_size K a b vs H Q E) : vs.length = 1 := by
  obtain ⟨p, d, n, ss, rfl, _⟩ := h
  rfl
theorem pu_Q_size {K : PySem.W.Frag} {a : Ad} {b : Bool} {vs : List V} {H : Hp} {Q : VK} {E : XK} (TC : ClsT K a b) (h : sp_M_size K a b vs H Q E) : t_Q_size K a { nx := fun _ H' => Q .non H', rt := Q } (start N_Q_size vs) H := by
  obtain ⟨p, d, n, ss, rfl, S, q⟩ := h
  obtain ⟨dx, h1⟩ := S.ob
  exact ⟨_, rfl, p, _, dx, _, _, rfl, h1, TC.cl, TC.nB, flds_b, q⟩
def kindS (b : Bool) : Str := if b = true then "round" else "quay"
def sp_M_kind (K : PySem.W.Frag) (a : Ad) (b : Bool) : Sp := fun vs H Q _ => ∃ (p dx : Addr) (fs : List (Str × V)), vs = [.ref p] ∧ H p = some (.ins (a.cls b) dx fs) ∧ Q (.str (kindS b)) H
abbrev N_Q_kind : List Str := ["self"]
def t_Q_kind (K : PySem.W.Frag) (a : Ad) : TS :=
  (tRet (tC (.str (Str.ofString "quay"))))
theorem len_M_kind {K : PySem.W.Frag} {a : Ad} {b : Bool} {vs : List V} {H : Hp} {Q : VK} {E : XK} (h : sp_M_kind K a b vs H Q E) : vs.length = 1 := by
  obtain ⟨p, dx, fs, rfl, _⟩ := h
  rfl
theorem pu_Q_kind {K : PySem.W.Frag} {a : Ad} {vs : List V} {H : Hp} {Q : VK} {E : XK} (h : sp_M_kind K a false vs H Q E) : t_Q_kind K a { nx := fun _ H' => Q .non H', rt := Q } (start N_Q_kind vs) H := by
  obtain ⟨p, dx, fs, rfl, _, q⟩ := h
  exact q
abbrev N_R_kind : List Str := ["self"]
def t_R_kind (K : PySem.W.Frag) (a : Ad) : TS :=
  (tRet (tC (.str (Str.ofString "round"))))
theorem pu_R_kind {K : PySem.W.Frag} {a : Ad} {vs : List V} {H : Hp} {Q : VK} {E : XK} (h : sp_M_kind K a true vs H Q E) : t_R_kind K a { nx := fun _ H' => Q .non H', rt := Q } (start N_R_kind vs) H := by
  obtain ⟨p, dx, fs, rfl, _, q⟩ := h
  exact q
/-! looking a name up -/
theorem kv_look {K : PySem.W.Frag} {H : Hp} {kvs : List (Key × V)} {ss : List Ship} (h : KvAt K H kvs ss) (t : Str) :
    (t ∉ ss.map (·.1) → valV kvs (Sum.inr t : Key) = none) ∧ (t ∈ ss.map (·.1) → ∃ s ∈ ss, s.1 = t ∧ ∃ tp, valV kvs (Sum.inr t : Key) = some (.ref tp) ∧ SqT K H tp [.int s.2.1, .int s.2.2]) := by
  induction h with
  | nil => exact ⟨fun _ => rfl, fun h => by cases h⟩
  | @cons kv s l1 l2 hk _ ih =>
    obtain ⟨i1, i2⟩ := ih
    obtain ⟨e, tp, ev, hs⟩ := hk
    obtain ⟨k, v⟩ := kv
    simp only at e ev
    subst e ev
    have step : valV ((Sum.inr s.1, V.ref tp) :: l1) (Sum.inr t : Key) = if s.1 = t then some (.ref tp) else valV l1 (Sum.inr t : Key) := by
      unfold valV
      rw [List.find?_cons]
      by_cases z : s.1 = t
      · simp [z]
      · have : ¬ (Sum.inr s.1 : Key) = Sum.inr t := fun q => z (Sum.inr.inj q)
        simp [z, this]
    rw [step]
    by_cases z : s.1 = t
    · rw [if_pos z]
      exact ⟨fun hn => absurd (by rw [List.map_cons, z]; exact List.mem_cons_self) hn, fun _ => ⟨s, List.mem_cons_self, z, tp, rfl, hs⟩⟩
    · rw [if_neg z]
      refine ⟨fun hn => i1 fun q => hn (by rw [List.map_cons]; exact List.mem_cons_of_mem _ q), fun hm => ?_⟩
      rw [List.map_cons] at hm
      rcases List.mem_cons.mp hm with q | q
      · exact absurd q.symm z
      · obtain ⟨s', m', r⟩ := i2 q
        exact ⟨s', List.mem_cons_of_mem _ m', r⟩
/-- what a look for a ship's name comes to: R behind one that is there -/
def ChkS (K : PySem.W.Frag) (a : Ad) (ss : List Ship) (x : V) (H : Hp) (E : XK) (R : Str → Prop) : Prop := ChkN K a x H E fun t => (t ∉ ss.map (·.1) ∧ E (.ref a.e_NoShip) none H) ∨ (t ∈ ss.map (·.1) ∧ R t)
def sp_M_check_there (K : PySem.W.Frag) (a : Ad) (b : Bool) : Sp := fun vs H Q E => ∃ (p d : Addr) (n : Nat) (ss : List Ship) (x : V), vs = [.ref p, x] ∧ QuayAt K (a.cls b) H p d n ss ∧ ChkS K a ss x H E fun _ => Q .non H
abbrev N_Q_check_there : List Str := ["self", "name"]
def t_Q_check_there (K : PySem.W.Frag) (a : Ad) (E : XK) : TS :=
  (tSeq (tDrop (tCall (sp_p_check_name K a) [] E (tCons (tVar 1) tNil)))
    (tIfS (tB (tDNotIn (tVar 1) (tFld K (tVar 0) "_ships"))) (tRaise a.e_NoShip E) tNext))
theorem len_M_check_there {K : PySem.W.Frag} {a : Ad} {b : Bool} {vs : List V} {H : Hp} {Q : VK} {E : XK} (h : sp_M_check_there K a b vs H Q E) : vs.length = 2 := by
  obtain ⟨p, d, n, ss, x, rfl, _⟩ := h
  rfl
theorem pu_Q_check_there {K : PySem.W.Frag} {a : Ad} {b : Bool} {vs : List V} {H : Hp} {Q : VK} {E : XK} (TC : ClsT K a b) (h : sp_M_check_there K a b vs H Q E) : t_Q_check_there K a E { nx := fun _ H' => Q .non H', rt := Q } (start N_Q_check_there vs) H := by
  obtain ⟨p, d, n, ss, x, rfl, S, h⟩ := h
  refine ⟨x, rfl, x, rfl, ChkN.imp h fun t e g r => ?_⟩
  subst e
  obtain ⟨dx, h1⟩ := S.ob
  obtain ⟨kvs, h2, h3⟩ := S.dc
  refine ⟨_, rfl, _, rfl, p, _, dx, _, _, rfl, h1, TC.cl, TC.nS, flds_s, d, _, rfl, DGet.k (k := Sum.inr t) h2, _, rfl, ?_⟩
  obtain ⟨l1, l2⟩ := kv_look h3 t
  rcases r with ⟨hn, q⟩ | ⟨hm, q⟩
  · rw [l1 hn]
    exact iteT q
  · obtain ⟨s, _, _, tp, e, _⟩ := l2 hm
    rw [e]
    exact iteF q
def sp_M_where (K : PySem.W.Frag) (a : Ad) (b : Bool) : Sp := fun vs H Q E => ∃ (p d : Addr) (n : Nat) (ss : List Ship) (x : V), vs = [.ref p, x] ∧ QuayAt K (a.cls b) H p d n ss ∧ ChkS K a ss x H E fun t => ∀ s ∈ ss, s.1 = t → Q (.int s.2.2) H
abbrev N_Q_where : List Str := ["self", "name"]
def t_Q_where (K : PySem.W.Frag) (a : Ad) (E : XK) : TS :=
  (tSeq (tDrop (tMethB a.cls "_check_there" (fun b => sp_M_check_there K a b) (fun _ => E) (tVar 0) (tCons (tVar 1) tNil)))
    (tRet (tOp (rIxT K) (tDGet (tFld K (tVar 0) "_ships") (tVar 1)) (tC (.int 1)))))
theorem len_M_where {K : PySem.W.Frag} {a : Ad} {b : Bool} {vs : List V} {H : Hp} {Q : VK} {E : XK} (h : sp_M_where K a b vs H Q E) : vs.length = 2 := by
  obtain ⟨p, d, n, ss, x, rfl, _⟩ := h
  rfl
theorem pu_Q_where {K : PySem.W.Frag} {a : Ad} {b : Bool} {vs : List V} {H : Hp} {Q : VK} {E : XK} (TC : ClsT K a b) (h : sp_M_where K a b vs H Q E) : t_Q_where K a E { nx := fun _ H' => Q .non H', rt := Q } (start N_Q_where vs) H := by
  obtain ⟨p, d, n, ss, x, rfl, S, h⟩ := h
  obtain ⟨dx, h1⟩ := S.ob
  refine ⟨_, rfl, b, p, dx, _, rfl, h1, by rfl, x, rfl, p, d, n, ss, x, rfl, S, ChkN.imp h fun t e g r => ?_⟩
  subst e
  rcases r with r | ⟨hm, q⟩
  · exact .inl r
  refine .inr ⟨hm, ?_⟩
  obtain ⟨kvs, h2, h3⟩ := S.dc
  obtain ⟨s, hs, es, tp, e, ht⟩ := (kv_look h3 t).2 hm
  refine ⟨_, rfl, p, _, dx, _, _, rfl, h1, TC.cl, TC.nS, flds_s, _, rfl, d, .ref tp, rfl, ?_, tp, _, 1, .int s.2.2, rfl, rfl, ht, atI_nat (j := 1) rfl, q s hs es⟩
  rw [← e]
  exact DGet.k (k := Sum.inr t) h2
/-! the berths that are held -/
def sp_M_held (K : PySem.W.Frag) (a : Ad) (b : Bool) : Sp := fun vs H Q _ => ∃ (p d : Addr) (n : Nat) (ss : List Ship), vs = [.ref p] ∧ QuayAt K (a.cls b) H p d n ss ∧ ∀ (l : Addr) (H' : Hp), H l = none → Same H H' → H' l = some (.lst (heldL n (occS ss))) → Q (.ref l) H'
abbrev N_Q_held : List Str := ["self", "held", "_", "berth"]
def t_Q_held (K : PySem.W.Frag) (a : Ad) : TS :=
  (tSeq (tAsg (tOp rRep (tLst (tCons (tC (.bl false)) tNil)) (tOp rAddI (tFld K (tVar 0) "_berths") (tC (.int 1)))) (gName 1))
    (tSeq (tLock (tFor (iVals (tFld K (tVar 0) "_ships")) (gTup K 2 (gCons (gName 2) (gCons (gName 3) gNil)))
    (tAsg (tC (.bl true)) (gSub (tVar 1) (tVar 3) rSetL))))
    (tRet (tVar 1))))
theorem len_M_held {K : PySem.W.Frag} {a : Ad} {b : Bool} {vs : List V} {H : Hp} {Q : VK} {E : XK} (h : sp_M_held K a b vs H Q E) : vs.length = 1 := by
  obtain ⟨p, d, n, ss, rfl, _⟩ := h
  rfl
theorem pu_Q_held {K : PySem.W.Frag} {a : Ad} {b : Bool} {vs : List V} {H : Hp} {Q : VK} {E : XK} (TC : ClsT K a b) (h : sp_M_held K a b vs H Q E) : t_Q_held K a { nx := fun _ H' => Q .non H', rt := Q } (start N_Q_held vs) H := by
  obtain ⟨p, d, n, ss, rfl, S, q⟩ := h
  obtain ⟨dx, h1⟩ := S.ob
  obtain ⟨kvs, h2, h3⟩ := S.dc
  have hn := S.n1
  have hnd := S.ne
  refine ⟨by decide, fun l0 nl0 => ⟨_, rfl, p, _, dx, _, _, rfl, same_new nl0 _ _ h1, TC.cl, TC.nB, flds_b, _, 1, rfl, rfl, l0, _, _, rfl, rfl, upd_same, by omega, by omega, ?_, fun l1 nl1 => ?_⟩⟩
  · refine l1000 ?_
    show 1 * _ ≤ _
    omega
  have e1 : ((n : Int) + 1).toNat = n + 1 := by omega
  rw [e1, heldL_new]
  have s0 : Same H (upd H l0 (.lst [.bl false])) := same_new nl0
  have n1 : H l1 = none := s0.free nl1
  have s1 := s0.store n1 (o := .lst (heldL n fun _ => false))
  have hdl : d ≠ l1 := ne_of_none h2 n1
  have hpl : p ≠ l1 := ne_of_none h1 n1
  refine ⟨d, .dK kvs, s1 _ _ h2, trivial, fun od => ?_⟩
  have h1' : (upd (upd (upd H l0 (.lst [.bl false])) l1 (.lst (heldL n fun _ => false))) d (.frz od (.dK kvs))) p = some (.ins (a.cls b) dx (flds n d)) := by
    rw [upd_ne hnd]
    exact s1 _ _ h1
  refine ⟨_, rfl, p, _, dx, _, _, rfl, h1', TC.cl, TC.nS, flds_s, d, od, kvs, rfl, upd_same, ?_⟩
  refine for_it (walk_values (d := d) (o := od) (kvs := kvs)) (fun i σ H' => (∃ y z, σ = [some (.ref p), some (.ref l1), y, z]) ∧ H' d = some (.frz od (.dK kvs)) ∧ (∀ c o, H c = some o → c ≠ d → H' c = some o) ∧ H' l1 = some (.lst (heldL n (occS (ss.take i)))))
    ⟨⟨none, none, rfl⟩, upd_same, fun c o e ne => (by rw [upd_ne ne]; exact s1 _ _ e), (by rw [upd_ne hdl.symm]; exact upd_same)⟩ (fun i σ H' _ h => h.2.1) ?_ ?_
  · rintro i v σ H1 H2 hi ⟨⟨y, z, rfl⟩, hd1, k1, eh⟩ ⟨rfl, k, hk⟩
    obtain ⟨s, hs, ek, t, ev, ht⟩ := pd_get h3 hk
    replace ev : v = .ref t := ev
    subst ev
    have ht' := seqT_but h2 k1 ht
    have hr := S.rg s (List.mem_of_getElem? hs)
    refine ⟨t, _, rfl, ht', rfl, _, _, rfl, _, _, rfl, rfl, ?_⟩
    refine ⟨.ref l1, rfl, .int s.2.2, rfl, l1, _, s.2.2, s.2.2.toNat, rfl, rfl, eh, ?_, ?_⟩
    · unfold ixN
      rw [if_pos (by omega), heldL_len, if_pos (by omega)]
    rw [heldL_set (by omega) hr.2.2.2]
    refine ⟨⟨_, _, rfl⟩, (by rw [upd_ne hdl]; exact hd1), fun c o e ne => (by rw [upd_ne (ne_of_none e n1)]; exact k1 c o e ne), ?_⟩
    rw [upd_same, take_more hs, occS_snoc]
  · rintro σ H1 ⟨⟨y, z, rfl⟩, hd1, k1, eh⟩
    rw [pd_len h3, List.take_length] at eh
    refine ⟨hd1, _, rfl, q l1 _ n1 (fun c o e => ?_) (by rw [upd_ne hdl.symm]; exact eh)⟩
    by_cases z : c = d
    · subst z
      rw [h2] at e
      rw [upd_same]
      exact e
    · rw [upd_ne z]
      exact k1 c o e z
def freeS (n : Nat) (ss : List Ship) : List Int := (allB n).filter fun x => !occS ss x
def sp_M_free_ones (K : PySem.W.Frag) (a : Ad) (b : Bool) : Sp := fun vs H Q _ => ∃ (p d : Addr) (n : Nat) (ss : List Ship), vs = [.ref p] ∧ QuayAt K (a.cls b) H p d n ss ∧ ∀ (l : Addr) (H' : Hp), H l = none → Same H H' → H' l = some (.lst ((freeS n ss).map V.int)) → Q (.ref l) H'
abbrev N_Q_free_ones : List Str := ["self", "held", "berth"]
def t_Q_free_ones (K : PySem.W.Frag) (a : Ad) : TS :=
  (tSeq (tAsg (tMethB a.cls "_held" (fun b => sp_M_held K a b) (fun _ => E0) (tVar 0) tNil) (gName 1))
    (tRet (tLc (iRng2 (tCons (tC (.int 1)) (tCons (tOp rAddI (tFld K (tVar 0) "_berths") (tC (.int 1))) tNil))) (gName 2) (tNot (tB (tOp (rIxL K) (tVar 1) (tVar 2)))) (tVar 2) [2])))
theorem len_M_free_ones {K : PySem.W.Frag} {a : Ad} {b : Bool} {vs : List V} {H : Hp} {Q : VK} {E : XK} (h : sp_M_free_ones K a b vs H Q E) : vs.length = 1 := by
  obtain ⟨p, d, n, ss, rfl, _⟩ := h
  rfl
theorem pu_Q_free_ones {K : PySem.W.Frag} {a : Ad} {b : Bool} {vs : List V} {H : Hp} {Q : VK} {E : XK} (TC : ClsT K a b) (h : sp_M_free_ones K a b vs H Q E) : t_Q_free_ones K a { nx := fun _ H' => Q .non H', rt := Q } (start N_Q_free_ones vs) H := by
  obtain ⟨p, d, n, ss, rfl, S, q⟩ := h
  obtain ⟨dx, h1⟩ := S.ob
  have hn := S.n1
  refine ⟨_, rfl, b, p, dx, _, rfl, h1, by rfl, p, d, n, ss, rfl, S, fun l H1 nl s el => ?_⟩
  have en : ((n : Int) + 1 - 1).toNat = n := by omega
  refine ⟨_, rfl, p, _, dx, _, _, rfl, s _ _ h1, TC.cl, TC.nB, flds_b, n, 1, rfl, rfl, 1, (n : Int) + 1, rfl, ⟨by omega, by omega, by omega, by omega⟩, ?_⟩
  rw [en]
  refine lc_pure (walk_range (lo := 1) (n := n)) (small1000 (by omega)) (allB n) (by simp [allB]) (fun x => !occS ss x) V.int (fun _ _ => trivial) ?_ ?_
  · intro j x v H5 H6 R hx2 s5 hy k
    obtain ⟨rfl, hv⟩ := hy
    have ev := allB_at hx2
    have hj : j < n := by
      have := (List.getElem?_eq_some_iff.mp hx2).1
      simpa [allB] using this
    replace hv : v = .int (1 + (j : Int)) := hv
    rw [← ev] at hv
    subst hv
    have hx : (heldL n (occS ss))[x.toNat]? = some (.bl (occS ss x)) := by
      rw [heldL_at (by omega)]
      have : ((x.toNat : Nat) : Int) = x := by omega
      rw [this]
    refine ⟨rfl, .ref l, rfl, .int x, rfl, l, _, _, .bl (occS ss x), rfl, rfl, sqL_of (s5 _ _ el), at_of (by omega) hx, occS ss x, rfl, ?_⟩
    have kk := k (.int x) _ (Same.refl _) fun _ => rfl
    cases e : occS ss x with
    | false =>
      rw [e] at kk
      exact iteT ⟨.int x, rfl, kk⟩
    | true =>
      have kk := k .non _ (Same.refl _) fun z => by rw [e] at z; cases z
      rw [e] at kk
      exact iteF kk
  · intro D H2 nD s2 eD
    exact q D H2 (s.free nD) (s.trans s2) eD
/-! all ships -/
def sp_M_all_ships (K : PySem.W.Frag) (a : Ad) (b : Bool) : Sp := fun vs H Q _ => ∃ (p d : Addr) (n : Nat) (ss : List Ship), vs = [.ref p] ∧ QuayAt K (a.cls b) H p d n ss ∧ ∀ (l : Addr) (H' : Hp) (rs : List V), H l = none → Same H H' → H' l = some (.lst rs) → TrAt K H' rs ss → Q (.ref l) H'
abbrev N_Q_all_ships : List Str := ["self", "name", "wish", "berth"]
def t_Q_all_ships (K : PySem.W.Frag) (a : Ad) : TS :=
  (tRet (tLockE (tLc (iItems (tFld K (tVar 0) "_ships")) (gTup K 2 (gCons (gName 1) (gCons (gTup K 2 (gCons (gName 2) (gCons (gName 3) gNil))) gNil))) tYes (tTup (tCons (tVar 1) (tCons (tVar 2) (tCons (tVar 3) tNil)))) [1, 2, 3])))
theorem len_M_all_ships {K : PySem.W.Frag} {a : Ad} {b : Bool} {vs : List V} {H : Hp} {Q : VK} {E : XK} (h : sp_M_all_ships K a b vs H Q E) : vs.length = 1 := by
  obtain ⟨p, d, n, ss, rfl, _⟩ := h
  rfl
theorem pu_Q_all_ships {K : PySem.W.Frag} {a : Ad} {b : Bool} {vs : List V} {H : Hp} {Q : VK} {E : XK} (TC : ClsT K a b) (h : sp_M_all_ships K a b vs H Q E) : t_Q_all_ships K a { nx := fun _ H' => Q .non H', rt := Q } (start N_Q_all_ships vs) H := by
  obtain ⟨p, d, n, ss, rfl, S, q⟩ := h
  obtain ⟨dx, h1⟩ := S.ob
  obtain ⟨kvs, h2, h3⟩ := S.dc
  have hnd := S.ne
  have hl := pd_len h3
  have hln := S.ln
  refine ⟨d, .dK kvs, h2, trivial, fun od => ?_⟩
  refine ⟨_, rfl, p, _, dx, _, _, rfl, (by rw [upd_ne hnd]; exact h1), TC.cl, TC.nS, flds_s, d, od, kvs, rfl, upd_same, fun D nD => ?_⟩
  have hdD : d ≠ D := ne_of_none upd_same nD
  have nD0 : H D = none := by rw [upd_ne hdD.symm] at nD; exact nD
  refine lc_it (walk_items (d := d) (o := od) (kvs := kvs)) (fun i H' => H' d = some (.frz od (.dK kvs)) ∧ (∀ c o, H c = some o → c ≠ d → H' c = some o) ∧ ∃ rs, H' D = some (.lst rs) ∧ TrAt K H' rs (ss.take i))
    ⟨(by rw [upd_ne hdD]; exact upd_same), fun c o e ne => (by rw [upd_ne (ne_of_none e nD0), upd_ne ne]; exact e), [], upd_same, .nil⟩ (fun i H' _ h => h.1) ?_ ?_
  · rintro i v H1 H2 hi ⟨hd1, k1, rs, er, tr⟩ ⟨T, x, y, rfl, nT, rfl, ex, ey⟩
    have ek : kvs[i]? = some kvs[i] := List.getElem?_eq_getElem hi
    obtain ⟨s, hs, es, t, et, ht⟩ := pd_get h3 ek
    dsimp only at ex ey
    rw [ek] at ex ey
    have ex' : x = V.str s.1 := by
      have e := (Option.some.inj ex).symm
      dsimp only at e
      rw [es] at e
      exact e
    have ey' : y = V.ref t := ((Option.some.inj ey).symm).trans et
    subst ex' ey'
    have s1 : Same H1 (upd H1 T (.tup [.str s.1, .ref t])) := same_new nT
    have ht1 : SqT K (upd H1 T (.tup [.str s.1, .ref t])) t [.int s.2.1, .int s.2.2] := s1.seqT (seqT_but h2 k1 ht)
    refine ⟨T, _, rfl, sqT_of upd_same, rfl, _, _, rfl, _, _, rfl, t, _, rfl, ht1, rfl, _, _, rfl, _, _, rfl, rfl, rfl, rfl, ?_⟩
    dsimp only [tYes]
    rw [if_pos rfl]
    refine ⟨_, rfl, _, rfl, _, rfl, (by show 3 ≤ sizeLine; decide), fun u nu => ?_⟩
    have hDu : D ≠ u := ne_of_none (s1 _ _ er) nu
    have hDT : D ≠ T := ne_of_none er nT
    have s2 : Same H1 (upd (upd H1 T (.tup [.str s.1, .ref t])) u (.tup [.str s.1, .int s.2.1, .int s.2.2])) := s1.trans (same_new nu)
    have hlr : rs.length < sizeLine := by
      rw [pd_len tr, List.length_take]
      exact small1000 (by omega)
    refine ⟨rs, s2 _ _ er, hlr, ?_, fun c o e ne => ?_, _, upd_same, ?_⟩
    · rw [upd_ne hdD]
      exact s2 _ _ hd1
    · rw [upd_ne (ne_of_none e nD0)]
      exact s2 _ _ (k1 c o e ne)
    · rw [take_more hs]
      have k3 : ∀ c o, (upd (upd H1 T (.tup [.str s.1, .ref t])) u (.tup [.str s.1, .int s.2.1, .int s.2.2])) c = some o → c ≠ D → (upd (upd (upd H1 T (.tup [.str s.1, .ref t])) u (.tup [.str s.1, .int s.2.1, .int s.2.2])) D (.lst (rs ++ [.ref u]))) c = some o := fun c o e ne => by
        rw [upd_ne ne]
        exact e
      exact pd_snoc (TrAt.nt (nt_lst (s2 _ _ er)) k3 (tr.same s2)) ⟨u, rfl, seqT_nt (nt_lst (s2 _ _ er)) k3 (sqT_of upd_same)⟩
  · rintro H1 ⟨hd1, k1, rs, er, tr⟩
    rw [hl, List.take_length] at tr
    refine ⟨hd1, q D _ rs nD0 (fun c o e => ?_) (by rw [upd_ne hdD.symm]; exact er) (tr.nt (nt_fz hd1) fun c o e ne => by rw [upd_ne ne]; exact e)⟩
    by_cases z : c = d
    · subst z
      rw [h2] at e
      rw [upd_same]
      exact e
    · rw [upd_ne z]
      exact k1 c o e z
/-! a ship comes -/
def sp_M_come (K : PySem.W.Frag) (a : Ad) (b : Bool) : Sp := fun vs H Q E => ∃ (p d : Addr) (n : Nat) (ss : List Ship) (x w : V), vs = [.ref p, x, w] ∧ QuayAt K (a.cls b) H p d n ss ∧ ss.length < 500 ∧ (∃ T, TyB K H w T) ∧ ChkN K a x H E fun t =>
  (t ∈ ss.map (·.1) ∧ E (.ref a.e_Taken) none H) ∨ (t ∉ ss.map (·.1) ∧ ((inB 1 n w = false ∧ E (.ref a.e_NoWish) none H) ∨ ∃ wi : Int, w = .int wi ∧ 1 ≤ wi ∧ wi ≤ n ∧
    ((ffq b n (occS ss) wi = none ∧ ∀ H', Same H H' → E (.ref a.e_NoRoom) none H') ∨ ∃ l : Int, ffq b n (occS ss) wi = some l ∧ 1 ≤ l ∧ l ≤ n ∧ ∀ H', (∀ c o, H c = some o → c ≠ d → H' c = some o) → QuayAt K (a.cls b) H' p d n (ss ++ [(t, wi, l)]) → Q (.int l) H')))
abbrev N_Q_come : List Str := ["self", "name", "wish", "berth"]
def t_Q_come (K : PySem.W.Frag) (a : Ad) (E : XK) : TS :=
  (tSeq (tDrop (tCall (sp_p_check_name K a) [] E (tCons (tVar 1) tNil)))
    (tSeq (tIfS (tB (tDIn (tVar 1) (tFld K (tVar 0) "_ships"))) (tRaise a.e_Taken E) tNext)
    (tSeq (tIfS (tNot (tB (tCall (sp_is_from_to K a) [] E0 (tCons (tC (.int 1)) (tCons (tFld K (tVar 0) "_berths") (tCons (tVar 2) tNil)))))) (tRaise a.e_NoWish E) tNext)
    (tSeq (tAsg (tMethB a.cls "_first_free" (fun b => sp_M_first_free K a b) (fun _ => E0) (tVar 0) (tCons (tMethB a.cls "_held" (fun b => sp_M_held K a b) (fun _ => E0) (tVar 0) tNil) (tCons (tVar 2) tNil))) (gName 3))
    (tSeq (tIfS (tB (tIsN (tVar 3))) (tRaise a.e_NoRoom E) tNext)
    (tSeq (tAsg (tTup (tCons (tVar 2) (tCons (tVar 3) tNil))) (gSub (tFld K (tVar 0) "_ships") (tVar 1) rSetD))
    (tRet (tVar 3))))))))
theorem len_M_come {K : PySem.W.Frag} {a : Ad} {b : Bool} {vs : List V} {H : Hp} {Q : VK} {E : XK} (h : sp_M_come K a b vs H Q E) : vs.length = 3 := by
  obtain ⟨p, d, n, ss, x, w, rfl, _⟩ := h
  rfl
theorem pu_Q_come {K : PySem.W.Frag} {a : Ad} {b : Bool} {vs : List V} {H : Hp} {Q : VK} {E : XK} (TC : ClsT K a b) (h : sp_M_come K a b vs H Q E) : t_Q_come K a E { nx := fun _ H' => Q .non H', rt := Q } (start N_Q_come vs) H := by
  obtain ⟨p, d, n, ss, x, w, rfl, S, hln, ⟨T, ty⟩, h⟩ := h
  obtain ⟨dx, h1⟩ := S.ob
  obtain ⟨kvs, h2, h3⟩ := S.dc
  have hn := S.n1
  refine ⟨x, rfl, x, rfl, ChkN.imp h fun t e g r => ?_⟩
  subst e
  obtain ⟨l1, l2⟩ := kv_look h3 t
  refine ⟨_, rfl, _, rfl, p, _, dx, _, _, rfl, h1, TC.cl, TC.nS, flds_s, d, _, rfl, DGet.k (k := Sum.inr t) h2, _, rfl, ?_⟩
  rcases r with ⟨hm, q⟩ | ⟨hn', r⟩
  · obtain ⟨s, _, _, tp, e, _⟩ := l2 hm
    rw [e]
    exact iteT q
  have hnew := l1 hn'
  rw [hnew]
  refine iteF ⟨_, rfl, p, _, dx, _, _, rfl, h1, TC.cl, TC.nB, flds_b, w, rfl, 1, n, w, T, rfl, ty, inB 1 n w, rfl, ?_⟩
  rcases r with ⟨e, q⟩ | ⟨wi, rfl, w1, w2, r⟩
  · rw [e]
    exact iteT q
  have e : inB 1 n (.int wi) = true := by simp [inB]; omega
  rw [e]
  refine iteF ⟨_, rfl, b, p, dx, _, rfl, h1, by rfl, _, rfl, b, p, dx, _, rfl, h1, by rfl, p, d, n, ss, rfl, S, fun l H1 nl s el => ?_⟩
  refine ⟨_, rfl, p, dx, l, _, n, occS ss, wi, rfl, s _ _ h1, sqL_of el, by omega, by omega, by omega, ?_⟩
  rcases r with ⟨ef, q⟩ | ⟨y, ef, y1, y2, q⟩
  · rw [ef]
    exact ⟨.non, rfl, true, rfl, iteT (q H1 s)⟩
  rw [ef]
  refine ⟨.int y, rfl, false, rfl, iteF ⟨.int wi, rfl, .int y, rfl, (by show 2 ≤ sizeLine; decide), fun tp ntp => ?_⟩⟩
  have s2 : Same H (upd H1 tp (.tup [.int wi, .int y])) := s.trans (same_new ntp)
  have s3 : Same H1 (upd H1 tp (.tup [.int wi, .int y])) := same_new ntp
  have dtp : d ≠ tp := ne_of_none (s _ _ h2) ntp
  have ptp : p ≠ tp := ne_of_none (s _ _ h1) ntp
  refine ⟨_, rfl, p, _, dx, _, _, rfl, s2 _ _ h1, TC.cl, TC.nS, flds_s, _, rfl, d, _, rfl, DPut.k (k := Sum.inr t) (s2 _ _ h2) (small1000 (by rw [pd_len h3]; omega)), ?_⟩
  have k3 : ∀ c o, (upd H1 tp (.tup [.int wi, .int y])) c = some o → c ≠ d → (upd (upd H1 tp (.tup [.int wi, .int y])) d (.dK (putK kvs (Sum.inr t) (.ref tp)))) c = some o := fun c o e ne => by
    rw [upd_ne ne]
    exact e
  refine ⟨.int y, rfl, q _ (fun c o e ne => k3 c o (s2 c o e) ne) ⟨⟨dx, ?_⟩, ⟨_, upd_same, ?_⟩, ?_, ?_, hn, ?_⟩⟩
  · rw [upd_ne S.ne]
    exact s2 _ _ h1
  · have nt := nt_dK (s2 _ _ h2)
    have kk := pd_snoc (a := ((Sum.inr t, V.ref tp) : Key × V)) (b := ((t, wi, y) : Ship)) (KvAt.nt nt k3 (h3.same s2)) ⟨rfl, tp, rfl, seqT_nt nt k3 (sqT_of upd_same)⟩
    rw [← putK_new (V.ref tp) hnew] at kk
    exact kk
  · rw [List.map_append, List.nodup_append]
    refine ⟨S.nd, by simp, fun u hu v hv e => ?_⟩
    simp only [List.map_cons, List.map_nil, List.mem_singleton] at hv
    rw [hv] at e
    exact hn' (e ▸ hu)
  · intro s hs
    rcases List.mem_append.mp hs with hs | hs
    · exact S.rg s hs
    · rw [List.mem_singleton.mp hs]
      exact ⟨w1, w2, y1, y2⟩
  · rw [List.length_append]
    show ss.length + 1 ≤ 500
    omega

/-! ### a ship leaves -/
def TKeep (H H' : Hp) : Prop := (∀ c xs, H c = some (.tup xs) → H' c = some (.tup xs)) ∧ ∀ c o xs, H c = some (.frz o (.tup xs)) → H' c = some (.frz o (.tup xs))
theorem TKeep.trans {H H1 H2 : Hp} (a : TKeep H H1) (b : TKeep H1 H2) : TKeep H H2 := ⟨fun c xs e => b.1 c xs (a.1 c xs e), fun c o xs e => b.2 c o xs (a.2 c o xs e)⟩
theorem tk_same {H H' : Hp} (s : Same H H') : TKeep H H' := ⟨fun c xs e => s _ _ e, fun c o xs e => s _ _ e⟩
theorem tk_upd {H : Hp} {d : Addr} {o : HO} (h : NT H d) : TKeep H (upd H d o) := by
  refine ⟨fun c xs e => ?_, fun c u xs e => ?_⟩
  · have ne : c ≠ d := fun q => h.1 xs (q ▸ e)
    rw [upd_ne ne]
    exact e
  · have ne : c ≠ d := fun q => h.2 u xs (q ▸ e)
    rw [upd_ne ne]
    exact e
theorem seqT_tk {K : PySem.W.Frag} {H H' : Hp} {t : Addr} {xs : List V} (k : TKeep H H') (h : SqT K H t xs) : SqT K H' t xs := by
  rcases h with (h | ⟨o, h⟩) | h
  · exact .inl (.inl (k.1 _ _ h))
  · exact .inl (.inr ⟨o, k.2 _ _ _ h⟩)
  · exact .inr h
theorem KvAt.tk {K : PySem.W.Frag} {H H' : Hp} {kvs : List (Key × V)} {ss : List Ship} (h : KvAt K H kvs ss) (k : TKeep H H') : KvAt K H' kvs ss := pd_imp h fun _ _ ⟨e, t, q, r⟩ => ⟨e, t, q, seqT_tk k r⟩
theorem TrAt.tk {K : PySem.W.Frag} {H H' : Hp} {vs : List V} {ss : List Ship} (h : TrAt K H vs ss) (k : TKeep H H') : TrAt K H' vs ss := pd_imp h fun _ _ ⟨t, q, r⟩ => ⟨t, q, seqT_tk k r⟩
def others (t : Str) (ss : List Ship) : List Ship := ss.filter fun s => decide (s.1 ≠ t)
def keys (ss : List Ship) : List (Str × Int) := ss.map fun s => (s.1, s.2.1)
def Laid (b : Bool) (n : Nat) (ss : List Ship) : Prop := ∀ (i : Nat) (s : Ship), ss[i]? = some s → ffq b n (occS (ss.take i)) s.2.1 = some s.2.2
def movesOf (os ss : List Ship) : List Ship := (os.zip ss).filterMap fun p => if p.2.2.2 = p.1.2.2 then none else some (p.1.1, p.1.2.2, p.2.2.2)
theorem ffq_rg {b : Bool} {n : Nat} {occ : Int → Bool} {w l : Int} (h : ffq b n occ w = some l) (h1 : 1 ≤ w) : 1 ≤ l ∧ l ≤ n ∧ occ l = false := by
  unfold ffq at h
  cases b with
  | false =>
    obtain ⟨a1, a2, a3, _⟩ := ffree_some (show ffree n occ w = some l from h)
    exact ⟨by omega, a2, a3⟩
  | true =>
    have h : rfree n occ w = some l := h
    unfold rfree at h
    cases e : ffree n occ w with
    | none =>
      rw [e] at h
      obtain ⟨a1, a2, a3, _⟩ := ffree_some h
      exact ⟨a1, a2, a3⟩
    | some c =>
      rw [e] at h
      cases h
      obtain ⟨a1, a2, a3, _⟩ := ffree_some e
      exact ⟨by omega, a2, a3⟩
theorem kv_drop {K : PySem.W.Frag} {H : Hp} {kvs : List (Key × V)} {ss : List Ship} (h : KvAt K H kvs ss) (t : Str) : KvAt K H (dropK kvs (Sum.inr t : Key)) (others t ss) := by
  induction h with
  | nil => exact .nil
  | @cons kv s l1 l2 hk _ ih =>
    obtain ⟨k, v⟩ := kv
    obtain ⟨e, r⟩ := hk
    replace e : k = Sum.inr s.1 := e
    subst e
    unfold dropK others
    rw [List.filter_cons, List.filter_cons]
    by_cases z : s.1 = t
    · have : ¬ ((Sum.inr s.1 : Key) ≠ Sum.inr t) := fun q => q (by rw [z])
      rw [if_neg (by simpa using z), if_neg (by simpa using z)]
      exact ih
    · rw [if_pos (by simpa using z), if_pos (by simpa using z)]
      exact .cons ⟨rfl, r⟩ ih
theorem kv_map {K : PySem.W.Frag} {H : Hp} {kvs : List (Key × V)} {ss : List Ship} {nm : Str} {v : V} (h : KvAt K H kvs ss) : (nm ∉ ss.map (·.1) → KvAt K H (kvs.map fun kv => if kv.1 = (Sum.inr nm : Key) then (kv.1, v) else kv) ss) ∧
    ((ss.map (·.1)).Nodup → ∀ (i : Nat) (s s' : Ship), ss[i]? = some s → s.1 = nm → s'.1 = nm → (∃ t, v = .ref t ∧ SqT K H t [.int s'.2.1, .int s'.2.2]) → KvAt K H (kvs.map fun kv => if kv.1 = (Sum.inr nm : Key) then (kv.1, v) else kv) (ss.set i s')) := by
  induction h with
  | nil => exact ⟨fun _ => .nil, fun _ i s s' e => by cases i <;> cases e⟩
  | @cons kv s0 l1 l2 hk _ ih =>
    obtain ⟨i1, i2⟩ := ih
    obtain ⟨k, u⟩ := kv
    obtain ⟨e, r⟩ := hk
    replace e : k = Sum.inr s0.1 := e
    subst e
    refine ⟨fun hn => ?_, fun nd i s s' hi h1 h2 hv => ?_⟩
    · rw [List.map_cons] at hn ⊢
      rw [List.mem_cons, not_or] at hn
      have : ¬ (Sum.inr s0.1 : Key) = Sum.inr nm := fun q => hn.1 (Sum.inr.inj q).symm
      rw [if_neg this]
      exact .cons ⟨rfl, r⟩ (i1 hn.2)
    · rw [List.map_cons, List.nodup_cons] at nd
      rw [List.map_cons]
      cases i with
      | zero =>
        cases hi
        rw [List.set_cons_zero]
        have : (Sum.inr s0.1 : Key) = Sum.inr nm := by rw [h1]
        rw [if_pos this]
        refine .cons ⟨by rw [h1, h2], hv⟩ (i1 ?_)
        rw [← h1]
        exact nd.1
      | succ i =>
        rw [List.set_cons_succ]
        have hm : nm ∈ l2.map (·.1) := by
          have e : l2[i]? = some s := hi
          rw [← h1]
          exact List.mem_map_of_mem (List.mem_of_getElem? e)
        have : ¬ (Sum.inr s0.1 : Key) = Sum.inr nm := fun q => nd.1 (by rw [Sum.inr.inj q]; exact hm)
        rw [if_neg this]
        exact .cons ⟨rfl, r⟩ (i2 nd.2 i s s' hi h1 h2 hv)
theorem kv_put {K : PySem.W.Frag} {H : Hp} {kvs : List (Key × V)} {ss : List Ship} {i : Nat} {s s' : Ship} {tp : Addr} (h : KvAt K H kvs ss) (nd : (ss.map (·.1)).Nodup) (hi : ss[i]? = some s) (h2 : s'.1 = s.1) (hv : SqT K H tp [.int s'.2.1, .int s'.2.2]) : KvAt K H (putK kvs (Sum.inr s.1 : Key) (.ref tp)) (ss.set i s') := by
  have hm : s.1 ∈ ss.map (·.1) := List.mem_map_of_mem (List.mem_of_getElem? hi)
  obtain ⟨s0, _, _, t0, e0, _⟩ := (kv_look h s.1).2 hm
  have ha : (kvs.any fun kv => decide (kv.1 = (Sum.inr s.1 : Key))) = true := by
    unfold valV at e0
    cases f : kvs.find? fun kv => decide (kv.1 = (Sum.inr s.1 : Key)) with
    | none => rw [f] at e0; cases e0
    | some kv => exact List.any_eq_true.mpr ⟨kv, List.mem_of_find?_eq_some f, by simpa using List.find?_some f⟩
  unfold putK
  rw [if_pos ha]
  exact (kv_map h).2 nd i s s' hi rfl h2 ⟨tp, rfl, hv⟩
theorem putK_len {kvs : List (Key × V)} {k : Key} {v : V} : (putK kvs k v).length ≤ kvs.length + 1 := by
  unfold putK
  split
  · rw [List.length_map]; omega
  · rw [List.length_append]; exact Nat.le_refl _
theorem keys_len {os ss : List Ship} (h : keys ss = keys os) : ss.length = os.length := by
  have e := congrArg List.length h
  unfold keys at e
  rw [List.length_map, List.length_map] at e
  exact e
theorem keys_at {os ss : List Ship} (h : keys ss = keys os) {i : Nat} {o : Ship} (hi : os[i]? = some o) : ∃ l, ss[i]? = some (o.1, o.2.1, l) := by
  have e : (keys os)[i]? = some (o.1, o.2.1) := by
    unfold keys
    rw [List.getElem?_map, hi]
    rfl
  rw [← h] at e
  unfold keys at e
  rw [List.getElem?_map] at e
  cases f : ss[i]? with
  | none => rw [f] at e; cases e
  | some s =>
    rw [f] at e
    obtain ⟨x, y, z⟩ := s
    have e' := Option.some.inj e
    simp only [Prod.mk.injEq] at e'
    exact ⟨z, by rw [e'.1, e'.2]⟩
theorem names_keys {ss : List Ship} : ss.map (·.1) = (keys ss).map (·.1) := by
  unfold keys
  rw [List.map_map]
  rfl
theorem set_mid {os ss : List Ship} {i : Nat} {s : Ship} (hl : ss.length = os.length) (hs : ss[i]? = some s) : (ss.take i ++ os.drop i).set i s = ss.take (i + 1) ++ os.drop (i + 1) := by
  have hi := (List.getElem?_eq_some_iff.mp hs).1
  have e1 : (ss.take i).length = i := by rw [List.length_take]; omega
  have e2 : os.drop i = os[i]'(by omega) :: os.drop (i + 1) := List.drop_eq_getElem_cons _
  rw [take_more hs, List.set_append_right _ _ (by omega), e1, Nat.sub_self, e2, List.set_cons_zero, List.append_assoc]
  rfl
theorem mid_at {os ss : List Ship} {i : Nat} {o : Ship} (hl : ss.length = os.length) (ho : os[i]? = some o) : (ss.take i ++ os.drop i)[i]? = some o := by
  have hi := (List.getElem?_eq_some_iff.mp ho).1
  have e1 : (ss.take i).length = i := by rw [List.length_take]; omega
  rw [List.getElem?_append_right (by omega), e1, Nat.sub_self, List.getElem?_drop]
  exact ho
theorem mid_names {os ss : List Ship} {i : Nat} (h : keys ss = keys os) : (ss.take i ++ os.drop i).map (·.1) = os.map (·.1) := by
  have e : ss.map (·.1) = os.map (·.1) := by rw [names_keys, names_keys, h]
  rw [List.map_append, List.map_take, List.map_drop, e, ← List.map_take, ← List.map_drop, ← List.map_append, List.take_append_drop]
theorem moves_more {os ss : List Ship} {i : Nat} {o s : Ship} (ho : os[i]? = some o) (hs : ss[i]? = some s) : movesOf (os.take (i + 1)) (ss.take (i + 1)) = movesOf (os.take i) (ss.take i) ++ (if s.2.2 = o.2.2 then [] else [(o.1, o.2.2, s.2.2)]) := by
  have h1 := (List.getElem?_eq_some_iff.mp ho).1
  have h2 := (List.getElem?_eq_some_iff.mp hs).1
  unfold movesOf
  rw [take_more ho, take_more hs, List.zip_append (by rw [List.length_take, List.length_take]; omega), List.filterMap_append]
  congr 1
  by_cases z : s.2.2 = o.2.2
  · simp [z]
  · simp [z]
def sp_M_leave (K : PySem.W.Frag) (a : Ad) (b : Bool) : Sp := fun vs H Q E => ∃ (p d : Addr) (n : Nat) (ss : List Ship) (x : V), vs = [.ref p, x] ∧ QuayAt K (a.cls b) H p d n ss ∧ ChkS K a ss x H E fun t => ∃ ss' : List Ship, Laid b n ss' ∧ keys ss' = keys (others t ss) ∧
  ∀ (l : Addr) (H' : Hp) (rs : List V), H l = none → (∀ c o, H c = some o → c ≠ d → H' c = some o) → QuayAt K (a.cls b) H' p d n ss' → H' l = some (.lst rs) → TrAt K H' rs (movesOf (others t ss) ss') → Q (.ref l) H'
abbrev N_Q_leave : List Str := ["self", "name", "held", "moves", "other", "wish", "ahead", "now"]
def t_Q_leave (K : PySem.W.Frag) (a : Ad) (E : XK) : TS :=
  (tSeq (tDrop (tMethB a.cls "_check_there" (fun b => sp_M_check_there K a b) (fun _ => E) (tVar 0) (tCons (tVar 1) tNil)))
    (tSeq (sDDel (tFld K (tVar 0) "_ships") (tVar 1))
    (tSeq (tAsg (tOp rRep (tLst (tCons (tC (.bl false)) tNil)) (tOp rAddI (tFld K (tVar 0) "_berths") (tC (.int 1)))) (gName 2))
    (tSeq (tAsg (tLst tNil) (gName 3))
    (tSeq (tFor (iList K (tMethB a.cls "all_ships" (fun b => sp_M_all_ships K a b) (fun _ => E0) (tVar 0) tNil)) (gTup K 3 (gCons (gName 4) (gCons (gName 5) (gCons (gName 6) gNil))))
    (tSeq (tAsg (tMethB a.cls "_first_free" (fun b => sp_M_first_free K a b) (fun _ => E0) (tVar 0) (tCons (tVar 2) (tCons (tVar 5) tNil))) (gName 7))
    (tSeq (tAsg (tC (.bl true)) (gSub (tVar 2) (tVar 7) rSetL))
    (tSeq (tAsg (tTup (tCons (tVar 5) (tCons (tVar 7) tNil))) (gSub (tFld K (tVar 0) "_ships") (tVar 4) rSetD))
    (tIfS (tTest (tOp rNe (tVar 7) (tVar 6))) (tDrop (tBM K "list" rAppend (tVar 3) (tCons (tTup (tCons (tVar 4) (tCons (tVar 6) (tCons (tVar 7) tNil)))) tNil))) tNext)))))
    (tRet (tVar 3)))))))
theorem len_M_leave {K : PySem.W.Frag} {a : Ad} {b : Bool} {vs : List V} {H : Hp} {Q : VK} {E : XK} (h : sp_M_leave K a b vs H Q E) : vs.length = 2 := by
  obtain ⟨p, d, n, ss, x, rfl, _⟩ := h
  rfl
theorem pu_Q_leave {K : PySem.W.Frag} {a : Ad} {b : Bool} {vs : List V} {H : Hp} {Q : VK} {E : XK} (TC : ClsT K a b) (h : sp_M_leave K a b vs H Q E) : t_Q_leave K a E { nx := fun _ H' => Q .non H', rt := Q } (start N_Q_leave vs) H := by
  obtain ⟨p, d, n, ss, x, rfl, S, h⟩ := h
  obtain ⟨dx, h1⟩ := S.ob
  have hn := S.n1
  refine ⟨_, rfl, b, p, dx, _, rfl, h1, by rfl, x, rfl, p, d, n, ss, x, rfl, S, ChkN.imp h fun t e g r => ?_⟩
  subst e
  rcases r with r | ⟨hm, ss', L, hk, q⟩
  · exact .inl r
  refine .inr ⟨hm, ?_⟩
  obtain ⟨kvs, h2, h3⟩ := S.dc
  obtain ⟨s0, _, _, t0, e0, _⟩ := (kv_look h3 t).2 hm
  have hnd := S.ne
  -- del self._ships[name]
  refine ⟨_, rfl, p, _, dx, _, _, rfl, h1, TC.cl, TC.nS, flds_s, _, rfl, d, kvs, Sum.inr t, rfl, h2, rfl, (by rw [e0]; rfl), ?_⟩
  generalize hos : others t ss = os at *
  have ndo : (os.map (·.1)).Nodup := by
    rw [← hos]
    unfold others
    exact List.Nodup.sublist (List.Sublist.map _ List.filter_sublist) S.nd
  have rgo : ∀ s ∈ os, 1 ≤ s.2.1 ∧ s.2.1 ≤ n ∧ 1 ≤ s.2.2 ∧ s.2.2 ≤ n := fun s hs => S.rg s (by rw [← hos] at hs; exact (List.mem_filter.mp hs).1)
  have lno : os.length ≤ 500 := by
    rw [← hos]
    exact Nat.le_trans (List.length_filter_le _ _) S.ln
  have k0 : ∀ c o, H c = some o → c ≠ d → (upd H d (.dK (dropK kvs (Sum.inr t : Key)))) c = some o := fun c o e ne => by rw [upd_ne ne]; exact e
  have K0 : KvAt K (upd H d (.dK (dropK kvs (Sum.inr t : Key)))) (dropK kvs (Sum.inr t : Key)) os := by
    rw [← hos]
    exact (kv_drop h3 t).nt (nt_dK h2) k0
  have hd0 : (upd H d (.dK (dropK kvs (Sum.inr t : Key)))) d = some (.dK (dropK kvs (Sum.inr t : Key))) := upd_same
  have none0 : ∀ {l : Addr}, (upd H d (.dK (dropK kvs (Sum.inr t : Key)))) l = none → H l = none := fun {l} e => by
    have : l ≠ d := fun z => by rw [z, upd_same] at e; cases e
    rw [upd_ne this] at e
    exact e
  have hp0 := k0 _ _ h1 hnd
  generalize (upd H d (.dK (dropK kvs (Sum.inr t : Key)))) = H0 at *
  generalize dropK kvs (Sum.inr t : Key) = kvs0 at *
  -- held, moves
  refine ⟨by decide, fun l0 nl0 => ⟨_, rfl, p, _, dx, _, _, rfl, same_new nl0 _ _ hp0, TC.cl, TC.nB, flds_b, _, 1, rfl, rfl, l0, _, _, rfl, rfl, upd_same, by omega, by omega, ?_, fun l1 nl1 => ?_⟩⟩
  · refine l1000 ?_
    show 1 * _ ≤ _
    omega
  have e1 : ((n : Int) + 1).toNat = n + 1 := by omega
  rw [e1, heldL_new]
  have s0 : Same H0 (upd H0 l0 (.lst [.bl false])) := same_new nl0
  have n1 : H0 l1 = none := s0.free nl1
  have s1 := s0.store n1 (o := .lst (heldL n fun _ => false))
  refine ⟨Nat.zero_le _, fun l2 nl2 => ?_⟩
  have n2 : H0 l2 = none := s1.free nl2
  have l12 : l1 ≠ l2 := ne_of_none upd_same nl2
  have s2 := s1.store n2 (o := .lst [])
  have S2 : QuayAt K (a.cls b) (upd (upd (upd H0 l0 (.lst [.bl false])) l1 (.lst (heldL n fun _ => false))) l2 (.lst [])) p d n os := ⟨⟨dx, s2 _ _ hp0⟩, ⟨kvs0, s2 _ _ hd0, K0.same s2⟩, ndo, rgo, hn, lno⟩
  have el1 : (upd (upd (upd H0 l0 (.lst [.bl false])) l1 (.lst (heldL n fun _ => false))) l2 (.lst [])) l1 = some (.lst (heldL n fun _ => false)) := by
    rw [upd_ne l12]
    exact upd_same
  have el2 : (upd (upd (upd H0 l0 (.lst [.bl false])) l1 (.lst (heldL n fun _ => false))) l2 (.lst [])) l2 = some (.lst []) := upd_same
  generalize (upd (upd (upd H0 l0 (.lst [.bl false])) l1 (.lst (heldL n fun _ => false))) l2 (.lst [])) = H2 at *
  have dl1 : d ≠ l1 := ne_of_none hd0 n1
  have dl2 : d ≠ l2 := ne_of_none hd0 n2
  have pl1 : p ≠ l1 := ne_of_none hp0 n1
  have pl2 : p ≠ l2 := ne_of_none hp0 n2
  refine ⟨_, rfl, b, p, dx, _, rfl, s2 _ _ hp0, by rfl, p, d, n, os, rfl, S2, fun la H3 rs0 nla s3 ela tr0 => ?_⟩
  have dla : d ≠ la := ne_of_none (s2 _ _ hd0) nla
  have pla : p ≠ la := ne_of_none (s2 _ _ hp0) nla
  have l1a : l1 ≠ la := ne_of_none el1 nla
  have l2a : l2 ≠ la := ne_of_none el2 nla
  have hl := keys_len hk
  refine ⟨la, rfl, ⟨_, sqL_of ela⟩, for_list (K := K) (a := la) (xs := rs0) (fun i σ H' => (∃ y4 y5 y6 y7, σ = [some (.ref p), some (.str t), some (.ref l1), some (.ref l2), y4, y5, y6, y7]) ∧ TKeep H3 H' ∧ (∀ c o, H c = some o → c ≠ d → H' c = some o) ∧
      H' la = some (.lst rs0) ∧ H' p = some (.ins (a.cls b) dx (flds n d)) ∧ H' l1 = some (.lst (heldL n (occS (ss'.take i)))) ∧ (∃ rs, H' l2 = some (.lst rs) ∧ TrAt K H' rs (movesOf (os.take i) (ss'.take i))) ∧ ∃ kvi, H' d = some (.dK kvi) ∧ kvi.length ≤ os.length ∧ KvAt K H' kvi (ss'.take i ++ os.drop i))
    ⟨⟨none, none, none, none, rfl⟩, tk_same (Same.refl _), fun c o e ne => s3 _ _ (s2 _ _ (k0 c o e ne)), ela, s3 _ _ (s2 _ _ hp0), s3 _ _ el1, ⟨[], s3 _ _ el2, .nil⟩, kvs0, s3 _ _ (s2 _ _ hd0), Nat.le_of_eq (pd_len K0), (K0.same s2).same s3⟩ (fun i σ H' _ h => sqL_of h.2.2.2.1) ?_ ?_⟩
  · rintro i v σ H4 hi ⟨⟨y4, y5, y6, y7, rfl⟩, tk, k4, ea, ep, e1', ⟨rs, er, tr⟩, kvi, ed, lk, kv⟩
    obtain ⟨o, ho, tt, ev, ht⟩ := pd_get tr0 hi
    subst ev
    obtain ⟨now, hs⟩ := keys_at hk ho
    have ff : ffq b n (occS (ss'.take i)) o.2.1 = some now := L i _ hs
    have ro := rgo o (List.mem_of_getElem? ho)
    obtain ⟨w1, w2, _⟩ := ffq_rg ff ro.1
    have hio := (List.getElem?_eq_some_iff.mp ho).1
    refine ⟨tt, _, rfl, seqT_tk tk ht, rfl, _, _, rfl, _, _, rfl, _, _, rfl, rfl, ?_⟩
    refine ⟨_, rfl, b, p, dx, _, rfl, ep, by rfl, _, rfl, _, rfl, p, dx, l1, _, n, occS (ss'.take i), o.2.1, rfl, ep, sqL_of e1', by omega, by omega, by omega, ?_⟩
    rw [ff]
    refine ⟨.ref l1, rfl, .int now, rfl, l1, _, now, now.toNat, rfl, rfl, e1', ?_, ?_⟩
    · unfold ixN
      rw [if_pos (by omega), heldL_len, if_pos (by omega)]
    rw [heldL_set (by omega) w2]
    have eh : setO (occS (ss'.take i)) now = occS (ss'.take (i + 1)) := by rw [take_more hs, occS_snoc]
    rw [eh]
    refine ⟨.int o.2.1, rfl, .int now, rfl, (by show 2 ≤ sizeLine; decide), fun tp ntp => ?_⟩
    -- the facts of the heap behind held[now] = True
    have tkA : TKeep H4 (upd H4 l1 (.lst (heldL n (occS (ss'.take (i + 1)))))) := tk_upd (nt_lst e1')
    have kA : ∀ c o, H c = some o → c ≠ d → (upd H4 l1 (.lst (heldL n (occS (ss'.take (i + 1)))))) c = some o := fun c o e ne => by
      have : c ≠ l1 := ne_of_none e (none0 n1)
      rw [upd_ne this]
      exact k4 c o e ne
    have eaA : (upd H4 l1 (.lst (heldL n (occS (ss'.take (i + 1)))))) la = some (.lst rs0) := by rw [upd_ne l1a.symm]; exact ea
    have epA : (upd H4 l1 (.lst (heldL n (occS (ss'.take (i + 1)))))) p = some (.ins (a.cls b) dx (flds n d)) := by rw [upd_ne pl1]; exact ep
    have e1A : (upd H4 l1 (.lst (heldL n (occS (ss'.take (i + 1)))))) l1 = some (.lst (heldL n (occS (ss'.take (i + 1))))) := upd_same
    have erA : (upd H4 l1 (.lst (heldL n (occS (ss'.take (i + 1)))))) l2 = some (.lst rs) := by rw [upd_ne l12.symm]; exact er
    have edA : (upd H4 l1 (.lst (heldL n (occS (ss'.take (i + 1)))))) d = some (.dK kvi) := by rw [upd_ne dl1]; exact ed
    have trA := tr.tk tkA
    have kvA := kv.tk tkA
    replace tk := tk.trans tkA
    clear tkA e1' er ed ea ep
    generalize (upd H4 l1 (.lst (heldL n (occS (ss'.take (i + 1)))))) = HA at *
    -- a new tuple
    have sB : Same HA (upd HA tp (.tup [.int o.2.1, .int now])) := same_new ntp
    have htB : SqT K (upd HA tp (.tup [.int o.2.1, .int now])) tp [.int o.2.1, .int now] := sqT_of upd_same
    replace tk := tk.trans (tk_same sB)
    have trB := trA.same sB
    have kvB := kvA.same sB
    have kB : ∀ c o', H c = some o' → c ≠ d → (upd HA tp (.tup [.int o.2.1, .int now])) c = some o' := fun c o' e ne => sB _ _ (kA c o' e ne)
    replace eaA := sB _ _ eaA
    replace epA := sB _ _ epA
    replace e1A := sB _ _ e1A
    replace erA := sB _ _ erA
    replace edA := sB _ _ edA
    clear sB trA kvA kA ntp
    generalize (upd HA tp (.tup [.int o.2.1, .int now])) = HB at *
    refine ⟨_, rfl, p, _, dx, _, _, rfl, epA, TC.cl, TC.nS, flds_s, _, rfl, d, _, rfl, DPut.k (k := Sum.inr o.1) edA (small1000 (by omega)), ?_⟩
    -- the ship's place in the dict
    have ndm : ((ss'.take i ++ os.drop i).map (·.1)).Nodup := by rw [mid_names hk]; exact ndo
    have kvC := kv_put kvB ndm (mid_at hl ho) (s' := ((o.1, o.2.1, now) : Ship)) rfl htB
    rw [set_mid hl hs] at kvC
    have tkC : TKeep HB (upd HB d (.dK (putK kvi (Sum.inr o.1) (.ref tp)))) := tk_upd (nt_dK edA)
    have kC : ∀ c o', H c = some o' → c ≠ d → (upd HB d (.dK (putK kvi (Sum.inr o.1) (.ref tp)))) c = some o' := fun c o' e ne => by
      rw [upd_ne ne]
      exact kB c o' e ne
    have eaC : (upd HB d (.dK (putK kvi (Sum.inr o.1) (.ref tp)))) la = some (.lst rs0) := by rw [upd_ne dla.symm]; exact eaA
    have epC : (upd HB d (.dK (putK kvi (Sum.inr o.1) (.ref tp)))) p = some (.ins (a.cls b) dx (flds n d)) := by rw [upd_ne hnd]; exact epA
    have e1C : (upd HB d (.dK (putK kvi (Sum.inr o.1) (.ref tp)))) l1 = some (.lst (heldL n (occS (ss'.take (i + 1))))) := by rw [upd_ne dl1.symm]; exact e1A
    have erC : (upd HB d (.dK (putK kvi (Sum.inr o.1) (.ref tp)))) l2 = some (.lst rs) := by rw [upd_ne dl2.symm]; exact erA
    have edC : (upd HB d (.dK (putK kvi (Sum.inr o.1) (.ref tp)))) d = some (.dK (putK kvi (Sum.inr o.1) (.ref tp))) := upd_same
    have trC := trB.tk tkC
    replace kvC := kvC.tk tkC
    have lkC : (putK kvi (Sum.inr o.1 : Key) (.ref tp)).length ≤ os.length := by
      rw [pd_len kvC, List.length_append, List.length_take, List.length_drop]
      omega
    replace tk := tk.trans tkC
    clear tkC kB eaA epA e1A erA edA trB kvB htB
    generalize (upd HB d (.dK (putK kvi (Sum.inr o.1) (.ref tp)))) = HC at *
    have mm := moves_more ho hs
    refine ⟨.int now, rfl, .int o.2.2, rfl, rfl, _, rfl, ?_⟩
    by_cases z : now = o.2.2
    · have ez : (!decide (V.int now = V.int o.2.2)) = false := by simp [z]
      rw [ez]
      refine iteF ⟨⟨_, _, _, _, rfl⟩, tk, kC, eaC, epC, e1C, ⟨rs, erC, ?_⟩, _, edC, lkC, kvC⟩
      rw [mm, if_pos z, List.append_nil]
      exact trC
    · have ez : (!decide (V.int now = V.int o.2.2)) = true := by simp [z]
      rw [ez]
      refine iteT ⟨.ref l2, rfl, .inl ⟨rfl, _, sqL_of erC⟩, _, rfl, _, rfl, _, rfl, (by show 3 ≤ sizeLine; decide), fun tq ntq => ?_⟩
      have sD : Same HC (upd HC tq (.tup [.str o.1, .int o.2.2, .int now])) := same_new ntq
      have htD : SqT K (upd HC tq (.tup [.str o.1, .int o.2.2, .int now])) tq [.str o.1, .int o.2.2, .int now] := sqT_of upd_same
      have lr : rs.length < sizeLine := by
        have e1 := pd_len trC
        have e2 : (movesOf (os.take i) (ss'.take i)).length ≤ 500 := by
          unfold movesOf
          refine Nat.le_trans (List.length_filterMap_le _ _) ?_
          rw [List.length_zip, List.length_take, List.length_take]
          omega
        rw [e1]
        exact small1000 (by omega)
      refine ⟨l2, _, _, rfl, rfl, sD _ _ erC, lr, ?_⟩
      have tkE : TKeep (upd HC tq (.tup [.str o.1, .int o.2.2, .int now])) (upd (upd HC tq (.tup [.str o.1, .int o.2.2, .int now])) l2 (.lst (rs ++ [.ref tq]))) := tk_upd (nt_lst (sD _ _ erC))
      have tkF := (tk_same sD).trans tkE
      refine ⟨⟨_, _, _, _, rfl⟩, tk.trans tkF, fun c o' e ne => ?_, ?_, ?_, ?_, ⟨_, upd_same, ?_⟩, _, ?_, lkC, kvC.tk tkF⟩
      · have : c ≠ l2 := ne_of_none e (none0 n2)
        rw [upd_ne this]
        exact sD _ _ (kC c o' e ne)
      · rw [upd_ne l2a.symm]
        exact sD _ _ eaC
      · rw [upd_ne pl2]
        exact sD _ _ epC
      · rw [upd_ne l12]
        exact sD _ _ e1C
      · rw [mm, if_neg z]
        exact pd_snoc (a := V.ref tq) (b := ((o.1, o.2.2, now) : Ship)) (trC.tk tkF) ⟨tq, rfl, seqT_tk tkE htD⟩
      · rw [upd_ne dl2]
        exact sD _ _ edC
  · rintro σ H4 ⟨⟨y4, y5, y6, y7, rfl⟩, tk, k4, ea, ep, e1', ⟨rs, er, tr⟩, kvi, ed, lk, kv⟩
    rw [pd_len tr0] at tr kv
    rw [List.take_length, ← hl, List.take_length] at tr
    rw [← hl, List.take_length, hl, List.drop_length, List.append_nil] at kv
    refine ⟨_, rfl, q l2 H4 rs (none0 n2) k4 ⟨⟨dx, ep⟩, ⟨kvi, ed, kv⟩, ?_, ?_, hn, ?_⟩ er tr⟩
    · rw [names_keys, hk, ← names_keys]
      exact ndo
    · intro s hs
      obtain ⟨i, hi⟩ := List.getElem?_of_mem hs
      have e : (keys os)[i]? = some (s.1, s.2.1) := by
        rw [← hk]
        unfold keys
        rw [List.getElem?_map, hi]
        rfl
      unfold keys at e
      rw [List.getElem?_map] at e
      cases f : os[i]? with
      | none => rw [f] at e; cases e
      | some o =>
        rw [f] at e
        have e2 : o.2.1 = s.2.1 := congrArg (·.2) (Option.some.inj e)
        have ro := rgo o (List.mem_of_getElem? f)
        rw [e2] at ro
        obtain ⟨w1, w2, _⟩ := ffq_rg (L i s hi) ro.1
        exact ⟨ro.1, ro.2.1, w1, w2⟩
    · omega
/-! the object of each method that a round quay hands on -/
def SelfAt (C : Addr) (vs : List V) (H : Hp) : Prop := ∃ p dx fs rest, vs = V.ref p :: rest ∧ H p = some (.ins C dx fs)
theorem self_come {K : PySem.W.Frag} {a : Ad} {b : Bool} {vs : List V} {H : Hp} {Q : VK} {E : XK} (h : sp_M_come K a b vs H Q E) : SelfAt (a.cls b) vs H := by
  obtain ⟨p, d, n, ss, x, w, rfl, S, _⟩ := h
  obtain ⟨dx, h1⟩ := S.ob
  exact ⟨_, _, _, _, rfl, h1⟩
theorem self_leave {K : PySem.W.Frag} {a : Ad} {b : Bool} {vs : List V} {H : Hp} {Q : VK} {E : XK} (h : sp_M_leave K a b vs H Q E) : SelfAt (a.cls b) vs H := by
  obtain ⟨p, d, n, ss, x, rfl, S, _⟩ := h
  obtain ⟨dx, h1⟩ := S.ob
  exact ⟨_, _, _, _, rfl, h1⟩
theorem self_where {K : PySem.W.Frag} {a : Ad} {b : Bool} {vs : List V} {H : Hp} {Q : VK} {E : XK} (h : sp_M_where K a b vs H Q E) : SelfAt (a.cls b) vs H := by
  obtain ⟨p, d, n, ss, x, rfl, S, _⟩ := h
  obtain ⟨dx, h1⟩ := S.ob
  exact ⟨_, _, _, _, rfl, h1⟩
theorem self_all_ships {K : PySem.W.Frag} {a : Ad} {b : Bool} {vs : List V} {H : Hp} {Q : VK} {E : XK} (h : sp_M_all_ships K a b vs H Q E) : SelfAt (a.cls b) vs H := by
  obtain ⟨p, d, n, ss, rfl, S, _⟩ := h
  obtain ⟨dx, h1⟩ := S.ob
  exact ⟨_, _, _, _, rfl, h1⟩
theorem self_free_ones {K : PySem.W.Frag} {a : Ad} {b : Bool} {vs : List V} {H : Hp} {Q : VK} {E : XK} (h : sp_M_free_ones K a b vs H Q E) : SelfAt (a.cls b) vs H := by
  obtain ⟨p, d, n, ss, rfl, S, _⟩ := h
  obtain ⟨dx, h1⟩ := S.ob
  exact ⟨_, _, _, _, rfl, h1⟩
theorem self_size {K : PySem.W.Frag} {a : Ad} {b : Bool} {vs : List V} {H : Hp} {Q : VK} {E : XK} (h : sp_M_size K a b vs H Q E) : SelfAt (a.cls b) vs H := by
  obtain ⟨p, d, n, ss, rfl, S, _⟩ := h
  obtain ⟨dx, h1⟩ := S.ob
  exact ⟨_, _, _, _, rfl, h1⟩

/-! ### the mathematics of a quay that is kept -/
def rngL (lo : Int) (k : Nat) : List Int := (List.range k).map fun (j : Nat) => lo + (j : Int)
theorem rngL_succ {lo : Int} {k : Nat} : rngL lo (k + 1) = lo :: rngL (lo + 1) k := by
  unfold rngL
  rw [List.range_succ_eq_map, List.map_cons, List.map_map]
  congr 1
  · simp
  · refine List.map_congr_left fun j _ => ?_
    show lo + ((j + 1 : Nat) : Int) = lo + 1 + (j : Int)
    omega
theorem rngL_split {lo : Int} {a b : Nat} : rngL lo (a + b) = rngL lo a ++ rngL (lo + a) b := by
  unfold rngL
  rw [List.range_add, List.map_append, List.map_map]
  congr 1
  refine List.map_congr_left fun j _ => ?_
  show lo + ((a + j : Nat) : Int) = lo + a + (j : Int)
  omega
theorem rngL_at {lo x : Int} {k i : Nat} (h : (rngL lo k)[i]? = some x) : x = lo + (i : Int) ∧ i < k := by
  unfold rngL at h
  obtain ⟨h1, h2⟩ := List.getElem?_eq_some_iff.mp h
  rw [List.getElem_map, List.getElem_range] at h2
  exact ⟨h2.symm, by simpa using h1⟩
theorem rngL_len {lo : Int} {k : Nat} : (rngL lo k).length = k := by simp [rngL]
/-- the berths in the order in which a ship looks at them -/
def wayL (b : Bool) (n : Nat) (w : Int) : List Int := rngL w ((n : Int) + 1 - w).toNat ++ (if b = true then rngL 1 (w - 1).toNat else [])
theorem ffr_way {occ : Int → Bool} : ∀ (k : Nat) (w : Int), ffr occ k w = (rngL w k).find? fun x => !occ x
  | 0, w => rfl
  | k + 1, w => by
    unfold ffr
    rw [rngL_succ, List.find?_cons, ← ffr_way k (w + 1)]
    cases e : occ w with
    | true => rw [if_pos rfl]; rfl
    | false => rw [if_neg Bool.false_ne_true]; rfl
theorem ffq_way {b : Bool} {n : Nat} {occ : Int → Bool} {w : Int} (h1 : 1 ≤ w) (h2 : w ≤ n) : ffq b n occ w = (wayL b n w).find? fun x => !occ x := by
  unfold ffq wayL
  cases b with
  | false =>
    rw [if_neg Bool.false_ne_true, if_neg Bool.false_ne_true, List.append_nil]
    exact ffr_way _ _
  | true =>
    rw [if_pos rfl, if_pos rfl, List.find?_append, ← ffr_way]
    show rfree n occ w = _
    unfold rfree
    have e0 : ffr occ ((n : Int) + 1 - w).toNat w = ffree n occ w := rfl
    rw [e0]
    cases e : ffree n occ w with
    | some c => rfl
    | none =>
      show ffree n occ 1 = _
      have es : ((n : Int) + 1 - 1).toNat = (w - 1).toNat + ((n : Int) + 1 - w).toNat := by omega
      have e2 : ffree n occ 1 = (rngL 1 ((n : Int) + 1 - 1).toNat).find? fun x => !occ x := ffr_way _ _
      rw [e2, es, rngL_split, List.find?_append]
      have ew : (1 : Int) + ((w - 1).toNat : Nat) = w := by omega
      rw [ew, ← ffr_way (((n : Int) + 1 - w).toNat), e0, e, Option.or_none]
      rfl
theorem way_pos {b : Bool} {n : Nat} {w x : Int} {k : Nat} (h1 : 1 ≤ w) (h2 : w ≤ n) (h : (wayL b n w)[k]? = some x) : (x - w) % n = k ∧ (b = false → w ≤ x) := by
  unfold wayL at h
  by_cases c : k < ((n : Int) + 1 - w).toNat
  · rw [List.getElem?_append_left (by rw [rngL_len]; exact c)] at h
    obtain ⟨e, _⟩ := rngL_at h
    refine ⟨?_, fun _ => by omega⟩
    rw [show x - w = (k : Int) by omega]
    exact Int.emod_eq_of_lt (by omega) (by omega)
  · rw [List.getElem?_append_right (by rw [rngL_len]; omega), rngL_len] at h
    cases b with
    | false =>
      rw [if_neg Bool.false_ne_true] at h
      cases h
    | true =>
      rw [if_pos rfl] at h
      obtain ⟨e, hk⟩ := rngL_at h
      refine ⟨?_, fun z => by cases z⟩
      have e2 : x - w = (k : Int) - n := by omega
      rw [e2, Int.sub_emod_right]
      exact Int.emod_eq_of_lt (by omega) (by omega)
theorem find_hole {occ : Int → Bool} {h l : Int} (hh : occ h = false) : ∀ {L : List Int}, L.find? (fun x => !setO occ h x) = some l → ∃ l', L.find? (fun x => !occ x) = some l' ∧ (l' = l ∨ (l' = h ∧ ∃ i j : Nat, i < j ∧ L[i]? = some h ∧ L[j]? = some l))
  | [], f => by cases f
  | x :: r, f => by
    rw [List.find?_cons] at f
    by_cases e : x = h
    · subst e
      have e1 : (!setO occ x x) = false := by simp [setO]
      rw [e1] at f
      refine ⟨_, by rw [List.find?_cons, hh]; rfl, .inr ⟨rfl, ?_⟩⟩
      obtain ⟨j, hj⟩ := List.getElem?_of_mem (List.mem_of_find?_eq_some f)
      exact ⟨0, j + 1, by omega, rfl, hj⟩
    · have e1 : setO occ h x = occ x := by simp [setO, e]
      rw [e1] at f
      cases o : occ x with
      | false =>
        rw [o] at f
        cases f
        exact ⟨_, by rw [List.find?_cons, o]; rfl, .inl rfl⟩
      | true =>
        rw [o] at f
        obtain ⟨l', f', k⟩ := find_hole hh f
        refine ⟨l', by rw [List.find?_cons, o]; exact f', ?_⟩
        rcases k with k | ⟨k, i, j, ij, h1, h2⟩
        · exact .inl k
        · exact .inr ⟨k, i + 1, j + 1, by omega, h1, h2⟩
/-- y is nearer to the wish w than x, on its way from there -/
def Near (b : Bool) (n : Nat) (w x y : Int) : Prop := (y - w) % n < (x - w) % n ∧ (b = false → w ≤ y)
theorem laid_snoc {b : Bool} {n : Nat} {ss : List Ship} {s : Ship} : Laid b n (ss ++ [s]) ↔ Laid b n ss ∧ ffq b n (occS ss) s.2.1 = some s.2.2 := by
  constructor
  · intro L
    refine ⟨fun i x hi => ?_, ?_⟩
    · have hl := (List.getElem?_eq_some_iff.mp hi).1
      have e := L i x (by rw [List.getElem?_append_left hl]; exact hi)
      rw [List.take_append_of_le_length (by omega)] at e
      exact e
    · have e := L ss.length s (by rw [List.getElem?_append_right (Nat.le_refl _), Nat.sub_self]; rfl)
      rw [List.take_left] at e
      exact e
  · rintro ⟨L, f⟩ i x hi
    by_cases c : i < ss.length
    · rw [List.getElem?_append_left c] at hi
      rw [List.take_append_of_le_length (by omega)]
      exact L i x hi
    · rw [List.getElem?_append_right (by omega)] at hi
      have c2 : i = ss.length := by
        have := (List.getElem?_eq_some_iff.mp hi).1
        simp at this
        omega
      subst c2
      rw [Nat.sub_self] at hi
      cases hi
      rw [List.take_left]
      exact f
theorem laid_nil {b : Bool} {n : Nat} : Laid b n [] := fun i s h => by cases h
theorem keys_snoc {ss : List Ship} {s : Ship} : keys (ss ++ [s]) = keys ss ++ [(s.1, s.2.1)] := by
  unfold keys
  rw [List.map_append]
  rfl
theorem snoc_at {α : Type} {l : List α} {x y : α} {i : Nat} (h : (l ++ [x])[i]? = some y) : (l[i]? = some y ∧ i < l.length) ∨ (i = l.length ∧ y = x) := by
  by_cases c : i < l.length
  · rw [List.getElem?_append_left c] at h
    exact .inl ⟨h, c⟩
  · rw [List.getElem?_append_right (by omega)] at h
    have := (List.getElem?_eq_some_iff.mp h).1
    simp at this
    have c2 : i = l.length := by omega
    subst c2
    rw [Nat.sub_self] at h
    cases h
    exact .inr ⟨rfl, rfl⟩
def NearAll (b : Bool) (n : Nat) (os ss : List Ship) : Prop := ∀ (i : Nat) (o s : Ship), os[i]? = some o → ss[i]? = some s → s.2.2 = o.2.2 ∨ Near b n o.2.1 o.2.2 s.2.2
theorem near_snoc {b : Bool} {n : Nat} {os ss : List Ship} {o s : Ship} (hl : ss.length = os.length) (h : NearAll b n os ss) (k : s.2.2 = o.2.2 ∨ Near b n o.2.1 o.2.2 s.2.2) : NearAll b n (os ++ [o]) (ss ++ [s]) := by
  intro i x y hx hy
  rcases snoc_at hx with ⟨hx, c⟩ | ⟨c, rfl⟩
  · rcases snoc_at hy with ⟨hy, _⟩ | ⟨c2, _⟩
    · exact h i x y hx hy
    · omega
  · rcases snoc_at hy with ⟨hy, c2⟩ | ⟨_, rfl⟩
    · omega
    · exact k
theorem relaid {b : Bool} {n : Nat} {t : Str} : ∀ ss : List Ship, Laid b n ss → (ss.map (·.1)).Nodup → (∀ s ∈ ss, 1 ≤ s.2.1 ∧ s.2.1 ≤ n) →
    ∃ ss', Laid b n ss' ∧ keys ss' = keys (others t ss) ∧ NearAll b n (others t ss) ss' ∧ ((t ∉ ss.map (·.1) ∧ occS ss = occS ss') ∨ (t ∈ ss.map (·.1) ∧ ∃ h, occS ss = setO (occS ss') h ∧ occS ss' h = false)) := by
  refine snoc_ind ?_ ?_
  · intro _ _ _
    exact ⟨[], laid_nil, rfl, fun i o s h => (by cases h), .inl ⟨fun z => (by cases z), rfl⟩⟩
  · intro ss s ih L nd rg
    rw [laid_snoc] at L
    obtain ⟨L, f⟩ := L
    rw [List.map_append, List.nodup_append] at nd
    obtain ⟨nd1, _, nd2⟩ := nd
    have hs : s.1 ∉ ss.map (·.1) := fun h => nd2 s.1 h s.1 (by simp) rfl
    obtain ⟨ss', L', hk, near, oc⟩ := ih L nd1 fun x hx => rg x (List.mem_append_left _ hx)
    have w := rg s (List.mem_append_right _ (List.mem_singleton.mpr rfl))
    have hl := keys_len hk
    obtain ⟨g1, g2, g3⟩ := ffq_rg f w.1
    by_cases z : s.1 = t
    · have eo : others t (ss ++ [s]) = others t ss := by
        unfold others
        rw [List.filter_append]
        simp [z]
      rw [eo]
      rcases oc with ⟨_, e⟩ | ⟨hm, _⟩
      · refine ⟨ss', L', hk, near, .inr ⟨by rw [List.map_append, List.mem_append]; exact .inr (by simp [z]), s.2.2, ?_, ?_⟩⟩
        · rw [occS_snoc, e]
        · rw [← e]
          exact g3
      · exact absurd (z ▸ hm) hs
    · have eo : others t (ss ++ [s]) = others t ss ++ [s] := by
        unfold others
        rw [List.filter_append]
        simp [z]
      have tin : t ∈ (ss ++ [s]).map (·.1) ↔ t ∈ ss.map (·.1) := by
        rw [List.map_append, List.mem_append]
        constructor
        · rintro (h | h)
          · exact h
          · simp at h
            exact absurd h.symm z
        · exact .inl
      rw [eo]
      rcases oc with ⟨ht, e⟩ | ⟨ht, h, e, hh⟩
      · refine ⟨ss' ++ [s], laid_snoc.mpr ⟨L', by rw [← e]; exact f⟩, by rw [keys_snoc, keys_snoc, hk], near_snoc hl near (.inl rfl), .inl ⟨fun q => ht (tin.mp q), by rw [occS_snoc, occS_snoc, e]⟩⟩
      · rw [ffq_way w.1 w.2, e] at f
        obtain ⟨l', f', k⟩ := find_hole hh f
        rw [← ffq_way w.1 w.2] at f'
        have ne : h ≠ s.2.2 := fun q => by
          rw [e, ← q] at g3
          simp [setO] at g3
        refine ⟨ss' ++ [(s.1, s.2.1, l')], laid_snoc.mpr ⟨L', f'⟩, by rw [keys_snoc, keys_snoc, hk], near_snoc hl near ?_, .inr ⟨tin.mpr ht, ?_⟩⟩
        · rcases k with k | ⟨k, i, j, ij, hi, hj⟩
          · exact .inl k
          · right
            obtain ⟨p1, p2⟩ := way_pos w.1 w.2 hi
            obtain ⟨q1, q2⟩ := way_pos w.1 w.2 hj
            show (l' - s.2.1) % n < (s.2.2 - s.2.1) % n ∧ (b = false → s.2.1 ≤ l')
            rw [k, p1, q1]
            exact ⟨by omega, p2⟩
        · rcases k with k | ⟨k, _⟩
          · refine ⟨h, ?_, ?_⟩
            · rw [occS_snoc, occS_snoc, e, setO_comm]
              show _ = setO (setO (occS ss') l') h
              rw [k]
            · rw [occS_snoc]
              show setO (occS ss') l' h = false
              rw [k]
              simp [setO, hh, ne]
          · refine ⟨s.2.2, ?_, ?_⟩
            · rw [occS_snoc, occS_snoc, e]
              show _ = setO (setO (occS ss') l') s.2.2
              rw [k]
            · rw [occS_snoc]
              show setO (occS ss') l' s.2.2 = false
              rw [k, ← e]
              exact g3
/-! two layings of the same line are one -/
theorem laid_one {b : Bool} {n : Nat} : ∀ (ss : List Ship) {ss' : List Ship}, Laid b n ss → Laid b n ss' → keys ss = keys ss' → ss = ss' := by
  refine snoc_ind ?_ ?_
  · intro ss' _ _ h
    have := keys_len h
    rw [List.length_nil] at this
    exact (List.length_eq_zero_iff.mp this.symm).symm
  · intro ss s ih ss' L L' h
    have hl := keys_len h
    rw [List.length_append] at hl
    have hne : ss' ≠ [] := fun z => by rw [z] at hl; simp at hl
    have e := List.dropLast_concat_getLast hne
    generalize ss'.dropLast = r at e
    generalize ss'.getLast hne = x at e
    subst e
    rw [laid_snoc] at L L'
    rw [keys_snoc, keys_snoc] at h
    obtain ⟨h1, h2⟩ := List.append_inj' h rfl
    have e1 := ih L.1 L'.1 h1
    subst e1
    obtain ⟨x1, x2, x3⟩ := x
    obtain ⟨s1, s2, s3⟩ := s
    have e2 := (List.cons.inj h2).1
    simp only [Prod.mk.injEq] at e2
    have f1 := L.2
    have f2 := L'.2
    simp only at f1 f2
    rw [← e2.2, f1] at f2
    cases f2
    rw [e2.1, e2.2]

/-! ### mixed numbers, an order of so many -/
def sp_l_mix (K : PySem.W.Frag) : Sp := fun vs H Q _ => ∃ (p : Addr) (st c : Int), vs = [.ref p, .int c] ∧ H p = some (.lst [.int st]) ∧ 0 ≤ st ∧ st < 2147483647 ∧ ∀ st' r : Int, 0 ≤ st' → st' < 2147483647 → 0 ≤ r → r < 2147483647 → Q (.int r) (upd H p (.lst [.int st']))
abbrev N_l_mix : List Str := ["_law_state", "_law_cell"]
def t_l_mix (K : PySem.W.Frag) (a : Ad) : TS :=
  (tSeq (tAsg (tOp rModI (tOp rAddI (tOp rAddI (tOp rMulI (tOp (rIxL K) (tVar 0) (tC (.int 0))) (tC (.int 48271))) (tOp rMulI (tVar 1) (tC (.int 16807)))) (tC (.int 11))) (tC (.int 2147483647))) (gSub (tVar 0) (tC (.int 0)) rSetL))
    (tRet (tOp rDivI (tOp rModI (tOp rMulI (tOp (rIxL K) (tVar 0) (tC (.int 0))) (tOp (rIxL K) (tVar 0) (tC (.int 0)))) (tC (.int 2147483647))) (tC (.int 5)))))
theorem len_l_mix {K : PySem.W.Frag} {vs : List V} {H : Hp} {Q : VK} {E : XK} (h : sp_l_mix K vs H Q E) : vs.length = 2 := by
  obtain ⟨p, st, c, rfl, _⟩ := h
  rfl
theorem d5 {n : Int} : CDiv n 5 := ⟨by decide, by decide⟩
theorem pmix : (0 : Int) < 2147483647 := by decide
theorem pu_l_mix {K : PySem.W.Frag} {a : Ad} {vs : List V} {H : Hp} {Q : VK} {E : XK} (h : sp_l_mix K vs H Q E) : t_l_mix K a { nx := fun _ H' => Q .non H', rt := Q } (start N_l_mix vs) H := by
  obtain ⟨p, st, c, rfl, hp, h0, h1, q⟩ := h
  refine ⟨.ref p, rfl, p, _, 0, .int st, rfl, rfl, sqL_of hp, atI_nat (j := 0) rfl, st, 48271, rfl, rfl, .inr ⟨by decide, by decide⟩, .int c, rfl, c, 16807, rfl, rfl, .inr ⟨by decide, by decide⟩, _, _, rfl, rfl, _, 11, rfl, rfl, _, 2147483647, rfl, rfl, pmix, .ref p, rfl, p, _, 0, 0, rfl, rfl, hp, rfl, ?_⟩
  have b1 := Int.emod_nonneg (st * 48271 + c * 16807 + 11) (show (2147483647 : Int) ≠ 0 by decide)
  have b2 := Int.emod_lt_of_pos (st * 48271 + c * 16807 + 11) pmix
  refine ⟨.ref p, rfl, p, _, 0, .int ((st * 48271 + c * 16807 + 11) % 2147483647), rfl, rfl, sqL_of upd_same, atI_nat (j := 0) rfl, .ref p, rfl, p, _, 0, .int ((st * 48271 + c * 16807 + 11) % 2147483647), rfl, rfl, sqL_of upd_same, atI_nat (j := 0) rfl, _, _, rfl, rfl, .inl ⟨by omega, by omega⟩, _, 2147483647, rfl, rfl, pmix, _, 5, rfl, rfl, d5, ?_⟩
  have c1 := Int.emod_nonneg (((st * 48271 + c * 16807 + 11) % 2147483647) * ((st * 48271 + c * 16807 + 11) % 2147483647)) (show (2147483647 : Int) ≠ 0 by decide)
  have c2 := Int.emod_lt_of_pos (((st * 48271 + c * 16807 + 11) % 2147483647) * ((st * 48271 + c * 16807 + 11) % 2147483647)) pmix
  generalize (((st * 48271 + c * 16807 + 11) % 2147483647) * ((st * 48271 + c * 16807 + 11) % 2147483647)) % 2147483647 = u at c1 c2
  exact q _ _ b1 b2 (by omega) (by omega)
theorem rg_upTo {m : Nat} : rgV 0 (m : Int) = (upTo 0 m).map V.int := by
  unfold rgV upTo
  rw [List.map_map]
  have e : ((m : Int) - 0).toNat = m := by omega
  rw [e]
  rfl
theorem pop_perm {l : List Int} {k : Nat} {y : Int} (h : l[k]? = some y) : (y :: l.eraseIdx k).Perm l := by
  induction l generalizing k with
  | nil => simp at h
  | cons x r ih =>
    cases k with
    | zero =>
      cases h
      exact List.Perm.refl _
    | succ k => exact (List.Perm.swap x y _).trans ((ih (k := k) (by simpa using h)).cons x)
/-! ### the law's own laying of a line -/
def isIntV : V → Bool
  | .int _ => true
  | _ => false
def TySm (x : V) : Prop := (∃ i, x = .int i) ∨ (∃ b, x = .bl b) ∨ x = .non
def sp_l_whole (K : PySem.W.Frag) : Sp := fun vs H Q _ => ∃ x, vs = [x] ∧ TySm x ∧ Q (.bl (isIntV x)) H
abbrev N_l_whole : List Str := ["_law_found"]
def t_l_whole (K : PySem.W.Frag) (a : Ad) : TS :=
  (tRet (tAndV (tCB (rIsi K) (tCons (tVar 0) (tCons (tC (.ty "int")) tNil))) (tNotV (tCB (rIsi K) (tCons (tVar 0) (tCons (tC (.ty "bool")) tNil))))))
theorem len_l_whole {K : PySem.W.Frag} {vs : List V} {H : Hp} {Q : VK} {E : XK} (h : sp_l_whole K vs H Q E) : vs.length = 1 := by
  obtain ⟨i, rfl, _⟩ := h
  rfl
theorem kit_ii {K : PySem.W.Frag} : PySem.W.kitOne K (.type "int") (.type "int") = some true := kit_ty (by decide +kernel)
theorem kit_ib {K : PySem.W.Frag} : PySem.W.kitOne K (.type "int") (.type "bool") = some false := kit_ty (by decide +kernel)
theorem kit_bi {K : PySem.W.Frag} : PySem.W.kitOne K (.type "bool") (.type "int") = some true := kit_ty (by decide +kernel)
theorem kit_bb {K : PySem.W.Frag} : PySem.W.kitOne K (.type "bool") (.type "bool") = some true := kit_ty (by decide +kernel)
theorem kit_ni {K : PySem.W.Frag} : PySem.W.kitOne K (.type "NoneType") (.type "int") = some false := kit_ty (by decide +kernel)
theorem kit_ll {K : PySem.W.Frag} : PySem.W.kitOne K (.type "list") (.type "list") = some true := kit_ty (by decide +kernel)
theorem pu_l_whole {K : PySem.W.Frag} {a : Ad} {vs : List V} {H : Hp} {Q : VK} {E : XK} (h : sp_l_whole K vs H Q E) : t_l_whole K a { nx := fun _ H' => Q .non H', rt := Q } (start N_l_whole vs) H := by
  obtain ⟨x, rfl, ty, q⟩ := h
  rcases ty with ⟨i, rfl⟩ | ⟨b, rfl⟩ | rfl
  · exact ⟨.int i, rfl, .int i, _, _, _, true, rfl, .ty _, .base (.int i), kit_ii, true, rfl, iteT ⟨.int i, rfl, .int i, _, _, _, false, rfl, .ty _, .base (.int i), kit_ib, false, rfl, q⟩⟩
  · exact ⟨.bl b, rfl, .bl b, _, _, _, true, rfl, .ty _, .base (.bl b), kit_bi, true, rfl, iteT ⟨.bl b, rfl, .bl b, _, _, _, true, rfl, .ty _, .base (.bl b), kit_bb, true, rfl, q⟩⟩
  · exact ⟨.non, rfl, .non, _, _, _, false, rfl, .ty _, .base .non, kit_ni, false, rfl, iteF q⟩
def PrAt (K : PySem.W.Frag) (H : Hp) : List V → List (Str × Int) → Prop := Paired fun v p => ∃ t, v = .ref t ∧ SqT K H t [.str p.1, .int p.2]
theorem PrAt.same {K : PySem.W.Frag} {H H' : Hp} {vs : List V} {l : List (Str × Int)} (h : PrAt K H vs l) (s : Same H H') : PrAt K H' vs l := pd_imp h fun _ _ ⟨t, q, r⟩ => ⟨t, q, s.seqT r⟩
theorem PrAt.tk {K : PySem.W.Frag} {H H' : Hp} {vs : List V} {l : List (Str × Int)} (h : PrAt K H vs l) (s : TKeep H H') : PrAt K H' vs l := pd_imp h fun _ _ ⟨t, q, r⟩ => ⟨t, q, seqT_tk s r⟩
/-- a line of names and wishes stands at l -/
def LnAt (K : PySem.W.Frag) (H : Hp) (l : Addr) (line : List (Str × Int)) : Prop := ∃ rs, H l = some (.lst rs) ∧ PrAt K H rs line
theorem LnAt.same {K : PySem.W.Frag} {H H' : Hp} {l : Addr} {line : List (Str × Int)} (h : LnAt K H l line) (s : Same H H') : LnAt K H' l line := by
  obtain ⟨rs, e, p⟩ := h
  exact ⟨rs, s _ _ e, p.same s⟩
structure LineOk (n : Nat) (line : List (Str × Int)) : Prop where
  n1 : 1 ≤ n ∧ n ≤ 400
  rg : ∀ p ∈ line, 1 ≤ p.2 ∧ p.2 ≤ n
  nd : (line.map (·.1)).Nodup
  ln : line.length ≤ 500
def hdL (ss : List Ship) : List (Key × V) := ss.map fun s => (Sum.inr s.1, V.int s.2.2)
def sp_l_lying (K : PySem.W.Frag) (a : Ad) : Sp := fun vs H Q _ => ∃ (n : Nat) (b : Bool) (l : Addr) (line : List (Str × Int)), vs = [.int n, .bl b, .ref l] ∧ LnAt K H l line ∧ LineOk n line ∧ ∃ (ss : List Ship) (tl : List (Str × Int)), Laid b n ss ∧ line = keys ss ++ tl ∧
  ((tl = [] ∧ ∀ (d : Addr) (H' : Hp), H d = none → Same H H' → H' d = some (.dK (hdL ss)) → Q (.ref d) H') ∨ ∃ (nm : Str) (w : Int) (r : List (Str × Int)), tl = (nm, w) :: r ∧ ffq b n (occS ss) w = none ∧ ∀ H', Same H H' → Q .non H')
abbrev N_l_lying : List Str := ["_law_berths", "_law_around", "_law_line", "_law_held", "_law_name", "_law_wish", "_law_way", "_law_free", "_law_berth"]
def t_l_lying (K : PySem.W.Frag) (a : Ad) : TS :=
  (tSeq (tAsg tDNewK (gName 3))
    (tSeq (tFor (iList K (tVar 2)) (gTup K 2 (gCons (gName 4) (gCons (gName 5) gNil)))
    (tSeq (tAsg (tLstRg (tRg2 (tVar 5) (tOp rAddI (tVar 0) (tC (.int 1))))) (gName 6))
    (tSeq (tIfS (tB (tVar 1)) (tAsg (tOp rCat (tVar 6) (tLstRg (tRg2 (tC (.int 1)) (tVar 5)))) (gName 6)) tNext)
    (tSeq (tAsg (tLc (iList K (tVar 6)) (gName 8) (tB (tInVals true (tVar 8) (tVar 3))) (tVar 8) [8]) (gName 7))
    (tSeq (tIfS (tTest (tOp (rEqT K) (tVar 7) (tLst tNil))) (tRet (tC .non)) tNext)
    (tAsg (tOp (rIxL K) (tVar 7) (tC (.int 0))) (gSub (tVar 3) (tVar 4) rSetD)))))))
    (tRet (tVar 3))))
theorem len_l_lying {K : PySem.W.Frag} {a : Ad} {vs : List V} {H : Hp} {Q : VK} {E : XK} (h : sp_l_lying K a vs H Q E) : vs.length = 3 := by
  obtain ⟨n, b, l, line, rfl, _⟩ := h
  rfl
theorem rgV_rngL {x y : Int} : rgV x y = (rngL x (y - x).toNat).map V.int := by
  unfold rgV rngL
  rw [List.map_map]
  rfl
theorem hdL_vals {ss : List Ship} : (hdL ss).map (·.2) = (ss.map (·.2.2)).map V.int := by
  unfold hdL
  rw [List.map_map, List.map_map]
  rfl
theorem hdL_new {ss : List Ship} {nm : Str} (h : nm ∉ ss.map (·.1)) : valV (hdL ss) (Sum.inr nm : Key) = none := by
  unfold valV hdL
  rw [Option.map_eq_none_iff, List.find?_eq_none]
  intro kv hkv
  obtain ⟨s, hs, rfl⟩ := List.mem_map.mp hkv
  intro q
  have e : (Sum.inr s.1 : Key) = Sum.inr nm := by simpa using q
  exact h (by rw [← Sum.inr.inj e]; exact List.mem_map_of_mem hs)
theorem hdL_old {ss : List Ship} {s : Ship} (nd : (ss.map (·.1)).Nodup) (h : s ∈ ss) : valV (hdL ss) (Sum.inr s.1 : Key) = some (.int s.2.2) := by
  induction ss with
  | nil => cases h
  | cons x r ih =>
    unfold valV hdL
    rw [List.map_cons, List.find?_cons]
    rw [List.map_cons, List.nodup_cons] at nd
    by_cases z : x.1 = s.1
    · have : x = s := by
        rcases List.mem_cons.mp h with q | q
        · exact q.symm
        · exact absurd (z ▸ List.mem_map_of_mem q) nd.1
      subst this
      simp
    · have h' : s ∈ r := by
        rcases List.mem_cons.mp h with q | q
        · exact absurd (by rw [q]) z
        · exact q
      have : ¬ (Sum.inr x.1 : Key) = Sum.inr s.1 := fun q => z (Sum.inr.inj q)
      have e := ih nd.2 h'
      unfold valV hdL at e
      simp only [this, decide_false]
      exact e
theorem occ_mem {ss : List Ship} {x : Int} : decide (x ∈ ss.map (·.2.2)) = occS ss x := by
  unfold occS
  rw [Bool.eq_iff_iff, decide_eq_true_eq, List.any_eq_true, List.mem_map]
  constructor
  · rintro ⟨s, h, e⟩
    exact ⟨s, h, by simpa using e⟩
  · rintro ⟨s, h, e⟩
    exact ⟨s, h, by simpa using e⟩
theorem hdL_len {ss : List Ship} : (hdL ss).length = ss.length := by simp [hdL]
theorem way_len {b : Bool} {n : Nat} {w : Int} (h1 : 1 ≤ w) (h2 : w ≤ n) (hn : n ≤ 400) : (wayL b n w).length ≤ 400 := by
  unfold wayL
  rw [List.length_append, rngL_len]
  cases b with
  | false => simp; omega
  | true => rw [if_pos rfl, rngL_len]; omega
theorem pu_l_lying {K : PySem.W.Frag} {a : Ad} {vs : List V} {H : Hp} {Q : VK} {E : XK} (h : sp_l_lying K a vs H Q E) : t_l_lying K a { nx := fun _ H' => Q .non H', rt := Q } (start N_l_lying vs) H := by
  obtain ⟨n, b, l, line, rfl, ⟨rs, el, pr⟩, ok, ss, tl, L, hline, h⟩ := h
  have hn := ok.n1
  have hks : (keys ss).length = ss.length := by simp [keys]
  have hll : line.length = ss.length + tl.length := by rw [hline, List.length_append, hks]
  intro d nd
  have s0 : Same H (upd H d (.dK [])) := same_new nd
  refine ⟨_, rfl, l, rfl, ⟨_, sqL_of (s0 _ _ el)⟩, for_list (K := K) (a := l) (xs := rs) (fun i σ H' => i ≤ ss.length ∧ (∃ y4 y5 y6 y7 y8, σ = [some (.int n), some (.bl b), some (.ref l), some (.ref d), y4, y5, y6, y7, y8]) ∧ Same H H' ∧ H' d = some (.dK (hdL (ss.take i))))
    ⟨Nat.zero_le _, ⟨none, none, none, none, none, rfl⟩, s0, upd_same⟩ (fun i σ H' _ h => sqL_of (h.2.2.1 _ _ el)) ?_ ?_⟩
  · rintro i v σ H1 hi ⟨hle, ⟨y4, y5, y6, y7, y8, rfl⟩, s1, ed⟩
    obtain ⟨⟨nm, w⟩, hp, t, ev, ht⟩ := pd_get pr hi
    subst ev
    have rg := ok.rg _ (List.mem_of_getElem? hp)
    replace rg : 1 ≤ w ∧ w ≤ n := rg
    refine ⟨t, _, rfl, s1.seqT ht, rfl, _, _, rfl, _, _, rfl, rfl, ?_⟩
    refine ⟨_, rfl, _, rfl, _, 1, rfl, rfl, w, (n : Int) + 1, rfl, rfl, ⟨by omega, by omega, by omega, by omega, by omega⟩, fun q0 nq0 => ?_⟩
    rw [rgV_rngL]
    -- the way round
    suffices rest : ∀ (wl : Addr) (H2 : Hp), Same H1 H2 → H2 wl = some (.lst ((wayL b n w).map V.int)) → (tSeq (tAsg (tLc (iList K (tVar 6)) (gName 8) (tB (tInVals true (tVar 8) (tVar 3))) (tVar 8) [8]) (gName 7))
        (tSeq (tIfS (tTest (tOp (rEqT K) (tVar 7) (tLst tNil))) (tRet (tC .non)) tNext) (tAsg (tOp (rIxL K) (tVar 7) (tC (.int 0))) (gSub (tVar 3) (tVar 4) rSetD))))
        { nx := fun σ H' => i + 1 ≤ ss.length ∧ (∃ y4 y5 y6 y7 y8, σ = [some (.int n), some (.bl b), some (.ref l), some (.ref d), y4, y5, y6, y7, y8]) ∧ Same H H' ∧ H' d = some (.dK (hdL (ss.take (i + 1)))), rt := Q, bk := fun σ H' => tRet (tVar 3) { nx := fun _ H' => Q .non H', rt := Q } σ H',
          ct := fun σ H' => i + 1 ≤ ss.length ∧ (∃ y4 y5 y6 y7 y8, σ = [some (.int n), some (.bl b), some (.ref l), some (.ref d), y4, y5, y6, y7, y8]) ∧ Same H H' ∧ H' d = some (.dK (hdL (ss.take (i + 1)))) }
        [some (.int n), some (.bl b), some (.ref l), some (.ref d), some (.str nm), some (.int w), some (.ref wl), y7, y8] H2 by
      cases b with
      | false =>
        refine ⟨.bl false, rfl, false, rfl, iteF (rest q0 _ (same_new nq0) ?_)⟩
        rw [upd_same]
        unfold wayL
        rw [if_neg Bool.false_ne_true, List.append_nil]
      | true =>
        refine ⟨.bl true, rfl, true, rfl, iteT ⟨_, rfl, .int w, rfl, 1, w, rfl, rfl, ⟨by omega, by omega, by omega, by omega, by omega⟩, fun q1 nq1 => ?_⟩⟩
        rw [rgV_rngL]
        have n01 : q0 ≠ q1 := ne_of_none upd_same nq1
        refine ⟨q0, q1, _, _, rfl, rfl, (by rw [upd_ne n01]; exact upd_same), upd_same, ?_, fun q2 nq2 => ?_⟩
        · rw [List.length_map, List.length_map, rngL_len, rngL_len]
          exact l1000 (by omega)
        · refine rest q2 _ (((same_new nq0).trans (same_new nq1)).trans (same_new nq2)) ?_
          rw [upd_same]
          unfold wayL
          rw [if_pos rfl, List.map_append]
    intro wl H2 s2 ew
    have s02 := s1.trans s2
    have ed2 := s2 _ _ ed
    have hwl := way_len (b := b) rg.1 rg.2 hn.2
    refine ⟨.ref wl, rfl, wl, rfl, ⟨_, sqL_of ew⟩, ?_⟩
    refine lc_pure (Qd := fun D H' => _) (walk_list (K := K) (a := wl)) (by rw [List.length_map]; exact small1000 (by omega)) (wayL b n w) (by rw [List.length_map]) (fun x => !occS (ss.take i) x) V.int (fun H' s' => s'.seq (sqL_of ew)) ?_ ?_
    · intro j x v H5 H6 R hx s5 hy k
      obtain ⟨rfl, hv⟩ := hy
      rw [List.getElem?_map, hx] at hv
      cases hv
      refine ⟨rfl, _, rfl, _, rfl, d, _, _, x, rfl, rfl, s5 _ _ ed2, hdL_vals, _, rfl, ?_⟩
      rw [if_pos rfl, occ_mem]
      have kk := k (.int x) _ (Same.refl _) fun _ => rfl
      cases e : occS (ss.take i) x with
      | false =>
        rw [e] at kk
        exact iteT ⟨.int x, rfl, kk⟩
      | true =>
        have kk := k .non _ (Same.refl _) fun z => by rw [e] at z; cases z
        rw [e] at kk
        exact iteF kk
    · intro D H3 nD s3 eD
      have hline2 : line[i]? = some (nm, w) := hp
      have s03 := s02.trans s3
      refine ⟨_, rfl, Nat.zero_le _, fun E0 nE0 => ?_⟩
      have s4 : Same H3 (upd H3 E0 (.lst [])) := same_new nE0
      refine eqT_of (ho_ints (sqL_of (s4 _ _ eD))) (ho_ints (ns := []) (sqL_of upd_same)) (by decide) ?_
      have hff := ffq_way (b := b) (occ := occS (ss.take i)) rg.1 rg.2
      have hhead : ((wayL b n w).filter fun x => !occS (ss.take i) x).head? = ffq b n (occS (ss.take i)) w := by rw [hff, List.head?_filter]
      by_cases c : i < ss.length
      · have hs : ss[i]? = some ss[i] := List.getElem?_eq_getElem c
        have ek : (keys ss)[i]? = some (ss[i].1, ss[i].2.1) := by
          unfold keys
          rw [List.getElem?_map, hs]
          rfl
        have e3 : line[i]? = some (ss[i].1, ss[i].2.1) := by
          rw [hline, List.getElem?_append_left (by omega)]
          exact ek
        rw [hline2] at e3
        have e4 := Option.some.inj e3
        simp only [Prod.mk.injEq] at e4
        have ff := L i _ hs
        rw [← e4.2] at ff
        rw [ff] at hhead
        cases hfl : (wayL b n w).filter fun x => !occS (ss.take i) x with
        | nil => rw [hfl] at hhead; cases hhead
        | cons x r =>
          rw [hfl] at hhead eD
          have ex : x = ss[i].2.2 := Option.some.inj hhead
          subst ex
          refine ⟨_, rfl, iteF ?_⟩
          refine ⟨_, rfl, D, _, 0, _, rfl, rfl, sqL_of (s4 _ _ eD), atI_nat (j := 0) rfl, _, rfl, _, rfl, d, _, rfl, DPut.k (k := Sum.inr nm) (s4 _ _ (s3 _ _ ed2)) ?_, ?_⟩
          · rw [hdL_len, List.length_take]
            have := ok.ln
            exact small1000 (by omega)
          · have hnew : nm ∉ (ss.take i).map (·.1) := by
              intro hm
              have e5 : (ss.take i).map (·.1) = (line.take i).map (·.1) := by
                rw [hline, List.take_append_of_le_length (by omega)]
                unfold keys
                rw [List.map_take, List.map_take, List.map_map]
                rfl
              rw [e5] at hm
              have nd2 := ok.nd
              have e6 : line = line.take i ++ line.drop i := (List.take_append_drop i line).symm
              rw [e6, List.map_append, List.nodup_append] at nd2
              have hlt := (List.getElem?_eq_some_iff.mp hline2).1
              have e7 : nm ∈ (line.drop i).map (·.1) := by
                rw [List.drop_eq_getElem_cons hlt, List.map_cons]
                have : line[i] = (nm, w) := (List.getElem?_eq_some_iff.mp hline2).2
                rw [this]
                exact List.mem_cons_self
              exact nd2.2.2 nm hm nm e7 rfl
            rw [putK_new _ (hdL_new hnew)]
            refine ⟨c, ⟨_, _, _, _, _, rfl⟩, (s03.trans s4).store nd, ?_⟩
            rw [upd_same, take_more hs]
            unfold hdL
            rw [List.map_append, e4.1]
            rfl
      · have ei : i = ss.length := by omega
        have etl : tl[0]? = some (nm, w) := by
          rw [← hline2, hline, List.getElem?_append_right (by omega), hks, ei, Nat.sub_self]
        rcases h with ⟨e, _⟩ | ⟨nm2, w2, r, e, ff, q⟩
        · rw [e] at etl
          cases etl
        · rw [e] at etl
          have e8 := Option.some.inj etl
          simp only [Prod.mk.injEq] at e8
          rw [← e8.2] at hhead
          have et : ss.take i = ss := by rw [ei, List.take_length]
          rw [et, ff] at hhead
          have hnil : (wayL b n w2).filter (fun x => !occS ss x) = [] := by
            cases hfl : (wayL b n w2).filter (fun x => !occS ss x) with
            | nil => rfl
            | cons x r => rw [hfl] at hhead; cases hhead
          rw [et, ← e8.2, hnil]
          exact ⟨_, rfl, iteT (q _ (s03.trans s4))⟩
  · rintro σ H1 ⟨hle, ⟨y4, y5, y6, y7, y8, rfl⟩, s1, ed⟩
    have hrl := pd_len pr
    have e0 : tl.length = 0 := by omega
    have e1 : tl = [] := List.length_eq_zero_iff.mp e0
    rw [hrl, hll, e0, Nat.add_zero, List.take_length] at ed
    rcases h with ⟨_, q⟩ | ⟨nm, w, r, e, _⟩
    · exact ⟨_, rfl, q d H1 nd s1 ed⟩
    · rw [e] at e1
      cases e1

/-! ### what a deed on the kept quay tells: an answer, or the word of a refusal -/
inductive Rk where
  | name | taken | wish | room | ship
  deriving DecidableEq
def clsK (a : Ad) : Rk → Addr
  | .name => a.e_NoName
  | .taken => a.e_Taken
  | .wish => a.e_NoWish
  | .room => a.e_NoRoom
  | .ship => a.e_NoShip
def wordK : Rk → Str
  | .name => Str.ofString "name"
  | .taken => Str.ofString "taken"
  | .wish => Str.ofString "wish"
  | .room => Str.ofString "room"
  | .ship => Str.ofString "ship"
structure RefK (K : PySem.W.Frag) (a : Ad) (k : Rk) : Prop where
  ex : PySem.W.exmOne K (.ref (clsK a k)) (.ref a.e_BerthError) = some true
  c : ExcC K (clsK a k)
  n1 : PySem.W.kitOne K (.ref (clsK a k)) (.ref a.e_NoCount) = some false
  n2 : PySem.W.kitOne K (.ref (clsK a k)) (.ref a.e_NoOrder) = some false
  n3 : PySem.W.kitOne K (.ref (clsK a k)) (.ref a.e_NoQuay) = some false
  n4 : PySem.W.kitOne K (.ref (clsK a k)) (.ref a.e_NoText) = some false
  n5 : PySem.W.kitOne K (.ref (clsK a k)) (.ref a.e_NoTree) = some false
  n6 : PySem.W.kitOne K (.ref (clsK a k)) (.ref a.e_NoWishes) = some false
  n7 : PySem.W.kitOne K (.ref (clsK a k)) (.ref a.e_TooMany) = some false
  o : ∀ k', PySem.W.kitOne K (.ref (clsK a k)) (.ref (clsK a k')) = some (decide (k' = k))
theorem kitF3 {K : PySem.W.Frag} {t c1 c2 c3 : Value} (h1 : PySem.W.kitOne K t c1 = some false) (h2 : PySem.W.kitOne K t c2 = some false) (h3 : PySem.W.kitOne K t c3 = some false) : PySem.W.kitAny K t [c1, c2, c3] = some false :=
  kitAny_cons h1 (fun _ => kitAny_cons h2 (fun _ => kitAny_cons h3 (fun _ => rfl) (fun z => by cases z)) (fun z => by cases z)) (fun z => by cases z)
theorem kitF2 {K : PySem.W.Frag} {t c1 c2 : Value} (h1 : PySem.W.kitOne K t c1 = some false) (h2 : PySem.W.kitOne K t c2 = some false) : PySem.W.kitAny K t [c1, c2] = some false :=
  kitAny_cons h1 (fun _ => kitAny_cons h2 (fun _ => rfl) (fun z => by cases z)) (fun z => by cases z)
def sp_l_words (K : PySem.W.Frag) (a : Ad) : Sp := fun vs H Q _ => ∃ (x : Addr) (k : Rk), vs = [.ref x] ∧ H x = some (ExK (.ref (clsK a k)) none x) ∧ ∀ H', Same H H' → Q (.str (wordK k)) H'
abbrev N_l_words : List Str := ["_law_e", "_law_some"]
def t_l_words (K : PySem.W.Frag) (a : Ad) : TS :=
  (tSeq (tIfS (tOr (tB (tCB (rIsiTE K) (tCons (tVar 0) (tCons (tTup (tCons (tC (.ref a.e_NoCount)) (tCons (tC (.ref a.e_NoOrder)) (tCons (tC (.ref a.e_NoQuay)) tNil)))) tNil)))) (tB (tCB (rIsiTE K) (tCons (tVar 0) (tCons (tTup (tCons (tC (.ref a.e_NoText)) (tCons (tC (.ref a.e_NoTree)) tNil))) tNil))))) (tRet (tC (.str (Str.ofString "other")))) tNext)
    (tSeq (tIfS (tB (tCB (rIsiTE K) (tCons (tVar 0) (tCons (tTup (tCons (tC (.ref a.e_NoWishes)) (tCons (tC (.ref a.e_TooMany)) tNil))) tNil)))) (tRet (tC (.str (Str.ofString "other")))) tNext)
    (tSeq (tAsg (tLst tNil) (gName 1))
    (tSeq (tIfS (tB (tCB (rIsiE K) (tCons (tVar 0) (tCons (tC (.ref a.e_NoName)) tNil)))) (tDrop (tBM K "list" rAppend (tVar 1) (tCons (tC (.str (Str.ofString "name"))) tNil))) tNext)
    (tSeq (tIfS (tB (tCB (rIsiE K) (tCons (tVar 0) (tCons (tC (.ref a.e_Taken)) tNil)))) (tDrop (tBM K "list" rAppend (tVar 1) (tCons (tC (.str (Str.ofString "taken"))) tNil))) tNext)
    (tSeq (tIfS (tB (tCB (rIsiE K) (tCons (tVar 0) (tCons (tC (.ref a.e_NoWish)) tNil)))) (tDrop (tBM K "list" rAppend (tVar 1) (tCons (tC (.str (Str.ofString "wish"))) tNil))) tNext)
    (tSeq (tIfS (tB (tCB (rIsiE K) (tCons (tVar 0) (tCons (tC (.ref a.e_NoRoom)) tNil)))) (tDrop (tBM K "list" rAppend (tVar 1) (tCons (tC (.str (Str.ofString "room"))) tNil))) tNext)
    (tSeq (tIfS (tB (tCB (rIsiE K) (tCons (tVar 0) (tCons (tC (.ref a.e_NoShip)) tNil)))) (tDrop (tBM K "list" rAppend (tVar 1) (tCons (tC (.str (Str.ofString "ship"))) tNil))) tNext)
    (tRet (tJoin K (tC (.str (Str.ofString " "))) (tVar 1)))))))))))
theorem len_l_words {K : PySem.W.Frag} {a : Ad} {vs : List V} {H : Hp} {Q : VK} {E : XK} (h : sp_l_words K a vs H Q E) : vs.length = 1 := by
  obtain ⟨x, k, rfl, _⟩ := h
  rfl
theorem word_step {K : PySem.W.Frag} {a : Ad} {k k' : Rk} {x l : Addr} {wd : Str} {ws : List Str} {rest : TS} {D : Ends} {H : Hp} (F : RefK K a k) (ex : H x = some (ExK (.ref (clsK a k)) none x)) (el : H l = some (.lst (ws.map V.str))) (hl : ws.length ≤ 10) (hx : x ≠ l)
    (kk : ∀ H', H' x = some (ExK (.ref (clsK a k)) none x) → H' l = some (.lst ((ws ++ if k' = k then [wd] else []).map V.str)) → (∀ c o, H c = some o → c ≠ l → H' c = some o) → rest D [some (.ref x), some (.ref l)] H') :
    (tSeq (tIfS (tB (tCB (rIsiE K) (tCons (tVar 0) (tCons (tC (.ref (clsK a k'))) tNil)))) (tDrop (tBM K "list" rAppend (tVar 1) (tCons (tC (.str wd)) tNil))) tNext) rest) D [some (.ref x), some (.ref l)] H := by
  refine ⟨.ref x, rfl, .ref x, _, _, _, decide (k' = k), rfl, .own _, .exc ex F.c, F.o k', _, rfl, ?_⟩
  by_cases z : k' = k
  · rw [decide_eq_true z]
    refine iteT ⟨.ref l, rfl, .inl ⟨rfl, _, sqL_of el⟩, l, _, _, rfl, rfl, el, ?_, ?_⟩
    · rw [List.length_map]
      exact small1000 (by omega)
    · refine kk _ (by rw [upd_ne hx]; exact ex) ?_ fun c o e ne => by rw [upd_ne ne]; exact e
      rw [upd_same, if_pos z, List.map_append]
      rfl
  · rw [decide_eq_false z]
    refine iteF (kk H ex ?_ fun c o e _ => e)
    rw [if_neg z, List.append_nil]
    exact el
theorem pu_l_words {K : PySem.W.Frag} {a : Ad} (F : ∀ k, RefK K a k) {vs : List V} {H : Hp} {Q : VK} {E : XK} (h : sp_l_words K a vs H Q E) : t_l_words K a { nx := fun _ H' => Q .non H', rt := Q } (start N_l_words vs) H := by
  obtain ⟨x, k, rfl, ex, q⟩ := h
  have G := F k
  refine ⟨_, rfl, (by show 3 ≤ sizeLine; decide), fun t1 n1 => ⟨.ref x, t1, _, _, _, false, rfl, upd_same, .cons (.own _) (.cons (.own _) (.cons (.own _) .nil)), .exc (same_new n1 _ _ ex) G.c, kitF3 G.n1 G.n2 G.n3, false, rfl, ?_⟩⟩
  have s1 := same_new n1 (o := .tup [V.ref a.e_NoCount, V.ref a.e_NoOrder, V.ref a.e_NoQuay])
  refine iteF ⟨_, rfl, (by show 2 ≤ sizeLine; decide), fun t2 n2 => ⟨.ref x, t2, _, _, _, false, rfl, upd_same, .cons (.own _) (.cons (.own _) .nil), .exc (same_new n2 _ _ (s1 _ _ ex)) G.c, kitF2 G.n4 G.n5, false, rfl, iteF ?_⟩⟩
  have s2 := s1.trans (same_new n2 (o := .tup [V.ref a.e_NoText, V.ref a.e_NoTree]))
  refine ⟨_, rfl, (by show 2 ≤ sizeLine; decide), fun t3 n3 => ⟨.ref x, t3, _, _, _, false, rfl, upd_same, .cons (.own _) (.cons (.own _) .nil), .exc (same_new n3 _ _ (s2 _ _ ex)) G.c, kitF2 G.n6 G.n7, false, rfl, iteF ?_⟩⟩
  have s3 := s2.trans (same_new n3 (o := .tup [V.ref a.e_NoWishes, V.ref a.e_TooMany]))
  refine ⟨Nat.zero_le _, fun l nl => ?_⟩
  have s4 := s3.trans (same_new nl (o := .lst []))
  have ex4 := s4 _ _ ex
  have hxl : x ≠ l := ne_of_none (s3 _ _ ex) nl
  have nl0 : H l = none := s3.free nl
  refine word_step (k' := .name) (ws := []) G ex4 upd_same (by decide) hxl fun H1 e1 l1 k1 => ?_
  refine word_step (k' := .taken) G e1 l1 (by cases k <;> decide) hxl fun H2 e2 l2 k2 => ?_
  refine word_step (k' := .wish) G e2 l2 (by cases k <;> decide) hxl fun H3 e3 l3 k3 => ?_
  refine word_step (k' := .room) G e3 l3 (by cases k <;> decide) hxl fun H4 e4 l4 k4 => ?_
  refine word_step (k' := .ship) G e4 l4 (by cases k <;> decide) hxl fun H5 e5 l5 k5 => ?_
  have sf : Same H H5 := fun c o e => by
    have ne : c ≠ l := ne_of_none e nl0
    exact k5 c o (k4 c o (k3 c o (k2 c o (k1 c o (s4 c o e) ne) ne) ne) ne) ne
  cases k <;> refine ⟨⟨_, rfl⟩, .ref l, rfl, Str.ofString " ", l, _, rfl, rfl, .inl (sqL_of l5), by decide +kernel, ?_⟩ <;> refine Eq.mp (congrArg (fun z => Q (.str z) H5) ?_) (q _ sf) <;> decide +kernel
theorem ChkN.mono {K : PySem.W.Frag} {a : Ad} {x : V} {H : Hp} {E E' : XK} {R R' : Str → Prop} (h : ChkN K a x H E R) (e : ∀ cls d H', E cls d H' → E' cls d H') (k : ∀ t, R t → R' t) : ChkN K a x H E' R' := by
  obtain ⟨h1, h2, ⟨h3, h4⟩ | ⟨t, q, g, r⟩⟩ := h
  · exact ⟨h1, h2, .inl ⟨h3, e _ _ _ h4⟩⟩
  · exact ⟨h1, h2, .inr ⟨t, q, g, k t r⟩⟩
theorem ChkS.mono {K : PySem.W.Frag} {a : Ad} {ss : List Ship} {x : V} {H : Hp} {E E' : XK} {R R' : Str → Prop} (h : ChkS K a ss x H E R) (e : ∀ cls d H', E cls d H' → E' cls d H') (k : ∀ t, R t → R' t) : ChkS K a ss x H E' R' :=
  ChkN.mono h e fun t r => by
    rcases r with ⟨h1, h2⟩ | ⟨h1, h2⟩
    · exact .inl ⟨h1, e _ _ _ h2⟩
    · exact .inr ⟨h1, k t h2⟩
theorem come_mono {K : PySem.W.Frag} {a : Ad} {b : Bool} {vs : List V} {H : Hp} {Q Q' : VK} {E E' : XK} (h : sp_M_come K a b vs H Q E) (q : ∀ v H', Q v H' → Q' v H') (e : ∀ cls d H', E cls d H' → E' cls d H') : sp_M_come K a b vs H Q' E' := by
  obtain ⟨p, d, n, ss, x, w, rfl, S, hl, ty, c⟩ := h
  refine ⟨p, d, n, ss, x, w, rfl, S, hl, ty, ChkN.mono c e fun t r => ?_⟩
  rcases r with ⟨h1, h2⟩ | ⟨h1, ⟨h2, h3⟩ | ⟨wi, h2, h3, h4, r⟩⟩
  · exact .inl ⟨h1, e _ _ _ h2⟩
  · exact .inr ⟨h1, .inl ⟨h2, e _ _ _ h3⟩⟩
  · refine .inr ⟨h1, .inr ⟨wi, h2, h3, h4, ?_⟩⟩
    rcases r with ⟨f, r⟩ | ⟨l, f, l1, l2, r⟩
    · exact .inl ⟨f, fun H' s => e _ _ _ (r H' s)⟩
    · exact .inr ⟨l, f, l1, l2, fun H' k S' => q _ _ (r H' k S')⟩
theorem leave_mono {K : PySem.W.Frag} {a : Ad} {b : Bool} {vs : List V} {H : Hp} {Q Q' : VK} {E E' : XK} (h : sp_M_leave K a b vs H Q E) (q : ∀ v H', Q v H' → Q' v H') (e : ∀ cls d H', E cls d H' → E' cls d H') : sp_M_leave K a b vs H Q' E' := by
  obtain ⟨p, d, n, ss, x, rfl, S, c⟩ := h
  refine ⟨p, d, n, ss, x, rfl, S, ChkS.mono c e fun t r => ?_⟩
  obtain ⟨ss', L, hk, r⟩ := r
  exact ⟨ss', L, hk, fun l H' rs h1 h2 h3 h4 h5 => q _ _ (r l H' rs h1 h2 h3 h4 h5)⟩
theorem where_mono {K : PySem.W.Frag} {a : Ad} {b : Bool} {vs : List V} {H : Hp} {Q Q' : VK} {E E' : XK} (h : sp_M_where K a b vs H Q E) (q : ∀ v H', Q v H' → Q' v H') (e : ∀ cls d H', E cls d H' → E' cls d H') : sp_M_where K a b vs H Q' E' := by
  obtain ⟨p, d, n, ss, x, rfl, S, c⟩ := h
  exact ⟨p, d, n, ss, x, rfl, S, ChkS.mono c e fun t r s hs hn => q _ _ (r s hs hn)⟩
/-- a deed's way out: the word of the refusal -/
def DoneE (a : Ad) (Q : VK) : XK := fun cls d H' => d = none ∧ ∃ k, cls = .ref (clsK a k) ∧ ∀ H'', Same H' H'' → Q (.str (wordK k)) H''
inductive Dd where
  | come | leave | where
  deriving DecidableEq
def ddS : Dd → Str
  | .come => Str.ofString "come"
  | .leave => Str.ofString "leave"
  | .where => Str.ofString "where"
def sp_deed (K : PySem.W.Frag) (a : Ad) (b : Bool) : Dd → V → V → V → Hp → VK → XK → Prop
  | .come, p, x, w, H, Q, E => sp_M_come K a b [p, x, w] H Q E
  | .leave, p, x, _, H, Q, E => sp_M_leave K a b [p, x] H Q E
  | .where, p, x, _, H, Q, E => sp_M_where K a b [p, x] H Q E
def sp_l_done (K : PySem.W.Frag) (a : Ad) : Sp := fun vs H Q _ => ∃ (b : Bool) (p e : Addr) (dd : Dd) (x w : V), vs = [.ref p, .ref e] ∧ SqT K H e [.str (ddS dd), x, w] ∧ sp_deed K a b dd (.ref p) x w H Q (DoneE a Q)
abbrev N_l_done : List Str := ["_law_quay", "_law_deed", "_law_found", "_law_caught", "_law_e"]
def t_l_done (K : PySem.W.Frag) (a : Ad) : TS :=
  (tSeq (tAsg (tC .non) (gName 2))
    (tSeq (tAsg (tC .non) (gName 3))
    (tSeq (tTryKeep K a.e_BerthError 4 3 fun W => (tIfS (tTest (tOp rEq (tOp (rIxT K) (tVar 1) (tC (.int 0))) (tC (.str (Str.ofString "come"))))) (tAsg (tMethB a.cls "come" (fun b => sp_M_come K a b) (WE W) (tVar 0) (tCons (tOp (rIxT K) (tVar 1) (tC (.int 1))) (tCons (tOp (rIxT K) (tVar 1) (tC (.int 2))) tNil))) (gName 2)) (tIfS (tTest (tOp rEq (tOp (rIxT K) (tVar 1) (tC (.int 0))) (tC (.str (Str.ofString "leave"))))) (tAsg (tMethB a.cls "leave" (fun b => sp_M_leave K a b) (WE W) (tVar 0) (tCons (tOp (rIxT K) (tVar 1) (tC (.int 1))) tNil)) (gName 2)) (tAsg (tMethB a.cls "where" (fun b => sp_M_where K a b) (WE W) (tVar 0) (tCons (tOp (rIxT K) (tVar 1) (tC (.int 1))) tNil)) (gName 2)))))
    (tRet (tIf (tB (tIsN (tVar 3))) (tVar 2) (tCall (sp_l_words K a) [] E0 (tCons (tVar 3) tNil)))))))
theorem len_l_done {K : PySem.W.Frag} {a : Ad} {vs : List V} {H : Hp} {Q : VK} {E : XK} (h : sp_l_done K a vs H Q E) : vs.length = 2 := by
  obtain ⟨b, p, e, dd, x, w, rfl, _⟩ := h
  rfl
theorem deed_self {K : PySem.W.Frag} {a : Ad} {b : Bool} {dd : Dd} {p : Addr} {x w : V} {H : Hp} {Q : VK} {E : XK} (h : sp_deed K a b dd (.ref p) x w H Q E) : ∃ dx n d, H p = some (.ins (a.cls b) dx (flds n d)) := by
  cases dd with
  | come =>
    obtain ⟨p', d, n, ss, x', w', e, S, _⟩ := h
    cases e
    obtain ⟨dx, h1⟩ := S.ob
    exact ⟨_, _, _, h1⟩
  | leave =>
    obtain ⟨p', d, n, ss, x', e, S, _⟩ := h
    cases e
    obtain ⟨dx, h1⟩ := S.ob
    exact ⟨_, _, _, h1⟩
  | «where» =>
    obtain ⟨p', d, n, ss, x', e, S, _⟩ := h
    cases e
    obtain ⟨dx, h1⟩ := S.ob
    exact ⟨_, _, _, h1⟩
theorem dec_str {x y : Str} : decide (V.str x = V.str y) = decide (x = y) := by
  by_cases z : x = y
  · subst z; simp
  · rw [decide_eq_false z, decide_eq_false fun q => z (V.str.inj q)]
theorem pu_l_done {K : PySem.W.Frag} {a : Ad} (F : ∀ k, RefK K a k) {vs : List V} {H : Hp} {Q : VK} {E : XK} (h : sp_l_done K a vs H Q E) : t_l_done K a { nx := fun _ H' => Q .non H', rt := Q } (start N_l_done vs) H := by
  obtain ⟨b, p, e, dd, x, w, rfl, he, h⟩ := h
  have m0 : atI [V.str (ddS dd), x, w] 0 = some (V.str (ddS dd)) := atI_nat (j := 0) rfl
  have m1 : atI [V.str (ddS dd), x, w] 1 = some x := atI_nat (j := 1) rfl
  have m2 : atI [V.str (ddS dd), x, w] 2 = some w := atI_nat (j := 2) rfl
  -- the way out of the try: the caught one's word
  have out : ∀ (k : Rk) (H' : Hp) (c : Addr), (∀ H'', Same H' H'' → Q (.str (wordK k)) H'') → H' c = none →
      (tRet (tIf (tB (tIsN (tVar 3))) (tVar 2) (tCall (sp_l_words K a) [] E0 (tCons (tVar 3) tNil)))) { nx := fun _ H' => Q .non H', rt := Q } [some (.ref p), some (.ref e), some .non, some (.ref c), none] (upd H' c (ExK (.ref (clsK a k)) none c)) := fun k H' c q nc =>
    ⟨.ref c, rfl, false, rfl, iteF ⟨.ref c, rfl, c, k, rfl, upd_same, fun H'' s => q H'' ((same_new nc).trans s)⟩⟩
  have fin : ∀ v H', Q v H' → (tRet (tIf (tB (tIsN (tVar 3))) (tVar 2) (tCall (sp_l_words K a) [] E0 (tCons (tVar 3) tNil)))) { nx := fun _ H' => Q .non H', rt := Q } [some (.ref p), some (.ref e), some v, some .non, none] H' := fun v H' q => ⟨.non, rfl, true, rfl, iteT ⟨_, rfl, q⟩⟩
  have d1 : decide (V.str (Str.ofString "leave") = V.str (Str.ofString "come")) = false := by rw [dec_str]; decide +kernel
  have d2 : decide (V.str (Str.ofString "where") = V.str (Str.ofString "come")) = false := by rw [dec_str]; decide +kernel
  have d3 : decide (V.str (Str.ofString "where") = V.str (Str.ofString "leave")) = false := by rw [dec_str]; decide +kernel
  obtain ⟨dx, n, d, hp⟩ := deed_self h
  cases dd with
  | come =>
    refine ⟨.ref e, rfl, e, _, 0, _, rfl, rfl, he, m0, rfl, _, rfl, ?_⟩
    show (if decide (V.str (Str.ofString "come") = V.str (Str.ofString "come")) = true then _ else _)
    rw [decide_eq_true rfl]
    refine iteT ⟨_, rfl, b, p, dx, _, rfl, hp, by rfl, _, rfl, e, _, 1, x, rfl, rfl, he, m1, _, rfl, e, _, 2, w, rfl, rfl, he, m2, come_mono h (fun v H' q => fin v H' q) ?_⟩
    rintro cls d H' ⟨rfl, k, rfl, q⟩
    exact ⟨(F k).ex, fun c nc => out k H' c q nc⟩
  | leave =>
    refine ⟨.ref e, rfl, e, _, 0, _, rfl, rfl, he, m0, rfl, _, rfl, ?_⟩
    show (if decide (V.str (Str.ofString "leave") = V.str (Str.ofString "come")) = true then _ else _)
    rw [d1]
    refine iteF ⟨.ref e, rfl, e, _, 0, _, rfl, rfl, he, m0, rfl, _, rfl, ?_⟩
    show (if decide (V.str (Str.ofString "leave") = V.str (Str.ofString "leave")) = true then _ else _)
    rw [decide_eq_true rfl]
    refine iteT ⟨_, rfl, b, p, dx, _, rfl, hp, by rfl, _, rfl, e, _, 1, x, rfl, rfl, he, m1, leave_mono h (fun v H' q => fin v H' q) ?_⟩
    rintro cls d H' ⟨rfl, k, rfl, q⟩
    exact ⟨(F k).ex, fun c nc => out k H' c q nc⟩
  | «where» =>
    refine ⟨.ref e, rfl, e, _, 0, _, rfl, rfl, he, m0, rfl, _, rfl, ?_⟩
    show (if decide (V.str (Str.ofString "where") = V.str (Str.ofString "come")) = true then _ else _)
    rw [d2]
    refine iteF ⟨.ref e, rfl, e, _, 0, _, rfl, rfl, he, m0, rfl, _, rfl, ?_⟩
    show (if decide (V.str (Str.ofString "where") = V.str (Str.ofString "leave")) = true then _ else _)
    rw [d3]
    refine iteF ⟨_, rfl, b, p, dx, _, rfl, hp, by rfl, _, rfl, e, _, 1, x, rfl, rfl, he, m1, where_mono h (fun v H' q => fin v H' q) ?_⟩
    rintro cls d H' ⟨rfl, k, rfl, q⟩
    exact ⟨(F k).ex, fun c nc => out k H' c q nc⟩

/-! ### what the law says is due -/
inductive Ans where
  | word (k : Rk) | num (l : Int) | moves (ms : List Ship)
def AnsAt (K : PySem.W.Frag) (H : Hp) (v : V) : Ans → Prop
  | .word k => v = .str (wordK k)
  | .num l => v = .int l
  | .moves ms => ∃ l rs, v = .ref l ∧ H l = some (.lst rs) ∧ TrAt K H rs ms
theorem AnsAt.same {K : PySem.W.Frag} {H H' : Hp} {v : V} {A : Ans} (h : AnsAt K H v A) (s : Same H H') : AnsAt K H' v A := by
  cases A with
  | word k => exact h
  | num l => exact h
  | moves ms =>
    obtain ⟨l, rs, e, el, tr⟩ := h
    exact ⟨l, rs, e, s _ _ el, tr.same s⟩
inductive Due (b : Bool) (n : Nat) (ss : List Ship) : Dd → V → V → Ans → List Ship → Prop where
  | bad {dd x w} : nameV x = false → Due b n ss dd x w (.word .name) ss
  | taken {t w} : isNm t = true → t ∈ ss.map (·.1) → Due b n ss .come (.str t) w (.word .taken) ss
  | wish {t w} : isNm t = true → t ∉ ss.map (·.1) → inB 1 n w = false → Due b n ss .come (.str t) w (.word .wish) ss
  | room {t} {wi : Int} : isNm t = true → t ∉ ss.map (·.1) → 1 ≤ wi → wi ≤ n → ffq b n (occS ss) wi = none → Due b n ss .come (.str t) (.int wi) (.word .room) ss
  | come {t} {wi l : Int} : isNm t = true → t ∉ ss.map (·.1) → 1 ≤ wi → wi ≤ n → ffq b n (occS ss) wi = some l → Due b n ss .come (.str t) (.int wi) (.num l) (ss ++ [(t, wi, l)])
  | ship {dd t w} : isNm t = true → t ∉ ss.map (·.1) → dd ≠ .come → Due b n ss dd (.str t) w (.word .ship) ss
  | where {t w} {s : Ship} : isNm t = true → s ∈ ss → s.1 = t → Due b n ss .where (.str t) w (.num s.2.2) ss
  | leave {t w} {ss' : List Ship} : isNm t = true → t ∈ ss.map (·.1) → Laid b n ss' → keys ss' = keys (others t ss) → Due b n ss .leave (.str t) w (.moves (movesOf (others t ss) ss')) ss'
def badN : List V := [.str (Str.ofString "A"), .str (Str.ofString ""), .str (Str.ofString "abcdefghi"), .non, .str (Str.ofString "a1")]
def sp_l_due (K : PySem.W.Frag) (a : Ad) : Sp := fun vs H Q _ => ∃ (n : Nat) (b : Bool) (l e : Addr) (ss : List Ship) (dd : Dd) (x w : V) (A : Ans) (ss' : List Ship), vs = [.int n, .bl b, .ref l, .ref e] ∧ LnAt K H l (keys ss) ∧ LineOk n (keys ss) ∧ ss.length < 500 ∧ Laid b n ss ∧
  SqT K H e [.str (ddS dd), x, w] ∧ flatV x = true ∧ inV x badN = !nameV x ∧ TySm w ∧ Due b n ss dd x w A ss' ∧ ∀ (r l' : Addr) (v : V) (H' : Hp), H r = none → Same H H' → SqT K H' r [v, .ref l'] → AnsAt K H' v A → LnAt K H' l' (keys ss') → Q (.ref r) H'
abbrev N_l_due : List Str := ["_law_berths", "_law_around", "_law_line", "_law_deed", "_law_word", "_law_name", "_law_wish", "_law_there", "_law_held", "_law_later", "_law_others", "_law_moves", "_law_one", "_law_by", "_law_pair"]
def t_l_due (K : PySem.W.Frag) (a : Ad) : TS :=
  (tSeq (tAsg (tVar 3) (gTup K 3 (gCons (gName 4) (gCons (gName 5) (gCons (gName 6) gNil)))))
    (tSeq (tIfS (tTest (tOp (rIn K false) (tVar 5) (tTup (tCons (tC (.str (Str.ofString "A"))) (tCons (tC (.str (Str.ofString ""))) (tCons (tC (.str (Str.ofString "abcdefghi"))) (tCons (tC .non) (tCons (tC (.str (Str.ofString "a1"))) tNil)))))))) (tRet (tTup (tCons (tC (.str (Str.ofString "name"))) (tCons (tVar 2) tNil)))) tNext)
    (tSeq (tAsg (tLc (iList K (tVar 2)) (gName 14) (tTest (tOp rEq (tOp (rIxT K) (tVar 14) (tC (.int 0))) (tVar 5))) (tVar 14) [14]) (gName 7))
    (tSeq (tAsg (tCall (sp_l_lying K a) [] E0 (tCons (tVar 0) (tCons (tVar 1) (tCons (tVar 2) tNil)))) (gName 8))
    (tSeq (tIfS (tTest (tOp rEq (tVar 4) (tC (.str (Str.ofString "come"))))) (tSeq (tIfS (tTest (tOp (rNeT K) (tVar 7) (tLst tNil))) (tRet (tTup (tCons (tC (.str (Str.ofString "taken"))) (tCons (tVar 2) tNil)))) tNext)
    (tSeq (tIfS (tOr (tNot (tB (tCall (sp_l_whole K) [] E0 (tCons (tVar 6) tNil)))) (tNot (tTest (tChain rLeI rLeI (tC (.int 1)) (tVar 6) (tVar 0))))) (tRet (tTup (tCons (tC (.str (Str.ofString "wish"))) (tCons (tVar 2) tNil)))) tNext)
    (tSeq (tAsg (tCall (sp_l_lying K a) [] E0 (tCons (tVar 0) (tCons (tVar 1) (tCons (tOp rCat (tVar 2) (tLst (tCons (tTup (tCons (tVar 5) (tCons (tVar 6) tNil))) tNil))) tNil)))) (gName 9))
    (tRet (tIf (tB (tIsN (tVar 9))) (tTup (tCons (tC (.str (Str.ofString "room"))) (tCons (tVar 2) tNil))) (tTup (tCons (tDGet (tVar 9) (tVar 5)) (tCons (tOp rCat (tVar 2) (tLst (tCons (tTup (tCons (tVar 5) (tCons (tVar 6) tNil))) tNil))) tNil)))))))) tNext)
    (tSeq (tIfS (tTest (tOp (rEqT K) (tVar 7) (tLst tNil))) (tRet (tTup (tCons (tC (.str (Str.ofString "ship"))) (tCons (tVar 2) tNil)))) tNext)
    (tSeq (tIfS (tTest (tOp rEq (tVar 4) (tC (.str (Str.ofString "where"))))) (tRet (tTup (tCons (tDGet (tVar 8) (tVar 5)) (tCons (tVar 2) tNil)))) tNext)
    (tSeq (tAsg (tLc (iList K (tVar 2)) (gName 14) (tTest (tOp rNe (tOp (rIxT K) (tVar 14) (tC (.int 0))) (tVar 5))) (tVar 14) [14]) (gName 10))
    (tSeq (tAsg (tCall (sp_l_lying K a) [] E0 (tCons (tVar 0) (tCons (tVar 1) (tCons (tVar 10) tNil)))) (gName 9))
    (tSeq (tAsg (tLst tNil) (gName 11))
    (tSeq (tFor (iList K (tVar 10)) (gTup K 2 (gCons (gName 12) (gCons (gName 13) gNil)))
    (tIfS (tTest (tOp rNe (tDGet (tVar 8) (tVar 12)) (tDGet (tVar 9) (tVar 12)))) (tDrop (tBM K "list" rAppend (tVar 11) (tCons (tTup (tCons (tVar 12) (tCons (tDGet (tVar 8) (tVar 12)) (tCons (tDGet (tVar 9) (tVar 12)) tNil)))) tNil))) tNext))
    (tRet (tTup (tCons (tVar 11) (tCons (tVar 10) tNil)))))))))))))))
theorem len_l_due {K : PySem.W.Frag} {a : Ad} {vs : List V} {H : Hp} {Q : VK} {E : XK} (h : sp_l_due K a vs H Q E) : vs.length = 4 := by
  obtain ⟨n, b, l, e, ss, dd, x, w, A, ss', rfl, _⟩ := h
  rfl
theorem dp_prs {K : PySem.W.Frag} {H : Hp} {rs : List V} {line : List (Str × Int)} (h : PrAt K H rs line) : DpAll K H rs (line.map PySem.W.Datum.toD) := by
  induction h with
  | nil => exact .nil
  | cons a _ ih =>
    obtain ⟨t, rfl, ht⟩ := a
    exact .cons (.tup ht (.cons (.str _) (.cons (.int _) .nil))) ih
theorem ho_prs {K : PySem.W.Frag} {H : Hp} {l : Addr} {rs : List V} {line : List (Str × Int)} (el : SqL K H l rs) (h : PrAt K H rs line) : Dp K H (.ref l) (PySem.W.Datum.toD line) := .lst el (dp_prs h)
theorem pd_filter {α β : Type} {F : α → β → Prop} {l : List α} {m : List β} {p : β → Bool} (h : Paired F l m) : Paired F (((l.zip m).filter fun z => p z.2).map (·.1)) (m.filter p) := by
  induction h with
  | nil => exact .nil
  | @cons a b l1 l2 k _ ih =>
    rw [List.zip_cons_cons, List.filter_cons, List.filter_cons]
    cases e : p b with
    | true =>
      rw [if_pos rfl, if_pos rfl, List.map_cons]
      exact .cons k ih
    | false =>
      rw [if_neg Bool.false_ne_true, if_neg Bool.false_ne_true]
      exact ih
theorem names_mem {ss : List Ship} {t : Str} : ((keys ss).filter fun p => decide (p.1 = t)) = [] ↔ t ∉ ss.map (·.1) := by
  rw [List.filter_eq_nil_iff]
  constructor
  · intro h hm
    obtain ⟨s, hs, e⟩ := List.mem_map.mp hm
    have : (s.1, s.2.1) ∈ keys ss := List.mem_map_of_mem (f := fun s : Ship => (s.1, s.2.1)) hs
    exact h _ this (by simpa using e)
  · intro h p hp
    obtain ⟨s, hs, rfl⟩ := List.mem_map.mp hp
    intro z
    exact h (by rw [← (by simpa using z : s.1 = t)]; exact List.mem_map_of_mem hs)
theorem keys_others {ss : List Ship} {t : Str} : ((keys ss).filter fun p => !decide (p.1 = t)) = keys (others t ss) := by
  unfold keys others
  rw [List.filter_map]
  congr 1
  refine List.filter_congr fun s _ => ?_
  simp
theorem ddS_come {dd : Dd} : decide (V.str (ddS dd) = V.str (Str.ofString "come")) = decide (dd = .come) := by
  cases dd <;> rw [dec_str] <;> decide +kernel
theorem ddS_where {dd : Dd} : decide (V.str (ddS dd) = V.str (Str.ofString "where")) = decide (dd = .where) := by
  cases dd <;> rw [dec_str] <;> decide +kernel
theorem due_come {b : Bool} {n : Nat} {ss ss' : List Ship} {t : Str} {w : V} {A : Ans} (D : Due b n ss .come (.str t) w A ss') (g : isNm t = true) : (t ∈ ss.map (·.1) ∧ A = .word .taken ∧ ss' = ss) ∨ (t ∉ ss.map (·.1) ∧ ((inB 1 n w = false ∧ A = .word .wish ∧ ss' = ss) ∨
    ∃ wi : Int, w = .int wi ∧ 1 ≤ wi ∧ wi ≤ n ∧ ((ffq b n (occS ss) wi = none ∧ A = .word .room ∧ ss' = ss) ∨ ∃ l, ffq b n (occS ss) wi = some l ∧ A = .num l ∧ ss' = ss ++ [(t, wi, l)]))) := by
  cases D with
  | bad h => rw [show nameV (.str t) = true from g] at h; cases h
  | taken _ h => exact .inl ⟨h, rfl, rfl⟩
  | wish _ h k => exact .inr ⟨h, .inl ⟨k, rfl, rfl⟩⟩
  | room _ h k1 k2 f => exact .inr ⟨h, .inr ⟨_, rfl, k1, k2, .inl ⟨f, rfl, rfl⟩⟩⟩
  | come _ h k1 k2 f => exact .inr ⟨h, .inr ⟨_, rfl, k1, k2, .inr ⟨_, f, rfl, rfl⟩⟩⟩
  | ship _ _ h => exact absurd rfl h
theorem cat_line {K : PySem.W.Frag} {σ : L2.St} {H : Hp} {Q : VK} {l : Addr} {t : Str} {wi : Int} {line : List (Str × Int)} (h2 : σ[2]? = some (some (.ref l))) (h5 : σ[5]? = some (some (.str t))) (h6 : σ[6]? = some (some (.int wi))) (ln : LnAt K H l line) (hl : line.length ≤ 500)
    (k : ∀ (lz : Addr) (H' : Hp), H lz = none → Same H H' → LnAt K H' lz (line ++ [(t, wi)]) → Q (.ref lz) H') : (tOp rCat (tVar 2) (tLst (tCons (tTup (tCons (tVar 5) (tCons (tVar 6) tNil))) tNil))) σ H Q := by
  obtain ⟨rs, el, pr⟩ := ln
  refine ⟨_, h2, _, h5, _, h6, (by show 2 ≤ sizeLine; decide), fun tp ntp => ⟨(by show 1 ≤ sizeLine; decide), fun lq nlq => ?_⟩⟩
  have s1 := same_new ntp (o := .tup [V.str t, V.int wi])
  have s2 := s1.trans (same_new nlq (o := .lst [V.ref tp]))
  refine ⟨l, lq, rs, _, rfl, rfl, s2 _ _ el, upd_same, ?_, fun lz nlz => ?_⟩
  · have := pd_len pr
    exact l1000 (by show rs.length + 1 ≤ 1000; omega)
  have s3 := s2.trans (same_new nlz (o := .lst (rs ++ [V.ref tp])))
  refine k lz _ (s2.free nlz) s3 ⟨_, upd_same, pd_snoc (pr.same s3) ⟨tp, rfl, ?_⟩⟩
  exact (same_new nlz).seqT ((same_new nlq).seqT (sqT_of upd_same))
theorem pu_l_due {K : PySem.W.Frag} {a : Ad} {vs : List V} {H : Hp} {Q : VK} {E : XK} (h : sp_l_due K a vs H Q E) : t_l_due K a { nx := fun _ H' => Q .non H', rt := Q } (start N_l_due vs) H := by
  obtain ⟨n, b, l, e, ss, dd, x, w, A, ss', rfl, ⟨rs, el, pr⟩, ok, hln, L, he, hfx, hix, hw, D, q⟩ := h
  have hn := ok.n1
  refine ⟨.ref e, rfl, e, _, rfl, he, rfl, _, _, rfl, _, _, rfl, _, _, rfl, rfl, ?_⟩
  refine ⟨x, rfl, (by show 5 ≤ sizeLine; decide), fun t0 n0 => ⟨t0, _, rfl, .inr (sqT_of upd_same), hfx, rfl, _, rfl, ?_⟩⟩
  have s0 : Same H (upd H t0 (.tup badN)) := same_new n0
  show (if (if false = true then !inV x badN else inV x badN) = true then _ else _)
  rw [if_neg Bool.false_ne_true, hix]
  have enames : ss.map (·.1) = (keys ss).map (·.1) := names_keys
  have hks : (keys ss).length = ss.length := by simp [keys]
  have hrl := pd_len pr
  cases hx : nameV x with
  | false =>
    -- no name
    refine iteT ⟨.ref l, rfl, (by show 2 ≤ sizeLine; decide), fun r nr => ?_⟩
    have hA : A = .word .name ∧ ss' = ss := by
      cases D with
      | bad h => exact ⟨rfl, rfl⟩
      | taken g => rw [show nameV (.str _) = true from g] at hx; cases hx
      | wish g => rw [show nameV (.str _) = true from g] at hx; cases hx
      | room g => rw [show nameV (.str _) = true from g] at hx; cases hx
      | come g => rw [show nameV (.str _) = true from g] at hx; cases hx
      | ship g => rw [show nameV (.str _) = true from g] at hx; cases hx
      | «where» g => rw [show nameV (.str _) = true from g] at hx; cases hx
      | leave g => rw [show nameV (.str _) = true from g] at hx; cases hx
    obtain ⟨rfl, rfl⟩ := hA
    have s1 := s0.trans (same_new nr (o := .tup [.str (Str.ofString "name"), .ref l]))
    exact q r l _ _ (s0.free nr) s1 (sqT_of upd_same) rfl ⟨rs, s1 _ _ el, pr.same s1⟩
  | true =>
  obtain ⟨t, rfl, hnm⟩ := nameV_true hx
  refine iteF ?_
  -- those of that name
  refine ⟨.ref l, rfl, l, rfl, ⟨_, sqL_of (s0 _ _ el)⟩, ?_⟩
  refine lc_pure (Qd := fun D H' => _) (walk_list (K := K) (a := l)) (by rw [hrl, hks]; exact small1000 (by omega)) (rs.zip (keys ss)) (by rw [List.length_zip]; omega) (fun z => decide (z.2.1 = t)) (·.1) (fun H' s' => s'.seq (sqL_of (s0 _ _ el))) ?_ ?_
  · intro j z v H5 H6 R hz s5 hy k
    obtain ⟨rfl, hv⟩ := hy
    rw [List.getElem?_zip_eq_some] at hz
    rw [hz.1] at hv
    cases hv
    obtain ⟨p, hp, tp, ev, ht⟩ := pd_get pr hz.1
    rw [hz.2] at hp
    cases hp
    refine ⟨rfl, _, rfl, tp, _, 0, _, ev, rfl, (s0.trans s5).seqT ht, atI_nat (j := 0) rfl, _, rfl, rfl, _, rfl, ?_⟩
    rw [dec_str]
    have kk := k z.1 _ (Same.refl _) fun _ => rfl
    cases ed : decide (z.2.1 = t) with
    | true =>
      rw [ed] at kk
      exact iteT ⟨z.1, rfl, kk⟩
    | false =>
      have kk := k .non _ (Same.refl _) fun y => by rw [ed] at y; cases y
      rw [ed] at kk
      exact iteF kk
  · intro th H2 nth s2 eth
    have s02 := s0.trans s2
    have prth : PrAt K H2 ((List.filter (fun z => decide (z.2.1 = t)) (rs.zip (keys ss))).map (·.1)) ((keys ss).filter fun p => decide (p.1 = t)) := pd_filter (p := fun p : Str × Int => decide (p.1 = t)) (pr.same s02)
    -- the line laid
    refine ⟨_, rfl, _, rfl, _, rfl, n, b, l, keys ss, rfl, ⟨rs, s02 _ _ el, pr.same s02⟩, ok, ss, [], L, (List.append_nil _).symm, .inl ⟨rfl, fun hd H3 nhd s3 ehd => ?_⟩⟩
    have s03 := s02.trans s3
    have eth3 := s3 _ _ eth
    have prth3 := prth.same s3
    refine ⟨_, rfl, rfl, _, rfl, ?_⟩
    rw [ddS_come]
    cases hdd : decide (dd = .come) with
    | true =>
      have hdd : dd = .come := of_decide_eq_true hdd
      subst hdd
      refine iteT ⟨_, rfl, Nat.zero_le _, fun z0 nz0 => ?_⟩
      have s4 : Same H3 (upd H3 z0 (.lst [])) := same_new nz0
      have s04 := s03.trans s4
      have hoth := ho_prs (sqL_of (s4 _ _ eth3)) (prth3.same s4)
      have hoz : Dp K (upd H3 z0 (.lst [])) (.ref z0) (PySem.W.Datum.toD ([] : List (Str × Int))) := ho_prs (sqL_of upd_same) .nil
      refine neT_of hoth hoz (by decide) ?_
      clear hoth hoz
      generalize (upd H3 z0 (.lst [])) = H4 at *
      refine ⟨_, rfl, ite2 (fun c => ?_) (fun c => ?_)⟩
      · have hm : t ∈ ss.map (·.1) := Decidable.byContradiction fun z => of_decide_eq_true c (names_mem.mpr z)
        rcases due_come D hnm with ⟨_, rfl, rfl⟩ | ⟨hm', _⟩
        · refine ⟨.ref l, rfl, (by show 2 ≤ sizeLine; decide), fun r nr => ?_⟩
          have s5 := s04.trans (same_new nr (o := .tup [.str (Str.ofString "taken"), .ref l]))
          exact q r l _ _ (s04.free nr) s5 (sqT_of upd_same) rfl ⟨rs, s5 _ _ el, pr.same s5⟩
        · exact absurd hm hm'
      have hm : t ∉ ss.map (·.1) := fun z => c (decide_eq_true fun y => names_mem.mp y z)
      have r : (inB 1 n w = false ∧ A = .word .wish ∧ ss' = ss) ∨ ∃ wi : Int, w = .int wi ∧ 1 ≤ wi ∧ wi ≤ n ∧ ((ffq b n (occS ss) wi = none ∧ A = .word .room ∧ ss' = ss) ∨ ∃ l, ffq b n (occS ss) wi = some l ∧ A = .num l ∧ ss' = ss ++ [(t, wi, l)]) := by
        rcases due_come D hnm with ⟨hm', _⟩ | ⟨_, r⟩
        · exact absurd hm' hm
        · exact r
      refine ⟨w, rfl, w, rfl, hw, isIntV w, rfl, ?_⟩
      have isw : (inB 1 n w = false ∧ A = .word .wish ∧ ss' = ss) → ∀ (r : Addr), H4 r = none → Q (.ref r) (upd H4 r (.tup [.str (Str.ofString "wish"), .ref l])) := by
        rintro ⟨_, rfl, rfl⟩ r nr
        have s5 := s04.trans (same_new nr (o := .tup [.str (Str.ofString "wish"), .ref l]))
        exact q r l _ _ (s04.free nr) s5 (sqT_of upd_same) rfl ⟨rs, s5 _ _ el, pr.same s5⟩
      rcases hw with ⟨wi, rfl⟩ | ⟨bb, rfl⟩ | rfl
      rotate_left
      · rcases r with r | ⟨wi, e, _⟩
        · exact iteT (iteT ⟨.ref l, rfl, (by show 2 ≤ sizeLine; decide), fun r' nr => isw r r' nr⟩)
        · cases e
      · rcases r with r | ⟨wi, e, _⟩
        · exact iteT (iteT ⟨.ref l, rfl, (by show 2 ≤ sizeLine; decide), fun r' nr => isw r r' nr⟩)
        · cases e
      refine iteF ⟨_, rfl, 1, wi, rfl, rfl, _, rfl, ?_⟩
      have einB : inB 1 n (.int wi) = (decide (1 ≤ wi) && decide (wi ≤ n)) := rfl
      by_cases w1 : 1 ≤ wi
      rotate_left
      · rw [decide_eq_false w1]
        rcases r with r | ⟨wi', e, h1, _⟩
        · exact iteF ⟨false, rfl, iteT ⟨.ref l, rfl, (by show 2 ≤ sizeLine; decide), fun r' nr => isw r r' nr⟩⟩
        · cases e
          exact absurd h1 w1
      rw [decide_eq_true w1]
      refine iteT ⟨_, rfl, wi, n, rfl, rfl, _, rfl, ?_⟩
      by_cases w2 : wi ≤ n
      rotate_left
      · rw [decide_eq_false w2]
        rcases r with r | ⟨wi', e, _, h2, _⟩
        · exact iteT ⟨.ref l, rfl, (by show 2 ≤ sizeLine; decide), fun r' nr => isw r r' nr⟩
        · cases e
          exact absurd h2 w2
      rw [decide_eq_true w2]
      replace r : (ffq b n (occS ss) wi = none ∧ A = .word .room ∧ ss' = ss) ∨ ∃ l, ffq b n (occS ss) wi = some l ∧ A = .num l ∧ ss' = ss ++ [(t, wi, l)] := by
        rcases r with ⟨r, _⟩ | ⟨wi', e, _, _, r⟩
        · rw [einB, decide_eq_true w1, decide_eq_true w2] at r
          cases r
        · cases e
          exact r
      have lnH : LnAt K H4 l (keys ss) := ⟨rs, s04 _ _ el, pr.same s04⟩
      have ok2 : LineOk n (keys ss ++ [(t, wi)]) := by
        refine ⟨hn, fun p hp => ?_, ?_, by rw [List.length_append, hks]; show ss.length + 1 ≤ 500; omega⟩
        · rcases List.mem_append.mp hp with hp | hp
          · exact ok.rg p hp
          · rw [List.mem_singleton.mp hp]
            exact ⟨w1, w2⟩
        · rw [List.map_append, List.nodup_append]
          refine ⟨ok.nd, by simp, fun u hu v hv e => ?_⟩
          simp only [List.map_cons, List.map_nil, List.mem_singleton] at hv
          rw [hv] at e
          rw [e, ← enames] at hu
          exact hm hu
      refine iteF ⟨_, rfl, _, rfl, cat_line rfl rfl rfl lnH (by omega) fun lz H5 nlz s5 lnz => ?_⟩
      have s05 := s04.trans s5
      rcases r with ⟨ff, rfl, rfl⟩ | ⟨y, ff, rfl, rfl⟩
      · refine ⟨n, b, lz, _, rfl, lnz, ok2, ss', [(t, wi)], L, rfl, .inr ⟨t, wi, [], rfl, ff, fun H6 s6 => ?_⟩⟩
        have s06 := s05.trans s6
        refine ⟨.non, rfl, true, rfl, iteT ⟨.ref l, rfl, (by show 2 ≤ sizeLine; decide), fun r nr => ?_⟩⟩
        have s7 := s06.trans (same_new nr (o := .tup [.str (Str.ofString "room"), .ref l]))
        exact q r l _ _ (s06.free nr) s7 (sqT_of upd_same) rfl ⟨rs, s7 _ _ el, pr.same s7⟩
      · refine ⟨n, b, lz, _, rfl, lnz, ok2, ss ++ [(t, wi, y)], [], laid_snoc.mpr ⟨L, ff⟩, by rw [keys_snoc, List.append_nil], .inl ⟨rfl, fun d2 H6 nd2 s6 ed2 => ?_⟩⟩
        have s06 := s05.trans s6
        have nd3 : ((ss ++ [(t, wi, y)]).map (·.1)).Nodup := by
          rw [names_keys, keys_snoc]
          exact ok2.nd
        have hv := hdL_old nd3 (s := (t, wi, y)) (List.mem_append_right _ (List.mem_singleton.mpr rfl))
        refine ⟨.ref d2, rfl, false, rfl, iteF ⟨_, rfl, _, rfl, d2, .int y, rfl, ?_, cat_line rfl rfl rfl ⟨rs, s06 _ _ el, pr.same s06⟩ (by omega) fun ly H7 nly s7 lny => ?_⟩⟩
        · rw [← hv]
          exact DGet.k (k := Sum.inr t) ed2
        · have s07 := s06.trans s7
          refine ⟨(by show 2 ≤ sizeLine; decide), fun r nr => ?_⟩
          have s8 : Same H7 (upd H7 r (.tup [.int y, .ref ly])) := same_new nr
          exact q r ly _ _ (s07.free nr) (s07.trans s8) (sqT_of upd_same) rfl (by rw [keys_snoc]; exact lny.same s8)
    | false =>
      have hdd : dd ≠ .come := of_decide_eq_false hdd
      refine iteF ⟨_, rfl, Nat.zero_le _, fun z0 nz0 => ?_⟩
      have s4 : Same H3 (upd H3 z0 (.lst [])) := same_new nz0
      have s04 := s03.trans s4
      have hoth := ho_prs (sqL_of (s4 _ _ eth3)) (prth3.same s4)
      have hoz : Dp K (upd H3 z0 (.lst [])) (.ref z0) (PySem.W.Datum.toD ([] : List (Str × Int))) := ho_prs (sqL_of upd_same) .nil
      have ehd4 := s4 _ _ ehd
      refine eqT_of hoth hoz (by decide) ?_
      clear hoth hoz
      generalize (upd H3 z0 (.lst [])) = H4 at *
      have nds : (ss.map (·.1)).Nodup := by rw [enames]; exact ok.nd
      refine ⟨_, rfl, ite2 (fun c => ?_) (fun c => ?_)⟩
      · have hm : t ∉ ss.map (·.1) := names_mem.mp (of_decide_eq_true c)
        have hA : A = .word .ship ∧ ss' = ss := by
          cases D with
          | bad h => rw [show nameV (.str t) = true from hnm] at h; cases h
          | taken => exact absurd rfl hdd
          | wish => exact absurd rfl hdd
          | room => exact absurd rfl hdd
          | come => exact absurd rfl hdd
          | ship => exact ⟨rfl, rfl⟩
          | «where» _ hs hn' => exact absurd (by rw [← hn']; exact List.mem_map_of_mem hs) hm
          | leave _ hm' => exact absurd hm' hm
        obtain ⟨rfl, rfl⟩ := hA
        refine ⟨.ref l, rfl, (by show 2 ≤ sizeLine; decide), fun r nr => ?_⟩
        have s5 := s04.trans (same_new nr (o := .tup [.str (Str.ofString "ship"), .ref l]))
        exact q r l _ _ (s04.free nr) s5 (sqT_of upd_same) rfl ⟨rs, s5 _ _ el, pr.same s5⟩
      have hm : t ∈ ss.map (·.1) := Decidable.byContradiction fun z => c (decide_eq_true (names_mem.mpr z))
      refine ⟨_, rfl, rfl, _, rfl, ?_⟩
      rw [ddS_where]
      cases D with
      | bad h => rw [show nameV (.str t) = true from hnm] at h; cases h
      | taken => exact absurd rfl hdd
      | wish => exact absurd rfl hdd
      | room => exact absurd rfl hdd
      | come => exact absurd rfl hdd
      | ship _ h => exact absurd hm h
      | @«where» t' w' s _ hs hn' =>
        subst hn'
        rw [decide_eq_true rfl]
        refine iteT ⟨_, rfl, _, rfl, hd, .int s.2.2, rfl, ?_, .ref l, rfl, (by show 2 ≤ sizeLine; decide), fun r nr => ?_⟩
        · rw [← hdL_old nds hs]
          exact DGet.k (k := Sum.inr s.1) ehd4
        · have s5 := s04.trans (same_new nr (o := .tup [.int s.2.2, .ref l]))
          exact q r l _ _ (s04.free nr) s5 (sqT_of upd_same) rfl ⟨rs, s5 _ _ el, pr.same s5⟩
      | @leave t' w' ss' _ _ L' hk =>
        rw [decide_eq_false (fun z => by cases z)]
        refine iteF ⟨.ref l, rfl, l, rfl, ⟨_, sqL_of (s04 _ _ el)⟩, ?_⟩
        refine lc_pure (Qd := fun D H' => _) (walk_list (K := K) (a := l)) (by rw [hrl, hks]; exact small1000 (by omega)) (rs.zip (keys ss)) (by rw [List.length_zip]; omega) (fun z => !decide (z.2.1 = t)) (·.1) (fun H' s' => s'.seq (sqL_of (s04 _ _ el))) ?_ ?_
        · intro j z v H5 H6 R hz s5 hy k
          obtain ⟨rfl, hv⟩ := hy
          rw [List.getElem?_zip_eq_some] at hz
          rw [hz.1] at hv
          cases hv
          obtain ⟨p, hp, tp, ev, ht⟩ := pd_get pr hz.1
          rw [hz.2] at hp
          cases hp
          refine ⟨rfl, _, rfl, tp, _, 0, _, ev, rfl, (s04.trans s5).seqT ht, atI_nat (j := 0) rfl, _, rfl, rfl, _, rfl, ?_⟩
          rw [dec_str]
          have kk := k z.1 _ (Same.refl _) fun _ => rfl
          cases ed : decide (z.2.1 = t) with
          | false =>
            rw [ed] at kk
            exact iteT ⟨z.1, rfl, kk⟩
          | true =>
            have kk := k .non _ (Same.refl _) fun y => by rw [ed] at y; cases y
            rw [ed] at kk
            exact iteF kk
        · intro ol H5 nol s5 eol
          have s05 := s04.trans s5
          have prol : PrAt K H5 ((List.filter (fun z => !decide (z.2.1 = t)) (rs.zip (keys ss))).map (·.1)) (keys ss') := by
            rw [hk, ← keys_others]
            exact pd_filter (p := fun p : Str × Int => !decide (p.1 = t)) (pr.same s05)
          have hkf : keys ss' = (keys ss).filter fun p => !decide (p.1 = t) := by rw [hk, keys_others]
          have ok2 : LineOk n (keys ss') := by
            rw [hkf]
            exact ⟨hn, fun p hp => ok.rg p (List.mem_filter.mp hp).1, List.Nodup.sublist (List.Sublist.map _ List.filter_sublist) ok.nd, Nat.le_trans (List.length_filter_le _ _) ok.ln⟩
          refine ⟨_, rfl, _, rfl, _, rfl, n, b, ol, keys ss', rfl, ⟨_, eol, prol⟩, ok2, ss', [], L', (List.append_nil _).symm, .inl ⟨rfl, fun d2 H6 nd2 s6 ed2 => ?_⟩⟩
          have s06 := s05.trans s6
          have eol6 := s6 _ _ eol
          have prol6 := prol.same s6
          have ehd6 := s6 _ _ (s5 _ _ ehd4)
          generalize ((List.filter (fun z => !decide (z.2.1 = t)) (rs.zip (keys ss))).map (·.1)) = ros at *
          have nds2 : (ss'.map (·.1)).Nodup := by rw [names_keys]; exact ok2.nd
          have hlk := keys_len hk
          refine ⟨Nat.zero_le _, fun ml nml => ?_⟩
          have s7 : Same H6 (upd H6 ml (.lst [])) := same_new nml
          refine ⟨_, rfl, ol, rfl, ⟨_, sqL_of (s7 _ _ eol6)⟩, for_list (K := K) (a := ol) (xs := ros) (fun i σ H' => (∃ y12 y13 y14, σ = [some (.int n), some (.bl b), some (.ref l), some (.ref e), some (.str (ddS .leave)), some (.str t), some w, some (.ref th), some (.ref hd), some (.ref d2), some (.ref ol), some (.ref ml), y12, y13, y14]) ∧
              Same H6 H' ∧ ∃ ms, H' ml = some (.lst ms) ∧ TrAt K H' ms (movesOf ((others t ss).take i) (ss'.take i))) ⟨⟨none, none, none, rfl⟩, s7, [], upd_same, .nil⟩ (fun i σ H' _ h => sqL_of (h.2.1 _ _ eol6)) ?_ ?_⟩
          · rintro i v σ H7 hi ⟨⟨y12, y13, y14, rfl⟩, s8, ms, em, tr⟩
            obtain ⟨p, hp, tp, ev, ht⟩ := pd_get prol6 hi
            subst ev
            have ho : ∃ o, (others t ss)[i]? = some o ∧ p = (o.1, o.2.1) := by
              have e1 : (keys (others t ss))[i]? = some p := by rw [← hk]; exact hp
              unfold keys at e1
              rw [List.getElem?_map] at e1
              cases f : (others t ss)[i]? with
              | none => rw [f] at e1; cases e1
              | some o => rw [f] at e1; exact ⟨o, rfl, (Option.some.inj e1).symm⟩
            obtain ⟨o, ho, rfl⟩ := ho
            obtain ⟨now, hs⟩ := keys_at hk ho
            have hoin : o ∈ ss := (List.mem_filter.mp (List.mem_of_getElem? ho)).1
            have v1 := hdL_old nds hoin
            have v2 := hdL_old nds2 (List.mem_of_getElem? hs)
            replace v2 : valV (hdL ss') (Sum.inr o.1 : Key) = some (.int now) := v2
            have g1 : DGet H7 hd (.str o.1) (some (.int o.2.2)) := by
              rw [← v1]
              exact DGet.k (k := Sum.inr o.1) (s8 _ _ ehd6)
            have g2 : DGet H7 d2 (.str o.1) (some (.int now)) := by
              rw [← v2]
              exact DGet.k (k := Sum.inr o.1) (s8 _ _ ed2)
            refine ⟨tp, _, rfl, s8.seqT ht, rfl, _, _, rfl, _, _, rfl, rfl, ?_⟩
            refine ⟨_, rfl, _, rfl, hd, _, rfl, g1, _, rfl, _, rfl, d2, _, rfl, g2, rfl, _, rfl, ?_⟩
            have mm := moves_more ho hs
            by_cases z : now = o.2.2
            · have ez : (!decide (V.int o.2.2 = V.int now)) = false := by simp [z]
              rw [ez]
              refine iteF ⟨⟨_, _, _, rfl⟩, s8, ms, em, ?_⟩
              rw [mm, if_pos z, List.append_nil]
              exact tr
            · have ez : (!decide (V.int o.2.2 = V.int now)) = true := by
                have : ¬ o.2.2 = now := fun q => z q.symm
                simp [this]
              rw [ez]
              refine iteT ⟨.ref ml, rfl, .inl ⟨rfl, _, sqL_of em⟩, _, rfl, _, rfl, _, rfl, hd, _, rfl, g1, _, rfl, _, rfl, d2, _, rfl, g2, (by show 3 ≤ sizeLine; decide), fun tq ntq => ?_⟩
              have sD : Same H7 (upd H7 tq (.tup [.str o.1, .int o.2.2, .int now])) := same_new ntq
              have hml : ms.length < sizeLine := by
                have e1 := pd_len tr
                have e2 : (movesOf ((others t ss).take i) (ss'.take i)).length ≤ 500 := by
                  unfold movesOf
                  refine Nat.le_trans (List.length_filterMap_le _ _) ?_
                  have := ok2.ln
                  have hk2 : (keys ss').length = ss'.length := by simp [keys]
                  rw [List.length_zip, List.length_take, List.length_take]
                  omega
                rw [e1]
                exact small1000 (by omega)
              refine ⟨ml, _, _, rfl, rfl, sD _ _ em, hml, ⟨_, _, _, rfl⟩, (s8.trans sD).store nml, _, upd_same, ?_⟩
              have tkE : TKeep (upd H7 tq (.tup [.str o.1, .int o.2.2, .int now])) (upd (upd H7 tq (.tup [.str o.1, .int o.2.2, .int now])) ml (.lst (ms ++ [.ref tq]))) := tk_upd (nt_lst (sD _ _ em))
              rw [mm, if_neg z]
              exact pd_snoc (a := V.ref tq) (b := ((o.1, o.2.2, now) : Ship)) (tr.tk ((tk_same sD).trans tkE)) ⟨tq, rfl, seqT_tk tkE (sqT_of upd_same)⟩
          · rintro σ H7 ⟨⟨y12, y13, y14, rfl⟩, s8, ms, em, tr⟩
            have hro : ros.length = ss'.length := by
              rw [pd_len prol6]
              simp [keys]
            rw [hro, List.take_length, hlk, List.take_length] at tr
            refine ⟨_, rfl, _, rfl, (by show 2 ≤ sizeLine; decide), fun r nr => ?_⟩
            have s9 : Same H7 (upd H7 r (.tup [.ref ml, .ref ol])) := same_new nr
            have s07 := s06.trans s8
            exact q r ol _ _ (s07.free nr) (s07.trans s9) (sqT_of upd_same) ⟨ml, ms, rfl, s9 _ _ em, tr.same s9⟩ ⟨_, s9 _ _ (s8 _ _ eol6), (prol6.same s8).same s9⟩

/-! ### triples as data; what stands at the quay -/
structure Tri where
  nm : Str
  x : Int
  y : Int
  deriving DecidableEq
instance : PySem.W.Datum Tri where
  toD t := .tuple [.str t.nm, .int t.x, .int t.y]
  plain t := rfl
  eqv a b := by
    obtain ⟨a1, a2, a3⟩ := a
    obtain ⟨b1, b2, b3⟩ := b
    have h1 : (PyData.str a1).eqv (.str b1) = decide (a1 = b1) := PySem.W.Datum.eqv a1 b1
    have h2 : (PyData.int a2).eqv (.int b2) = decide (a2 = b2) := PySem.W.Datum.eqv a2 b2
    have h3 : (PyData.int a3).eqv (.int b3) = decide (a3 = b3) := PySem.W.Datum.eqv a3 b3
    show ((PyData.str a1).eqv (.str b1) && ((PyData.int a2).eqv (.int b2) && ((PyData.int a3).eqv (.int b3) && true))) = _
    rw [h1, h2, h3, Bool.and_true, ← Bool.decide_and, ← Bool.decide_and]
    congr 1
    rw [eq_iff_iff, Tri.mk.injEq]
  depth := 1
  depth_le t := Nat.le_of_eq rfl
def triL (ss : List Ship) : List Tri := ss.map fun s => ⟨s.1, s.2.1, s.2.2⟩
theorem ho_tri {K : PySem.W.Frag} {H : Hp} {l : Addr} {rs : List V} {ss : List Ship} (el : SqL K H l rs) (h : TrAt K H rs ss) : Dp K H (.ref l) (PySem.W.Datum.toD (triL ss)) := by
  have : DpAll K H rs ((triL ss).map PySem.W.Datum.toD) := by
    clear el
    unfold triL
    induction h with
    | nil => exact .nil
    | cons a _ ih =>
      obtain ⟨t, rfl, ht⟩ := a
      exact .cons (.tup ht (.cons (.str _) (.cons (.int _) (.cons (.int _) .nil)))) ih
  exact .lst el this
theorem tyX_own {K : PySem.W.Frag} {H : Hp} {l : Addr} {xs : List V} (h : H l = some (.lst xs)) : TyX K H (.ref l) (.type "list") := .base (.lst h)
def sp_l_stands (K : PySem.W.Frag) (a : Ad) : Sp := fun vs H Q _ => ∃ (b : Bool) (p d l : Addr) (n : Nat) (ss : List Ship), vs = [.ref p, .int n, .bl b, .ref l] ∧ QuayAt K (a.cls b) H p d n ss ∧ Laid b n ss ∧ LnAt K H l (keys ss) ∧ LineOk n (keys ss) ∧ ∀ H', Same H H' → Q (.bl true) H'
abbrev N_l_stands : List Str := ["_law_quay", "_law_berths", "_law_around", "_law_line", "_law_held", "_law_due_here", "_law_free", "_law_others", "_law_name", "_law_wish", "_law_berth"]
def t_l_stands (K : PySem.W.Frag) (a : Ad) : TS :=
  (tSeq (tAsg (tCall (sp_l_lying K a) [] E0 (tCons (tVar 1) (tCons (tVar 2) (tCons (tVar 3) tNil)))) (gName 4))
    (tSeq (tAsg (tLc (iList K (tVar 3)) (gTup K 2 (gCons (gName 8) (gCons (gName 9) gNil))) tYes (tTup (tCons (tVar 8) (tCons (tVar 9) (tCons (tDGet (tVar 4) (tVar 8)) tNil)))) [8, 9]) (gName 5))
    (tSeq (tIfS (tOr (tTest (tOp (rNeT K) (tMethB a.cls "all_ships" (fun b => sp_M_all_ships K a b) (fun _ => E0) (tVar 0) tNil) (tVar 5))) (tNot (tB (tCB (rIsi K) (tCons (tMethB a.cls "all_ships" (fun b => sp_M_all_ships K a b) (fun _ => E0) (tVar 0) tNil) (tCons (tC (.ty "list")) tNil)))))) (tRet (tC (.bl false))) tNext)
    (tSeq (tAsg (tMethB a.cls "free_ones" (fun b => sp_M_free_ones K a b) (fun _ => E0) (tVar 0) tNil) (gName 6))
    (tSeq (tAsg (tLc (iRng2 (tCons (tC (.int 1)) (tCons (tOp rAddI (tVar 1) (tC (.int 1))) tNil))) (gName 10) (tB (tInVals true (tVar 10) (tVar 4))) (tVar 10) [10]) (gName 7))
    (tSeq (tIfS (tOr (tNot (tB (tCB (rIsi K) (tCons (tVar 6) (tCons (tC (.ty "list")) tNil))))) (tTest (tOp (rNeT K) (tVar 6) (tVar 7)))) (tRet (tC (.bl false))) tNext)
    (tSeq (tDrop (tBM K "list" rAppend (tVar 6) (tCons (tC (.int 0)) tNil)))
    (tSeq (tDrop (tBM0 K "list" rClear (tMethB a.cls "all_ships" (fun b => sp_M_all_ships K a b) (fun _ => E0) (tVar 0) tNil)))
    (tRet (tAndV (tOp rEq (tMethB a.cls "size" (fun b => sp_M_size K a b) (fun _ => E0) (tVar 0) tNil) (tVar 1)) (tOp rEq (tMethB a.cls "kind" (fun b => sp_M_kind K a b) (fun _ => E0) (tVar 0) tNil) (tOp (rIxL K) (tLst (tCons (tC (.str (Str.ofString "quay"))) (tCons (tC (.str (Str.ofString "round"))) tNil))) (tCB rInt1 (tCons (tVar 2) tNil))))))))))))))
theorem len_l_stands {K : PySem.W.Frag} {a : Ad} {vs : List V} {H : Hp} {Q : VK} {E : XK} (h : sp_l_stands K a vs H Q E) : vs.length = 4 := by
  obtain ⟨b, p, d, l, n, ss, rfl, _⟩ := h
  rfl
theorem pu_l_stands {K : PySem.W.Frag} {a : Ad} {vs : List V} {H : Hp} {Q : VK} {E : XK} (h : sp_l_stands K a vs H Q E) : t_l_stands K a { nx := fun _ H' => Q .non H', rt := Q } (start N_l_stands vs) H := by
  obtain ⟨b, p, d, l, n, ss, rfl, S, L, ⟨rs, el, pr⟩, ok, q⟩ := h
  have hn := ok.n1
  obtain ⟨dx, hp⟩ := S.ob
  have hks : (keys ss).length = ss.length := by simp [keys]
  have hrl := pd_len pr
  have hln := S.ln
  refine ⟨_, rfl, _, rfl, _, rfl, n, b, l, keys ss, rfl, ⟨rs, el, pr⟩, ok, ss, [], L, (List.append_nil _).symm, .inl ⟨rfl, fun hd H1 nhd s1 ehd => ?_⟩⟩
  refine ⟨_, rfl, l, rfl, ⟨_, sqL_of (s1 _ _ el)⟩, fun D nD => ?_⟩
  refine lc_it (walk_list (K := K) (a := l) (xs := rs)) (fun i H' => Same H1 H' ∧ ∃ ts, H' D = some (.lst ts) ∧ TrAt K H' ts (ss.take i)) ⟨same_new nD, [], upd_same, .nil⟩ (fun i H' _ h => h.1.seq (sqL_of (s1 _ _ el))) ?_ ?_
  · rintro i v H2 H3 hi ⟨s2, ts, ets, tr⟩ ⟨rfl, hv⟩
    obtain ⟨pp, hpp, tp, ev, ht⟩ := pd_get pr hv
    subst ev
    have ho : ∃ o, ss[i]? = some o ∧ pp = (o.1, o.2.1) := by
      unfold keys at hpp
      rw [List.getElem?_map] at hpp
      cases f : ss[i]? with
      | none => rw [f] at hpp; cases hpp
      | some o => rw [f] at hpp; exact ⟨o, rfl, (Option.some.inj hpp).symm⟩
    obtain ⟨o, ho, rfl⟩ := ho
    have v1 := hdL_old S.nd (List.mem_of_getElem? ho)
    refine ⟨tp, _, rfl, (s1.trans s2).seqT ht, rfl, _, _, rfl, _, _, rfl, rfl, rfl, ?_⟩
    dsimp only [tYes]
    rw [if_pos rfl]
    refine ⟨_, rfl, _, rfl, _, rfl, _, rfl, hd, .int o.2.2, rfl, ?_, (by show 3 ≤ sizeLine; decide), fun tq ntq => ?_⟩
    · rw [← v1]
      exact DGet.k (k := Sum.inr o.1) (s2 _ _ ehd)
    · have s3 := same_new ntq (o := .tup [.str o.1, .int o.2.1, .int o.2.2])
      have hts : ts.length < sizeLine := by
        rw [pd_len tr, List.length_take]
        exact small1000 (by omega)
      refine ⟨ts, s3 _ _ ets, hts, (s2.trans s3).store nD, _, upd_same, ?_⟩
      have tkE : TKeep (upd H3 tq (.tup [.str o.1, .int o.2.1, .int o.2.2])) (upd (upd H3 tq (.tup [.str o.1, .int o.2.1, .int o.2.2])) D (.lst (ts ++ [.ref tq]))) := tk_upd (nt_lst (s3 _ _ ets))
      rw [take_more ho]
      exact pd_snoc (a := V.ref tq) (b := o) (tr.tk ((tk_same s3).trans tkE)) ⟨tq, rfl, seqT_tk tkE (sqT_of upd_same)⟩
  · rintro H2 ⟨s2, ts, ets, tr⟩
    rw [hrl, hks, List.take_length] at tr
    have s02 := s1.trans s2
    have ehd2 := s2 _ _ ehd
    -- all_ships() against the due ones
    refine ⟨_, rfl, b, p, dx, _, rfl, s02 _ _ hp, by rfl, p, d, n, ss, rfl, S.same s02, fun l3 H3 r3 nl3 s3 el3 tr3 => ?_⟩
    refine ⟨_, rfl, neT_of (ho_tri (sqL_of el3) tr3) (ho_tri (sqL_of (s3 _ _ ets)) (tr.same s3)) (by decide) ⟨_, rfl, ?_⟩⟩
    have s03 := s02.trans s3
    rw [decide_eq_false (fun z => z rfl)]
    refine iteF ⟨_, rfl, b, p, dx, _, rfl, s03 _ _ hp, by rfl, p, d, n, ss, rfl, S.same s03, fun l4 H4 r4 nl4 s4 el4 tr4 => ?_⟩
    refine ⟨_, _, _, _, true, rfl, .ty _, tyX_own el4, kit_ll, true, rfl, iteF ?_⟩
    have s04 := s03.trans s4
    -- the free ones
    refine ⟨_, rfl, b, p, dx, _, rfl, s04 _ _ hp, by rfl, p, d, n, ss, rfl, S.same s04, fun l5 H5 nl5 s5 el5 => ?_⟩
    have s05 := s04.trans s5
    have ehd5 := s5 _ _ (s4 _ _ (s3 _ _ ehd2))
    have en : ((n : Int) + 1 - 1).toNat = n := by omega
    refine ⟨_, rfl, n, 1, rfl, rfl, 1, (n : Int) + 1, rfl, ⟨by omega, by omega, by omega, by omega⟩, ?_⟩
    rw [en]
    refine lc_pure (walk_range (lo := 1) (n := n)) (small1000 (by omega)) (allB n) (by simp [allB]) (fun x => !occS ss x) V.int (fun _ _ => trivial) ?_ ?_
    · intro j x v H6 H7 R hx s6 hy k
      obtain ⟨rfl, hv⟩ := hy
      have ev := allB_at hx
      replace hv : v = .int (1 + (j : Int)) := hv
      rw [← ev] at hv
      subst hv
      refine ⟨rfl, _, rfl, _, rfl, hd, _, _, x, rfl, rfl, s6 _ _ ehd5, hdL_vals, _, rfl, ?_⟩
      rw [if_pos rfl, occ_mem]
      have kk := k (.int x) _ (Same.refl _) fun _ => rfl
      cases e : occS ss x with
      | false =>
        rw [e] at kk
        exact iteT ⟨.int x, rfl, kk⟩
      | true =>
        have kk := k .non _ (Same.refl _) fun z => by rw [e] at z; cases z
        rw [e] at kk
        exact iteF kk
    · intro l6 H6 nl6 s6 el6
      have s06 := s05.trans s6
      refine ⟨_, rfl, _, _, _, _, true, rfl, .ty _, tyX_own (s6 _ _ el5), kit_ll, true, rfl, iteF ⟨_, rfl, _, rfl, neT_of (ho_ints (sqL_of (s6 _ _ el5))) (ho_ints (sqL_of el6)) (by decide) ⟨_, rfl, ?_⟩⟩⟩
      rw [decide_eq_false (fun z => z rfl)]
      refine iteF ⟨_, rfl, .inl ⟨rfl, _, sqL_of (s6 _ _ el5)⟩, l5, _, _, rfl, rfl, s6 _ _ el5, ?_, ?_⟩
      · rw [List.length_map]
        refine Nat.lt_of_le_of_lt (List.length_filter_le _ _) ?_
        have : (allB n).length = n := by simp [allB]
        rw [this]
        exact small1000 (by omega)
      have nl5' : H l5 = none := s04.free nl5
      have s07 := s06.store nl5' (o := .lst ((freeS n ss).map V.int ++ [V.int 0]))
      refine ⟨_, rfl, b, p, dx, _, rfl, s07 _ _ hp, by rfl, p, d, n, ss, rfl, S.same s07, fun l8 H8 r8 nl8 s8 el8 tr8 => ?_⟩
      have s08 := s07.trans s8
      refine ⟨.inl ⟨rfl, _, sqL_of el8⟩, l8, _, rfl, rfl, el8, ?_⟩
      have s09 := s08.store (s07.free nl8) (o := .lst [])
      refine ⟨_, rfl, b, p, dx, _, rfl, s09 _ _ hp, by rfl, p, d, n, ss, rfl, S.same s09, _, rfl, rfl, _, rfl, ?_⟩
      rw [decide_eq_true rfl]
      refine iteT ⟨_, rfl, b, p, dx, _, rfl, s09 _ _ hp, by rfl, p, dx, _, rfl, s09 _ _ hp, (by show 2 ≤ sizeLine; decide), fun lz nlz => ⟨_, rfl, ?_⟩⟩
      have s10 := s09.trans (same_new nlz (o := .lst [.str (Str.ofString "quay"), .str (Str.ofString "round")]))
      refine .inr ⟨b, rfl, lz, _, _, .str (kindS b), rfl, rfl, sqL_of upd_same, by cases b <;> rfl, rfl, ?_⟩
      rw [decide_eq_true rfl]
      exact q _ s10

/-! ### each move is nearer to its wish -/
def rDictP (K : PySem.W.Frag) : List V → Hp → VK → Prop := fun xs H Q => ∃ (a : Addr) (ps : List Addr) (kvs : List (Key × V)), xs = [.ref a] ∧ SqL K H a (ps.map V.ref) ∧ Paired (fun p kv => SqT K H p [kV kv.1, kv.2]) ps kvs ∧ ∀ p, H p = none → Q (.ref p) (upd H p (.dK (mergeK [] kvs)))
def fakeS (line : List (Str × Int)) : List Ship := line.map fun p => (p.1, 0, p.2)
theorem fake_names {line : List (Str × Int)} : (fakeS line).map (·.1) = line.map (·.1) := by
  unfold fakeS
  rw [List.map_map]
  rfl
theorem merge_new : ∀ (kvs acc : List (Key × V)), ((acc ++ kvs).map (·.1)).Nodup → mergeK acc kvs = acc ++ kvs
  | [], acc, _ => (List.append_nil _).symm
  | (k, v) :: r, acc, nd => by
    have h : valV acc k = none := by
      unfold valV
      rw [Option.map_eq_none_iff, List.find?_eq_none]
      intro kv hkv z
      rw [List.map_append, List.nodup_append] at nd
      have z : kv.1 = k := by simpa using z
      exact nd.2.2 kv.1 (List.mem_map_of_mem hkv) k (by rw [List.map_cons]; exact List.mem_cons_self) z
    show mergeK (putK acc k v) r = _
    rw [putK_new _ h, merge_new r (acc ++ [(k, v)]) (by rw [List.append_assoc]; exact nd), List.append_assoc]
    rfl
theorem pr_refs {K : PySem.W.Frag} {H : Hp} {rs : List V} {line : List (Str × Int)} (h : PrAt K H rs line) : ∃ ps : List Addr, rs = ps.map V.ref ∧ Paired (fun p (kv : Key × V) => SqT K H p [kV kv.1, kv.2]) ps (hdL (fakeS line)) := by
  induction h with
  | nil => exact ⟨[], rfl, .nil⟩
  | cons a _ ih =>
    obtain ⟨t, rfl, ht⟩ := a
    obtain ⟨ps, e, pd⟩ := ih
    exact ⟨t :: ps, by rw [e]; rfl, .cons ht pd⟩
theorem hdL_nd {ss : List Ship} (nd : (ss.map (·.1)).Nodup) : ((hdL ss).map (·.1)).Nodup := by
  have e : (hdL ss).map (·.1) = (ss.map (·.1)).map Sum.inr := by
    unfold hdL
    rw [List.map_map, List.map_map]
    rfl
  rw [e]
  unfold List.Nodup at nd ⊢
  rw [List.pairwise_map]
  exact nd.imp fun h z => h (Sum.inr.inj z)
def sp_l_nearer (K : PySem.W.Frag) (a : Ad) : Sp := fun vs H Q _ => ∃ (n : Nat) (b : Bool) (l m : Addr) (line : List (Str × Int)) (rs : List V) (ms : List Ship), vs = [.int n, .bl b, .ref l, .ref m] ∧ 1 ≤ n ∧ LnAt K H l line ∧ (line.map (·.1)).Nodup ∧ H m = some (.lst rs) ∧ TrAt K H rs ms ∧
  (∀ mv ∈ ms, ∃ w, (mv.1, w) ∈ line ∧ Near b n w mv.2.1 mv.2.2) ∧ ∀ H', Same H H' → Q (.bl true) H'
abbrev N_l_nearer : List Str := ["_law_berths", "_law_around", "_law_line", "_law_moves", "_law_wishes", "_law_name", "_law_one", "_law_other", "_law_far", "_law_berth"]
def t_l_nearer (K : PySem.W.Frag) (a : Ad) : TS :=
  (tSeq (tAsg (tCB (rDictP K) (tCons (tVar 2) tNil)) (gName 4))
    (tSeq (tFor (iList K (tVar 3)) (gTup K 3 (gCons (gName 5) (gCons (gName 6) (gCons (gName 7) gNil))))
    (tSeq (tAsg (tLc (iTup K (tTup (tCons (tVar 6) (tCons (tVar 7) tNil)))) (gName 9) tYes (tOp rModI (tOp rSubI (tVar 9) (tDGet (tVar 4) (tVar 5))) (tVar 0)) [9]) (gName 8))
    (tIfS (tOr (tTest (tOp rGeI (tOp (rIxL K) (tVar 8) (tC (.int 1))) (tOp (rIxL K) (tVar 8) (tC (.int 0))))) (tAnd (tNot (tB (tVar 1))) (tTest (tOp rLtI (tVar 7) (tDGet (tVar 4) (tVar 5)))))) (tRet (tC (.bl false))) tNext)))
    (tRet (tC (.bl true)))))
theorem len_l_nearer {K : PySem.W.Frag} {a : Ad} {vs : List V} {H : Hp} {Q : VK} {E : XK} (h : sp_l_nearer K a vs H Q E) : vs.length = 4 := by
  obtain ⟨n, b, l, m, line, rs, ms, rfl, _⟩ := h
  rfl
theorem pu_l_nearer {K : PySem.W.Frag} {a : Ad} {vs : List V} {H : Hp} {Q : VK} {E : XK} (h : sp_l_nearer K a vs H Q E) : t_l_nearer K a { nx := fun _ H' => Q .non H', rt := Q } (start N_l_nearer vs) H := by
  obtain ⟨n, b, l, m, line, rs, ms, rfl, hn, ⟨ls, el, pr⟩, nd, em, tr, near, q⟩ := h
  obtain ⟨ps, rfl, pd⟩ := pr_refs pr
  have nd' : ((fakeS line).map (·.1)).Nodup := by rw [fake_names]; exact nd
  refine ⟨_, rfl, l, ps, _, rfl, sqL_of el, pd, fun D nD => ?_⟩
  have em2 : mergeK [] (hdL (fakeS line)) = hdL (fakeS line) := (merge_new (hdL (fakeS line)) [] (by rw [List.nil_append]; exact hdL_nd nd')).trans (List.nil_append _)
  rw [em2]
  have s0 : Same H (upd H D (.dK (hdL (fakeS line)))) := same_new nD
  have eD : (upd H D (.dK (hdL (fakeS line)))) D = some (.dK (hdL (fakeS line))) := upd_same
  generalize (upd H D (.dK (hdL (fakeS line)))) = H0 at *
  refine ⟨_, rfl, m, rfl, ⟨_, sqL_of (s0 _ _ em)⟩, for_list (K := K) (a := m) (xs := rs) (fun i σ H' => (∃ y5 y6 y7 y8 y9, σ = [some (.int n), some (.bl b), some (.ref l), some (.ref m), some (.ref D), y5, y6, y7, y8, y9]) ∧ Same H0 H') ⟨⟨none, none, none, none, none, rfl⟩, Same.refl _⟩ (fun i σ H' _ h => sqL_of (h.2 _ _ (s0 _ _ em))) ?_ ?_⟩
  · rintro i v σ H1 hi ⟨⟨y5, y6, y7, y8, y9, rfl⟩, s1⟩
    obtain ⟨mv, hmv, tp, ev, ht⟩ := pd_get tr hi
    subst ev
    obtain ⟨w, hw, nr1, nr2⟩ := near mv (List.mem_of_getElem? hmv)
    have s01 := s0.trans s1
    have v1 := hdL_old nd' (s := (mv.1, 0, w)) (List.mem_map_of_mem (f := fun p : Str × Int => ((p.1, 0, p.2) : Ship)) hw)
    replace v1 : valV (hdL (fakeS line)) (Sum.inr mv.1 : Key) = some (.int w) := v1
    have g : ∀ H', Same H1 H' → DGet H' D (.str mv.1) (some (.int w)) := fun H' s' => by
      rw [← v1]
      exact DGet.k (k := Sum.inr mv.1) (s' _ _ (s1 _ _ eD))
    refine ⟨tp, _, rfl, s01.seqT ht, rfl, _, _, rfl, _, _, rfl, _, _, rfl, rfl, ?_⟩
    refine ⟨_, rfl, _, rfl, (by show 2 ≤ sizeLine; decide), fun t2 nt2 => ⟨t2, rfl, ⟨_, sqT_of upd_same⟩, ?_⟩⟩
    have s2 : Same H1 (upd H1 t2 (.tup [.int mv.2.1, .int mv.2.2])) := same_new nt2
    have et2 : (upd H1 t2 (.tup [.int mv.2.1, .int mv.2.2])) t2 = some (.tup [.int mv.2.1, .int mv.2.2]) := upd_same
    generalize (upd H1 t2 (.tup [.int mv.2.1, .int mv.2.2])) = H2 at *
    refine lc_pure (Qd := fun D H' => _) (walk_tup (K := K) (a := t2)) (by show 2 < sizeLine; decide) [mv.2.1, mv.2.2] rfl (fun _ => true) (fun x => V.int ((x - w) % n)) (fun H' s' => s'.seqT (sqT_of et2)) ?_ ?_
    · intro j x v H5 H6 R hx s5 hy k
      obtain ⟨rfl, hv⟩ := hy
      have hv2 : v = .int x := by
        have e : ([mv.2.1, mv.2.2].map V.int)[j]? = some v := hv
        rw [List.getElem?_map, hx] at e
        exact (Option.some.inj e).symm
      subst hv2
      refine ⟨rfl, ?_⟩
      refine iteT (B := R false .non H6) ⟨.int x, rfl, _, rfl, _, rfl, D, _, rfl, g _ (s2.trans s5), x, w, rfl, rfl, .int n, rfl, _, n, rfl, rfl, (by show (0 : Int) < n; omega), k _ _ (Same.refl _) fun _ => rfl⟩
    · intro D2 H3 nD2 s3 eD2
      have eD3 : H3 D2 = some (.lst [.int ((mv.2.1 - w) % n), .int ((mv.2.2 - w) % n)]) := eD2
      have s13 := s2.trans s3
      refine ⟨_, rfl, D2, _, 1, _, rfl, rfl, sqL_of eD3, atI_nat (j := 1) rfl, _, rfl, D2, _, 0, _, rfl, rfl, sqL_of eD3, atI_nat (j := 0) rfl, _, _, rfl, rfl, _, rfl, ?_⟩
      rw [decide_eq_false (show ¬ (mv.2.1 - w) % (n : Int) ≤ (mv.2.2 - w) % n by omega)]
      refine iteF ⟨.bl b, rfl, b, rfl, ?_⟩
      cases b with
      | true => exact iteF (iteF ⟨⟨_, _, _, _, _, rfl⟩, s1.trans s13⟩)
      | false =>
        refine iteT ⟨_, rfl, _, rfl, _, rfl, D, _, rfl, g _ s13, _, w, rfl, rfl, _, rfl, ?_⟩
        rw [decide_eq_false (show ¬ mv.2.2 < w by have := nr2 rfl; omega)]
        exact iteF ⟨⟨_, _, _, _, _, rfl⟩, s1.trans s13⟩
  · rintro σ H1 ⟨⟨y5, y6, y7, y8, y9, rfl⟩, s1⟩
    exact q H1 (s0.trans s1)

/-! ### a deed on the quay and what is due agree -/
theorem LnAt.but {K : PySem.W.Frag} {H H' : Hp} {d l : Addr} {kvs : List (Key × V)} {line : List (Str × Int)} (hd : H d = some (.dK kvs)) (k : ∀ c o, H c = some o → c ≠ d → H' c = some o) (h : LnAt K H l line) : LnAt K H' l line := by
  obtain ⟨rs, e, p⟩ := h
  have ne : l ≠ d := ne_of e hd (by intro z; cases z)
  exact ⟨rs, k _ _ e ne, pd_imp p fun _ _ ⟨t, q, r⟩ => ⟨t, q, seqT_but hd k r⟩⟩
theorem AnsAt.but {K : PySem.W.Frag} {H H' : Hp} {d : Addr} {kvs : List (Key × V)} {v : V} {A : Ans} (hd : H d = some (.dK kvs)) (k : ∀ c o, H c = some o → c ≠ d → H' c = some o) (h : AnsAt K H v A) : AnsAt K H' v A := by
  cases A with
  | word => exact h
  | num => exact h
  | moves ms =>
    obtain ⟨l, rs, e, el, tr⟩ := h
    have ne : l ≠ d := ne_of el hd (by intro z; cases z)
    exact ⟨l, rs, e, k _ _ el ne, tr.nt (nt_dK hd) k⟩
theorem kit_sb {K : PySem.W.Frag} : PySem.W.kitOne K (.type "str") (.type "bool") = some false := kit_ty (by decide +kernel)
theorem kit_sl {K : PySem.W.Frag} : PySem.W.kitOne K (.type "str") (.type "list") = some false := kit_ty (by decide +kernel)
theorem kit_il {K : PySem.W.Frag} : PySem.W.kitOne K (.type "int") (.type "list") = some false := kit_ty (by decide +kernel)
theorem kit_lb {K : PySem.W.Frag} : PySem.W.kitOne K (.type "list") (.type "bool") = some false := kit_ty (by decide +kernel)
def isMv : Ans → Bool
  | .moves _ => true
  | _ => false
theorem ans_ty {K : PySem.W.Frag} {H : Hp} {v : V} {A : Ans} (h : AnsAt K H v A) : ∃ T, TyX K H v T ∧ PySem.W.kitOne K T (.type "bool") = some false ∧ PySem.W.kitOne K T (.type "list") = some (isMv A) := by
  cases A with
  | word k =>
    cases h
    exact ⟨_, .base (.str _), kit_sb, kit_sl⟩
  | num l =>
    cases h
    exact ⟨_, .base (.int _), kit_ib, kit_il⟩
  | moves ms =>
    obtain ⟨l, rs, rfl, el, _⟩ := h
    exact ⟨_, tyX_own el, kit_lb, kit_ll⟩
theorem ans_ne {K : PySem.W.Frag} {H : Hp} {v f : V} {A : Ans} {Q : VK} (h : AnsAt K H v A) (g : AnsAt K H f A) (q : Q (.bl false) H) : rNeT K f v H Q := by
  cases A with
  | word k =>
    cases h
    cases g
    refine neT_of (α := Str) (.str _) (.str _) (by decide) ?_
    rw [decide_eq_false (fun z => z rfl)]
    exact q
  | num l =>
    cases h
    cases g
    refine neT_of (α := Int) (.int _) (.int _) (by decide) ?_
    rw [decide_eq_false (fun z => z rfl)]
    exact q
  | moves ms =>
    obtain ⟨l, rs, rfl, el, tr⟩ := h
    obtain ⟨l2, rs2, rfl, el2, tr2⟩ := g
    refine neT_of (ho_tri (sqL_of el2) tr2) (ho_tri (sqL_of el) tr) (by decide) ?_
    rw [decide_eq_false (fun z => z rfl)]
    exact q
/-- moves that are nearer, each -/
def NearMv (b : Bool) (n : Nat) (ss : List Ship) : Ans → Prop
  | .moves ms => ∀ mv ∈ ms, ∃ w, (mv.1, w) ∈ keys ss ∧ Near b n w mv.2.1 mv.2.2
  | _ => True
theorem due_ex {b : Bool} {n : Nat} {ss : List Ship} {dd : Dd} {x w : V} (L : Laid b n ss) (nd : (ss.map (·.1)).Nodup) (rg : ∀ s ∈ ss, 1 ≤ s.2.1 ∧ s.2.1 ≤ n) (hw : TySm w) : ∃ A ss', Due b n ss dd x w A ss' ∧ NearMv b n ss A ∧ Laid b n ss' ∧ ss'.length ≤ ss.length + 1 ∧ (∀ s ∈ keys ss', s ∈ keys ss ∨ ∃ t wi, s = (t, wi) ∧ isNm t = true) := by
  have same : ∀ s ∈ keys ss, s ∈ keys ss ∨ ∃ t wi, s = (t, wi) ∧ isNm t = true := fun s h => .inl h
  cases hx : nameV x with
  | false => exact ⟨_, _, .bad hx, trivial, L, by omega, same⟩
  | true =>
    obtain ⟨t, rfl, g⟩ := nameV_true hx
    by_cases hm : t ∈ ss.map (·.1)
    · cases dd with
      | come => exact ⟨_, _, .taken g hm, trivial, L, by omega, same⟩
      | «where» =>
        obtain ⟨s, hs, e⟩ := List.mem_map.mp hm
        exact ⟨_, _, .where g hs e, trivial, L, by omega, same⟩
      | leave =>
        obtain ⟨ss', L', hk, near, _⟩ := relaid (t := t) ss L nd rg
        refine ⟨_, _, .leave g hm L' hk, ?_, L', ?_, ?_⟩
        · intro mv hmv
          unfold movesOf at hmv
          obtain ⟨⟨o, s⟩, hz, e⟩ := List.mem_filterMap.mp hmv
          obtain ⟨i, hi⟩ := List.getElem?_of_mem hz
          rw [List.getElem?_zip_eq_some] at hi
          by_cases z : s.2.2 = o.2.2
          · simp [z] at e
          · simp only [z, if_false] at e
            have e := Option.some.inj e
            subst e
            rcases near i o s hi.1 hi.2 with q | q
            · exact absurd q z
            · have ho : o ∈ ss := (List.mem_filter.mp (List.mem_of_getElem? hi.1)).1
              exact ⟨o.2.1, List.mem_map_of_mem (f := fun s : Ship => (s.1, s.2.1)) ho, q⟩
        · have e := keys_len hk
          have : (others t ss).length ≤ ss.length := List.length_filter_le _ _
          omega
        · intro s hs
          rw [hk] at hs
          left
          obtain ⟨o, ho, e⟩ := List.mem_map.mp hs
          rw [← e]
          exact List.mem_map_of_mem (f := fun s : Ship => (s.1, s.2.1)) (List.mem_filter.mp ho).1
    · cases dd with
      | leave => exact ⟨_, _, .ship g hm (by intro z; cases z), trivial, L, by omega, same⟩
      | «where» => exact ⟨_, _, .ship g hm (by intro z; cases z), trivial, L, by omega, same⟩
      | come =>
        cases hi : inB 1 n w with
        | false => exact ⟨_, _, .wish g hm hi, trivial, L, by omega, same⟩
        | true =>
          obtain ⟨wi, rfl, w1, w2⟩ := inB_int hi
          cases ff : ffq b n (occS ss) wi with
          | none => exact ⟨_, _, .room g hm w1 w2 ff, trivial, L, by omega, same⟩
          | some l =>
            refine ⟨_, _, .come g hm w1 w2 ff, trivial, laid_snoc.mpr ⟨L, ff⟩, by rw [List.length_append]; exact Nat.le_refl _, fun s hs => ?_⟩
            rw [keys_snoc] at hs
            rcases List.mem_append.mp hs with hs | hs
            · exact .inl hs
            · rw [List.mem_singleton.mp hs]
              exact .inr ⟨t, wi, rfl, g⟩
theorem deed_of {K : PySem.W.Frag} {a : Ad} {b : Bool} {n : Nat} {ss ss' : List Ship} {p d : Addr} {dd : Dd} {x w : V} {A : Ans} {H : Hp} {Q : VK} (S : QuayAt K (a.cls b) H p d n ss) (hl : ss.length < 500) (tx : ∃ T, TyB K H x T) (xl : ∀ t, x = .str t → t.length ≤ sizeLine) (tw : ∃ T, TyB K H w T) (D : Due b n ss dd x w A ss')
    (k : ∀ v H', (∀ c o, H c = some o → c ≠ d → H' c = some o) → QuayAt K (a.cls b) H' p d n ss' → AnsAt K H' v A → Q v H') : sp_deed K a b dd (.ref p) x w H Q (DoneE a Q) := by
  have out : ∀ (r : Rk) (H' : Hp), A = .word r → ss' = ss → Same H H' → DoneE a Q (.ref (clsK a r)) none H' := fun r H' e1 e2 s => by
    subst e1 e2
    exact ⟨rfl, r, rfl, fun H'' s2 => k _ _ (fun c o e _ => (s.trans s2) _ _ e) (S.same (s.trans s2)) rfl⟩
  cases D with
  | bad hx =>
    cases dd with
    | come => exact ⟨p, d, n, ss, x, w, rfl, S, hl, tw, tx, xl, .inl ⟨hx, out .name H rfl rfl (Same.refl _)⟩⟩
    | leave => exact ⟨p, d, n, ss, x, rfl, S, tx, xl, .inl ⟨hx, out .name H rfl rfl (Same.refl _)⟩⟩
    | «where» => exact ⟨p, d, n, ss, x, rfl, S, tx, xl, .inl ⟨hx, out .name H rfl rfl (Same.refl _)⟩⟩
  | taken g hm => exact ⟨p, d, n, ss, _, w, rfl, S, hl, tw, tx, xl, .inr ⟨_, rfl, g, .inl ⟨hm, out .taken H rfl rfl (Same.refl _)⟩⟩⟩
  | wish g hm hi => exact ⟨p, d, n, ss, _, w, rfl, S, hl, tw, tx, xl, .inr ⟨_, rfl, g, .inr ⟨hm, .inl ⟨hi, out .wish H rfl rfl (Same.refl _)⟩⟩⟩⟩
  | room g hm w1 w2 ff => exact ⟨p, d, n, ss, _, _, rfl, S, hl, tw, tx, xl, .inr ⟨_, rfl, g, .inr ⟨hm, .inr ⟨_, rfl, w1, w2, .inl ⟨ff, fun H' s => out .room H' rfl rfl s⟩⟩⟩⟩⟩
  | @come t wi l g hm w1 w2 ff =>
    obtain ⟨l1, l2, _⟩ := ffq_rg ff w1
    exact ⟨p, d, n, ss, _, _, rfl, S, hl, tw, tx, xl, .inr ⟨_, rfl, g, .inr ⟨hm, .inr ⟨_, rfl, w1, w2, .inr ⟨l, ff, l1, l2, fun H' k1 S' => k _ _ k1 S' rfl⟩⟩⟩⟩⟩
  | ship g hm hne =>
    cases dd with
    | come => exact absurd rfl hne
    | leave => exact ⟨p, d, n, ss, _, rfl, S, tx, xl, .inr ⟨_, rfl, g, .inl ⟨hm, out .ship H rfl rfl (Same.refl _)⟩⟩⟩
    | «where» => exact ⟨p, d, n, ss, _, rfl, S, tx, xl, .inr ⟨_, rfl, g, .inl ⟨hm, out .ship H rfl rfl (Same.refl _)⟩⟩⟩
  | @«where» t _ s g hs e =>
    refine ⟨p, d, n, ss, _, rfl, S, tx, xl, .inr ⟨t, rfl, g, .inr ⟨by rw [← e]; exact List.mem_map_of_mem hs, fun s2 hs2 e2 => ?_⟩⟩⟩
    have : s2 = s := by
      have nd := S.nd
      obtain ⟨i, hi⟩ := List.getElem?_of_mem hs
      obtain ⟨j, hj⟩ := List.getElem?_of_mem hs2
      have h1 : (ss.map (·.1))[i]? = some t := by rw [List.getElem?_map, hi]; exact congrArg some e
      have h2 : (ss.map (·.1))[j]? = some t := by rw [List.getElem?_map, hj]; exact congrArg some e2
      have ij : i = j := (List.getElem?_inj (List.getElem?_eq_some_iff.mp h1).1 nd).mp (h1.trans h2.symm)
      subst ij
      rw [hi] at hj
      exact (Option.some.inj hj).symm
    rw [this]
    exact k _ _ (fun c o e _ => e) S rfl
  | @leave t _ ss' g hm L' hk =>
    exact ⟨p, d, n, ss, _, rfl, S, tx, xl, .inr ⟨t, rfl, g, .inr ⟨hm, ss', L', hk, fun l H' rs nl k1 S' el tr => k _ _ k1 S' ⟨l, rs, rfl, el, tr⟩⟩⟩⟩

/-! ### the law: quays that are kept -/
theorem cut_first (xs : List V) (k : Nat) : cutV xs none (some (k : Int)) = xs.take k := by
  unfold cutV
  rw [HT.sIx_nat, HT.sIx_none, List.drop_zero, Nat.sub_zero]
  by_cases h : k ≤ xs.length
  · rw [Nat.min_eq_left h]
  · rw [Nat.min_eq_right (by omega), List.take_of_length_le (Nat.le_refl _), List.take_of_length_le (by omega)]
theorem pickV {xs : List V} {r : Int} (h0 : 0 ≤ r) (h1 : r < xs.length) : ∃ x ∈ xs, atI xs r = some x := ⟨xs[r.toNat]'(by omega), List.getElem_mem _, at_of (j := r.toNat) (by omega) (List.getElem?_eq_getElem (by omega))⟩
def nmV : List V := [.str (Str.ofString "a"), .str (Str.ofString "b"), .str (Str.ofString "ab"), .str (Str.ofString "ba"), .str (Str.ofString "aa"), .str (Str.ofString "aab"), .str (Str.ofString "abcdefgh"), .str (Str.ofString "c"), .str (Str.ofString "cab"), .str (Str.ofString "A"), .str (Str.ofString ""), .str (Str.ofString "abcdefghi"), .non, .str (Str.ofString "a1")]
def lenV : V → Bool
  | .str t => decide (t.length ≤ 100)
  | .non => true
  | _ => false
theorem nmV_ok : ∀ x ∈ nmV, flatV x = true ∧ inV x badN = !nameV x ∧ lenV x = true := by
  have h : nmV.all (fun x => flatV x && (inV x badN == !nameV x) && lenV x) = true := by decide +kernel
  rw [List.all_eq_true] at h
  intro x hx
  have e := h x hx
  simp only [Bool.and_eq_true, beq_iff_eq] at e
  exact ⟨e.1.1, e.1.2, e.2⟩
theorem lenV_ty {K : PySem.W.Frag} {H : Hp} {x : V} (h : lenV x = true) : (∃ T, TyB K H x T) ∧ ∀ t, x = .str t → t.length ≤ sizeLine := by
  cases x with
  | str t => exact ⟨⟨_, .str t⟩, fun t' e => by cases e; exact l1000 (by have := of_decide_eq_true h; omega)⟩
  | non => exact ⟨⟨_, .non⟩, fun t' e => by cases e⟩
  | _ => cases h
theorem tySm_tyb {K : PySem.W.Frag} {H : Hp} {w : V} (h : TySm w) : ∃ T, TyB K H w T := by
  rcases h with ⟨i, rfl⟩ | ⟨b, rfl⟩ | rfl
  · exact ⟨_, .int i⟩
  · exact ⟨_, .bl b⟩
  · exact ⟨_, .non⟩
theorem QuayAt.nt2 {K : PySem.W.Frag} {C : Addr} {H H' : Hp} {p d c0 : Addr} {n : Nat} {ss : List Ship} (h : QuayAt K C H p d n ss) (nt : NT H c0) (k : ∀ c o, H c = some o → c ≠ c0 → H' c = some o) (hp : p ≠ c0) (hd : d ≠ c0) : QuayAt K C H' p d n ss := by
  obtain ⟨⟨dx, h1⟩, ⟨kvs, h2, h3⟩, h4, h5, h6, h7⟩ := h
  exact ⟨⟨dx, k _ _ h1 hp⟩, ⟨kvs, k _ _ h2 hd, h3.nt nt k⟩, h4, h5, h6, h7⟩
theorem LnAt.nt2 {K : PySem.W.Frag} {H H' : Hp} {l c0 : Addr} {line : List (Str × Int)} (h : LnAt K H l line) (nt : NT H c0) (k : ∀ c o, H c = some o → c ≠ c0 → H' c = some o) (hl : l ≠ c0) : LnAt K H' l line := by
  obtain ⟨rs, e, p⟩ := h
  exact ⟨rs, k _ _ e hl, pd_imp p fun _ _ ⟨t, q, r⟩ => ⟨t, q, seqT_nt nt k r⟩⟩
theorem ln_ne {K : PySem.W.Frag} {H : Hp} {l c0 : Addr} {line : List (Str × Int)} {st : Int} (h : LnAt K H l line) (e : H c0 = some (.lst [.int st])) : l ≠ c0 := fun z => by
  obtain ⟨rs, e1, p⟩ := h
  rw [z, e] at e1
  cases e1
  cases p with
  | cons a _ =>
    obtain ⟨t, q, _⟩ := a
    cases q
theorem mk_two {K : PySem.W.Frag} {a : Ad} {b : Bool} {n : Nat} {sa : V} {y3 y4 y5 y6 y7 y8 y9 y10 y11 y12 y13 y14 y15 : Option V} {rest : TS} {D : Ends} {H : Hp} (h1 : 1 ≤ n) (h2 : n ≤ 400)
    (k : ∀ (p d : Addr) (H2 : Hp), H p = none → H d = none → Same H H2 → QuayAt K (a.cls b) H2 p d n [] → rest D [some sa, some (.int n), some (.bl b), some (.ref p), y4, y5, y6, y7, y8, y9, y10, y11, y12, y13, y14, y15] H2) :
    (tSeq (tAsg (tMk a.c_Quay (sp_M_init K a false) (fun _ => E0) (tCons (tVar 1) tNil)) (gName 3)) (tSeq (tIfS (tB (tVar 2)) (tAsg (tMk a.c_Round (sp_M_init K a true) (fun _ => E0) (tCons (tVar 1) tNil)) (gName 3)) tNext) rest)) D
      [some sa, some (.int n), some (.bl b), y3, y4, y5, y6, y7, y8, y9, y10, y11, y12, y13, y14, y15] H := by
  refine ⟨_, rfl, fun x dx nx ndx nex => ⟨x, dx, .int n, rfl, upd_same, ChkQ.ok h1 h2 fun d H1 nd k1 S => ⟨rfl, ?_⟩⟩⟩
  have s0 : Same H (upd (upd H dx (.own x)) x (.ins a.c_Quay dx [])) := (same_new ndx).store nx
  have s1 : Same H H1 := fun c o e => k1 c o (s0 c o e) (ne_of_none e nx)
  have nd0 : H d = none := s0.free nd
  cases b with
  | false => exact ⟨.bl false, rfl, false, rfl, iteF (k x d H1 nx nd0 s1 S)⟩
  | true =>
    refine ⟨.bl true, rfl, true, rfl, iteT ⟨_, rfl, fun x2 dx2 nx2 ndx2 nex2 => ⟨x2, dx2, .int n, rfl, upd_same, ChkQ.ok h1 h2 fun d2 H2 nd2 k2 S2 => ⟨rfl, ?_⟩⟩⟩⟩
    have s2 : Same H1 (upd (upd H1 dx2 (.own x2)) x2 (.ins a.c_Round dx2 [])) := (same_new ndx2).store nx2
    have s3 : Same H1 H2 := fun c o e => k2 c o (s2 c o e) (ne_of_none e nx2)
    exact k x2 d2 H2 (s1.free nx2) (s1.free (s2.free nd2)) (s1.trans s3) S2
theorem q12 : (0 : Int) < 12 := by decide
theorem q14 : (0 : Int) < 14 := by decide
theorem q8' : (0 : Int) < 8 := by decide
theorem q5' : (0 : Int) < 5 := by decide
theorem q2' : (0 : Int) < 2 := by decide
theorem e14 {r : Int} : CDiv r 14 := ⟨by decide, by decide⟩
theorem e600 {r : Int} : CDiv r 600 := ⟨by decide, by decide⟩
theorem e5000 {r : Int} : CDiv r 5000 := ⟨by decide, by decide⟩
theorem e30000 {r : Int} : CDiv r 30000 := ⟨by decide, by decide⟩
theorem sm_wish {dr : Int} {n : Int} {w : V} (h : w ∈ [V.int dr, .int 1, .int n, .int dr, .int 0, .int (n + 1), .bl true, .non]) : TySm w := by
  simp only [List.mem_cons, List.not_mem_nil, or_false] at h
  rcases h with h | h | h | h | h | h | h | h
  · exact .inl ⟨_, h⟩
  · exact .inl ⟨_, h⟩
  · exact .inl ⟨_, h⟩
  · exact .inl ⟨_, h⟩
  · exact .inl ⟨_, h⟩
  · exact .inl ⟨_, h⟩
  · exact .inr (.inl ⟨_, h⟩)
  · exact .inr (.inr h)
theorem dd_word {w : V} (h : w ∈ [V.str (Str.ofString "come"), .str (Str.ofString "come"), .str (Str.ofString "leave"), .str (Str.ofString "where"), .str (Str.ofString "come")]) : ∃ dd, w = .str (ddS dd) := by
  simp only [List.mem_cons, List.not_mem_nil, or_false] at h
  rcases h with h | h | h | h | h
  · exact ⟨.come, h⟩
  · exact ⟨.come, h⟩
  · exact ⟨.leave, h⟩
  · exact ⟨.where, h⟩
  · exact ⟨.come, h⟩
theorem qst : (0 : Int) < 2147483646 := by decide
def sp_law (K : PySem.W.Frag) : Sp := fun vs H Q _ => ∃ (s : Addr) (ns : List Int), vs = [.ref s] ∧ SqL K H s (ns.map V.int) ∧ ns.length ≤ 63 ∧ ∀ H', Q (.bl true) H'
abbrev N_law : List Str := ["_law_script", "_law_berths", "_law_around", "_law_quay", "_law_line", "_law_state", "_law_cell", "_law_mix_here", "_law_some", "_law_name", "_law_drawn", "_law_wish", "_law_word", "_law_due_here", "_law_later", "_law_found"]
def t_law (K : PySem.W.Frag) (a : Ad) : TS :=
  (tSeq (tAsg (tOp rAddI (tC (.int 1)) (tOp rModI (tCall (sp_l_cell_at K) [] E0 (tCons (tVar 0) (tCons (tC (.int 0)) tNil))) (tC (.int 12)))) (gName 1))
    (tSeq (tFor (iList K (tLst (tCons (tC (.bl false)) (tCons (tC (.bl true)) tNil)))) (gName 2)
    (tSeq (tAsg (tMk a.c_Quay (sp_M_init K a false) (fun _ => E0) (tCons (tVar 1) tNil)) (gName 3))
    (tSeq (tIfS (tB (tVar 2)) (tAsg (tMk a.c_Round (sp_M_init K a true) (fun _ => E0) (tCons (tVar 1) tNil)) (gName 3)) tNext)
    (tSeq (tAsg (tLst tNil) (gName 4))
    (tSeq (tAsg (tLst (tCons (tOp rAddI (tC (.int 1)) (tOp rModI (tCall (sp_l_cell_at K) [] E0 (tCons (tVar 0) (tCons (tC (.int 0)) tNil))) (tC (.int 2147483646)))) tNil)) (gName 5))
    (tSeq (tFor (iList K (tSl (rSlL K) (tVar 0) tNoPart (tPart (tC (.int 120))))) (gName 6)
    (tSeq (tAsg (tCall (sp_l_mix K) [] E0 (tCons (tVar 5) (tCons (tVar 6) tNil))) (gName 7))
    (tSeq (tAsg (tLst (tCons (tC (.str (Str.ofString "a"))) (tCons (tC (.str (Str.ofString "b"))) (tCons (tC (.str (Str.ofString "ab"))) (tCons (tC (.str (Str.ofString "ba"))) (tCons (tC (.str (Str.ofString "aa"))) (tCons (tC (.str (Str.ofString "aab"))) (tCons (tC (.str (Str.ofString "abcdefgh"))) (tCons (tC (.str (Str.ofString "c"))) (tCons (tC (.str (Str.ofString "cab"))) (tCons (tC (.str (Str.ofString "A"))) (tCons (tC (.str (Str.ofString ""))) (tCons (tC (.str (Str.ofString "abcdefghi"))) (tCons (tC .non) (tCons (tC (.str (Str.ofString "a1"))) tNil))))))))))))))) (gName 8))
    (tSeq (tAsg (tOp (rIxL K) (tVar 8) (tOp rModI (tVar 7) (tC (.int 14)))) (gName 9))
    (tSeq (tAsg (tOp rAddI (tC (.int 1)) (tOp rModI (tOp rDivI (tVar 7) (tC (.int 14))) (tVar 1))) (gName 10))
    (tSeq (tAsg (tOp (rIxL K) (tLst (tCons (tVar 10) (tCons (tC (.int 1)) (tCons (tVar 1) (tCons (tVar 10) (tCons (tC (.int 0)) (tCons (tOp rAddI (tVar 1) (tC (.int 1))) (tCons (tC (.bl true)) (tCons (tC .non) tNil))))))))) (tOp rModI (tOp rDivI (tVar 7) (tC (.int 600))) (tC (.int 8)))) (gName 11))
    (tSeq (tAsg (tOp (rIxL K) (tLst (tCons (tC (.str (Str.ofString "come"))) (tCons (tC (.str (Str.ofString "come"))) (tCons (tC (.str (Str.ofString "leave"))) (tCons (tC (.str (Str.ofString "where"))) (tCons (tC (.str (Str.ofString "come"))) tNil)))))) (tOp rModI (tOp rDivI (tVar 7) (tC (.int 5000))) (tC (.int 5)))) (gName 12))
    (tSeq (tAsg (tCall (sp_l_due K a) [] E0 (tCons (tVar 1) (tCons (tVar 2) (tCons (tVar 4) (tCons (tTup (tCons (tVar 12) (tCons (tVar 9) (tCons (tVar 11) tNil)))) tNil))))) (gTup K 2 (gCons (gName 13) (gCons (gName 14) gNil))))
    (tSeq (tAsg (tCall (sp_l_done K a) [] E0 (tCons (tVar 3) (tCons (tTup (tCons (tVar 12) (tCons (tVar 9) (tCons (tVar 11) tNil)))) tNil))) (gName 15))
    (tSeq (tIfS (tOr (tTest (tOp (rNeT K) (tVar 15) (tVar 13))) (tOr (tB (tCB (rIsi K) (tCons (tVar 15) (tCons (tC (.ty "bool")) tNil)))) (tAnd (tB (tCB (rIsi K) (tCons (tVar 13) (tCons (tC (.ty "list")) tNil)))) (tNot (tB (tCB (rIsi K) (tCons (tVar 15) (tCons (tC (.ty "list")) tNil)))))))) (tRet (tC (.bl false))) tNext)
    (tSeq (tIfS (tAnd (tB (tCB (rIsi K) (tCons (tVar 13) (tCons (tC (.ty "list")) tNil)))) (tNot (tB (tCall (sp_l_nearer K a) [] E0 (tCons (tVar 1) (tCons (tVar 2) (tCons (tVar 4) (tCons (tVar 15) tNil)))))))) (tRet (tC (.bl false))) tNext)
    (tSeq (tAsg (tVar 14) (gName 4))
    (tIfS (tAnd (tTest (tOp rEq (tOp rModI (tOp rDivI (tVar 7) (tC (.int 30000))) (tC (.int 2))) (tC (.int 1)))) (tNot (tB (tCall (sp_l_stands K a) [] E0 (tCons (tVar 3) (tCons (tVar 1) (tCons (tVar 2) (tCons (tVar 4) tNil)))))))) (tRet (tC (.bl false))) tNext)))))))))))))
    (tIfS (tNot (tB (tCall (sp_l_stands K a) [] E0 (tCons (tVar 3) (tCons (tVar 1) (tCons (tVar 2) (tCons (tVar 4) tNil))))))) (tRet (tC (.bl false))) tNext)))))))
    (tRet (tC (.bl true)))))
theorem len_law {K : PySem.W.Frag} {vs : List V} {H : Hp} {Q : VK} {E : XK} (h : sp_law K vs H Q E) : vs.length = 1 := by
  obtain ⟨s, ns, rfl, _⟩ := h
  rfl
theorem lineOk_of {K : PySem.W.Frag} {C : Addr} {H : Hp} {p d : Addr} {n : Nat} {ss : List Ship} (S : QuayAt K C H p d n ss) : LineOk n (keys ss) := by
  refine ⟨S.n1, fun q hq => ?_, ?_, ?_⟩
  · obtain ⟨s, hs, rfl⟩ := List.mem_map.mp hq
    have := S.rg s hs
    exact ⟨this.1, this.2.1⟩
  · rw [← names_keys]
    exact S.nd
  · have := S.ln
    simp [keys]
    exact this
theorem tail12 {K : PySem.W.Frag} {a : Ad} {b : Bool} {n : Nat} {p d l' : Addr} {ss' : List Ship} {r : Int} {v0 v4 v5 v6 v8 v9 v10 v11 v12 v13 v15 : Option V} {D : Ends} {H : Hp} (S : QuayAt K (a.cls b) H p d n ss') (L : Laid b n ss') (ln : LnAt K H l' (keys ss'))
    (k : ∀ H', Same H H' → D.nx [v0, some (.int n), some (.bl b), some (.ref p), some (.ref l'), v5, v6, some (.int r), v8, v9, v10, v11, v12, v13, some (.ref l'), v15] H') :
    (tSeq (tAsg (tVar 14) (gName 4)) (tIfS (tAnd (tTest (tOp rEq (tOp rModI (tOp rDivI (tVar 7) (tC (.int 30000))) (tC (.int 2))) (tC (.int 1)))) (tNot (tB (tCall (sp_l_stands K a) [] E0 (tCons (tVar 3) (tCons (tVar 1) (tCons (tVar 2) (tCons (tVar 4) tNil)))))))) (tRet (tC (.bl false))) tNext)) D
      [v0, some (.int n), some (.bl b), some (.ref p), v4, v5, v6, some (.int r), v8, v9, v10, v11, v12, v13, some (.ref l'), v15] H := by
  refine ⟨_, rfl, _, rfl, r, 30000, rfl, rfl, e30000, _, 2, rfl, rfl, q2', rfl, _, rfl, ite2 (fun _ => ?_) (fun _ => iteF (k H (Same.refl _)))⟩
  exact ⟨_, rfl, _, rfl, _, rfl, _, rfl, b, p, d, l', n, ss', rfl, S, L, ln, lineOk_of S, fun H' s' => ⟨true, rfl, iteF (k H' s')⟩⟩
theorem pu_law {K : PySem.W.Frag} {a : Ad} {vs : List V} {H : Hp} {Q : VK} {E : XK} (h : sp_law K vs H Q E) : t_law K a { nx := fun _ H' => Q .non H', rt := Q } (start N_law vs) H := by
  obtain ⟨sa, ns, rfl, hs, hl, q⟩ := h
  refine ⟨.ref sa, rfl, sa, ns, _, rfl, hs, by decide, _, 12, rfl, rfl, q12, 1, _, rfl, rfl, ?_⟩
  have b1 := Int.emod_nonneg (cellAt ns 0) (show (12 : Int) ≠ 0 by decide)
  have b2 := Int.emod_lt_of_pos (cellAt ns 0) q12
  obtain ⟨n, en⟩ : ∃ n : Nat, 1 + cellAt ns 0 % 12 = (n : Int) := ⟨(1 + cellAt ns 0 % 12).toNat, by omega⟩
  show gName 1 (V.int (1 + cellAt ns 0 % 12)) _ _ _
  rw [en]
  have n1 : 1 ≤ n := by omega
  have n2 : n ≤ 12 := by omega
  have n4 : n ≤ 400 := by omega
  refine ⟨(by show 2 ≤ sizeLine; decide), fun lb nlb => ⟨lb, rfl, ⟨_, sqL_of upd_same⟩, ?_⟩⟩
  have s0 : Same H (upd H lb (.lst [.bl false, .bl true])) := same_new nlb
  have elb : (upd H lb (.lst [.bl false, .bl true])) lb = some (.lst [.bl false, .bl true]) := upd_same
  replace hs := s0.seq hs
  generalize (upd H lb (.lst [.bl false, .bl true])) = H0 at *
  refine for_list (K := K) (a := lb) (xs := [.bl false, .bl true]) (fun i σ H' => (∃ y2 y3 y4 y5 y6 y7 y8 y9 y10 y11 y12 y13 y14 y15, σ = [some (.ref sa), some (.int n), y2, y3, y4, y5, y6, y7, y8, y9, y10, y11, y12, y13, y14, y15]) ∧ Same H0 H')
    ⟨⟨none, none, none, none, none, none, none, none, none, none, none, none, none, none, rfl⟩, Same.refl _⟩ (fun i σ H' _ h => sqL_of (h.2 _ _ elb)) ?_ ?_
  rotate_left
  · rintro σ H1 ⟨⟨y2, y3, y4, y5, y6, y7, y8, y9, y10, y11, y12, y13, y14, y15, rfl⟩, s1⟩
    exact q H1
  rintro i v σ H1 hi ⟨⟨y2, y3, y4, y5, y6, y7, y8, y9, y10, y11, y12, y13, y14, y15, rfl⟩, s1⟩
  obtain ⟨b, rfl⟩ : ∃ b, v = .bl b := by
    rcases List.mem_cons.mp (List.mem_of_getElem? hi) with e | e
    · exact ⟨_, e⟩
    · exact ⟨_, List.mem_singleton.mp e⟩
  refine mk_two n1 n4 fun p d H2 np nd s2 S2 => ?_
  have s12 := s1.trans s2
  refine ⟨Nat.zero_le _, fun l nl => ?_⟩
  have s3 : Same H2 (upd H2 l (.lst [])) := same_new nl
  have ln0 : LnAt K (upd H2 l (.lst [])) l (keys []) := ⟨[], upd_same, .nil⟩
  have S3 := S2.same s3
  generalize (upd H2 l (.lst [])) = H3 at *
  have s13 := s12.trans s3
  refine ⟨.ref sa, rfl, sa, ns, _, rfl, s13.seq hs, by decide, _, 2147483646, rfl, rfl, qst, 1, _, rfl, rfl, l1000 (by show 1 ≤ 1000; decide), fun stl nst => ?_⟩
  have c1 := Int.emod_nonneg (cellAt ns 0) (show (2147483646 : Int) ≠ 0 by decide)
  have c2 := Int.emod_lt_of_pos (cellAt ns 0) qst
  have s4 : Same H3 (upd H3 stl (.lst [.int (1 + cellAt ns 0 % 2147483646)])) := same_new nst
  have est : (upd H3 stl (.lst [.int (1 + cellAt ns 0 % 2147483646)])) stl = some (.lst [.int (1 + cellAt ns 0 % 2147483646)]) := upd_same
  generalize (upd H3 stl (.lst [.int (1 + cellAt ns 0 % 2147483646)])) = H4 at *
  have s14 := s13.trans s4
  have S4 := S3.same s4
  have ln4 := ln0.same s4
  have nstl1 : H1 stl = none := s2.free (s3.free nst)
  refine ⟨_, rfl, 120, rfl, sa, _, rfl, s14.seq hs, fun lc nlc => ?_⟩
  have ecut : cutV (ns.map V.int) none (some 120) = (ns.map V.int).take 120 := cut_first _ 120
  rw [ecut]
  have s5 : Same H4 (upd H4 lc (.lst ((ns.map V.int).take 120))) := same_new nlc
  have elc : (upd H4 lc (.lst ((ns.map V.int).take 120))) lc = some (.lst ((ns.map V.int).take 120)) := upd_same
  generalize (upd H4 lc (.lst ((ns.map V.int).take 120))) = H5 at *
  obtain ⟨dx0, hp5⟩ := (S4.same s5).ob
  obtain ⟨kv0, hd5, _⟩ := (S4.same s5).dc
  have est5 := s5 _ _ est
  have lcp : lc ≠ p := fun z => by rw [z, hp5] at elc; cases elc
  have lcd : lc ≠ d := fun z => by rw [z, hd5] at elc; cases elc
  have lcs : lc ≠ stl := fun z => by rw [z] at nlc; rw [nlc] at est; cases est
  have pst : p ≠ stl := fun z => by rw [z, est5] at hp5; cases hp5
  have dst : d ≠ stl := fun z => by rw [z, est5] at hd5; cases hd5
  refine ⟨lc, rfl, ⟨_, sqL_of elc⟩, for_list (K := K) (a := lc) (xs := (ns.map V.int).take 120) (fun i σ H' => ∃ (l : Addr) (ss : List Ship) (st : Int), (∃ y6 y7 y8 y9 y10 y11 y12 y13 y14 y15, σ = [some (.ref sa), some (.int n), some (.bl b), some (.ref p), some (.ref l), some (.ref stl), y6, y7, y8, y9, y10, y11, y12, y13, y14, y15]) ∧
      Same H1 H' ∧ H' lc = some (.lst ((ns.map V.int).take 120)) ∧ QuayAt K (a.cls b) H' p d n ss ∧ Laid b n ss ∧ LnAt K H' l (keys ss) ∧ ss.length ≤ i ∧ H' stl = some (.lst [.int st]) ∧ 0 ≤ st ∧ st < 2147483647)
    ⟨l, [], _, ⟨_, _, _, _, _, _, _, _, _, _, rfl⟩, (s2.trans s3).trans (s4.trans s5), elc, S4.same s5, laid_nil, ln4.same s5, Nat.le_refl _, est5, by omega, by omega⟩ (fun i σ H' _ h => by obtain ⟨_, _, _, _, _, h, _⟩ := h; exact sqL_of h) ?_ ?_⟩
  · rintro i2 v σ H6 hi2 ⟨l, ss, st, ⟨y6, y7, y8, y9, y10, y11, y12, y13, y14, y15, rfl⟩, s6, elc6, S6, L6, ln6, hlen, est6, h0, h1⟩
    have hi63 : i2 < 63 := by
      have e := (List.getElem?_eq_some_iff.mp hi2).1
      rw [List.length_take, List.length_map] at e
      omega
    obtain ⟨c, rfl⟩ : ∃ c, v = .int c := by
      obtain ⟨c, _, e⟩ := List.mem_map.mp (List.mem_of_mem_take (List.mem_of_getElem? hi2))
      exact ⟨c, e.symm⟩
    refine ⟨_, rfl, _, rfl, stl, st, c, rfl, est6, h0, h1, fun st' r a1 a2 r1 r2 => ?_⟩
    have k7 : ∀ c o, H6 c = some o → c ≠ stl → (upd H6 stl (.lst [.int st'])) c = some o := fun c o e ne => by rw [upd_ne ne]; exact e
    have S7 := S6.nt2 (nt_lst est6) k7 pst dst
    have ln7 := ln6.nt2 (nt_lst est6) k7 (ln_ne ln6 est6)
    have s7 : Same H1 (upd H6 stl (.lst [.int st'])) := s6.store nstl1
    have elc7 := k7 _ _ elc6 lcs
    have est7 : (upd H6 stl (.lst [.int st'])) stl = some (.lst [.int st']) := upd_same
    generalize (upd H6 stl (.lst [.int st'])) = H7 at *
    -- the name
    refine ⟨(by show 14 ≤ sizeLine; decide), fun lnm nlnm => ?_⟩
    have s8 : Same H7 (upd H7 lnm (.lst nmV)) := same_new nlnm
    obtain ⟨x, hx, ex⟩ := pickV (xs := nmV) (r := r % 14) (Int.emod_nonneg _ (by decide)) (Int.emod_lt_of_pos _ q14)
    refine ⟨_, rfl, _, rfl, r, 14, rfl, rfl, q14, lnm, _, _, x, rfl, rfl, sqL_of upd_same, ex, ?_⟩
    -- the wish
    refine ⟨_, rfl, r, 14, rfl, rfl, e14, _, rfl, _, n, rfl, rfl, (by show (0 : Int) < n; omega), 1, _, rfl, rfl, ?_⟩
    refine ⟨_, rfl, _, rfl, _, rfl, _, rfl, n, 1, rfl, rfl, (by show 8 ≤ sizeLine; decide), fun lw nlw => ?_⟩
    have s9 := same_new nlw (o := .lst [V.int (1 + r / 14 % n), .int 1, .int n, .int (1 + r / 14 % n), .int 0, .int ((n : Int) + 1), .bl true, .non])
    obtain ⟨w, hw, ew⟩ := pickV (xs := [V.int (1 + r / 14 % n), .int 1, .int n, .int (1 + r / 14 % n), .int 0, .int ((n : Int) + 1), .bl true, .non]) (r := r / 600 % 8) (Int.emod_nonneg _ (by decide)) (Int.emod_lt_of_pos _ q8')
    replace hw := sm_wish hw
    refine ⟨_, rfl, r, 600, rfl, rfl, e600, _, 8, rfl, rfl, q8', lw, _, _, w, rfl, rfl, sqL_of upd_same, ew, ?_⟩
    -- the word
    refine ⟨(by show 5 ≤ sizeLine; decide), fun lq nlq => ?_⟩
    have s10 := same_new nlq (o := .lst [V.str (Str.ofString "come"), .str (Str.ofString "come"), .str (Str.ofString "leave"), .str (Str.ofString "where"), .str (Str.ofString "come")])
    obtain ⟨wd, hwd, ewd⟩ := pickV (xs := [V.str (Str.ofString "come"), .str (Str.ofString "come"), .str (Str.ofString "leave"), .str (Str.ofString "where"), .str (Str.ofString "come")]) (r := r / 5000 % 5) (Int.emod_nonneg _ (by decide)) (Int.emod_lt_of_pos _ q5')
    obtain ⟨dd, rfl⟩ := dd_word hwd
    refine ⟨_, rfl, r, 5000, rfl, rfl, e5000, _, 5, rfl, rfl, q5', lq, _, _, _, rfl, rfl, sqL_of upd_same, ewd, ?_⟩
    have s710 := (s8.trans s9).trans s10
    -- what is due
    obtain ⟨A, ss', D, near, L', hlen', _⟩ := due_ex (dd := dd) (x := x) (w := w) L6 S6.nd (fun s hs => ⟨(S6.rg s hs).1, (S6.rg s hs).2.1⟩) hw
    obtain ⟨fx, ix, lx⟩ := nmV_ok x hx
    refine ⟨_, rfl, _, rfl, _, rfl, _, rfl, _, rfl, _, rfl, (by show 3 ≤ sizeLine; decide), fun te nte => ?_⟩
    have s11 := same_new nte (o := .tup [V.str (ddS dd), x, w])
    refine ⟨n, b, l, te, ss, dd, x, w, A, ss', rfl, (ln7.same s710).same s11, lineOk_of S7, by omega, L6, sqT_of upd_same, fx, ix, hw, D, fun rr l' v1 H12 nrr s12' hrr hA hl' => ?_⟩
    have s712 := (s710.trans s11).trans s12'
    refine ⟨rr, _, rfl, hrr, rfl, _, _, rfl, _, _, rfl, rfl, ?_⟩
    -- what is done
    refine ⟨_, rfl, _, rfl, _, rfl, _, rfl, (by show 3 ≤ sizeLine; decide), fun t2 nt2 => ?_⟩
    have s13' := same_new nt2 (o := .tup [V.str (ddS dd), x, w])
    have s713 := s712.trans s13'
    have S13 := S7.same s713
    have hA13 := hA.same s13'
    have hl13 := hl'.same s13'
    have ln13 := ln7.same s713
    have elc13 := s713 _ _ elc7
    have est13 := s713 _ _ est7
    have s113 := s7.trans s713
    obtain ⟨kvd, hd13, _⟩ := S13.dc
    refine ⟨b, p, t2, dd, x, w, rfl, sqT_of upd_same, deed_of S13 (by omega) (lenV_ty lx).1 (lenV_ty (K := K) (H := H) lx).2 (tySm_tyb hw) D fun f H14 k14 S14 hf => ?_⟩
    have hA14 := hA13.but hd13 k14
    have hl14 := hl13.but hd13 k14
    have ln14 := ln13.but hd13 k14
    have elc14 := k14 _ _ elc13 lcd
    have est14 := k14 _ _ est13 dst.symm
    have s114 : Same H1 H14 := fun c o e => k14 c o (s113 c o e) (ne_of_none e nd)
    clear S13 hA13 hl13 ln13 elc13 est13 s113 hd13 k14
    obtain ⟨Tf, tf, tfb, tfl⟩ := ans_ty hf
    obtain ⟨Tv, tv, tvb, tvl⟩ := ans_ty hA14
    refine ⟨_, rfl, _, rfl, ans_ne hA14 hf ⟨false, rfl, iteF ⟨_, rfl, _, _, _, _, false, rfl, .ty _, tf, tfb, false, rfl, iteF ⟨_, rfl, _, _, _, _, _, rfl, .ty _, tv, tvl, _, rfl, ?_⟩⟩⟩⟩
    -- the end of the turn
    have fin : ∀ (H16 : Hp) (z13 z15 : Option V), Same H14 H16 → ∃ (l : Addr) (ss : List Ship) (st : Int), (∃ y6 y7 y8 y9 y10 y11 y12 y13 y14 y15, [some (.ref sa), some (.int n), some (.bl b), some (.ref p), some (.ref l'), some (.ref stl), some (.int c), some (.int r), some (.ref lnm), some x, some (.int (1 + r / 14 % n)), some w, some (.str (ddS dd)), z13, some (.ref l'), z15] = [some (.ref sa), some (.int n), some (.bl b), some (.ref p), some (.ref l), some (.ref stl), y6, y7, y8, y9, y10, y11, y12, y13, y14, y15]) ∧
            Same H1 H16 ∧ H16 lc = some (.lst ((ns.map V.int).take 120)) ∧ QuayAt K (a.cls b) H16 p d n ss ∧ Laid b n ss ∧ LnAt K H16 l (keys ss) ∧ ss.length ≤ i2 + 1 ∧ H16 stl = some (.lst [.int st]) ∧ 0 ≤ st ∧ st < 2147483647 := fun H16 z13 z15 s16 =>
      ⟨l', ss', st', ⟨_, _, _, _, _, _, _, _, _, _, rfl⟩, s114.trans s16, s16 _ _ elc14, S14.same s16, L', hl14.same s16, by omega, s16 _ _ est14, a1, a2⟩
    cases hmv : isMv A with
    | false =>
      rw [hmv] at tvl
      refine iteF (iteF ⟨_, rfl, _, _, _, _, _, rfl, .ty _, tv, tvl, _, rfl, iteF (iteF (tail12 S14 L' hl14 fun H16 s16 => fin H16 _ _ s16))⟩)
    | true =>
      rw [hmv] at tvl tfl
      refine iteT ⟨_, rfl, _, _, _, _, _, rfl, .ty _, tf, tfl, true, rfl, iteF ⟨_, rfl, _, _, _, _, _, rfl, .ty _, tv, tvl, _, rfl, iteT ?_⟩⟩
      cases A with
      | word => cases hmv
      | num => cases hmv
      | moves ms =>
        obtain ⟨fm, frs, rfl, efm, ftr⟩ := hf
        refine ⟨_, rfl, _, rfl, _, rfl, _, rfl, n, b, l, fm, keys ss, frs, ms, rfl, n1, ln14, by rw [← names_keys]; exact S6.nd, efm, ftr, near, fun H15 s15 => ⟨true, rfl, iteF (tail12 (S14.same s15) L' (hl14.same s15) fun H16 s16 => fin H16 _ _ (s15.trans s16))⟩⟩
  · rintro σ H6 ⟨l, ss, st, ⟨y6, y7, y8, y9, y10, y11, y12, y13, y14, y15, rfl⟩, s6, elc6, S6, L6, ln6, hlen, est6, h0, h1⟩
    refine ⟨_, rfl, _, rfl, _, rfl, _, rfl, b, p, d, l, n, ss, rfl, S6, L6, ln6, lineOk_of S6, fun H7 s7 => ⟨true, rfl, iteF ⟨⟨_, _, _, _, _, _, _, _, _, _, _, _, _, _, rfl⟩, s1.trans (s6.trans s7)⟩⟩⟩

section
variable {P : Program} {w : World} {K : PySem.W.Frag} {mg : Str → Option Value} {base : Heap} {a : Ad}
def topS (i : Nat) : Stmt := PySem.Challenge.pw_berthrow_k12_whole_quays_kept.main.body.getD i (.Pass ⟨0, 0, 0, 0⟩)
structure Txt (K : PySem.W.Frag) (mg : Str → Option Value) (a : Ad) : Prop where
  t_0 : True
  b_bool : mg "bool" = none
  b_dict : mg "dict" = none
  b_int : mg "int" = none
  b_isinstance : mg "isinstance" = none
  b_len : mg "len" = none
  b_list : mg "list" = none
  b_range : mg "range" = none
  b_str : mg "str" = none
  b_type : mg "type" = none
  c_MOST : ∃ u, mg "MOST" = some u ∧ RelV (.int 400) u
  c_LONGEST : ∃ u, mg "LONGEST" = some u ∧ RelV (.int 8) u
  e_BerthError : ExF K mg "BerthError" a.e_BerthError
  e_NoCount : ExF K mg "NoCount" a.e_NoCount
  e_NoName : ExF K mg "NoName" a.e_NoName
  e_NoOrder : ExF K mg "NoOrder" a.e_NoOrder
  e_NoQuay : ExF K mg "NoQuay" a.e_NoQuay
  e_NoRoom : ExF K mg "NoRoom" a.e_NoRoom
  e_NoShip : ExF K mg "NoShip" a.e_NoShip
  e_NoText : ExF K mg "NoText" a.e_NoText
  e_NoTree : ExF K mg "NoTree" a.e_NoTree
  e_NoWish : ExF K mg "NoWish" a.e_NoWish
  e_NoWishes : ExF K mg "NoWishes" a.e_NoWishes
  e_Taken : ExF K mg "Taken" a.e_Taken
  e_TooMany : ExF K mg "TooMany" a.e_TooMany
  g_BerthError : ExG K a.e_BerthError
  g_NoCount : ExG K a.e_NoCount
  g_NoOrder : ExG K a.e_NoOrder
  g_NoQuay : ExG K a.e_NoQuay
  g_NoText : ExG K a.e_NoText
  g_NoTree : ExG K a.e_NoTree
  g_NoWishes : ExG K a.e_NoWishes
  g_TooMany : ExG K a.e_TooMany
  g_NoName : ExG K a.e_NoName
  g_Taken : ExG K a.e_Taken
  g_NoWish : ExG K a.e_NoWish
  g_NoRoom : ExG K a.e_NoRoom
  g_NoShip : ExG K a.e_NoShip
  s_NoName_BerthError : PySem.W.subIn K (.ref a.e_NoName) (.ref a.e_BerthError) = some true
  s_NoName_NoCount : PySem.W.subIn K (.ref a.e_NoName) (.ref a.e_NoCount) = some false
  s_NoName_NoOrder : PySem.W.subIn K (.ref a.e_NoName) (.ref a.e_NoOrder) = some false
  s_NoName_NoQuay : PySem.W.subIn K (.ref a.e_NoName) (.ref a.e_NoQuay) = some false
  s_NoName_NoText : PySem.W.subIn K (.ref a.e_NoName) (.ref a.e_NoText) = some false
  s_NoName_NoTree : PySem.W.subIn K (.ref a.e_NoName) (.ref a.e_NoTree) = some false
  s_NoName_NoWishes : PySem.W.subIn K (.ref a.e_NoName) (.ref a.e_NoWishes) = some false
  s_NoName_TooMany : PySem.W.subIn K (.ref a.e_NoName) (.ref a.e_TooMany) = some false
  s_NoName_NoName : PySem.W.subIn K (.ref a.e_NoName) (.ref a.e_NoName) = some true
  s_NoName_Taken : PySem.W.subIn K (.ref a.e_NoName) (.ref a.e_Taken) = some false
  s_NoName_NoWish : PySem.W.subIn K (.ref a.e_NoName) (.ref a.e_NoWish) = some false
  s_NoName_NoRoom : PySem.W.subIn K (.ref a.e_NoName) (.ref a.e_NoRoom) = some false
  s_NoName_NoShip : PySem.W.subIn K (.ref a.e_NoName) (.ref a.e_NoShip) = some false
  s_Taken_BerthError : PySem.W.subIn K (.ref a.e_Taken) (.ref a.e_BerthError) = some true
  s_Taken_NoCount : PySem.W.subIn K (.ref a.e_Taken) (.ref a.e_NoCount) = some false
  s_Taken_NoOrder : PySem.W.subIn K (.ref a.e_Taken) (.ref a.e_NoOrder) = some false
  s_Taken_NoQuay : PySem.W.subIn K (.ref a.e_Taken) (.ref a.e_NoQuay) = some false
  s_Taken_NoText : PySem.W.subIn K (.ref a.e_Taken) (.ref a.e_NoText) = some false
  s_Taken_NoTree : PySem.W.subIn K (.ref a.e_Taken) (.ref a.e_NoTree) = some false
  s_Taken_NoWishes : PySem.W.subIn K (.ref a.e_Taken) (.ref a.e_NoWishes) = some false
  s_Taken_TooMany : PySem.W.subIn K (.ref a.e_Taken) (.ref a.e_TooMany) = some false
  s_Taken_NoName : PySem.W.subIn K (.ref a.e_Taken) (.ref a.e_NoName) = some false
  s_Taken_Taken : PySem.W.subIn K (.ref a.e_Taken) (.ref a.e_Taken) = some true
  s_Taken_NoWish : PySem.W.subIn K (.ref a.e_Taken) (.ref a.e_NoWish) = some false
  s_Taken_NoRoom : PySem.W.subIn K (.ref a.e_Taken) (.ref a.e_NoRoom) = some false
  s_Taken_NoShip : PySem.W.subIn K (.ref a.e_Taken) (.ref a.e_NoShip) = some false
  s_NoWish_BerthError : PySem.W.subIn K (.ref a.e_NoWish) (.ref a.e_BerthError) = some true
  s_NoWish_NoCount : PySem.W.subIn K (.ref a.e_NoWish) (.ref a.e_NoCount) = some false
  s_NoWish_NoOrder : PySem.W.subIn K (.ref a.e_NoWish) (.ref a.e_NoOrder) = some false
  s_NoWish_NoQuay : PySem.W.subIn K (.ref a.e_NoWish) (.ref a.e_NoQuay) = some false
  s_NoWish_NoText : PySem.W.subIn K (.ref a.e_NoWish) (.ref a.e_NoText) = some false
  s_NoWish_NoTree : PySem.W.subIn K (.ref a.e_NoWish) (.ref a.e_NoTree) = some false
  s_NoWish_NoWishes : PySem.W.subIn K (.ref a.e_NoWish) (.ref a.e_NoWishes) = some false
  s_NoWish_TooMany : PySem.W.subIn K (.ref a.e_NoWish) (.ref a.e_TooMany) = some false
  s_NoWish_NoName : PySem.W.subIn K (.ref a.e_NoWish) (.ref a.e_NoName) = some false
  s_NoWish_Taken : PySem.W.subIn K (.ref a.e_NoWish) (.ref a.e_Taken) = some false
  s_NoWish_NoWish : PySem.W.subIn K (.ref a.e_NoWish) (.ref a.e_NoWish) = some true
  s_NoWish_NoRoom : PySem.W.subIn K (.ref a.e_NoWish) (.ref a.e_NoRoom) = some false
  s_NoWish_NoShip : PySem.W.subIn K (.ref a.e_NoWish) (.ref a.e_NoShip) = some false
  s_NoRoom_BerthError : PySem.W.subIn K (.ref a.e_NoRoom) (.ref a.e_BerthError) = some true
  s_NoRoom_NoCount : PySem.W.subIn K (.ref a.e_NoRoom) (.ref a.e_NoCount) = some false
  s_NoRoom_NoOrder : PySem.W.subIn K (.ref a.e_NoRoom) (.ref a.e_NoOrder) = some false
  s_NoRoom_NoQuay : PySem.W.subIn K (.ref a.e_NoRoom) (.ref a.e_NoQuay) = some false
  s_NoRoom_NoText : PySem.W.subIn K (.ref a.e_NoRoom) (.ref a.e_NoText) = some false
  s_NoRoom_NoTree : PySem.W.subIn K (.ref a.e_NoRoom) (.ref a.e_NoTree) = some false
  s_NoRoom_NoWishes : PySem.W.subIn K (.ref a.e_NoRoom) (.ref a.e_NoWishes) = some false
  s_NoRoom_TooMany : PySem.W.subIn K (.ref a.e_NoRoom) (.ref a.e_TooMany) = some false
  s_NoRoom_NoName : PySem.W.subIn K (.ref a.e_NoRoom) (.ref a.e_NoName) = some false
  s_NoRoom_Taken : PySem.W.subIn K (.ref a.e_NoRoom) (.ref a.e_Taken) = some false
  s_NoRoom_NoWish : PySem.W.subIn K (.ref a.e_NoRoom) (.ref a.e_NoWish) = some false
  s_NoRoom_NoRoom : PySem.W.subIn K (.ref a.e_NoRoom) (.ref a.e_NoRoom) = some true
  s_NoRoom_NoShip : PySem.W.subIn K (.ref a.e_NoRoom) (.ref a.e_NoShip) = some false
  s_NoShip_BerthError : PySem.W.subIn K (.ref a.e_NoShip) (.ref a.e_BerthError) = some true
  s_NoShip_NoCount : PySem.W.subIn K (.ref a.e_NoShip) (.ref a.e_NoCount) = some false
  s_NoShip_NoOrder : PySem.W.subIn K (.ref a.e_NoShip) (.ref a.e_NoOrder) = some false
  s_NoShip_NoQuay : PySem.W.subIn K (.ref a.e_NoShip) (.ref a.e_NoQuay) = some false
  s_NoShip_NoText : PySem.W.subIn K (.ref a.e_NoShip) (.ref a.e_NoText) = some false
  s_NoShip_NoTree : PySem.W.subIn K (.ref a.e_NoShip) (.ref a.e_NoTree) = some false
  s_NoShip_NoWishes : PySem.W.subIn K (.ref a.e_NoShip) (.ref a.e_NoWishes) = some false
  s_NoShip_TooMany : PySem.W.subIn K (.ref a.e_NoShip) (.ref a.e_TooMany) = some false
  s_NoShip_NoName : PySem.W.subIn K (.ref a.e_NoShip) (.ref a.e_NoName) = some false
  s_NoShip_Taken : PySem.W.subIn K (.ref a.e_NoShip) (.ref a.e_Taken) = some false
  s_NoShip_NoWish : PySem.W.subIn K (.ref a.e_NoShip) (.ref a.e_NoWish) = some false
  s_NoShip_NoRoom : PySem.W.subIn K (.ref a.e_NoShip) (.ref a.e_NoRoom) = some false
  s_NoShip_NoShip : PySem.W.subIn K (.ref a.e_NoShip) (.ref a.e_NoShip) = some true
  cl : ∀ b, ClsT K a b
  mk_Quay : Mk K a.c_Quay a.f_Q_init
  m_Quay : mg "Quay" = some (.ref a.c_Quay)
  mk_Round : Mk K a.c_Round a.f_R_init
  m_Round : mg "Round" = some (.ref a.c_Round)
  cf_Quay : ClsF K a.c_Quay "__init__" a.f_Q_init
abbrev s_is_number : Stmt := topS 17
theorem sc_is_number : FnScope N_is_number ["thing"] (defScope s_is_number) := ⟨rfl, rfl, rfl, by decide +kernel, rfl, by decide +kernel, by decide +kernel⟩
theorem ok_is_number (D : DF K mg "is_number" s_is_number ["thing"] a.f_is_number) (T : Txt K mg a) : Cb P w K mg base CX0 1 "is_number" a.f_is_number ["thing"] (sp_is_number K a) := by
  obtain ⟨⟨fd, F, bb⟩, gg⟩ := D
  refine ⟨⟨fd, F.ok sc_is_number (fun vs H Q E h => len_is_number h) (fun cdv A outer s H vs Q E hr h => ⟨t_is_number K a, ?_, pu_is_number h⟩), bb⟩, gg, F.kp⟩
  exact (pss_one (ps_ret (pe_cmpR op_isTyB (pe_callTy call_type1 (by rfl) T.b_type (by decide +kernel) (pa_cons (pv 0) pa_nil)) (pe_bltn (by rfl) T.b_int (by decide +kernel) rfl) (nomark _))))

abbrev s_is_from_to : Stmt := topS 18
theorem sc_is_from_to : FnScope N_is_from_to ["low", "high", "thing"] (defScope s_is_from_to) := ⟨rfl, rfl, rfl, by decide +kernel, rfl, by decide +kernel, by decide +kernel⟩
theorem ok_is_from_to (D : DF K mg "is_from_to" s_is_from_to ["low", "high", "thing"] a.f_is_from_to) (T : Txt K mg a) (g_is_number : Cb P w K mg base CX0 1 "is_number" a.f_is_number ["thing"] (sp_is_number K a)) : Cb P w K mg base CX0 2 "is_from_to" a.f_is_from_to ["low", "high", "thing"] (sp_is_from_to K a) := by
  obtain ⟨⟨fd, F, bb⟩, gg⟩ := D
  refine ⟨⟨fd, F.ok sc_is_from_to (fun vs H Q E h => len_is_from_to h) (fun cdv A outer s H vs Q E hr h => ⟨t_is_from_to K a, ?_, pu_is_from_to h⟩), bb⟩, gg, F.kp⟩
  exact (pss_one (ps_ret (pe_and (pe_cb g_is_number (hr.mono (by decide)) (by rfl) pass0 (pa_cons (pv 2) pa_nil)) (pe_one (pe_chain op_le op_le (pv 0) (pv 2) (pv 1))))))

abbrev s_is_name : Stmt := topS 19
theorem sc_is_name : FnScope N_is_name ["thing"] (defScope s_is_name) := ⟨rfl, rfl, rfl, by decide +kernel, rfl, by decide +kernel, by decide +kernel⟩
theorem ok_is_name (D : DF K mg "is_name" s_is_name ["thing"] a.f_is_name) (T : Txt K mg a) : Cb P w K mg base CX0 1 "is_name" a.f_is_name ["thing"] (sp_is_name K a) := by
  obtain ⟨⟨fd, F, bb⟩, gg⟩ := D
  refine ⟨⟨fd, F.ok sc_is_name (fun vs H Q E h => len_is_name h) (fun cdv A outer s H vs Q E hr h => ⟨t_is_name K a, ?_, pu_is_name h⟩), bb⟩, gg, F.kp⟩
  exact (pss_cons (ps_if (PW.pt (pw_or (pt_cmpR op_notTyB (pe_callTy call_type1 (by rfl) T.b_type (by decide +kernel) (pa_cons (pv 0) pa_nil)) (pe_bltn (by rfl) T.b_str (by decide +kernel) rfl) (nomark _)) (pw_or1 (pt_not (pt_chain op_le op_le pe_int (pe_callB call_len_str (by rfl) T.b_len (by decide +kernel) (pa_cons (pv 0) pa_nil)) (pe_gl (by rfl) T.c_LONGEST)))))) (pss_one (ps_ret pe_bl)) pss_nil)
    (pss_cons (ps_for PassesOwn.never rfl (pi_str (pv 0)) (pg_name (i := 1) sc_is_name.nd rfl (by first | exact Or.inl rfl | exact Or.inr rfl))
    (pss_one (ps_if (pt_not (pt_chain op_le_str op_le_str pe_str (pv 1) pe_str)) (pss_one (ps_ret pe_bl)) pss_nil)))
    (pss_one (ps_ret pe_bl))))

abbrev s_check_quay : Stmt := topS 20
theorem sc_check_quay : FnScope N_check_quay ["berths"] (defScope s_check_quay) := ⟨rfl, rfl, rfl, by decide +kernel, rfl, by decide +kernel, by decide +kernel⟩
theorem ok_check_quay (D : DF K mg "check_quay" s_check_quay ["berths"] a.f_check_quay) (T : Txt K mg a) (g_is_from_to : Cb P w K mg base CX0 2 "is_from_to" a.f_is_from_to ["low", "high", "thing"] (sp_is_from_to K a)) : Cb P w K mg base (L2.CX P w) 3 "check_quay" a.f_check_quay ["berths"] (sp_check_quay K a) := by
  obtain ⟨⟨fd, F, bb⟩, gg⟩ := D
  refine ⟨⟨fd, F.okX sc_check_quay (fun vs H Q E h => len_check_quay h) (fun cdv A outer s H vs Q E hr h => ⟨t_check_quay K a E, ?_, pu_check_quay h⟩), bb⟩, gg, F.kp⟩
  exact (pss_one (ps_if (pt_not (pt_val (pe_cb g_is_from_to (hr.mono (by decide)) (by rfl) pass0 (pa_cons pe_int (pa_cons (pe_gl (by rfl) T.c_MOST) (pa_cons (pv 0) pa_nil)))))) (pss_one (ps_raise rfl (takes_of rfl rfl rfl rfl) (pmk_own PySem.F.excBase_ValueError T.e_NoQuay.x T.e_NoQuay.g T.e_NoQuay.k (raises_own T.e_NoQuay.b T.e_NoQuay.t) (by exact rfl)))) pss_nil))

abbrev s_first_free : Stmt := topS 22
theorem sc_first_free : FnScope N_first_free ["held", "wish"] (defScope s_first_free) := ⟨rfl, rfl, rfl, by decide +kernel, rfl, by decide +kernel, by decide +kernel⟩
theorem ok_first_free (D : DF K mg "first_free" s_first_free ["held", "wish"] a.f_first_free) (T : Txt K mg a) : Cb P w K mg base CX0 1 "first_free" a.f_first_free ["held", "wish"] (sp_first_free K a) := by
  obtain ⟨⟨fd, F, bb⟩, gg⟩ := D
  refine ⟨⟨fd, F.ok sc_first_free (fun vs H Q E h => len_first_free h) (fun cdv A outer s H vs Q E hr h => ⟨t_first_free K a, ?_, pu_first_free h⟩), bb⟩, gg, F.kp⟩
  exact (pss_cons (ps_for PassesOwn.never rfl (pi_range2 (by rfl) T.b_range (pa_cons (pv 1) (pa_cons (pe_callB call_len_seq (by rfl) T.b_len (by decide +kernel) (pa_cons (pv 0) pa_nil)) pa_nil))) (pg_name (i := 2) sc_first_free.nd rfl (by first | exact Or.inl rfl | exact Or.inr rfl))
    (pss_one (ps_if (pt_not (pt_val (pe_ix ix_list (pv 0) (pv 2) (fun _ _ => rfl)))) (pss_one (ps_ret (pv 2))) pss_nil)))
    (pss_one (ps_ret pe_non)))

abbrev s_first_free_round : Stmt := topS 24
theorem sc_first_free_round : FnScope N_first_free_round ["held", "wish"] (defScope s_first_free_round) := ⟨rfl, rfl, rfl, by decide +kernel, rfl, by decide +kernel, by decide +kernel⟩
theorem ok_first_free_round (D : DF K mg "first_free_round" s_first_free_round ["held", "wish"] a.f_first_free_round) (T : Txt K mg a) (g_first_free : Cb P w K mg base CX0 1 "first_free" a.f_first_free ["held", "wish"] (sp_first_free K a)) : Cb P w K mg base CX0 2 "first_free_round" a.f_first_free_round ["held", "wish"] (sp_first_free_round K a) := by
  obtain ⟨⟨fd, F, bb⟩, gg⟩ := D
  refine ⟨⟨fd, F.ok sc_first_free_round (fun vs H Q E h => len_first_free_round h) (fun cdv A outer s H vs Q E hr h => ⟨t_first_free_round K a, ?_, pu_first_free_round h⟩), bb⟩, gg, F.kp⟩
  exact (pss_cons (ps_set (i := 2) sc_first_free_round.nd rfl (by first | exact Or.inl rfl | exact Or.inr rfl) (pe_cb g_first_free (hr.mono (by decide)) (by rfl) pass0 (pa_cons (pv 0) (pa_cons (pv 1) pa_nil))))
    (pss_cons (ps_if (pt_cmp (pc_isN (pv 2)) rfl) (pss_one (ps_ret (pe_cb g_first_free (hr.mono (by decide)) (by rfl) pass0 (pa_cons (pv 0) (pa_cons pe_int pa_nil))))) pss_nil)
    (pss_one (ps_ret (pv 2)))))

abbrev s_Q_init : Stmt := inClass (topS 26) 0
theorem sc_Q_init : FnScope N_Q_init ["self", "berths"] (defScope s_Q_init) := ⟨rfl, rfl, rfl, by decide +kernel, rfl, by decide +kernel, by decide +kernel⟩
theorem ok_Q_init (b : Bool) (D : ∃ fd, Fun K "__init__" "Quay.__init__" s_Q_init a.f_Q_init fd ∧ Binds K fd ["self", "berths"] []) (T : Txt K mg a) (g_check_quay : Cb P w K mg base (L2.CX P w) 3 "check_quay" a.f_check_quay ["berths"] (sp_check_quay K a)) : ∃ fd, FnOk P w K mg base (L2.CX P w) 4 a.f_Q_init fd ["self", "berths"] (sp_M_init K a b) ∧ Binds K fd ["self", "berths"] [] := by
  obtain ⟨fd, F, hbb⟩ := D
  refine ⟨fd, F.okX sc_Q_init (fun vs H Q E h => len_M_init h) (fun cdv A outer s H vs Q E hr h => ⟨t_Q_init K a E, ?_, pu_Q_init (T.cl b) h⟩), hbb⟩
  exact (pss_cons (ps_expr (pe_cb g_check_quay (hr.mono (by decide)) (by rfl) (passes_call (takes_of rfl rfl rfl rfl) (fun _ _ _ _ h => h)) (pa_cons (pv 1) pa_nil)))
    (pss_cons (ps_fld (pv 0) (pv 1) rfl)
    (pss_one (ps_fld (pv 0) pe_dnewK rfl))))

abbrev s_p_check_name : Stmt := topS 28
theorem sc_p_check_name : FnScope N_p_check_name ["name"] (defScope s_p_check_name) := ⟨rfl, rfl, rfl, by decide +kernel, rfl, by decide +kernel, by decide +kernel⟩
theorem ok_p_check_name (D : DF K mg "_check_name" s_p_check_name ["name"] a.f_p_check_name) (T : Txt K mg a) (g_is_name : Cb P w K mg base CX0 1 "is_name" a.f_is_name ["thing"] (sp_is_name K a)) : Cb P w K mg base (L2.CX P w) 2 "_check_name" a.f_p_check_name ["name"] (sp_p_check_name K a) := by
  obtain ⟨⟨fd, F, bb⟩, gg⟩ := D
  refine ⟨⟨fd, F.okX sc_p_check_name (fun vs H Q E h => len_p_check_name h) (fun cdv A outer s H vs Q E hr h => ⟨t_p_check_name K a E, ?_, pu_p_check_name h⟩), bb⟩, gg, F.kp⟩
  exact (pss_one (ps_if (pt_not (pt_val (pe_cb g_is_name (hr.mono (by decide)) (by rfl) pass0 (pa_cons (pv 0) pa_nil)))) (pss_one (ps_raise rfl (takes_of rfl rfl rfl rfl) (pmk_own PySem.F.excBase_ValueError T.e_NoName.x T.e_NoName.g T.e_NoName.k (raises_own T.e_NoName.b T.e_NoName.t) (by exact rfl)))) pss_nil))

abbrev s_Q_first_free : Stmt := inClass (topS 26) 8
theorem sc_Q_first_free : FnScope N_Q_first_free ["self", "held", "wish"] (defScope s_Q_first_free) := ⟨rfl, rfl, rfl, by decide +kernel, rfl, by decide +kernel, by decide +kernel⟩
theorem ok_Q_first_free (D : ∃ fd, Fun K "_first_free" "Quay._first_free" s_Q_first_free a.f_Q_first_free fd ∧ Binds K fd ["self", "held", "wish"] []) (T : Txt K mg a) (g_first_free : Cb P w K mg base CX0 1 "first_free" a.f_first_free ["held", "wish"] (sp_first_free K a)) : ∃ fd, FnOk P w K mg base CX0 2 a.f_Q_first_free fd ["self", "held", "wish"] (sp_M_first_free K a false) ∧ Binds K fd ["self", "held", "wish"] [] := by
  obtain ⟨fd, F, hbb⟩ := D
  refine ⟨fd, F.ok sc_Q_first_free (fun vs H Q E h => len_M_first_free h) (fun cdv A outer s H vs Q E hr h => ⟨t_Q_first_free K a, ?_, pu_Q_first_free h⟩), hbb⟩
  exact (pss_one (ps_ret (pe_cb g_first_free (hr.mono (by decide)) (by rfl) pass0 (pa_cons (pv 1) (pa_cons (pv 2) pa_nil)))))

abbrev s_R_first_free : Stmt := inClass (topS 27) 8
theorem sc_R_first_free : FnScope N_R_first_free ["self", "held", "wish"] (defScope s_R_first_free) := ⟨rfl, rfl, rfl, by decide +kernel, rfl, by decide +kernel, by decide +kernel⟩
theorem ok_R_first_free (D : ∃ fd, Fun K "_first_free" "Round._first_free" s_R_first_free a.f_R_first_free fd ∧ Binds K fd ["self", "held", "wish"] []) (T : Txt K mg a) (g_first_free_round : Cb P w K mg base CX0 2 "first_free_round" a.f_first_free_round ["held", "wish"] (sp_first_free_round K a)) : ∃ fd, FnOk P w K mg base CX0 3 a.f_R_first_free fd ["self", "held", "wish"] (sp_M_first_free K a true) ∧ Binds K fd ["self", "held", "wish"] [] := by
  obtain ⟨fd, F, hbb⟩ := D
  refine ⟨fd, F.ok sc_R_first_free (fun vs H Q E h => len_M_first_free h) (fun cdv A outer s H vs Q E hr h => ⟨t_R_first_free K a, ?_, pu_R_first_free h⟩), hbb⟩
  exact (pss_one (ps_ret (pe_cb g_first_free_round (hr.mono (by decide)) (by rfl) pass0 (pa_cons (pv 1) (pa_cons (pv 2) pa_nil)))))

abbrev s_Q_held : Stmt := inClass (topS 26) 9
theorem sc_Q_held : FnScope N_Q_held ["self"] (defScope s_Q_held) := ⟨rfl, rfl, rfl, by decide +kernel, rfl, by decide +kernel, by decide +kernel⟩
theorem ok_Q_held (b : Bool) (D : ∃ fd, Fun K "_held" "Quay._held" s_Q_held a.f_Q_held fd ∧ Binds K fd ["self"] []) (T : Txt K mg a) : ∃ fd, FnOk P w K mg base CX0 1 a.f_Q_held fd ["self"] (sp_M_held K a b) ∧ Binds K fd ["self"] [] := by
  obtain ⟨fd, F, hbb⟩ := D
  refine ⟨fd, F.ok sc_Q_held (fun vs H Q E h => len_M_held h) (fun cdv A outer s H vs Q E hr h => ⟨t_Q_held K a, ?_, pu_Q_held (T.cl b) h⟩), hbb⟩
  exact (pss_cons (ps_set (i := 1) sc_Q_held.nd rfl (by first | exact Or.inl rfl | exact Or.inr rfl) (pe_op op_rep (pe_lst (pa_cons pe_bl pa_nil)) (pe_op op_add (pe_fld (pv 0) rfl) pe_int)))
    (pss_cons (ps_lock (ps_for PassesOwn.never rfl (pi_values (pe_fld (pv 0) rfl)) (pg_tup rfl (pgs_cons (pg_name (i := 2) sc_Q_held.nd rfl (by first | exact Or.inl rfl | exact Or.inr rfl)) (pgs_cons (pg_name (i := 3) sc_Q_held.nd rfl (by first | exact Or.inl rfl | exact Or.inr rfl)) pgs_nil)))
    (pss_one (ps_asg pe_bl (pg_sub (pv 1) (pv 3) set_list)))))
    (pss_one (ps_ret (pv 1)))))

abbrev s_Q_come : Stmt := inClass (topS 26) 1
theorem sc_Q_come : FnScope N_Q_come ["self", "name", "wish"] (defScope s_Q_come) := ⟨rfl, rfl, rfl, by decide +kernel, rfl, by decide +kernel, by decide +kernel⟩
theorem ok_Q_come (b : Bool) (D : ∃ fd, Fun K "come" "Quay.come" s_Q_come a.f_Q_come fd ∧ Binds K fd ["self", "name", "wish"] []) (T : Txt K mg a) (g_is_from_to : Cb P w K mg base CX0 2 "is_from_to" a.f_is_from_to ["low", "high", "thing"] (sp_is_from_to K a)) (G_first_free : ∀ b, Mb P w K mg base CX0 3 (a.cls b) "_first_free" ((fun b => if b = true then a.f_R_first_free else a.f_Q_first_free) b) ["self", "held", "wish"] (sp_M_first_free K a b)) (G_held : ∀ b, Mb P w K mg base CX0 1 (a.cls b) "_held" ((fun _ => a.f_Q_held) b) ["self"] (sp_M_held K a b)) (g_p_check_name : Cb P w K mg base (L2.CX P w) 2 "_check_name" a.f_p_check_name ["name"] (sp_p_check_name K a)) : ∃ fd, FnOk P w K mg base (L2.CX P w) 4 a.f_Q_come fd ["self", "name", "wish"] (sp_M_come K a b) ∧ Binds K fd ["self", "name", "wish"] [] := by
  obtain ⟨fd, F, hbb⟩ := D
  refine ⟨fd, F.okX sc_Q_come (fun vs H Q E h => len_M_come h) (fun cdv A outer s H vs Q E hr h => ⟨t_Q_come K a E, ?_, pu_Q_come (T.cl b) h⟩), hbb⟩
  exact (pss_cons (ps_expr (pe_cb g_p_check_name (hr.mono (by decide)) (by rfl) (passes_call (takes_of rfl rfl rfl rfl) (fun _ _ _ _ h => h)) (pa_cons (pv 1) pa_nil)))
    (pss_cons (ps_if (pt_cmp (pc_din (Nat.lt_of_le_of_lt (Nat.add_le_add_left (by decide : 1 ≤ 64) _) hr.units) (pv 1) (pe_fld (pv 0) rfl)) rfl) (pss_one (ps_raise rfl (takes_of rfl rfl rfl rfl) (pmk_own PySem.F.excBase_ValueError T.e_Taken.x T.e_Taken.g T.e_Taken.k (raises_own T.e_Taken.b T.e_Taken.t) (by exact rfl)))) pss_nil)
    (pss_cons (ps_if (pt_not (pt_val (pe_cb g_is_from_to (hr.mono (by decide)) (by rfl) pass0 (pa_cons pe_int (pa_cons (pe_fld (pv 0) rfl) (pa_cons (pv 2) pa_nil)))))) (pss_one (ps_raise rfl (takes_of rfl rfl rfl rfl) (pmk_own PySem.F.excBase_ValueError T.e_NoWish.x T.e_NoWish.g T.e_NoWish.k (raises_own T.e_NoWish.b T.e_NoWish.t) (by exact rfl)))) pss_nil)
    (pss_cons (ps_set (i := 3) sc_Q_come.nd rfl (by first | exact Or.inl rfl | exact Or.inr rfl) (pe_mbB G_first_free (fun b => (T.cl b).cl) (hr.mono (by decide)) (fun s => passOf pass0 s) (pv 0) (pa_cons (pe_mbB0 G_held (fun b => (T.cl b).cl) (hr.mono (by decide)) (fun s => passOf pass0 s) (pv 0)) (pa_cons (pv 2) pa_nil))))
    (pss_cons (ps_if (pt_cmp (pc_isN (pv 3)) rfl) (pss_one (ps_raise rfl (takes_of rfl rfl rfl rfl) (pmk_own PySem.F.excBase_ValueError T.e_NoRoom.x T.e_NoRoom.g T.e_NoRoom.k (raises_own T.e_NoRoom.b T.e_NoRoom.t) (by exact rfl)))) pss_nil)
    (pss_cons (ps_asg (pe_tup (pa_cons (pv 2) (pa_cons (pv 3) pa_nil))) (pg_sub (pe_fld (pv 0) rfl) (pv 1) (set_dict (Nat.lt_of_le_of_lt (Nat.add_le_add_left (by decide : 1 ≤ 64) _) hr.units))))
    (pss_one (ps_ret (pv 3)))))))))

abbrev s_Q_check_there : Stmt := inClass (topS 26) 10
theorem sc_Q_check_there : FnScope N_Q_check_there ["self", "name"] (defScope s_Q_check_there) := ⟨rfl, rfl, rfl, by decide +kernel, rfl, by decide +kernel, by decide +kernel⟩
theorem ok_Q_check_there (b : Bool) (D : ∃ fd, Fun K "_check_there" "Quay._check_there" s_Q_check_there a.f_Q_check_there fd ∧ Binds K fd ["self", "name"] []) (T : Txt K mg a) (g_p_check_name : Cb P w K mg base (L2.CX P w) 2 "_check_name" a.f_p_check_name ["name"] (sp_p_check_name K a)) : ∃ fd, FnOk P w K mg base (L2.CX P w) 3 a.f_Q_check_there fd ["self", "name"] (sp_M_check_there K a b) ∧ Binds K fd ["self", "name"] [] := by
  obtain ⟨fd, F, hbb⟩ := D
  refine ⟨fd, F.okX sc_Q_check_there (fun vs H Q E h => len_M_check_there h) (fun cdv A outer s H vs Q E hr h => ⟨t_Q_check_there K a E, ?_, pu_Q_check_there (T.cl b) h⟩), hbb⟩
  exact (pss_cons (ps_expr (pe_cb g_p_check_name (hr.mono (by decide)) (by rfl) (passes_call (takes_of rfl rfl rfl rfl) (fun _ _ _ _ h => h)) (pa_cons (pv 1) pa_nil)))
    (pss_one (ps_if (pt_cmp (pc_dnotin (Nat.lt_of_le_of_lt (Nat.add_le_add_left (by decide : 1 ≤ 64) _) hr.units) (pv 1) (pe_fld (pv 0) rfl)) rfl) (pss_one (ps_raise rfl (takes_of rfl rfl rfl rfl) (pmk_own PySem.F.excBase_ValueError T.e_NoShip.x T.e_NoShip.g T.e_NoShip.k (raises_own T.e_NoShip.b T.e_NoShip.t) (by exact rfl)))) pss_nil)))

abbrev s_Q_all_ships : Stmt := inClass (topS 26) 4
theorem sc_Q_all_ships : FnScope N_Q_all_ships ["self"] (defScope s_Q_all_ships) := ⟨rfl, rfl, rfl, by decide +kernel, rfl, by decide +kernel, by decide +kernel⟩
theorem ok_Q_all_ships (b : Bool) (D : ∃ fd, Fun K "all_ships" "Quay.all_ships" s_Q_all_ships a.f_Q_all_ships fd ∧ Binds K fd ["self"] []) (T : Txt K mg a) : ∃ fd, FnOk P w K mg base CX0 1 a.f_Q_all_ships fd ["self"] (sp_M_all_ships K a b) ∧ Binds K fd ["self"] [] := by
  obtain ⟨fd, F, hbb⟩ := D
  refine ⟨fd, F.ok sc_Q_all_ships (fun vs H Q E h => len_M_all_ships h) (fun cdv A outer s H vs Q E hr h => ⟨t_Q_all_ships K a, ?_, pu_Q_all_ships (T.cl b) h⟩), hbb⟩
  exact (pss_one (ps_ret (pe_lock (pe_lc (own := [("name", 1), ("wish", 2), ("berth", 3)]) rfl sc_Q_all_ships.nd (pi_items (pe_fld (pv 0) rfl)) (blkOk_by (N := N_Q_all_ships) (sc := defScope s_Q_all_ships) (by decide +kernel)) (fun _ _ _ _ _ => (pg_tup rfl (pgs_cons (pg_name (i := 1) sc_Q_all_ships.nd rfl (by first | exact Or.inl rfl | exact Or.inr rfl)) (pgs_cons (pg_tup rfl (pgs_cons (pg_name (i := 2) sc_Q_all_ships.nd rfl (by first | exact Or.inl rfl | exact Or.inr rfl)) (pgs_cons (pg_name (i := 3) sc_Q_all_ships.nd rfl (by first | exact Or.inl rfl | exact Or.inr rfl)) pgs_nil))) pgs_nil)))) (fun _ _ _ _ _ => pts_nil) (fun _ _ _ _ _ => (pe_tup (pa_cons (pv 1) (pa_cons (pv 2) (pa_cons (pv 3) pa_nil)))))))))

abbrev s_R_all_ships : Stmt := inClass (topS 27) 4
theorem ok_R_all_ships (D : SupDef P K mg a.c_Round a.f_R_all_ships a.f_Q_all_ships "all_ships" "Round.all_ships" s_R_all_ships) (G : ∃ fd, FnOk P w K mg base CX0 1 a.f_Q_all_ships fd ["self"] (sp_M_all_ships K a true) ∧ Binds K fd ["self"] []) : ∃ fd, FnOk P w K mg base CX0 2 a.f_R_all_ships fd ["self"] (sp_M_all_ships K a true) ∧ Binds K fd ["self"] [] :=
  super_cb (t := tNil) D ⟨rfl, rfl, rfl, by decide +kernel, by decide +kernel, by decide +kernel, by decide +kernel, by decide +kernel, by decide +kernel⟩ rfl rfl rfl (by decide +kernel) G (fun vs H Q E h => self_all_ships h)
    (fun A outer s H E cd cc => pa_nil) (fun vs H Q hl q => by match vs, hl with | [_], _ => exact q) (fun env => .inl ⟨rfl, rfl⟩)
    (fun A outer s H E cd cc e0 => pass0) (fun env => ⟨_, by rfl⟩) (fun kV doc pm an cdv ct cc us hl => match us, hl with | [_], _ => rfl)

abbrev s_Q_leave : Stmt := inClass (topS 26) 2
theorem sc_Q_leave : FnScope N_Q_leave ["self", "name"] (defScope s_Q_leave) := ⟨rfl, rfl, rfl, by decide +kernel, rfl, by decide +kernel, by decide +kernel⟩
theorem ok_Q_leave (b : Bool) (D : ∃ fd, Fun K "leave" "Quay.leave" s_Q_leave a.f_Q_leave fd ∧ Binds K fd ["self", "name"] []) (T : Txt K mg a) (G_all_ships : ∀ b, Mb P w K mg base CX0 2 (a.cls b) "all_ships" ((fun b => if b = true then a.f_R_all_ships else a.f_Q_all_ships) b) ["self"] (sp_M_all_ships K a b)) (G_first_free : ∀ b, Mb P w K mg base CX0 3 (a.cls b) "_first_free" ((fun b => if b = true then a.f_R_first_free else a.f_Q_first_free) b) ["self", "held", "wish"] (sp_M_first_free K a b)) (G_check_there : ∀ b, Mb P w K mg base (L2.CX P w) 3 (a.cls b) "_check_there" ((fun _ => a.f_Q_check_there) b) ["self", "name"] (sp_M_check_there K a b)) : ∃ fd, FnOk P w K mg base (L2.CX P w) 4 a.f_Q_leave fd ["self", "name"] (sp_M_leave K a b) ∧ Binds K fd ["self", "name"] [] := by
  obtain ⟨fd, F, hbb⟩ := D
  refine ⟨fd, F.okX sc_Q_leave (fun vs H Q E h => len_M_leave h) (fun cdv A outer s H vs Q E hr h => ⟨t_Q_leave K a E, ?_, pu_Q_leave (T.cl b) h⟩), hbb⟩
  exact (pss_cons (ps_expr (pe_mbB G_check_there (fun b => (T.cl b).cl) (hr.mono (by decide)) (fun s => passOf (passes_call (takes_of rfl rfl rfl rfl) (fun _ _ _ _ h => h)) s) (pv 0) (pa_cons (pv 1) pa_nil)))
    (pss_cons (ps_ddel (pe_fld (pv 0) rfl) (pv 1))
    (pss_cons (ps_set (i := 2) sc_Q_leave.nd rfl (by first | exact Or.inl rfl | exact Or.inr rfl) (pe_op op_rep (pe_lst (pa_cons pe_bl pa_nil)) (pe_op op_add (pe_fld (pv 0) rfl) pe_int)))
    (pss_cons (ps_set (i := 3) sc_Q_leave.nd rfl (by first | exact Or.inl rfl | exact Or.inr rfl) (pe_lst pa_nil))
    (pss_cons (ps_for (passes_of rfl) rfl (pi_list (pe_mbB0 G_all_ships (fun b => (T.cl b).cl) (hr.mono (by decide)) (fun s => passOf pass0 s) (pv 0))) (pg_tup rfl (pgs_cons (pg_name (i := 4) sc_Q_leave.nd rfl (by first | exact Or.inl rfl | exact Or.inr rfl)) (pgs_cons (pg_name (i := 5) sc_Q_leave.nd rfl (by first | exact Or.inl rfl | exact Or.inr rfl)) (pgs_cons (pg_name (i := 6) sc_Q_leave.nd rfl (by first | exact Or.inl rfl | exact Or.inr rfl)) pgs_nil))))
    (pss_cons (ps_set (i := 7) sc_Q_leave.nd rfl (by first | exact Or.inl rfl | exact Or.inr rfl) (pe_mbB G_first_free (fun b => (T.cl b).cl) (hr.mono (by decide)) (fun s => passOf pass0 s) (pv 0) (pa_cons (pv 2) (pa_cons (pv 5) pa_nil))))
    (pss_cons (ps_asg pe_bl (pg_sub (pv 2) (pv 7) set_list))
    (pss_cons (ps_asg (pe_tup (pa_cons (pv 5) (pa_cons (pv 7) pa_nil))) (pg_sub (pe_fld (pv 0) rfl) (pv 4) (set_dict (Nat.lt_of_le_of_lt (Nat.add_le_add_left (by decide : 1 ≤ 64) _) hr.units))))
    (pss_one (ps_if (pt_cmpR op_ne (pv 7) (pv 6) (nomark _)) (pss_one (ps_expr (pe_bm PySem.F.plainAttrs_list PySem.F.slot_list_append PySem.F.type_list_append mt_append (pv 3) (pa_cons (pe_tup (pa_cons (pv 4) (pa_cons (pv 6) (pa_cons (pv 7) pa_nil)))) pa_nil)))) pss_nil))))))
    (pss_one (ps_ret (pv 3))))))))

abbrev s_Q_where : Stmt := inClass (topS 26) 3
theorem sc_Q_where : FnScope N_Q_where ["self", "name"] (defScope s_Q_where) := ⟨rfl, rfl, rfl, by decide +kernel, rfl, by decide +kernel, by decide +kernel⟩
theorem ok_Q_where (b : Bool) (D : ∃ fd, Fun K "where" "Quay.where" s_Q_where a.f_Q_where fd ∧ Binds K fd ["self", "name"] []) (T : Txt K mg a) (G_check_there : ∀ b, Mb P w K mg base (L2.CX P w) 3 (a.cls b) "_check_there" ((fun _ => a.f_Q_check_there) b) ["self", "name"] (sp_M_check_there K a b)) : ∃ fd, FnOk P w K mg base (L2.CX P w) 4 a.f_Q_where fd ["self", "name"] (sp_M_where K a b) ∧ Binds K fd ["self", "name"] [] := by
  obtain ⟨fd, F, hbb⟩ := D
  refine ⟨fd, F.okX sc_Q_where (fun vs H Q E h => len_M_where h) (fun cdv A outer s H vs Q E hr h => ⟨t_Q_where K a E, ?_, pu_Q_where (T.cl b) h⟩), hbb⟩
  exact (pss_cons (ps_expr (pe_mbB G_check_there (fun b => (T.cl b).cl) (hr.mono (by decide)) (fun s => passOf (passes_call (takes_of rfl rfl rfl rfl) (fun _ _ _ _ h => h)) s) (pv 0) (pa_cons (pv 1) pa_nil)))
    (pss_one (ps_ret (pe_ix ix_tup (pe_dget (Nat.lt_of_le_of_lt (Nat.add_le_add_left (by decide : 1 ≤ 64) _) hr.units) (pe_fld (pv 0) rfl) (pv 1) (fun _ _ => rfl)) pe_int (fun _ _ => rfl)))))

abbrev s_Q_free_ones : Stmt := inClass (topS 26) 5
theorem sc_Q_free_ones : FnScope N_Q_free_ones ["self"] (defScope s_Q_free_ones) := ⟨rfl, rfl, rfl, by decide +kernel, rfl, by decide +kernel, by decide +kernel⟩
theorem ok_Q_free_ones (b : Bool) (D : ∃ fd, Fun K "free_ones" "Quay.free_ones" s_Q_free_ones a.f_Q_free_ones fd ∧ Binds K fd ["self"] []) (T : Txt K mg a) (G_held : ∀ b, Mb P w K mg base CX0 1 (a.cls b) "_held" ((fun _ => a.f_Q_held) b) ["self"] (sp_M_held K a b)) : ∃ fd, FnOk P w K mg base CX0 2 a.f_Q_free_ones fd ["self"] (sp_M_free_ones K a b) ∧ Binds K fd ["self"] [] := by
  obtain ⟨fd, F, hbb⟩ := D
  refine ⟨fd, F.ok sc_Q_free_ones (fun vs H Q E h => len_M_free_ones h) (fun cdv A outer s H vs Q E hr h => ⟨t_Q_free_ones K a, ?_, pu_Q_free_ones (T.cl b) h⟩), hbb⟩
  exact (pss_cons (ps_set (i := 1) sc_Q_free_ones.nd rfl (by first | exact Or.inl rfl | exact Or.inr rfl) (pe_mbB0 G_held (fun b => (T.cl b).cl) (hr.mono (by decide)) (fun s => passOf pass0 s) (pv 0)))
    (pss_one (ps_ret (pe_lc (own := [("berth", 2)]) rfl sc_Q_free_ones.nd (pi_range2 (by rfl) T.b_range (pa_cons pe_int (pa_cons (pe_op op_add (pe_fld (pv 0) rfl) pe_int) pa_nil))) (blkOk_by (N := N_Q_free_ones) (sc := defScope s_Q_free_ones) (by decide +kernel)) (fun _ _ _ _ _ => (pg_name (i := 2) sc_Q_free_ones.nd rfl (by first | exact Or.inl rfl | exact Or.inr rfl))) (fun _ _ _ _ _ => (pts_one (pt_not (pt_val (pe_ix ix_list (pv 1) (pv 2) (fun _ _ => rfl)))))) (fun _ _ _ _ _ => (pv 2))))))

abbrev s_Q_size : Stmt := inClass (topS 26) 6
theorem sc_Q_size : FnScope N_Q_size ["self"] (defScope s_Q_size) := ⟨rfl, rfl, rfl, by decide +kernel, rfl, by decide +kernel, by decide +kernel⟩
theorem ok_Q_size (b : Bool) (D : ∃ fd, Fun K "size" "Quay.size" s_Q_size a.f_Q_size fd ∧ Binds K fd ["self"] []) (T : Txt K mg a) : ∃ fd, FnOk P w K mg base CX0 1 a.f_Q_size fd ["self"] (sp_M_size K a b) ∧ Binds K fd ["self"] [] := by
  obtain ⟨fd, F, hbb⟩ := D
  refine ⟨fd, F.ok sc_Q_size (fun vs H Q E h => len_M_size h) (fun cdv A outer s H vs Q E hr h => ⟨t_Q_size K a, ?_, pu_Q_size (T.cl b) h⟩), hbb⟩
  exact (pss_one (ps_ret (pe_fld (pv 0) rfl)))

abbrev s_Q_kind : Stmt := inClass (topS 26) 7
theorem sc_Q_kind : FnScope N_Q_kind ["self"] (defScope s_Q_kind) := ⟨rfl, rfl, rfl, by decide +kernel, rfl, by decide +kernel, by decide +kernel⟩
theorem ok_Q_kind (D : ∃ fd, Fun K "kind" "Quay.kind" s_Q_kind a.f_Q_kind fd ∧ Binds K fd ["self"] []) (T : Txt K mg a) : ∃ fd, FnOk P w K mg base CX0 1 a.f_Q_kind fd ["self"] (sp_M_kind K a false) ∧ Binds K fd ["self"] [] := by
  obtain ⟨fd, F, hbb⟩ := D
  refine ⟨fd, F.ok sc_Q_kind (fun vs H Q E h => len_M_kind h) (fun cdv A outer s H vs Q E hr h => ⟨t_Q_kind K a, ?_, pu_Q_kind h⟩), hbb⟩
  exact (pss_one (ps_ret pe_str))

abbrev s_R_init : Stmt := inClass (topS 27) 0
theorem sc_R_init : FnScope N_R_init ["self", "berths"] (defScope s_R_init) := ⟨rfl, rfl, rfl, by decide +kernel, rfl, by decide +kernel, by decide +kernel⟩
theorem ok_R_init (D : ∃ fd, Fun K "__init__" "Round.__init__" s_R_init a.f_R_init fd ∧ Binds K fd ["self", "berths"] []) (T : Txt K mg a) (G_Q_init : ∀ b, ∃ fd, FnOk P w K mg base (L2.CX P w) 4 a.f_Q_init fd ["self", "berths"] (sp_M_init K a b) ∧ Binds K fd ["self", "berths"] []) : ∃ fd, FnOk P w K mg base (L2.CX P w) 5 a.f_R_init fd ["self", "berths"] (sp_M_init K a true) ∧ Binds K fd ["self", "berths"] [] := by
  obtain ⟨fd, F, hbb⟩ := D
  refine ⟨fd, F.okX sc_R_init (fun vs H Q E h => len_M_init h) (fun cdv A outer s H vs Q E hr h => ⟨t_R_init K a E, ?_, pu_R_init (T.cl true) h⟩), hbb⟩
  exact (pss_one (ps_expr (pe_clsFn (pe_glob (by rfl) T.m_Quay rfl) T.cf_Quay (G_Q_init true).choose_spec.1 (hr.mono (by decide)) (G_Q_init true).choose_spec.2 (passes_call (takes_of rfl rfl rfl rfl) (fun _ _ _ _ h => h)) (pa_cons (pv 0) (pa_cons (pv 1) pa_nil)))))

abbrev s_R_come : Stmt := inClass (topS 27) 1
theorem ok_R_come (D : SupDef P K mg a.c_Round a.f_R_come a.f_Q_come "come" "Round.come" s_R_come) (G : ∃ fd, FnOk P w K mg base (L2.CX P w) 4 a.f_Q_come fd ["self", "name", "wish"] (sp_M_come K a true) ∧ Binds K fd ["self", "name", "wish"] []) : ∃ fd, FnOk P w K mg base (L2.CX P w) 5 a.f_R_come fd ["self", "name", "wish"] (sp_M_come K a true) ∧ Binds K fd ["self", "name", "wish"] [] :=
  super_cb (t := (tCons (tVar 1) (tCons (tVar 2) tNil))) D ⟨rfl, rfl, rfl, by decide +kernel, by decide +kernel, by decide +kernel, by decide +kernel, by decide +kernel, by decide +kernel⟩ rfl rfl rfl (by decide +kernel) G (fun vs H Q E h => self_come h)
    (fun A outer s H E cd cc => (pa_cons (pv 1) (pa_cons (pv 2) pa_nil))) (fun vs H Q hl q => by match vs, hl with | [v0, v1, v2], _ => exact ⟨_, rfl, _, rfl, q⟩) (fun env => .inr ⟨_, _, rfl, rfl⟩)
    (fun A outer s H E cd cc e0 => passes_call (takes_of rfl rfl rfl rfl) (fun _ _ _ _ h => h)) (fun env => ⟨_, by rfl⟩) (fun kV doc pm an cdv ct cc us hl => match us, hl with | [_, _, _], _ => rfl)

abbrev s_R_leave : Stmt := inClass (topS 27) 2
theorem ok_R_leave (D : SupDef P K mg a.c_Round a.f_R_leave a.f_Q_leave "leave" "Round.leave" s_R_leave) (G : ∃ fd, FnOk P w K mg base (L2.CX P w) 4 a.f_Q_leave fd ["self", "name"] (sp_M_leave K a true) ∧ Binds K fd ["self", "name"] []) : ∃ fd, FnOk P w K mg base (L2.CX P w) 5 a.f_R_leave fd ["self", "name"] (sp_M_leave K a true) ∧ Binds K fd ["self", "name"] [] :=
  super_cb (t := (tCons (tVar 1) tNil)) D ⟨rfl, rfl, rfl, by decide +kernel, by decide +kernel, by decide +kernel, by decide +kernel, by decide +kernel, by decide +kernel⟩ rfl rfl rfl (by decide +kernel) G (fun vs H Q E h => self_leave h)
    (fun A outer s H E cd cc => (pa_cons (pv 1) pa_nil)) (fun vs H Q hl q => by match vs, hl with | [v0, v1], _ => exact ⟨_, rfl, q⟩) (fun env => .inr ⟨_, _, rfl, rfl⟩)
    (fun A outer s H E cd cc e0 => passes_call (takes_of rfl rfl rfl rfl) (fun _ _ _ _ h => h)) (fun env => ⟨_, by rfl⟩) (fun kV doc pm an cdv ct cc us hl => match us, hl with | [_, _], _ => rfl)

abbrev s_R_where : Stmt := inClass (topS 27) 3
theorem ok_R_where (D : SupDef P K mg a.c_Round a.f_R_where a.f_Q_where "where" "Round.where" s_R_where) (G : ∃ fd, FnOk P w K mg base (L2.CX P w) 4 a.f_Q_where fd ["self", "name"] (sp_M_where K a true) ∧ Binds K fd ["self", "name"] []) : ∃ fd, FnOk P w K mg base (L2.CX P w) 5 a.f_R_where fd ["self", "name"] (sp_M_where K a true) ∧ Binds K fd ["self", "name"] [] :=
  super_cb (t := (tCons (tVar 1) tNil)) D ⟨rfl, rfl, rfl, by decide +kernel, by decide +kernel, by decide +kernel, by decide +kernel, by decide +kernel, by decide +kernel⟩ rfl rfl rfl (by decide +kernel) G (fun vs H Q E h => self_where h)
    (fun A outer s H E cd cc => (pa_cons (pv 1) pa_nil)) (fun vs H Q hl q => by match vs, hl with | [v0, v1], _ => exact ⟨_, rfl, q⟩) (fun env => .inr ⟨_, _, rfl, rfl⟩)
    (fun A outer s H E cd cc e0 => passes_call (takes_of rfl rfl rfl rfl) (fun _ _ _ _ h => h)) (fun env => ⟨_, by rfl⟩) (fun kV doc pm an cdv ct cc us hl => match us, hl with | [_, _], _ => rfl)

abbrev s_R_free_ones : Stmt := inClass (topS 27) 5
theorem ok_R_free_ones (D : SupDef P K mg a.c_Round a.f_R_free_ones a.f_Q_free_ones "free_ones" "Round.free_ones" s_R_free_ones) (G : ∃ fd, FnOk P w K mg base CX0 2 a.f_Q_free_ones fd ["self"] (sp_M_free_ones K a true) ∧ Binds K fd ["self"] []) : ∃ fd, FnOk P w K mg base CX0 3 a.f_R_free_ones fd ["self"] (sp_M_free_ones K a true) ∧ Binds K fd ["self"] [] :=
  super_cb (t := tNil) D ⟨rfl, rfl, rfl, by decide +kernel, by decide +kernel, by decide +kernel, by decide +kernel, by decide +kernel, by decide +kernel⟩ rfl rfl rfl (by decide +kernel) G (fun vs H Q E h => self_free_ones h)
    (fun A outer s H E cd cc => pa_nil) (fun vs H Q hl q => by match vs, hl with | [_], _ => exact q) (fun env => .inl ⟨rfl, rfl⟩)
    (fun A outer s H E cd cc e0 => pass0) (fun env => ⟨_, by rfl⟩) (fun kV doc pm an cdv ct cc us hl => match us, hl with | [_], _ => rfl)

abbrev s_R_size : Stmt := inClass (topS 27) 6
theorem ok_R_size (D : SupDef P K mg a.c_Round a.f_R_size a.f_Q_size "size" "Round.size" s_R_size) (G : ∃ fd, FnOk P w K mg base CX0 1 a.f_Q_size fd ["self"] (sp_M_size K a true) ∧ Binds K fd ["self"] []) : ∃ fd, FnOk P w K mg base CX0 2 a.f_R_size fd ["self"] (sp_M_size K a true) ∧ Binds K fd ["self"] [] :=
  super_cb (t := tNil) D ⟨rfl, rfl, rfl, by decide +kernel, by decide +kernel, by decide +kernel, by decide +kernel, by decide +kernel, by decide +kernel⟩ rfl rfl rfl (by decide +kernel) G (fun vs H Q E h => self_size h)
    (fun A outer s H E cd cc => pa_nil) (fun vs H Q hl q => by match vs, hl with | [_], _ => exact q) (fun env => .inl ⟨rfl, rfl⟩)
    (fun A outer s H E cd cc e0 => pass0) (fun env => ⟨_, by rfl⟩) (fun kV doc pm an cdv ct cc us hl => match us, hl with | [_], _ => rfl)

abbrev s_R_kind : Stmt := inClass (topS 27) 7
theorem sc_R_kind : FnScope N_R_kind ["self"] (defScope s_R_kind) := ⟨rfl, rfl, rfl, by decide +kernel, rfl, by decide +kernel, by decide +kernel⟩
theorem ok_R_kind (D : ∃ fd, Fun K "kind" "Round.kind" s_R_kind a.f_R_kind fd ∧ Binds K fd ["self"] []) (T : Txt K mg a) : ∃ fd, FnOk P w K mg base CX0 1 a.f_R_kind fd ["self"] (sp_M_kind K a true) ∧ Binds K fd ["self"] [] := by
  obtain ⟨fd, F, hbb⟩ := D
  refine ⟨fd, F.ok sc_R_kind (fun vs H Q E h => len_M_kind h) (fun cdv A outer s H vs Q E hr h => ⟨t_R_kind K a, ?_, pu_R_kind h⟩), hbb⟩
  exact (pss_one (ps_ret pe_str))

abbrev s_l_cell_at : Stmt := topS 30
theorem sc_l_cell_at : FnScope N_l_cell_at ["_law_script", "_law_k"] (defScope s_l_cell_at) := ⟨rfl, rfl, rfl, by decide +kernel, rfl, by decide +kernel, by decide +kernel⟩
theorem ok_l_cell_at (D : DF K mg "_law_cell_at" s_l_cell_at ["_law_script", "_law_k"] a.f_l_cell_at) (T : Txt K mg a) : Cb P w K mg base CX0 1 "_law_cell_at" a.f_l_cell_at ["_law_script", "_law_k"] (sp_l_cell_at K) := by
  obtain ⟨⟨fd, F, bb⟩, gg⟩ := D
  refine ⟨⟨fd, F.ok sc_l_cell_at (fun vs H Q E h => len_l_cell_at h) (fun cdv A outer s H vs Q E hr h => ⟨t_l_cell_at K a, ?_, pu_l_cell_at h⟩), bb⟩, gg, F.kp⟩
  exact (pss_cons (ps_if (pt_cmpR op_lt (pv 1) (pe_callB call_len_seq (by rfl) T.b_len (by decide +kernel) (pa_cons (pv 0) pa_nil)) (nomark _)) (pss_one (ps_ret (pe_ix ix_list (pv 0) (pv 1) (fun _ _ => rfl)))) pss_nil)
    (pss_one (ps_ret pe_int)))

abbrev s_l_mix : Stmt := topS 31
theorem sc_l_mix : FnScope N_l_mix ["_law_state", "_law_cell"] (defScope s_l_mix) := ⟨rfl, rfl, rfl, by decide +kernel, rfl, by decide +kernel, by decide +kernel⟩
theorem ok_l_mix (D : DF K mg "_law_mix" s_l_mix ["_law_state", "_law_cell"] a.f_l_mix) (T : Txt K mg a) : Cb P w K mg base CX0 1 "_law_mix" a.f_l_mix ["_law_state", "_law_cell"] (sp_l_mix K) := by
  obtain ⟨⟨fd, F, bb⟩, gg⟩ := D
  refine ⟨⟨fd, F.ok sc_l_mix (fun vs H Q E h => len_l_mix h) (fun cdv A outer s H vs Q E hr h => ⟨t_l_mix K a, ?_, pu_l_mix h⟩), bb⟩, gg, F.kp⟩
  exact (pss_cons (ps_asg (pe_op op_mod (pe_op op_add (pe_op op_add (pe_op op_mul (pe_ix ix_list (pv 0) pe_int (fun _ _ => rfl)) pe_int) (pe_op op_mul (pv 1) pe_int)) pe_int) pe_int) (pg_sub (pv 0) pe_int set_list))
    (pss_one (ps_ret (pe_op op_fdiv (pe_op op_mod (pe_op op_mul (pe_ix ix_list (pv 0) pe_int (fun _ _ => rfl)) (pe_ix ix_list (pv 0) pe_int (fun _ _ => rfl))) pe_int) pe_int))))

abbrev s_l_whole : Stmt := topS 32
theorem sc_l_whole : FnScope N_l_whole ["_law_found"] (defScope s_l_whole) := ⟨rfl, rfl, rfl, by decide +kernel, rfl, by decide +kernel, by decide +kernel⟩
theorem ok_l_whole (D : DF K mg "_law_whole" s_l_whole ["_law_found"] a.f_l_whole) (T : Txt K mg a) : Cb P w K mg base CX0 1 "_law_whole" a.f_l_whole ["_law_found"] (sp_l_whole K) := by
  obtain ⟨⟨fd, F, bb⟩, gg⟩ := D
  refine ⟨⟨fd, F.ok sc_l_whole (fun vs H Q E h => len_l_whole h) (fun cdv A outer s H vs Q E hr h => ⟨t_l_whole K a, ?_, pu_l_whole h⟩), bb⟩, gg, F.kp⟩
  exact (pss_one (ps_ret (pe_and (pe_callB call_isi (by rfl) T.b_isinstance (by decide +kernel) (pa_cons (pv 0) (pa_cons (pe_bltn (by rfl) T.b_int (by decide +kernel) rfl) pa_nil))) (pe_one (pe_not (pe_callB call_isi (by rfl) T.b_isinstance (by decide +kernel) (pa_cons (pv 0) (pa_cons (pe_bltn (by rfl) T.b_bool (by decide +kernel) rfl) pa_nil))))))))

abbrev s_l_lying : Stmt := topS 33
theorem sc_l_lying : FnScope N_l_lying ["_law_berths", "_law_around", "_law_line"] (defScope s_l_lying) := ⟨rfl, rfl, rfl, by decide +kernel, rfl, by decide +kernel, by decide +kernel⟩
theorem ok_l_lying (D : DF K mg "_law_lying" s_l_lying ["_law_berths", "_law_around", "_law_line"] a.f_l_lying) (T : Txt K mg a) : Cb P w K mg base CX0 1 "_law_lying" a.f_l_lying ["_law_berths", "_law_around", "_law_line"] (sp_l_lying K a) := by
  obtain ⟨⟨fd, F, bb⟩, gg⟩ := D
  refine ⟨⟨fd, F.ok sc_l_lying (fun vs H Q E h => len_l_lying h) (fun cdv A outer s H vs Q E hr h => ⟨t_l_lying K a, ?_, pu_l_lying h⟩), bb⟩, gg, F.kp⟩
  exact (pss_cons (ps_set (i := 3) sc_l_lying.nd rfl (by first | exact Or.inl rfl | exact Or.inr rfl) pe_dnewK)
    (pss_cons (ps_for PassesOwn.never rfl (pi_list (pv 2)) (pg_tup rfl (pgs_cons (pg_name (i := 4) sc_l_lying.nd rfl (by first | exact Or.inl rfl | exact Or.inr rfl)) (pgs_cons (pg_name (i := 5) sc_l_lying.nd rfl (by first | exact Or.inl rfl | exact Or.inr rfl)) pgs_nil)))
    (pss_cons (ps_set (i := 6) sc_l_lying.nd rfl (by first | exact Or.inl rfl | exact Or.inr rfl) (pe_listRg rfl (by rfl) T.b_list (prg_2 (by rfl) T.b_range (pv 5) (pe_op op_add (pv 0) pe_int))))
    (pss_cons (ps_if (pt_val (pv 1)) (pss_one (ps_set (i := 6) sc_l_lying.nd rfl (by first | exact Or.inl rfl | exact Or.inr rfl) (pe_op op_cat (pv 6) (pe_listRg rfl (by rfl) T.b_list (prg_2 (by rfl) T.b_range pe_int (pv 5)))))) pss_nil)
    (pss_cons (ps_setLc (i := 7) (own := [("_law_berth", 8)]) rfl sc_l_lying.nd rfl rfl (sw_true rfl rfl rfl (by decide +kernel)) (pi_list (pv 6)) (blkOk_by (N := N_l_lying) (sc := defScope s_l_lying) (by decide +kernel)) (fun _ _ _ _ _ => (pg_name (i := 8) sc_l_lying.nd rfl (by first | exact Or.inl rfl | exact Or.inr rfl))) (fun _ _ _ _ _ => (pts_one (pt_cmp (pc_notInVals rfl (pv 8) (pv 3)) rfl))) (fun _ _ _ _ _ => (pv 8)))
    (pss_cons (ps_if (pt_cmpR (op_eqT hr.units) (pv 7) (pe_lst pa_nil) (nomark _)) (pss_one (ps_ret pe_non)) pss_nil)
    (pss_one (ps_asg (pe_ix ix_list (pv 7) pe_int (fun _ _ => rfl)) (pg_sub (pv 3) (pv 4) (set_dict (Nat.lt_of_le_of_lt (Nat.add_le_add_left (by decide : 1 ≤ 64) _) hr.units))))))))))
    (pss_one (ps_ret (pv 3)))))

abbrev s_l_words : Stmt := topS 34
theorem sc_l_words : FnScope N_l_words ["_law_e"] (defScope s_l_words) := ⟨rfl, rfl, rfl, by decide +kernel, rfl, by decide +kernel, by decide +kernel⟩
theorem ok_l_words (D : DF K mg "_law_words" s_l_words ["_law_e"] a.f_l_words) (T : Txt K mg a) : Cb P w K mg base CX0 1 "_law_words" a.f_l_words ["_law_e"] (sp_l_words K a) := by
  obtain ⟨⟨fd, F, bb⟩, gg⟩ := D
  refine ⟨⟨fd, F.ok sc_l_words (fun vs H Q E h => len_l_words h) (fun cdv A outer s H vs Q E hr h => ⟨t_l_words K a, ?_, pu_l_words (fun k => match k with | .name => ⟨exm_of T.g_BerthError T.s_NoName_BerthError, T.g_NoName.c, kit_ref T.g_NoCount T.s_NoName_NoCount, kit_ref T.g_NoOrder T.s_NoName_NoOrder, kit_ref T.g_NoQuay T.s_NoName_NoQuay, kit_ref T.g_NoText T.s_NoName_NoText, kit_ref T.g_NoTree T.s_NoName_NoTree, kit_ref T.g_NoWishes T.s_NoName_NoWishes, kit_ref T.g_TooMany T.s_NoName_TooMany, fun k' => match k' with | .name => kit_ref T.g_NoName T.s_NoName_NoName | .taken => kit_ref T.g_Taken T.s_NoName_Taken | .wish => kit_ref T.g_NoWish T.s_NoName_NoWish | .room => kit_ref T.g_NoRoom T.s_NoName_NoRoom | .ship => kit_ref T.g_NoShip T.s_NoName_NoShip⟩ | .taken => ⟨exm_of T.g_BerthError T.s_Taken_BerthError, T.g_Taken.c, kit_ref T.g_NoCount T.s_Taken_NoCount, kit_ref T.g_NoOrder T.s_Taken_NoOrder, kit_ref T.g_NoQuay T.s_Taken_NoQuay, kit_ref T.g_NoText T.s_Taken_NoText, kit_ref T.g_NoTree T.s_Taken_NoTree, kit_ref T.g_NoWishes T.s_Taken_NoWishes, kit_ref T.g_TooMany T.s_Taken_TooMany, fun k' => match k' with | .name => kit_ref T.g_NoName T.s_Taken_NoName | .taken => kit_ref T.g_Taken T.s_Taken_Taken | .wish => kit_ref T.g_NoWish T.s_Taken_NoWish | .room => kit_ref T.g_NoRoom T.s_Taken_NoRoom | .ship => kit_ref T.g_NoShip T.s_Taken_NoShip⟩ | .wish => ⟨exm_of T.g_BerthError T.s_NoWish_BerthError, T.g_NoWish.c, kit_ref T.g_NoCount T.s_NoWish_NoCount, kit_ref T.g_NoOrder T.s_NoWish_NoOrder, kit_ref T.g_NoQuay T.s_NoWish_NoQuay, kit_ref T.g_NoText T.s_NoWish_NoText, kit_ref T.g_NoTree T.s_NoWish_NoTree, kit_ref T.g_NoWishes T.s_NoWish_NoWishes, kit_ref T.g_TooMany T.s_NoWish_TooMany, fun k' => match k' with | .name => kit_ref T.g_NoName T.s_NoWish_NoName | .taken => kit_ref T.g_Taken T.s_NoWish_Taken | .wish => kit_ref T.g_NoWish T.s_NoWish_NoWish | .room => kit_ref T.g_NoRoom T.s_NoWish_NoRoom | .ship => kit_ref T.g_NoShip T.s_NoWish_NoShip⟩ | .room => ⟨exm_of T.g_BerthError T.s_NoRoom_BerthError, T.g_NoRoom.c, kit_ref T.g_NoCount T.s_NoRoom_NoCount, kit_ref T.g_NoOrder T.s_NoRoom_NoOrder, kit_ref T.g_NoQuay T.s_NoRoom_NoQuay, kit_ref T.g_NoText T.s_NoRoom_NoText, kit_ref T.g_NoTree T.s_NoRoom_NoTree, kit_ref T.g_NoWishes T.s_NoRoom_NoWishes, kit_ref T.g_TooMany T.s_NoRoom_TooMany, fun k' => match k' with | .name => kit_ref T.g_NoName T.s_NoRoom_NoName | .taken => kit_ref T.g_Taken T.s_NoRoom_Taken | .wish => kit_ref T.g_NoWish T.s_NoRoom_NoWish | .room => kit_ref T.g_NoRoom T.s_NoRoom_NoRoom | .ship => kit_ref T.g_NoShip T.s_NoRoom_NoShip⟩ | .ship => ⟨exm_of T.g_BerthError T.s_NoShip_BerthError, T.g_NoShip.c, kit_ref T.g_NoCount T.s_NoShip_NoCount, kit_ref T.g_NoOrder T.s_NoShip_NoOrder, kit_ref T.g_NoQuay T.s_NoShip_NoQuay, kit_ref T.g_NoText T.s_NoShip_NoText, kit_ref T.g_NoTree T.s_NoShip_NoTree, kit_ref T.g_NoWishes T.s_NoShip_NoWishes, kit_ref T.g_TooMany T.s_NoShip_TooMany, fun k' => match k' with | .name => kit_ref T.g_NoName T.s_NoShip_NoName | .taken => kit_ref T.g_Taken T.s_NoShip_Taken | .wish => kit_ref T.g_NoWish T.s_NoShip_NoWish | .room => kit_ref T.g_NoRoom T.s_NoShip_NoRoom | .ship => kit_ref T.g_NoShip T.s_NoShip_NoShip⟩) h⟩), bb⟩, gg, F.kp⟩
  exact (pss_cons (ps_if (PW.pt (pw_or (pt_val (pe_callB call_isiTE (by rfl) T.b_isinstance (by decide +kernel) (pa_cons (pv 0) (pa_cons (pe_tup (pa_cons (pe_glob (by rfl) T.e_NoCount.g rfl) (pa_cons (pe_glob (by rfl) T.e_NoOrder.g rfl) (pa_cons (pe_glob (by rfl) T.e_NoQuay.g rfl) pa_nil)))) pa_nil)))) (pw_or1 (pt_val (pe_callB call_isiTE (by rfl) T.b_isinstance (by decide +kernel) (pa_cons (pv 0) (pa_cons (pe_tup (pa_cons (pe_glob (by rfl) T.e_NoText.g rfl) (pa_cons (pe_glob (by rfl) T.e_NoTree.g rfl) pa_nil))) pa_nil))))))) (pss_one (ps_ret pe_str)) pss_nil)
    (pss_cons (ps_if (pt_val (pe_callB call_isiTE (by rfl) T.b_isinstance (by decide +kernel) (pa_cons (pv 0) (pa_cons (pe_tup (pa_cons (pe_glob (by rfl) T.e_NoWishes.g rfl) (pa_cons (pe_glob (by rfl) T.e_TooMany.g rfl) pa_nil))) pa_nil)))) (pss_one (ps_ret pe_str)) pss_nil)
    (pss_cons (ps_set (i := 1) sc_l_words.nd rfl (by first | exact Or.inl rfl | exact Or.inr rfl) (pe_lst pa_nil))
    (pss_cons (ps_if (pt_val (pe_callB call_isiE (by rfl) T.b_isinstance (by decide +kernel) (pa_cons (pv 0) (pa_cons (pe_glob (by rfl) T.e_NoName.g rfl) pa_nil)))) (pss_one (ps_expr (pe_bm PySem.F.plainAttrs_list PySem.F.slot_list_append PySem.F.type_list_append mt_append (pv 1) (pa_cons pe_str pa_nil)))) pss_nil)
    (pss_cons (ps_if (pt_val (pe_callB call_isiE (by rfl) T.b_isinstance (by decide +kernel) (pa_cons (pv 0) (pa_cons (pe_glob (by rfl) T.e_Taken.g rfl) pa_nil)))) (pss_one (ps_expr (pe_bm PySem.F.plainAttrs_list PySem.F.slot_list_append PySem.F.type_list_append mt_append (pv 1) (pa_cons pe_str pa_nil)))) pss_nil)
    (pss_cons (ps_if (pt_val (pe_callB call_isiE (by rfl) T.b_isinstance (by decide +kernel) (pa_cons (pv 0) (pa_cons (pe_glob (by rfl) T.e_NoWish.g rfl) pa_nil)))) (pss_one (ps_expr (pe_bm PySem.F.plainAttrs_list PySem.F.slot_list_append PySem.F.type_list_append mt_append (pv 1) (pa_cons pe_str pa_nil)))) pss_nil)
    (pss_cons (ps_if (pt_val (pe_callB call_isiE (by rfl) T.b_isinstance (by decide +kernel) (pa_cons (pv 0) (pa_cons (pe_glob (by rfl) T.e_NoRoom.g rfl) pa_nil)))) (pss_one (ps_expr (pe_bm PySem.F.plainAttrs_list PySem.F.slot_list_append PySem.F.type_list_append mt_append (pv 1) (pa_cons pe_str pa_nil)))) pss_nil)
    (pss_cons (ps_if (pt_val (pe_callB call_isiE (by rfl) T.b_isinstance (by decide +kernel) (pa_cons (pv 0) (pa_cons (pe_glob (by rfl) T.e_NoShip.g rfl) pa_nil)))) (pss_one (ps_expr (pe_bm PySem.F.plainAttrs_list PySem.F.slot_list_append PySem.F.type_list_append mt_append (pv 1) (pa_cons pe_str pa_nil)))) pss_nil)
    (pss_one (ps_ret (pe_join pe_str (pv 1))))))))))))

abbrev s_l_done : Stmt := topS 35
theorem sc_l_done : FnScope N_l_done ["_law_quay", "_law_deed"] (defScope s_l_done) := ⟨rfl, rfl, rfl, by decide +kernel, rfl, by decide +kernel, by decide +kernel⟩
theorem ok_l_done (D : DF K mg "_law_done" s_l_done ["_law_quay", "_law_deed"] a.f_l_done) (T : Txt K mg a) (G_come : ∀ b, Mb P w K mg base (L2.CX P w) 5 (a.cls b) "come" ((fun b => if b = true then a.f_R_come else a.f_Q_come) b) ["self", "name", "wish"] (sp_M_come K a b)) (G_leave : ∀ b, Mb P w K mg base (L2.CX P w) 5 (a.cls b) "leave" ((fun b => if b = true then a.f_R_leave else a.f_Q_leave) b) ["self", "name"] (sp_M_leave K a b)) (G_where : ∀ b, Mb P w K mg base (L2.CX P w) 5 (a.cls b) "where" ((fun b => if b = true then a.f_R_where else a.f_Q_where) b) ["self", "name"] (sp_M_where K a b)) (g_l_words : Cb P w K mg base CX0 1 "_law_words" a.f_l_words ["_law_e"] (sp_l_words K a)) : Cb P w K mg base CX0 6 "_law_done" a.f_l_done ["_law_quay", "_law_deed"] (sp_l_done K a) := by
  obtain ⟨⟨fd, F, bb⟩, gg⟩ := D
  refine ⟨⟨fd, F.ok sc_l_done (fun vs H Q E h => len_l_done h) (fun cdv A outer s H vs Q E hr h => ⟨t_l_done K a, ?_, pu_l_done (fun k => match k with | .name => ⟨exm_of T.g_BerthError T.s_NoName_BerthError, T.g_NoName.c, kit_ref T.g_NoCount T.s_NoName_NoCount, kit_ref T.g_NoOrder T.s_NoName_NoOrder, kit_ref T.g_NoQuay T.s_NoName_NoQuay, kit_ref T.g_NoText T.s_NoName_NoText, kit_ref T.g_NoTree T.s_NoName_NoTree, kit_ref T.g_NoWishes T.s_NoName_NoWishes, kit_ref T.g_TooMany T.s_NoName_TooMany, fun k' => match k' with | .name => kit_ref T.g_NoName T.s_NoName_NoName | .taken => kit_ref T.g_Taken T.s_NoName_Taken | .wish => kit_ref T.g_NoWish T.s_NoName_NoWish | .room => kit_ref T.g_NoRoom T.s_NoName_NoRoom | .ship => kit_ref T.g_NoShip T.s_NoName_NoShip⟩ | .taken => ⟨exm_of T.g_BerthError T.s_Taken_BerthError, T.g_Taken.c, kit_ref T.g_NoCount T.s_Taken_NoCount, kit_ref T.g_NoOrder T.s_Taken_NoOrder, kit_ref T.g_NoQuay T.s_Taken_NoQuay, kit_ref T.g_NoText T.s_Taken_NoText, kit_ref T.g_NoTree T.s_Taken_NoTree, kit_ref T.g_NoWishes T.s_Taken_NoWishes, kit_ref T.g_TooMany T.s_Taken_TooMany, fun k' => match k' with | .name => kit_ref T.g_NoName T.s_Taken_NoName | .taken => kit_ref T.g_Taken T.s_Taken_Taken | .wish => kit_ref T.g_NoWish T.s_Taken_NoWish | .room => kit_ref T.g_NoRoom T.s_Taken_NoRoom | .ship => kit_ref T.g_NoShip T.s_Taken_NoShip⟩ | .wish => ⟨exm_of T.g_BerthError T.s_NoWish_BerthError, T.g_NoWish.c, kit_ref T.g_NoCount T.s_NoWish_NoCount, kit_ref T.g_NoOrder T.s_NoWish_NoOrder, kit_ref T.g_NoQuay T.s_NoWish_NoQuay, kit_ref T.g_NoText T.s_NoWish_NoText, kit_ref T.g_NoTree T.s_NoWish_NoTree, kit_ref T.g_NoWishes T.s_NoWish_NoWishes, kit_ref T.g_TooMany T.s_NoWish_TooMany, fun k' => match k' with | .name => kit_ref T.g_NoName T.s_NoWish_NoName | .taken => kit_ref T.g_Taken T.s_NoWish_Taken | .wish => kit_ref T.g_NoWish T.s_NoWish_NoWish | .room => kit_ref T.g_NoRoom T.s_NoWish_NoRoom | .ship => kit_ref T.g_NoShip T.s_NoWish_NoShip⟩ | .room => ⟨exm_of T.g_BerthError T.s_NoRoom_BerthError, T.g_NoRoom.c, kit_ref T.g_NoCount T.s_NoRoom_NoCount, kit_ref T.g_NoOrder T.s_NoRoom_NoOrder, kit_ref T.g_NoQuay T.s_NoRoom_NoQuay, kit_ref T.g_NoText T.s_NoRoom_NoText, kit_ref T.g_NoTree T.s_NoRoom_NoTree, kit_ref T.g_NoWishes T.s_NoRoom_NoWishes, kit_ref T.g_TooMany T.s_NoRoom_TooMany, fun k' => match k' with | .name => kit_ref T.g_NoName T.s_NoRoom_NoName | .taken => kit_ref T.g_Taken T.s_NoRoom_Taken | .wish => kit_ref T.g_NoWish T.s_NoRoom_NoWish | .room => kit_ref T.g_NoRoom T.s_NoRoom_NoRoom | .ship => kit_ref T.g_NoShip T.s_NoRoom_NoShip⟩ | .ship => ⟨exm_of T.g_BerthError T.s_NoShip_BerthError, T.g_NoShip.c, kit_ref T.g_NoCount T.s_NoShip_NoCount, kit_ref T.g_NoOrder T.s_NoShip_NoOrder, kit_ref T.g_NoQuay T.s_NoShip_NoQuay, kit_ref T.g_NoText T.s_NoShip_NoText, kit_ref T.g_NoTree T.s_NoShip_NoTree, kit_ref T.g_NoWishes T.s_NoShip_NoWishes, kit_ref T.g_TooMany T.s_NoShip_TooMany, fun k' => match k' with | .name => kit_ref T.g_NoName T.s_NoShip_NoName | .taken => kit_ref T.g_Taken T.s_NoShip_Taken | .wish => kit_ref T.g_NoWish T.s_NoShip_NoWish | .room => kit_ref T.g_NoRoom T.s_NoShip_NoRoom | .ship => kit_ref T.g_NoShip T.s_NoShip_NoShip⟩) h⟩), bb⟩, gg, F.kp⟩
  exact (pss_cons (ps_set (i := 2) sc_l_done.nd rfl (by first | exact Or.inl rfl | exact Or.inr rfl) pe_non)
    (pss_cons (ps_set (i := 3) sc_l_done.nd rfl (by first | exact Or.inl rfl | exact Or.inr rfl) pe_non)
    (pss_cons (ps_try_keep (i := 4) (j := 3) (tb := fun W => (tIfS (tTest (tOp rEq (tOp (rIxT K) (tVar 1) (tC (.int 0))) (tC (.str (Str.ofString "come"))))) (tAsg (tMethB a.cls "come" (fun b => sp_M_come K a b) (WE W) (tVar 0) (tCons (tOp (rIxT K) (tVar 1) (tC (.int 1))) (tCons (tOp (rIxT K) (tVar 1) (tC (.int 2))) tNil))) (gName 2)) (tIfS (tTest (tOp rEq (tOp (rIxT K) (tVar 1) (tC (.int 0))) (tC (.str (Str.ofString "leave"))))) (tAsg (tMethB a.cls "leave" (fun b => sp_M_leave K a b) (WE W) (tVar 0) (tCons (tOp (rIxT K) (tVar 1) (tC (.int 1))) tNil)) (gName 2)) (tAsg (tMethB a.cls "where" (fun b => sp_M_where K a b) (WE W) (tVar 0) (tCons (tOp (rIxT K) (tVar 1) (tC (.int 1))) tNil)) (gName 2))))) rfl rfl rfl sc_l_done.nd rfl rfl ⟨rfl, by decide, .inl T.e_BerthError.g⟩ (fun W pn xe tk _ => (pss_one (ps_if (pt_cmpR op_eq (pe_ix ix_tup (pv 1) pe_int (fun _ _ => rfl)) pe_str (nomark _)) (pss_one (ps_set (i := 2) sc_l_done.nd rfl (by first | exact Or.inl rfl | exact Or.inr rfl) (pe_mbB G_come (fun b => (T.cl b).cl) (hr.mono (by decide)) (fun s => passAt tk s) (pv 0) (pa_cons (pe_ix ix_tup (pv 1) pe_int (fun _ _ => rfl)) (pa_cons (pe_ix ix_tup (pv 1) pe_int (fun _ _ => rfl)) pa_nil))))) (pss_one (ps_if (pt_cmpR op_eq (pe_ix ix_tup (pv 1) pe_int (fun _ _ => rfl)) pe_str (nomark _)) (pss_one (ps_set (i := 2) sc_l_done.nd rfl (by first | exact Or.inl rfl | exact Or.inr rfl) (pe_mbB G_leave (fun b => (T.cl b).cl) (hr.mono (by decide)) (fun s => passAt tk s) (pv 0) (pa_cons (pe_ix ix_tup (pv 1) pe_int (fun _ _ => rfl)) pa_nil)))) (pss_one (ps_set (i := 2) sc_l_done.nd rfl (by first | exact Or.inl rfl | exact Or.inr rfl) (pe_mbB G_where (fun b => (T.cl b).cl) (hr.mono (by decide)) (fun s => passAt tk s) (pv 0) (pa_cons (pe_ix ix_tup (pv 1) pe_int (fun _ _ => rfl)) pa_nil))))))))) (fun _ _ _ _ _ _ _ => pss_one (ps_set (i := 3) sc_l_done.nd rfl (.inl rfl) (pv 4))))
    (pss_one (ps_ret (pe_ifExp (pt_cmp (pc_isN (pv 3)) rfl) (pv 2) (pe_cb g_l_words (hr.mono (by decide)) (by rfl) pass0 (pa_cons (pv 3) pa_nil))))))))

abbrev s_l_due : Stmt := topS 36
theorem sc_l_due : FnScope N_l_due ["_law_berths", "_law_around", "_law_line", "_law_deed"] (defScope s_l_due) := ⟨rfl, rfl, rfl, by decide +kernel, rfl, by decide +kernel, by decide +kernel⟩
theorem ok_l_due (D : DF K mg "_law_due" s_l_due ["_law_berths", "_law_around", "_law_line", "_law_deed"] a.f_l_due) (T : Txt K mg a) (g_l_whole : Cb P w K mg base CX0 1 "_law_whole" a.f_l_whole ["_law_found"] (sp_l_whole K)) (g_l_lying : Cb P w K mg base CX0 1 "_law_lying" a.f_l_lying ["_law_berths", "_law_around", "_law_line"] (sp_l_lying K a)) : Cb P w K mg base CX0 2 "_law_due" a.f_l_due ["_law_berths", "_law_around", "_law_line", "_law_deed"] (sp_l_due K a) := by
  obtain ⟨⟨fd, F, bb⟩, gg⟩ := D
  refine ⟨⟨fd, F.ok sc_l_due (fun vs H Q E h => len_l_due h) (fun cdv A outer s H vs Q E hr h => ⟨t_l_due K a, ?_, pu_l_due h⟩), bb⟩, gg, F.kp⟩
  exact (pss_cons (ps_asg (pv 3) (pg_tup rfl (pgs_cons (pg_name (i := 4) sc_l_due.nd rfl (by first | exact Or.inl rfl | exact Or.inr rfl)) (pgs_cons (pg_name (i := 5) sc_l_due.nd rfl (by first | exact Or.inl rfl | exact Or.inr rfl)) (pgs_cons (pg_name (i := 6) sc_l_due.nd rfl (by first | exact Or.inl rfl | exact Or.inr rfl)) pgs_nil)))))
    (pss_cons (ps_if (pt_cmpR op_in_seq (pv 5) (pe_tup (pa_cons pe_str (pa_cons pe_str (pa_cons pe_str (pa_cons pe_non (pa_cons pe_str pa_nil)))))) (by rfl)) (pss_one (ps_ret (pe_tup (pa_cons pe_str (pa_cons (pv 2) pa_nil))))) pss_nil)
    (pss_cons (ps_setLc (i := 7) (own := [("_law_pair", 14)]) rfl sc_l_due.nd rfl rfl (sw_true rfl rfl rfl (by decide +kernel)) (pi_list (pv 2)) (blkOk_by (N := N_l_due) (sc := defScope s_l_due) (by decide +kernel)) (fun _ _ _ _ _ => (pg_name (i := 14) sc_l_due.nd rfl (by first | exact Or.inl rfl | exact Or.inr rfl))) (fun _ _ _ _ _ => (pts_one (pt_cmpR op_eq (pe_ix ix_tup (pv 14) pe_int (fun _ _ => rfl)) (pv 5) (nomark _)))) (fun _ _ _ _ _ => (pv 14)))
    (pss_cons (ps_set (i := 8) sc_l_due.nd rfl (by first | exact Or.inl rfl | exact Or.inr rfl) (pe_cb g_l_lying (hr.mono (by decide)) (by rfl) pass0 (pa_cons (pv 0) (pa_cons (pv 1) (pa_cons (pv 2) pa_nil)))))
    (pss_cons (ps_if (pt_cmpR op_eq (pv 4) pe_str (nomark _)) (pss_cons (ps_if (pt_cmpR (op_neT hr.units) (pv 7) (pe_lst pa_nil) (nomark _)) (pss_one (ps_ret (pe_tup (pa_cons pe_str (pa_cons (pv 2) pa_nil))))) pss_nil)
    (pss_cons (ps_if (PW.pt (pw_or (pt_not (pt_val (pe_cb g_l_whole (hr.mono (by decide)) (by rfl) pass0 (pa_cons (pv 6) pa_nil)))) (pw_or1 (pt_not (pt_chain op_le op_le pe_int (pv 6) (pv 0)))))) (pss_one (ps_ret (pe_tup (pa_cons pe_str (pa_cons (pv 2) pa_nil))))) pss_nil)
    (pss_cons (ps_set (i := 9) sc_l_due.nd rfl (by first | exact Or.inl rfl | exact Or.inr rfl) (pe_cb g_l_lying (hr.mono (by decide)) (by rfl) pass0 (pa_cons (pv 0) (pa_cons (pv 1) (pa_cons (pe_op op_cat (pv 2) (pe_lst (pa_cons (pe_tup (pa_cons (pv 5) (pa_cons (pv 6) pa_nil))) pa_nil))) pa_nil)))))
    (pss_one (ps_ret (pe_ifExp (pt_cmp (pc_isN (pv 9)) rfl) (pe_tup (pa_cons pe_str (pa_cons (pv 2) pa_nil))) (pe_tup (pa_cons (pe_dget (Nat.lt_of_le_of_lt (Nat.add_le_add_left (by decide : 1 ≤ 64) _) hr.units) (pv 9) (pv 5) (fun _ _ => rfl)) (pa_cons (pe_op op_cat (pv 2) (pe_lst (pa_cons (pe_tup (pa_cons (pv 5) (pa_cons (pv 6) pa_nil))) pa_nil))) pa_nil))))))))) pss_nil)
    (pss_cons (ps_if (pt_cmpR (op_eqT hr.units) (pv 7) (pe_lst pa_nil) (nomark _)) (pss_one (ps_ret (pe_tup (pa_cons pe_str (pa_cons (pv 2) pa_nil))))) pss_nil)
    (pss_cons (ps_if (pt_cmpR op_eq (pv 4) pe_str (nomark _)) (pss_one (ps_ret (pe_tup (pa_cons (pe_dget (Nat.lt_of_le_of_lt (Nat.add_le_add_left (by decide : 1 ≤ 64) _) hr.units) (pv 8) (pv 5) (fun _ _ => rfl)) (pa_cons (pv 2) pa_nil))))) pss_nil)
    (pss_cons (ps_setLc (i := 10) (own := [("_law_pair", 14)]) rfl sc_l_due.nd rfl rfl (sw_true rfl rfl rfl (by decide +kernel)) (pi_list (pv 2)) (blkOk_by (N := N_l_due) (sc := defScope s_l_due) (by decide +kernel)) (fun _ _ _ _ _ => (pg_name (i := 14) sc_l_due.nd rfl (by first | exact Or.inl rfl | exact Or.inr rfl))) (fun _ _ _ _ _ => (pts_one (pt_cmpR op_ne (pe_ix ix_tup (pv 14) pe_int (fun _ _ => rfl)) (pv 5) (nomark _)))) (fun _ _ _ _ _ => (pv 14)))
    (pss_cons (ps_set (i := 9) sc_l_due.nd rfl (by first | exact Or.inl rfl | exact Or.inr rfl) (pe_cb g_l_lying (hr.mono (by decide)) (by rfl) pass0 (pa_cons (pv 0) (pa_cons (pv 1) (pa_cons (pv 10) pa_nil)))))
    (pss_cons (ps_set (i := 11) sc_l_due.nd rfl (by first | exact Or.inl rfl | exact Or.inr rfl) (pe_lst pa_nil))
    (pss_cons (ps_for PassesOwn.never rfl (pi_list (pv 10)) (pg_tup rfl (pgs_cons (pg_name (i := 12) sc_l_due.nd rfl (by first | exact Or.inl rfl | exact Or.inr rfl)) (pgs_cons (pg_name (i := 13) sc_l_due.nd rfl (by first | exact Or.inl rfl | exact Or.inr rfl)) pgs_nil)))
    (pss_one (ps_if (pt_cmpR op_ne (pe_dget (Nat.lt_of_le_of_lt (Nat.add_le_add_left (by decide : 1 ≤ 64) _) hr.units) (pv 8) (pv 12) (fun _ _ => rfl)) (pe_dget (Nat.lt_of_le_of_lt (Nat.add_le_add_left (by decide : 1 ≤ 64) _) hr.units) (pv 9) (pv 12) (fun _ _ => rfl)) (nomark _)) (pss_one (ps_expr (pe_bm PySem.F.plainAttrs_list PySem.F.slot_list_append PySem.F.type_list_append mt_append (pv 11) (pa_cons (pe_tup (pa_cons (pv 12) (pa_cons (pe_dget (Nat.lt_of_le_of_lt (Nat.add_le_add_left (by decide : 1 ≤ 64) _) hr.units) (pv 8) (pv 12) (fun _ _ => rfl)) (pa_cons (pe_dget (Nat.lt_of_le_of_lt (Nat.add_le_add_left (by decide : 1 ≤ 64) _) hr.units) (pv 9) (pv 12) (fun _ _ => rfl)) pa_nil)))) pa_nil)))) pss_nil)))
    (pss_one (ps_ret (pe_tup (pa_cons (pv 11) (pa_cons (pv 10) pa_nil))))))))))))))))

abbrev s_l_stands : Stmt := topS 37
theorem sc_l_stands : FnScope N_l_stands ["_law_quay", "_law_berths", "_law_around", "_law_line"] (defScope s_l_stands) := ⟨rfl, rfl, rfl, by decide +kernel, rfl, by decide +kernel, by decide +kernel⟩
theorem ok_l_stands (D : DF K mg "_law_stands" s_l_stands ["_law_quay", "_law_berths", "_law_around", "_law_line"] a.f_l_stands) (T : Txt K mg a) (G_all_ships : ∀ b, Mb P w K mg base CX0 2 (a.cls b) "all_ships" ((fun b => if b = true then a.f_R_all_ships else a.f_Q_all_ships) b) ["self"] (sp_M_all_ships K a b)) (G_free_ones : ∀ b, Mb P w K mg base CX0 3 (a.cls b) "free_ones" ((fun b => if b = true then a.f_R_free_ones else a.f_Q_free_ones) b) ["self"] (sp_M_free_ones K a b)) (G_size : ∀ b, Mb P w K mg base CX0 2 (a.cls b) "size" ((fun b => if b = true then a.f_R_size else a.f_Q_size) b) ["self"] (sp_M_size K a b)) (G_kind : ∀ b, Mb P w K mg base CX0 1 (a.cls b) "kind" ((fun b => if b = true then a.f_R_kind else a.f_Q_kind) b) ["self"] (sp_M_kind K a b)) (g_l_lying : Cb P w K mg base CX0 1 "_law_lying" a.f_l_lying ["_law_berths", "_law_around", "_law_line"] (sp_l_lying K a)) : Cb P w K mg base CX0 4 "_law_stands" a.f_l_stands ["_law_quay", "_law_berths", "_law_around", "_law_line"] (sp_l_stands K a) := by
  obtain ⟨⟨fd, F, bb⟩, gg⟩ := D
  refine ⟨⟨fd, F.ok sc_l_stands (fun vs H Q E h => len_l_stands h) (fun cdv A outer s H vs Q E hr h => ⟨t_l_stands K a, ?_, pu_l_stands h⟩), bb⟩, gg, F.kp⟩
  exact (pss_cons (ps_set (i := 4) sc_l_stands.nd rfl (by first | exact Or.inl rfl | exact Or.inr rfl) (pe_cb g_l_lying (hr.mono (by decide)) (by rfl) pass0 (pa_cons (pv 1) (pa_cons (pv 2) (pa_cons (pv 3) pa_nil)))))
    (pss_cons (ps_setLc (i := 5) (own := [("_law_name", 8), ("_law_wish", 9)]) rfl sc_l_stands.nd rfl rfl (sw_true rfl rfl rfl (by decide +kernel)) (pi_list (pv 3)) (blkOk_by (N := N_l_stands) (sc := defScope s_l_stands) (by decide +kernel)) (fun _ _ _ _ _ => (pg_tup rfl (pgs_cons (pg_name (i := 8) sc_l_stands.nd rfl (by first | exact Or.inl rfl | exact Or.inr rfl)) (pgs_cons (pg_name (i := 9) sc_l_stands.nd rfl (by first | exact Or.inl rfl | exact Or.inr rfl)) pgs_nil)))) (fun _ _ _ _ _ => pts_nil) (fun _ _ _ _ _ => (pe_tup (pa_cons (pv 8) (pa_cons (pv 9) (pa_cons (pe_dget (Nat.lt_of_le_of_lt (Nat.add_le_add_left (by decide : 1 ≤ 64) _) hr.units) (pv 4) (pv 8) (fun _ _ => rfl)) pa_nil))))))
    (pss_cons (ps_if (PW.pt (pw_or (pt_cmpR (op_neT hr.units) (pe_mbB0 G_all_ships (fun b => (T.cl b).cl) (hr.mono (by decide)) (fun s => passOf pass0 s) (pv 0)) (pv 5) (nomark _)) (pw_or1 (pt_not (pt_val (pe_callB call_isi (by rfl) T.b_isinstance (by decide +kernel) (pa_cons (pe_mbB0 G_all_ships (fun b => (T.cl b).cl) (hr.mono (by decide)) (fun s => passOf pass0 s) (pv 0)) (pa_cons (pe_bltn (by rfl) T.b_list (by decide +kernel) rfl) pa_nil)))))))) (pss_one (ps_ret pe_bl)) pss_nil)
    (pss_cons (ps_set (i := 6) sc_l_stands.nd rfl (by first | exact Or.inl rfl | exact Or.inr rfl) (pe_mbB0 G_free_ones (fun b => (T.cl b).cl) (hr.mono (by decide)) (fun s => passOf pass0 s) (pv 0)))
    (pss_cons (ps_setLc (i := 7) (own := [("_law_berth", 10)]) rfl sc_l_stands.nd rfl rfl (sw_true rfl rfl rfl (by decide +kernel)) (pi_range2 (by rfl) T.b_range (pa_cons pe_int (pa_cons (pe_op op_add (pv 1) pe_int) pa_nil))) (blkOk_by (N := N_l_stands) (sc := defScope s_l_stands) (by decide +kernel)) (fun _ _ _ _ _ => (pg_name (i := 10) sc_l_stands.nd rfl (by first | exact Or.inl rfl | exact Or.inr rfl))) (fun _ _ _ _ _ => (pts_one (pt_cmp (pc_notInVals rfl (pv 10) (pv 4)) rfl))) (fun _ _ _ _ _ => (pv 10)))
    (pss_cons (ps_if (PW.pt (pw_or (pt_not (pt_val (pe_callB call_isi (by rfl) T.b_isinstance (by decide +kernel) (pa_cons (pv 6) (pa_cons (pe_bltn (by rfl) T.b_list (by decide +kernel) rfl) pa_nil))))) (pw_or1 (pt_cmpR (op_neT hr.units) (pv 6) (pv 7) (nomark _))))) (pss_one (ps_ret pe_bl)) pss_nil)
    (pss_cons (ps_expr (pe_bm PySem.F.plainAttrs_list PySem.F.slot_list_append PySem.F.type_list_append mt_append (pv 6) (pa_cons pe_int pa_nil)))
    (pss_cons (ps_expr (pe_bm0 PySem.F.plainAttrs_list PySem.F.slot_list_clear PySem.F.type_list_clear mt_clear (pe_mbB0 G_all_ships (fun b => (T.cl b).cl) (hr.mono (by decide)) (fun s => passOf pass0 s) (pv 0))))
    (pss_one (ps_ret (pe_and (pe_cmpR op_eq (pe_mbB0 G_size (fun b => (T.cl b).cl) (hr.mono (by decide)) (fun s => passOf pass0 s) (pv 0)) (pv 1) (nomark _)) (pe_one (pe_cmpR op_eq (pe_mbB0 G_kind (fun b => (T.cl b).cl) (hr.mono (by decide)) (fun s => passOf pass0 s) (pv 0)) (pe_ix ix_list (pe_lst (pa_cons pe_str (pa_cons pe_str pa_nil))) (pe_callTy call_int1 (by rfl) T.b_int (by decide +kernel) (pa_cons (pv 2) pa_nil)) (fun _ _ => rfl)) (nomark _))))))))))))))

abbrev s_l_nearer : Stmt := topS 38
theorem sc_l_nearer : FnScope N_l_nearer ["_law_berths", "_law_around", "_law_line", "_law_moves"] (defScope s_l_nearer) := ⟨rfl, rfl, rfl, by decide +kernel, rfl, by decide +kernel, by decide +kernel⟩
theorem ok_l_nearer (D : DF K mg "_law_nearer" s_l_nearer ["_law_berths", "_law_around", "_law_line", "_law_moves"] a.f_l_nearer) (T : Txt K mg a) : Cb P w K mg base CX0 1 "_law_nearer" a.f_l_nearer ["_law_berths", "_law_around", "_law_line", "_law_moves"] (sp_l_nearer K a) := by
  obtain ⟨⟨fd, F, bb⟩, gg⟩ := D
  refine ⟨⟨fd, F.ok sc_l_nearer (fun vs H Q E h => len_l_nearer h) (fun cdv A outer s H vs Q E hr h => ⟨t_l_nearer K a, ?_, pu_l_nearer h⟩), bb⟩, gg, F.kp⟩
  exact (pss_cons (ps_set (i := 4) sc_l_nearer.nd rfl (by first | exact Or.inl rfl | exact Or.inr rfl) (pe_callTy (call_dictP rfl) (by rfl) T.b_dict (by decide +kernel) (pa_cons (pv 2) pa_nil)))
    (pss_cons (ps_for PassesOwn.never rfl (pi_list (pv 3)) (pg_tup rfl (pgs_cons (pg_name (i := 5) sc_l_nearer.nd rfl (by first | exact Or.inl rfl | exact Or.inr rfl)) (pgs_cons (pg_name (i := 6) sc_l_nearer.nd rfl (by first | exact Or.inl rfl | exact Or.inr rfl)) (pgs_cons (pg_name (i := 7) sc_l_nearer.nd rfl (by first | exact Or.inl rfl | exact Or.inr rfl)) pgs_nil))))
    (pss_cons (ps_setLc (i := 8) (own := [("_law_berth", 9)]) rfl sc_l_nearer.nd rfl rfl (sw_true rfl rfl rfl (by decide +kernel)) (pi_tup (pe_tup (pa_cons (pv 6) (pa_cons (pv 7) pa_nil)))) (blkOk_by (N := N_l_nearer) (sc := defScope s_l_nearer) (by decide +kernel)) (fun _ _ _ _ _ => (pg_name (i := 9) sc_l_nearer.nd rfl (by first | exact Or.inl rfl | exact Or.inr rfl))) (fun _ _ _ _ _ => pts_nil) (fun _ _ _ _ _ => (pe_op op_mod (pe_op op_sub (pv 9) (pe_dget (Nat.lt_of_le_of_lt (Nat.add_le_add_left (by decide : 1 ≤ 64) _) hr.units) (pv 4) (pv 5) (fun _ _ => rfl))) (pv 0))))
    (pss_one (ps_if (PW.pt (pw_or (pt_cmpR op_ge (pe_ix ix_list (pv 8) pe_int (fun _ _ => rfl)) (pe_ix ix_list (pv 8) pe_int (fun _ _ => rfl)) (nomark _)) (pw_or1 (PW.pt (pw_and (pt_not (pt_val (pv 1))) (pw_and1 (pt_cmpR op_lt (pv 7) (pe_dget (Nat.lt_of_le_of_lt (Nat.add_le_add_left (by decide : 1 ≤ 64) _) hr.units) (pv 4) (pv 5) (fun _ _ => rfl)) (nomark _)))))))) (pss_one (ps_ret pe_bl)) pss_nil))))
    (pss_one (ps_ret pe_bl))))

abbrev s_law : Stmt := topS 39
theorem sc_law : FnScope N_law ["_law_script"] (defScope s_law) := ⟨rfl, rfl, rfl, by decide +kernel, rfl, by decide +kernel, by decide +kernel⟩
theorem ok_law {f : Addr} {fd : FuncData} (F : Fun K "law" "law" s_law f fd) (T : Txt K mg a) (G_Q_init : ∀ b, ∃ fd, FnOk P w K mg base (L2.CX P w) 4 a.f_Q_init fd ["self", "berths"] (sp_M_init K a b) ∧ Binds K fd ["self", "berths"] []) (G_R_init : ∃ fd, FnOk P w K mg base (L2.CX P w) 5 a.f_R_init fd ["self", "berths"] (sp_M_init K a true) ∧ Binds K fd ["self", "berths"] []) (g_l_cell_at : Cb P w K mg base CX0 1 "_law_cell_at" a.f_l_cell_at ["_law_script", "_law_k"] (sp_l_cell_at K)) (g_l_mix : Cb P w K mg base CX0 1 "_law_mix" a.f_l_mix ["_law_state", "_law_cell"] (sp_l_mix K)) (g_l_done : Cb P w K mg base CX0 6 "_law_done" a.f_l_done ["_law_quay", "_law_deed"] (sp_l_done K a)) (g_l_due : Cb P w K mg base CX0 2 "_law_due" a.f_l_due ["_law_berths", "_law_around", "_law_line", "_law_deed"] (sp_l_due K a)) (g_l_stands : Cb P w K mg base CX0 4 "_law_stands" a.f_l_stands ["_law_quay", "_law_berths", "_law_around", "_law_line"] (sp_l_stands K a)) (g_l_nearer : Cb P w K mg base CX0 1 "_law_nearer" a.f_l_nearer ["_law_berths", "_law_around", "_law_line", "_law_moves"] (sp_l_nearer K a)) : FnOk P w K mg base CX0 7 f fd ["_law_script"] (sp_law K) := by
  refine F.ok sc_law (fun vs H Q E h => len_law h) (fun cdv A outer s H vs Q E hr h => ⟨t_law K a, ?_, pu_law h⟩)
  exact (pss_cons (ps_set (i := 1) sc_law.nd rfl (by first | exact Or.inl rfl | exact Or.inr rfl) (pe_op op_add pe_int (pe_op op_mod (pe_cb g_l_cell_at (hr.mono (by decide)) (by rfl) pass0 (pa_cons (pv 0) (pa_cons pe_int pa_nil))) pe_int)))
    (pss_cons (ps_for PassesOwn.never rfl (pi_list (pe_lst (pa_cons pe_bl (pa_cons pe_bl pa_nil)))) (pg_name (i := 2) sc_law.nd rfl (by first | exact Or.inl rfl | exact Or.inr rfl))
    (pss_cons (ps_set (i := 3) sc_law.nd rfl (by first | exact Or.inl rfl | exact Or.inr rfl) (pe_mk T.mk_Quay (G_Q_init false) T.m_Quay (hr.mono (by decide)) (by rfl) (fun s => passOf passL s) (pa_cons (pv 1) pa_nil)))
    (pss_cons (ps_if (pt_val (pv 2)) (pss_one (ps_set (i := 3) sc_law.nd rfl (by first | exact Or.inl rfl | exact Or.inr rfl) (pe_mk T.mk_Round G_R_init T.m_Round (hr.mono (by decide)) (by rfl) (fun s => passOf passL s) (pa_cons (pv 1) pa_nil)))) pss_nil)
    (pss_cons (ps_set (i := 4) sc_law.nd rfl (by first | exact Or.inl rfl | exact Or.inr rfl) (pe_lst pa_nil))
    (pss_cons (ps_set (i := 5) sc_law.nd rfl (by first | exact Or.inl rfl | exact Or.inr rfl) (pe_lst (pa_cons (pe_op op_add pe_int (pe_op op_mod (pe_cb g_l_cell_at (hr.mono (by decide)) (by rfl) pass0 (pa_cons (pv 0) (pa_cons pe_int pa_nil))) pe_int)) pa_nil)))
    (pss_cons (ps_for PassesOwn.never rfl (pi_list (pe_slice sl_list (pv 0) po_none (po_some pe_int))) (pg_name (i := 6) sc_law.nd rfl (by first | exact Or.inl rfl | exact Or.inr rfl))
    (pss_cons (ps_set (i := 7) sc_law.nd rfl (by first | exact Or.inl rfl | exact Or.inr rfl) (pe_cb g_l_mix (hr.mono (by decide)) (by rfl) pass0 (pa_cons (pv 5) (pa_cons (pv 6) pa_nil))))
    (pss_cons (ps_set (i := 8) sc_law.nd rfl (by first | exact Or.inl rfl | exact Or.inr rfl) (pe_lst (pa_cons pe_str (pa_cons pe_str (pa_cons pe_str (pa_cons pe_str (pa_cons pe_str (pa_cons pe_str (pa_cons pe_str (pa_cons pe_str (pa_cons pe_str (pa_cons pe_str (pa_cons pe_str (pa_cons pe_str (pa_cons pe_non (pa_cons pe_str pa_nil))))))))))))))))
    (pss_cons (ps_set (i := 9) sc_law.nd rfl (by first | exact Or.inl rfl | exact Or.inr rfl) (pe_ix ix_list (pv 8) (pe_op op_mod (pv 7) pe_int) (fun _ _ => rfl)))
    (pss_cons (ps_set (i := 10) sc_law.nd rfl (by first | exact Or.inl rfl | exact Or.inr rfl) (pe_op op_add pe_int (pe_op op_mod (pe_op op_fdiv (pv 7) pe_int) (pv 1))))
    (pss_cons (ps_set (i := 11) sc_law.nd rfl (by first | exact Or.inl rfl | exact Or.inr rfl) (pe_ix ix_list (pe_lst (pa_cons (pv 10) (pa_cons pe_int (pa_cons (pv 1) (pa_cons (pv 10) (pa_cons pe_int (pa_cons (pe_op op_add (pv 1) pe_int) (pa_cons pe_bl (pa_cons pe_non pa_nil))))))))) (pe_op op_mod (pe_op op_fdiv (pv 7) pe_int) pe_int) (fun _ _ => rfl)))
    (pss_cons (ps_set (i := 12) sc_law.nd rfl (by first | exact Or.inl rfl | exact Or.inr rfl) (pe_ix ix_list (pe_lst (pa_cons pe_str (pa_cons pe_str (pa_cons pe_str (pa_cons pe_str (pa_cons pe_str pa_nil)))))) (pe_op op_mod (pe_op op_fdiv (pv 7) pe_int) pe_int) (fun _ _ => rfl)))
    (pss_cons (ps_asg (pe_cb g_l_due (hr.mono (by decide)) (by rfl) pass0 (pa_cons (pv 1) (pa_cons (pv 2) (pa_cons (pv 4) (pa_cons (pe_tup (pa_cons (pv 12) (pa_cons (pv 9) (pa_cons (pv 11) pa_nil)))) pa_nil))))) (pg_tup rfl (pgs_cons (pg_name (i := 13) sc_law.nd rfl (by first | exact Or.inl rfl | exact Or.inr rfl)) (pgs_cons (pg_name (i := 14) sc_law.nd rfl (by first | exact Or.inl rfl | exact Or.inr rfl)) pgs_nil))))
    (pss_cons (ps_set (i := 15) sc_law.nd rfl (by first | exact Or.inl rfl | exact Or.inr rfl) (pe_cb g_l_done (hr.mono (by decide)) (by rfl) pass0 (pa_cons (pv 3) (pa_cons (pe_tup (pa_cons (pv 12) (pa_cons (pv 9) (pa_cons (pv 11) pa_nil)))) pa_nil))))
    (pss_cons (ps_if (PW.pt (pw_or (pt_cmpR (op_neT hr.units) (pv 15) (pv 13) (nomark _)) (pw_or (pt_val (pe_callB call_isi (by rfl) T.b_isinstance (by decide +kernel) (pa_cons (pv 15) (pa_cons (pe_bltn (by rfl) T.b_bool (by decide +kernel) rfl) pa_nil)))) (pw_or1 (PW.pt (pw_and (pt_val (pe_callB call_isi (by rfl) T.b_isinstance (by decide +kernel) (pa_cons (pv 13) (pa_cons (pe_bltn (by rfl) T.b_list (by decide +kernel) rfl) pa_nil)))) (pw_and1 (pt_not (pt_val (pe_callB call_isi (by rfl) T.b_isinstance (by decide +kernel) (pa_cons (pv 15) (pa_cons (pe_bltn (by rfl) T.b_list (by decide +kernel) rfl) pa_nil)))))))))))) (pss_one (ps_ret pe_bl)) pss_nil)
    (pss_cons (ps_if (PW.pt (pw_and (pt_val (pe_callB call_isi (by rfl) T.b_isinstance (by decide +kernel) (pa_cons (pv 13) (pa_cons (pe_bltn (by rfl) T.b_list (by decide +kernel) rfl) pa_nil)))) (pw_and1 (pt_not (pt_val (pe_cb g_l_nearer (hr.mono (by decide)) (by rfl) pass0 (pa_cons (pv 1) (pa_cons (pv 2) (pa_cons (pv 4) (pa_cons (pv 15) pa_nil)))))))))) (pss_one (ps_ret pe_bl)) pss_nil)
    (pss_cons (ps_set (i := 4) sc_law.nd rfl (by first | exact Or.inl rfl | exact Or.inr rfl) (pv 14))
    (pss_one (ps_if (PW.pt (pw_and (pt_cmpR op_eq (pe_op op_mod (pe_op op_fdiv (pv 7) pe_int) pe_int) pe_int (nomark _)) (pw_and1 (pt_not (pt_val (pe_cb g_l_stands (hr.mono (by decide)) (by rfl) pass0 (pa_cons (pv 3) (pa_cons (pv 1) (pa_cons (pv 2) (pa_cons (pv 4) pa_nil)))))))))) (pss_one (ps_ret pe_bl)) pss_nil))))))))))))))
    (pss_one (ps_if (pt_not (pt_val (pe_cb g_l_stands (hr.mono (by decide)) (by rfl) pass0 (pa_cons (pv 3) (pa_cons (pv 1) (pa_cons (pv 2) (pa_cons (pv 4) pa_nil))))))) (pss_one (ps_ret pe_bl)) pss_nil))))))))
    (pss_one (ps_ret pe_bl))))
end
theorem all_mk {P : Program} {w : World} {K : PySem.W.Frag} {h : Heap} {mg : Str → Option Value} {fa : Addr} (X : K.In h) (G : h.Ns mainGlobals mg) (hfa : mg "law" = some (.ref fa))
    {f_is_number f_is_from_to f_is_name f_check_quay f_first_free f_first_free_round f_Q_init f_p_check_name f_Q_first_free f_R_first_free f_Q_held f_Q_come f_Q_check_there f_Q_all_ships f_R_all_ships f_Q_leave f_Q_where f_Q_free_ones f_Q_size f_Q_kind f_R_init f_R_come f_R_leave f_R_where f_R_free_ones f_R_size f_R_kind f_l_cell_at f_l_mix f_l_whole f_l_lying f_l_words f_l_done f_l_due f_l_stands f_l_nearer f_law e_BerthError e_NoCount e_NoName e_NoOrder e_NoQuay e_NoRoom e_NoShip e_NoText e_NoTree e_NoWish e_NoWishes e_Taken e_TooMany c_Quay c_Round cr_R_all_ships cc_R_all_ships cr_R_come cc_R_come cr_R_leave cc_R_leave cr_R_where cc_R_where cr_R_free_ones cc_R_free_ones cr_R_size cc_R_size : Addr}
    {od_is_number an_is_number od_is_from_to an_is_from_to od_is_name an_is_name od_check_quay an_check_quay od_first_free an_first_free od_first_free_round an_first_free_round od_Q_init an_Q_init od_p_check_name an_p_check_name od_Q_first_free an_Q_first_free od_R_first_free an_R_first_free od_Q_held an_Q_held od_Q_come an_Q_come od_Q_check_there an_Q_check_there od_Q_all_ships an_Q_all_ships od_R_all_ships an_R_all_ships od_Q_leave an_Q_leave od_Q_where an_Q_where od_Q_free_ones an_Q_free_ones od_Q_size an_Q_size od_Q_kind an_Q_kind od_R_init an_R_init od_R_come an_R_come od_R_leave an_R_leave od_R_where an_R_where od_R_free_ones an_R_free_ones od_R_size an_R_size od_R_kind an_R_kind od_l_cell_at an_l_cell_at od_l_mix an_l_mix od_l_whole an_l_whole od_l_lying an_l_lying od_l_words an_l_words od_l_done an_l_done od_l_due an_l_due od_l_stands an_l_stands od_l_nearer an_l_nearer od_law an_law oh_R_all_ships of_R_all_ships oh_R_come of_R_come oh_R_leave of_R_leave oh_R_where of_R_where oh_R_free_ones of_R_free_ones oh_R_size of_R_size : Option Addr}
    {sl_is_number sl_is_from_to sl_is_name sl_check_quay sl_first_free sl_first_free_round sl_Q_init sl_p_check_name sl_Q_first_free sl_R_first_free sl_Q_held sl_Q_come sl_Q_check_there sl_Q_all_ships sl_R_all_ships sl_Q_leave sl_Q_where sl_Q_free_ones sl_Q_size sl_Q_kind sl_R_init sl_R_come sl_R_leave sl_R_where sl_R_free_ones sl_R_size sl_R_kind sl_l_cell_at sl_l_mix sl_l_whole sl_l_lying sl_l_words sl_l_done sl_l_due sl_l_stands sl_l_nearer sl_law sh_R_all_ships sf_R_all_ships sh_R_come sf_R_come sh_R_leave sf_R_leave sh_R_where sf_R_where sh_R_free_ones sf_R_free_ones sh_R_size sf_R_size : Array (Option Value)}
    {oc_is_number kV_is_number dc_is_number pm_is_number cd_is_number ct_is_number oc_is_from_to kV_is_from_to dc_is_from_to pm_is_from_to cd_is_from_to ct_is_from_to oc_is_name kV_is_name dc_is_name pm_is_name cd_is_name ct_is_name oc_check_quay kV_check_quay dc_check_quay pm_check_quay cd_check_quay ct_check_quay oc_first_free kV_first_free dc_first_free pm_first_free cd_first_free ct_first_free oc_first_free_round kV_first_free_round dc_first_free_round pm_first_free_round cd_first_free_round ct_first_free_round oc_Q_init kV_Q_init dc_Q_init pm_Q_init cd_Q_init ct_Q_init oc_p_check_name kV_p_check_name dc_p_check_name pm_p_check_name cd_p_check_name ct_p_check_name oc_Q_first_free kV_Q_first_free dc_Q_first_free pm_Q_first_free cd_Q_first_free ct_Q_first_free oc_R_first_free kV_R_first_free dc_R_first_free pm_R_first_free cd_R_first_free ct_R_first_free oc_Q_held kV_Q_held dc_Q_held pm_Q_held cd_Q_held ct_Q_held kV_Q_come dc_Q_come pm_Q_come cd_Q_come ct_Q_come oc_Q_check_there kV_Q_check_there dc_Q_check_there pm_Q_check_there cd_Q_check_there ct_Q_check_there kV_Q_all_ships dc_Q_all_ships pm_Q_all_ships cd_Q_all_ships ct_Q_all_ships oc_R_all_ships kV_R_all_ships dc_R_all_ships pm_R_all_ships ct_R_all_ships kV_Q_leave dc_Q_leave pm_Q_leave cd_Q_leave ct_Q_leave kV_Q_where dc_Q_where pm_Q_where cd_Q_where ct_Q_where kV_Q_free_ones dc_Q_free_ones pm_Q_free_ones cd_Q_free_ones ct_Q_free_ones kV_Q_size dc_Q_size pm_Q_size cd_Q_size ct_Q_size oc_Q_kind kV_Q_kind dc_Q_kind pm_Q_kind cd_Q_kind ct_Q_kind oc_R_init kV_R_init dc_R_init pm_R_init cd_R_init ct_R_init oc_R_come kV_R_come dc_R_come pm_R_come ct_R_come oc_R_leave kV_R_leave dc_R_leave pm_R_leave ct_R_leave oc_R_where kV_R_where dc_R_where pm_R_where ct_R_where oc_R_free_ones kV_R_free_ones dc_R_free_ones pm_R_free_ones ct_R_free_ones oc_R_size kV_R_size dc_R_size pm_R_size ct_R_size oc_R_kind kV_R_kind dc_R_kind pm_R_kind cd_R_kind ct_R_kind oc_l_cell_at kV_l_cell_at dc_l_cell_at pm_l_cell_at cd_l_cell_at ct_l_cell_at oc_l_mix kV_l_mix dc_l_mix pm_l_mix cd_l_mix ct_l_mix oc_l_whole kV_l_whole dc_l_whole pm_l_whole cd_l_whole ct_l_whole oc_l_lying kV_l_lying dc_l_lying pm_l_lying cd_l_lying ct_l_lying oc_l_words kV_l_words dc_l_words pm_l_words cd_l_words ct_l_words oc_l_done kV_l_done dc_l_done pm_l_done cd_l_done ct_l_done oc_l_due kV_l_due dc_l_due pm_l_due cd_l_due ct_l_due oc_l_stands kV_l_stands dc_l_stands pm_l_stands cd_l_stands ct_l_stands oc_l_nearer kV_l_nearer dc_l_nearer pm_l_nearer cd_l_nearer ct_l_nearer oc_law kV_law dc_law pm_law cd_law ct_law och_R_all_ships ocf_R_all_ships och_R_come ocf_R_come och_R_leave ocf_R_leave och_R_where ocf_R_where och_R_free_ones ocf_R_free_ones och_R_size ocf_R_size : Value}
    {su_ocR su_ocQ : Value} {su_odR su_odQ : Option Addr} {su_slR su_slQ : Array (Option Value)} {su_cdR su_cdQ : ClassData}
    {vs_R_all_ships vs_R_come vs_R_leave vs_R_where vs_R_free_ones vs_R_size : Array Value} {fl_R_all_ships fl_R_come fl_R_leave fl_R_where fl_R_free_ones fl_R_size : Str} {tf_R_all_ships tf_R_come tf_R_leave tf_R_where tf_R_free_ones tf_R_size : Tok}
    {t_MOST t_LONGEST : Tok}
    (aC_Quay : PySem.W.nsIn K mainGlobals "Quay" = some (some (.ref c_Quay)))
    (pg_Quay : PySem.W.plainGet K c_Quay Str.empty = true)
    (hd_Quay : PySem.W.hasDictIn K c_Quay = true)
    (po_Quay : PySem.W.plainOver K c_Quay = true)
    (sa_Quay : PySem.W.findIn K (.ref c_Quay) "__setattr__" = some (some (.builtin "object.__setattr__")))
    (mk_Quay : PySem.W.makesIn K c_Quay = true)
    (kc_Quay : PySem.W.keepIn K (.ref c_Quay) = true)
    (nB_Quay : PySem.W.findIn K (.ref c_Quay) "_berths" = some none)
    (nS_Quay : PySem.W.findIn K (.ref c_Quay) "_ships" = some none)
    (aC_Round : PySem.W.nsIn K mainGlobals "Round" = some (some (.ref c_Round)))
    (pg_Round : PySem.W.plainGet K c_Round Str.empty = true)
    (hd_Round : PySem.W.hasDictIn K c_Round = true)
    (po_Round : PySem.W.plainOver K c_Round = true)
    (sa_Round : PySem.W.findIn K (.ref c_Round) "__setattr__" = some (some (.builtin "object.__setattr__")))
    (mk_Round : PySem.W.makesIn K c_Round = true)
    (kc_Round : PySem.W.keepIn K (.ref c_Round) = true)
    (nB_Round : PySem.W.findIn K (.ref c_Round) "_berths" = some none)
    (nS_Round : PySem.W.findIn K (.ref c_Round) "_ships" = some none)
    (a_is_number : PySem.W.nsIn K mainGlobals "is_number" = some (some (.ref f_is_number))) (l_is_number : K.lookup f_is_number = some ⟨oc_is_number, od_is_number, .func (PySem.W.fnOf "is_number" "is_number" (defArgs s_is_number) (defBody s_is_number) (defScope s_is_number) .none kV_is_number dc_is_number pm_is_number an_is_number cd_is_number ct_is_number), sl_is_number⟩) (cI_is_number : PySem.W.codeIn K cd_is_number "is_number" = true) (kI_is_number : PySem.W.keepIn K (.ref f_is_number) = true)
    (a_is_from_to : PySem.W.nsIn K mainGlobals "is_from_to" = some (some (.ref f_is_from_to))) (l_is_from_to : K.lookup f_is_from_to = some ⟨oc_is_from_to, od_is_from_to, .func (PySem.W.fnOf "is_from_to" "is_from_to" (defArgs s_is_from_to) (defBody s_is_from_to) (defScope s_is_from_to) .none kV_is_from_to dc_is_from_to pm_is_from_to an_is_from_to cd_is_from_to ct_is_from_to), sl_is_from_to⟩) (cI_is_from_to : PySem.W.codeIn K cd_is_from_to "is_from_to" = true) (kI_is_from_to : PySem.W.keepIn K (.ref f_is_from_to) = true)
    (a_is_name : PySem.W.nsIn K mainGlobals "is_name" = some (some (.ref f_is_name))) (l_is_name : K.lookup f_is_name = some ⟨oc_is_name, od_is_name, .func (PySem.W.fnOf "is_name" "is_name" (defArgs s_is_name) (defBody s_is_name) (defScope s_is_name) .none kV_is_name dc_is_name pm_is_name an_is_name cd_is_name ct_is_name), sl_is_name⟩) (cI_is_name : PySem.W.codeIn K cd_is_name "is_name" = true) (kI_is_name : PySem.W.keepIn K (.ref f_is_name) = true)
    (a_check_quay : PySem.W.nsIn K mainGlobals "check_quay" = some (some (.ref f_check_quay))) (l_check_quay : K.lookup f_check_quay = some ⟨oc_check_quay, od_check_quay, .func (PySem.W.fnOf "check_quay" "check_quay" (defArgs s_check_quay) (defBody s_check_quay) (defScope s_check_quay) .none kV_check_quay dc_check_quay pm_check_quay an_check_quay cd_check_quay ct_check_quay), sl_check_quay⟩) (cI_check_quay : PySem.W.codeIn K cd_check_quay "check_quay" = true) (kI_check_quay : PySem.W.keepIn K (.ref f_check_quay) = true)
    (a_first_free : PySem.W.nsIn K mainGlobals "first_free" = some (some (.ref f_first_free))) (l_first_free : K.lookup f_first_free = some ⟨oc_first_free, od_first_free, .func (PySem.W.fnOf "first_free" "first_free" (defArgs s_first_free) (defBody s_first_free) (defScope s_first_free) .none kV_first_free dc_first_free pm_first_free an_first_free cd_first_free ct_first_free), sl_first_free⟩) (cI_first_free : PySem.W.codeIn K cd_first_free "first_free" = true) (kI_first_free : PySem.W.keepIn K (.ref f_first_free) = true)
    (a_first_free_round : PySem.W.nsIn K mainGlobals "first_free_round" = some (some (.ref f_first_free_round))) (l_first_free_round : K.lookup f_first_free_round = some ⟨oc_first_free_round, od_first_free_round, .func (PySem.W.fnOf "first_free_round" "first_free_round" (defArgs s_first_free_round) (defBody s_first_free_round) (defScope s_first_free_round) .none kV_first_free_round dc_first_free_round pm_first_free_round an_first_free_round cd_first_free_round ct_first_free_round), sl_first_free_round⟩) (cI_first_free_round : PySem.W.codeIn K cd_first_free_round "first_free_round" = true) (kI_first_free_round : PySem.W.keepIn K (.ref f_first_free_round) = true)
    (am_Q_init : PySem.W.findIn K (.ref c_Quay) "__init__" = some (some (.ref f_Q_init)))
    (im_Q_init : PySem.W.isFn K (.ref f_Q_init) = true)
    (l_Q_init : K.lookup f_Q_init = some ⟨oc_Q_init, od_Q_init, .func (PySem.W.fnOf "__init__" "Quay.__init__" (defArgs s_Q_init) (defBody s_Q_init) (defScope s_Q_init) .none kV_Q_init dc_Q_init pm_Q_init an_Q_init cd_Q_init ct_Q_init), sl_Q_init⟩)
    (cI_Q_init : PySem.W.codeIn K cd_Q_init "Quay.__init__" = true)
    (kI_Q_init : PySem.W.keepIn K (.ref f_Q_init) = true)
    (a_p_check_name : PySem.W.nsIn K mainGlobals "_check_name" = some (some (.ref f_p_check_name))) (l_p_check_name : K.lookup f_p_check_name = some ⟨oc_p_check_name, od_p_check_name, .func (PySem.W.fnOf "_check_name" "_check_name" (defArgs s_p_check_name) (defBody s_p_check_name) (defScope s_p_check_name) .none kV_p_check_name dc_p_check_name pm_p_check_name an_p_check_name cd_p_check_name ct_p_check_name), sl_p_check_name⟩) (cI_p_check_name : PySem.W.codeIn K cd_p_check_name "_check_name" = true) (kI_p_check_name : PySem.W.keepIn K (.ref f_p_check_name) = true)
    (am_Q_first_free : PySem.W.findIn K (.ref c_Quay) "_first_free" = some (some (.ref f_Q_first_free)))
    (im_Q_first_free : PySem.W.isFn K (.ref f_Q_first_free) = true)
    (l_Q_first_free : K.lookup f_Q_first_free = some ⟨oc_Q_first_free, od_Q_first_free, .func (PySem.W.fnOf "_first_free" "Quay._first_free" (defArgs s_Q_first_free) (defBody s_Q_first_free) (defScope s_Q_first_free) .none kV_Q_first_free dc_Q_first_free pm_Q_first_free an_Q_first_free cd_Q_first_free ct_Q_first_free), sl_Q_first_free⟩)
    (cI_Q_first_free : PySem.W.codeIn K cd_Q_first_free "Quay._first_free" = true)
    (kI_Q_first_free : PySem.W.keepIn K (.ref f_Q_first_free) = true)
    (am_R_first_free : PySem.W.findIn K (.ref c_Round) "_first_free" = some (some (.ref f_R_first_free)))
    (im_R_first_free : PySem.W.isFn K (.ref f_R_first_free) = true)
    (l_R_first_free : K.lookup f_R_first_free = some ⟨oc_R_first_free, od_R_first_free, .func (PySem.W.fnOf "_first_free" "Round._first_free" (defArgs s_R_first_free) (defBody s_R_first_free) (defScope s_R_first_free) .none kV_R_first_free dc_R_first_free pm_R_first_free an_R_first_free cd_R_first_free ct_R_first_free), sl_R_first_free⟩)
    (cI_R_first_free : PySem.W.codeIn K cd_R_first_free "Round._first_free" = true)
    (kI_R_first_free : PySem.W.keepIn K (.ref f_R_first_free) = true)
    (am_Q_held : PySem.W.findIn K (.ref c_Quay) "_held" = some (some (.ref f_Q_held)))
    (im_Q_held : PySem.W.isFn K (.ref f_Q_held) = true)
    (l_Q_held : K.lookup f_Q_held = some ⟨oc_Q_held, od_Q_held, .func (PySem.W.fnOf "_held" "Quay._held" (defArgs s_Q_held) (defBody s_Q_held) (defScope s_Q_held) .none kV_Q_held dc_Q_held pm_Q_held an_Q_held cd_Q_held ct_Q_held), sl_Q_held⟩)
    (cI_Q_held : PySem.W.codeIn K cd_Q_held "Quay._held" = true)
    (kI_Q_held : PySem.W.keepIn K (.ref f_Q_held) = true)
    (ai_Q_held : PySem.W.findIn K (.ref c_Round) "_held" = some (some (.ref f_Q_held)))
    (am_Q_come : PySem.W.findIn K (.ref c_Quay) "come" = some (some (.ref f_Q_come)))
    (im_Q_come : PySem.W.isFn K (.ref f_Q_come) = true)
    (l_Q_come : K.lookup f_Q_come = some ⟨(.type "function"), od_Q_come, .func (PySem.W.fnOf "come" "Quay.come" (defArgs s_Q_come) (defBody s_Q_come) (defScope s_Q_come) .none kV_Q_come dc_Q_come pm_Q_come an_Q_come cd_Q_come ct_Q_come), sl_Q_come⟩)
    (cI_Q_come : PySem.W.codeIn K cd_Q_come "Quay.come" = true)
    (kI_Q_come : PySem.W.keepIn K (.ref f_Q_come) = true)
    (am_Q_check_there : PySem.W.findIn K (.ref c_Quay) "_check_there" = some (some (.ref f_Q_check_there)))
    (im_Q_check_there : PySem.W.isFn K (.ref f_Q_check_there) = true)
    (l_Q_check_there : K.lookup f_Q_check_there = some ⟨oc_Q_check_there, od_Q_check_there, .func (PySem.W.fnOf "_check_there" "Quay._check_there" (defArgs s_Q_check_there) (defBody s_Q_check_there) (defScope s_Q_check_there) .none kV_Q_check_there dc_Q_check_there pm_Q_check_there an_Q_check_there cd_Q_check_there ct_Q_check_there), sl_Q_check_there⟩)
    (cI_Q_check_there : PySem.W.codeIn K cd_Q_check_there "Quay._check_there" = true)
    (kI_Q_check_there : PySem.W.keepIn K (.ref f_Q_check_there) = true)
    (ai_Q_check_there : PySem.W.findIn K (.ref c_Round) "_check_there" = some (some (.ref f_Q_check_there)))
    (am_Q_all_ships : PySem.W.findIn K (.ref c_Quay) "all_ships" = some (some (.ref f_Q_all_ships)))
    (im_Q_all_ships : PySem.W.isFn K (.ref f_Q_all_ships) = true)
    (l_Q_all_ships : K.lookup f_Q_all_ships = some ⟨(.type "function"), od_Q_all_ships, .func (PySem.W.fnOf "all_ships" "Quay.all_ships" (defArgs s_Q_all_ships) (defBody s_Q_all_ships) (defScope s_Q_all_ships) .none kV_Q_all_ships dc_Q_all_ships pm_Q_all_ships an_Q_all_ships cd_Q_all_ships ct_Q_all_ships), sl_Q_all_ships⟩)
    (cI_Q_all_ships : PySem.W.codeIn K cd_Q_all_ships "Quay.all_ships" = true)
    (kI_Q_all_ships : PySem.W.keepIn K (.ref f_Q_all_ships) = true)
    (am_R_all_ships : PySem.W.findIn K (.ref c_Round) "all_ships" = some (some (.ref f_R_all_ships)))
    (im_R_all_ships : PySem.W.isFn K (.ref f_R_all_ships) = true)
    (l_R_all_ships : K.lookup f_R_all_ships = some ⟨oc_R_all_ships, od_R_all_ships, .func (PySem.W.ksFn "all_ships" "Round.all_ships" (defArgs s_R_all_ships) (defBody s_R_all_ships) (defScope s_R_all_ships) .none kV_R_all_ships dc_R_all_ships pm_R_all_ships an_R_all_ships (.ref cr_R_all_ships) ct_R_all_ships cc_R_all_ships), sl_R_all_ships⟩)
    (cI_R_all_ships : PySem.W.codeIn K (.ref cr_R_all_ships) "Round.all_ships" = true)
    (lc_R_all_ships : K.lookup cc_R_all_ships = some ⟨och_R_all_ships, oh_R_all_ships, .cell (some (.ref c_Round)), sh_R_all_ships⟩)
    (lf_R_all_ships : K.lookup cr_R_all_ships = some ⟨ocf_R_all_ships, of_R_all_ships, .fields vs_R_all_ships, sf_R_all_ships⟩)
    (vf_R_all_ships : vs_R_all_ships[2]? = some (.str fl_R_all_ships tf_R_all_ships))
    (fe_R_all_ships : (P.main.file == fl_R_all_ships) = true)
    (fi_R_all_ships : PySem.W.fnIn K f_Q_all_ships = true)
    (kI_R_all_ships : PySem.W.keepIn K (.ref f_R_all_ships) = true)
    (am_Q_leave : PySem.W.findIn K (.ref c_Quay) "leave" = some (some (.ref f_Q_leave)))
    (im_Q_leave : PySem.W.isFn K (.ref f_Q_leave) = true)
    (l_Q_leave : K.lookup f_Q_leave = some ⟨(.type "function"), od_Q_leave, .func (PySem.W.fnOf "leave" "Quay.leave" (defArgs s_Q_leave) (defBody s_Q_leave) (defScope s_Q_leave) .none kV_Q_leave dc_Q_leave pm_Q_leave an_Q_leave cd_Q_leave ct_Q_leave), sl_Q_leave⟩)
    (cI_Q_leave : PySem.W.codeIn K cd_Q_leave "Quay.leave" = true)
    (kI_Q_leave : PySem.W.keepIn K (.ref f_Q_leave) = true)
    (am_Q_where : PySem.W.findIn K (.ref c_Quay) "where" = some (some (.ref f_Q_where)))
    (im_Q_where : PySem.W.isFn K (.ref f_Q_where) = true)
    (l_Q_where : K.lookup f_Q_where = some ⟨(.type "function"), od_Q_where, .func (PySem.W.fnOf "where" "Quay.where" (defArgs s_Q_where) (defBody s_Q_where) (defScope s_Q_where) .none kV_Q_where dc_Q_where pm_Q_where an_Q_where cd_Q_where ct_Q_where), sl_Q_where⟩)
    (cI_Q_where : PySem.W.codeIn K cd_Q_where "Quay.where" = true)
    (kI_Q_where : PySem.W.keepIn K (.ref f_Q_where) = true)
    (am_Q_free_ones : PySem.W.findIn K (.ref c_Quay) "free_ones" = some (some (.ref f_Q_free_ones)))
    (im_Q_free_ones : PySem.W.isFn K (.ref f_Q_free_ones) = true)
    (l_Q_free_ones : K.lookup f_Q_free_ones = some ⟨(.type "function"), od_Q_free_ones, .func (PySem.W.fnOf "free_ones" "Quay.free_ones" (defArgs s_Q_free_ones) (defBody s_Q_free_ones) (defScope s_Q_free_ones) .none kV_Q_free_ones dc_Q_free_ones pm_Q_free_ones an_Q_free_ones cd_Q_free_ones ct_Q_free_ones), sl_Q_free_ones⟩)
    (cI_Q_free_ones : PySem.W.codeIn K cd_Q_free_ones "Quay.free_ones" = true)
    (kI_Q_free_ones : PySem.W.keepIn K (.ref f_Q_free_ones) = true)
    (am_Q_size : PySem.W.findIn K (.ref c_Quay) "size" = some (some (.ref f_Q_size)))
    (im_Q_size : PySem.W.isFn K (.ref f_Q_size) = true)
    (l_Q_size : K.lookup f_Q_size = some ⟨(.type "function"), od_Q_size, .func (PySem.W.fnOf "size" "Quay.size" (defArgs s_Q_size) (defBody s_Q_size) (defScope s_Q_size) .none kV_Q_size dc_Q_size pm_Q_size an_Q_size cd_Q_size ct_Q_size), sl_Q_size⟩)
    (cI_Q_size : PySem.W.codeIn K cd_Q_size "Quay.size" = true)
    (kI_Q_size : PySem.W.keepIn K (.ref f_Q_size) = true)
    (am_Q_kind : PySem.W.findIn K (.ref c_Quay) "kind" = some (some (.ref f_Q_kind)))
    (im_Q_kind : PySem.W.isFn K (.ref f_Q_kind) = true)
    (l_Q_kind : K.lookup f_Q_kind = some ⟨oc_Q_kind, od_Q_kind, .func (PySem.W.fnOf "kind" "Quay.kind" (defArgs s_Q_kind) (defBody s_Q_kind) (defScope s_Q_kind) .none kV_Q_kind dc_Q_kind pm_Q_kind an_Q_kind cd_Q_kind ct_Q_kind), sl_Q_kind⟩)
    (cI_Q_kind : PySem.W.codeIn K cd_Q_kind "Quay.kind" = true)
    (kI_Q_kind : PySem.W.keepIn K (.ref f_Q_kind) = true)
    (am_R_init : PySem.W.findIn K (.ref c_Round) "__init__" = some (some (.ref f_R_init)))
    (im_R_init : PySem.W.isFn K (.ref f_R_init) = true)
    (l_R_init : K.lookup f_R_init = some ⟨oc_R_init, od_R_init, .func (PySem.W.fnOf "__init__" "Round.__init__" (defArgs s_R_init) (defBody s_R_init) (defScope s_R_init) .none kV_R_init dc_R_init pm_R_init an_R_init cd_R_init ct_R_init), sl_R_init⟩)
    (cI_R_init : PySem.W.codeIn K cd_R_init "Round.__init__" = true)
    (kI_R_init : PySem.W.keepIn K (.ref f_R_init) = true)
    (am_R_come : PySem.W.findIn K (.ref c_Round) "come" = some (some (.ref f_R_come)))
    (im_R_come : PySem.W.isFn K (.ref f_R_come) = true)
    (l_R_come : K.lookup f_R_come = some ⟨oc_R_come, od_R_come, .func (PySem.W.ksFn "come" "Round.come" (defArgs s_R_come) (defBody s_R_come) (defScope s_R_come) .none kV_R_come dc_R_come pm_R_come an_R_come (.ref cr_R_come) ct_R_come cc_R_come), sl_R_come⟩)
    (cI_R_come : PySem.W.codeIn K (.ref cr_R_come) "Round.come" = true)
    (lc_R_come : K.lookup cc_R_come = some ⟨och_R_come, oh_R_come, .cell (some (.ref c_Round)), sh_R_come⟩)
    (lf_R_come : K.lookup cr_R_come = some ⟨ocf_R_come, of_R_come, .fields vs_R_come, sf_R_come⟩)
    (vf_R_come : vs_R_come[2]? = some (.str fl_R_come tf_R_come))
    (fe_R_come : (P.main.file == fl_R_come) = true)
    (fi_R_come : PySem.W.fnIn K f_Q_come = true)
    (kI_R_come : PySem.W.keepIn K (.ref f_R_come) = true)
    (am_R_leave : PySem.W.findIn K (.ref c_Round) "leave" = some (some (.ref f_R_leave)))
    (im_R_leave : PySem.W.isFn K (.ref f_R_leave) = true)
    (l_R_leave : K.lookup f_R_leave = some ⟨oc_R_leave, od_R_leave, .func (PySem.W.ksFn "leave" "Round.leave" (defArgs s_R_leave) (defBody s_R_leave) (defScope s_R_leave) .none kV_R_leave dc_R_leave pm_R_leave an_R_leave (.ref cr_R_leave) ct_R_leave cc_R_leave), sl_R_leave⟩)
    (cI_R_leave : PySem.W.codeIn K (.ref cr_R_leave) "Round.leave" = true)
    (lc_R_leave : K.lookup cc_R_leave = some ⟨och_R_leave, oh_R_leave, .cell (some (.ref c_Round)), sh_R_leave⟩)
    (lf_R_leave : K.lookup cr_R_leave = some ⟨ocf_R_leave, of_R_leave, .fields vs_R_leave, sf_R_leave⟩)
    (vf_R_leave : vs_R_leave[2]? = some (.str fl_R_leave tf_R_leave))
    (fe_R_leave : (P.main.file == fl_R_leave) = true)
    (fi_R_leave : PySem.W.fnIn K f_Q_leave = true)
    (kI_R_leave : PySem.W.keepIn K (.ref f_R_leave) = true)
    (am_R_where : PySem.W.findIn K (.ref c_Round) "where" = some (some (.ref f_R_where)))
    (im_R_where : PySem.W.isFn K (.ref f_R_where) = true)
    (l_R_where : K.lookup f_R_where = some ⟨oc_R_where, od_R_where, .func (PySem.W.ksFn "where" "Round.where" (defArgs s_R_where) (defBody s_R_where) (defScope s_R_where) .none kV_R_where dc_R_where pm_R_where an_R_where (.ref cr_R_where) ct_R_where cc_R_where), sl_R_where⟩)
    (cI_R_where : PySem.W.codeIn K (.ref cr_R_where) "Round.where" = true)
    (lc_R_where : K.lookup cc_R_where = some ⟨och_R_where, oh_R_where, .cell (some (.ref c_Round)), sh_R_where⟩)
    (lf_R_where : K.lookup cr_R_where = some ⟨ocf_R_where, of_R_where, .fields vs_R_where, sf_R_where⟩)
    (vf_R_where : vs_R_where[2]? = some (.str fl_R_where tf_R_where))
    (fe_R_where : (P.main.file == fl_R_where) = true)
    (fi_R_where : PySem.W.fnIn K f_Q_where = true)
    (kI_R_where : PySem.W.keepIn K (.ref f_R_where) = true)
    (am_R_free_ones : PySem.W.findIn K (.ref c_Round) "free_ones" = some (some (.ref f_R_free_ones)))
    (im_R_free_ones : PySem.W.isFn K (.ref f_R_free_ones) = true)
    (l_R_free_ones : K.lookup f_R_free_ones = some ⟨oc_R_free_ones, od_R_free_ones, .func (PySem.W.ksFn "free_ones" "Round.free_ones" (defArgs s_R_free_ones) (defBody s_R_free_ones) (defScope s_R_free_ones) .none kV_R_free_ones dc_R_free_ones pm_R_free_ones an_R_free_ones (.ref cr_R_free_ones) ct_R_free_ones cc_R_free_ones), sl_R_free_ones⟩)
    (cI_R_free_ones : PySem.W.codeIn K (.ref cr_R_free_ones) "Round.free_ones" = true)
    (lc_R_free_ones : K.lookup cc_R_free_ones = some ⟨och_R_free_ones, oh_R_free_ones, .cell (some (.ref c_Round)), sh_R_free_ones⟩)
    (lf_R_free_ones : K.lookup cr_R_free_ones = some ⟨ocf_R_free_ones, of_R_free_ones, .fields vs_R_free_ones, sf_R_free_ones⟩)
    (vf_R_free_ones : vs_R_free_ones[2]? = some (.str fl_R_free_ones tf_R_free_ones))
    (fe_R_free_ones : (P.main.file == fl_R_free_ones) = true)
    (fi_R_free_ones : PySem.W.fnIn K f_Q_free_ones = true)
    (kI_R_free_ones : PySem.W.keepIn K (.ref f_R_free_ones) = true)
    (am_R_size : PySem.W.findIn K (.ref c_Round) "size" = some (some (.ref f_R_size)))
    (im_R_size : PySem.W.isFn K (.ref f_R_size) = true)
    (l_R_size : K.lookup f_R_size = some ⟨oc_R_size, od_R_size, .func (PySem.W.ksFn "size" "Round.size" (defArgs s_R_size) (defBody s_R_size) (defScope s_R_size) .none kV_R_size dc_R_size pm_R_size an_R_size (.ref cr_R_size) ct_R_size cc_R_size), sl_R_size⟩)
    (cI_R_size : PySem.W.codeIn K (.ref cr_R_size) "Round.size" = true)
    (lc_R_size : K.lookup cc_R_size = some ⟨och_R_size, oh_R_size, .cell (some (.ref c_Round)), sh_R_size⟩)
    (lf_R_size : K.lookup cr_R_size = some ⟨ocf_R_size, of_R_size, .fields vs_R_size, sf_R_size⟩)
    (vf_R_size : vs_R_size[2]? = some (.str fl_R_size tf_R_size))
    (fe_R_size : (P.main.file == fl_R_size) = true)
    (fi_R_size : PySem.W.fnIn K f_Q_size = true)
    (kI_R_size : PySem.W.keepIn K (.ref f_R_size) = true)
    (am_R_kind : PySem.W.findIn K (.ref c_Round) "kind" = some (some (.ref f_R_kind)))
    (im_R_kind : PySem.W.isFn K (.ref f_R_kind) = true)
    (l_R_kind : K.lookup f_R_kind = some ⟨oc_R_kind, od_R_kind, .func (PySem.W.fnOf "kind" "Round.kind" (defArgs s_R_kind) (defBody s_R_kind) (defScope s_R_kind) .none kV_R_kind dc_R_kind pm_R_kind an_R_kind cd_R_kind ct_R_kind), sl_R_kind⟩)
    (cI_R_kind : PySem.W.codeIn K cd_R_kind "Round.kind" = true)
    (kI_R_kind : PySem.W.keepIn K (.ref f_R_kind) = true)
    (a_l_cell_at : PySem.W.nsIn K mainGlobals "_law_cell_at" = some (some (.ref f_l_cell_at))) (l_l_cell_at : K.lookup f_l_cell_at = some ⟨oc_l_cell_at, od_l_cell_at, .func (PySem.W.fnOf "_law_cell_at" "_law_cell_at" (defArgs s_l_cell_at) (defBody s_l_cell_at) (defScope s_l_cell_at) .none kV_l_cell_at dc_l_cell_at pm_l_cell_at an_l_cell_at cd_l_cell_at ct_l_cell_at), sl_l_cell_at⟩) (cI_l_cell_at : PySem.W.codeIn K cd_l_cell_at "_law_cell_at" = true) (kI_l_cell_at : PySem.W.keepIn K (.ref f_l_cell_at) = true)
    (a_l_mix : PySem.W.nsIn K mainGlobals "_law_mix" = some (some (.ref f_l_mix))) (l_l_mix : K.lookup f_l_mix = some ⟨oc_l_mix, od_l_mix, .func (PySem.W.fnOf "_law_mix" "_law_mix" (defArgs s_l_mix) (defBody s_l_mix) (defScope s_l_mix) .none kV_l_mix dc_l_mix pm_l_mix an_l_mix cd_l_mix ct_l_mix), sl_l_mix⟩) (cI_l_mix : PySem.W.codeIn K cd_l_mix "_law_mix" = true) (kI_l_mix : PySem.W.keepIn K (.ref f_l_mix) = true)
    (a_l_whole : PySem.W.nsIn K mainGlobals "_law_whole" = some (some (.ref f_l_whole))) (l_l_whole : K.lookup f_l_whole = some ⟨oc_l_whole, od_l_whole, .func (PySem.W.fnOf "_law_whole" "_law_whole" (defArgs s_l_whole) (defBody s_l_whole) (defScope s_l_whole) .none kV_l_whole dc_l_whole pm_l_whole an_l_whole cd_l_whole ct_l_whole), sl_l_whole⟩) (cI_l_whole : PySem.W.codeIn K cd_l_whole "_law_whole" = true) (kI_l_whole : PySem.W.keepIn K (.ref f_l_whole) = true)
    (a_l_lying : PySem.W.nsIn K mainGlobals "_law_lying" = some (some (.ref f_l_lying))) (l_l_lying : K.lookup f_l_lying = some ⟨oc_l_lying, od_l_lying, .func (PySem.W.fnOf "_law_lying" "_law_lying" (defArgs s_l_lying) (defBody s_l_lying) (defScope s_l_lying) .none kV_l_lying dc_l_lying pm_l_lying an_l_lying cd_l_lying ct_l_lying), sl_l_lying⟩) (cI_l_lying : PySem.W.codeIn K cd_l_lying "_law_lying" = true) (kI_l_lying : PySem.W.keepIn K (.ref f_l_lying) = true)
    (a_l_words : PySem.W.nsIn K mainGlobals "_law_words" = some (some (.ref f_l_words))) (l_l_words : K.lookup f_l_words = some ⟨oc_l_words, od_l_words, .func (PySem.W.fnOf "_law_words" "_law_words" (defArgs s_l_words) (defBody s_l_words) (defScope s_l_words) .none kV_l_words dc_l_words pm_l_words an_l_words cd_l_words ct_l_words), sl_l_words⟩) (cI_l_words : PySem.W.codeIn K cd_l_words "_law_words" = true) (kI_l_words : PySem.W.keepIn K (.ref f_l_words) = true)
    (a_l_done : PySem.W.nsIn K mainGlobals "_law_done" = some (some (.ref f_l_done))) (l_l_done : K.lookup f_l_done = some ⟨oc_l_done, od_l_done, .func (PySem.W.fnOf "_law_done" "_law_done" (defArgs s_l_done) (defBody s_l_done) (defScope s_l_done) .none kV_l_done dc_l_done pm_l_done an_l_done cd_l_done ct_l_done), sl_l_done⟩) (cI_l_done : PySem.W.codeIn K cd_l_done "_law_done" = true) (kI_l_done : PySem.W.keepIn K (.ref f_l_done) = true)
    (a_l_due : PySem.W.nsIn K mainGlobals "_law_due" = some (some (.ref f_l_due))) (l_l_due : K.lookup f_l_due = some ⟨oc_l_due, od_l_due, .func (PySem.W.fnOf "_law_due" "_law_due" (defArgs s_l_due) (defBody s_l_due) (defScope s_l_due) .none kV_l_due dc_l_due pm_l_due an_l_due cd_l_due ct_l_due), sl_l_due⟩) (cI_l_due : PySem.W.codeIn K cd_l_due "_law_due" = true) (kI_l_due : PySem.W.keepIn K (.ref f_l_due) = true)
    (a_l_stands : PySem.W.nsIn K mainGlobals "_law_stands" = some (some (.ref f_l_stands))) (l_l_stands : K.lookup f_l_stands = some ⟨oc_l_stands, od_l_stands, .func (PySem.W.fnOf "_law_stands" "_law_stands" (defArgs s_l_stands) (defBody s_l_stands) (defScope s_l_stands) .none kV_l_stands dc_l_stands pm_l_stands an_l_stands cd_l_stands ct_l_stands), sl_l_stands⟩) (cI_l_stands : PySem.W.codeIn K cd_l_stands "_law_stands" = true) (kI_l_stands : PySem.W.keepIn K (.ref f_l_stands) = true)
    (a_l_nearer : PySem.W.nsIn K mainGlobals "_law_nearer" = some (some (.ref f_l_nearer))) (l_l_nearer : K.lookup f_l_nearer = some ⟨oc_l_nearer, od_l_nearer, .func (PySem.W.fnOf "_law_nearer" "_law_nearer" (defArgs s_l_nearer) (defBody s_l_nearer) (defScope s_l_nearer) .none kV_l_nearer dc_l_nearer pm_l_nearer an_l_nearer cd_l_nearer ct_l_nearer), sl_l_nearer⟩) (cI_l_nearer : PySem.W.codeIn K cd_l_nearer "_law_nearer" = true) (kI_l_nearer : PySem.W.keepIn K (.ref f_l_nearer) = true)
    (a_law : PySem.W.nsIn K mainGlobals "law" = some (some (.ref f_law))) (l_law : K.lookup f_law = some ⟨oc_law, od_law, .func (PySem.W.fnOf "law" "law" (defArgs s_law) (defBody s_law) (defScope s_law) .none kV_law dc_law pm_law an_law cd_law ct_law), sl_law⟩) (cI_law : PySem.W.codeIn K cd_law "law" = true) (kI_law : PySem.W.keepIn K (.ref f_law) = true)
    (rd_Quay : PySem.W.readsIn K c_Quay (.type "type") = true)
    (ga_Quay : PySem.W.specialIn K (.ref c_Quay) "__getattribute__" = some (some (.builtin "type.__getattribute__")))
    (fc_Quay : PySem.W.findCls K (.ref c_Quay) (.type "type") "__init__" = some (.val (.ref f_Q_init)))
    (su_lR : K.lookup c_Round = some ⟨su_ocR, su_odR, .cls su_cdR, su_slR⟩)
    (su_lQ : K.lookup c_Quay = some ⟨su_ocQ, su_odQ, .cls su_cdQ, su_slQ⟩)
    (su_mR : su_cdR.mro = .ref c_Round :: [.ref c_Quay, .type "object"])
    (su_mQ : su_cdQ.mro = [.ref c_Quay, .type "object"])
    (su_R : PySem.W.subIn K (.ref c_Round) (.ref c_Round) = some true)
    (su_any : PySem.W.nsIn K cStatics "thirdparty.any" = some none)
    (su_ns : (List.lookup ("super" : Str) P.main.scope.names).isSome = false)
    (su_mg : PySem.W.nsIn K mainGlobals "super" = some none)
    (z_bool : PySem.W.nsIn K mainGlobals "bool" = some none)
    (z_dict : PySem.W.nsIn K mainGlobals "dict" = some none)
    (z_int : PySem.W.nsIn K mainGlobals "int" = some none)
    (z_isinstance : PySem.W.nsIn K mainGlobals "isinstance" = some none)
    (z_len : PySem.W.nsIn K mainGlobals "len" = some none)
    (z_list : PySem.W.nsIn K mainGlobals "list" = some none)
    (z_range : PySem.W.nsIn K mainGlobals "range" = some none)
    (z_str : PySem.W.nsIn K mainGlobals "str" = some none)
    (z_type : PySem.W.nsIn K mainGlobals "type" = some none)
    (y_MOST : PySem.W.nsIn K mainGlobals "MOST" = some (some (.int 400 t_MOST)))
    (y_LONGEST : PySem.W.nsIn K mainGlobals "LONGEST" = some (some (.int 8 t_LONGEST)))
    (xg_BerthError : PySem.W.nsIn K mainGlobals "BerthError" = some (some (.ref e_BerthError)))
    (xx_BerthError : PySem.W.excIn K e_BerthError [.type "ValueError", .type "Exception", .type "BaseException", .type "object"] "ValueError.__new__" = true)
    (xk_BerthError : PySem.W.keepIn K (.ref e_BerthError) = true)
    (xb_BerthError : PySem.W.subIn K (.ref e_BerthError) (.type "BaseException") = some true)
    (xt_BerthError : PySem.W.typeIn K (.ref e_BerthError) = some (.type "type"))
    (xg_NoCount : PySem.W.nsIn K mainGlobals "NoCount" = some (some (.ref e_NoCount)))
    (xx_NoCount : PySem.W.excIn K e_NoCount [.type "ValueError", .type "Exception", .type "BaseException", .type "object"] "ValueError.__new__" = true)
    (xk_NoCount : PySem.W.keepIn K (.ref e_NoCount) = true)
    (xb_NoCount : PySem.W.subIn K (.ref e_NoCount) (.type "BaseException") = some true)
    (xt_NoCount : PySem.W.typeIn K (.ref e_NoCount) = some (.type "type"))
    (xg_NoName : PySem.W.nsIn K mainGlobals "NoName" = some (some (.ref e_NoName)))
    (xx_NoName : PySem.W.excIn K e_NoName [.type "ValueError", .type "Exception", .type "BaseException", .type "object"] "ValueError.__new__" = true)
    (xk_NoName : PySem.W.keepIn K (.ref e_NoName) = true)
    (xb_NoName : PySem.W.subIn K (.ref e_NoName) (.type "BaseException") = some true)
    (xt_NoName : PySem.W.typeIn K (.ref e_NoName) = some (.type "type"))
    (xg_NoOrder : PySem.W.nsIn K mainGlobals "NoOrder" = some (some (.ref e_NoOrder)))
    (xx_NoOrder : PySem.W.excIn K e_NoOrder [.type "ValueError", .type "Exception", .type "BaseException", .type "object"] "ValueError.__new__" = true)
    (xk_NoOrder : PySem.W.keepIn K (.ref e_NoOrder) = true)
    (xb_NoOrder : PySem.W.subIn K (.ref e_NoOrder) (.type "BaseException") = some true)
    (xt_NoOrder : PySem.W.typeIn K (.ref e_NoOrder) = some (.type "type"))
    (xg_NoQuay : PySem.W.nsIn K mainGlobals "NoQuay" = some (some (.ref e_NoQuay)))
    (xx_NoQuay : PySem.W.excIn K e_NoQuay [.type "ValueError", .type "Exception", .type "BaseException", .type "object"] "ValueError.__new__" = true)
    (xk_NoQuay : PySem.W.keepIn K (.ref e_NoQuay) = true)
    (xb_NoQuay : PySem.W.subIn K (.ref e_NoQuay) (.type "BaseException") = some true)
    (xt_NoQuay : PySem.W.typeIn K (.ref e_NoQuay) = some (.type "type"))
    (xg_NoRoom : PySem.W.nsIn K mainGlobals "NoRoom" = some (some (.ref e_NoRoom)))
    (xx_NoRoom : PySem.W.excIn K e_NoRoom [.type "ValueError", .type "Exception", .type "BaseException", .type "object"] "ValueError.__new__" = true)
    (xk_NoRoom : PySem.W.keepIn K (.ref e_NoRoom) = true)
    (xb_NoRoom : PySem.W.subIn K (.ref e_NoRoom) (.type "BaseException") = some true)
    (xt_NoRoom : PySem.W.typeIn K (.ref e_NoRoom) = some (.type "type"))
    (xg_NoShip : PySem.W.nsIn K mainGlobals "NoShip" = some (some (.ref e_NoShip)))
    (xx_NoShip : PySem.W.excIn K e_NoShip [.type "ValueError", .type "Exception", .type "BaseException", .type "object"] "ValueError.__new__" = true)
    (xk_NoShip : PySem.W.keepIn K (.ref e_NoShip) = true)
    (xb_NoShip : PySem.W.subIn K (.ref e_NoShip) (.type "BaseException") = some true)
    (xt_NoShip : PySem.W.typeIn K (.ref e_NoShip) = some (.type "type"))
    (xg_NoText : PySem.W.nsIn K mainGlobals "NoText" = some (some (.ref e_NoText)))
    (xx_NoText : PySem.W.excIn K e_NoText [.type "ValueError", .type "Exception", .type "BaseException", .type "object"] "ValueError.__new__" = true)
    (xk_NoText : PySem.W.keepIn K (.ref e_NoText) = true)
    (xb_NoText : PySem.W.subIn K (.ref e_NoText) (.type "BaseException") = some true)
    (xt_NoText : PySem.W.typeIn K (.ref e_NoText) = some (.type "type"))
    (xg_NoTree : PySem.W.nsIn K mainGlobals "NoTree" = some (some (.ref e_NoTree)))
    (xx_NoTree : PySem.W.excIn K e_NoTree [.type "ValueError", .type "Exception", .type "BaseException", .type "object"] "ValueError.__new__" = true)
    (xk_NoTree : PySem.W.keepIn K (.ref e_NoTree) = true)
    (xb_NoTree : PySem.W.subIn K (.ref e_NoTree) (.type "BaseException") = some true)
    (xt_NoTree : PySem.W.typeIn K (.ref e_NoTree) = some (.type "type"))
    (xg_NoWish : PySem.W.nsIn K mainGlobals "NoWish" = some (some (.ref e_NoWish)))
    (xx_NoWish : PySem.W.excIn K e_NoWish [.type "ValueError", .type "Exception", .type "BaseException", .type "object"] "ValueError.__new__" = true)
    (xk_NoWish : PySem.W.keepIn K (.ref e_NoWish) = true)
    (xb_NoWish : PySem.W.subIn K (.ref e_NoWish) (.type "BaseException") = some true)
    (xt_NoWish : PySem.W.typeIn K (.ref e_NoWish) = some (.type "type"))
    (xg_NoWishes : PySem.W.nsIn K mainGlobals "NoWishes" = some (some (.ref e_NoWishes)))
    (xx_NoWishes : PySem.W.excIn K e_NoWishes [.type "ValueError", .type "Exception", .type "BaseException", .type "object"] "ValueError.__new__" = true)
    (xk_NoWishes : PySem.W.keepIn K (.ref e_NoWishes) = true)
    (xb_NoWishes : PySem.W.subIn K (.ref e_NoWishes) (.type "BaseException") = some true)
    (xt_NoWishes : PySem.W.typeIn K (.ref e_NoWishes) = some (.type "type"))
    (xg_Taken : PySem.W.nsIn K mainGlobals "Taken" = some (some (.ref e_Taken)))
    (xx_Taken : PySem.W.excIn K e_Taken [.type "ValueError", .type "Exception", .type "BaseException", .type "object"] "ValueError.__new__" = true)
    (xk_Taken : PySem.W.keepIn K (.ref e_Taken) = true)
    (xb_Taken : PySem.W.subIn K (.ref e_Taken) (.type "BaseException") = some true)
    (xt_Taken : PySem.W.typeIn K (.ref e_Taken) = some (.type "type"))
    (xg_TooMany : PySem.W.nsIn K mainGlobals "TooMany" = some (some (.ref e_TooMany)))
    (xx_TooMany : PySem.W.excIn K e_TooMany [.type "ValueError", .type "Exception", .type "BaseException", .type "object"] "ValueError.__new__" = true)
    (xk_TooMany : PySem.W.keepIn K (.ref e_TooMany) = true)
    (xb_TooMany : PySem.W.subIn K (.ref e_TooMany) (.type "BaseException") = some true)
    (xt_TooMany : PySem.W.typeIn K (.ref e_TooMany) = some (.type "type"))
    (v_hn : PySem.W.specialIn K (.builtin "object.__class__") "__get__" = some (some (.builtin "getset_descriptor.__get__")))
    (v_ht : PySem.W.takesIn K (.builtin "object.__class__") = some true)
    (vhg_BerthError : PySem.W.findIn K (.ref e_BerthError) "__getattribute__" = some (some (.builtin "BaseException.__getattribute__")))
    (vhk_BerthError : PySem.W.findIn K (.ref e_BerthError) "__getattr__" = some none)
    (vhs_BerthError : PySem.W.subIn K (.ref e_BerthError) (.type "BaseException") = some true)
    (vhd_BerthError : PySem.W.hasDictIn K e_BerthError = true)
    (vha_BerthError : PySem.W.findIn K (.ref e_BerthError) "__class__" = some (some (.builtin "object.__class__")))
    (vhm_BerthError : PySem.W.mroIn K e_BerthError (.type "object") = some true)
    (vty_BerthError : PySem.W.typeIn K (.ref e_BerthError) = some (.type "type"))
    (vse_BerthError : PySem.W.subIn K (.ref e_BerthError) (.ref e_BerthError) = some true)
    (vhg_NoCount : PySem.W.findIn K (.ref e_NoCount) "__getattribute__" = some (some (.builtin "BaseException.__getattribute__")))
    (vhk_NoCount : PySem.W.findIn K (.ref e_NoCount) "__getattr__" = some none)
    (vhs_NoCount : PySem.W.subIn K (.ref e_NoCount) (.type "BaseException") = some true)
    (vhd_NoCount : PySem.W.hasDictIn K e_NoCount = true)
    (vha_NoCount : PySem.W.findIn K (.ref e_NoCount) "__class__" = some (some (.builtin "object.__class__")))
    (vhm_NoCount : PySem.W.mroIn K e_NoCount (.type "object") = some true)
    (vty_NoCount : PySem.W.typeIn K (.ref e_NoCount) = some (.type "type"))
    (vse_NoCount : PySem.W.subIn K (.ref e_NoCount) (.ref e_NoCount) = some true)
    (vhg_NoOrder : PySem.W.findIn K (.ref e_NoOrder) "__getattribute__" = some (some (.builtin "BaseException.__getattribute__")))
    (vhk_NoOrder : PySem.W.findIn K (.ref e_NoOrder) "__getattr__" = some none)
    (vhs_NoOrder : PySem.W.subIn K (.ref e_NoOrder) (.type "BaseException") = some true)
    (vhd_NoOrder : PySem.W.hasDictIn K e_NoOrder = true)
    (vha_NoOrder : PySem.W.findIn K (.ref e_NoOrder) "__class__" = some (some (.builtin "object.__class__")))
    (vhm_NoOrder : PySem.W.mroIn K e_NoOrder (.type "object") = some true)
    (vty_NoOrder : PySem.W.typeIn K (.ref e_NoOrder) = some (.type "type"))
    (vse_NoOrder : PySem.W.subIn K (.ref e_NoOrder) (.ref e_NoOrder) = some true)
    (vhg_NoQuay : PySem.W.findIn K (.ref e_NoQuay) "__getattribute__" = some (some (.builtin "BaseException.__getattribute__")))
    (vhk_NoQuay : PySem.W.findIn K (.ref e_NoQuay) "__getattr__" = some none)
    (vhs_NoQuay : PySem.W.subIn K (.ref e_NoQuay) (.type "BaseException") = some true)
    (vhd_NoQuay : PySem.W.hasDictIn K e_NoQuay = true)
    (vha_NoQuay : PySem.W.findIn K (.ref e_NoQuay) "__class__" = some (some (.builtin "object.__class__")))
    (vhm_NoQuay : PySem.W.mroIn K e_NoQuay (.type "object") = some true)
    (vty_NoQuay : PySem.W.typeIn K (.ref e_NoQuay) = some (.type "type"))
    (vse_NoQuay : PySem.W.subIn K (.ref e_NoQuay) (.ref e_NoQuay) = some true)
    (vhg_NoText : PySem.W.findIn K (.ref e_NoText) "__getattribute__" = some (some (.builtin "BaseException.__getattribute__")))
    (vhk_NoText : PySem.W.findIn K (.ref e_NoText) "__getattr__" = some none)
    (vhs_NoText : PySem.W.subIn K (.ref e_NoText) (.type "BaseException") = some true)
    (vhd_NoText : PySem.W.hasDictIn K e_NoText = true)
    (vha_NoText : PySem.W.findIn K (.ref e_NoText) "__class__" = some (some (.builtin "object.__class__")))
    (vhm_NoText : PySem.W.mroIn K e_NoText (.type "object") = some true)
    (vty_NoText : PySem.W.typeIn K (.ref e_NoText) = some (.type "type"))
    (vse_NoText : PySem.W.subIn K (.ref e_NoText) (.ref e_NoText) = some true)
    (vhg_NoTree : PySem.W.findIn K (.ref e_NoTree) "__getattribute__" = some (some (.builtin "BaseException.__getattribute__")))
    (vhk_NoTree : PySem.W.findIn K (.ref e_NoTree) "__getattr__" = some none)
    (vhs_NoTree : PySem.W.subIn K (.ref e_NoTree) (.type "BaseException") = some true)
    (vhd_NoTree : PySem.W.hasDictIn K e_NoTree = true)
    (vha_NoTree : PySem.W.findIn K (.ref e_NoTree) "__class__" = some (some (.builtin "object.__class__")))
    (vhm_NoTree : PySem.W.mroIn K e_NoTree (.type "object") = some true)
    (vty_NoTree : PySem.W.typeIn K (.ref e_NoTree) = some (.type "type"))
    (vse_NoTree : PySem.W.subIn K (.ref e_NoTree) (.ref e_NoTree) = some true)
    (vhg_NoWishes : PySem.W.findIn K (.ref e_NoWishes) "__getattribute__" = some (some (.builtin "BaseException.__getattribute__")))
    (vhk_NoWishes : PySem.W.findIn K (.ref e_NoWishes) "__getattr__" = some none)
    (vhs_NoWishes : PySem.W.subIn K (.ref e_NoWishes) (.type "BaseException") = some true)
    (vhd_NoWishes : PySem.W.hasDictIn K e_NoWishes = true)
    (vha_NoWishes : PySem.W.findIn K (.ref e_NoWishes) "__class__" = some (some (.builtin "object.__class__")))
    (vhm_NoWishes : PySem.W.mroIn K e_NoWishes (.type "object") = some true)
    (vty_NoWishes : PySem.W.typeIn K (.ref e_NoWishes) = some (.type "type"))
    (vse_NoWishes : PySem.W.subIn K (.ref e_NoWishes) (.ref e_NoWishes) = some true)
    (vhg_TooMany : PySem.W.findIn K (.ref e_TooMany) "__getattribute__" = some (some (.builtin "BaseException.__getattribute__")))
    (vhk_TooMany : PySem.W.findIn K (.ref e_TooMany) "__getattr__" = some none)
    (vhs_TooMany : PySem.W.subIn K (.ref e_TooMany) (.type "BaseException") = some true)
    (vhd_TooMany : PySem.W.hasDictIn K e_TooMany = true)
    (vha_TooMany : PySem.W.findIn K (.ref e_TooMany) "__class__" = some (some (.builtin "object.__class__")))
    (vhm_TooMany : PySem.W.mroIn K e_TooMany (.type "object") = some true)
    (vty_TooMany : PySem.W.typeIn K (.ref e_TooMany) = some (.type "type"))
    (vse_TooMany : PySem.W.subIn K (.ref e_TooMany) (.ref e_TooMany) = some true)
    (vhg_NoName : PySem.W.findIn K (.ref e_NoName) "__getattribute__" = some (some (.builtin "BaseException.__getattribute__")))
    (vhk_NoName : PySem.W.findIn K (.ref e_NoName) "__getattr__" = some none)
    (vhs_NoName : PySem.W.subIn K (.ref e_NoName) (.type "BaseException") = some true)
    (vhd_NoName : PySem.W.hasDictIn K e_NoName = true)
    (vha_NoName : PySem.W.findIn K (.ref e_NoName) "__class__" = some (some (.builtin "object.__class__")))
    (vhm_NoName : PySem.W.mroIn K e_NoName (.type "object") = some true)
    (vty_NoName : PySem.W.typeIn K (.ref e_NoName) = some (.type "type"))
    (vse_NoName : PySem.W.subIn K (.ref e_NoName) (.ref e_NoName) = some true)
    (vhg_Taken : PySem.W.findIn K (.ref e_Taken) "__getattribute__" = some (some (.builtin "BaseException.__getattribute__")))
    (vhk_Taken : PySem.W.findIn K (.ref e_Taken) "__getattr__" = some none)
    (vhs_Taken : PySem.W.subIn K (.ref e_Taken) (.type "BaseException") = some true)
    (vhd_Taken : PySem.W.hasDictIn K e_Taken = true)
    (vha_Taken : PySem.W.findIn K (.ref e_Taken) "__class__" = some (some (.builtin "object.__class__")))
    (vhm_Taken : PySem.W.mroIn K e_Taken (.type "object") = some true)
    (vty_Taken : PySem.W.typeIn K (.ref e_Taken) = some (.type "type"))
    (vse_Taken : PySem.W.subIn K (.ref e_Taken) (.ref e_Taken) = some true)
    (vhg_NoWish : PySem.W.findIn K (.ref e_NoWish) "__getattribute__" = some (some (.builtin "BaseException.__getattribute__")))
    (vhk_NoWish : PySem.W.findIn K (.ref e_NoWish) "__getattr__" = some none)
    (vhs_NoWish : PySem.W.subIn K (.ref e_NoWish) (.type "BaseException") = some true)
    (vhd_NoWish : PySem.W.hasDictIn K e_NoWish = true)
    (vha_NoWish : PySem.W.findIn K (.ref e_NoWish) "__class__" = some (some (.builtin "object.__class__")))
    (vhm_NoWish : PySem.W.mroIn K e_NoWish (.type "object") = some true)
    (vty_NoWish : PySem.W.typeIn K (.ref e_NoWish) = some (.type "type"))
    (vse_NoWish : PySem.W.subIn K (.ref e_NoWish) (.ref e_NoWish) = some true)
    (vhg_NoRoom : PySem.W.findIn K (.ref e_NoRoom) "__getattribute__" = some (some (.builtin "BaseException.__getattribute__")))
    (vhk_NoRoom : PySem.W.findIn K (.ref e_NoRoom) "__getattr__" = some none)
    (vhs_NoRoom : PySem.W.subIn K (.ref e_NoRoom) (.type "BaseException") = some true)
    (vhd_NoRoom : PySem.W.hasDictIn K e_NoRoom = true)
    (vha_NoRoom : PySem.W.findIn K (.ref e_NoRoom) "__class__" = some (some (.builtin "object.__class__")))
    (vhm_NoRoom : PySem.W.mroIn K e_NoRoom (.type "object") = some true)
    (vty_NoRoom : PySem.W.typeIn K (.ref e_NoRoom) = some (.type "type"))
    (vse_NoRoom : PySem.W.subIn K (.ref e_NoRoom) (.ref e_NoRoom) = some true)
    (vhg_NoShip : PySem.W.findIn K (.ref e_NoShip) "__getattribute__" = some (some (.builtin "BaseException.__getattribute__")))
    (vhk_NoShip : PySem.W.findIn K (.ref e_NoShip) "__getattr__" = some none)
    (vhs_NoShip : PySem.W.subIn K (.ref e_NoShip) (.type "BaseException") = some true)
    (vhd_NoShip : PySem.W.hasDictIn K e_NoShip = true)
    (vha_NoShip : PySem.W.findIn K (.ref e_NoShip) "__class__" = some (some (.builtin "object.__class__")))
    (vhm_NoShip : PySem.W.mroIn K e_NoShip (.type "object") = some true)
    (vty_NoShip : PySem.W.typeIn K (.ref e_NoShip) = some (.type "type"))
    (vse_NoShip : PySem.W.subIn K (.ref e_NoShip) (.ref e_NoShip) = some true)
    (w_NoName_BerthError : PySem.W.subIn K (.ref e_NoName) (.ref e_BerthError) = some true)
    (w_NoName_NoCount : PySem.W.subIn K (.ref e_NoName) (.ref e_NoCount) = some false)
    (w_NoName_NoOrder : PySem.W.subIn K (.ref e_NoName) (.ref e_NoOrder) = some false)
    (w_NoName_NoQuay : PySem.W.subIn K (.ref e_NoName) (.ref e_NoQuay) = some false)
    (w_NoName_NoText : PySem.W.subIn K (.ref e_NoName) (.ref e_NoText) = some false)
    (w_NoName_NoTree : PySem.W.subIn K (.ref e_NoName) (.ref e_NoTree) = some false)
    (w_NoName_NoWishes : PySem.W.subIn K (.ref e_NoName) (.ref e_NoWishes) = some false)
    (w_NoName_TooMany : PySem.W.subIn K (.ref e_NoName) (.ref e_TooMany) = some false)
    (w_NoName_NoName : PySem.W.subIn K (.ref e_NoName) (.ref e_NoName) = some true)
    (w_NoName_Taken : PySem.W.subIn K (.ref e_NoName) (.ref e_Taken) = some false)
    (w_NoName_NoWish : PySem.W.subIn K (.ref e_NoName) (.ref e_NoWish) = some false)
    (w_NoName_NoRoom : PySem.W.subIn K (.ref e_NoName) (.ref e_NoRoom) = some false)
    (w_NoName_NoShip : PySem.W.subIn K (.ref e_NoName) (.ref e_NoShip) = some false)
    (w_Taken_BerthError : PySem.W.subIn K (.ref e_Taken) (.ref e_BerthError) = some true)
    (w_Taken_NoCount : PySem.W.subIn K (.ref e_Taken) (.ref e_NoCount) = some false)
    (w_Taken_NoOrder : PySem.W.subIn K (.ref e_Taken) (.ref e_NoOrder) = some false)
    (w_Taken_NoQuay : PySem.W.subIn K (.ref e_Taken) (.ref e_NoQuay) = some false)
    (w_Taken_NoText : PySem.W.subIn K (.ref e_Taken) (.ref e_NoText) = some false)
    (w_Taken_NoTree : PySem.W.subIn K (.ref e_Taken) (.ref e_NoTree) = some false)
    (w_Taken_NoWishes : PySem.W.subIn K (.ref e_Taken) (.ref e_NoWishes) = some false)
    (w_Taken_TooMany : PySem.W.subIn K (.ref e_Taken) (.ref e_TooMany) = some false)
    (w_Taken_NoName : PySem.W.subIn K (.ref e_Taken) (.ref e_NoName) = some false)
    (w_Taken_Taken : PySem.W.subIn K (.ref e_Taken) (.ref e_Taken) = some true)
    (w_Taken_NoWish : PySem.W.subIn K (.ref e_Taken) (.ref e_NoWish) = some false)
    (w_Taken_NoRoom : PySem.W.subIn K (.ref e_Taken) (.ref e_NoRoom) = some false)
    (w_Taken_NoShip : PySem.W.subIn K (.ref e_Taken) (.ref e_NoShip) = some false)
    (w_NoWish_BerthError : PySem.W.subIn K (.ref e_NoWish) (.ref e_BerthError) = some true)
    (w_NoWish_NoCount : PySem.W.subIn K (.ref e_NoWish) (.ref e_NoCount) = some false)
    (w_NoWish_NoOrder : PySem.W.subIn K (.ref e_NoWish) (.ref e_NoOrder) = some false)
    (w_NoWish_NoQuay : PySem.W.subIn K (.ref e_NoWish) (.ref e_NoQuay) = some false)
    (w_NoWish_NoText : PySem.W.subIn K (.ref e_NoWish) (.ref e_NoText) = some false)
    (w_NoWish_NoTree : PySem.W.subIn K (.ref e_NoWish) (.ref e_NoTree) = some false)
    (w_NoWish_NoWishes : PySem.W.subIn K (.ref e_NoWish) (.ref e_NoWishes) = some false)
    (w_NoWish_TooMany : PySem.W.subIn K (.ref e_NoWish) (.ref e_TooMany) = some false)
    (w_NoWish_NoName : PySem.W.subIn K (.ref e_NoWish) (.ref e_NoName) = some false)
    (w_NoWish_Taken : PySem.W.subIn K (.ref e_NoWish) (.ref e_Taken) = some false)
    (w_NoWish_NoWish : PySem.W.subIn K (.ref e_NoWish) (.ref e_NoWish) = some true)
    (w_NoWish_NoRoom : PySem.W.subIn K (.ref e_NoWish) (.ref e_NoRoom) = some false)
    (w_NoWish_NoShip : PySem.W.subIn K (.ref e_NoWish) (.ref e_NoShip) = some false)
    (w_NoRoom_BerthError : PySem.W.subIn K (.ref e_NoRoom) (.ref e_BerthError) = some true)
    (w_NoRoom_NoCount : PySem.W.subIn K (.ref e_NoRoom) (.ref e_NoCount) = some false)
    (w_NoRoom_NoOrder : PySem.W.subIn K (.ref e_NoRoom) (.ref e_NoOrder) = some false)
    (w_NoRoom_NoQuay : PySem.W.subIn K (.ref e_NoRoom) (.ref e_NoQuay) = some false)
    (w_NoRoom_NoText : PySem.W.subIn K (.ref e_NoRoom) (.ref e_NoText) = some false)
    (w_NoRoom_NoTree : PySem.W.subIn K (.ref e_NoRoom) (.ref e_NoTree) = some false)
    (w_NoRoom_NoWishes : PySem.W.subIn K (.ref e_NoRoom) (.ref e_NoWishes) = some false)
    (w_NoRoom_TooMany : PySem.W.subIn K (.ref e_NoRoom) (.ref e_TooMany) = some false)
    (w_NoRoom_NoName : PySem.W.subIn K (.ref e_NoRoom) (.ref e_NoName) = some false)
    (w_NoRoom_Taken : PySem.W.subIn K (.ref e_NoRoom) (.ref e_Taken) = some false)
    (w_NoRoom_NoWish : PySem.W.subIn K (.ref e_NoRoom) (.ref e_NoWish) = some false)
    (w_NoRoom_NoRoom : PySem.W.subIn K (.ref e_NoRoom) (.ref e_NoRoom) = some true)
    (w_NoRoom_NoShip : PySem.W.subIn K (.ref e_NoRoom) (.ref e_NoShip) = some false)
    (w_NoShip_BerthError : PySem.W.subIn K (.ref e_NoShip) (.ref e_BerthError) = some true)
    (w_NoShip_NoCount : PySem.W.subIn K (.ref e_NoShip) (.ref e_NoCount) = some false)
    (w_NoShip_NoOrder : PySem.W.subIn K (.ref e_NoShip) (.ref e_NoOrder) = some false)
    (w_NoShip_NoQuay : PySem.W.subIn K (.ref e_NoShip) (.ref e_NoQuay) = some false)
    (w_NoShip_NoText : PySem.W.subIn K (.ref e_NoShip) (.ref e_NoText) = some false)
    (w_NoShip_NoTree : PySem.W.subIn K (.ref e_NoShip) (.ref e_NoTree) = some false)
    (w_NoShip_NoWishes : PySem.W.subIn K (.ref e_NoShip) (.ref e_NoWishes) = some false)
    (w_NoShip_TooMany : PySem.W.subIn K (.ref e_NoShip) (.ref e_TooMany) = some false)
    (w_NoShip_NoName : PySem.W.subIn K (.ref e_NoShip) (.ref e_NoName) = some false)
    (w_NoShip_Taken : PySem.W.subIn K (.ref e_NoShip) (.ref e_Taken) = some false)
    (w_NoShip_NoWish : PySem.W.subIn K (.ref e_NoShip) (.ref e_NoWish) = some false)
    (w_NoShip_NoRoom : PySem.W.subIn K (.ref e_NoShip) (.ref e_NoRoom) = some false)
    (w_NoShip_NoShip : PySem.W.subIn K (.ref e_NoShip) (.ref e_NoShip) = some true)
    : ∃ fd : FuncData, (∀ (s : Shared) (v : Value), BindsTo s fd ⟨[v], []⟩ [("_law_script", v)]) ∧ ∀ base : Heap, K.In base → base.Ns mainGlobals mg → FnOk P w K mg base CX0 7 fa fd ["_law_script"] (sp_law K) := by
  have e := hfa.symm.trans (PySem.W.mg_of X G a_law)
  cases e
  have T : Txt K mg ({ f_is_number := f_is_number, f_is_from_to := f_is_from_to, f_is_name := f_is_name, f_check_quay := f_check_quay, f_first_free := f_first_free, f_first_free_round := f_first_free_round, f_Q_init := f_Q_init, f_p_check_name := f_p_check_name, f_Q_first_free := f_Q_first_free, f_R_first_free := f_R_first_free, f_Q_held := f_Q_held, f_Q_come := f_Q_come, f_Q_check_there := f_Q_check_there, f_Q_all_ships := f_Q_all_ships, f_R_all_ships := f_R_all_ships, f_Q_leave := f_Q_leave, f_Q_where := f_Q_where, f_Q_free_ones := f_Q_free_ones, f_Q_size := f_Q_size, f_Q_kind := f_Q_kind, f_R_init := f_R_init, f_R_come := f_R_come, f_R_leave := f_R_leave, f_R_where := f_R_where, f_R_free_ones := f_R_free_ones, f_R_size := f_R_size, f_R_kind := f_R_kind, f_l_cell_at := f_l_cell_at, f_l_mix := f_l_mix, f_l_whole := f_l_whole, f_l_lying := f_l_lying, f_l_words := f_l_words, f_l_done := f_l_done, f_l_due := f_l_due, f_l_stands := f_l_stands, f_l_nearer := f_l_nearer, e_BerthError := e_BerthError, e_NoCount := e_NoCount, e_NoName := e_NoName, e_NoOrder := e_NoOrder, e_NoQuay := e_NoQuay, e_NoRoom := e_NoRoom, e_NoShip := e_NoShip, e_NoText := e_NoText, e_NoTree := e_NoTree, e_NoWish := e_NoWish, e_NoWishes := e_NoWishes, e_Taken := e_Taken, e_TooMany := e_TooMany, c_Quay := c_Quay, c_Round := c_Round } : Ad) := ⟨trivial,
    PySem.W.mg_none_of X G z_bool,
    PySem.W.mg_none_of X G z_dict,
    PySem.W.mg_none_of X G z_int,
    PySem.W.mg_none_of X G z_isinstance,
    PySem.W.mg_none_of X G z_len,
    PySem.W.mg_none_of X G z_list,
    PySem.W.mg_none_of X G z_range,
    PySem.W.mg_none_of X G z_str,
    PySem.W.mg_none_of X G z_type,
    ⟨_, PySem.W.mg_of X G y_MOST, ⟨_, rfl⟩⟩,
    ⟨_, PySem.W.mg_of X G y_LONGEST, ⟨_, rfl⟩⟩,
    ⟨PySem.W.mg_of X G xg_BerthError, xx_BerthError, xk_BerthError, xb_BerthError, xt_BerthError⟩,
    ⟨PySem.W.mg_of X G xg_NoCount, xx_NoCount, xk_NoCount, xb_NoCount, xt_NoCount⟩,
    ⟨PySem.W.mg_of X G xg_NoName, xx_NoName, xk_NoName, xb_NoName, xt_NoName⟩,
    ⟨PySem.W.mg_of X G xg_NoOrder, xx_NoOrder, xk_NoOrder, xb_NoOrder, xt_NoOrder⟩,
    ⟨PySem.W.mg_of X G xg_NoQuay, xx_NoQuay, xk_NoQuay, xb_NoQuay, xt_NoQuay⟩,
    ⟨PySem.W.mg_of X G xg_NoRoom, xx_NoRoom, xk_NoRoom, xb_NoRoom, xt_NoRoom⟩,
    ⟨PySem.W.mg_of X G xg_NoShip, xx_NoShip, xk_NoShip, xb_NoShip, xt_NoShip⟩,
    ⟨PySem.W.mg_of X G xg_NoText, xx_NoText, xk_NoText, xb_NoText, xt_NoText⟩,
    ⟨PySem.W.mg_of X G xg_NoTree, xx_NoTree, xk_NoTree, xb_NoTree, xt_NoTree⟩,
    ⟨PySem.W.mg_of X G xg_NoWish, xx_NoWish, xk_NoWish, xb_NoWish, xt_NoWish⟩,
    ⟨PySem.W.mg_of X G xg_NoWishes, xx_NoWishes, xk_NoWishes, xb_NoWishes, xt_NoWishes⟩,
    ⟨PySem.W.mg_of X G xg_Taken, xx_Taken, xk_Taken, xb_Taken, xt_Taken⟩,
    ⟨PySem.W.mg_of X G xg_TooMany, xx_TooMany, xk_TooMany, xb_TooMany, xt_TooMany⟩,
    ⟨⟨vhg_BerthError, vhk_BerthError, vhs_BerthError, vhd_BerthError, vha_BerthError, v_hn, v_ht, vhm_BerthError⟩, vty_BerthError, vse_BerthError⟩,
    ⟨⟨vhg_NoCount, vhk_NoCount, vhs_NoCount, vhd_NoCount, vha_NoCount, v_hn, v_ht, vhm_NoCount⟩, vty_NoCount, vse_NoCount⟩,
    ⟨⟨vhg_NoOrder, vhk_NoOrder, vhs_NoOrder, vhd_NoOrder, vha_NoOrder, v_hn, v_ht, vhm_NoOrder⟩, vty_NoOrder, vse_NoOrder⟩,
    ⟨⟨vhg_NoQuay, vhk_NoQuay, vhs_NoQuay, vhd_NoQuay, vha_NoQuay, v_hn, v_ht, vhm_NoQuay⟩, vty_NoQuay, vse_NoQuay⟩,
    ⟨⟨vhg_NoText, vhk_NoText, vhs_NoText, vhd_NoText, vha_NoText, v_hn, v_ht, vhm_NoText⟩, vty_NoText, vse_NoText⟩,
    ⟨⟨vhg_NoTree, vhk_NoTree, vhs_NoTree, vhd_NoTree, vha_NoTree, v_hn, v_ht, vhm_NoTree⟩, vty_NoTree, vse_NoTree⟩,
    ⟨⟨vhg_NoWishes, vhk_NoWishes, vhs_NoWishes, vhd_NoWishes, vha_NoWishes, v_hn, v_ht, vhm_NoWishes⟩, vty_NoWishes, vse_NoWishes⟩,
    ⟨⟨vhg_TooMany, vhk_TooMany, vhs_TooMany, vhd_TooMany, vha_TooMany, v_hn, v_ht, vhm_TooMany⟩, vty_TooMany, vse_TooMany⟩,
    ⟨⟨vhg_NoName, vhk_NoName, vhs_NoName, vhd_NoName, vha_NoName, v_hn, v_ht, vhm_NoName⟩, vty_NoName, vse_NoName⟩,
    ⟨⟨vhg_Taken, vhk_Taken, vhs_Taken, vhd_Taken, vha_Taken, v_hn, v_ht, vhm_Taken⟩, vty_Taken, vse_Taken⟩,
    ⟨⟨vhg_NoWish, vhk_NoWish, vhs_NoWish, vhd_NoWish, vha_NoWish, v_hn, v_ht, vhm_NoWish⟩, vty_NoWish, vse_NoWish⟩,
    ⟨⟨vhg_NoRoom, vhk_NoRoom, vhs_NoRoom, vhd_NoRoom, vha_NoRoom, v_hn, v_ht, vhm_NoRoom⟩, vty_NoRoom, vse_NoRoom⟩,
    ⟨⟨vhg_NoShip, vhk_NoShip, vhs_NoShip, vhd_NoShip, vha_NoShip, v_hn, v_ht, vhm_NoShip⟩, vty_NoShip, vse_NoShip⟩,
    w_NoName_BerthError,
    w_NoName_NoCount,
    w_NoName_NoOrder,
    w_NoName_NoQuay,
    w_NoName_NoText,
    w_NoName_NoTree,
    w_NoName_NoWishes,
    w_NoName_TooMany,
    w_NoName_NoName,
    w_NoName_Taken,
    w_NoName_NoWish,
    w_NoName_NoRoom,
    w_NoName_NoShip,
    w_Taken_BerthError,
    w_Taken_NoCount,
    w_Taken_NoOrder,
    w_Taken_NoQuay,
    w_Taken_NoText,
    w_Taken_NoTree,
    w_Taken_NoWishes,
    w_Taken_TooMany,
    w_Taken_NoName,
    w_Taken_Taken,
    w_Taken_NoWish,
    w_Taken_NoRoom,
    w_Taken_NoShip,
    w_NoWish_BerthError,
    w_NoWish_NoCount,
    w_NoWish_NoOrder,
    w_NoWish_NoQuay,
    w_NoWish_NoText,
    w_NoWish_NoTree,
    w_NoWish_NoWishes,
    w_NoWish_TooMany,
    w_NoWish_NoName,
    w_NoWish_Taken,
    w_NoWish_NoWish,
    w_NoWish_NoRoom,
    w_NoWish_NoShip,
    w_NoRoom_BerthError,
    w_NoRoom_NoCount,
    w_NoRoom_NoOrder,
    w_NoRoom_NoQuay,
    w_NoRoom_NoText,
    w_NoRoom_NoTree,
    w_NoRoom_NoWishes,
    w_NoRoom_TooMany,
    w_NoRoom_NoName,
    w_NoRoom_Taken,
    w_NoRoom_NoWish,
    w_NoRoom_NoRoom,
    w_NoRoom_NoShip,
    w_NoShip_BerthError,
    w_NoShip_NoCount,
    w_NoShip_NoOrder,
    w_NoShip_NoQuay,
    w_NoShip_NoText,
    w_NoShip_NoTree,
    w_NoShip_NoWishes,
    w_NoShip_TooMany,
    w_NoShip_NoName,
    w_NoShip_Taken,
    w_NoShip_NoWish,
    w_NoShip_NoRoom,
    w_NoShip_NoShip,
    (fun b => match b with | false => ⟨⟨pg_Quay, hd_Quay, po_Quay, sa_Quay⟩, nB_Quay, nS_Quay⟩ | true => ⟨⟨pg_Round, hd_Round, po_Round, sa_Round⟩, nB_Round, nS_Round⟩),
    ⟨mk_Quay, am_Q_init, im_Q_init, kc_Quay⟩,
    PySem.W.mg_of X G aC_Quay,
    ⟨mk_Round, am_R_init, im_R_init, kc_Round⟩,
    PySem.W.mg_of X G aC_Round,
    ⟨⟨rd_Quay, ga_Quay⟩, fc_Quay, kI_Q_init⟩⟩
  have D_is_number : DF K mg "is_number" s_is_number ["thing"] f_is_number := df_mk (fun_mk (st := s_is_number) l_is_number cI_is_number kI_is_number) (fun _ _ _ _ _ _ us hl => match us, hl with | [_], _ => rfl) (PySem.W.mg_of X G a_is_number)
  have D_is_from_to : DF K mg "is_from_to" s_is_from_to ["low", "high", "thing"] f_is_from_to := df_mk (fun_mk (st := s_is_from_to) l_is_from_to cI_is_from_to kI_is_from_to) (fun _ _ _ _ _ _ us hl => match us, hl with | [_, _, _], _ => rfl) (PySem.W.mg_of X G a_is_from_to)
  have D_is_name : DF K mg "is_name" s_is_name ["thing"] f_is_name := df_mk (fun_mk (st := s_is_name) l_is_name cI_is_name kI_is_name) (fun _ _ _ _ _ _ us hl => match us, hl with | [_], _ => rfl) (PySem.W.mg_of X G a_is_name)
  have D_check_quay : DF K mg "check_quay" s_check_quay ["berths"] f_check_quay := df_mk (fun_mk (st := s_check_quay) l_check_quay cI_check_quay kI_check_quay) (fun _ _ _ _ _ _ us hl => match us, hl with | [_], _ => rfl) (PySem.W.mg_of X G a_check_quay)
  have D_first_free : DF K mg "first_free" s_first_free ["held", "wish"] f_first_free := df_mk (fun_mk (st := s_first_free) l_first_free cI_first_free kI_first_free) (fun _ _ _ _ _ _ us hl => match us, hl with | [_, _], _ => rfl) (PySem.W.mg_of X G a_first_free)
  have D_first_free_round : DF K mg "first_free_round" s_first_free_round ["held", "wish"] f_first_free_round := df_mk (fun_mk (st := s_first_free_round) l_first_free_round cI_first_free_round kI_first_free_round) (fun _ _ _ _ _ _ us hl => match us, hl with | [_, _], _ => rfl) (PySem.W.mg_of X G a_first_free_round)
  have F_Q_init := fun_mk (x := "__init__") (qual := "Quay.__init__") (st := s_Q_init) l_Q_init cI_Q_init kI_Q_init
  have D_Q_init : ∃ fd, Fun K "__init__" "Quay.__init__" s_Q_init f_Q_init fd ∧ Binds K fd ["self", "berths"] [] := ⟨_, F_Q_init, F_Q_init.binds (ps := ["self", "berths"]) (fun _ _ _ _ _ _ us hl => match us, hl with | [_, _], _ => rfl)⟩
  have D_p_check_name : DF K mg "_check_name" s_p_check_name ["name"] f_p_check_name := df_mk (fun_mk (st := s_p_check_name) l_p_check_name cI_p_check_name kI_p_check_name) (fun _ _ _ _ _ _ us hl => match us, hl with | [_], _ => rfl) (PySem.W.mg_of X G a_p_check_name)
  have F_Q_first_free := fun_mk (x := "_first_free") (qual := "Quay._first_free") (st := s_Q_first_free) l_Q_first_free cI_Q_first_free kI_Q_first_free
  have D_Q_first_free : ∃ fd, Fun K "_first_free" "Quay._first_free" s_Q_first_free f_Q_first_free fd ∧ Binds K fd ["self", "held", "wish"] [] := ⟨_, F_Q_first_free, F_Q_first_free.binds (ps := ["self", "held", "wish"]) (fun _ _ _ _ _ _ us hl => match us, hl with | [_, _, _], _ => rfl)⟩
  have F_R_first_free := fun_mk (x := "_first_free") (qual := "Round._first_free") (st := s_R_first_free) l_R_first_free cI_R_first_free kI_R_first_free
  have D_R_first_free : ∃ fd, Fun K "_first_free" "Round._first_free" s_R_first_free f_R_first_free fd ∧ Binds K fd ["self", "held", "wish"] [] := ⟨_, F_R_first_free, F_R_first_free.binds (ps := ["self", "held", "wish"]) (fun _ _ _ _ _ _ us hl => match us, hl with | [_, _, _], _ => rfl)⟩
  have F_Q_held := fun_mk (x := "_held") (qual := "Quay._held") (st := s_Q_held) l_Q_held cI_Q_held kI_Q_held
  have D_Q_held : ∃ fd, Fun K "_held" "Quay._held" s_Q_held f_Q_held fd ∧ Binds K fd ["self"] [] := ⟨_, F_Q_held, F_Q_held.binds (ps := ["self"]) (fun _ _ _ _ _ _ us hl => match us, hl with | [_], _ => rfl)⟩
  have F_Q_come := fun_mk (x := "come") (qual := "Quay.come") (st := s_Q_come) l_Q_come cI_Q_come kI_Q_come
  have D_Q_come : ∃ fd, Fun K "come" "Quay.come" s_Q_come f_Q_come fd ∧ Binds K fd ["self", "name", "wish"] [] := ⟨_, F_Q_come, F_Q_come.binds (ps := ["self", "name", "wish"]) (fun _ _ _ _ _ _ us hl => match us, hl with | [_, _, _], _ => rfl)⟩
  have F_Q_check_there := fun_mk (x := "_check_there") (qual := "Quay._check_there") (st := s_Q_check_there) l_Q_check_there cI_Q_check_there kI_Q_check_there
  have D_Q_check_there : ∃ fd, Fun K "_check_there" "Quay._check_there" s_Q_check_there f_Q_check_there fd ∧ Binds K fd ["self", "name"] [] := ⟨_, F_Q_check_there, F_Q_check_there.binds (ps := ["self", "name"]) (fun _ _ _ _ _ _ us hl => match us, hl with | [_, _], _ => rfl)⟩
  have F_Q_all_ships := fun_mk (x := "all_ships") (qual := "Quay.all_ships") (st := s_Q_all_ships) l_Q_all_ships cI_Q_all_ships kI_Q_all_ships
  have D_Q_all_ships : ∃ fd, Fun K "all_ships" "Quay.all_ships" s_Q_all_ships f_Q_all_ships fd ∧ Binds K fd ["self"] [] := ⟨_, F_Q_all_ships, F_Q_all_ships.binds (ps := ["self"]) (fun _ _ _ _ _ _ us hl => match us, hl with | [_], _ => rfl)⟩
  have D_R_all_ships : SupDef P K mg c_Round f_R_all_ships f_Q_all_ships "all_ships" "Round.all_ships" s_R_all_ships := ⟨⟨_, _, _, _, _, _, _, _, _, _, _, _, _, _, _, _, _, _, _, l_R_all_ships, cI_R_all_ships, lc_R_all_ships, lf_R_all_ships, vf_R_all_ships, fe_R_all_ships⟩, su_ns, PySem.W.mg_none_of X G su_mg, supM_of su_lR su_lQ su_mR su_mQ am_Q_all_ships su_R su_any hd_Round fi_R_all_ships l_Q_all_ships⟩
  have F_Q_leave := fun_mk (x := "leave") (qual := "Quay.leave") (st := s_Q_leave) l_Q_leave cI_Q_leave kI_Q_leave
  have D_Q_leave : ∃ fd, Fun K "leave" "Quay.leave" s_Q_leave f_Q_leave fd ∧ Binds K fd ["self", "name"] [] := ⟨_, F_Q_leave, F_Q_leave.binds (ps := ["self", "name"]) (fun _ _ _ _ _ _ us hl => match us, hl with | [_, _], _ => rfl)⟩
  have F_Q_where := fun_mk (x := "where") (qual := "Quay.where") (st := s_Q_where) l_Q_where cI_Q_where kI_Q_where
  have D_Q_where : ∃ fd, Fun K "where" "Quay.where" s_Q_where f_Q_where fd ∧ Binds K fd ["self", "name"] [] := ⟨_, F_Q_where, F_Q_where.binds (ps := ["self", "name"]) (fun _ _ _ _ _ _ us hl => match us, hl with | [_, _], _ => rfl)⟩
  have F_Q_free_ones := fun_mk (x := "free_ones") (qual := "Quay.free_ones") (st := s_Q_free_ones) l_Q_free_ones cI_Q_free_ones kI_Q_free_ones
  have D_Q_free_ones : ∃ fd, Fun K "free_ones" "Quay.free_ones" s_Q_free_ones f_Q_free_ones fd ∧ Binds K fd ["self"] [] := ⟨_, F_Q_free_ones, F_Q_free_ones.binds (ps := ["self"]) (fun _ _ _ _ _ _ us hl => match us, hl with | [_], _ => rfl)⟩
  have F_Q_size := fun_mk (x := "size") (qual := "Quay.size") (st := s_Q_size) l_Q_size cI_Q_size kI_Q_size
  have D_Q_size : ∃ fd, Fun K "size" "Quay.size" s_Q_size f_Q_size fd ∧ Binds K fd ["self"] [] := ⟨_, F_Q_size, F_Q_size.binds (ps := ["self"]) (fun _ _ _ _ _ _ us hl => match us, hl with | [_], _ => rfl)⟩
  have F_Q_kind := fun_mk (x := "kind") (qual := "Quay.kind") (st := s_Q_kind) l_Q_kind cI_Q_kind kI_Q_kind
  have D_Q_kind : ∃ fd, Fun K "kind" "Quay.kind" s_Q_kind f_Q_kind fd ∧ Binds K fd ["self"] [] := ⟨_, F_Q_kind, F_Q_kind.binds (ps := ["self"]) (fun _ _ _ _ _ _ us hl => match us, hl with | [_], _ => rfl)⟩
  have F_R_init := fun_mk (x := "__init__") (qual := "Round.__init__") (st := s_R_init) l_R_init cI_R_init kI_R_init
  have D_R_init : ∃ fd, Fun K "__init__" "Round.__init__" s_R_init f_R_init fd ∧ Binds K fd ["self", "berths"] [] := ⟨_, F_R_init, F_R_init.binds (ps := ["self", "berths"]) (fun _ _ _ _ _ _ us hl => match us, hl with | [_, _], _ => rfl)⟩
  have D_R_come : SupDef P K mg c_Round f_R_come f_Q_come "come" "Round.come" s_R_come := ⟨⟨_, _, _, _, _, _, _, _, _, _, _, _, _, _, _, _, _, _, _, l_R_come, cI_R_come, lc_R_come, lf_R_come, vf_R_come, fe_R_come⟩, su_ns, PySem.W.mg_none_of X G su_mg, supM_of su_lR su_lQ su_mR su_mQ am_Q_come su_R su_any hd_Round fi_R_come l_Q_come⟩
  have D_R_leave : SupDef P K mg c_Round f_R_leave f_Q_leave "leave" "Round.leave" s_R_leave := ⟨⟨_, _, _, _, _, _, _, _, _, _, _, _, _, _, _, _, _, _, _, l_R_leave, cI_R_leave, lc_R_leave, lf_R_leave, vf_R_leave, fe_R_leave⟩, su_ns, PySem.W.mg_none_of X G su_mg, supM_of su_lR su_lQ su_mR su_mQ am_Q_leave su_R su_any hd_Round fi_R_leave l_Q_leave⟩
  have D_R_where : SupDef P K mg c_Round f_R_where f_Q_where "where" "Round.where" s_R_where := ⟨⟨_, _, _, _, _, _, _, _, _, _, _, _, _, _, _, _, _, _, _, l_R_where, cI_R_where, lc_R_where, lf_R_where, vf_R_where, fe_R_where⟩, su_ns, PySem.W.mg_none_of X G su_mg, supM_of su_lR su_lQ su_mR su_mQ am_Q_where su_R su_any hd_Round fi_R_where l_Q_where⟩
  have D_R_free_ones : SupDef P K mg c_Round f_R_free_ones f_Q_free_ones "free_ones" "Round.free_ones" s_R_free_ones := ⟨⟨_, _, _, _, _, _, _, _, _, _, _, _, _, _, _, _, _, _, _, l_R_free_ones, cI_R_free_ones, lc_R_free_ones, lf_R_free_ones, vf_R_free_ones, fe_R_free_ones⟩, su_ns, PySem.W.mg_none_of X G su_mg, supM_of su_lR su_lQ su_mR su_mQ am_Q_free_ones su_R su_any hd_Round fi_R_free_ones l_Q_free_ones⟩
  have D_R_size : SupDef P K mg c_Round f_R_size f_Q_size "size" "Round.size" s_R_size := ⟨⟨_, _, _, _, _, _, _, _, _, _, _, _, _, _, _, _, _, _, _, l_R_size, cI_R_size, lc_R_size, lf_R_size, vf_R_size, fe_R_size⟩, su_ns, PySem.W.mg_none_of X G su_mg, supM_of su_lR su_lQ su_mR su_mQ am_Q_size su_R su_any hd_Round fi_R_size l_Q_size⟩
  have F_R_kind := fun_mk (x := "kind") (qual := "Round.kind") (st := s_R_kind) l_R_kind cI_R_kind kI_R_kind
  have D_R_kind : ∃ fd, Fun K "kind" "Round.kind" s_R_kind f_R_kind fd ∧ Binds K fd ["self"] [] := ⟨_, F_R_kind, F_R_kind.binds (ps := ["self"]) (fun _ _ _ _ _ _ us hl => match us, hl with | [_], _ => rfl)⟩
  have D_l_cell_at : DF K mg "_law_cell_at" s_l_cell_at ["_law_script", "_law_k"] f_l_cell_at := df_mk (fun_mk (st := s_l_cell_at) l_l_cell_at cI_l_cell_at kI_l_cell_at) (fun _ _ _ _ _ _ us hl => match us, hl with | [_, _], _ => rfl) (PySem.W.mg_of X G a_l_cell_at)
  have D_l_mix : DF K mg "_law_mix" s_l_mix ["_law_state", "_law_cell"] f_l_mix := df_mk (fun_mk (st := s_l_mix) l_l_mix cI_l_mix kI_l_mix) (fun _ _ _ _ _ _ us hl => match us, hl with | [_, _], _ => rfl) (PySem.W.mg_of X G a_l_mix)
  have D_l_whole : DF K mg "_law_whole" s_l_whole ["_law_found"] f_l_whole := df_mk (fun_mk (st := s_l_whole) l_l_whole cI_l_whole kI_l_whole) (fun _ _ _ _ _ _ us hl => match us, hl with | [_], _ => rfl) (PySem.W.mg_of X G a_l_whole)
  have D_l_lying : DF K mg "_law_lying" s_l_lying ["_law_berths", "_law_around", "_law_line"] f_l_lying := df_mk (fun_mk (st := s_l_lying) l_l_lying cI_l_lying kI_l_lying) (fun _ _ _ _ _ _ us hl => match us, hl with | [_, _, _], _ => rfl) (PySem.W.mg_of X G a_l_lying)
  have D_l_words : DF K mg "_law_words" s_l_words ["_law_e"] f_l_words := df_mk (fun_mk (st := s_l_words) l_l_words cI_l_words kI_l_words) (fun _ _ _ _ _ _ us hl => match us, hl with | [_], _ => rfl) (PySem.W.mg_of X G a_l_words)
  have D_l_done : DF K mg "_law_done" s_l_done ["_law_quay", "_law_deed"] f_l_done := df_mk (fun_mk (st := s_l_done) l_l_done cI_l_done kI_l_done) (fun _ _ _ _ _ _ us hl => match us, hl with | [_, _], _ => rfl) (PySem.W.mg_of X G a_l_done)
  have D_l_due : DF K mg "_law_due" s_l_due ["_law_berths", "_law_around", "_law_line", "_law_deed"] f_l_due := df_mk (fun_mk (st := s_l_due) l_l_due cI_l_due kI_l_due) (fun _ _ _ _ _ _ us hl => match us, hl with | [_, _, _, _], _ => rfl) (PySem.W.mg_of X G a_l_due)
  have D_l_stands : DF K mg "_law_stands" s_l_stands ["_law_quay", "_law_berths", "_law_around", "_law_line"] f_l_stands := df_mk (fun_mk (st := s_l_stands) l_l_stands cI_l_stands kI_l_stands) (fun _ _ _ _ _ _ us hl => match us, hl with | [_, _, _, _], _ => rfl) (PySem.W.mg_of X G a_l_stands)
  have D_l_nearer : DF K mg "_law_nearer" s_l_nearer ["_law_berths", "_law_around", "_law_line", "_law_moves"] f_l_nearer := df_mk (fun_mk (st := s_l_nearer) l_l_nearer cI_l_nearer kI_l_nearer) (fun _ _ _ _ _ _ us hl => match us, hl with | [_, _, _, _], _ => rfl) (PySem.W.mg_of X G a_l_nearer)
  refine ⟨PySem.W.fnOf "law" "law" (defArgs s_law) (defBody s_law) (defScope s_law) .none kV_law dc_law pm_law an_law cd_law ct_law, fun s v => .of_eq rfl, fun base _ _ => ?_⟩
  have g_is_number := ok_is_number (P := P) (w := w) (base := base) D_is_number T
  have g_is_from_to := ok_is_from_to (P := P) (w := w) (base := base) D_is_from_to T g_is_number
  have g_is_name := ok_is_name (P := P) (w := w) (base := base) D_is_name T
  have g_check_quay := ok_check_quay (P := P) (w := w) (base := base) D_check_quay T g_is_from_to
  have g_first_free := ok_first_free (P := P) (w := w) (base := base) D_first_free T
  have g_first_free_round := ok_first_free_round (P := P) (w := w) (base := base) D_first_free_round T g_first_free
  have M_Q_init := fun b => ok_Q_init (P := P) (w := w) (base := base) b D_Q_init T g_check_quay
  have G_Q_init := M_Q_init
  have g_p_check_name := ok_p_check_name (P := P) (w := w) (base := base) D_p_check_name T g_is_name
  have M_Q_first_free := ok_Q_first_free (P := P) (w := w) (base := base) D_Q_first_free T g_first_free
  have M_R_first_free := ok_R_first_free (P := P) (w := w) (base := base) D_R_first_free T g_first_free_round
  have G_first_free := mb_two (k := 3) (m := "_first_free") (sp := fun a b => sp_M_first_free K a b) T M_Q_first_free M_R_first_free ⟨am_Q_first_free, im_Q_first_free, kI_Q_first_free⟩ ⟨am_R_first_free, im_R_first_free, kI_R_first_free⟩ (by decide) (by decide)
  have M_Q_held := fun b => ok_Q_held (P := P) (w := w) (base := base) b D_Q_held T
  have G_held := mb_one (k := 1) (m := "_held") (sp := fun a b => sp_M_held K a b) T M_Q_held ⟨am_Q_held, im_Q_held, kI_Q_held⟩ ⟨ai_Q_held, im_Q_held, kI_Q_held⟩ (by decide)
  have M_Q_come := fun b => ok_Q_come (P := P) (w := w) (base := base) b D_Q_come T g_is_from_to G_first_free G_held g_p_check_name
  have M_Q_check_there := fun b => ok_Q_check_there (P := P) (w := w) (base := base) b D_Q_check_there T g_p_check_name
  have G_check_there := mb_one (k := 3) (m := "_check_there") (sp := fun a b => sp_M_check_there K a b) T M_Q_check_there ⟨am_Q_check_there, im_Q_check_there, kI_Q_check_there⟩ ⟨ai_Q_check_there, im_Q_check_there, kI_Q_check_there⟩ (by decide)
  have M_Q_all_ships := fun b => ok_Q_all_ships (P := P) (w := w) (base := base) b D_Q_all_ships T
  have M_R_all_ships := ok_R_all_ships (P := P) (w := w) (base := base) D_R_all_ships (M_Q_all_ships true)
  have G_all_ships := mb_two (k := 2) (m := "all_ships") (sp := fun a b => sp_M_all_ships K a b) T (M_Q_all_ships false) M_R_all_ships ⟨am_Q_all_ships, im_Q_all_ships, kI_Q_all_ships⟩ ⟨am_R_all_ships, im_R_all_ships, kI_R_all_ships⟩ (by decide) (by decide)
  have M_Q_leave := fun b => ok_Q_leave (P := P) (w := w) (base := base) b D_Q_leave T G_all_ships G_first_free G_check_there
  have M_Q_where := fun b => ok_Q_where (P := P) (w := w) (base := base) b D_Q_where T G_check_there
  have M_Q_free_ones := fun b => ok_Q_free_ones (P := P) (w := w) (base := base) b D_Q_free_ones T G_held
  have M_Q_size := fun b => ok_Q_size (P := P) (w := w) (base := base) b D_Q_size T
  have M_Q_kind := ok_Q_kind (P := P) (w := w) (base := base) D_Q_kind T
  have M_R_init := ok_R_init (P := P) (w := w) (base := base) D_R_init T G_Q_init
  have G_R_init := M_R_init
  have M_R_come := ok_R_come (P := P) (w := w) (base := base) D_R_come (M_Q_come true)
  have G_come := mb_two (k := 5) (m := "come") (sp := fun a b => sp_M_come K a b) T (M_Q_come false) M_R_come ⟨am_Q_come, im_Q_come, kI_Q_come⟩ ⟨am_R_come, im_R_come, kI_R_come⟩ (by decide) (by decide)
  have M_R_leave := ok_R_leave (P := P) (w := w) (base := base) D_R_leave (M_Q_leave true)
  have G_leave := mb_two (k := 5) (m := "leave") (sp := fun a b => sp_M_leave K a b) T (M_Q_leave false) M_R_leave ⟨am_Q_leave, im_Q_leave, kI_Q_leave⟩ ⟨am_R_leave, im_R_leave, kI_R_leave⟩ (by decide) (by decide)
  have M_R_where := ok_R_where (P := P) (w := w) (base := base) D_R_where (M_Q_where true)
  have G_where := mb_two (k := 5) (m := "where") (sp := fun a b => sp_M_where K a b) T (M_Q_where false) M_R_where ⟨am_Q_where, im_Q_where, kI_Q_where⟩ ⟨am_R_where, im_R_where, kI_R_where⟩ (by decide) (by decide)
  have M_R_free_ones := ok_R_free_ones (P := P) (w := w) (base := base) D_R_free_ones (M_Q_free_ones true)
  have G_free_ones := mb_two (k := 3) (m := "free_ones") (sp := fun a b => sp_M_free_ones K a b) T (M_Q_free_ones false) M_R_free_ones ⟨am_Q_free_ones, im_Q_free_ones, kI_Q_free_ones⟩ ⟨am_R_free_ones, im_R_free_ones, kI_R_free_ones⟩ (by decide) (by decide)
  have M_R_size := ok_R_size (P := P) (w := w) (base := base) D_R_size (M_Q_size true)
  have G_size := mb_two (k := 2) (m := "size") (sp := fun a b => sp_M_size K a b) T (M_Q_size false) M_R_size ⟨am_Q_size, im_Q_size, kI_Q_size⟩ ⟨am_R_size, im_R_size, kI_R_size⟩ (by decide) (by decide)
  have M_R_kind := ok_R_kind (P := P) (w := w) (base := base) D_R_kind T
  have G_kind := mb_two (k := 1) (m := "kind") (sp := fun a b => sp_M_kind K a b) T M_Q_kind M_R_kind ⟨am_Q_kind, im_Q_kind, kI_Q_kind⟩ ⟨am_R_kind, im_R_kind, kI_R_kind⟩ (by decide) (by decide)
  have g_l_cell_at := ok_l_cell_at (P := P) (w := w) (base := base) D_l_cell_at T
  have g_l_mix := ok_l_mix (P := P) (w := w) (base := base) D_l_mix T
  have g_l_whole := ok_l_whole (P := P) (w := w) (base := base) D_l_whole T
  have g_l_lying := ok_l_lying (P := P) (w := w) (base := base) D_l_lying T
  have g_l_words := ok_l_words (P := P) (w := w) (base := base) D_l_words T
  have g_l_done := ok_l_done (P := P) (w := w) (base := base) D_l_done T G_come G_leave G_where g_l_words
  have g_l_due := ok_l_due (P := P) (w := w) (base := base) D_l_due T g_l_whole g_l_lying
  have g_l_stands := ok_l_stands (P := P) (w := w) (base := base) D_l_stands T G_all_ships G_free_ones G_size G_kind g_l_lying
  have g_l_nearer := ok_l_nearer (P := P) (w := w) (base := base) D_l_nearer T
  exact ok_law (fun_mk (st := s_law) l_law cI_law kI_law) T G_Q_init G_R_init g_l_cell_at g_l_mix g_l_done g_l_due g_l_stands g_l_nearer
end Br
open PySem PySem.W PyProof.Rows
set_option maxHeartbeats 0 in
theorem PySem.Challenge.cw_berthrow_k12_whole_quays_kept_holds : PySem.Challenge.rw_berthrow_k12_whole_quays_kept.Holds := by
  w_on; o_law; k_head; (case hw => w_witness2)
  k_fill
  refine L2.walk_of (l := PySem.Challenge.rw_berthrow_k12_whole_quays_kept) (n := 63) (k := 7) (x := "_law_script") (CX := fun _ => L2.CX0) (sp := fun w => Br.sp_law _) rfl (by decide) rfl ⟨rfl, by decide, by decide⟩ (fun w h Y => PySem.W.kIn_of Y) ?F (fun _ _ a ns hl _ hS => ⟨a, ns, rfl, hS, hl, fun _ => rfl⟩) (fun _ _ _ _ _ h => h)
  case F =>
    intro w mg fa h KX G hmg
    refine' Br.all_mk KX G hmg ?aC_Quay ?pg_Quay ?hd_Quay ?po_Quay ?sa_Quay ?mk_Quay ?kc_Quay ?nB_Quay ?nS_Quay ?aC_Round ?pg_Round ?hd_Round ?po_Round ?sa_Round ?mk_Round ?kc_Round ?nB_Round ?nS_Round ?a_is_number ?l_is_number ?cI_is_number ?kI_is_number ?a_is_from_to ?l_is_from_to ?cI_is_from_to ?kI_is_from_to ?a_is_name ?l_is_name ?cI_is_name ?kI_is_name ?a_check_quay ?l_check_quay ?cI_check_quay ?kI_check_quay ?a_first_free ?l_first_free ?cI_first_free ?kI_first_free ?a_first_free_round ?l_first_free_round ?cI_first_free_round ?kI_first_free_round ?am_Q_init ?im_Q_init ?l_Q_init ?cI_Q_init ?kI_Q_init ?a_p_check_name ?l_p_check_name ?cI_p_check_name ?kI_p_check_name ?am_Q_first_free ?im_Q_first_free ?l_Q_first_free ?cI_Q_first_free ?kI_Q_first_free ?am_R_first_free ?im_R_first_free ?l_R_first_free ?cI_R_first_free ?kI_R_first_free ?am_Q_held ?im_Q_held ?l_Q_held ?cI_Q_held ?kI_Q_held ?ai_Q_held ?am_Q_come ?im_Q_come ?l_Q_come ?cI_Q_come ?kI_Q_come ?am_Q_check_there ?im_Q_check_there ?l_Q_check_there ?cI_Q_check_there ?kI_Q_check_there ?ai_Q_check_there ?am_Q_all_ships ?im_Q_all_ships ?l_Q_all_ships ?cI_Q_all_ships ?kI_Q_all_ships ?am_R_all_ships ?im_R_all_ships ?l_R_all_ships ?cI_R_all_ships ?lc_R_all_ships ?lf_R_all_ships ?vf_R_all_ships ?fe_R_all_ships ?fi_R_all_ships ?kI_R_all_ships ?am_Q_leave ?im_Q_leave ?l_Q_leave ?cI_Q_leave ?kI_Q_leave ?am_Q_where ?im_Q_where ?l_Q_where ?cI_Q_where ?kI_Q_where ?am_Q_free_ones ?im_Q_free_ones ?l_Q_free_ones ?cI_Q_free_ones ?kI_Q_free_ones ?am_Q_size ?im_Q_size ?l_Q_size ?cI_Q_size ?kI_Q_size ?am_Q_kind ?im_Q_kind ?l_Q_kind ?cI_Q_kind ?kI_Q_kind ?am_R_init ?im_R_init ?l_R_init ?cI_R_init ?kI_R_init ?am_R_come ?im_R_come ?l_R_come ?cI_R_come ?lc_R_come ?lf_R_come ?vf_R_come ?fe_R_come ?fi_R_come ?kI_R_come ?am_R_leave ?im_R_leave ?l_R_leave ?cI_R_leave ?lc_R_leave ?lf_R_leave ?vf_R_leave ?fe_R_leave ?fi_R_leave ?kI_R_leave ?am_R_where ?im_R_where ?l_R_where ?cI_R_where ?lc_R_where ?lf_R_where ?vf_R_where ?fe_R_where ?fi_R_where ?kI_R_where ?am_R_free_ones ?im_R_free_ones ?l_R_free_ones ?cI_R_free_ones ?lc_R_free_ones ?lf_R_free_ones ?vf_R_free_ones ?fe_R_free_ones ?fi_R_free_ones ?kI_R_free_ones ?am_R_size ?im_R_size ?l_R_size ?cI_R_size ?lc_R_size ?lf_R_size ?vf_R_size ?fe_R_size ?fi_R_size ?kI_R_size ?am_R_kind ?im_R_kind ?l_R_kind ?cI_R_kind ?kI_R_kind ?a_l_cell_at ?l_l_cell_at ?cI_l_cell_at ?kI_l_cell_at ?a_l_mix ?l_l_mix ?cI_l_mix ?kI_l_mix ?a_l_whole ?l_l_whole ?cI_l_whole ?kI_l_whole ?a_l_lying ?l_l_lying ?cI_l_lying ?kI_l_lying ?a_l_words ?l_l_words ?cI_l_words ?kI_l_words ?a_l_done ?l_l_done ?cI_l_done ?kI_l_done ?a_l_due ?l_l_due ?cI_l_due ?kI_l_due ?a_l_stands ?l_l_stands ?cI_l_stands ?kI_l_stands ?a_l_nearer ?l_l_nearer ?cI_l_nearer ?kI_l_nearer ?a_law ?l_law ?cI_law ?kI_law ?rd_Quay ?ga_Quay ?fc_Quay ?su_lR ?su_lQ ?su_mR ?su_mQ ?su_R ?su_any ?su_ns ?su_mg ?z_bool ?z_dict ?z_int ?z_isinstance ?z_len ?z_list ?z_range ?z_str ?z_type ?y_MOST ?y_LONGEST ?xg_BerthError ?xx_BerthError ?xk_BerthError ?xb_BerthError ?xt_BerthError ?xg_NoCount ?xx_NoCount ?xk_NoCount ?xb_NoCount ?xt_NoCount ?xg_NoName ?xx_NoName ?xk_NoName ?xb_NoName ?xt_NoName ?xg_NoOrder ?xx_NoOrder ?xk_NoOrder ?xb_NoOrder ?xt_NoOrder ?xg_NoQuay ?xx_NoQuay ?xk_NoQuay ?xb_NoQuay ?xt_NoQuay ?xg_NoRoom ?xx_NoRoom ?xk_NoRoom ?xb_NoRoom ?xt_NoRoom ?xg_NoShip ?xx_NoShip ?xk_NoShip ?xb_NoShip ?xt_NoShip ?xg_NoText ?xx_NoText ?xk_NoText ?xb_NoText ?xt_NoText ?xg_NoTree ?xx_NoTree ?xk_NoTree ?xb_NoTree ?xt_NoTree ?xg_NoWish ?xx_NoWish ?xk_NoWish ?xb_NoWish ?xt_NoWish ?xg_NoWishes ?xx_NoWishes ?xk_NoWishes ?xb_NoWishes ?xt_NoWishes ?xg_Taken ?xx_Taken ?xk_Taken ?xb_Taken ?xt_Taken ?xg_TooMany ?xx_TooMany ?xk_TooMany ?xb_TooMany ?xt_TooMany ?v_hn ?v_ht ?vhg_BerthError ?vhk_BerthError ?vhs_BerthError ?vhd_BerthError ?vha_BerthError ?vhm_BerthError ?vty_BerthError ?vse_BerthError ?vhg_NoCount ?vhk_NoCount ?vhs_NoCount ?vhd_NoCount ?vha_NoCount ?vhm_NoCount ?vty_NoCount ?vse_NoCount ?vhg_NoOrder ?vhk_NoOrder ?vhs_NoOrder ?vhd_NoOrder ?vha_NoOrder ?vhm_NoOrder ?vty_NoOrder ?vse_NoOrder ?vhg_NoQuay ?vhk_NoQuay ?vhs_NoQuay ?vhd_NoQuay ?vha_NoQuay ?vhm_NoQuay ?vty_NoQuay ?vse_NoQuay ?vhg_NoText ?vhk_NoText ?vhs_NoText ?vhd_NoText ?vha_NoText ?vhm_NoText ?vty_NoText ?vse_NoText ?vhg_NoTree ?vhk_NoTree ?vhs_NoTree ?vhd_NoTree ?vha_NoTree ?vhm_NoTree ?vty_NoTree ?vse_NoTree ?vhg_NoWishes ?vhk_NoWishes ?vhs_NoWishes ?vhd_NoWishes ?vha_NoWishes ?vhm_NoWishes ?vty_NoWishes ?vse_NoWishes ?vhg_TooMany ?vhk_TooMany ?vhs_TooMany ?vhd_TooMany ?vha_TooMany ?vhm_TooMany ?vty_TooMany ?vse_TooMany ?vhg_NoName ?vhk_NoName ?vhs_NoName ?vhd_NoName ?vha_NoName ?vhm_NoName ?vty_NoName ?vse_NoName ?vhg_Taken ?vhk_Taken ?vhs_Taken ?vhd_Taken ?vha_Taken ?vhm_Taken ?vty_Taken ?vse_Taken ?vhg_NoWish ?vhk_NoWish ?vhs_NoWish ?vhd_NoWish ?vha_NoWish ?vhm_NoWish ?vty_NoWish ?vse_NoWish ?vhg_NoRoom ?vhk_NoRoom ?vhs_NoRoom ?vhd_NoRoom ?vha_NoRoom ?vhm_NoRoom ?vty_NoRoom ?vse_NoRoom ?vhg_NoShip ?vhk_NoShip ?vhs_NoShip ?vhd_NoShip ?vha_NoShip ?vhm_NoShip ?vty_NoShip ?vse_NoShip ?w_NoName_BerthError ?w_NoName_NoCount ?w_NoName_NoOrder ?w_NoName_NoQuay ?w_NoName_NoText ?w_NoName_NoTree ?w_NoName_NoWishes ?w_NoName_TooMany ?w_NoName_NoName ?w_NoName_Taken ?w_NoName_NoWish ?w_NoName_NoRoom ?w_NoName_NoShip ?w_Taken_BerthError ?w_Taken_NoCount ?w_Taken_NoOrder ?w_Taken_NoQuay ?w_Taken_NoText ?w_Taken_NoTree ?w_Taken_NoWishes ?w_Taken_TooMany ?w_Taken_NoName ?w_Taken_Taken ?w_Taken_NoWish ?w_Taken_NoRoom ?w_Taken_NoShip ?w_NoWish_BerthError ?w_NoWish_NoCount ?w_NoWish_NoOrder ?w_NoWish_NoQuay ?w_NoWish_NoText ?w_NoWish_NoTree ?w_NoWish_NoWishes ?w_NoWish_TooMany ?w_NoWish_NoName ?w_NoWish_Taken ?w_NoWish_NoWish ?w_NoWish_NoRoom ?w_NoWish_NoShip ?w_NoRoom_BerthError ?w_NoRoom_NoCount ?w_NoRoom_NoOrder ?w_NoRoom_NoQuay ?w_NoRoom_NoText ?w_NoRoom_NoTree ?w_NoRoom_NoWishes ?w_NoRoom_TooMany ?w_NoRoom_NoName ?w_NoRoom_Taken ?w_NoRoom_NoWish ?w_NoRoom_NoRoom ?w_NoRoom_NoShip ?w_NoShip_BerthError ?w_NoShip_NoCount ?w_NoShip_NoOrder ?w_NoShip_NoQuay ?w_NoShip_NoText ?w_NoShip_NoTree ?w_NoShip_NoWishes ?w_NoShip_TooMany ?w_NoShip_NoName ?w_NoShip_Taken ?w_NoShip_NoWish ?w_NoShip_NoRoom ?w_NoShip_NoShip
    (case aC_Quay => k_is)
    (case pg_Quay => k_is)
    (case hd_Quay => k_is)
    (case po_Quay => k_is)
    (case sa_Quay => k_is)
    (case mk_Quay => k_is)
    (case kc_Quay => k_is)
    (case nB_Quay => k_is)
    (case nS_Quay => k_is)
    (case aC_Round => k_is)
    (case pg_Round => k_is)
    (case hd_Round => k_is)
    (case po_Round => k_is)
    (case sa_Round => k_is)
    (case mk_Round => k_is)
    (case kc_Round => k_is)
    (case nB_Round => k_is)
    (case nS_Round => k_is)
    (case a_is_number => k_is)
    (case l_is_number => k_is)
    (case cI_is_number => k_is)
    (case kI_is_number => k_is)
    (case a_is_from_to => k_is)
    (case l_is_from_to => k_is)
    (case cI_is_from_to => k_is)
    (case kI_is_from_to => k_is)
    (case a_is_name => k_is)
    (case l_is_name => k_is)
    (case cI_is_name => k_is)
    (case kI_is_name => k_is)
    (case a_check_quay => k_is)
    (case l_check_quay => k_is)
    (case cI_check_quay => k_is)
    (case kI_check_quay => k_is)
    (case a_first_free => k_is)
    (case l_first_free => k_is)
    (case cI_first_free => k_is)
    (case kI_first_free => k_is)
    (case a_first_free_round => k_is)
    (case l_first_free_round => k_is)
    (case cI_first_free_round => k_is)
    (case kI_first_free_round => k_is)
    (case am_Q_init => k_is)
    (case im_Q_init => k_is)
    (case l_Q_init => k_is)
    (case cI_Q_init => k_is)
    (case kI_Q_init => k_is)
    (case a_p_check_name => k_is)
    (case l_p_check_name => k_is)
    (case cI_p_check_name => k_is)
    (case kI_p_check_name => k_is)
    (case am_Q_first_free => k_is)
    (case im_Q_first_free => k_is)
    (case l_Q_first_free => k_is)
    (case cI_Q_first_free => k_is)
    (case kI_Q_first_free => k_is)
    (case am_R_first_free => k_is)
    (case im_R_first_free => k_is)
    (case l_R_first_free => k_is)
    (case cI_R_first_free => k_is)
    (case kI_R_first_free => k_is)
    (case am_Q_held => k_is)
    (case im_Q_held => k_is)
    (case l_Q_held => k_is)
    (case cI_Q_held => k_is)
    (case kI_Q_held => k_is)
    (case ai_Q_held => k_is)
    (case am_Q_come => k_is)
    (case im_Q_come => k_is)
    (case l_Q_come => k_is)
    (case cI_Q_come => k_is)
    (case kI_Q_come => k_is)
    (case am_Q_check_there => k_is)
    (case im_Q_check_there => k_is)
    (case l_Q_check_there => k_is)
    (case cI_Q_check_there => k_is)
    (case kI_Q_check_there => k_is)
    (case ai_Q_check_there => k_is)
    (case am_Q_all_ships => k_is)
    (case im_Q_all_ships => k_is)
    (case l_Q_all_ships => k_is)
    (case cI_Q_all_ships => k_is)
    (case kI_Q_all_ships => k_is)
    (case am_R_all_ships => k_is)
    (case im_R_all_ships => k_is)
    (case l_R_all_ships => k_is)
    (case cI_R_all_ships => k_is)
    (case lc_R_all_ships => k_is)
    (case lf_R_all_ships => k_is)
    (case vf_R_all_ships => rfl)
    (case fe_R_all_ships => rfl)
    (case fi_R_all_ships => k_is)
    (case kI_R_all_ships => k_is)
    (case am_Q_leave => k_is)
    (case im_Q_leave => k_is)
    (case l_Q_leave => k_is)
    (case cI_Q_leave => k_is)
    (case kI_Q_leave => k_is)
    (case am_Q_where => k_is)
    (case im_Q_where => k_is)
    (case l_Q_where => k_is)
    (case cI_Q_where => k_is)
    (case kI_Q_where => k_is)
    (case am_Q_free_ones => k_is)
    (case im_Q_free_ones => k_is)
    (case l_Q_free_ones => k_is)
    (case cI_Q_free_ones => k_is)
    (case kI_Q_free_ones => k_is)
    (case am_Q_size => k_is)
    (case im_Q_size => k_is)
    (case l_Q_size => k_is)
    (case cI_Q_size => k_is)
    (case kI_Q_size => k_is)
    (case am_Q_kind => k_is)
    (case im_Q_kind => k_is)
    (case l_Q_kind => k_is)
    (case cI_Q_kind => k_is)
    (case kI_Q_kind => k_is)
    (case am_R_init => k_is)
    (case im_R_init => k_is)
    (case l_R_init => k_is)
    (case cI_R_init => k_is)
    (case kI_R_init => k_is)
    (case am_R_come => k_is)
    (case im_R_come => k_is)
    (case l_R_come => k_is)
    (case cI_R_come => k_is)
    (case lc_R_come => k_is)
    (case lf_R_come => k_is)
    (case vf_R_come => rfl)
    (case fe_R_come => rfl)
    (case fi_R_come => k_is)
    (case kI_R_come => k_is)
    (case am_R_leave => k_is)
    (case im_R_leave => k_is)
    (case l_R_leave => k_is)
    (case cI_R_leave => k_is)
    (case lc_R_leave => k_is)
    (case lf_R_leave => k_is)
    (case vf_R_leave => rfl)
    (case fe_R_leave => rfl)
    (case fi_R_leave => k_is)
    (case kI_R_leave => k_is)
    (case am_R_where => k_is)
    (case im_R_where => k_is)
    (case l_R_where => k_is)
    (case cI_R_where => k_is)
    (case lc_R_where => k_is)
    (case lf_R_where => k_is)
    (case vf_R_where => rfl)
    (case fe_R_where => rfl)
    (case fi_R_where => k_is)
    (case kI_R_where => k_is)
    (case am_R_free_ones => k_is)
    (case im_R_free_ones => k_is)
    (case l_R_free_ones => k_is)
    (case cI_R_free_ones => k_is)
    (case lc_R_free_ones => k_is)
    (case lf_R_free_ones => k_is)
    (case vf_R_free_ones => rfl)
    (case fe_R_free_ones => rfl)
    (case fi_R_free_ones => k_is)
    (case kI_R_free_ones => k_is)
    (case am_R_size => k_is)
    (case im_R_size => k_is)
    (case l_R_size => k_is)
    (case cI_R_size => k_is)
    (case lc_R_size => k_is)
    (case lf_R_size => k_is)
    (case vf_R_size => rfl)
    (case fe_R_size => rfl)
    (case fi_R_size => k_is)
    (case kI_R_size => k_is)
    (case am_R_kind => k_is)
    (case im_R_kind => k_is)
    (case l_R_kind => k_is)
    (case cI_R_kind => k_is)
    (case kI_R_kind => k_is)
    (case a_l_cell_at => k_is)
    (case l_l_cell_at => k_is)
    (case cI_l_cell_at => k_is)
    (case kI_l_cell_at => k_is)
    (case a_l_mix => k_is)
    (case l_l_mix => k_is)
    (case cI_l_mix => k_is)
    (case kI_l_mix => k_is)
    (case a_l_whole => k_is)
    (case l_l_whole => k_is)
    (case cI_l_whole => k_is)
    (case kI_l_whole => k_is)
    (case a_l_lying => k_is)
    (case l_l_lying => k_is)
    (case cI_l_lying => k_is)
    (case kI_l_lying => k_is)
    (case a_l_words => k_is)
    (case l_l_words => k_is)
    (case cI_l_words => k_is)
    (case kI_l_words => k_is)
    (case a_l_done => k_is)
    (case l_l_done => k_is)
    (case cI_l_done => k_is)
    (case kI_l_done => k_is)
    (case a_l_due => k_is)
    (case l_l_due => k_is)
    (case cI_l_due => k_is)
    (case kI_l_due => k_is)
    (case a_l_stands => k_is)
    (case l_l_stands => k_is)
    (case cI_l_stands => k_is)
    (case kI_l_stands => k_is)
    (case a_l_nearer => k_is)
    (case l_l_nearer => k_is)
    (case cI_l_nearer => k_is)
    (case kI_l_nearer => k_is)
    (case a_law => k_is)
    (case l_law => k_is)
    (case cI_law => k_is)
    (case kI_law => k_is)
    (case rd_Quay => k_is)
    (case ga_Quay => k_is)
    (case fc_Quay => k_is)
    (case su_lR => k_is)
    (case su_lQ => k_is)
    (case su_mR => rfl)
    (case su_mQ => rfl)
    (case su_R => k_is)
    (case su_any => k_is)
    (case su_ns => rfl)
    (case su_mg => k_is)
    (case z_bool => k_is)
    (case z_dict => k_is)
    (case z_int => k_is)
    (case z_isinstance => k_is)
    (case z_len => k_is)
    (case z_list => k_is)
    (case z_range => k_is)
    (case z_str => k_is)
    (case z_type => k_is)
    (case y_MOST => k_is)
    (case y_LONGEST => k_is)
    (case xg_BerthError => k_is)
    (case xx_BerthError => k_exc)
    (case xk_BerthError => k_is)
    (case xb_BerthError => k_is)
    (case xt_BerthError => k_is)
    (case xg_NoCount => k_is)
    (case xx_NoCount => k_exc)
    (case xk_NoCount => k_is)
    (case xb_NoCount => k_is)
    (case xt_NoCount => k_is)
    (case xg_NoName => k_is)
    (case xx_NoName => k_exc)
    (case xk_NoName => k_is)
    (case xb_NoName => k_is)
    (case xt_NoName => k_is)
    (case xg_NoOrder => k_is)
    (case xx_NoOrder => k_exc)
    (case xk_NoOrder => k_is)
    (case xb_NoOrder => k_is)
    (case xt_NoOrder => k_is)
    (case xg_NoQuay => k_is)
    (case xx_NoQuay => k_exc)
    (case xk_NoQuay => k_is)
    (case xb_NoQuay => k_is)
    (case xt_NoQuay => k_is)
    (case xg_NoRoom => k_is)
    (case xx_NoRoom => k_exc)
    (case xk_NoRoom => k_is)
    (case xb_NoRoom => k_is)
    (case xt_NoRoom => k_is)
    (case xg_NoShip => k_is)
    (case xx_NoShip => k_exc)
    (case xk_NoShip => k_is)
    (case xb_NoShip => k_is)
    (case xt_NoShip => k_is)
    (case xg_NoText => k_is)
    (case xx_NoText => k_exc)
    (case xk_NoText => k_is)
    (case xb_NoText => k_is)
    (case xt_NoText => k_is)
    (case xg_NoTree => k_is)
    (case xx_NoTree => k_exc)
    (case xk_NoTree => k_is)
    (case xb_NoTree => k_is)
    (case xt_NoTree => k_is)
    (case xg_NoWish => k_is)
    (case xx_NoWish => k_exc)
    (case xk_NoWish => k_is)
    (case xb_NoWish => k_is)
    (case xt_NoWish => k_is)
    (case xg_NoWishes => k_is)
    (case xx_NoWishes => k_exc)
    (case xk_NoWishes => k_is)
    (case xb_NoWishes => k_is)
    (case xt_NoWishes => k_is)
    (case xg_Taken => k_is)
    (case xx_Taken => k_exc)
    (case xk_Taken => k_is)
    (case xb_Taken => k_is)
    (case xt_Taken => k_is)
    (case xg_TooMany => k_is)
    (case xx_TooMany => k_exc)
    (case xk_TooMany => k_is)
    (case xb_TooMany => k_is)
    (case xt_TooMany => k_is)
    (case v_hn => k_is)
    (case v_ht => k_is)
    (case vhg_BerthError => k_is)
    (case vhk_BerthError => k_is)
    (case vhs_BerthError => k_is)
    (case vhd_BerthError => k_is)
    (case vha_BerthError => k_is)
    (case vhm_BerthError => k_is)
    (case vty_BerthError => k_is)
    (case vse_BerthError => k_is)
    (case vhg_NoCount => k_is)
    (case vhk_NoCount => k_is)
    (case vhs_NoCount => k_is)
    (case vhd_NoCount => k_is)
    (case vha_NoCount => k_is)
    (case vhm_NoCount => k_is)
    (case vty_NoCount => k_is)
    (case vse_NoCount => k_is)
    (case vhg_NoOrder => k_is)
    (case vhk_NoOrder => k_is)
    (case vhs_NoOrder => k_is)
    (case vhd_NoOrder => k_is)
    (case vha_NoOrder => k_is)
    (case vhm_NoOrder => k_is)
    (case vty_NoOrder => k_is)
    (case vse_NoOrder => k_is)
    (case vhg_NoQuay => k_is)
    (case vhk_NoQuay => k_is)
    (case vhs_NoQuay => k_is)
    (case vhd_NoQuay => k_is)
    (case vha_NoQuay => k_is)
    (case vhm_NoQuay => k_is)
    (case vty_NoQuay => k_is)
    (case vse_NoQuay => k_is)
    (case vhg_NoText => k_is)
    (case vhk_NoText => k_is)
    (case vhs_NoText => k_is)
    (case vhd_NoText => k_is)
    (case vha_NoText => k_is)
    (case vhm_NoText => k_is)
    (case vty_NoText => k_is)
    (case vse_NoText => k_is)
    (case vhg_NoTree => k_is)
    (case vhk_NoTree => k_is)
    (case vhs_NoTree => k_is)
    (case vhd_NoTree => k_is)
    (case vha_NoTree => k_is)
    (case vhm_NoTree => k_is)
    (case vty_NoTree => k_is)
    (case vse_NoTree => k_is)
    (case vhg_NoWishes => k_is)
    (case vhk_NoWishes => k_is)
    (case vhs_NoWishes => k_is)
    (case vhd_NoWishes => k_is)
    (case vha_NoWishes => k_is)
    (case vhm_NoWishes => k_is)
    (case vty_NoWishes => k_is)
    (case vse_NoWishes => k_is)
    (case vhg_TooMany => k_is)
    (case vhk_TooMany => k_is)
    (case vhs_TooMany => k_is)
    (case vhd_TooMany => k_is)
    (case vha_TooMany => k_is)
    (case vhm_TooMany => k_is)
    (case vty_TooMany => k_is)
    (case vse_TooMany => k_is)
    (case vhg_NoName => k_is)
    (case vhk_NoName => k_is)
    (case vhs_NoName => k_is)
    (case vhd_NoName => k_is)
    (case vha_NoName => k_is)
    (case vhm_NoName => k_is)
    (case vty_NoName => k_is)
    (case vse_NoName => k_is)
    (case vhg_Taken => k_is)
    (case vhk_Taken => k_is)
    (case vhs_Taken => k_is)
    (case vhd_Taken => k_is)
    (case vha_Taken => k_is)
    (case vhm_Taken => k_is)
    (case vty_Taken => k_is)
    (case vse_Taken => k_is)
    (case vhg_NoWish => k_is)
    (case vhk_NoWish => k_is)
    (case vhs_NoWish => k_is)
    (case vhd_NoWish => k_is)
    (case vha_NoWish => k_is)
    (case vhm_NoWish => k_is)
    (case vty_NoWish => k_is)
    (case vse_NoWish => k_is)
    (case vhg_NoRoom => k_is)
    (case vhk_NoRoom => k_is)
    (case vhs_NoRoom => k_is)
    (case vhd_NoRoom => k_is)
    (case vha_NoRoom => k_is)
    (case vhm_NoRoom => k_is)
    (case vty_NoRoom => k_is)
    (case vse_NoRoom => k_is)
    (case vhg_NoShip => k_is)
    (case vhk_NoShip => k_is)
    (case vhs_NoShip => k_is)
    (case vhd_NoShip => k_is)
    (case vha_NoShip => k_is)
    (case vhm_NoShip => k_is)
    (case vty_NoShip => k_is)
    (case vse_NoShip => k_is)
    (case w_NoName_BerthError => k_is)
    (case w_NoName_NoCount => k_is)
    (case w_NoName_NoOrder => k_is)
    (case w_NoName_NoQuay => k_is)
    (case w_NoName_NoText => k_is)
    (case w_NoName_NoTree => k_is)
    (case w_NoName_NoWishes => k_is)
    (case w_NoName_TooMany => k_is)
    (case w_NoName_NoName => k_is)
    (case w_NoName_Taken => k_is)
    (case w_NoName_NoWish => k_is)
    (case w_NoName_NoRoom => k_is)
    (case w_NoName_NoShip => k_is)
    (case w_Taken_BerthError => k_is)
    (case w_Taken_NoCount => k_is)
    (case w_Taken_NoOrder => k_is)
    (case w_Taken_NoQuay => k_is)
    (case w_Taken_NoText => k_is)
    (case w_Taken_NoTree => k_is)
    (case w_Taken_NoWishes => k_is)
    (case w_Taken_TooMany => k_is)
    (case w_Taken_NoName => k_is)
    (case w_Taken_Taken => k_is)
    (case w_Taken_NoWish => k_is)
    (case w_Taken_NoRoom => k_is)
    (case w_Taken_NoShip => k_is)
    (case w_NoWish_BerthError => k_is)
    (case w_NoWish_NoCount => k_is)
    (case w_NoWish_NoOrder => k_is)
    (case w_NoWish_NoQuay => k_is)
    (case w_NoWish_NoText => k_is)
    (case w_NoWish_NoTree => k_is)
    (case w_NoWish_NoWishes => k_is)
    (case w_NoWish_TooMany => k_is)
    (case w_NoWish_NoName => k_is)
    (case w_NoWish_Taken => k_is)
    (case w_NoWish_NoWish => k_is)
    (case w_NoWish_NoRoom => k_is)
    (case w_NoWish_NoShip => k_is)
    (case w_NoRoom_BerthError => k_is)
    (case w_NoRoom_NoCount => k_is)
    (case w_NoRoom_NoOrder => k_is)
    (case w_NoRoom_NoQuay => k_is)
    (case w_NoRoom_NoText => k_is)
    (case w_NoRoom_NoTree => k_is)
    (case w_NoRoom_NoWishes => k_is)
    (case w_NoRoom_TooMany => k_is)
    (case w_NoRoom_NoName => k_is)
    (case w_NoRoom_Taken => k_is)
    (case w_NoRoom_NoWish => k_is)
    (case w_NoRoom_NoRoom => k_is)
    (case w_NoRoom_NoShip => k_is)
    (case w_NoShip_BerthError => k_is)
    (case w_NoShip_NoCount => k_is)
    (case w_NoShip_NoOrder => k_is)
    (case w_NoShip_NoQuay => k_is)
    (case w_NoShip_NoText => k_is)
    (case w_NoShip_NoTree => k_is)
    (case w_NoShip_NoWishes => k_is)
    (case w_NoShip_TooMany => k_is)
    (case w_NoShip_NoName => k_is)
    (case w_NoShip_Taken => k_is)
    (case w_NoShip_NoWish => k_is)
    (case w_NoShip_NoRoom => k_is)
    (case w_NoShip_NoShip => k_is)

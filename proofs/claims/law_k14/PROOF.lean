import PyProof.Rows.All
import Wide.All
import OpenK.AllK
import Wide.FinOn
import HandS.ForMost
import HandS.ForExc
import HandS.More
import HandS.Walk
import HandS.SortInts
import HandS.SetFor
import HandS.Style
import HandS.RevRange
import HandS.TupAny
import HandS.TupMul
import HandS.IsInst
import HandS.Conv
import HandS.ExcIs
import HandS.ExcCtx
import HandS.SortKw
import HandS.Remove
import HandS.TupLe
import HandS.Zip
import HandS.TupSets
import HandS.Small
import KE.DatumOrd
import KE.DatumMore
import KE.KSortedM
import KE.KStateDown
import KE.KDictPairs
import KE.KDictList
import KE.KDictIter
import KE.KDictSum
import HandS.ClsMeth
import PySem.Challenge.RW_berthrow_k14_wishes_refused
set_option Elab.async false
set_option linter.all false
set_option maxRecDepth 100000
set_option maxHeartbeats 4000000
namespace Br
open PySem PySem.Spec PyProof.Rows L2
/-! ### addresses of what the top has made, by name -/
structure Ad where
  f_is_number : Addr := 0
  f_is_from_to : Addr := 0
  f_is_row : Addr := 0
  f_check_quay : Addr := 0
  f_check_wishes : Addr := 0
  f_first_free : Addr := 0
  f_placed : Addr := 0
  f_taken : Addr := 0
  f_gone_on : Addr := 0
  f_is_good : Addr := 0
  f_crowded : Addr := 0
  f_placed_round : Addr := 0
  f_left_over : Addr := 0
  f_turned : Addr := 0
  f_turning : Addr := 0
  f_how_many : Addr := 0
  f_first_row : Addr := 0
  f_last_row : Addr := 0
  f_next_row : Addr := 0
  f_p_check_ships : Addr := 0
  f_l_cell_at : Addr := 0
  f_l_mix : Addr := 0
  f_l_quay : Addr := 0
  f_l_wishes : Addr := 0
  f_l_placed : Addr := 0
  f_l_whole : Addr := 0
  f_l_good : Addr := 0
  f_l_crowded : Addr := 0
  f_l_order : Addr := 0
  f_l_round : Addr := 0
  f_l_refused : Addr := 0
  f_l_due : Addr := 0
  f_l_caught : Addr := 0
  f_l_lowered : Addr := 0
  f_first_free_round : Addr := 0
  f_check_full_row : Addr := 0
  f_tree_of : Addr := 0
  f_wishes_of : Addr := 0
  f_p_check_knots : Addr := 0
  f_lies : Addr := 0
  f_reaches : Addr := 0
  f_rows_to : Addr := 0
  f_p_check_order : Addr := 0
  f_is_name : Addr := 0
  f_written : Addr := 0
  f_read : Addr := 0
  f_p_parts : Addr := 0
  f_p_pair : Addr := 0
  f_p_number : Addr := 0
  f_p_check_name : Addr := 0
  f_l_asked : Addr := 0
  f_l_word : Addr := 0
  f_l_told : Addr := 0
  f_l_odd : Addr := 0
  f_l_no_quay : Addr := 0
  f_l_full : Addr := 0
  f_l_tree : Addr := 0
  f_l_drawn : Addr := 0
  f_l_hangs : Addr := 0
  f_l_right : Addr := 0
  f_l_lying : Addr := 0
  f_l_words : Addr := 0
  f_l_done : Addr := 0
  f_l_stands : Addr := 0
  f_l_nearer : Addr := 0
  f_l_read : Addr := 0
  f_l_text : Addr := 0
  f_l_odd_text : Addr := 0
  f_law : Addr := 0
  f_Q_init : Addr := 0
  f_Q_come : Addr := 0
  f_Q_leave : Addr := 0
  f_Q_where : Addr := 0
  f_Q_all_ships : Addr := 0
  f_Q_free_ones : Addr := 0
  f_Q_size : Addr := 0
  f_Q_kind : Addr := 0
  f_Q_first_free : Addr := 0
  f_Q_held : Addr := 0
  f_Q_check_there : Addr := 0
  f_R_init : Addr := 0
  f_R_come : Addr := 0
  f_R_leave : Addr := 0
  f_R_where : Addr := 0
  f_R_all_ships : Addr := 0
  f_R_free_ones : Addr := 0
  f_R_size : Addr := 0
  f_R_kind : Addr := 0
  f_R_first_free : Addr := 0
  c_Quay : Addr := 0
  c_Round : Addr := 0
  e_BerthError : Addr := 0
  e_NoQuay : Addr := 0
  e_NoWishes : Addr := 0
  e_TooMany : Addr := 0
  e_NoCount : Addr := 0
  e_NoTree : Addr := 0
  e_NoOrder : Addr := 0
  e_NoName : Addr := 0
  e_Taken : Addr := 0
  e_NoWish : Addr := 0
  e_NoRoom : Addr := 0
  e_NoShip : Addr := 0
  e_NoText : Addr := 0
/-- a def as it stands behind the top -/
structure DF (K : PySem.W.Frag) (mg : Str → Option Value) (x : Str) (st : Stmt) (ps : List Str) (f : Addr) : Prop where
  ex : ∃ fd, Fun K x x st f fd ∧ Binds K fd ps []
  g : mg x = some (.ref f)
/-- a def that keeps its promise, ready to be called by its name -/
structure Cb (P : Program) (w : World) (K : PySem.W.Frag) (mg : Str → Option Value) (base : Heap) (CX : CXT) (k : Nat) (x : Str) (f : Addr) (ps : List Str) (sp : Sp) : Prop where
  ex : ∃ fd, FnOk P w K mg base CX k f fd ps sp ∧ Binds K fd ps []
  g : mg x = some (.ref f)
  kp : PySem.W.keepIn K (.ref f) = true
/-- an own exception's class -/
structure ExF (K : PySem.W.Frag) (mg : Str → Option Value) (x : Str) (c : Addr) : Prop where
  g : mg x = some (.ref c)
  x : PySem.W.excIn K c [.type "ValueError", .type "Exception", .type "BaseException", .type "object"] "ValueError.__new__" = true
  k : PySem.W.keepIn K (.ref c) = true
  b : PySem.W.subIn K (.ref c) (.type "BaseException") = some true
  t : PySem.W.typeIn K (.ref c) = some (.type "type")
theorem df_mk {K : PySem.W.Frag} {mg : Str → Option Value} {x : Str} {st : Stmt} {ps : List Str} {f : Addr} {fd : FuncData} (F : Fun K x x st f fd)
    (h : ∀ (kV doc pm : Value) (an : Option Addr) (cdv ct : Value) (us : List Value), us.length = ps.length → bindArgs (PySem.W.fnOf x x (defArgs st) (defBody st) (defScope st) .none kV doc pm an cdv ct) ⟨us, []⟩ = pure (ps.zip us)) (g : mg x = some (.ref f)) : DF K mg x st ps f :=
  ⟨⟨fd, F, F.binds h⟩, g⟩
/-! ### readings by short names -/
def rAddI : R2 := rI0 fun i j => .int (i + j)
def rSubI : R2 := rI0 fun i j => .int (i - j)
def rMulI : R2 := rI CMul fun i j => .int (i * j)
def rModI : R2 := rI (fun _ j => 0 < j) fun i j => .int (i % j)
def rDivI : R2 := rI CDiv fun i j => .int (i / j)
def rPowI : R2 := rI CPow fun i j => .int (i ^ j.toNat)
def rLtI : R2 := rI0 fun i j => .bl (decide (i < j))
def rLeI : R2 := rI0 fun i j => .bl (decide (i ≤ j))
def rGtI : R2 := rI0 fun i j => .bl (decide (j < i))
def rGeI : R2 := rI0 fun i j => .bl (decide (j ≤ i))
def rIsTyB : R2 := fun x y H Q => ∃ a b, x = .ty a ∧ y = .ty b ∧ Q (.bl (decide (a = b))) H
def rIsB1 : R2 := fun x y H Q => ∃ a b, x = .bl a ∧ y = .bl b ∧ Q (.bl (decide (a = b))) H
def rLenSq (K : PySem.W.Frag) : List V → Hp → VK → Prop := fun xs H Q => ∃ p ys, xs = [.ref p] ∧ (SqL K H p ys ∨ SqT K H p ys) ∧ Q (.int ys.length) H
def rAddStr : R2 := fun x y H Q => ∃ i j, x = .str i ∧ y = .str j ∧ i.length + j.length ≤ sizeLine ∧ Q (.str (i ++ j)) H
def rMin2 : List V → Hp → VK → Prop := fun xs H Q => ∃ i j, xs = [.int i, .int j] ∧ Q (.int (if j < i then j else i)) H
def rMax2 : List V → Hp → VK → Prop := fun xs H Q => ∃ i j, xs = [.int i, .int j] ∧ Q (.int (if j > i then j else i)) H
def rInt1 : List V → Hp → VK → Prop := fun xs H Q => (∃ i, xs = [.int i] ∧ Q (.int i) H) ∨ ∃ k, xs = [.bl k] ∧ Q (.int (if k then 1 else 0)) H
def rListOf (K : PySem.W.Frag) : List V → Hp → VK → Prop := fun xs H Q => ∃ p ys, xs = [.ref p] ∧ (SqL K H p ys ∨ SqT K H p ys) ∧ ∀ l, H l = none → Q (.ref l) (upd H l (.lst ys))
def rTupleOf (K : PySem.W.Frag) : List V → Hp → VK → Prop := fun xs H Q => ∃ p ys, xs = [.ref p] ∧ ((SqL K H p ys ∧ ∀ l, H l = none → Q (.ref l) (upd H l (.tup ys))) ∨ (SqT K H p ys ∧ Q (.ref p) H))
def ipAdd : TIp := ipI fun i j => i + j
def ipSub : TIp := ipI fun i j => i - j
def tTru (K : PySem.W.Frag) (te : TE) : TT := fun σ H Q => te σ H fun x H' => ∃ k, TruV K x H' k ∧ Q k H'
def tRaise (c : Addr) (E : XK) : TS := fun _ _ H => E (.ref c) none H
def iSeq (K : PySem.W.Frag) (tl : TE) : TI := fun σ H R => iList K tl σ H R ∨ iTup K tl σ H R
def SqA (K : PySem.W.Frag) (H : Hp) (a : Addr) (xs : List V) : Prop := SqL K H a xs ∨ SqT K H a xs
theorem item_of0 {ns : List Int} {i : Nat} {y : V} (hi : (ns.map V.int)[i]? = some y) : ∃ z, ns[i]? = some z ∧ y = V.int z := by
  rw [List.getElem?_map] at hi
  cases e : ns[i]? with
  | none => rw [e] at hi; cases hi
  | some z => rw [e] at hi; exact ⟨z, rfl, (Option.some.inj hi).symm⟩
/-! ### rules -/
section
variable {X : Cx}
theorem pe_gl {x : Str} {v : V} {pos : Pos} (hg : Gl X x) (h : ∃ u, X.mg x = some u ∧ RelV v u) (hd : (x == ("__debug__" : Str)) = false := by decide) : PE X (.Name x pos) (tC v) := by
  obtain ⟨u, hm, r⟩ := h
  exact pe_glob hg hm r hd
theorem pe_cb {CX : CXT} {k : Nat} {f : Addr} {ps : List Str} {sp : Sp} {E : XK} {x : Str} {p pos : Pos} {e : Expr} {es : List Expr} {t : TA} (G : Cb X.prog X.w X.K X.mg X.base CX k x f ps sp) (hr : Room k X.A) (hg : Gl X x) (hx : Passes CX X E) (ha : PA X (e :: es) t)
    (hdb : (x == ("__debug__" : Str)) = false := by decide) (he : starEach (e :: es) X.env = (false, eval e X.env) :: starEach es X.env := by rfl) (hpl : (backTo pos (starEach es X.env)).any (·.1) = false := by rfl) :
    PE X (.Call (.Name x p) (e :: es) [] pos) (tCall sp [] E t) := by
  obtain ⟨⟨fd, F, b⟩, g, kp⟩ := G
  exact pe_call F hr hg g kp b .nil hx ha hdb he hpl
theorem pe_cbS {CX : CXT} {k : Nat} {f : Addr} {ps : List Str} {sp : Sp} {E : L2.St → XK} {x : Str} {p pos : Pos} {e : Expr} {es : List Expr} {t : TA} (G : Cb X.prog X.w X.K X.mg X.base CX k x f ps sp) (hr : Room k X.A) (hg : Gl X x) (hx : ∀ σ, PassesAt CX X σ (E σ)) (ha : PA X (e :: es) t)
    (hdb : (x == ("__debug__" : Str)) = false := by decide) (he : starEach (e :: es) X.env = (false, eval e X.env) :: starEach es X.env := by rfl) (hpl : (backTo pos (starEach es X.env)).any (·.1) = false := by rfl) :
    PE X (.Call (.Name x p) (e :: es) [] pos) (tCallS sp E t) := by
  obtain ⟨⟨fd, F, b⟩, g, kp⟩ := G
  exact pe_callS F hr hg g kp b hx ha hdb he hpl
theorem pi_seq {tg l : Expr} {tl : TE} (hl : PE X l tl) : PI X tg l (iSeq X.K tl) :=
  ⟨fun pins s σ H R I h => h.elim (fun h => (pi_list hl).run pins s σ H R I h) (fun h => (pi_tup hl).run pins s σ H R I h)⟩
/-- xs[i], by values: for xs[i] += e -/
theorem gt_list : PGet X (rIxL X.K) := by
  intro pins s σ H x y v u Q I rx ry h
  obtain ⟨p, xs, i, z, rfl, rfl, hq, he, q⟩ := h
  cases rx
  obtain ⟨t, rfl⟩ := ry
  obtain ⟨its, r, pl, hz⟩ := I.list hq
  obtain ⟨j, h1, h2, h3, h4, h5⟩ := atI_get he
  obtain ⟨w, ew, rw'⟩ := r.get h2
  have hl := r.length
  have hn := line63
  have fin : EP X pins σ Q w s := ⟨z, H, I, rw', q⟩
  by_cases h0 : 0 ≤ i
  · have hj : i.toNat = j := by
      rw [seqIndex_of h0 h5] at h1
      exact Option.some.inj h1
    exact wpAny_getItem_list pl.isList h0 (by omega) (by rw [hj]; simpa using ew) fin
  · have hj : (i + (its.toArray.size : Int)).toNat = j := by
      rw [seqIndex_neg (by omega) h4] at h1
      rw [List.size_toArray, ← hl]
      exact Option.some.inj h1
    exact wpAny_getItem_list_neg pl.isList (by omega) (by rw [List.size_toArray] <;> omega) (by omega) (by rw [hj]; simpa using ew) fin
/-! ### min(xs, default=d), xs a list of whole numbers -/
theorem minOf_int : ∀ (ys : List Int) (y : Int), PySem.W.minOf y ys ∈ y :: ys ∧ ∀ z ∈ y :: ys, PySem.W.minOf y ys ≤ z
  | [], y => ⟨List.mem_singleton.mpr rfl, fun z hz => by rw [List.mem_singleton.mp hz]; exact Int.le_refl _⟩
  | x :: r, y => by
    have e : PySem.W.minOf y (x :: r) = PySem.W.minOf (if x < y then x else y) r := by
      show PySem.W.minOf (if (decide (x < y)) = true then x else y) r = _
      by_cases h : x < y <;> simp [h]
    obtain ⟨h1, h2⟩ := minOf_int r (if x < y then x else y)
    rw [e]
    refine ⟨?_, fun z hz => ?_⟩
    · rcases List.mem_cons.mp h1 with k | k
      · rw [k]
        by_cases h : x < y <;> simp [h]
      · simp [k]
    · have hc := h2 _ (List.mem_cons_self)
      rcases List.mem_cons.mp hz with k | k
      · subst k
        by_cases h : x < z
        · rw [if_pos h] at hc ⊢
          omega
        · rw [if_neg h] at hc ⊢
          exact hc
      · rcases List.mem_cons.mp k with k | k
        · subst k
          by_cases h : z < y
          · rw [if_pos h] at hc ⊢
            exact hc
          · rw [if_neg h] at hc ⊢
            omega
        · exact h2 z (List.mem_cons_of_mem _ k)
def rMinD (K : PySem.W.Frag) : List V → List V → Hp → VK → Prop := fun vs zs H Q => ∃ (p : Addr) (d : V) (ns : List Int), vs = [.ref p] ∧ zs = [d] ∧ SqL K H p (ns.map V.int) ∧
  (ns = [] → Q d H) ∧ ∀ m, m ∈ ns → (∀ y ∈ ns, m ≤ y) → Q (.int m) H
def tMinD (K : PySem.W.Frag) (ta td : TE) : TE := tCKw (rMinD K) (tCons ta tNil) (tCons td tNil)
theorem dp_ints {K : PySem.W.Frag} {H : Hp} : ∀ ns : List Int, DpAll K H (ns.map V.int) (ns.map PyData.int)
  | [] => .nil
  | n :: r => .cons (.int n) (dp_ints r)
theorem cr_minD (hc : X.calm = true) (hu : X.A.units + 64 < cLine) : CallRK X (.builtin "min") [Str.ofString "default"] (rMinD X.K) := by
  intro pins s σ H vs zs us ws Q I r rz h
  obtain ⟨p, d, ns, rfl, rfl, hs, q0, q1⟩ := h
  obtain ⟨w, rfl, rw'⟩ := vals1 rz
  obtain ⟨its, rv, hl, _⟩ := I.list hs
  rw [Vals.ref1 r]
  obtain ⟨as, ra⟩ := Dp.readsAll I (ns.map PyData.int) _ its (dp_ints ns) rv
  have HA : PySem.W.HoldAll s.heap its.toArray.toList ns := ⟨as, ra⟩
  refine PySem.W.min_list_datum_default (I.ok.hd hc) hl.isList HA (by show X.A.units + 1 + PySem.W.Datum.depth Int < cLine; have e : PySem.W.Datum.depth Int = 0 := rfl; rw [e]; omega) (fun e h' tk hk => ⟨d, H, I.kept hk, rw', q0 e⟩) fun y ys i v h' tk e hi hv hk => ?_
  subst e
  obtain ⟨as2, r2⟩ := hv
  have hi' : its[i]? = some v := by simpa using hi
  have hlen := rv.length
  have hlt : i < ((y :: ys).map V.int).length := by rw [hlen]; exact (List.getElem?_eq_some_iff.mp hi').1
  obtain ⟨u, hu1, hu2⟩ := rv.get (List.getElem?_eq_getElem hlt)
  rw [hi'] at hu1
  cases hu1
  obtain ⟨z, hz, ez⟩ := item_of0 (List.getElem?_eq_getElem hlt)
  rw [ez] at hu2
  obtain ⟨t, rfl⟩ := hu2
  have em : PySem.W.minOf y ys = z := by
    have r2' : Reads h' (.int z t) (.int (PySem.W.minOf y ys)) as2 := r2
    cases r2'
    rfl
  obtain ⟨m1, m2⟩ := minOf_int ys y
  rw [em] at m1 m2
  exact ⟨.int z, H, I.kept hk, ⟨_, rfl⟩, q1 z m1 m2⟩
theorem pe_minD {p pos kpos : Pos} {e d : Expr} {ta td : TE} (hc : X.calm = true) (hu : X.A.units + 64 < cLine) (hg : Gl X "min") (hm : X.mg "min" = none) (ha : PE X e ta) (hd : PE X d td)
    (he : backTo pos (starEach (e :: []) X.env) = (false, eval e X.env) :: backTo pos (starEach [] X.env) := by rfl) (hse : starEach (e :: []) X.env = (false, eval e X.env) :: starEach [] X.env := by rfl) (hpl : (backTo pos (starEach (e :: []) X.env)).any (·.1) = false := by rfl)
    (hall : (backToKw pos (keywordEach [⟨some (Str.ofString "default"), d, kpos⟩] X.env)).all (·.1.isSome) = true := by rfl) (hnone : (backToKw pos (keywordEach [⟨some (Str.ofString "default"), d, kpos⟩] X.env)).any (·.1.isNone) = false := by rfl)
    (hks : (backToKw pos (keywordEach [⟨some (Str.ofString "default"), d, kpos⟩] X.env)).filterMap (·.1) = [Str.ofString "default"] := by rfl) :
    PE X (.Call (.Name "min" p) [e] [⟨some (Str.ofString "default"), d, kpos⟩] pos) (tMinD X.K ta td) :=
  pe_callBK (cr_minD hc hu) hg hm (by decide +kernel) (pa_cons ha pa_nil hse) (pk_cons hd pk_nil) (by decide) (by decide) he hpl hall hnone hks
end
/-! ### == and != of data -/
def rEqT (K : PySem.W.Frag) : R2 := fun x y H Q => ∃ (α : Type) (_ : DecidableEq α) (_ : PySem.W.Datum α) (a b : α), Dp K H x (PySem.W.Datum.toD a) ∧ Dp K H y (PySem.W.Datum.toD b) ∧ PySem.W.Datum.depth α ≤ 64 ∧ Q (.bl (decide (a = b))) H
def rNeT (K : PySem.W.Frag) : R2 := fun x y H Q => ∃ (α : Type) (_ : DecidableEq α) (_ : PySem.W.Datum α) (a b : α), Dp K H x (PySem.W.Datum.toD a) ∧ Dp K H y (PySem.W.Datum.toD b) ∧ PySem.W.Datum.depth α ≤ 64 ∧ Q (.bl (decide (a ≠ b))) H
section
variable {X : Cx}
theorem op_eqT (hu : X.A.units + 64 < cLine) : OpR X (compareOp .Eq) (rEqT X.K) := by
  intro pins s σ H x y v u Q I rx ry h
  obtain ⟨α, d1, d2, a, b, ha, hb, hd, q⟩ := h
  exact PySem.W.eq_datum (Dp.reads I _ x v ha rx) (Dp.reads I _ y u hb ry) (by omega) ⟨.bl _, H, I, rfl, q⟩
theorem op_neT (hu : X.A.units + 64 < cLine) : OpR X (compareOp .NotEq) (rNeT X.K) := by
  intro pins s σ H x y v u Q I rx ry h
  obtain ⟨α, d1, d2, a, b, ha, hb, hd, q⟩ := h
  exact PySem.W.ne_datum (Dp.reads I _ x v ha rx) (Dp.reads I _ y u hb ry) (by omega) ⟨.bl _, H, I, rfl, q⟩
end
theorem eqT_of {K : PySem.W.Frag} {x y : V} {H : Hp} {Q : VK} {α : Type} [DecidableEq α] [PySem.W.Datum α] {a b : α} (ha : Dp K H x (PySem.W.Datum.toD a)) (hb : Dp K H y (PySem.W.Datum.toD b)) (hd : PySem.W.Datum.depth α ≤ 64) (q : Q (.bl (decide (a = b))) H) : rEqT K x y H Q := ⟨α, _, _, a, b, ha, hb, hd, q⟩
theorem neT_of {K : PySem.W.Frag} {x y : V} {H : Hp} {Q : VK} {α : Type} [DecidableEq α] [PySem.W.Datum α] {a b : α} (ha : Dp K H x (PySem.W.Datum.toD a)) (hb : Dp K H y (PySem.W.Datum.toD b)) (hd : PySem.W.Datum.depth α ≤ 64) (q : Q (.bl (decide (a ≠ b))) H) : rNeT K x y H Q := ⟨α, _, _, a, b, ha, hb, hd, q⟩
theorem ho_ints {K : PySem.W.Frag} {H : Hp} {p : Addr} {ns : List Int} (h : SqL K H p (ns.map V.int)) : Dp K H (.ref p) (PySem.W.Datum.toD ns) := .lst h (dp_ints ns)
/-! ### heaps -/
theorem same_new {H : Hp} {p : Addr} {o : HO} (h : H p = none) : Same H (upd H p o) := fun b x e => by
  rw [upd_ne (ne_of_none e h)]
  exact e
/-- what stood ahead of an object's making stands behind a store into it -/
theorem _root_.L2.Same.store {H H' : Hp} {p : Addr} {o : HO} (s : Same H H') (h : H p = none) : Same H (upd H' p o) := fun b x e => by
  rw [upd_ne (ne_of_none e h)]
  exact s b x e
theorem _root_.L2.Same.seqT {K : PySem.W.Frag} {H H' : Hp} {a : Addr} {xs : List V} (e : Same H H') (h : SqT K H a xs) : SqT K H' a xs := by
  rcases h with (h | ⟨o, h⟩) | h
  · exact .inl (.inl (e _ _ h))
  · exact .inl (.inr ⟨o, e _ _ h⟩)
  · exact .inr h
theorem _root_.L2.Same.seqA {K : PySem.W.Frag} {H H' : Hp} {a : Addr} {xs : List V} (e : Same H H') (h : SqA K H a xs) : SqA K H' a xs := h.elim (fun h => .inl (e.seq h)) (fun h => .inr (e.seqT h))
theorem sqL_of {K : PySem.W.Frag} {H : Hp} {a : Addr} {xs : List V} (h : H a = some (.lst xs)) : SqL K H a xs := .inl (.inl h)
theorem sqT_of {K : PySem.W.Frag} {H : Hp} {a : Addr} {xs : List V} (h : H a = some (.tup xs)) : SqT K H a xs := .inl (.inl h)
/-! ### loops and comprehensions in short -/
theorem for_seq {K : PySem.W.Frag} {a : Addr} {xs : List V} {tl : TE} {g : TG} {tb : TS} {D : Ends} {σ : L2.St} {H0 H : Hp} (ht : ∀ Q : VK, Q (.ref a) H → tl σ H Q) (hA : SqA K H0 a xs) (Pv : Nat → L2.St → Hp → Prop) (h0 : Pv 0 σ H) (hl : ∀ i σ H', Pv i σ H' → Same H0 H')
    (hs : ∀ i x σ H, xs[i]? = some x → Pv i σ H → g x σ H fun σ2 H2 => tb { D with nx := Pv (i + 1), ct := Pv (i + 1), bk := D.nx } σ2 H2) (hd : ∀ σ H, Pv xs.length σ H → D.nx σ H) : tFor (iSeq K tl) g tb D σ H := by
  rcases hA with h | h
  · exact .inl (ht _ ⟨a, rfl, ⟨_, (hl _ _ _ h0).seq h⟩, for_list (K := K) (a := a) Pv h0 (fun i σ H' _ p => (hl i σ H' p).seq h) hs hd⟩)
  · exact .inr (ht _ ⟨a, rfl, ⟨_, (hl _ _ _ h0).seqT h⟩, for_tup (K := K) (a := a) Pv h0 (fun i σ H' _ p => (hl i σ H' p).seqT h) hs hd⟩)
theorem take_more {α : Type} : ∀ {l : List α} {i : Nat} {x : α}, l[i]? = some x → l.take (i + 1) = l.take i ++ [x] := fun {l i x} h => by
  rw [List.take_add_one, h]
  rfl
theorem item_of {ns : List Int} {i : Nat} {y : V} (hi : (ns.map V.int)[i]? = some y) : ∃ z, ns[i]? = some z ∧ y = V.int z := by
  rw [List.getElem?_map] at hi
  cases e : ns[i]? with
  | none => rw [e] at hi; cases hi
  | some z => rw [e] at hi; exact ⟨z, rfl, (Option.some.inj hi).symm⟩
/-- a comprehension over anything that gives n values it 0, it 1 .. and leaves what is tracked; p the test, f the element -/
theorem lc_pure {J : It} {n : Nat} {G : Hp → Prop} {tt : TT} {te : TE} {g : TG} {vs : List Nat} {σ : L2.St} {H1 : Hp} {Qd : Addr → Hp → Prop} {Y : Nat → Hp → V → Hp → Prop} {α : Type} (w : Walk J n G Y) (hn : n < sizeLine) (xs : List α) (hx : xs.length = n) (p : α → Bool) (f : α → V) (hG : ∀ H', Same H1 H' → G H')
    (hs : ∀ i (x : α) (v : V) (H H' : Hp) (R : Bool → V → Hp → Prop), xs[i]? = some x → Same H1 H → Y i H v H' → (∀ y H'', Same H H'' → (p x = true → y = f x) → R (p x) y H'') →
      g v (wipe σ vs) H' fun σ2 H2 => wipe σ2 vs = wipe σ vs ∧ tt σ2 H2 fun b H3 => if b = true then te σ2 H3 fun y H4 => R true y H4 else R false .non H3)
    (hQ : ∀ D H', H1 D = none → Same H1 H' → H' D = some (.lst ((xs.filter p).map f)) → Qd D H') :
    ∀ D, H1 D = none → ∃ W : Nat → Nat → Hp → Prop, (∃ m, W 0 m (upd H1 D (.lst []))) ∧ ∀ i m H, W i m H →
      (J.stop i H ∧ Qd D H) ∨ (J.go i H ∧ ∃ Nx : Hp → Prop, (∀ H', Nx H' → ∃ m', m' < m ∧ W (i + 1) m' H') ∧ ∀ x H', J.yld i H x H' → g x (wipe σ vs) H' fun σ2 H2 => wipe σ2 vs = wipe σ vs ∧ tt σ2 H2 fun b H3 =>
        if b = true then te σ2 H3 fun y H4 => ∃ acc, H4 D = some (.lst acc) ∧ acc.length < sizeLine ∧ Nx (upd H4 D (.lst (acc ++ [y]))) else Nx H3) := by
  intro D hD
  refine lc_it w (fun i H => Same H1 H ∧ H D = some (.lst (((xs.take i).filter p).map f))) ⟨same_new hD, upd_same⟩ (fun i H _ h => hG H h.1) ?_ ?_
  · intro i v H H' hi ⟨s, e⟩ y
    have hi' : i < xs.length := by omega
    have hx' : xs[i]? = some xs[i] := List.getElem?_eq_getElem hi'
    have fin := hs i xs[i] v H H' (fun b y H4 => if b = true then ∃ acc, H4 D = some (.lst acc) ∧ acc.length < sizeLine ∧ (Same H1 (upd H4 D (.lst (acc ++ [y]))) ∧ (upd H4 D (.lst (acc ++ [y]))) D = some (.lst (((xs.take (i + 1)).filter p).map f))) else Same H1 H4 ∧ H4 D = some (.lst (((xs.take (i + 1)).filter p).map f))) hx' s y ?_
    · exact fin
    · intro y H4 s4 hy
      have e4 := s4 _ _ e
      rw [take_more hx', List.filter_append, List.map_append]
      cases hp : p xs[i] with
      | true =>
        rw [if_pos rfl]
        refine ⟨_, e4, ?_, (s.trans s4).store hD, ?_⟩
        · rw [List.length_map]
          refine Nat.lt_of_le_of_lt (List.length_filter_le _ _) (Nat.lt_of_le_of_lt (List.length_take_le _ _) ?_)
          omega
        · rw [upd_same, hy hp]
          simp [List.filter, hp]
      | false =>
        rw [if_neg Bool.false_ne_true]
        refine ⟨s.trans s4, ?_⟩
        rw [e4]
        simp [List.filter, hp]
  · intro H ⟨s, e⟩
    rw [← hx, List.take_length] at e
    exact hQ D H hD s e

/-! ### what is a number, a quay, wishes -/
def isInt : V → Bool
  | .int _ => true
  | _ => false
def inB (lo hi : Int) : V → Bool
  | .int i => decide (lo ≤ i) && decide (i ≤ hi)
  | _ => false
def goodW (n : Nat) (xs : List V) : Bool := decide (xs.length ≤ 400) && xs.all (inB 1 n)
/-- what a check of a quay and of wishes for it comes to: R behind a good one -/
def ChkQ (K : PySem.W.Frag) (a : Ad) (b : V) (H : Hp) (E : XK) (R : Nat → Prop) : Prop := ∃ T, TyB K H b T ∧ ((inB 1 400 b = false ∧ E (.ref a.e_NoQuay) none H) ∨ ∃ n : Nat, b = .int n ∧ 1 ≤ n ∧ n ≤ 400 ∧ R n)
def ChkW (K : PySem.W.Frag) (a : Ad) (b w : V) (H : Hp) (E : XK) (R : Nat → List Int → Addr → Prop) : Prop := ChkQ K a b H E fun n =>
  (∃ T, TyB K H w T ∧ T ≠ "list" ∧ T ≠ "tuple" ∧ E (.ref a.e_NoWishes) none H) ∨
  ∃ p xs, w = .ref p ∧ SqA K H p xs ∧ (∀ x ∈ xs, ∃ T, TyB K H x T) ∧ ((goodW n xs = false ∧ E (.ref a.e_NoWishes) none H) ∨
    ∃ ws : List Int, xs = ws.map V.int ∧ ws.length ≤ 400 ∧ (∀ x ∈ ws, 1 ≤ x ∧ x ≤ n) ∧ R n ws p)
theorem ChkQ.imp {K : PySem.W.Frag} {a : Ad} {b : V} {H : Hp} {E : XK} {R R' : Nat → Prop} (h : ChkQ K a b H E R) (k : ∀ n : Nat, b = .int n → 1 ≤ n → n ≤ 400 → R n → R' n) : ChkQ K a b H E R' := by
  obtain ⟨T, ty, h | ⟨n, e, h1, h2, r⟩⟩ := h
  · exact ⟨T, ty, .inl h⟩
  · exact ⟨T, ty, .inr ⟨n, e, h1, h2, k n e h1 h2 r⟩⟩
theorem ChkW.imp {K : PySem.W.Frag} {a : Ad} {b w : V} {H : Hp} {E : XK} {R R' : Nat → List Int → Addr → Prop} (h : ChkW K a b w H E R)
    (k : ∀ (n : Nat) (ws : List Int) (p : Addr), b = .int n → w = .ref p → 1 ≤ n → n ≤ 400 → SqA K H p (ws.map V.int) → ws.length ≤ 400 → (∀ x ∈ ws, 1 ≤ x ∧ x ≤ n) → R n ws p → R' n ws p) : ChkW K a b w H E R' := by
  refine ChkQ.imp h fun n e h1 h2 r => ?_
  rcases r with r | ⟨p, xs, ew, hs, ht, r | ⟨ws, ex, hl, hb, r⟩⟩
  · exact .inl r
  · exact .inr ⟨p, xs, ew, hs, ht, .inl r⟩
  · exact .inr ⟨p, xs, ew, hs, ht, .inr ⟨ws, ex, hl, hb, k n ws p e ew h1 h2 (ex ▸ hs) hl hb r⟩⟩
/-- a check that is passed -/
theorem ChkQ.ok {K : PySem.W.Frag} {a : Ad} {H : Hp} {E : XK} {R : Nat → Prop} {n : Nat} (h1 : 1 ≤ n) (h2 : n ≤ 400) (r : R n) : ChkQ K a (.int n) H E R := ⟨_, .int _, .inr ⟨n, rfl, h1, h2, r⟩⟩
theorem ChkW.ok {K : PySem.W.Frag} {a : Ad} {H : Hp} {E : XK} {R : Nat → List Int → Addr → Prop} {n : Nat} {ws : List Int} {p : Addr} (h1 : 1 ≤ n) (h2 : n ≤ 400) (hs : SqA K H p (ws.map V.int)) (hl : ws.length ≤ 400) (hb : ∀ x ∈ ws, 1 ≤ x ∧ x ≤ n) (r : R n ws p) : ChkW K a (.int n) (.ref p) H E R :=
  ChkQ.ok h1 h2 (.inr ⟨p, _, rfl, hs, fun x hx => by
    obtain ⟨i, _, rfl⟩ := List.mem_map.mp hx
    exact ⟨_, .int i⟩, .inr ⟨ws, rfl, hl, hb, r⟩⟩)
theorem goodW_ints {n : Nat} {ws : List Int} : goodW n (ws.map V.int) = true ↔ ws.length ≤ 400 ∧ ∀ x ∈ ws, 1 ≤ x ∧ x ≤ n := by
  unfold goodW
  simp [inB]
theorem inB_int {lo hi : Int} {v : V} (h : inB lo hi v = true) : ∃ i, v = .int i ∧ lo ≤ i ∧ i ≤ hi := by
  cases v with
  | int i =>
    simp only [inB, Bool.and_eq_true, decide_eq_true_eq] at h
    exact ⟨i, rfl, h⟩
  | _ => cases h
theorem goodW_of {n : Nat} {xs : List V} (h : goodW n xs = true) : ∃ ws : List Int, xs = ws.map V.int ∧ ws.length ≤ 400 ∧ ∀ x ∈ ws, 1 ≤ x ∧ x ≤ n := by
  unfold goodW at h
  simp only [Bool.and_eq_true, decide_eq_true_eq, List.all_eq_true] at h
  obtain ⟨h1, h2⟩ := h
  have e : ∃ ws : List Int, xs = ws.map V.int := by
    clear h1
    induction xs with
    | nil => exact ⟨[], rfl⟩
    | cons x r ih =>
      obtain ⟨ws, e⟩ := ih fun y hy => h2 y (List.mem_cons_of_mem _ hy)
      obtain ⟨i, ei, _⟩ := inB_int (h2 x List.mem_cons_self)
      exact ⟨i :: ws, by rw [ei, e]; rfl⟩
  obtain ⟨ws, rfl⟩ := e
  refine ⟨ws, rfl, by simpa using h1, fun x hx => ?_⟩
  obtain ⟨i, ei, h3, h4⟩ := inB_int (h2 (.int x) (List.mem_map_of_mem hx))
  cases ei
  exact ⟨h3, h4⟩
theorem tyb_int {K : PySem.W.Frag} {H : Hp} {x : V} {T : String} (h : TyB K H x T) : decide (T = "int") = isInt x := by
  cases h <;> first | rfl | decide
theorem tyb_ref {K : PySem.W.Frag} {H : Hp} {x : V} {T : String} (h : TyB K H x T) (e : T = "list" ∨ T = "tuple") : ∃ p xs, x = .ref p ∧ SqA K H p xs := by
  cases h with
  | lst h => exact ⟨_, _, rfl, .inl h⟩
  | tup h => exact ⟨_, _, rfl, .inr h⟩
  | non => rcases e with e | e <;> exact absurd e (by decide)
  | bl => rcases e with e | e <;> exact absurd e (by decide)
  | int => rcases e with e | e <;> exact absurd e (by decide)
  | str => rcases e with e | e <;> exact absurd e (by decide)
  | byt => rcases e with e | e <;> exact absurd e (by decide)
  | dK => rcases e with e | e <;> exact absurd e (by decide)
theorem SqA.ty {K : PySem.W.Frag} {H : Hp} {p : Addr} {xs : List V} (h : SqA K H p xs) : ∃ T, TyB K H (.ref p) T ∧ (decide (T = "list") || decide (T = "tuple")) = true := by
  rcases h with h | h
  · exact ⟨_, .lst h, by decide⟩
  · exact ⟨_, .tup h, by decide⟩
/-! is_number, is_from_to, is_row -/
def sp_is_number (K : PySem.W.Frag) (a : Ad) : Sp := fun vs H Q _ => ∃ x T, vs = [x] ∧ TyB K H x T ∧ Q (.bl (isInt x)) H
abbrev N_is_number : List Str := ["thing"]
def t_is_number (K : PySem.W.Frag) (a : Ad) : TS :=
  (tRet (tOp rIsTyB (tCB (rTyp K) (tCons (tVar 0) tNil)) (tC (.ty "int"))))
theorem len_is_number {K : PySem.W.Frag} {a : Ad} {vs : List V} {H : Hp} {Q : VK} {E : XK} (h : sp_is_number K a vs H Q E) : vs.length = 1 := by
  obtain ⟨x, T, rfl, _⟩ := h
  rfl
theorem pu_is_number {K : PySem.W.Frag} {a : Ad} {vs : List V} {H : Hp} {Q : VK} {E : XK} (h : sp_is_number K a vs H Q E) : t_is_number K a { nx := fun _ H' => Q .non H', rt := Q } (start N_is_number vs) H := by
  obtain ⟨x, T, rfl, ty, q⟩ := h
  refine ⟨x, rfl, x, T, rfl, ty, _, _, rfl, rfl, ?_⟩
  rw [tyb_int ty]
  exact q
def sp_is_from_to (K : PySem.W.Frag) (a : Ad) : Sp := fun vs H Q _ => ∃ lo hi x T, vs = [.int lo, .int hi, x] ∧ TyB K H x T ∧ Q (.bl (inB lo hi x)) H
abbrev N_is_from_to : List Str := ["low", "high", "thing"]
def t_is_from_to (K : PySem.W.Frag) (a : Ad) : TS :=
  (tRet (tAndV (tCall (sp_is_number K a) [] E0 (tCons (tVar 2) tNil)) (tChain rLeI rLeI (tVar 0) (tVar 2) (tVar 1))))
theorem len_is_from_to {K : PySem.W.Frag} {a : Ad} {vs : List V} {H : Hp} {Q : VK} {E : XK} (h : sp_is_from_to K a vs H Q E) : vs.length = 3 := by
  obtain ⟨lo, hi, x, T, rfl, _⟩ := h
  rfl
theorem pu_is_from_to {K : PySem.W.Frag} {a : Ad} {vs : List V} {H : Hp} {Q : VK} {E : XK} (h : sp_is_from_to K a vs H Q E) : t_is_from_to K a { nx := fun _ H' => Q .non H', rt := Q } (start N_is_from_to vs) H := by
  obtain ⟨lo, hi, x, T, rfl, ty, q⟩ := h
  refine ⟨x, rfl, x, T, rfl, ty, isInt x, rfl, ?_⟩
  cases x with
  | int i =>
    refine iteT ⟨_, rfl, _, rfl, lo, i, rfl, rfl, _, rfl, ?_⟩
    by_cases h1 : lo ≤ i
    · rw [decide_eq_true h1]
      refine iteT ⟨_, rfl, i, hi, rfl, rfl, ?_⟩
      have e : inB lo hi (.int i) = decide (i ≤ hi) := by simp [inB, h1]
      rw [e] at q
      exact q
    · rw [decide_eq_false h1]
      have e : inB lo hi (.int i) = false := by simp [inB, h1]
      rw [e] at q
      exact iteF q
  | _ => exact iteF q
def sp_is_row (K : PySem.W.Frag) (a : Ad) : Sp := fun vs H Q _ => ∃ x T, vs = [x] ∧ TyB K H x T ∧ Q (.bl (decide (T = "list") || decide (T = "tuple"))) H
abbrev N_is_row : List Str := ["thing"]
def t_is_row (K : PySem.W.Frag) (a : Ad) : TS :=
  (tRet (tOrV (tOp rIsTyB (tCB (rTyp K) (tCons (tVar 0) tNil)) (tC (.ty "list"))) (tOp rIsTyB (tCB (rTyp K) (tCons (tVar 0) tNil)) (tC (.ty "tuple")))))
theorem len_is_row {K : PySem.W.Frag} {a : Ad} {vs : List V} {H : Hp} {Q : VK} {E : XK} (h : sp_is_row K a vs H Q E) : vs.length = 1 := by
  obtain ⟨x, T, rfl, _⟩ := h
  rfl
theorem pu_is_row {K : PySem.W.Frag} {a : Ad} {vs : List V} {H : Hp} {Q : VK} {E : XK} (h : sp_is_row K a vs H Q E) : t_is_row K a { nx := fun _ H' => Q .non H', rt := Q } (start N_is_row vs) H := by
  obtain ⟨x, T, rfl, ty, q⟩ := h
  refine ⟨x, rfl, x, T, rfl, ty, _, _, rfl, rfl, _, rfl, ?_⟩
  by_cases h1 : T = "list"
  · rw [decide_eq_true h1] at q ⊢
    exact iteT q
  · rw [decide_eq_false h1] at q ⊢
    exact iteF ⟨x, rfl, x, T, rfl, ty, _, _, rfl, rfl, q⟩
/-! check_quay, check_wishes -/
def sp_check_quay (K : PySem.W.Frag) (a : Ad) : Sp := fun vs H Q E => ∃ b, vs = [b] ∧ ChkQ K a b H E fun _ => Q .non H
abbrev N_check_quay : List Str := ["berths"]
def t_check_quay (K : PySem.W.Frag) (a : Ad) (E : XK) : TS :=
  (tIfS (tNot (tB (tCall (sp_is_from_to K a) [] E0 (tCons (tC (.int 1)) (tCons (tC (.int 400)) (tCons (tVar 0) tNil)))))) (tRaise a.e_NoQuay E) tNext)
theorem len_check_quay {K : PySem.W.Frag} {a : Ad} {vs : List V} {H : Hp} {Q : VK} {E : XK} (h : sp_check_quay K a vs H Q E) : vs.length = 1 := by
  obtain ⟨b, rfl, _⟩ := h
  rfl
theorem pu_check_quay {K : PySem.W.Frag} {a : Ad} {vs : List V} {H : Hp} {Q : VK} {E : XK} (h : sp_check_quay K a vs H Q E) : t_check_quay K a E { nx := fun _ H' => Q .non H', rt := Q } (start N_check_quay vs) H := by
  obtain ⟨b, rfl, T, ty, h⟩ := h
  refine ⟨b, rfl, 1, 400, b, T, rfl, ty, inB 1 400 b, rfl, ?_⟩
  rcases h with ⟨e, q⟩ | ⟨n, rfl, h1, h2, q⟩
  · rw [e]
    exact iteT q
  · have e : inB 1 400 (.int n) = true := by simp [inB]; omega
    rw [e]
    exact iteF q
def sp_check_wishes (K : PySem.W.Frag) (a : Ad) : Sp := fun vs H Q E => ∃ b w, vs = [b, w] ∧ ChkW K a b w H E fun _ _ _ => Q .non H
abbrev N_check_wishes : List Str := ["berths", "wishes", "wish"]
def t_check_wishes (K : PySem.W.Frag) (a : Ad) (E : XK) : TS :=
  (tSeq (tDrop (tCall (sp_check_quay K a) [] E (tCons (tVar 0) tNil)))
    (tSeq (tIfS (tNot (tB (tCall (sp_is_row K a) [] E0 (tCons (tVar 1) tNil)))) (tRaise a.e_NoWishes E) tNext)
    (tSeq (tIfS (tTest (tOp rGtI (tCB (rLenSq K) (tCons (tVar 1) tNil)) (tC (.int 400)))) (tRaise a.e_NoWishes E) tNext)
    (tFor (iSeq K (tVar 1)) (gName 2)
    (tIfS (tNot (tB (tCall (sp_is_from_to K a) [] E0 (tCons (tC (.int 1)) (tCons (tVar 0) (tCons (tVar 2) tNil)))))) (tRaise a.e_NoWishes E) tNext)))))
theorem len_check_wishes {K : PySem.W.Frag} {a : Ad} {vs : List V} {H : Hp} {Q : VK} {E : XK} (h : sp_check_wishes K a vs H Q E) : vs.length = 2 := by
  obtain ⟨b, w, rfl, _⟩ := h
  rfl
theorem pu_check_wishes {K : PySem.W.Frag} {a : Ad} {vs : List V} {H : Hp} {Q : VK} {E : XK} (h : sp_check_wishes K a vs H Q E) : t_check_wishes K a E { nx := fun _ H' => Q .non H', rt := Q } (start N_check_wishes vs) H := by
  obtain ⟨b, w, rfl, h⟩ := h
  refine ⟨b, rfl, b, rfl, ChkQ.imp h fun n e h1 h2 r => ?_⟩
  rcases r with ⟨T, ty, n1, n2, q⟩ | ⟨p, xs, rfl, hs, ht, r⟩
  · refine ⟨w, rfl, w, T, rfl, ty, _, rfl, ?_⟩
    rw [decide_eq_false n1, decide_eq_false n2]
    exact iteT q
  · obtain ⟨T, ty, eT⟩ := hs.ty
    refine ⟨.ref p, rfl, .ref p, T, rfl, ty, _, rfl, ?_⟩
    rw [eT]
    refine iteF ⟨.ref p, rfl, p, xs, rfl, hs, _, _, rfl, rfl, _, rfl, ?_⟩
    have done : (goodW n xs = false → E (.ref a.e_NoWishes) none H) ∧ (goodW n xs = true → Q .non H) := by
      rcases r with ⟨g, q⟩ | ⟨ws, ex, hl, hb, q⟩
      · exact ⟨fun _ => q, fun g' => by rw [g] at g'; cases g'⟩
      · have g : goodW n xs = true := by rw [ex]; exact goodW_ints.mpr ⟨hl, hb⟩
        exact ⟨fun g' => (by rw [g] at g'; cases g'), fun _ => q⟩
    by_cases hl : xs.length ≤ 400
    · rw [decide_eq_false (show ¬ ((400 : Int) < (xs.length : Int)) by omega)]
      refine iteF (for_seq (K := K) (H0 := H) (fun Q q => ⟨.ref p, rfl, q⟩) hs (fun i σ H' => H' = H ∧ (xs.take i).all (inB 1 n) = true ∧ ∃ y, σ = [some b, some (.ref p), y]) ⟨rfl, rfl, none, rfl⟩ (fun i σ H' e => by rw [e.1]; exact Same.refl H) ?_ ?_)
      · rintro i x σ H' hx ⟨rfl, ha, y, rfl⟩
        obtain ⟨T, ty⟩ := ht x (List.mem_of_getElem? hx)
        refine ⟨b, rfl, x, rfl, 1, n, x, T, by rw [e] <;> rfl, ty, inB 1 n x, rfl, ?_⟩
        cases g : inB 1 n x with
        | true => exact iteF ⟨rfl, by rw [take_more hx, List.all_append, ha]; simp [g], some x, rfl⟩
        | false =>
          refine iteT (done.1 ?_)
          unfold goodW
          have : xs.all (inB 1 n) = false := by
            cases z : xs.all (inB 1 n) with
            | false => rfl
            | true =>
              rw [List.all_eq_true] at z
              rw [z x (List.mem_of_getElem? hx)] at g
              cases g
          rw [this, Bool.and_false]
      · rintro σ H' ⟨rfl, ha, y, rfl⟩
        rw [List.take_length] at ha
        refine done.2 ?_
        unfold goodW
        rw [ha, decide_eq_true hl]
        rfl
    · rw [decide_eq_true (show (400 : Int) < (xs.length : Int) by omega)]
      refine iteT (done.1 ?_)
      unfold goodW
      rw [decide_eq_false hl]
      rfl

/-! ### the straight quay: the mathematics of laying -/
/-- the first free one of k berths from w on -/
def ffr (occ : Int → Bool) : Nat → Int → Option Int
  | 0, _ => none
  | k + 1, w => if occ w = true then ffr occ k (w + 1) else some w
def ffree (n : Nat) (occ : Int → Bool) (w : Int) : Option Int := ffr occ ((n : Int) + 1 - w).toNat w
def setO (occ : Int → Bool) (b : Int) : Int → Bool := fun x => decide (x = b) || occ x
def pstep (n : Nat) (s : (Int → Bool) × List (Option Int)) (w : Int) : (Int → Bool) × List (Option Int) :=
  match ffree n s.1 w with
  | none => (s.1, s.2 ++ [none])
  | some b => (setO s.1 b, s.2 ++ [some b])
def prun (n : Nat) (ws : List Int) : (Int → Bool) × List (Option Int) := ws.foldl (pstep n) (fun _ => false, [])
def placedL (n : Nat) (ws : List Int) : List (Option Int) := (prun n ws).2
def vO : Option Int → V
  | none => .non
  | some b => .int b
def heldL (n : Nat) (occ : Int → Bool) : List V := (List.range (n + 1)).map fun (i : Nat) => V.bl (occ (i : Int))
theorem ffr_spec {occ : Int → Bool} : ∀ (k : Nat) (w : Int), (∀ b, ffr occ k w = some b → w ≤ b ∧ b < w + k ∧ occ b = false ∧ ∀ x, w ≤ x → x < b → occ x = true) ∧ (ffr occ k w = none → ∀ x, w ≤ x → x < w + k → occ x = true)
  | 0, w => ⟨fun b h => (by cases h), fun _ x h1 h2 => by omega⟩
  | k + 1, w => by
    obtain ⟨i1, i2⟩ := ffr_spec (occ := occ) k (w + 1)
    unfold ffr
    cases e : occ w with
    | true =>
      rw [if_pos rfl]
      refine ⟨fun b h => ?_, fun h x h1 h2 => ?_⟩
      · obtain ⟨j1, j2, j3, j4⟩ := i1 b h
        refine ⟨by omega, by omega, j3, fun x h1 h2 => ?_⟩
        by_cases z : x = w
        · rw [z]; exact e
        · exact j4 x (by omega) h2
      · by_cases z : x = w
        · rw [z]; exact e
        · exact i2 h x (by omega) (by omega)
    | false =>
      rw [if_neg Bool.false_ne_true]
      refine ⟨fun b h => ?_, fun h => (by cases h)⟩
      cases h
      exact ⟨Int.le_refl _, by omega, e, fun x h1 h2 => by omega⟩
theorem ffree_some {n : Nat} {occ : Int → Bool} {w b : Int} (h : ffree n occ w = some b) : w ≤ b ∧ b ≤ n ∧ occ b = false ∧ ∀ x, w ≤ x → x < b → occ x = true := by
  obtain ⟨h1, h2, h3, h4⟩ := (ffr_spec _ _).1 b h
  exact ⟨h1, by omega, h3, h4⟩
theorem ffree_none {n : Nat} {occ : Int → Bool} {w : Int} (h : ffree n occ w = none) : ∀ x, w ≤ x → x ≤ n → occ x = true := fun x h1 h2 => (ffr_spec _ _).2 h x h1 (by omega)
theorem prun_more {n : Nat} {ws : List Int} {i : Nat} {w : Int} (h : ws[i]? = some w) : prun n (ws.take (i + 1)) = pstep n (prun n (ws.take i)) w := by
  unfold prun
  rw [take_more h, List.foldl_append]
  rfl
theorem prun_snoc {n : Nat} {ws : List Int} {w : Int} : prun n (ws ++ [w]) = pstep n (prun n ws) w := by
  unfold prun
  rw [List.foldl_append]
  rfl
theorem pstep_len {n : Nat} {s : (Int → Bool) × List (Option Int)} {w : Int} : (pstep n s w).2.length = s.2.length + 1 := by
  unfold pstep
  cases ffree n s.1 w <;> simp
theorem snoc_ind {α : Type} {p : List α → Prop} (h0 : p []) (h1 : ∀ l x, p l → p (l ++ [x])) : ∀ l, p l := fun l => by
  have : ∀ n, ∀ l : List α, l.length = n → p l := by
    intro n
    induction n with
    | zero => intro l h; rw [List.length_eq_zero_iff.mp h]; exact h0
    | succ n ih =>
      intro l h
      have hne : l ≠ [] := fun z => by rw [z] at h; cases h
      rw [← List.dropLast_concat_getLast hne]
      exact h1 _ _ (ih _ (by rw [List.length_dropLast, h]; rfl))
  exact this _ l rfl
theorem prun_len {n : Nat} : ∀ ws : List Int, (prun n ws).2.length = ws.length := snoc_ind rfl fun ws w ih => by
  rw [prun_snoc, pstep_len, ih]
  simp
theorem placedL_len {n : Nat} {ws : List Int} : (placedL n ws).length = ws.length := prun_len ws
theorem heldL_at {n : Nat} {occ : Int → Bool} {i : Nat} (h : i ≤ n) : (heldL n occ)[i]? = some (.bl (occ (i : Int))) := by
  unfold heldL
  rw [List.getElem?_map, List.getElem?_range (by omega)]
  rfl
theorem heldL_len {n : Nat} {occ : Int → Bool} : (heldL n occ).length = n + 1 := by simp [heldL]
theorem heldL_set {n : Nat} {occ : Int → Bool} {b : Int} (h0 : 0 ≤ b) (h : b ≤ n) : (heldL n occ).set b.toNat (.bl true) = heldL n (setO occ b) := by
  apply List.ext_getElem?
  intro i
  by_cases hi : i ≤ n
  · rw [heldL_at hi]
    by_cases e : i = b.toNat
    · subst e
      rw [List.getElem?_set_self (by rw [heldL_len]; omega)]
      have : ((b.toNat : Nat) : Int) = b := by omega
      simp [setO, this]
    · rw [List.getElem?_set_ne (Ne.symm e), heldL_at hi]
      have : ¬ ((i : Nat) : Int) = b := by omega
      simp [setO, this]
  · rw [List.getElem?_eq_none (show ((heldL n occ).set b.toNat (V.bl true)).length ≤ i by rw [List.length_set, heldL_len]; omega), List.getElem?_eq_none (show (heldL n (setO occ b)).length ≤ i by rw [heldL_len]; omega)]
theorem heldL_new {n : Nat} : (List.replicate (n + 1) [V.bl false]).flatten = heldL n (fun _ => false) := by
  apply List.ext_getElem?
  intro i
  have e : (List.replicate (n + 1) [V.bl false]).flatten = List.replicate (n + 1) (V.bl false) := by
    generalize n + 1 = m
    induction m with
    | zero => rfl
    | succ m ih => rw [List.replicate_succ, List.replicate_succ, List.flatten_cons, ih]; rfl
  rw [e]
  by_cases hi : i ≤ n
  · rw [heldL_at hi, List.getElem?_replicate_of_lt (by omega)]
  · rw [List.getElem?_eq_none (show (List.replicate (n + 1) (V.bl false)).length ≤ i by rw [List.length_replicate]; omega), List.getElem?_eq_none (show (heldL n fun _ => false).length ≤ i by rw [heldL_len]; omega)]
theorem l1000 {n : Nat} (h : n ≤ 1000) : n ≤ sizeLine := Nat.le_of_lt (small1000 h)
/-! ### first_free -/
def sp_first_free (K : PySem.W.Frag) (a : Ad) : Sp := fun vs H Q _ => ∃ (h : Addr) (n : Nat) (occ : Int → Bool) (w : Int), vs = [.ref h, .int w] ∧ SqL K H h (heldL n occ) ∧ n ≤ 900 ∧ 0 ≤ w ∧ w ≤ 1000 ∧ Q (vO (ffree n occ w)) H
abbrev N_first_free : List Str := ["held", "wish", "berth"]
def t_first_free (K : PySem.W.Frag) (a : Ad) : TS :=
  (tSeq (tFor (iRng2 (tCons (tVar 1) (tCons (tCB (rLenSq K) (tCons (tVar 0) tNil)) tNil))) (gName 2)
    (tIfS (tNot (tB (tOp (rIxL K) (tVar 0) (tVar 2)))) (tRet (tVar 2)) tNext))
    (tRet (tC .non)))
theorem len_first_free {K : PySem.W.Frag} {a : Ad} {vs : List V} {H : Hp} {Q : VK} {E : XK} (h : sp_first_free K a vs H Q E) : vs.length = 2 := by
  obtain ⟨h, n, occ, w, rfl, _⟩ := h
  rfl
theorem pu_first_free {K : PySem.W.Frag} {a : Ad} {vs : List V} {H : Hp} {Q : VK} {E : XK} (h : sp_first_free K a vs H Q E) : t_first_free K a { nx := fun _ H' => Q .non H', rt := Q } (start N_first_free vs) H := by
  obtain ⟨h, n, occ, w, rfl, hs, hn, h0, hw, q⟩ := h
  refine ⟨.int w, rfl, .ref h, rfl, h, _, rfl, .inl hs, w, ((heldL n occ).length : Nat), rfl, ?_, ?_⟩
  · rw [heldL_len]
    omega
  rw [heldL_len]
  have en : (((n + 1 : Nat) : Int) - w).toNat = ((n : Int) + 1 - w).toNat := by omega
  rw [en]
  refine for_range (fun i σ H' => H' = H ∧ ffree n occ w = ffr occ (((n : Int) + 1 - w).toNat - i) (w + i) ∧ ∃ y, σ = [some (.ref h), some (.int w), y]) ⟨rfl, by simp [ffree], none, rfl⟩ ?_ ?_
  · rintro i σ H' hi ⟨rfl, e, y, rfl⟩
    have hx : (heldL n occ)[(w + i).toNat]? = some (.bl (occ (w + i))) := by
      rw [heldL_at (by omega)]
      have : (((w + i).toNat : Nat) : Int) = w + i := by omega
      rw [this]
    refine ⟨.ref h, rfl, .int (w + i), rfl, h, _, _, .bl (occ (w + i)), rfl, rfl, hs, at_of (by omega) hx, occ (w + i), rfl, ?_⟩
    have e2 : ((n : Int) + 1 - w).toNat - i = (((n : Int) + 1 - w).toNat - (i + 1)) + 1 := by omega
    rw [e2] at e
    unfold ffr at e
    cases o : occ (w + i) with
    | true =>
      rw [o, if_pos rfl] at e
      refine iteF ⟨rfl, ?_, some (.int (w + i)), rfl⟩
      rw [e]
      congr 1
      omega
    | false =>
      rw [o, if_neg Bool.false_ne_true] at e
      refine iteT ⟨.int (w + i), rfl, ?_⟩
      rw [e] at q
      exact q
  · rintro σ H' ⟨rfl, e, y, rfl⟩
    rw [Nat.sub_self] at e
    rw [e] at q
    exact q
/-! ### placed -/
def sp_placed (K : PySem.W.Frag) (a : Ad) : Sp := fun vs H Q E => ∃ b w, vs = [b, w] ∧ ChkW K a b w H E fun n ws _ => ∀ (l : Addr) (H' : Hp), H l = none → Same H H' → H' l = some (.lst ((placedL n ws).map vO)) → Q (.ref l) H'
abbrev N_placed : List Str := ["berths", "wishes", "held", "found", "wish", "berth"]
def t_placed (K : PySem.W.Frag) (a : Ad) (E : XK) : TS :=
  (tSeq (tDrop (tCall (sp_check_wishes K a) [] E (tCons (tVar 0) (tCons (tVar 1) tNil))))
    (tSeq (tAsg (tOp rRep (tLst (tCons (tC (.bl false)) tNil)) (tOp rAddI (tVar 0) (tC (.int 1)))) (gName 2))
    (tSeq (tAsg (tLst tNil) (gName 3))
    (tSeq (tFor (iSeq K (tVar 1)) (gName 4)
    (tSeq (tAsg (tCall (sp_first_free K a) [] E0 (tCons (tVar 2) (tCons (tVar 4) tNil))) (gName 5))
    (tSeq (tIfS (tB (tNotN (tVar 5))) (tAsg (tC (.bl true)) (gSub (tVar 2) (tVar 5) rSetL)) tNext)
    (tDrop (tBM K "list" rAppend (tVar 3) (tCons (tVar 5) tNil))))))
    (tRet (tVar 3))))))
theorem len_placed {K : PySem.W.Frag} {a : Ad} {vs : List V} {H : Hp} {Q : VK} {E : XK} (h : sp_placed K a vs H Q E) : vs.length = 2 := by
  obtain ⟨b, w, rfl, _⟩ := h
  rfl
theorem pu_placed {K : PySem.W.Frag} {a : Ad} {vs : List V} {H : Hp} {Q : VK} {E : XK} (h : sp_placed K a vs H Q E) : t_placed K a E { nx := fun _ H' => Q .non H', rt := Q } (start N_placed vs) H := by
  obtain ⟨b, w, rfl, h⟩ := h
  refine ⟨b, rfl, w, rfl, b, w, rfl, ChkW.imp h fun n ws p eb ew h1 h2 hs hl hb q => ?_⟩
  subst eb
  subst ew
  -- held = [False] * (berths + 1)
  refine ⟨by decide, fun l0 nl0 => ⟨.int n, rfl, n, 1, rfl, rfl, l0, _, _, rfl, rfl, upd_same, by omega, by omega, ?_, fun l1 nl1 => ?_⟩⟩
  · refine l1000 ?_
    show 1 * _ ≤ _
    omega
  have e1 : ((n : Int) + 1).toNat = n + 1 := by omega
  rw [e1, heldL_new]
  have s0 : Same H (upd H l0 (.lst [.bl false])) := same_new nl0
  have n1 : H l1 = none := s0.free nl1
  have s1 := s0.store n1 (o := .lst (heldL n fun _ => false))
  -- found = []
  refine ⟨Nat.zero_le _, fun l2 nl2 => ?_⟩
  have n2 : H l2 = none := s1.free nl2
  have hne : l1 ≠ l2 := ne_of_none upd_same nl2
  refine for_seq (K := K) (H0 := H) (fun Q q => ⟨.ref p, rfl, q⟩) hs (fun i σ H' => (∃ y z, σ = [some (.int n), some (.ref p), some (.ref l1), some (.ref l2), y, z]) ∧ Same H H' ∧ H' l1 = some (.lst (heldL n (prun n (ws.take i)).1)) ∧ H' l2 = some (.lst ((prun n (ws.take i)).2.map vO))) ⟨⟨none, none, rfl⟩, s1.store n2, by rw [upd_ne hne]; exact upd_same, upd_same⟩ (fun i σ H' h => h.2.1) ?_ ?_
  · rintro i x σ H' hx ⟨⟨y, z, rfl⟩, s, eh, ef⟩
    obtain ⟨w, hw, rfl⟩ := item_of hx
    have bw := hb w (List.mem_of_getElem? hw)
    refine ⟨.ref l1, rfl, .int w, rfl, l1, n, _, w, rfl, .inl (.inl eh), by omega, by omega, by omega, ?_⟩
    have step := prun_more (n := n) hw
    have fl : (prun n (ws.take i)).2.length < sizeLine := by
      rw [prun_len, List.length_take]
      exact small1000 (by omega)
    cases e : ffree n (prun n (ws.take i)).1 w with
    | none =>
      have step' : prun n (ws.take (i + 1)) = ((prun n (ws.take i)).1, (prun n (ws.take i)).2 ++ [none]) := by rw [step]; simp only [pstep, e]
      refine ⟨.non, rfl, false, rfl, iteF ⟨.ref l2, rfl, .inl ⟨rfl, _, .inl (.inl ef)⟩, .non, rfl, l2, _, _, rfl, rfl, ef, by rw [List.length_map]; exact fl, ?_⟩⟩
      refine ⟨⟨_, _, rfl⟩, s.store n2, ?_, ?_⟩
      · rw [upd_ne hne, step']
        exact eh
      · rw [upd_same, step', List.map_append]
        rfl
    | some b =>
      have step' : prun n (ws.take (i + 1)) = (setO (prun n (ws.take i)).1 b, (prun n (ws.take i)).2 ++ [some b]) := by rw [step]; simp only [pstep, e]
      obtain ⟨b1, b2, _⟩ := ffree_some e
      refine ⟨.int b, rfl, true, rfl, iteT ⟨.ref l1, rfl, .int b, rfl, l1, _, b, b.toNat, rfl, rfl, eh, ?_, ?_⟩⟩
      · unfold ixN
        rw [if_pos (by omega), heldL_len, if_pos (by omega)]
      rw [heldL_set (by omega) b2]
      have ef' : (upd H' l1 (.lst (heldL n (setO (prun n (ws.take i)).1 b)))) l2 = some (.lst ((prun n (ws.take i)).2.map vO)) := by rw [upd_ne hne.symm]; exact ef
      refine ⟨.ref l2, rfl, .inl ⟨rfl, _, .inl (.inl ef')⟩, .int b, rfl, l2, _, _, rfl, rfl, ef', by rw [List.length_map]; exact fl, ?_⟩
      refine ⟨⟨_, _, rfl⟩, (s.store n1).store n2, ?_, ?_⟩
      · rw [upd_ne hne, upd_same, step']
      · rw [upd_same, step', List.map_append]
        rfl
  · rintro σ H' ⟨⟨y, z, rfl⟩, s, eh, ef⟩
    rw [List.length_map, List.take_length] at ef
    exact ⟨.ref l2, rfl, q l2 H' n2 s ef⟩

/-! ### taken, gone_on -/
def somes (l : List (Option Int)) : List Int := l.filterMap id
def sortI (l : List Int) : List Int := l.mergeSort fun x y => decide (x ≤ y)
theorem sortI_perm (l : List Int) : (sortI l).Perm l := List.mergeSort_perm l _
theorem sortI_sorted (l : List Int) : (sortI l).Pairwise (· ≤ ·) := by
  have h := List.pairwise_mergeSort (le := fun (x y : Int) => decide (x ≤ y)) (fun a b c h1 h2 => by simp only [decide_eq_true_eq] at *; omega) (fun a b => by simp only [Bool.or_eq_true, decide_eq_true_eq]; omega) l
  exact List.Pairwise.imp (fun h => of_decide_eq_true h) h
theorem sortI_uniq {l l' : List Int} (hp : l'.Perm l) (hs : l'.Pairwise (· ≤ ·)) : l' = sortI l := PySem.W.ksm_same (hp.trans (sortI_perm l).symm) hs (sortI_sorted l)
def takenL (n : Nat) (ws : List Int) : List Int := sortI (somes (placedL n ws))
/-- of each ship that lies, how far behind its wish -/
def goneL (ws : List Int) (bs : List (Option Int)) : List Int := (ws.zip bs).filterMap fun p => p.2.map fun b => b - p.1
theorem filter_some : ∀ l : List (Option Int), (l.filter Option.isSome).map vO = (somes l).map V.int
  | [] => rfl
  | none :: l => filter_some l
  | some b :: l => congrArg (V.int b :: ·) (filter_some l)
theorem vO_not (o : Option Int) : (!decide (vO o = .non)) = o.isSome := by
  cases o <;> rfl
def sp_taken (K : PySem.W.Frag) (a : Ad) : Sp := fun vs H Q E => ∃ b w, vs = [b, w] ∧ ChkW K a b w H E fun n ws _ => ∀ (l : Addr) (H' : Hp), H l = none → Same H H' → H' l = some (.lst ((takenL n ws).map V.int)) → Q (.ref l) H'
abbrev N_taken : List Str := ["berths", "wishes", "berth"]
def t_taken (K : PySem.W.Frag) (a : Ad) (E : XK) : TS :=
  (tRet (tCB (rSortedI K) (tCons (tLc (iList K (tCall (sp_placed K a) [] E (tCons (tVar 0) (tCons (tVar 1) tNil)))) (gName 2) (tB (tNotN (tVar 2))) (tVar 2) [2]) tNil)))
theorem len_taken {K : PySem.W.Frag} {a : Ad} {vs : List V} {H : Hp} {Q : VK} {E : XK} (h : sp_taken K a vs H Q E) : vs.length = 2 := by
  obtain ⟨b, w, rfl, _⟩ := h
  rfl
theorem pu_taken {K : PySem.W.Frag} {a : Ad} {vs : List V} {H : Hp} {Q : VK} {E : XK} (h : sp_taken K a vs H Q E) : t_taken K a E { nx := fun _ H' => Q .non H', rt := Q } (start N_taken vs) H := by
  obtain ⟨b, w, rfl, h⟩ := h
  refine ⟨b, rfl, w, rfl, b, w, rfl, ChkW.imp h fun n ws p eb ew h1 h2 hs hl hb q => ?_⟩
  intro l H1 nl s el
  have sl : (placedL n ws).length < sizeLine := by rw [placedL_len]; exact small1000 (by omega)
  refine ⟨l, rfl, ⟨_, sqL_of el⟩, lc_pure (walk_list (K := K) (a := l) (xs := (placedL n ws).map vO)) (by rw [List.length_map]; exact sl) (placedL n ws) (by rw [List.length_map]) Option.isSome vO (fun H' s' => s'.seq (sqL_of el)) ?_ ?_⟩
  · intro i x v H2 H3 R hx s2 hy k
    obtain ⟨rfl, hv⟩ := hy
    rw [List.getElem?_map, hx] at hv
    cases hv
    refine ⟨rfl, vO x, rfl, x.isSome, by rw [vO_not], ?_⟩
    have kk := k (vO x) _ (Same.refl _) fun _ => rfl
    cases e : x.isSome with
    | true =>
      rw [e] at kk
      exact iteT ⟨vO x, rfl, kk⟩
    | false =>
      refine iteF ?_
      have kk := k .non _ (Same.refl _) fun z => by rw [e] at z; cases z
      rw [e] at kk
      exact kk
  · intro D H2 nD s2 eD
    rw [filter_some] at eD
    refine ⟨D, _, rfl, sqL_of eD, fun ns' p' hp hs' np => ?_⟩
    rw [sortI_uniq hp hs']
    have s3 := s.trans s2
    exact q p' _ (s3.free np) (s3.trans (same_new np)) upd_same
def sp_gone_on (K : PySem.W.Frag) (a : Ad) : Sp := fun vs H Q E => ∃ b w, vs = [b, w] ∧ ChkW K a b w H E fun n ws p => SqL K H p (ws.map V.int) ∧ ∀ (H' : Hp), Same H H' → Q (.int (goneL ws (placedL n ws)).sum) H'
abbrev N_gone_on : List Str := ["berths", "wishes", "found", "wish", "berth"]
def t_gone_on (K : PySem.W.Frag) (a : Ad) (E : XK) : TS :=
  (tSeq (tAsg (tCall (sp_placed K a) [] E (tCons (tVar 0) (tCons (tVar 1) tNil))) (gName 2))
    (tRet (tCB (rSum K) (tCons (tLc (iZip K (tCons (tVar 1) (tCons (tVar 2) tNil))) (gTup K 2 (gCons (gName 3) (gCons (gName 4) gNil))) (tB (tNotN (tVar 4))) (tOp rSubI (tVar 4) (tVar 3)) [3, 4]) tNil))))
theorem len_gone_on {K : PySem.W.Frag} {a : Ad} {vs : List V} {H : Hp} {Q : VK} {E : XK} (h : sp_gone_on K a vs H Q E) : vs.length = 2 := by
  obtain ⟨b, w, rfl, _⟩ := h
  rfl
theorem zip_gone : ∀ (ws : List Int) (bs : List (Option Int)), ((ws.zip bs).filter fun p => p.2.isSome).map (fun p => V.int ((p.2.getD 0) - p.1)) = (goneL ws bs).map V.int
  | [], _ => by simp [goneL]
  | _ :: _, [] => by simp [goneL]
  | w :: ws, none :: bs => by
    have ih := zip_gone ws bs
    simp only [List.zip_cons_cons, goneL] at ih ⊢
    simpa using ih
  | w :: ws, some b :: bs => by
    have ih := zip_gone ws bs
    simp only [List.zip_cons_cons, goneL] at ih ⊢
    simpa using ih
theorem zip_at {ws : List Int} {bs : List (Option Int)} {i : Nat} {x : Int × Option Int} (h : (ws.zip bs)[i]? = some x) : ws[i]? = some x.1 ∧ bs[i]? = some x.2 := by
  rw [List.getElem?_zip_eq_some] at h
  exact h
theorem pu_gone_on {K : PySem.W.Frag} {a : Ad} {vs : List V} {H : Hp} {Q : VK} {E : XK} (h : sp_gone_on K a vs H Q E) : t_gone_on K a E { nx := fun _ H' => Q .non H', rt := Q } (start N_gone_on vs) H := by
  obtain ⟨b, w, rfl, h⟩ := h
  refine ⟨b, rfl, w, rfl, b, w, rfl, ChkW.imp h fun n ws p eb ew h1 h2 hs hl hb q => ?_⟩
  obtain ⟨hL, q⟩ := q
  intro l H1 nl s el
  have sl : (placedL n ws).length < sizeLine := by rw [placedL_len]; exact small1000 (by omega)
  have hz : min (ws.map V.int).length ((placedL n ws).map vO).length = ws.length := by
    rw [List.length_map, List.length_map, placedL_len]
    exact Nat.min_self _
  refine ⟨w, rfl, .ref l, rfl, p, l, _, _, by rw [ew], s.seq hL, sqL_of el, lc_pure (walk_zip (K := K) (a := p) (b := l) (xs := ws.map V.int) (ys := (placedL n ws).map vO) rfl) (by rw [hz]; exact small1000 (by omega)) (ws.zip (placedL n ws)) (by rw [hz, List.length_zip, placedL_len]; exact Nat.min_self _) (fun x => x.2.isSome) (fun x => V.int ((x.2.getD 0) - x.1)) (fun H' s' => ⟨(s.trans s').seq hL, s'.seq (sqL_of el)⟩) ?_ ?_⟩
  · intro i x v H2 H3 R hx s2 hy k
    obtain ⟨T, u1, u2, rfl, nT, rfl, e1, e2⟩ := hy
    obtain ⟨x1, x2⟩ := zip_at hx
    replace e1 : (ws.map V.int)[i]? = some u1 := e1
    replace e2 : ((placedL n ws).map vO)[i]? = some u2 := e2
    rw [List.getElem?_map, x1] at e1
    rw [List.getElem?_map, x2] at e2
    cases e1
    cases e2
    refine ⟨T, _, rfl, sqT_of upd_same, rfl, _, _, rfl, _, _, rfl, rfl, rfl, vO x.2, rfl, x.2.isSome, by rw [vO_not], ?_⟩
    obtain ⟨xa, xb⟩ := x
    cases xb with
    | some y =>
      exact iteT ⟨.int y, rfl, .int xa, rfl, y, xa, rfl, rfl, k (.int (y - xa)) _ (same_new nT) fun _ => rfl⟩
    | none =>
      exact iteF (k .non _ (same_new nT) fun z => by cases z)
  · intro D H2 nD s2 eD
    rw [zip_gone] at eD
    exact ⟨D, _, rfl, sqL_of eD, q H2 (s.trans s2)⟩

/-! ### tuple * k, k of nought and one, too; tuple(range(a, b, -1)), list(range(a, b, -1)) -/
theorem tuple_mulS (l : Addr) (items : Array Value) (n : Nat) (dd : Option Addr) (sl : Array (Option Value)) (u : Tok) :
    Meets (Builtin.«tuple.__mul__» ⟨[.ref l, .int 1 u], []⟩) (fun _ R s => s.heap.get? l = some { cls := .type "tuple", dict := dd, data := .seq items n, slots := sl } ∧ R (.ok (.ret (.ref l))) s) :=
  .of_wp fun prog w A R s h => by
    obtain ⟨hp, g, d, tk, os⟩ := s
    obtain ⟨hl, h⟩ := h
    have f1 := AutoSeq1.idx_int
    wp_walk using wpAny_loadPart' hl
    repeat (first
      | (refine wpAny_ite_false (by decide) ?_; wp_walk using wpAny_loadPart' hl)
      | (refine wpAny_ite_true (by simp) ?_; wp_walk using wpAny_loadPart' hl))
    exact ⟨_, rfl, h⟩
theorem tuple_mulZ (l : Addr) (items : Array Value) (n : Nat) (dd : Option Addr) (sl : Array (Option Value)) (x : Int) (u : Tok) (c0 : (decide (x < -(2 ^ 63)) || decide (x ≥ 2 ^ 63)) = false) (c1 : (items.isEmpty || x == 1) = false) (c2 : (decide (x ≤ 0) || items.isEmpty) = true) :
    Meets (Builtin.«tuple.__mul__» ⟨[.ref l, .int x u], []⟩) (fun _ R s => s.heap.get? l = some { cls := .type "tuple", dict := dd, data := .seq items n, slots := sl } ∧
      R (.ok (.ret (Value.ref s.heap.objs.size))) { s with heap := s.heap.push { cls := Value.type "tuple", data := Data.seq #[] }, toks := s.toks }) :=
  .of_wp fun prog w A R s h => by
    obtain ⟨hp, g, d, tk, os⟩ := s
    obtain ⟨hl, h⟩ := h
    have f1 := AutoSeq1.idx_int
    wp_walk using wpAny_loadPart' hl
    repeat (first
      | (refine wpAny_ite_false (decide_eq_false (by rw [c0]; exact Bool.false_ne_true)) ?_; wp_walk using wpAny_loadPart' hl)
      | (refine wpAny_ite_false (decide_eq_false (by rw [c1]; exact Bool.false_ne_true)) ?_; wp_walk using wpAny_loadPart' hl)
      | (refine wpAny_ite_true (decide_eq_true c2) ?_; wp_walk using wpAny_loadPart' hl))
    exact ⟨_, rfl, h⟩
def rRepTA (K : PySem.W.Frag) : R2 := fun x y H Q => ∃ l k xs, x = .ref l ∧ y = .int k ∧ SqT K H l xs ∧ xs ≠ [] ∧ 0 ≤ k ∧ k ≤ 1000 ∧ xs.length ≤ 1000 ∧ (k = 1 → Q (.ref l) H) ∧ (k ≠ 1 → ∀ p, H p = none → Q (.ref p) (upd H p (.tup (List.replicate k.toNat xs).flatten)))
section
variable {X : Cx}
theorem op_repTA : OpR X (binaryOp .Mult) (rRepTA X.K) := by
  intro pins s σ H x y v u Q I rx ry h
  obtain ⟨l, k, xs, rfl, rfl, hT, hne, h1, h2, hz, q1, q2⟩ := h
  by_cases hk : 2 ≤ k
  · exact op_repT pins s σ H _ _ v u Q I rx ry ⟨l, k, xs, rfl, rfl, hT, hne, hk, h2, hz, q2 (by omega)⟩
  cases rx
  obtain ⟨t, rfl⟩ := ry
  obtain ⟨its, r, ⟨⟨cls, dd, data, sl⟩, ho, hc, n, hd⟩, hs⟩ := I.tuple hT
  simp only at hc hd
  subst hc hd
  have hle : its.length = xs.length := r.length.symm
  have hn : its ≠ [] := fun e => hne (by
    rw [e] at hle
    exact List.eq_nil_of_length_eq_zero hle.symm)
  have hi : its.toArray.isEmpty = false := by
    cases its with
    | nil => exact absurd rfl hn
    | cons a b => rfl
  by_cases h1k : k = 1
  · subst h1k
    refine wpAny_binaryOp_repeat_ref (T := "tuple") (U := "int") (by decide) ⟨_, ho, rfl⟩ (fun s' => typeIs_int s' 1 t) noFill_tuple_mul F.fills_int_mul F.slot_int_rmul repeat_tuple F.slot_int_index.lookup
      (call_meets F.slot_int_rmul (typeIs_int s 1 t) F.entry_int_rmul (F.args_int_rmul_2 _ _) (int_rmul_tuple 1 t l its.toArray n dd sl)
        ⟨ho, rfl, ⟨_, ho, rfl⟩, call_meets F.slot_tuple_mul ⟨_, ho, rfl⟩ F.entry_tuple_mul (F.args_tuple_mul_2 _ _) (tuple_mulS l its.toArray n dd sl t) ⟨ho, ?_⟩⟩)
    exact ⟨.ref l, H, I, rfl, q1 rfl⟩
  · have hk0 : k = 0 := by omega
    subst hk0
    have c0 : (decide ((0 : Int) < -(2 ^ 63)) || decide ((0 : Int) ≥ 2 ^ 63)) = false := by decide
    have c1 : (its.toArray.isEmpty || (0 : Int) == 1) = false := by
      rw [hi]
      rfl
    have c2 : (decide ((0 : Int) ≤ 0) || its.toArray.isEmpty) = true := by
      rw [hi]
      rfl
    refine wpAny_binaryOp_repeat_ref (T := "tuple") (U := "int") (by decide) ⟨_, ho, rfl⟩ (fun s' => typeIs_int s' 0 t) noFill_tuple_mul F.fills_int_mul F.slot_int_rmul repeat_tuple F.slot_int_index.lookup
      (call_meets F.slot_int_rmul (typeIs_int s 0 t) F.entry_int_rmul (F.args_int_rmul_2 _ _) (int_rmul_tuple 0 t l its.toArray n dd sl)
        ⟨ho, rfl, ⟨_, ho, rfl⟩, call_meets F.slot_tuple_mul ⟨_, ho, rfl⟩ F.entry_tuple_mul (F.args_tuple_mul_2 _ _) (tuple_mulZ l its.toArray n dd sl 0 t c0 c1 c2) ⟨ho, ?_⟩⟩)
    refine ⟨.ref s.heap.objs.size, _, I.laid (t' := s.toks) (o := .tup []) (fun b ob q => Heap.get?_push_of_some _ q) (Nat.le_refl _) ?_, rfl, q2 h1k _ (I.hok.fresh (Nat.le_refl _))⟩
    exact ⟨Nat.zero_le _, [], .nil, IsTup.new _ _⟩
/-- a, a - 1 .. b + 1 -/
def rgD (a b : Int) : List V := (List.range (a - b).toNat).map fun i => V.int (a - (i : Nat))
theorem rgD_length (a b : Int) : (rgD a b).length = (a - b).toNat := by unfold rgD; rw [List.length_map, List.length_range]
theorem vals_rgD {a b : Int} {acc : Array Value} (h : ItemsOf (fun i v => ∃ t, v = .int (a + i * -1) t) acc (a - b).toNat) : Vals (rgD a b) acc.toList := by
  have e : acc.toList.length = (a - b).toNat := by rw [Array.length_toList]; exact h.1
  unfold rgD
  rw [← e]
  refine vals_of_get acc.toList _ fun j u hj => ?_
  obtain ⟨t, rfl⟩ := h.2 j u (by rw [← hj, Array.getElem?_toList])
  exact ⟨t, by congr 1; omega⟩
/-- an expression that makes a range downwards -/
def PRgD (X : Cx) (e : Expr) (t : L2.St → Hp → (Int → Int → Hp → Prop) → Prop) : Prop :=
  ∀ (pins : List (Addr × Obj)) (s : Shared) (σ : L2.St) (H : Hp) (Q : Int → Int → Hp → Prop), Inv X pins σ H s → t σ H Q →
    wpAny (model X.prog X.w) X.A (eval e X.env) (fun x s' => ∃ r a b t u v H', x = .ref r ∧ IsRange s'.heap r a b (-1) t u v ∧ Inv X pins σ H' s' ∧ Q a b H') X.xe s
def tRg3D (t : TA) : L2.St → Hp → (Int → Int → Hp → Prop) → Prop := fun σ H Q => t σ H fun xs H1 => ∃ i j, xs = [.int i, .int j, .int (-1)] ∧ Q i j H1
theorem prg_3D {e : Expr} {es : List Expr} {t : TA} {p pos : Pos} (hg : Gl X "range") (hm : X.mg "range" = none) (ha : PA X (e :: es) t)
    (he : starEach (e :: es) X.env = (false, eval e X.env) :: starEach es X.env := by rfl) (hpl : (backTo pos (starEach es X.env)).any (·.1) = false := by rfl) : PRgD X (.Call (.Name "range" p) (e :: es) [] pos) (tRg3D t) := by
  intro pins s σ H Q I h
  refine wpAny_Call_Name_kw (ld_blt I hg hm boot_range ?_)
  refine PyProof.Rows.callWith_type1 (thn (ha.run pos pins s σ H _ I h) fun us s1 ⟨vs, H1, I1, r1, q1⟩ => ?_) he hpl
  obtain ⟨i, j, rfl, q⟩ := q1
  obtain ⟨u1, us1, rfl, r2, r3⟩ : ∃ u1 us1, us = u1 :: us1 ∧ RelV (.int i) u1 ∧ Vals [.int j, .int (-1)] us1 := by cases r1 with | cons a b => exact ⟨_, _, rfl, a, b⟩
  obtain ⟨u2, u3, rfl, r4, r5⟩ := vals2 r3
  obtain ⟨t1, rfl⟩ := r2
  obtain ⟨t2, rfl⟩ := r4
  obtain ⟨t3, rfl⟩ := r5
  exact call_range_3 (by decide) ⟨_, i, j, _, _, _, H1, rfl, IsRange.new _ _ _ _ _ _ _, I1.kept fun b u e => Heap.get?_push_of_some _ e, q⟩ (.inl (PyProof.noPylong_small (by decide)))
def tLstRg3 (t : TA) : TE := fun σ H Q => tRg3D t σ H fun a b H1 => RgOk b a ∧ ∀ q, H1 q = none → Q (.ref q) (upd H1 q (.lst (rgD a b)))
def tTupRg3 (t : TA) : TE := fun σ H Q => tRg3D t σ H fun a b H1 => RgOk b a ∧ ∀ q, H1 q = none → Q (.ref q) (upd H1 q (.tup (rgD a b)))
theorem pe_listRg3 {e : Expr} {es : List Expr} {t : TA} {p2 pos2 p pos : Pos} (hc : X.calm = true) (hg : Gl X "list") (hm : X.mg "list" = none) (hg2 : Gl X "range") (hm2 : X.mg "range" = none) (ha : PA X (e :: es) t)
    (he : starEach (e :: es) X.env = (false, eval e X.env) :: starEach es X.env := by rfl) (hpl : (backTo pos2 (starEach es X.env)).any (·.1) = false := by rfl)
    (na : starEach [.Call (.Name "range" p2) (e :: es) [] pos2] X.env = (false, eval (.Call (.Name "range" p2) (e :: es) [] pos2) X.env) :: starEach [] X.env := by rfl) : PE X (.Call (.Name "list" p) [.Call (.Name "range" p2) (e :: es) [] pos2] [] pos) (tLstRg3 t) := by
  refine ⟨fun pins s σ H Q I h => ?_⟩
  refine Call_ (ld_blt I hg hm boot_list (PyProof.Rows.callWith_type1 (args_cons (thn (prg_3D hg2 hm2 ha he hpl pins s σ H _ I h) fun x s1 ⟨r, a, b, t, u, v, H1, ex, hr, I1, ok, q⟩ => args_nil ?_) na) na))
  subst ex
  obtain ⟨b1, b2, b3, b4, b5⟩ := ok
  refine call_list_range (n := (a - b).toNat) (I1.ok.hd hc) hr (PySem.W.small_down b3 b4 b1 b2) (PySem.W.rangeSize_downNat a b) b5 fun h' tk acc c' hk e' hi => ?_
  refine ⟨.ref s1.heap.objs.size, upd H1 s1.heap.objs.size (.lst (rgD a b)), I1.laid hk (Nat.le_refl _) (show ObjOk X.prog X.w _ _ _ (.lst (rgD a b)) from ⟨?_, acc.toList, c', vals_rgD hi, ?_⟩), rfl, q _ (I1.hok.fresh (Nat.le_refl _))⟩
  · rw [rgD_length, sizeLine_eq]; omega
  · rw [Array.toArray_toList]; exact e'
theorem pe_tupRg3 {e : Expr} {es : List Expr} {t : TA} {p2 pos2 p pos : Pos} (hc : X.calm = true) (hg : Gl X "tuple") (hm : X.mg "tuple" = none) (hg2 : Gl X "range") (hm2 : X.mg "range" = none) (ha : PA X (e :: es) t)
    (he : starEach (e :: es) X.env = (false, eval e X.env) :: starEach es X.env := by rfl) (hpl : (backTo pos2 (starEach es X.env)).any (·.1) = false := by rfl)
    (na : starEach [.Call (.Name "range" p2) (e :: es) [] pos2] X.env = (false, eval (.Call (.Name "range" p2) (e :: es) [] pos2) X.env) :: starEach [] X.env := by rfl) : PE X (.Call (.Name "tuple" p) [.Call (.Name "range" p2) (e :: es) [] pos2] [] pos) (tTupRg3 t) := by
  refine ⟨fun pins s σ H Q I h => ?_⟩
  refine Call_ (ld_blt I hg hm boot_tuple (PyProof.Rows.callWith_type1 (args_cons (thn (prg_3D hg2 hm2 ha he hpl pins s σ H _ I h) fun x s1 ⟨r, a, b, t, u, v, H1, ex, hr, I1, ok, q⟩ => args_nil ?_) na) na))
  subst ex
  obtain ⟨b1, b2, b3, b4, b5⟩ := ok
  refine call_tuple_range (n := (a - b).toNat) (I1.ok.hd hc) hr (PySem.W.small_down b3 b4 b1 b2) (PySem.W.rangeSize_downNat a b) b5 fun h' tk acc hk hi => ?_
  have I2 : Inv X pins σ H1 { s1 with heap := h', toks := tk } := I1.kept hk
  refine ⟨.ref h'.objs.size, upd H1 h'.objs.size (.tup (rgD a b)), I2.laid (t' := tk) (fun c o e => Heap.get?_push_of_some _ e) (Nat.le_refl _) (show ObjOk X.prog X.w _ _ _ (.tup (rgD a b)) from ⟨?_, acc.toList, vals_rgD hi, ?_⟩), rfl, q _ (I2.hok.fresh (Nat.le_refl _))⟩
  · rw [rgD_length, sizeLine_eq]; omega
  · rw [Array.toArray_toList]; exact IsTup.new _ _
end

/-! ### list + list, whatever lists -/
theorem list_addW (l : Addr) (items : Array Value) (n : Nat) (dd : Option Addr) (sl : Array (Option Value)) (b : Addr) (items2 : Array Value) (n2 : Nat) (dd2 : Option Addr) (sl2 : Array (Option Value)) (hc0 : items.size + items2.size ≤ sizeLine) :
    Meets (Builtin.«list.__add__» ⟨[.ref l, .ref b], []⟩) (fun _ R s => s.heap.get? l = some { cls := .type "list", dict := dd, data := .seq items n, slots := sl } ∧ s.heap.get? b = some { cls := .type "list", dict := dd2, data := .seq items2 n2, slots := sl2 } ∧
      R (.ok (.ret (Value.ref s.heap.objs.size))) { s with heap := s.heap.push { cls := Value.type "list", data := Data.seq (items ++ items2) }, toks := s.toks }) :=
  .of_wp fun prog w A R s h => by
    obtain ⟨hp, g, d, tk, os⟩ := s
    obtain ⟨hl, hb, h⟩ := h
    have f1 := AutoSeq1.idx_int
    have f2 := AutoSeq1.sub_tuple_tuple
    have f3 := AutoSeq1.sub_list_list
    have f4 := AutoSeq1.sub_tuple_list
    have f5 := AutoSeq1.sub_list_tuple
    wp_walk using wpAny_loadPart' hl, wpAny_loadPart' hb
    exact ⟨_, rfl, h⟩
def rCatS (K : PySem.W.Frag) : R2 := fun x y H Q => ∃ l b xs zs, x = .ref l ∧ y = .ref b ∧ SqL K H l xs ∧ SqL K H b zs ∧ xs.length + zs.length ≤ sizeLine ∧ ∀ p, H p = none → Q (.ref p) (upd H p (.lst (xs ++ zs)))
theorem op_catS {X : Cx} : OpR X (binaryOp .Add) (rCatS X.K) := by
  intro pins s σ H x y v u Q I rx ry h
  obtain ⟨l, b, xs, zs, rfl, rfl, hH, hB, hz, q⟩ := h
  cases rx
  cases ry
  obtain ⟨its, r, ⟨⟨c1, d1, t1, sl1⟩, n, e, g1, g2, g3⟩, z⟩ := I.list hH
  obtain ⟨its2, r2, ⟨⟨c2, d2, t2, sl2⟩, n2, e2, k1, k2, k3⟩, z2⟩ := I.list hB
  simp only at g1 g2 g3 k1 k2 k3
  subst g1 g2 g3 k1 k2 k3
  have h1 := r.length
  have h2 := r2.length
  refine concat_meets ⟨_, e, rfl⟩ ⟨_, e2, rfl⟩ noFill_list_add seq_list_add F.slot_list_add F.entry_list_add (F.args_list_add_2 _ _) (list_addW l its.toArray n none sl1 b its2.toArray n2 none sl2 (by rw [List.size_toArray, List.size_toArray]; omega)) ⟨e, e2, ?_⟩
  have ea : its.toArray ++ its2.toArray = (its ++ its2).toArray := by simp
  rw [ea]
  exact ⟨.ref _, _, I.lnew (t' := s.toks) (r.append r2) (by rw [List.length_append]; omega), rfl, q _ I.fresh⟩

/-! ### sorted, min, max of a tuple of whole numbers; slices, sums of tuples with one answer -/
def rSortedT (K : PySem.W.Frag) : List V → Hp → VK → Prop := fun vs H Q => ∃ (a : Addr) (ns : List Int), vs = [V.ref a] ∧ SqT K H a (ns.map V.int) ∧
  ∀ (ns' : List Int) (p : Addr), ns'.Perm ns → ns'.Pairwise (· ≤ ·) → H p = none → Q (.ref p) (upd H p (.lst (ns'.map V.int)))
def rMinT (K : PySem.W.Frag) : List V → Hp → VK → Prop := fun vs H Q => ∃ (a : Addr) (ns : List Int), vs = [V.ref a] ∧ SqT K H a (ns.map V.int) ∧ 0 < ns.length ∧ ∀ m, m ∈ ns → (∀ y, y ∈ ns → m ≤ y) → Q (.int m) H
def rMaxT (K : PySem.W.Frag) : List V → Hp → VK → Prop := fun vs H Q => ∃ (a : Addr) (ns : List Int), vs = [V.ref a] ∧ SqT K H a (ns.map V.int) ∧ 0 < ns.length ∧ ∀ m, m ∈ ns → (∀ y, y ∈ ns → y ≤ m) → Q (.int m) H
theorem maxOf_int : ∀ (ys : List Int) (y : Int), PySem.W.maxOf y ys ∈ y :: ys ∧ ∀ z ∈ y :: ys, z ≤ PySem.W.maxOf y ys
  | [], y => ⟨List.mem_singleton.mpr rfl, fun z hz => by rw [List.mem_singleton.mp hz]; exact Int.le_refl _⟩
  | x :: r, y => by
    have e : PySem.W.maxOf y (x :: r) = PySem.W.maxOf (if y < x then x else y) r := by
      show PySem.W.maxOf (if (decide (y < x)) = true then x else y) r = _
      by_cases h : y < x <;> simp [h]
    obtain ⟨h1, h2⟩ := maxOf_int r (if y < x then x else y)
    rw [e]
    refine ⟨?_, fun z hz => ?_⟩
    · rcases List.mem_cons.mp h1 with k | k
      · rw [k]
        by_cases h : y < x <;> simp [h]
      · simp [k]
    · have hc := h2 _ (List.mem_cons_self)
      rcases List.mem_cons.mp hz with k | k
      · subst k
        by_cases h : z < x
        · rw [if_pos h] at hc ⊢
          omega
        · rw [if_neg h] at hc ⊢
          exact hc
      · rcases List.mem_cons.mp k with k | k
        · subst k
          by_cases h : y < z
          · rw [if_pos h] at hc ⊢
            exact hc
          · rw [if_neg h] at hc ⊢
            omega
        · exact h2 z (List.mem_cons_of_mem _ k)
section
variable {X : Cx}
theorem cr_sortedT : CallR X (.builtin "sorted") (rSortedT X.K) := by
  intro pins s σ H vs us Q I r h
  obtain ⟨a, ns, rfl, hs, q⟩ := h
  obtain ⟨its, rv, ⟨o, ho, hc, n, hd⟩, hz⟩ := I.tuple hs
  rw [Vals.ref1 r]
  have hi := rv.ints
  have hlen0 : its.length ≤ sizeLine := by rw [← rv.length]; exact hz
  refine Calls.call_function_entry kind_sorted plain_sorted entry_sorted (args_sorted1 _) ?_
  unfold Builtin.«sorted»
  refine wpAny_bind (m := checkCount "sorted" 1 1 _) (wpAny_pure ?_)
  refine wpAny_bind (wpAny_collect_seq a (.inr rfl) ho hc hd (fun h1 k1 => ?_) (by rw [List.size_toArray]; exact hlen0))
  have I1 : Inv X pins σ H { s with heap := h1 } := I.kept (t' := s.toks) k1
  refine wpAny_bind (wpAny_newList ?_ hlen0)
  have hoL : (h1.push (seqObj "list" its.toArray 0)).get? h1.objs.size = some (seqObj "list" its.toArray 0) := Heap.get?_push_size _ rfl
  refine wpAny_bind (wpAny_holding (wpAny_call_entry slot_list_sort ⟨_, hoL, rfl⟩ entry_list_sort (SrtO.list_sort_ord SrtO.swo_int hoL hlen0 (fun h2 => SrtO.ints_sortable hi h2) fun out h3 h4 => ⟨_, rfl, ?_⟩) (args_list_sort _)))
  obtain ⟨j1, j2, j3⟩ := SrtO.ints_out hi h3 h4
  obtain ⟨ep, he'⟩ := PyProof.Rows.sortedHeap_at (vs := its) (out := out.toArray) hoL
  have hlen : ((out.map SrtO.iv).map V.int).length ≤ sizeLine := by
    rw [List.length_map, j2.length_eq]
    rw [List.length_map] at hz
    exact hz
  refine wpAny_pure ⟨_, rfl, ?_⟩
  refine ⟨.ref h1.objs.size, upd H h1.objs.size (.lst ((out.map SrtO.iv).map V.int)), I1.laid (t' := s.toks) (fun b u hb => ?_) (Nat.le_refl _) ⟨hlen, out, ep, vals_of_ints j1, he'⟩, rfl, q _ _ j2 j3 (I1.hok.fresh (Nat.le_refl _))⟩
  have hlt : b < h1.objs.size := Heap.lt_size hb
  rw [PyProof.Rows.sortedHeap_old (Nat.ne_of_lt hlt) (Heap.lt_size (Heap.get?_push_of_some _ hb))]
  exact Heap.get?_push_of_some _ hb
theorem cr_minT (hc : X.calm = true) (hu : X.A.units + 64 < cLine) : CallR X (.builtin "min") (rMinT X.K) := by
  intro pins s σ H vs us Q I r h
  obtain ⟨p, ns, rfl, hs, hne, q⟩ := h
  obtain ⟨its, rv, hl, _⟩ := I.tuple hs
  rw [Vals.ref1 r]
  obtain ⟨as, ra⟩ := Dp.readsAll I (ns.map PyData.int) _ its (dp_ints ns) rv
  cases ns with
  | nil => cases hne
  | cons x xs =>
    have HA : PySem.W.HoldAll s.heap its.toArray.toList (x :: xs) := ⟨as, ra⟩
    refine PySem.W.min_tuple_datum (I.ok.hd hc) hl HA (by show X.A.units + 1 + PySem.W.Datum.depth Int < cLine; have e : PySem.W.Datum.depth Int = 0 := rfl; rw [e]; omega) fun i v h' tk hi hv hk => ?_
    obtain ⟨as2, r2⟩ := hv
    have hi' : its[i]? = some v := by simpa using hi
    have hlen := rv.length
    have hlt : i < ((x :: xs).map V.int).length := by rw [hlen]; exact (List.getElem?_eq_some_iff.mp hi').1
    obtain ⟨u, hu1, hu2⟩ := rv.get (List.getElem?_eq_getElem hlt)
    rw [hi'] at hu1
    cases hu1
    obtain ⟨z, hz, ez⟩ := item_of0 (List.getElem?_eq_getElem hlt)
    rw [ez] at hu2
    obtain ⟨t, rfl⟩ := hu2
    have em : PySem.W.minOf x xs = z := by
      have r2' : Reads h' (.int z t) (.int (PySem.W.minOf x xs)) as2 := r2
      cases r2'
      rfl
    obtain ⟨m1, m2⟩ := minOf_int xs x
    rw [em] at m1 m2
    exact ⟨.int z, H, I.kept hk, ⟨_, rfl⟩, q z m1 m2⟩
theorem cr_maxT (hc : X.calm = true) (hu : X.A.units + 64 < cLine) : CallR X (.builtin "max") (rMaxT X.K) := by
  intro pins s σ H vs us Q I r h
  obtain ⟨p, ns, rfl, hs, hne, q⟩ := h
  obtain ⟨its, rv, hl, _⟩ := I.tuple hs
  rw [Vals.ref1 r]
  obtain ⟨as, ra⟩ := Dp.readsAll I (ns.map PyData.int) _ its (dp_ints ns) rv
  cases ns with
  | nil => cases hne
  | cons x xs =>
    have HA : PySem.W.HoldAll s.heap its.toArray.toList (x :: xs) := ⟨as, ra⟩
    refine PySem.W.max_tuple_datum (I.ok.hd hc) hl HA (by show X.A.units + 1 + PySem.W.Datum.depth Int < cLine; have e : PySem.W.Datum.depth Int = 0 := rfl; rw [e]; omega) fun i v h' tk hi hv hk => ?_
    obtain ⟨as2, r2⟩ := hv
    have hi' : its[i]? = some v := by simpa using hi
    have hlen := rv.length
    have hlt : i < ((x :: xs).map V.int).length := by rw [hlen]; exact (List.getElem?_eq_some_iff.mp hi').1
    obtain ⟨u, hu1, hu2⟩ := rv.get (List.getElem?_eq_getElem hlt)
    rw [hi'] at hu1
    cases hu1
    obtain ⟨z, hz, ez⟩ := item_of0 (List.getElem?_eq_getElem hlt)
    rw [ez] at hu2
    obtain ⟨t, rfl⟩ := hu2
    have em : PySem.W.maxOf x xs = z := by
      have r2' : Reads h' (.int z t) (.int (PySem.W.maxOf x xs)) as2 := r2
      cases r2'
      rfl
    obtain ⟨m1, m2⟩ := maxOf_int xs x
    rw [em] at m1 m2
    exact ⟨.int z, H, I.kept hk, ⟨_, rfl⟩, q z m1 m2⟩
end
/-- t[lo:hi] -/
theorem slA_of {K : PySem.W.Frag} {a : Addr} {xs : List V} {lo hi : Option Int} {H : Hp} {Q : VK} (h : SqT K H a xs) (q : ∀ (l : Addr) (H' : Hp), Same H H' → SqT K H' l (cutV xs lo hi) → Q (.ref l) H') : rSlA K (.ref a) lo hi H Q := by
  refine ⟨a, xs, rfl, h, fun e => q a H (Same.refl _) ?_, fun _ p np => q p _ (same_new np) (sqT_of upd_same)⟩
  have ec : cutV xs lo hi = xs := by
    unfold cutV
    rw [e.1, e.2, List.drop_zero, Nat.sub_zero, List.take_of_length_le (Nat.le_refl _)]
  rw [ec]
  exact h
/-- t + u -/
theorem catA_of {K : PySem.W.Frag} {a b : Addr} {xs ys : List V} {H : Hp} {Q : VK} (ha : SqT K H a xs) (hb : SqT K H b ys) (hz : xs.length + ys.length ≤ 1000) (q : ∀ (l : Addr) (H' : Hp), Same H H' → SqT K H' l (xs ++ ys) → Q (.ref l) H') : rCatA K (.ref a) (.ref b) H Q := by
  refine ⟨a, b, xs, ys, rfl, rfl, ha, hb, Nat.le_of_lt (small1000 hz), fun e => q b H (Same.refl _) ?_, fun _ e => q a H (Same.refl _) ?_, fun _ _ p np => q p _ (same_new np) (sqT_of upd_same)⟩
  · rw [e]
    exact hb
  · rw [e, List.append_nil]
    exact ha
/-- t + u, with u (or t, if u is empty) an own one -/
theorem catX_of {K : PySem.W.Frag} {a b : Addr} {xs ys : List V} {H : Hp} {Q : VK} (ha : SqT K H a xs) (hb : H b = some (.tup ys)) (hne : ys ≠ [] ∨ H a = some (.tup xs)) (hz : xs.length + ys.length ≤ 1000) (q : ∀ (l : Addr) (H' : Hp), Same H H' → H' l = some (.tup (xs ++ ys)) → Q (.ref l) H') : rCatA K (.ref a) (.ref b) H Q := by
  refine ⟨a, b, xs, ys, rfl, rfl, ha, sqT_of hb, Nat.le_of_lt (small1000 hz), fun e => q b H (Same.refl _) ?_, fun _ e => q a H (Same.refl _) ?_, fun _ _ p np => q p _ (same_new np) upd_same⟩
  · rw [e]
    exact hb
  · rcases hne with h | h
    · exact absurd e h
    · rw [e, List.append_nil]
      exact h

/-! ### t[::-1] of a tuple; for over enumerate -/
theorem sliceApplied_rev {prog : Program} {w : World} {A : Around} {E : Value → Shared → Prop} {s : Shared} {sl : Addr} {vl vu vs : Value} {n : Nat} {Q : Int × Int × Nat → Shared → Prop} (hs : s.heap.IsSliceOf sl vl vu vs) (pl : IsPart vl none) (pu : IsPart vu none) (ps : IsPart vs (some (-1)))
    (h : Q ((n : Int) - 1, -1, n) s) : wpAny (model prog w) A (Builtin.Slice.sliceApplied (.ref sl) (pure (n : Int))) Q E s := by
  obtain ⟨os, hos, hcs, hds⟩ := id hs
  unfold Builtin.Slice.sliceApplied Builtin.Slice.sliceFields
  refine wpAny_bind (wpAny_bind (wpAny_field hos hds (x := vl) rfl (wpAny_bind (wpAny_field hos hds (x := vu) rfl (wpAny_bind (wpAny_field hos hds (x := vs) rfl (wpAny_pure ?_)))))))
  refine wpAny_bind (HT.slicePart_ ps ?_)
  show wpAny _ _ (if ((-1 : Int) == 0) = true then _ else _) _ _ s
  rw [if_neg (by decide)]
  refine wpAny_bind (HT.slicePart_ pl (wpAny_bind (HT.slicePart_ pu (wpAny_bind (wpAny_pure ?_)))))
  have e1 : Builtin.Slice.sliceAdjust none none (-1) (n : Int) = ((n : Int) - 1, -1) := rfl
  show wpAny _ _ (match Builtin.Slice.sliceAdjust none none (-1) (n : Int) with | (lo, hi) => pure (lo, (-1 : Int), Builtin.Slice.slicePlaces lo hi (-1))) _ _ s
  rw [e1]
  show wpAny _ _ (pure ((n : Int) - 1, (-1 : Int), Builtin.Slice.slicePlaces ((n : Int) - 1) (-1) (-1))) _ _ s
  have e2 : Builtin.Slice.slicePlaces ((n : Int) - 1) (-1) (-1) = n := by
    unfold Builtin.Slice.slicePlaces
    rw [if_neg (by decide)]
    have e3 : (-(-1) : Int) = 1 := rfl
    rw [e3, Int.ediv_one]
    split <;> omega
  rw [e2]
  exact wpAny_pure h
theorem rev_pick0 (l : List Value) : ∀ k, k ≤ l.length → (List.range k).filterMap (fun (m : Nat) => l[l.length - 1 - m]?) = l.reverse.take k
  | 0, _ => rfl
  | k + 1, h => by
    rw [List.range_succ, List.filterMap_append, rev_pick0 l k (by omega), List.take_add_one, List.getElem?_reverse (by omega)]
    have h1 : l[l.length - 1 - k]? = some (l[l.length - 1 - k]'(by omega)) := List.getElem?_eq_getElem _
    rw [h1]
    congr 1
    simp [List.filterMap_cons, h1]
theorem rev_pick (xs : Array Value) : ((List.range xs.size).filterMap fun (m : Nat) => xs[((xs.size : Int) - 1 + (m : Int) * -1).toNat]?).toArray = xs.toList.reverse.toArray := by
  have e : (fun (m : Nat) => xs[((xs.size : Int) - 1 + (m : Int) * -1).toNat]?) = fun m => xs.toList[xs.size - 1 - m]? := by
    funext m
    rw [show ((xs.size : Int) - 1 + (m : Int) * -1).toNat = xs.size - 1 - m by omega, Array.getElem?_toList]
  rw [e]
  have := rev_pick0 xs.toList xs.toList.length (Nat.le_refl _)
  rw [Array.length_toList] at this
  rw [this, List.take_of_length_le (by rw [List.length_reverse, Array.length_toList]; exact Nat.le_refl _)]
theorem getItem_tuple_rev {prog : Program} {w : World} {A : Around} {E : Value → Shared → Prop} {s : Shared} {t sl : Addr} {items : Array Value} {vl vu vs : Value} {Q : Value → Shared → Prop} (ht : IsTup s.heap t items) (hs : s.heap.IsSliceOf sl vl vu vs) (pl : IsPart vl none) (pu : IsPart vu none) (ps : IsPart vs (some (-1)))
    (h : Q (.ref s.heap.objs.size) { s with heap := s.heap.push { cls := .type "tuple", data := .seq items.toList.reverse.toArray } })
    (hsz : items.size ≤ sizeLine) : wpAny (model prog w) A (getItem (.ref t) (.ref sl)) Q E s := by
  obtain ⟨os, hos, hcs, hds⟩ := id hs
  have hTs : s.TypeIs (.ref sl) "slice" := ⟨os, hos, hcs⟩
  unfold getItem
  try with_reducible refine wpAny_holding ?_
  first | refine wpAny_bind (wpAny_pure ?_) | skip
  refine wpAny_bind (wpAny_sequenceKey ht.typeIs (by decide) ?_)
  refine wpAny_bind (wpAny_callSpecial?_slot (name := Str.ofString "__getitem__") ht.typeIs PyProof.Rows.slot_tuple_getitem
    (wpAny_call_entry PyProof.Rows.slot_tuple_getitem ht.typeIs entry_tuple_getitem ?_ (args_tuple_getitem _ _)))
  show wpAny _ _ (Builtin.Tuple.tupleItemsOf (.ref t) >>= _) _ _ s
  refine wpAny_bind (tupleItemsOf_ ht ?_)
  refine wpAny_bind (wpAny_typeOf hTs ?_)
  rw [if_pos (by decide)]
  refine wpAny_bind (sliceApplied_rev hs pl pu ps ?_)
  show wpAny _ _ (if (((items.size : Int) - 1) == 0 && (-1 : Int) == 1 && items.size == items.size) = true then _ else _) _ _ s
  have hno : ¬ ((((items.size : Int) - 1) == 0 && (-1 : Int) == 1 && items.size == items.size) = true) := by
    intro q
    rw [Bool.and_eq_true, Bool.and_eq_true] at q
    have := q.1.2
    revert this
    decide
  rw [if_neg hno, rev_pick]
  have htake : sizeOk (.seq items.toList.reverse.toArray) := by
    show items.toList.reverse.toArray.size ≤ sizeLine
    rw [List.size_toArray, List.length_reverse, Array.length_toList]
    exact hsz
  first
    | exact wpAny_bind (m := Builtin.Tuple.tupleExact _) (wpAny_newObj_type (wpAny_pure ⟨_, rfl, wpAny_pure h⟩) htake)
    | exact wpAny_bind (m := Builtin.Tuple.tupleExact _) (wpAny_newObj_type (wpAny_bind (wpAny_pure (wpAny_pure ⟨_, rfl, wpAny_pure h⟩))) htake)
    | exact wpAny_bind (wpAny_bind (m := Builtin.Tuple.tupleExact _) (wpAny_newObj_type (wpAny_pure ⟨_, rfl, wpAny_pure h⟩) htake))
def tRevT (K : PySem.W.Frag) (te : TE) : TE := fun σ H Q => te σ H fun x H1 => ∃ a xs, x = .ref a ∧ SqT K H1 a xs ∧ ∀ p, H1 p = none → Q (.ref p) (upd H1 p (.tup xs.reverse))
theorem pe_revT {X : Cx} {e : Expr} {te : TE} {k : Nat} {p1 p2 p3 pos : Pos} (he : PE X e te) : PE X (.Subscript e (.Slice none none (some (.UnaryOp .USub (.Constant (.int 1) k p1) p2)) p3) pos) (tRevT X.K te) := by
  refine ⟨fun pins s σ H Q I h => ?_⟩
  refine Subscript_ (thn (he.run pins s σ H _ I h) fun v s1 ⟨x, H1, I1, r1, q1⟩ => ?_)
  obtain ⟨a, xs, ex, hx, q⟩ := q1
  subst ex
  cases r1
  have hst : PO X (some (.UnaryOp .USub (.Constant (.int 1) k p1) p2)) (tPart (tUn (rU fun i => .int (-i)) (tC (.int 1)))) := po_some (pe_un un_neg pe_int)
  refine wpAny_Slice (thn (po_none.run pins s1 σ H1 (fun o H2 => o = none ∧ H2 = H1) I1 ⟨rfl, rfl⟩) fun vl s2 ⟨l, H2, I2, pl, el, e2⟩ => ?_)
  subst el e2
  refine thn (po_none.run pins s2 σ H2 (fun o H3 => o = none ∧ H3 = H2) I2 ⟨rfl, rfl⟩) fun vu s3 ⟨u, H3, I3, pu, eu, e3⟩ => ?_
  subst eu e3
  refine thn (hst.run pins s3 σ H3 (fun o H4 => o = some (-1) ∧ H4 = H3) I3 ⟨1, rfl, -1, rfl, rfl, rfl⟩) fun vs s4 ⟨o, H4, I4, ps, eo, e4⟩ => ?_
  subst eo e4
  have I5 : Inv X pins σ H4 { s4 with heap := s4.heap.push { cls := .type "slice", data := .fields #[vl, vu, vs] } } := I4.kept (t' := s4.toks) fun b ob q => Heap.get?_push_of_some _ q
  obtain ⟨its, r, ht, hz⟩ := I5.tuple hx
  have hlen := r.length
  show wpAny (model X.prog X.w) X.A (subscriptTail e (.Slice none none (some (.UnaryOp .USub (.Constant (.int 1) k p1) p2)) p3) (.ref a) (.ref s4.heap.objs.size)) (EP X pins σ Q) X.xe { s4 with heap := s4.heap.push { cls := .type "slice", data := .fields #[vl, vu, vs] } }
  refine tail_any (ops := [.ref a, .ref s4.heap.objs.size]) ht.typeIs (PyProof.Rows.slot_tuple_getitem.lookup) ?_ (by with_unfolding_all rfl)
  refine getItem_tuple_rev ht (Heap.IsSliceOf.new _ vl vu vs) pl pu ps ?_ (by rw [List.size_toArray]; omega)
  refine ⟨.ref _, _, I5.laid (t' := s4.toks) (o := .tup xs.reverse) (fun b ob q => Heap.get?_push_of_some _ q) (Nat.le_refl _) ?_, rfl, q _ (I5.hok.fresh (Nat.le_refl _))⟩
  exact ⟨by rw [List.length_reverse]; exact hz, _, r.reverse, IsTup.new _ _⟩

/-! ### try: .. except C as e: kept = e: the caught one stays known by its class -/
def ExK (cls : Value) (d : Option Addr) (a : Addr) : HO := .ext fun h => ∃ (oe : Obj) (vs : Array Value), h.get? a = some oe ∧ Zc cls d oe ∧ oe.data = .fields vs
theorem exK_ok {P : Program} {w : World} {H : Hp} {h : Heap} {a : Addr} {cls : Value} {d : Option Addr} {oe : Obj} {vs : Array Value} (e : h.get? a = some oe) (z : Zc cls d oe) (dd : oe.data = .fields vs) : ObjOk P w H h a (ExK cls d a) :=
  ⟨⟨oe, vs, e, z, dd⟩, ⟨oe, e⟩, fun _ _ ⟨o, v, q, r⟩ k => ⟨o, v, k o q, r⟩⟩
section
variable {X : Cx} {pins : List (Addr × Obj)} {σ : L2.St} {H : Hp} {s : Shared}
/-- a pinned exception that came behind the entry becomes tracked -/
theorem keep_exc {a : Addr} {oe : Obj} {vs : Array Value} {cls : Value} {d : Option Addr} (J : Inv X ((a, oe) :: pins) σ H s) (z : Zc cls d oe) (dd : oe.data = .fields vs) (h0 : X.s_0.heap.get? a = none) (np : ∀ p ∈ X.pn ++ pins, p.1 ≠ a) : Inv X pins σ (upd H a (ExK cls d a)) s := by
  obtain ⟨ea, na, nL, nF, nc⟩ := J.pin (a, oe) (List.mem_append_right _ List.mem_cons_self)
  have ne : ∀ {b : Addr} {o : HO}, H b = some o → b ≠ a := fun e q => by
    rw [q] at e
    have na' : H a = none := na
    rw [na'] at e
    cases e
  refine ⟨J.ok, J.os, J.bare, ⟨J.base.keep, J.base.slot, fun b o e n hx => ?_, J.base.there, fun b xs e => ?_, fun b o u e => ?_, fun b ps e => ?_⟩, J.loc, J.cell, ?_, fun x c e => ?_, fun p hp => ?_, fun b o e => ?_, J.len⟩
  · have hb : b ≠ a := fun q => by
      rw [q, h0] at e
      cases e
    rw [upd_ne hb]
    exact J.base.free b o e n hx
  · have e2 := J.base.tups b xs e
    rw [upd_ne (ne e2)]
    exact e2
  · have e2 := J.base.frzs b o u e
    rw [upd_ne (ne e2)]
    exact e2
  · obtain ⟨more, e2⟩ := J.base.tbls b ps e
    refine ⟨more, ?_⟩
    rw [upd_ne (ne e2)]
    exact e2
  · rw [upd_ne (fun q => nL q.symm)]
    exact J.free
  · have hc : c ≠ a := fun q => by
      obtain ⟨v, o, e1, e2⟩ := J.cell x c e
      rw [q] at e1
      have ea' : s.heap.get? a = some oe := ea
      rw [ea'] at e1
      cases e1
      rw [dd] at e2
      cases e2
    rw [upd_ne hc]
    exact J.freeC x c e
  · have hp' : p ∈ X.pn ++ (a, oe) :: pins := by
      rcases List.mem_append.mp hp with k | k
      · exact List.mem_append_left _ k
      · exact List.mem_append_right _ (List.mem_cons_of_mem _ k)
    obtain ⟨q1, q2, q3, q4, q5⟩ := J.pin p hp'
    exact ⟨q1, by rw [upd_ne (np p hp)]; exact q2, q3, q4, q5⟩
  · by_cases hb : b = a
    · subst hb
      rw [upd_same] at e
      cases e
      exact exK_ok ea z dd
    · rw [upd_ne hb] at e
      refine (J.hok b o e).stay (fun c u _ q => q) (fun c q => ?_) fun c xs q => ?_
      · rw [upd_ne (ne q)]
        exact q
      · rw [upd_ne (ne q)]
        exact q
end
/-- what the clause wishes of an exception of the body: it is caught, kept in slot j; the clause's own name, slot i, is empty behind it -/
def wKeep (K : PySem.W.Frag) (c : Addr) (i j : Nat) (D : Ends) : WX := fun cls d σ H =>
  PySem.W.exmOne K cls (.ref c) = some true ∧ ∀ a, H a = none → D.nx (((σ.set i (some (.ref a))).set j (some (.ref a))).set i none) (upd H a (ExK cls d a))
def tTryKeep (K : PySem.W.Frag) (c : Addr) (i j : Nat) (tb : WX → TS) : TS := fun D σ H => tb (wKeep K c i j D) D σ H
section
variable {X : Cx} {x n : Str} {c : Addr} {i j : Nat} {body suite : List Stmt} {b1 : Stmt} {np pos pos' : Pos} {tb : WX → TS}
/-- an exception caught, its clause ended, it is tracked -/
theorem caught_kept {a : Addr} {pins : List (Addr × Obj)} {σ : L2.St} {H : Hp} {B : Heap} {sI s' : Shared} {cls : Value} {d : Option Addr} {D : Ends}
    (hs : X.stack = X.env :: X.outer) (hf : X.env.frame = some X.env.locals) (hex : X.ex = []) (hN : X.N.Nodup) (hi : X.N[i]? = some n) (hln : X.env.kindOf n = some .local) (hc : Names X x (.ref c)) (ok : X.Ok)
    (hsu : ∀ (a : Addr) (oe : Obj) (cls : Value) (d : Option Addr) (pn : List (Addr × Obj)), Zc cls d oe → (∃ vs, oe.data = .fields vs) → PSs (X.suite a ((a, oe) :: pn)) (b1 :: suite) (tAsg (tVar i) (gName j)))
    (hln2 : i < σ.length)
    (J : Inv X pins σ H sI) (nb : ∀ b o, sI.heap.get? b = some o → b ∉ frs X.stack → B.get? b = some o) (up : sI.heap.UpToSlots s'.heap) (sky : Sky B X.stack a (Zc cls d) X.env.locals s'.heap) (na : H a = none) (os : s'.os = sI.os) (ag : AllBare s'.gens)
    (w : wKeep X.K c i j D cls d σ H) :
    wpAny (model X.prog X.w) X.A (noteFrame (.ref a) X.env) (fun _ s₂ => wpAny (model X.prog X.w) X.A (setFlight (.ref a) none) (fun _ s₃ =>
      wpAny (model X.prog X.w) X.A (handleBy (.ref a) X.env [.ExceptHandler (some (.Name x np)) (some n) (b1 :: suite) pos']) (SP X pins D) X.xe s₃) X.xe s₂) X.xe s' := by
  obtain ⟨hb, hyes⟩ := w
  have frames : X.A.frames = some (X.env :: X.outer) := ok.frames.trans (congrArg some hs)
  have sky2 : Sky B (X.env :: X.outer) a (Zc cls d) X.env.locals s'.heap := hs ▸ sky
  -- the exception stands apart from all that stood
  have hB : B.get? a = none := by
    rcases sky with q | q | q
    · exact q.2.1
    · exact q.2.1
    · exact q.2.1
  refine Sky.land Zc.steady frames hf sky2 fun h3 fl3 up3 => ?_
  have J3 : Inv X pins σ H { s' with heap := h3 } := J.landed nb fl3.1 (up.trans up3) os ag
  obtain ⟨oe3, vs3, he3, hz3, hd3⟩ := fl3.there
  have notIn : a ∉ frs (X.env :: X.outer) := fun hm => by
    obtain ⟨_, o, e, hnf⟩ := fl3.2.2.1.mem hm
    rw [he3] at e
    cases e
    exact hnf _ hd3
  have nL : a ≠ X.env.locals := fun z => notIn (List.mem_filterMap.mpr ⟨X.env, List.mem_cons_self, hf.trans (congrArg some z.symm)⟩)
  have nF : a ∉ X.fs := fun hm => by
    obtain ⟨e, he, q⟩ := List.mem_filterMap.mp hm
    exact notIn (List.mem_filterMap.mpr ⟨e, List.mem_cons_of_mem _ he, q⟩)
  have nS : a ∉ frs X.stack := hs ▸ notIn
  have h0 : X.s_0.heap.get? a = none := by
    cases q : X.s_0.heap.get? a with
    | none => rfl
    | some o =>
      obtain ⟨o', e⟩ := J.base.there a o q (by rw [hex]; simp)
      rw [nb a o' e nS] at hB
      cases hB
  have npin : ∀ p ∈ X.pn ++ pins, p.1 ≠ a := fun p hp z => by
    obtain ⟨e, _, p3, p4, _⟩ := J.pin p hp
    rw [z] at e
    rw [nb a p.2 e nS] at hB
    cases hB
  refine wpAny_handleBy_cons (codeAny_handlers_test ?_) (by intro q; cases q)
  have S3 := J3.suite he3 hd3 na nL nF
  have LT : PySem.W.Looks (model X.prog X.w) h3 (typeOf (.ref a)) cls := fun A Q E s k q => wpAny_typeOf_ref (k _ _ he3) (by rw [hz3.1]; exact q)
  have test : ∀ {Q : Value → Shared → Prop} {E : Value → Shared → Prop}, Q (.ref c) { s' with heap := h3 } → wpAny (model X.prog X.w) (X.A.mark (some (.ref a))) (eval (.Name x np) X.env) Q E { s' with heap := h3 } := fun {Q E} q => by
    obtain ⟨hg, hdbg, hm | ⟨hm, hv, hnn⟩⟩ := hc
    · exact ld_glob (X := X.suite a ((a, oe3) :: (X.pn ++ pins))) S3 hg hm q hdbg
    · exact ld_blt (X := X.suite a ((a, oe3) :: (X.pn ++ pins))) S3 hg hm hv q hnn hdbg
  refine test ((PySem.W.exm_one (M := model X.prog X.w) J3.kIn LT hb).here ?_)
  refine codeAny_handlers_suite_as (HandSPX.lands_againZ fl3 fun h4 fl4 up4 => ?_)
  have J4 : Inv X pins σ H { s' with heap := h4 } := J.landed nb fl4.1 ((up.trans up3).trans up4) os ag
  obtain ⟨oe4, vs4, he4, hz4, hd4⟩ := fl4.there
  have S4 := J4.suite he4 hd4 na nL nF
  refine store_ok (X := X.suite a ((a, oe4) :: (X.pn ++ pins))) (v := .ref a) S4 hN hi (.inl hln) rfl (fun s5 S5 => ?_) (.inr hln)
  have q5 : (tAsg (tVar i) (gName j)) { nx := fun σ' H' => H' = H ∧ σ' = (σ.set i (some (.ref a))).set j (some (.ref a)), rt := fun _ _ => False } (σ.set i (some (.ref a))) H := by
    exact ⟨.ref a, by rw [List.getElem?_set_self hln2], rfl, rfl⟩
  refine wpAny_mono ((hsu a oe4 cls d (X.pn ++ pins) hz4 ⟨_, hd4⟩).run [] s5 _ H _ S5 q5) (fun f s6 hsp => ?_) (fun _ _ z => False.elim z)
  cases f with
  | next =>
    obtain ⟨σ6, H6, S6, rfl, rfl⟩ := hsp
    have P6 : Inv X ((a, oe4) :: pins) ((σ.set i (some (.ref a))).set j (some (.ref a))) H6 s6 :=
      ⟨ok, S6.os, S6.bare, S6.base, S6.loc, S6.cell, S6.free, S6.freeC, fun p hp => S6.pin p (by
        rw [List.append_nil]
        rcases List.mem_append.mp hp with k | k
        · exact List.mem_cons_of_mem _ (List.mem_append_left _ k)
        · rcases List.mem_cons.mp k with k | k
          · rw [k]; exact List.mem_cons_self
          · exact List.mem_cons_of_mem _ (List.mem_append_right _ k)), S6.hok, S6.len⟩
    refine gone_ok P6 hN hi hln fun s7 J7 => ?_
    exact ⟨_, _, keep_exc J7 hz4 hd4 h0 npin, hyes a na⟩
  | brk =>
    obtain ⟨_, _, _, q⟩ := hsp
    exact q.elim
  | cont =>
    obtain ⟨_, _, _, q⟩ := hsp
    exact q.elim
  | ret u =>
    obtain ⟨_, _, _, _, _, q⟩ := hsp
    exact q.elim
theorem ps_try_keep (hs : X.stack = X.env :: X.outer) (hf : X.env.frame = some X.env.locals) (hex : X.ex = []) (hN : X.N.Nodup) (hi : X.N[i]? = some n) (hln : X.env.kindOf n = some .local) (hc : Names X x (.ref c))
    (hb : ∀ (W : WX) (pn : List (Addr × Obj)) (xe : Value → Shared → Prop), Takes (X.tr pn xe) W → PassesOwn (model X.prog X.w) X.A X.env xe → PSs (X.tr pn xe) body (tb W))
    (hsu : ∀ (a : Addr) (oe : Obj) (cls : Value) (d : Option Addr) (pn : List (Addr × Obj)), Zc cls d oe → (∃ vs, oe.data = .fields vs) → PSs (X.suite a ((a, oe) :: pn)) (b1 :: suite) (tAsg (tVar i) (gName j))) :
    PS X (.Try body [.ExceptHandler (some (.Name x np)) (some n) (b1 :: suite) pos'] [] [] pos) (tTryKeep X.K c i j tb) := by
  refine ⟨fun pins s σ H D I h => wpAny_Try_except ?_⟩
  have ok := I.ok
  refine wpAny_mono ((hb (wKeep X.K c i j D) (X.pn ++ pins) (fun e s₁ => wpAny (model X.prog X.w) X.A (noteFrame e X.env) (fun _ s₂ => wpAny (model X.prog X.w) X.A (setFlight e none) (fun _ s₃ =>
    wpAny (model X.prog X.w) X.A (handleBy e X.env [.ExceptHandler (some (.Name x np)) (some n) (b1 :: suite) pos']) (SP X pins D) X.xe s₃) X.xe s₂) X.xe s₁) (fun u s' xx => ?_) PassesOwn.looking).run [] s σ H D (I.toTry _) h) (fun f s1 hsp => ?_) (fun e s1 he => he)
  · obtain ⟨a, B, sI, pins', σ', H', cls, d, rfl, J', nb, up, sky, na, os, ag, w⟩ := xx
    have il : i < σ'.length := by
      have e1 := (List.getElem?_eq_some_iff.mp hi).1
      have e2 := J'.len
      have e3 : σ'.length = X.N.length := e2
      omega
    exact caught_kept hs hf hex hN hi hln hc ok hsu il (J'.ofTry ok) nb up sky na os ag w
  · cases f with
    | next =>
      obtain ⟨σ', H', J', q⟩ := hsp
      exact wpAny_execs_nil ⟨σ', H', J'.ofTry ok, q⟩
    | brk =>
      obtain ⟨σ', H', J', q⟩ := hsp
      exact ⟨σ', H', J'.ofTry ok, q⟩
    | cont =>
      obtain ⟨σ', H', J', q⟩ := hsp
      exact ⟨σ', H', J'.ofTry ok, q⟩
    | ret u =>
      obtain ⟨v, σ', H', J', r, q⟩ := hsp
      exact ⟨v, σ', H', J'.ofTry ok, r, q⟩
end

/-! ### isinstance of a kept exception; a call, inside a try, of a local that holds a def -/
structure ExG (K : PySem.W.Frag) (C : Addr) : Prop where
  c : ExcC K C
  ty : PySem.W.typeIn K (.ref C) = some (.type "type")
  self : PySem.W.subIn K (.ref C) (.ref C) = some true
theorem cls_some {K : PySem.W.Frag} {C : Addr} (h : PySem.W.hasDictIn K C = true) : (PySem.W.clsIn K C).isSome = true := by
  obtain ⟨cd, hc, _⟩ := PySem.W.any_some h
  rw [hc]
  rfl
theorem kit_ref {K : PySem.W.Frag} {C D : Addr} {b : Bool} (g : ExG K C) (h : PySem.W.subIn K (.ref D) (.ref C) = some b) : PySem.W.kitOne K (.ref D) (.ref C) = some b := by
  unfold PySem.W.kitOne
  by_cases e : (Value.ref D == Value.ref C) = true
  · rw [if_pos e]
    have e2 : D = C := Value.ref.inj (beq_iff_eq.mp e)
    subst e2
    rw [g.self] at h
    exact h
  · rw [if_neg e]
    have e2 : ((PySem.W.clsIn K C).isSome && PySem.W.typeIn K (.ref C) == some (.type "type")) = true := by rw [cls_some g.c.hd, g.ty] <;> rfl
    show (if ((PySem.W.clsIn K C).isSome && PySem.W.typeIn K (.ref C) == some (.type "type")) = true then PySem.W.subIn K (.ref D) (.ref C) else none) = some b
    rw [if_pos e2]
    exact h
theorem kit_typ {K : PySem.W.Frag} {D : Addr} {T : String} {b : Bool} (hm : PySem.W.kitMeta T = true) (h : PySem.W.subIn K (.ref D) (.type T) = some b) : PySem.W.kitOne K (.ref D) (.type T) = some b := by
  unfold PySem.W.kitOne
  have e : ¬ (Value.ref D == Value.type T) = true := fun z => by cases beq_iff_eq.mp z
  rw [if_neg e]
  show (if PySem.W.kitMeta T = true then PySem.W.subIn K (.ref D) (.type T) else none) = some b
  rw [if_pos hm]
  exact h
theorem exm_of {K : PySem.W.Frag} {C : Addr} {cls : Value} {b : Bool} (g : ExG K C) (h : PySem.W.subIn K cls (.ref C) = some b) : PySem.W.exmOne K cls (.ref C) = some b := PySem.W.exm_ref g.c.hs g.c.hd g.ty h
inductive TyE (K : PySem.W.Frag) (H : Hp) : V → Value → Prop where
  | old {x : V} {t : Value} : TyX K H x t → TyE K H x t
  | exc {a D : Addr} : H a = some (ExK (.ref D) none a) → ExcC K D → TyE K H (.ref a) (.ref D)
def rIsiE (K : PySem.W.Frag) : List V → Hp → VK → Prop := fun xs H Q => ∃ (x c : V) (t u : Value) (b : Bool), xs = [x, c] ∧ ClsV c u ∧ TyE K H x t ∧ PySem.W.kitOne K t u = some b ∧ Q (.bl b) H
def rIsiTE (K : PySem.W.Frag) : List V → Hp → VK → Prop := fun xs H Q => ∃ (x : V) (tp : Addr) (cs : List V) (t : Value) (us : List Value) (b : Bool), xs = [x, .ref tp] ∧ H tp = some (.tup cs) ∧ Paired ClsV cs us ∧ TyE K H x t ∧ PySem.W.kitAny K t us = some b ∧ Q (.bl b) H
section
variable {X : Cx} {pins : List (Addr × Obj)} {σ : L2.St} {H : Hp} {s : Shared}
theorem kit_ofE {x : V} {u t : Value} (I : Inv X pins σ H s) (rx : RelV x u) (ty : TyE X.K H x t) : ∃ P : Heap → Prop, PySem.W.KitX X.K u t P ∧ P s.heap ∧ u ≠ .builtin "__main__.__loader__#opaque" := by
  cases ty with
  | old ty => exact kit_of I rx ty
  | @exc a D e C =>
    cases (show u = Value.ref a from rx)
    obtain ⟨⟨oe, vs, e1, z, dd⟩, _, _⟩ := (show ObjOk X.prog X.w H s.heap a (ExK (.ref D) none a) from I.hok a _ e)
    have J : PySem.W.InstAt s.heap a oe D none := by
      obtain ⟨oc, od, oda, osl⟩ := oe
      obtain ⟨h1, h2⟩ := z
      dsimp only at h1 h2 dd
      subst h1 h2 dd
      exact ⟨e1, rfl, rfl, trivial⟩
    exact ⟨_, PySem.W.handS_kitx_exc C.hg C.hk C.hs C.hd C.ha C.hn C.ht C.hm, J, fun z => nomatch z⟩
theorem call_isiE : CallR X (.builtin "isinstance") (rIsiE X.K) := by
  intro pins s σ H xs us Q I r h
  obtain ⟨x, c, t, u, b, rfl, k, ty, e, q⟩ := h
  obtain ⟨u1, u2, rfl, r1, r2⟩ := vals2 r
  have e2 := k.eq r2
  subst e2
  obtain ⟨P, Z, p, hx⟩ := kit_ofE I r1 ty
  exact PySem.W.kia_one Z I.kIn p e hx fun tk => ⟨.bl b, H, I.tok tk, rfl, q⟩
theorem call_isiTE : CallR X (.builtin "isinstance") (rIsiTE X.K) := by
  intro pins s σ H xs us Q I r h
  obtain ⟨x, tp, cs, t, ws, b, rfl, hT, k, ty, e, q⟩ := h
  obtain ⟨u1, u2, rfl, r1, r2⟩ := vals2 r
  cases (show u2 = Value.ref tp from r2)
  obtain ⟨P, Z, p, hx⟩ := kit_ofE I r1 ty
  obtain ⟨_, its, rv, o, h1, h2, n, h3⟩ := (show ObjOk X.prog X.w H s.heap tp (.tup cs) from I.hok tp _ hT)
  have e3 := ClsV.all k rv
  subst e3
  obtain ⟨oc, od, dt, sl⟩ := o
  simp only at h2 h3
  subst h2 h3
  exact PySem.W.kia_tup Z I.kIn p h1 e hx fun tk => ⟨.bl b, H, I.tok tk, rfl, q⟩
end
/-- a def that a local may hold -/
structure Hd (P : Program) (w : World) (K : PySem.W.Frag) (mg : Str → Option Value) (base : Heap) (CX : CXT) (kk : Nat) (f : Addr) (sp : Sp) : Prop where
  ex : ∃ (k : Nat) (fd : FuncData) (ps : List Str), k ≤ kk ∧ FnOk P w K mg base CX k f fd ps sp ∧ Binds K fd ps []
  kp : PySem.W.keepIn K (.ref f) = true
theorem hd_of {P : Program} {w : World} {K : PySem.W.Frag} {mg : Str → Option Value} {base : Heap} {CX : CXT} {k kk : Nat} {x : Str} {f : Addr} {ps : List Str} {sp : Sp} (G : Cb P w K mg base CX k x f ps sp) (h : k ≤ kk) : Hd P w K mg base CX kk f sp := by
  obtain ⟨⟨fd, F, b⟩, g, kp⟩ := G
  exact ⟨⟨k, fd, ps, h, F, b⟩, kp⟩
def tCallD (i : Nat) (S : Addr → Sp → Prop) (E : L2.St → XK) (t : TA) : TE := fun σ H Q => ∃ f sp, σ[i]? = some (some (.ref f)) ∧ S f sp ∧ t σ H fun vs H1 => sp vs H1 Q (E σ)
theorem pe_callD {X : Cx} {CX : CXT} {kk i : Nat} {S : Addr → Sp → Prop} {E : L2.St → XK} {x : Str} {p pos : Pos} {e : Expr} {es : List Expr} {t : TA} (A : ∀ f sp, S f sp → Hd X.prog X.w X.K X.mg X.base CX kk f sp) (hr : Room kk X.A) (hx : ∀ σ, PassesAt CX X σ (E σ))
    (ha : PA X (e :: es) t) (hN : X.N[i]? = some x := by rfl) (hv : Vis X.env.scope x := by first | exact Or.inl rfl | exact Or.inr (Or.inl rfl) | exact Or.inr (Or.inr rfl))
    (hdb : (x == ("__debug__" : Str)) = false := by decide) (hcd : (x == ("__classdict__" : Str)) = false := by decide)
    (he : starEach (e :: es) X.env = (false, eval e X.env) :: starEach es X.env := by rfl) (hpl : (backTo pos (starEach es X.env)).any (·.1) = false := by rfl) : PE X (.Call (.Name x p) (e :: es) [] pos) (tCallD i S E t) := by
  refine ⟨fun pins s σ H Q I h => ?_⟩
  obtain ⟨f, sp, hs, hS, ht⟩ := h
  obtain ⟨⟨k, fd, ps, hk, F, hb⟩, kp⟩ := A f sp hS
  refine wpAny_Call_Name_kw (thn ((pe_var (pos := p) hN hv hdb hcd).run pins s σ H (fun v H1 => v = .ref f ∧ H1 = H) I ⟨.ref f, hs, rfl, rfl⟩) fun u s1 ⟨v, H1, I1, r1, q1⟩ => ?_)
  obtain ⟨rfl, rfl⟩ := q1
  cases r1
  refine PySem.W.callWith_K (h₀ := X.base) I.ok.mod.kin kp (thn (ha.run pos pins s1 σ _ _ I1 ht) fun us s2 ⟨vs, H2, I2, r, q⟩ => ⟨I2.kIn, ?_⟩) he hpl
  exact run_fnS F (hr.mono hk) hb (hx σ) I2 r q

/-! ### good wishes: counting -/
theorem sub_len : ∀ {l1 l2 : List Int}, l1.Nodup → (∀ x ∈ l1, x ∈ l2) → l1.length ≤ l2.length
  | [], _, _, _ => Nat.zero_le _
  | x :: r, l2, nd, h => by
    obtain ⟨n1, n2⟩ := List.nodup_cons.mp nd
    have hx := h x List.mem_cons_self
    have ih := sub_len (l1 := r) (l2 := l2.erase x) n2 fun y hy => by
      have ne : y ≠ x := fun e => n1 (e ▸ hy)
      exact (List.mem_erase_of_ne ne).mpr (h y (List.mem_cons_of_mem _ hy))
    have e := List.length_erase_of_mem hx
    have p : 0 < l2.length := List.length_pos_of_mem hx
    rw [List.length_cons]
    omega
def upTo (lo : Int) (k : Nat) : List Int := (List.range k).map fun (i : Nat) => lo + (i : Int)
theorem mem_upTo {lo x : Int} {k : Nat} : x ∈ upTo lo k ↔ lo ≤ x ∧ x < lo + k := by
  unfold upTo
  simp only [List.mem_map, List.mem_range]
  constructor
  · rintro ⟨i, hi, rfl⟩
    omega
  · rintro ⟨h1, h2⟩
    exact ⟨(x - lo).toNat, by omega, by omega⟩
theorem upTo_len {lo : Int} {k : Nat} : (upTo lo k).length = k := by simp [upTo]
theorem upTo_nodup {lo : Int} {k : Nat} : (upTo lo k).Nodup := by
  unfold upTo
  exact (List.pairwise_map.mpr (List.Pairwise.imp (fun h => by omega) List.pairwise_lt_range))
theorem len_le_of {l : List Int} {lo : Int} {k : Nat} (nd : l.Nodup) (h : ∀ x ∈ l, lo ≤ x ∧ x < lo + k) : l.length ≤ k := by
  have := sub_len nd fun x hx => mem_upTo.mpr (h x hx)
  rw [upTo_len] at this
  exact this
theorem le_len_of {l : List Int} {lo : Int} {k : Nat} (h : ∀ x, lo ≤ x → x < lo + k → x ∈ l) : k ≤ l.length := by
  have := sub_len (upTo_nodup (lo := lo) (k := k)) fun x hx => by
    obtain ⟨h1, h2⟩ := mem_upTo.mp hx
    exact h x h1 h2
  rw [upTo_len] at this
  exact this
/-- how many of them are b or more -/
def cntGe (l : List Int) (b : Int) : Nat := (l.filter fun w => decide (b ≤ w)).length
theorem cntGe_snoc (l : List Int) (w b : Int) : cntGe (l ++ [w]) b = cntGe l b + if b ≤ w then 1 else 0 := by
  unfold cntGe
  rw [List.filter_append, List.length_append]
  by_cases h : b ≤ w <;> simp [List.filter, h]
theorem cntGe_le (l : List Int) (b : Int) : cntGe l b ≤ l.length := List.length_filter_le _ _
theorem cntGe_perm {l l' : List Int} (h : l.Perm l') (b : Int) : cntGe l b = cntGe l' b := (h.filter _).length_eq
theorem somes_snoc (l : List (Option Int)) (o : Option Int) : somes (l ++ [o]) = somes l ++ o.toList := by
  unfold somes
  rw [List.filterMap_append]
  cases o <;> rfl
/-- what holds behind ships that came -/
structure Lay (n : Nat) (ws : List Int) : Prop where
  occ : ∀ x, (prun n ws).1 x = true ↔ x ∈ somes (placedL n ws)
  nd : (somes (placedL n ws)).Nodup
  bd : ∀ x ∈ somes (placedL n ws), 1 ≤ x ∧ x ≤ n
  few : ∀ b, (b ≤ 1 ∨ (prun n ws).1 (b - 1) = false) → cntGe (somes (placedL n ws)) b ≤ cntGe ws b
  many : none ∉ placedL n ws → ∀ b, cntGe ws b ≤ cntGe (somes (placedL n ws)) b
  crowd : none ∈ placedL n ws → ∃ b : Int, 1 ≤ b ∧ b ≤ n ∧ (n : Int) - b + 1 < cntGe ws b
theorem placedL_snoc {n : Nat} {ws : List Int} {w : Int} : placedL n (ws ++ [w]) = placedL n ws ++ [ffree n (prun n ws).1 w] := by
  unfold placedL
  rw [prun_snoc]
  unfold pstep
  cases ffree n (prun n ws).1 w <;> rfl
theorem occ_snoc {n : Nat} {ws : List Int} {w : Int} : (prun n (ws ++ [w])).1 = match ffree n (prun n ws).1 w with | none => (prun n ws).1 | some b => setO (prun n ws).1 b := by
  rw [prun_snoc]
  unfold pstep
  cases ffree n (prun n ws).1 w <;> rfl
/-- the least one from which on all are held -/
theorem least_full {occ : Int → Bool} : ∀ (k : Nat), (∀ x, (k : Int) + 1 ≤ x → x ≤ k + 1 → occ x = true) → ∀ m : Int, (∀ x, (k : Int) + 1 ≤ x → x ≤ m → occ x = true) → ∃ b : Int, 1 ≤ b ∧ b ≤ k + 1 ∧ (∀ x, b ≤ x → x ≤ m → occ x = true) ∧ (b ≤ 1 ∨ occ (b - 1) = false)
  | 0, _, m, h => ⟨1, by omega, by omega, fun x h1 h2 => h x (by omega) h2, .inl (by omega)⟩
  | k + 1, h0, m, h => by
    cases e : occ ((k : Int) + 1) with
    | false => exact ⟨(k : Int) + 1 + 1, by omega, by omega, fun x h1 h2 => h x (by omega) h2, .inr (by rw [show (k : Int) + 1 + 1 - 1 = (k : Int) + 1 by omega]; exact e)⟩
    | true =>
      obtain ⟨b, b1, b2, b3, b4⟩ := least_full (occ := occ) k (fun x h1 h2 => by rw [show x = (k : Int) + 1 by omega]; exact e) m fun x h1 h2 => by
        by_cases z : x = (k : Int) + 1
        · rw [z]; exact e
        · exact h x (by omega) h2
      exact ⟨b, b1, by omega, b3, b4⟩
theorem lay (n : Nat) : ∀ ws : List Int, (∀ w ∈ ws, 1 ≤ w ∧ w ≤ n) → Lay n ws := snoc_ind (fun _ => ⟨fun x => by simp [prun, placedL, somes], List.nodup_nil, fun x hx => (by cases hx), fun b _ => Nat.zero_le _, fun _ b => Nat.le_refl _, fun h => (by cases h)⟩) fun ws w ih hb => by
  have hw := hb w (List.mem_append_right _ (List.mem_singleton.mpr rfl))
  obtain ⟨i1, i2, i3, i4, i5, i6⟩ := ih fun x hx => hb x (List.mem_append_left _ hx)
  cases e : ffree n (prun n ws).1 w with
  | none =>
    have es : somes (placedL n (ws ++ [w])) = somes (placedL n ws) := by rw [placedL_snoc, e, somes_snoc]; simp
    have eo : (prun n (ws ++ [w])).1 = (prun n ws).1 := by rw [occ_snoc, e]
    have full := ffree_none e
    refine ⟨fun x => by rw [eo, es]; exact i1 x, by rw [es]; exact i2, by rw [es]; exact i3, fun b h => ?_, fun h => ?_, fun _ => ?_⟩
    · rw [es, cntGe_snoc]
      rw [eo] at h
      have := i4 b h
      omega
    · rw [placedL_snoc, e] at h
      exact absurd (List.mem_append_right _ (List.mem_singleton.mpr rfl)) h
    · obtain ⟨b, b1, b2, b3, b4⟩ := least_full (occ := (prun n ws).1) (w - 1).toNat (fun x h1 h2 => full x (by omega) (by omega)) n fun x h1 h2 => full x (by omega) h2
      have c1 := i4 b b4
      have c2 : ((n : Int) - b + 1).toNat ≤ cntGe (somes (placedL n ws)) b := le_len_of (lo := b) fun x h1 h2 => List.mem_filter.mpr ⟨(i1 x).mp (b3 x h1 (by omega)), by simpa using h1⟩
      refine ⟨b, b1, by omega, ?_⟩
      rw [cntGe_snoc, if_pos (by omega)]
      omega
  | some x =>
    have es : somes (placedL n (ws ++ [w])) = somes (placedL n ws) ++ [x] := by rw [placedL_snoc, e, somes_snoc]; rfl
    have eo : (prun n (ws ++ [w])).1 = setO (prun n ws).1 x := by rw [occ_snoc, e]
    obtain ⟨x1, x2, x3, x4⟩ := ffree_some e
    have hn : x ∉ somes (placedL n ws) := fun z => by
      rw [(i1 x).mpr z] at x3
      cases x3
    refine ⟨fun y => ?_, ?_, ?_, fun b h => ?_, fun h b => ?_, fun h => ?_⟩
    · rw [eo, es, List.mem_append, List.mem_singleton, ← i1 y]
      unfold setO
      by_cases z : y = x <;> simp [z]
    · rw [es, List.nodup_append]
      exact ⟨i2, by simp, fun a ha b hb => by rw [List.mem_singleton.mp hb]; exact fun z => hn (z ▸ ha)⟩
    · intro y hy
      rw [es] at hy
      rcases List.mem_append.mp hy with k | k
      · exact i3 y k
      · rw [List.mem_singleton.mp k]
        omega
    · rw [es, cntGe_snoc, cntGe_snoc]
      have h' : b ≤ 1 ∨ (prun n ws).1 (b - 1) = false := by
        rcases h with h | h
        · exact .inl h
        · rw [eo] at h
          unfold setO at h
          exact .inr (Bool.or_eq_false_iff.mp h).2
      have := i4 b h'
      by_cases hbx : b ≤ x
      · have hbw : b ≤ w := by
          by_cases z : b ≤ w
          · exact z
          · rcases h' with h' | h'
            · omega
            · rw [x4 (b - 1) (by omega) (by omega)] at h'
              cases h'
        rw [if_pos hbx, if_pos hbw]
        omega
      · rw [if_neg hbx]
        omega
    · have h' : none ∉ placedL n ws := fun z => h (by rw [placedL_snoc]; exact List.mem_append_left _ z)
      have := i5 h' b
      rw [es, cntGe_snoc, cntGe_snoc]
      by_cases z : b ≤ w
      · rw [if_pos z, if_pos (by omega)]
        omega
      · rw [if_neg z]
        omega
    · rw [placedL_snoc, e] at h
      rcases List.mem_append.mp h with k | k
      · obtain ⟨b, b1, b2, b3⟩ := i6 k
        refine ⟨b, b1, b2, ?_⟩
        rw [cntGe_snoc]
        omega
      · simp at k
/-- the last berth from which on more wish -/
def downTo (n : Nat) : List Int := (List.range n).map fun (i : Nat) => (n : Int) - (i : Int)
def crowdedL (n : Nat) (ws : List Int) : Option Int := (downTo n).find? fun b => decide ((n : Int) - b + 1 < (cntGe ws b : Int))
theorem mem_downTo {n : Nat} {x : Int} : x ∈ downTo n ↔ 1 ≤ x ∧ x ≤ n := by
  unfold downTo
  simp only [List.mem_map, List.mem_range]
  constructor
  · rintro ⟨i, hi, rfl⟩
    omega
  · rintro ⟨h1, h2⟩
    exact ⟨(n - x).toNat, by omega, by omega⟩
theorem crowded_none {n : Nat} {ws : List Int} : crowdedL n ws = none ↔ ∀ b : Int, 1 ≤ b → b ≤ n → (cntGe ws b : Int) ≤ n - b + 1 := by
  unfold crowdedL
  rw [List.find?_eq_none]
  simp only [decide_eq_true_eq, Int.not_lt]
  exact ⟨fun h b b1 b2 => h b (mem_downTo.mpr ⟨b1, b2⟩), fun h b hb => h b (mem_downTo.mp hb).1 (mem_downTo.mp hb).2⟩
theorem good_iff {n : Nat} {ws : List Int} (hb : ∀ w ∈ ws, 1 ≤ w ∧ w ≤ n) : crowdedL n ws = none ↔ none ∉ placedL n ws := by
  have L := lay n ws hb
  rw [crowded_none]
  constructor
  · intro h z
    obtain ⟨b, b1, b2, b3⟩ := L.crowd z
    have := h b b1 b2
    omega
  · intro h b b1 b2
    have h1 := L.many h b
    have h2 : cntGe (somes (placedL n ws)) b ≤ ((n : Int) - b + 1).toNat := len_le_of (lo := b) (L.nd.filter _) fun x hx => by
      obtain ⟨k1, k2⟩ := List.mem_filter.mp hx
      have := L.bd x k1
      have k3 : b ≤ x := by simpa using k2
      omega
    omega
/-! in rising order -/
theorem sorted_cut {b : Int} : ∀ {o : List Int}, o.Pairwise (· ≤ ·) → o = o.filter (fun w => !decide (b ≤ w)) ++ o.filter (fun w => decide (b ≤ w))
  | [], _ => rfl
  | x :: r, h => by
    obtain ⟨h1, h2⟩ := List.pairwise_cons.mp h
    by_cases z : b ≤ x
    · have e1 : r.filter (fun w => !decide (b ≤ w)) = [] := List.filter_eq_nil_iff.mpr fun y hy => by
        have := h1 y hy
        simp only [Bool.not_eq_true', decide_eq_false_iff_not]
        omega
      have e2 : r.filter (fun w => decide (b ≤ w)) = r := List.filter_eq_self.mpr fun y hy => by
        have := h1 y hy
        simp only [decide_eq_true_eq]
        omega
      simp [List.filter_cons, z, e1, e2]
    · have ih := sorted_cut (b := b) h2
      simp only [List.filter_cons, z, decide_false, Bool.not_false, if_true, Bool.false_eq_true, if_false, List.cons_append]
      rw [← ih]
def goodS (n : Nat) (o : List Int) : Bool := (List.range o.length).all fun (i : Nat) => decide (o.getD i 0 ≤ (n : Int) - o.length + i + 1)
theorem goodS_iff {n : Nat} {ws : List Int} (hb : ∀ w ∈ ws, 1 ≤ w ∧ w ≤ n) : goodS n (sortI ws) = true ↔ crowdedL n ws = none := by
  have hp := sortI_perm ws
  have hs := sortI_sorted ws
  rw [crowded_none]
  unfold goodS
  simp only [List.all_eq_true, List.mem_range, decide_eq_true_eq]
  generalize hO : sortI ws = o at hp hs
  have hbo : ∀ w ∈ o, 1 ≤ w ∧ w ≤ n := fun w hw => hb w (hp.mem_iff.mp hw)
  constructor
  · intro h b b1 b2
    rw [← cntGe_perm hp b]
    have cut := sorted_cut (b := b) hs
    by_cases z : cntGe o b = 0
    · rw [z]
      omega
    · have hlen : (o.filter (fun w => !decide (b ≤ w))).length + cntGe o b = o.length := by
        unfold cntGe
        rw [← List.length_append, ← cut]
      have hi : (o.filter (fun w => !decide (b ≤ w))).length < o.length := by omega
      have h1 := h _ hi
      have e : o.getD (o.filter (fun w => !decide (b ≤ w))).length 0 = o[(o.filter (fun w => !decide (b ≤ w))).length] := by simp [List.getD_eq_getElem?_getD, List.getElem?_eq_getElem hi]
      rw [e] at h1
      have hm : o[(o.filter (fun w => !decide (b ≤ w))).length] ∈ o.filter (fun w => decide (b ≤ w)) := by
        have e2 : o[(o.filter (fun w => !decide (b ≤ w))).length]? = (o.filter (fun w => decide (b ≤ w)))[0]? := by
          conv => lhs; arg 1; rw [cut]
          rw [List.getElem?_append_right (Nat.le_refl _), Nat.sub_self]
        rw [List.getElem?_eq_getElem hi] at e2
        exact List.mem_of_getElem? e2.symm
      have h2 : b ≤ o[(o.filter (fun w => !decide (b ≤ w))).length] := by simpa using (List.mem_filter.mp hm).2
      omega
  · intro h i hi
    have e : o.getD i 0 = o[i] := by simp [List.getD_eq_getElem?_getD, List.getElem?_eq_getElem hi]
    rw [e]
    have hbi := hbo o[i] (List.getElem_mem hi)
    have h1 := h o[i] hbi.1 hbi.2
    rw [← cntGe_perm hp] at h1
    have h2 : o.length - i ≤ cntGe o o[i] := by
      have e3 : (o.drop i).filter (fun w => decide (o[i] ≤ w)) = o.drop i := List.filter_eq_self.mpr fun y hy => by
        obtain ⟨j, hj, ej⟩ := List.getElem_of_mem hy
        rw [List.getElem_drop] at ej
        simp only [decide_eq_true_eq]
        rw [← ej]
        by_cases z : j = 0
        · subst z
          simp
        · exact List.pairwise_iff_getElem.mp hs i (i + j) hi (by rw [List.length_drop] at hj; omega) (by omega)
      have e4 : (o.filter (fun w => decide (o[i] ≤ w))).length = ((o.take i).filter (fun w => decide (o[i] ≤ w))).length + ((o.drop i).filter (fun w => decide (o[i] ≤ w))).length := by
        rw [← List.length_append, ← List.filter_append, List.take_append_drop]
      unfold cntGe
      rw [e4, e3, List.length_drop]
      omega
    omega

/-! ### any order of the same ships -/
theorem ffree_is {n : Nat} {occ : Int → Bool} {w b : Int} (h1 : w ≤ b) (h2 : b ≤ n) (h3 : occ b = false) (h4 : ∀ x, w ≤ x → x < b → occ x = true) : ffree n occ w = some b := by
  cases e : ffree n occ w with
  | none =>
    rw [ffree_none e b h1 h2] at h3
    cases h3
  | some c =>
    obtain ⟨c1, c2, c3, c4⟩ := ffree_some e
    congr 1
    by_cases z : c < b
    · rw [h4 c c1 z] at c3
      cases c3
    · by_cases z2 : b < c
      · rw [c4 b h1 z2] at h3
        cases h3
      · omega
theorem ffree_non {n : Nat} {occ : Int → Bool} {w : Int} (h : ∀ x, w ≤ x → x ≤ n → occ x = true) : ffree n occ w = none := by
  cases e : ffree n occ w with
  | none => rfl
  | some c =>
    obtain ⟨c1, c2, c3, c4⟩ := ffree_some e
    rw [h c c1 c2] at c3
    cases c3
def stp (n : Nat) (occ : Int → Bool) (w : Int) : Int → Bool := match ffree n occ w with
  | none => occ
  | some b => setO occ b
theorem stp_none {n : Nat} {occ : Int → Bool} {w : Int} (h : ffree n occ w = none) : stp n occ w = occ := by simp only [stp, h]
theorem stp_some {n : Nat} {occ : Int → Bool} {w b : Int} (h : ffree n occ w = some b) : stp n occ w = setO occ b := by simp only [stp, h]
theorem setO_comm (occ : Int → Bool) (x y : Int) : setO (setO occ x) y = setO (setO occ y) x := by
  funext z
  unfold setO
  cases decide (z = x) <;> cases decide (z = y) <;> rfl
theorem setO_mono {occ : Int → Bool} {x y : Int} (h : occ y = true) : setO occ x y = true := by
  unfold setO
  rw [h, Bool.or_true]
theorem setO_ne {occ : Int → Bool} {x y : Int} (h : y ≠ x) : setO occ x y = occ y := by
  unfold setO
  rw [decide_eq_false h, Bool.false_or]
theorem setO_self {occ : Int → Bool} {x : Int} : setO occ x x = true := by simp [setO]
theorem stp_comm_le {n : Nat} {occ : Int → Bool} {w1 w2 : Int} (h : w1 ≤ w2) : stp n (stp n occ w1) w2 = stp n (stp n occ w2) w1 := by
  cases eb : ffree n occ w2 with
  | none =>
    have fb := ffree_none eb
    rw [stp_none eb]
    cases ea : ffree n occ w1 with
    | none => rw [stp_none ea, stp_none eb]
    | some x =>
      rw [stp_some ea]
      exact stp_none (ffree_non fun y h1 h2 => setO_mono (fb y h1 h2))
  | some y =>
    obtain ⟨y1, y2, y3, y4⟩ := ffree_some eb
    rw [stp_some eb]
    cases ea : ffree n occ w1 with
    | none =>
      rw [ffree_none ea y (by omega) y2] at y3
      cases y3
    | some x =>
      obtain ⟨x1, x2, x3, x4⟩ := ffree_some ea
      rw [stp_some ea]
      by_cases z : x = y
      · subst z
        have hocc : ∀ u, w1 ≤ u → u ≤ x → setO occ x u = true := fun u h1 h2 => by
          by_cases q : u = x
          · rw [q]; exact setO_self
          · exact setO_mono (x4 u h1 (by omega))
        cases ec : ffree n (setO occ x) w2 with
        | none =>
          have fc := ffree_none ec
          rw [stp_none ec]
          refine (stp_none (ffree_non fun u h1 h2 => ?_)).symm
          by_cases q : u ≤ x
          · exact hocc u h1 q
          · exact fc u (by omega) h2
        | some z =>
          obtain ⟨z1, z2, z3, z4⟩ := ffree_some ec
          have hz : x < z := by
            by_cases q : x < z
            · exact q
            · rw [hocc z (by omega) (by omega)] at z3
              cases z3
          rw [stp_some ec]
          refine (stp_some (ffree_is (by omega) z2 z3 fun u h1 h2 => ?_)).symm
          by_cases q : u ≤ x
          · exact hocc u h1 q
          · exact z4 u (by omega) h2
      · have hx : x < y := by
          by_cases q : x < y
          · exact q
          · rw [x4 y (by omega) (by omega)] at y3
            cases y3
        have e1 : stp n (setO occ x) w2 = setO (setO occ x) y := stp_some (ffree_is y1 y2 (by rw [setO_ne (Ne.symm z)]; exact y3) fun u h1 h2 => setO_mono (y4 u h1 h2))
        have e2 : stp n (setO occ y) w1 = setO (setO occ y) x := stp_some (ffree_is x1 x2 (by rw [setO_ne z]; exact x3) fun u h1 h2 => setO_mono (x4 u h1 h2))
        rw [e1, e2, setO_comm]
theorem stp_comm {n : Nat} {occ : Int → Bool} {w1 w2 : Int} : stp n (stp n occ w1) w2 = stp n (stp n occ w2) w1 := by
  by_cases h : w1 ≤ w2
  · exact stp_comm_le h
  · exact (stp_comm_le (by omega)).symm
theorem occ_fold {n : Nat} : ∀ ws : List Int, (prun n ws).1 = ws.foldl (stp n) (fun _ => false) := snoc_ind rfl fun ws w ih => by
  rw [occ_snoc, List.foldl_append, ← ih]
  rfl
theorem occ_perm {n : Nat} {ws ws' : List Int} (h : ws.Perm ws') : (prun n ws).1 = (prun n ws').1 := by
  rw [occ_fold, occ_fold]
  exact h.foldl_eq' (fun x _ y _ z => stp_comm) _
theorem somes_perm {n : Nat} {ws ws' : List Int} (h : ws.Perm ws') (hb : ∀ w ∈ ws, 1 ≤ w ∧ w ≤ n) : (somes (placedL n ws)).Perm (somes (placedL n ws')) := by
  have L := lay n ws hb
  have L' := lay n ws' fun w hw => hb w (h.mem_iff.mpr hw)
  refine (List.perm_ext_iff_of_nodup L.nd L'.nd).mpr fun x => ?_
  rw [← L.occ, ← L'.occ, occ_perm h]
theorem sortI_perm_eq {l l' : List Int} (h : l.Perm l') : sortI l = sortI l' := sortI_uniq ((sortI_perm l).trans h) (sortI_sorted l)
theorem taken_perm {n : Nat} {ws ws' : List Int} (h : ws.Perm ws') (hb : ∀ w ∈ ws, 1 ≤ w ∧ w ≤ n) : takenL n ws = takenL n ws' := sortI_perm_eq (somes_perm h hb)
theorem crowded_perm {n : Nat} {ws ws' : List Int} (h : ws.Perm ws') : crowdedL n ws = crowdedL n ws' := by
  unfold crowdedL
  congr 1
  funext b
  rw [cntGe_perm h]
theorem away_len : ∀ os : List (Option Int), (os.filter Option.isNone).length + (somes os).length = os.length
  | [] => rfl
  | none :: os => by
    have := away_len os
    simp only [List.filter_cons, Option.isNone_none, if_true, List.length_cons]
    show (os.filter Option.isNone).length + 1 + (somes os).length = os.length + 1
    omega
  | some b :: os => by
    have := away_len os
    show (os.filter Option.isNone).length + ((somes os).length + 1) = os.length + 1
    omega
theorem sum_perm {l l' : List Int} (h : l.Perm l') : l.sum = l'.sum := by
  induction h with
  | nil => rfl
  | cons x _ ih => rw [List.sum_cons, List.sum_cons, ih]
  | swap x y l =>
    simp only [List.sum_cons]
    omega
  | trans _ _ h1 h2 => exact h1.trans h2
/-- the wishes of those that lie -/
def lieL (ws : List Int) (os : List (Option Int)) : List Int := ((ws.zip os).filter fun p => p.2.isSome).map (·.1)
theorem lieL_snoc {ws : List Int} {os : List (Option Int)} {w : Int} {o : Option Int} (h : ws.length = os.length) : lieL (ws ++ [w]) (os ++ [o]) = lieL ws os ++ (if o.isSome = true then [w] else []) := by
  unfold lieL
  rw [List.zip_append h, List.filter_append, List.map_append]
  cases o <;> rfl
theorem gone_sum : ∀ (ws : List Int) (os : List (Option Int)), ws.length = os.length → (goneL ws os).sum = (somes os).sum - (lieL ws os).sum
  | [], [], _ => rfl
  | w :: ws, none :: os, h => gone_sum ws os (Nat.succ.inj h)
  | w :: ws, some b :: os, h => by
    have ih := gone_sum ws os (Nat.succ.inj h)
    show ((b - w) :: goneL ws os).sum = (b :: somes os).sum - (w :: lieL ws os).sum
    rw [List.sum_cons, List.sum_cons, List.sum_cons, ih]
    omega
theorem lie_all : ∀ (ws : List Int) (os : List (Option Int)), ws.length = os.length → none ∉ os → lieL ws os = ws
  | [], [], _, _ => rfl
  | w :: ws, none :: os, _, h => absurd List.mem_cons_self h
  | w :: ws, some b :: os, h, hn => by
    have ih := lie_all ws os (Nat.succ.inj h) fun z => hn (List.mem_cons_of_mem _ z)
    show w :: lieL ws os = w :: ws
    rw [ih]
theorem lie_run {n : Nat} : ∀ ws : List Int, prun n (lieL ws (placedL n ws)) = ((prun n ws).1, (placedL n ws).filter Option.isSome) := snoc_ind rfl fun ws w ih => by
  rw [placedL_snoc, lieL_snoc (placedL_len).symm, List.filter_append, occ_snoc]
  cases e : ffree n (prun n ws).1 w with
  | none =>
    simp only [Option.isSome_none, Bool.false_eq_true, if_false, List.append_nil]
    rw [ih]
    simp [List.filter]
  | some b =>
    simp only [Option.isSome_some, if_true]
    rw [prun_snoc, ih]
    unfold pstep
    simp only [e]
    simp [List.filter]
theorem lie_placed {n : Nat} {ws : List Int} : placedL n (lieL ws (placedL n ws)) = (placedL n ws).filter Option.isSome := by
  have := lie_run (n := n) ws
  unfold placedL at this ⊢
  rw [this]
theorem somes_filter (os : List (Option Int)) : somes (os.filter Option.isSome) = somes os := by
  induction os with
  | nil => rfl
  | cons o os ih => cases o with
    | none => exact ih
    | some b => exact congrArg (b :: ·) ih
theorem none_filter_some {os : List (Option Int)} : none ∉ os.filter Option.isSome := fun z => by
  have := (List.mem_filter.mp z).2
  cases this
theorem mem_lie {ws : List Int} {os : List (Option Int)} {x : Int} (h : x ∈ lieL ws os) : x ∈ ws := by
  unfold lieL at h
  obtain ⟨p, hp, rfl⟩ := List.mem_map.mp h
  exact (List.of_mem_zip (List.mem_filter.mp hp).1).1
theorem lie_len (ws : List Int) (os : List (Option Int)) : (lieL ws os).length ≤ ws.length := by
  unfold lieL
  rw [List.length_map]
  refine Nat.le_trans (List.length_filter_le _ _) ?_
  rw [List.length_zip]
  omega
/-- a ship more takes one berth more, or none -/
theorem taken_mem {n : Nat} {ws : List Int} {x : Int} : x ∈ takenL n ws ↔ x ∈ somes (placedL n ws) := (sortI_perm _).mem_iff
theorem somes_last {n : Nat} {ws : List Int} (hne : ws ≠ []) : ∃ o : Option Int, somes (placedL n ws) = somes (placedL n ws.dropLast) ++ o.toList := by
  refine ⟨ffree n (prun n ws.dropLast).1 (ws.getLast hne), ?_⟩
  rw [← somes_snoc, ← placedL_snoc, List.dropLast_concat_getLast hne]

/-! ### the round quay: the mathematics -/
def rfree (n : Nat) (occ : Int → Bool) (w : Int) : Option Int := match ffree n occ w with
  | some b => some b
  | none => ffree n occ 1
def rstep (n : Nat) (s : (Int → Bool) × List Int) (w : Int) : (Int → Bool) × List Int := (setO s.1 ((rfree n s.1 w).getD 0), s.2 ++ [(rfree n s.1 w).getD 0])
def rrun (n : Nat) (ws : List Int) : (Int → Bool) × List Int := ws.foldl (rstep n) (fun _ => false, [])
def placedR (n : Nat) (ws : List Int) : List Int := (rrun n ws).2
theorem rrun_more {n : Nat} {ws : List Int} {i : Nat} {w : Int} (h : ws[i]? = some w) : rrun n (ws.take (i + 1)) = rstep n (rrun n (ws.take i)) w := by
  unfold rrun
  rw [take_more h, List.foldl_append]
  rfl
theorem rrun_snoc {n : Nat} {ws : List Int} {w : Int} : rrun n (ws ++ [w]) = rstep n (rrun n ws) w := by
  unfold rrun
  rw [List.foldl_append]
  rfl
theorem rrun_len {n : Nat} : ∀ ws : List Int, (rrun n ws).2.length = ws.length := snoc_ind rfl fun ws w ih => by
  rw [rrun_snoc]
  unfold rstep
  simp [ih]
theorem placedR_len {n : Nat} {ws : List Int} : (placedR n ws).length = ws.length := rrun_len ws
theorem rfree_some {n : Nat} {occ : Int → Bool} {w b : Int} (hw : 1 ≤ w) (h : rfree n occ w = some b) : 1 ≤ b ∧ b ≤ n ∧ occ b = false := by
  unfold rfree at h
  cases e : ffree n occ w with
  | some c =>
    rw [e] at h
    cases h
    obtain ⟨c1, c2, c3, _⟩ := ffree_some e
    exact ⟨by omega, c2, c3⟩
  | none =>
    rw [e] at h
    obtain ⟨c1, c2, c3, _⟩ := ffree_some h
    exact ⟨c1, c2, c3⟩
theorem rfree_ex {n : Nat} {occ : Int → Bool} {w : Int} {l : List Int} (ho : ∀ x, occ x = true ↔ x ∈ l) (hl : l.length < n) : ∃ b, rfree n occ w = some b := by
  unfold rfree
  cases e : ffree n occ w with
  | some c => exact ⟨c, rfl⟩
  | none =>
    cases e2 : ffree n occ 1 with
    | some c => exact ⟨c, by rw [← e2]⟩
    | none =>
      exfalso
      have := ffree_none e2
      have h2 : n ≤ l.length := le_len_of (lo := 1) fun x h1 h2 => (ho x).mp (this x h1 (by omega))
      omega
structure LayR (n : Nat) (ws : List Int) : Prop where
  occ : ∀ x, (rrun n ws).1 x = true ↔ x ∈ placedR n ws
  nd : (placedR n ws).Nodup
  bd : ∀ x ∈ placedR n ws, 1 ≤ x ∧ x ≤ n
theorem layR (n : Nat) : ∀ ws : List Int, (∀ w ∈ ws, 1 ≤ w ∧ w ≤ n) → ws.length ≤ n → LayR n ws := snoc_ind (fun _ _ => ⟨fun x => by simp [rrun, placedR], List.nodup_nil, fun x hx => (by cases hx)⟩) fun ws w ih hb hl => by
  rw [List.length_append, List.length_singleton] at hl
  have hw := hb w (List.mem_append_right _ (List.mem_singleton.mpr rfl))
  obtain ⟨i1, i2, i3⟩ := ih (fun x hx => hb x (List.mem_append_left _ hx)) (by omega)
  obtain ⟨b, e⟩ := rfree_ex (n := n) (w := w) i1 (by rw [placedR_len]; omega)
  obtain ⟨b1, b2, b3⟩ := rfree_some hw.1 e
  have ep : placedR n (ws ++ [w]) = placedR n ws ++ [b] := by
    unfold placedR
    rw [rrun_snoc]
    unfold rstep
    rw [e]
    rfl
  have eo : (rrun n (ws ++ [w])).1 = setO (rrun n ws).1 b := by
    rw [rrun_snoc]
    unfold rstep
    rw [e]
    rfl
  have hn : b ∉ placedR n ws := fun z => by
    rw [(i1 b).mpr z] at b3
    cases b3
  refine ⟨fun y => ?_, ?_, fun y hy => ?_⟩
  · rw [eo, ep, List.mem_append, List.mem_singleton, ← i1 y]
    unfold setO
    by_cases z : y = b <;> simp [z]
  · rw [ep, List.nodup_append]
    exact ⟨i2, by simp, fun x hx y hy => by rw [List.mem_singleton.mp hy]; exact fun z => hn (z ▸ hx)⟩
  · rw [ep] at hy
    rcases List.mem_append.mp hy with k | k
    · exact i3 y k
    · rw [List.mem_singleton.mp k]
      exact ⟨b1, b2⟩
theorem layR_take {n : Nat} {ws : List Int} (hb : ∀ w ∈ ws, 1 ≤ w ∧ w ≤ n) (hl : ws.length ≤ n) (i : Nat) : LayR n (ws.take i) := layR n _ (fun w hw => hb w (List.mem_of_mem_take hw)) (by rw [List.length_take]; omega)
theorem step_ex {n : Nat} {ws : List Int} {i : Nat} {w : Int} (hb : ∀ w ∈ ws, 1 ≤ w ∧ w ≤ n) (hl : ws.length ≤ n) (h : ws[i]? = some w) : ∃ b, rfree n (rrun n (ws.take i)).1 w = some b ∧ 1 ≤ b ∧ b ≤ n ∧ rrun n (ws.take (i + 1)) = (setO (rrun n (ws.take i)).1 b, (rrun n (ws.take i)).2 ++ [b]) := by
  have hi := (List.getElem?_eq_some_iff.mp h).1
  obtain ⟨b, e⟩ := rfree_ex (n := n) (w := w) (layR_take hb hl i).occ (by rw [placedR_len, List.length_take]; omega)
  obtain ⟨b1, b2, b3⟩ := rfree_some (hb w (List.mem_of_getElem? h)).1 e
  refine ⟨b, e, b1, b2, ?_⟩
  rw [rrun_more h]
  unfold rstep
  rw [e]
  rfl
def allB (n : Nat) : List Int := (List.range n).map fun (i : Nat) => (1 : Int) + i
theorem mem_allB {n : Nat} {x : Int} : x ∈ allB n ↔ 1 ≤ x ∧ x ≤ n := by
  unfold allB
  simp only [List.mem_map, List.mem_range]
  constructor
  · rintro ⟨i, hi, rfl⟩
    omega
  · rintro ⟨h1, h2⟩
    exact ⟨(x - 1).toNat, by omega, by omega⟩
theorem allB_sorted {n : Nat} : (allB n).Pairwise (· < ·) := by
  unfold allB
  rw [List.pairwise_map]
  exact List.Pairwise.imp (fun h => by omega) List.pairwise_lt_range
def leftR (n : Nat) (ws : List Int) : List Int := (allB n).filter fun b => !decide (b ∈ placedR n ws)
theorem mem_left {n : Nat} {ws : List Int} {x : Int} : x ∈ leftR n ws ↔ (1 ≤ x ∧ x ≤ n) ∧ x ∉ placedR n ws := by
  unfold leftR
  rw [List.mem_filter, mem_allB]
  simp
theorem left_sorted {n : Nat} {ws : List Int} : (leftR n ws).Pairwise (· < ·) := List.Pairwise.filter _ allB_sorted
theorem left_nodup {n : Nat} {ws : List Int} : (leftR n ws).Nodup := List.Pairwise.imp (fun h => Int.ne_of_lt h) left_sorted
/-! turning -/
def turn (n : Nat) (k w : Int) : Int := (w - 1 + k) % n + 1
theorem turn_bd {n : Nat} (hn : 1 ≤ n) (k w : Int) : 1 ≤ turn n k w ∧ turn n k w ≤ n := by
  unfold turn
  have b1 := Int.emod_nonneg (w - 1 + k) (show (n : Int) ≠ 0 by omega)
  have b2 := Int.emod_lt_of_pos (w - 1 + k) (show (0 : Int) < n by omega)
  omega
theorem turn_inj {n : Nat} {k x y : Int} (hx : 1 ≤ x ∧ x ≤ n) (hy : 1 ≤ y ∧ y ≤ n) (h : turn n k x = turn n k y) : x = y := by
  unfold turn at h
  have h' : (x - 1 + k) % n = (y - 1 + k) % n := by omega
  have d : ((n : Int)) ∣ (x - y) := by
    have := Int.emod_emod_of_dvd
    have e := Int.sub_emod (x - 1 + k) (y - 1 + k) n
    rw [h', Int.sub_self, Int.zero_emod] at e
    have e2 : x - 1 + k - (y - 1 + k) = x - y := by omega
    rw [e2] at e
    exact Int.dvd_of_emod_eq_zero e
  obtain ⟨c, hc⟩ := d
  have : c = 0 := by
    by_cases z : c = 0
    · exact z
    · exfalso
      rcases Int.lt_or_gt_of_ne z with q | q
      · have : (n : Int) * c ≤ (n : Int) * (-1) := Int.mul_le_mul_of_nonneg_left (by omega) (by omega)
        omega
      · have : (n : Int) * 1 ≤ (n : Int) * c := Int.mul_le_mul_of_nonneg_left (by omega) (by omega)
        omega
  rw [this] at hc
  omega
/-- the j-th berth going round from w -/
def cyc (n : Nat) (w : Int) (j : Nat) : Int := turn n (j : Int) w
theorem cyc_lo {n : Nat} {w : Int} {j : Nat} (hw : 1 ≤ w) (h : w + j ≤ n) : cyc n w j = w + j := by
  unfold cyc turn
  rw [Int.emod_eq_of_lt (by omega) (by omega)]
  omega
theorem cyc_hi {n : Nat} {w : Int} {j : Nat} (hw : 1 ≤ w ∧ w ≤ n) (hj : j < n) (h : (n : Int) < w + j) : cyc n w j = w + j - n := by
  unfold cyc turn
  have e : w - 1 + (j : Int) = (w - 1 + j - n) + n := by omega
  rw [e, Int.add_emod_right, Int.emod_eq_of_lt (by omega) (by omega)]
  omega
theorem cyc_turn {n : Nat} {w k : Int} {j : Nat} : cyc n (turn n k w) j = turn n k (cyc n w j) := by
  unfold cyc turn
  have e1 : (w - 1 + k) % (n : Int) + 1 - 1 + (j : Int) = (w - 1 + k) % n + j := by omega
  have e2 : (w - 1 + (j : Int)) % (n : Int) + 1 - 1 + k = (w - 1 + j) % n + k := by omega
  rw [e1, e2, Int.emod_add_emod, Int.emod_add_emod]
  congr 2
  omega
theorem rfree_is {n : Nat} {occ : Int → Bool} {w : Int} {j : Nat} (hw : 1 ≤ w ∧ w ≤ n) (hj : j < n) (h1 : occ (cyc n w j) = false) (h2 : ∀ i, i < j → occ (cyc n w i) = true) : rfree n occ w = some (cyc n w j) := by
  unfold rfree
  by_cases z : w + j ≤ n
  · rw [cyc_lo hw.1 z] at h1 ⊢
    rw [ffree_is (by omega) z h1 fun x x1 x2 => ?_]
    have := h2 (x - w).toNat (by omega)
    rw [cyc_lo hw.1 (by omega)] at this
    rw [show w + (((x - w).toNat : Nat) : Int) = x by omega] at this
    exact this
  · rw [cyc_hi hw hj (by omega)] at h1 ⊢
    rw [ffree_non fun x x1 x2 => ?_]
    · show ffree n occ 1 = _
      rw [ffree_is (by omega) (by omega) h1 fun x x1 x2 => ?_]
      have := h2 (x + n - w).toNat (by omega)
      rw [cyc_hi hw (by omega) (by omega)] at this
      rw [show w + (((x + n - w).toNat : Nat) : Int) - n = x by omega] at this
      exact this
    · have := h2 (x - w).toNat (by omega)
      rw [cyc_lo hw.1 (by omega)] at this
      rw [show w + (((x - w).toNat : Nat) : Int) = x by omega] at this
      exact this
theorem rfree_cyc {n : Nat} {occ : Int → Bool} {w b : Int} (hw : 1 ≤ w ∧ w ≤ n) (h : rfree n occ w = some b) : ∃ j, j < n ∧ b = cyc n w j ∧ occ b = false ∧ ∀ i, i < j → occ (cyc n w i) = true := by
  unfold rfree at h
  cases e : ffree n occ w with
  | some c =>
    rw [e] at h
    cases h
    obtain ⟨c1, c2, c3, c4⟩ := ffree_some e
    refine ⟨(b - w).toNat, by omega, ?_, c3, fun i hi => ?_⟩
    · rw [cyc_lo hw.1 (by omega)]
      omega
    · rw [cyc_lo hw.1 (by omega)]
      exact c4 _ (by omega) (by omega)
  | none =>
    rw [e] at h
    have f := ffree_none e
    obtain ⟨c1, c2, c3, c4⟩ := ffree_some h
    have hbw : b < w := by
      by_cases z : b < w
      · exact z
      · rw [f b (by omega) c2] at c3
        cases c3
    refine ⟨(b + n - w).toNat, by omega, ?_, c3, fun i hi => ?_⟩
    · rw [cyc_hi hw (by omega) (by omega)]
      omega
    · by_cases z : w + (i : Int) ≤ n
      · rw [cyc_lo hw.1 z]
        exact f _ (by omega) z
      · rw [cyc_hi hw (by omega) (by omega)]
        exact c4 _ (by omega) (by omega)
/-- turned wishes: turned berths -/
theorem turned_run {n : Nat} (hn : 1 ≤ n) (k : Int) : ∀ ws : List Int, (∀ w ∈ ws, 1 ≤ w ∧ w ≤ n) → ws.length ≤ n → placedR n (ws.map (turn n k)) = (placedR n ws).map (turn n k) ∧ ∀ x : Int, 1 ≤ x → x ≤ n → (rrun n (ws.map (turn n k))).1 (turn n k x) = (rrun n ws).1 x := snoc_ind (fun _ _ => ⟨rfl, fun x _ _ => rfl⟩) fun ws w ih hb hl => by
  rw [List.length_append, List.length_singleton] at hl
  have hw := hb w (List.mem_append_right _ (List.mem_singleton.mpr rfl))
  have hb' : ∀ w ∈ ws, 1 ≤ w ∧ w ≤ n := fun x hx => hb x (List.mem_append_left _ hx)
  obtain ⟨i1, i2⟩ := ih hb' (by omega)
  have L := layR n ws hb' (by omega)
  obtain ⟨b, e⟩ := rfree_ex (n := n) (w := w) L.occ (by rw [placedR_len]; omega)
  obtain ⟨b1, b2, b3⟩ := rfree_some hw.1 e
  obtain ⟨j, j1, j2, j3, j4⟩ := rfree_cyc hw e
  have cb : ∀ i, 1 ≤ cyc n w i ∧ cyc n w i ≤ n := fun i => turn_bd hn _ _
  have e' : rfree n (rrun n (ws.map (turn n k))).1 (turn n k w) = some (turn n k b) := by
    rw [j2, ← cyc_turn]
    refine rfree_is (turn_bd hn _ _) j1 ?_ fun i hi => ?_
    · rw [cyc_turn, i2 _ (cb j).1 (cb j).2, ← j2]
      exact j3
    · rw [cyc_turn, i2 _ (cb i).1 (cb i).2]
      exact j4 i hi
  rw [List.map_append, List.map_singleton]
  unfold placedR at i1 ⊢
  rw [rrun_snoc, rrun_snoc]
  unfold rstep
  rw [e, e', i1]
  refine ⟨by simp, fun x x1 x2 => ?_⟩
  show setO (rrun n (ws.map (turn n k))).1 (turn n k b) (turn n k x) = setO (rrun n ws).1 b x
  unfold setO
  rw [i2 x x1 x2]
  congr 1
  by_cases z : x = b
  · rw [z, decide_eq_true rfl, decide_eq_true rfl]
  · rw [decide_eq_false z, decide_eq_false fun q => z (turn_inj ⟨x1, x2⟩ ⟨b1, b2⟩ q)]
theorem turned_placed {n : Nat} {k : Int} {ws : List Int} (hn : 1 ≤ n) (hb : ∀ w ∈ ws, 1 ≤ w ∧ w ≤ n) (hl : ws.length ≤ n) : placedR n (ws.map (turn n k)) = (placedR n ws).map (turn n k) := (turned_run hn k ws hb hl).1
theorem turn_back {n : Nat} {k x : Int} (hx : 1 ≤ x ∧ x ≤ n) : turn n k (turn n (-k) x) = x := by
  unfold turn
  have e : (x - 1 + -k) % (n : Int) + 1 - 1 + k = (x - 1 + -k) % n + k := by omega
  rw [e, Int.emod_add_emod]
  have e2 : x - 1 + -k + k = x - 1 := by omega
  rw [e2, Int.emod_eq_of_lt (by omega) (by omega)]
  omega
theorem turned_left {n : Nat} {k : Int} {ws : List Int} (hn : 1 ≤ n) (hb : ∀ w ∈ ws, 1 ≤ w ∧ w ≤ n) (hl : ws.length ≤ n) : leftR n (ws.map (turn n k)) = sortI ((leftR n ws).map (turn n k)) := by
  have L := layR n ws hb hl
  refine sortI_uniq ?_ (List.Pairwise.imp (fun h => Int.le_of_lt h) left_sorted)
  have nd2 : ((leftR n ws).map (turn n k)).Nodup := by
    rw [List.nodup_iff_pairwise_ne, List.pairwise_map]
    refine List.Pairwise.imp_of_mem (fun {x y} hx hy h => ?_) left_nodup
    exact fun z => h (turn_inj (mem_left.mp hx).1 (mem_left.mp hy).1 z)
  refine (List.perm_ext_iff_of_nodup left_nodup nd2).mpr fun x => ?_
  rw [mem_left, turned_placed hn hb hl]
  constructor
  · rintro ⟨hx, hnx⟩
    refine List.mem_map.mpr ⟨turn n (-k) x, mem_left.mpr ⟨turn_bd hn _ _, fun z => hnx ?_⟩, turn_back hx⟩
    have := List.mem_map_of_mem (f := turn n k) z
    rw [turn_back hx] at this
    exact this
  · intro h
    obtain ⟨y, hy, rfl⟩ := List.mem_map.mp h
    obtain ⟨y1, y2⟩ := mem_left.mp hy
    refine ⟨turn_bd hn _ _, fun z => ?_⟩
    obtain ⟨u, hu, eu⟩ := List.mem_map.mp z
    rw [turn_inj (L.bd u hu) y1 eu] at hu
    exact y2 hu
/-- as many are left as berths are more than ships -/
theorem left_len {n : Nat} {ws : List Int} (hb : ∀ w ∈ ws, 1 ≤ w ∧ w ≤ n) (hl : ws.length ≤ n) : (leftR n ws).length + ws.length = n := by
  have L := layR n ws hb hl
  have h1 : (leftR n ws ++ placedR n ws).Perm (upTo 1 n) := by
    refine (List.perm_ext_iff_of_nodup ?_ upTo_nodup).mpr fun x => ?_
    · rw [List.nodup_append]
      exact ⟨left_nodup, L.nd, fun x hx y hy e => (mem_left.mp hx).2 (e ▸ hy)⟩
    · rw [List.mem_append, mem_left, mem_upTo]
      constructor
      · rintro (⟨h, _⟩ | h)
        · omega
        · have := L.bd x h
          omega
      · intro h
        by_cases z : x ∈ placedR n ws
        · exact .inr z
        · exact .inl ⟨by omega, z⟩
  have := h1.length_eq
  rw [List.length_append, upTo_len, placedR_len] at this
  exact this

/-! ### the round quay -/
theorem tyb_isInt {K : PySem.W.Frag} {H : Hp} {x : V} {T : String} (h : TyB K H x T) : True := trivial
def sp_first_free_round (K : PySem.W.Frag) (a : Ad) : Sp := fun vs H Q _ => ∃ (h : Addr) (n : Nat) (occ : Int → Bool) (w : Int), vs = [.ref h, .int w] ∧ SqL K H h (heldL n occ) ∧ n ≤ 900 ∧ 0 ≤ w ∧ w ≤ 1000 ∧ Q (vO (rfree n occ w)) H
abbrev N_first_free_round : List Str := ["held", "wish", "berth"]
def t_first_free_round (K : PySem.W.Frag) (a : Ad) : TS :=
  (tSeq (tAsg (tCall (sp_first_free K a) [] E0 (tCons (tVar 0) (tCons (tVar 1) tNil))) (gName 2))
    (tSeq (tIfS (tB (tIsN (tVar 2))) (tRet (tCall (sp_first_free K a) [] E0 (tCons (tVar 0) (tCons (tC (.int 1)) tNil)))) tNext)
    (tRet (tVar 2))))
theorem len_first_free_round {K : PySem.W.Frag} {a : Ad} {vs : List V} {H : Hp} {Q : VK} {E : XK} (h : sp_first_free_round K a vs H Q E) : vs.length = 2 := by
  obtain ⟨h, n, occ, w, rfl, _⟩ := h
  rfl
theorem pu_first_free_round {K : PySem.W.Frag} {a : Ad} {vs : List V} {H : Hp} {Q : VK} {E : XK} (h : sp_first_free_round K a vs H Q E) : t_first_free_round K a { nx := fun _ H' => Q .non H', rt := Q } (start N_first_free_round vs) H := by
  obtain ⟨h, n, occ, w, rfl, hs, hn, h0, hw, q⟩ := h
  refine ⟨.ref h, rfl, .int w, rfl, h, n, occ, w, rfl, hs, hn, h0, hw, ?_⟩
  unfold rfree at q
  cases e0 : ffree n occ w with
  | none =>
    rw [e0] at q
    exact ⟨.non, rfl, true, rfl, iteT ⟨.ref h, rfl, h, n, occ, 1, rfl, hs, hn, by decide, by decide, q⟩⟩
  | some c =>
    rw [e0] at q
    exact ⟨.int c, rfl, false, rfl, iteF ⟨.int c, rfl, q⟩⟩
def sp_placed_round (K : PySem.W.Frag) (a : Ad) : Sp := fun vs H Q E => ∃ b w, vs = [b, w] ∧ ChkW K a b w H E fun n ws _ => (n < ws.length ∧ E (.ref a.e_TooMany) none H) ∨ (ws.length ≤ n ∧ ∀ (l : Addr) (H' : Hp), H l = none → Same H H' → H' l = some (.lst ((placedR n ws).map V.int)) → Q (.ref l) H')
abbrev N_placed_round : List Str := ["berths", "wishes", "held", "found", "wish", "berth"]
def t_placed_round (K : PySem.W.Frag) (a : Ad) (E : XK) : TS :=
  (tSeq (tDrop (tCall (sp_check_wishes K a) [] E (tCons (tVar 0) (tCons (tVar 1) tNil))))
    (tSeq (tIfS (tTest (tOp rGtI (tCB (rLenSq K) (tCons (tVar 1) tNil)) (tVar 0))) (tRaise a.e_TooMany E) tNext)
    (tSeq (tAsg (tOp rRep (tLst (tCons (tC (.bl false)) tNil)) (tOp rAddI (tVar 0) (tC (.int 1)))) (gName 2))
    (tSeq (tAsg (tLst tNil) (gName 3))
    (tSeq (tFor (iSeq K (tVar 1)) (gName 4)
    (tSeq (tAsg (tCall (sp_first_free_round K a) [] E0 (tCons (tVar 2) (tCons (tVar 4) tNil))) (gName 5))
    (tSeq (tAsg (tC (.bl true)) (gSub (tVar 2) (tVar 5) rSetL))
    (tDrop (tBM K "list" rAppend (tVar 3) (tCons (tVar 5) tNil))))))
    (tRet (tVar 3)))))))
theorem len_placed_round {K : PySem.W.Frag} {a : Ad} {vs : List V} {H : Hp} {Q : VK} {E : XK} (h : sp_placed_round K a vs H Q E) : vs.length = 2 := by
  obtain ⟨b, w, rfl, _⟩ := h
  rfl
theorem pu_placed_round {K : PySem.W.Frag} {a : Ad} {vs : List V} {H : Hp} {Q : VK} {E : XK} (h : sp_placed_round K a vs H Q E) : t_placed_round K a E { nx := fun _ H' => Q .non H', rt := Q } (start N_placed_round vs) H := by
  obtain ⟨b, w, rfl, h⟩ := h
  refine ⟨b, rfl, w, rfl, b, w, rfl, ChkW.imp h fun n ws p eb ew h1 h2 hs hl hb r => ?_⟩
  subst eb
  subst ew
  refine ⟨.ref p, rfl, p, _, rfl, hs, .int n, rfl, _, n, rfl, rfl, _, rfl, ite2 (fun c => ?_) (fun c => ?_)⟩
  · have c : (n : Int) < ((ws.map V.int).length : Nat) := of_decide_eq_true c
    rw [List.length_map] at c
    rcases r with ⟨_, q⟩ | ⟨h, _⟩
    · exact q
    · omega
  have c : ¬ (n : Int) < ((ws.map V.int).length : Nat) := fun z => c (decide_eq_true z)
  rw [List.length_map] at c
  have hln : ws.length ≤ n := by omega
  have q : ∀ (l : Addr) (H' : Hp), H l = none → Same H H' → H' l = some (.lst ((placedR n ws).map V.int)) → Q (.ref l) H' := by
    rcases r with ⟨h, _⟩ | ⟨_, q⟩
    · omega
    · exact q
  refine ⟨by decide, fun l0 nl0 => ⟨.int n, rfl, n, 1, rfl, rfl, l0, _, _, rfl, rfl, upd_same, by omega, by omega, ?_, fun l1 nl1 => ?_⟩⟩
  · refine l1000 ?_
    show 1 * _ ≤ _
    omega
  have e1 : ((n : Int) + 1).toNat = n + 1 := by omega
  rw [e1, heldL_new]
  have s0 : Same H (upd H l0 (.lst [.bl false])) := same_new nl0
  have n1 : H l1 = none := s0.free nl1
  have s1 := s0.store n1 (o := .lst (heldL n fun _ => false))
  refine ⟨Nat.zero_le _, fun l2 nl2 => ?_⟩
  have n2 : H l2 = none := s1.free nl2
  have hne : l1 ≠ l2 := ne_of_none upd_same nl2
  refine for_seq (K := K) (H0 := H) (fun Q q => ⟨.ref p, rfl, q⟩) hs (fun i σ H' => (∃ y z, σ = [some (.int n), some (.ref p), some (.ref l1), some (.ref l2), y, z]) ∧ Same H H' ∧ H' l1 = some (.lst (heldL n (rrun n (ws.take i)).1)) ∧ H' l2 = some (.lst ((rrun n (ws.take i)).2.map V.int))) ⟨⟨none, none, rfl⟩, s1.store n2, by rw [upd_ne hne]; exact upd_same, upd_same⟩ (fun i σ H' h => h.2.1) ?_ ?_
  · rintro i x σ H' hx ⟨⟨y, z, rfl⟩, s, eh, ef⟩
    obtain ⟨w, hw, rfl⟩ := item_of hx
    have bw := hb w (List.mem_of_getElem? hw)
    obtain ⟨b, e, b1, b2, step⟩ := step_ex hb hln hw
    have fl : (rrun n (ws.take i)).2.length < sizeLine := by
      rw [rrun_len, List.length_take]
      exact small1000 (by omega)
    -- behind the berth's finding
    have rest : ∀ y, (tSeq (tAsg (tC (.bl true)) (gSub (tVar 2) (tVar 5) rSetL)) (tDrop (tBM K "list" rAppend (tVar 3) (tCons (tVar 5) tNil)))) { nx := fun σ H' => (∃ y z, σ = [some (.int n), some (.ref p), some (.ref l1), some (.ref l2), y, z]) ∧ Same H H' ∧ H' l1 = some (.lst (heldL n (rrun n (ws.take (i + 1))).1)) ∧ H' l2 = some (.lst ((rrun n (ws.take (i + 1))).2.map V.int)), rt := Q, bk := fun σ H => tRet (tVar 3) { nx := fun _ H' => Q .non H', rt := Q } σ H, ct := fun σ H' => (∃ y z, σ = [some (.int n), some (.ref p), some (.ref l1), some (.ref l2), y, z]) ∧ Same H H' ∧ H' l1 = some (.lst (heldL n (rrun n (ws.take (i + 1))).1)) ∧ H' l2 = some (.lst ((rrun n (ws.take (i + 1))).2.map V.int)) } [some (.int n), some (.ref p), some (.ref l1), some (.ref l2), y, some (.int b)] H' := by
      intro y
      refine ⟨.ref l1, rfl, .int b, rfl, l1, _, b, b.toNat, rfl, rfl, eh, ?_, ?_⟩
      · unfold ixN
        rw [if_pos (by omega), heldL_len, if_pos (by omega)]
      rw [heldL_set (by omega) b2]
      have ef' : (upd H' l1 (.lst (heldL n (setO (rrun n (ws.take i)).1 b)))) l2 = some (.lst ((rrun n (ws.take i)).2.map V.int)) := by rw [upd_ne hne.symm]; exact ef
      refine ⟨.ref l2, rfl, .inl ⟨rfl, _, .inl (.inl ef')⟩, .int b, rfl, l2, _, _, rfl, rfl, ef', by rw [List.length_map]; exact fl, ?_⟩
      refine ⟨⟨_, _, rfl⟩, (s.store n1).store n2, ?_, ?_⟩
      · rw [upd_ne hne, upd_same, step]
      · rw [upd_same, step, List.map_append]
        rfl
    refine ⟨.ref l1, rfl, .int w, rfl, l1, n, _, w, rfl, .inl (.inl eh), by omega, by omega, by omega, ?_⟩
    rw [e]
    exact rest _
  · rintro σ H' ⟨⟨y, z, rfl⟩, s, eh, ef⟩
    rw [List.length_map, List.take_length] at ef
    exact ⟨.ref l2, rfl, q l2 H' n2 s ef⟩
theorem inV_ints {x : Int} {l : List Int} : inV (.int x) (l.map V.int) = decide (x ∈ l) := by
  unfold inV
  rw [List.any_map, Bool.eq_iff_iff, List.any_eq_true, decide_eq_true_eq]
  constructor
  · rintro ⟨y, hy, e⟩
    have e' : eqV (.int y) (.int x) = true := e
    have : y = x := by simpa [eqV] using e'
    exact this ▸ hy
  · intro h
    exact ⟨x, h, by show eqV (.int x) (.int x) = true; simp [eqV]⟩
theorem flat_ints {l : List Int} : (l.map V.int).all flatV = true := by
  rw [List.all_map, List.all_eq_true]
  intro x _
  rfl
def sp_left_over (K : PySem.W.Frag) (a : Ad) : Sp := fun vs H Q E => ∃ b w, vs = [b, w] ∧ ChkW K a b w H E fun n ws _ => (n < ws.length ∧ E (.ref a.e_TooMany) none H) ∨ (ws.length ≤ n ∧ ∀ (l : Addr) (H' : Hp), H l = none → Same H H' → H' l = some (.lst ((leftR n ws).map V.int)) → Q (.ref l) H')
abbrev N_left_over : List Str := ["berths", "wishes", "found", "berth"]
def t_left_over (K : PySem.W.Frag) (a : Ad) (E : XK) : TS :=
  (tSeq (tAsg (tCall (sp_placed_round K a) [] E (tCons (tVar 0) (tCons (tVar 1) tNil))) (gName 2))
    (tRet (tLc (iRng2 (tCons (tC (.int 1)) (tCons (tOp rAddI (tVar 0) (tC (.int 1))) tNil))) (gName 3) (tTest (tOp (rIn K true) (tVar 3) (tVar 2))) (tVar 3) [3])))
theorem len_left_over {K : PySem.W.Frag} {a : Ad} {vs : List V} {H : Hp} {Q : VK} {E : XK} (h : sp_left_over K a vs H Q E) : vs.length = 2 := by
  obtain ⟨b, w, rfl, _⟩ := h
  rfl
theorem allB_at {n i : Nat} {x : Int} (h : (allB n)[i]? = some x) : x = 1 + (i : Int) := by
  unfold allB at h
  obtain ⟨h1, h2⟩ := List.getElem?_eq_some_iff.mp h
  rw [List.getElem_map, List.getElem_range] at h2
  exact h2.symm
theorem pu_left_over {K : PySem.W.Frag} {a : Ad} {vs : List V} {H : Hp} {Q : VK} {E : XK} (h : sp_left_over K a vs H Q E) : t_left_over K a E { nx := fun _ H' => Q .non H', rt := Q } (start N_left_over vs) H := by
  obtain ⟨b, w, rfl, h⟩ := h
  refine ⟨b, rfl, w, rfl, b, w, rfl, ChkW.imp h fun n ws p eb ew h1 h2 hs hl hb r => ?_⟩
  rcases r with r | ⟨hln, q⟩
  · exact .inl r
  refine .inr ⟨hln, fun l H1 nl s el => ?_⟩
  have en : ((n : Int) + 1 - 1).toNat = n := by omega
  refine ⟨b, rfl, n, 1, eb, rfl, 1, (n : Int) + 1, rfl, ⟨by omega, by omega, by omega, by omega⟩, ?_⟩
  rw [en]
  refine lc_pure (walk_range (lo := 1) (n := n)) (small1000 (by omega)) (allB n) (by simp [allB]) (fun x => !decide (x ∈ placedR n ws)) V.int (fun _ _ => trivial) ?_ ?_
  · intro j x v H5 H6 R hx2 s5 hy k
    obtain ⟨rfl, hv⟩ := hy
    have ev := allB_at hx2
    replace hv : v = .int (1 + (j : Int)) := hv
    rw [← ev] at hv
    subst hv
    refine ⟨rfl, .int x, rfl, .ref l, rfl, l, _, rfl, .inl (sqL_of (s5 _ _ el)), rfl, flat_ints, _, rfl, ?_⟩
    rw [if_pos rfl, inV_ints]
    have kk := k (.int x) _ (Same.refl _) fun _ => rfl
    cases e : (!decide (x ∈ placedR n ws)) with
    | true =>
      rw [e] at kk
      exact iteT ⟨.int x, rfl, kk⟩
    | false =>
      have kk := k .non _ (Same.refl _) fun z => by rw [e] at z; cases z
      rw [e] at kk
      exact iteF kk
  · intro D H2 nD s2 eD
    exact q D H2 (s.free nD) (s.trans s2) eD
def sp_turned (K : PySem.W.Frag) (a : Ad) : Sp := fun vs H Q E => ∃ b w y, vs = [b, w, y] ∧ ChkW K a b w H E fun n ws _ => ∃ T, TyB K H y T ∧ ((isInt y = false ∧ E (.ref a.e_NoCount) none H) ∨ ∃ k : Int, y = .int k ∧ ∀ (l : Addr) (H' : Hp), H l = none → Same H H' → H' l = some (.lst ((ws.map (turn n k)).map V.int)) → Q (.ref l) H')
abbrev N_turned : List Str := ["berths", "wishes", "by", "wish"]
def t_turned (K : PySem.W.Frag) (a : Ad) (E : XK) : TS :=
  (tSeq (tDrop (tCall (sp_check_wishes K a) [] E (tCons (tVar 0) (tCons (tVar 1) tNil))))
    (tSeq (tIfS (tNot (tB (tCall (sp_is_number K a) [] E0 (tCons (tVar 2) tNil)))) (tRaise a.e_NoCount E) tNext)
    (tRet (tLc (iSeq K (tVar 1)) (gName 3) tYes (tOp rAddI (tOp rModI (tOp rAddI (tOp rSubI (tVar 3) (tC (.int 1))) (tVar 2)) (tVar 0)) (tC (.int 1))) [3]))))
theorem len_turned {K : PySem.W.Frag} {a : Ad} {vs : List V} {H : Hp} {Q : VK} {E : XK} (h : sp_turned K a vs H Q E) : vs.length = 3 := by
  obtain ⟨b, w, y, rfl, _⟩ := h
  rfl
theorem pu_turned {K : PySem.W.Frag} {a : Ad} {vs : List V} {H : Hp} {Q : VK} {E : XK} (h : sp_turned K a vs H Q E) : t_turned K a E { nx := fun _ H' => Q .non H', rt := Q } (start N_turned vs) H := by
  obtain ⟨b, w, y, rfl, h⟩ := h
  refine ⟨b, rfl, w, rfl, b, w, rfl, ChkW.imp h fun n ws p eb ew h1 h2 hs hl hb r => ?_⟩
  subst eb
  subst ew
  obtain ⟨T, ty, r⟩ := r
  refine ⟨y, rfl, y, T, rfl, ty, isInt y, rfl, ?_⟩
  rcases r with ⟨e, q⟩ | ⟨k, rfl, q⟩
  · rw [e]
    exact iteT q
  refine iteF ?_
  have turnOk : ∀ {J : It} {Y : Nat → Hp → V → Hp → Prop} {G : Hp → Prop}, Walk J (ws.map V.int).length G Y → (∀ i H v H', Y i H v H' → H' = H ∧ (ws.map V.int)[i]? = some v) → (∀ H', Same H H' → G H') →
      ∀ D, H D = none → ∃ W : Nat → Nat → Hp → Prop, (∃ m, W 0 m (upd H D (.lst []))) ∧ ∀ i m H', W i m H' →
      (J.stop i H' ∧ Q (.ref D) H') ∨ (J.go i H' ∧ ∃ Nx : Hp → Prop, (∀ H', Nx H' → ∃ m', m' < m ∧ W (i + 1) m' H') ∧ ∀ x H'', J.yld i H' x H'' → gName 3 x (wipe [some (.int (n : Int)), some (.ref p), some (.int k), none] [3]) H'' fun σ2 H2 => wipe σ2 [3] = wipe [some (.int (n : Int)), some (.ref p), some (.int k), none] [3] ∧ tYes σ2 H2 fun b H3 =>
        if b = true then (tOp rAddI (tOp rModI (tOp rAddI (tOp rSubI (tVar 3) (tC (.int 1))) (tVar 2)) (tVar 0)) (tC (.int 1))) σ2 H3 fun y H4 => ∃ acc, H4 D = some (.lst acc) ∧ acc.length < sizeLine ∧ Nx (upd H4 D (.lst (acc ++ [y]))) else Nx H3) := by
    intro J Y G W hY hG
    refine lc_pure (Qd := fun D H' => Q (.ref D) H') W (by rw [List.length_map]; exact small1000 (by omega)) ws (by rw [List.length_map]) (fun _ => true) (fun x => V.int (turn n k x)) hG ?_ ?_
    · intro j x v H5 H6 R hx2 s5 hy kk
      obtain ⟨rfl, hv⟩ := hY _ _ _ _ hy
      rw [List.getElem?_map, hx2] at hv
      cases hv
      refine ⟨rfl, ?_⟩
      refine iteT (B := R false .non H6) ⟨.int x, rfl, x, 1, rfl, rfl, .int k, rfl, _, _, rfl, rfl, .int n, rfl, _, n, rfl, rfl, (by show (0 : Int) < n; omega), _, 1, rfl, rfl, kk _ _ (Same.refl _) fun _ => rfl⟩
    · intro D H2 nD s2 eD
      rw [List.filter_eq_self.mpr (fun _ _ => rfl)] at eD
      exact q D H2 nD s2 (by rw [eD, List.map_map]; rfl)
  rcases hs with hs | hs
  · exact .inl ⟨.ref p, rfl, p, rfl, ⟨_, hs⟩, turnOk (walk_list (K := K) (a := p)) (fun i H v H' y => y) (fun H' s' => s'.seq hs)⟩
  · exact .inr ⟨.ref p, rfl, p, rfl, ⟨_, hs⟩, turnOk (walk_tup (K := K) (a := p)) (fun i H v H' y => y) (fun H' s' => s'.seqT hs)⟩
def sp_turning (K : PySem.W.Frag) (a : Ad) : Sp := fun vs H Q E => ∃ b w, vs = [b, w] ∧ ChkW K a b w H E fun n ws _ => (ws.length + 1 ≠ n ∧ E (.ref a.e_NoWishes) none H) ∨ (ws.length + 1 = n ∧ ∀ (H' : Hp), Same H H' → Q (.int ((n : Int) - (leftR n ws).headD 0)) H')
abbrev N_turning : List Str := ["berths", "wishes"]
def t_turning (K : PySem.W.Frag) (a : Ad) (E : XK) : TS :=
  (tSeq (tDrop (tCall (sp_check_wishes K a) [] E (tCons (tVar 0) (tCons (tVar 1) tNil))))
    (tSeq (tIfS (tTest (tOp rNe (tCB (rLenSq K) (tCons (tVar 1) tNil)) (tOp rSubI (tVar 0) (tC (.int 1))))) (tRaise a.e_NoWishes E) tNext)
    (tRet (tOp rSubI (tVar 0) (tOp (rIxL K) (tCall (sp_left_over K a) [] E (tCons (tVar 0) (tCons (tVar 1) tNil))) (tC (.int 0)))))))
theorem len_turning {K : PySem.W.Frag} {a : Ad} {vs : List V} {H : Hp} {Q : VK} {E : XK} (h : sp_turning K a vs H Q E) : vs.length = 2 := by
  obtain ⟨b, w, rfl, _⟩ := h
  rfl
theorem pu_turning {K : PySem.W.Frag} {a : Ad} {vs : List V} {H : Hp} {Q : VK} {E : XK} (h : sp_turning K a vs H Q E) : t_turning K a E { nx := fun _ H' => Q .non H', rt := Q } (start N_turning vs) H := by
  obtain ⟨b, w, rfl, h⟩ := h
  refine ⟨b, rfl, w, rfl, b, w, rfl, ChkW.imp h fun n ws p eb ew h1 h2 hs hl hb r => ?_⟩
  subst eb
  subst ew
  refine ⟨.ref p, rfl, p, _, rfl, hs, .int n, rfl, n, 1, rfl, rfl, rfl, _, rfl, ite2 (fun c => ?_) (fun c => ?_)⟩
  · have c : (!decide (V.int (((ws.map V.int).length : Nat) : Int) = V.int ((n : Int) - 1))) = true := c
    rw [List.length_map] at c
    rcases r with ⟨_, q⟩ | ⟨h, _⟩
    · exact q
    · have e : ((ws.length : Nat) : Int) = (n : Int) - 1 := by omega
      rw [e, decide_eq_true rfl] at c
      cases c
  have c : ¬ (!decide (V.int (((ws.map V.int).length : Nat) : Int) = V.int ((n : Int) - 1))) = true := c
  rw [List.length_map] at c
  have hln : ws.length + 1 = n := by
    by_cases z : ws.length + 1 = n
    · exact z
    · exfalso
      apply c
      rw [decide_eq_false fun q => z (by have := V.int.inj q; omega)]
      rfl
  have q : ∀ (H' : Hp), Same H H' → Q (.int ((n : Int) - (leftR n ws).headD 0)) H' := by
    rcases r with ⟨h, _⟩ | ⟨_, q⟩
    · omega
    · exact q
  refine ⟨.int n, rfl, .int n, rfl, .ref p, rfl, _, _, rfl, ChkW.ok h1 h2 hs hl hb (.inr ⟨by omega, fun l H1 nl s el => ?_⟩)⟩
  have hlen := left_len hb (show ws.length ≤ n by omega)
  cases e : leftR n ws with
  | nil =>
    rw [e] at hlen
    simp at hlen
    omega
  | cons x r =>
    rw [e] at el q
    exact ⟨l, _, 0, .int x, rfl, rfl, sqL_of el, atI_nat (j := 0) rfl, n, x, rfl, rfl, q H1 s⟩

/-! ### crowded, is_good -/
def cntEq (l : List Int) (b : Int) : Nat := (l.filter fun w => decide (w = b)).length
theorem cntEq_snoc (l : List Int) (w b : Int) : cntEq (l ++ [w]) b = cntEq l b + if w = b then 1 else 0 := by
  unfold cntEq
  rw [List.filter_append, List.length_append]
  by_cases h : w = b <;> simp [List.filter, h]
theorem cntGe_step (l : List Int) (b : Int) : cntGe l b = cntGe l (b + 1) + cntEq l b := by
  refine snoc_ind (p := fun l => cntGe l b = cntGe l (b + 1) + cntEq l b) rfl (fun l w ih => ?_) l
  rw [cntGe_snoc, cntGe_snoc, cntEq_snoc, ih]
  by_cases h1 : w = b
  · subst h1
    rw [if_pos (Int.le_refl _), if_neg (by omega), if_pos rfl]
    omega
  · rw [if_neg h1]
    by_cases h2 : b ≤ w
    · rw [if_pos h2, if_pos (by omega)]
      omega
    · rw [if_neg h2, if_neg (by omega)]
      omega
theorem cntGe_top {n : Nat} {ws : List Int} (hb : ∀ w ∈ ws, 1 ≤ w ∧ w ≤ n) : cntGe ws ((n : Int) + 1) = 0 := by
  unfold cntGe
  rw [List.length_eq_zero_iff, List.filter_eq_nil_iff]
  intro w hw
  have := hb w hw
  simp only [decide_eq_true_eq]
  omega
def tallyL (n : Nat) (ws : List Int) : List V := (List.range (n + 1)).map fun (i : Nat) => V.int (cntEq ws (i : Int))
theorem tallyL_at {n : Nat} {ws : List Int} {i : Nat} (h : i ≤ n) : (tallyL n ws)[i]? = some (.int (cntEq ws (i : Int))) := by
  unfold tallyL
  rw [List.getElem?_map, List.getElem?_range (by omega)]
  rfl
theorem tallyL_len {n : Nat} {ws : List Int} : (tallyL n ws).length = n + 1 := by simp [tallyL]
theorem tallyL_set {n : Nat} {ws : List Int} {w : Int} (h0 : 0 ≤ w) (h : w ≤ n) : (tallyL n ws).set w.toNat (.int (cntEq ws w + 1)) = tallyL n (ws ++ [w]) := by
  apply List.ext_getElem?
  intro i
  by_cases hi : i ≤ n
  · rw [tallyL_at hi, cntEq_snoc]
    by_cases e : i = w.toNat
    · subst e
      rw [List.getElem?_set_self (by rw [tallyL_len]; omega)]
      have : ((w.toNat : Nat) : Int) = w := by omega
      rw [this, if_pos rfl]
      rfl
    · rw [List.getElem?_set_ne (Ne.symm e), tallyL_at hi]
      have : ¬ w = ((i : Nat) : Int) := by omega
      rw [if_neg this]
      rfl
  · rw [List.getElem?_eq_none (show ((tallyL n ws).set w.toNat (.int (cntEq ws w + 1))).length ≤ i by rw [List.length_set, tallyL_len]; omega), List.getElem?_eq_none (show (tallyL n (ws ++ [w])).length ≤ i by rw [tallyL_len]; omega)]
theorem tallyL_new {n : Nat} : (List.replicate (n + 1) [V.int 0]).flatten = tallyL n [] := by
  apply List.ext_getElem?
  intro i
  have e : (List.replicate (n + 1) [V.int 0]).flatten = List.replicate (n + 1) (V.int 0) := by
    generalize n + 1 = m
    induction m with
    | zero => rfl
    | succ m ih => rw [List.replicate_succ, List.replicate_succ, List.flatten_cons, ih]; rfl
  rw [e]
  by_cases hi : i ≤ n
  · rw [tallyL_at hi, List.getElem?_replicate_of_lt (by omega)]
    rfl
  · rw [List.getElem?_eq_none (show (List.replicate (n + 1) (V.int 0)).length ≤ i by rw [List.length_replicate]; omega), List.getElem?_eq_none (show (tallyL n []).length ≤ i by rw [tallyL_len]; omega)]
theorem downTo_at {n i : Nat} (h : i < n) : (downTo n)[i]? = some ((n : Int) - i) := by
  unfold downTo
  rw [List.getElem?_map, List.getElem?_range h]
  rfl
theorem find_drop {α : Type} {p : α → Bool} {l : List α} {i : Nat} {x : α} (h : l[i]? = some x) : (l.drop i).find? p = if p x = true then some x else (l.drop (i + 1)).find? p := by
  obtain ⟨hi, rfl⟩ := List.getElem?_eq_some_iff.mp h
  rw [List.drop_eq_getElem_cons hi, List.find?_cons]
  cases p l[i] <;> rfl
def sp_crowded (K : PySem.W.Frag) (a : Ad) : Sp := fun vs H Q E => ∃ b w, vs = [b, w] ∧ ChkW K a b w H E fun n ws _ => ∀ (H' : Hp), Same H H' → Q (vO (crowdedL n ws)) H'
abbrev N_crowded : List Str := ["berths", "wishes", "tally", "wish", "many", "berth"]
def t_crowded (K : PySem.W.Frag) (a : Ad) (E : XK) : TS :=
  (tSeq (tDrop (tCall (sp_check_wishes K a) [] E (tCons (tVar 0) (tCons (tVar 1) tNil))))
    (tSeq (tAsg (tOp rRep (tLst (tCons (tC (.int 0)) tNil)) (tOp rAddI (tVar 0) (tC (.int 1)))) (gName 2))
    (tSeq (tFor (iSeq K (tVar 1)) (gName 3)
    (tAugS (tVar 2) (tVar 3) (tC (.int 1)) (rIxL K) ipAdd rSetL))
    (tSeq (tAsg (tC (.int 0)) (gName 4))
    (tSeq (tFor (iRng3 (tCons (tVar 0) (tCons (tC (.int 0)) (tCons (tUn (rU fun i => .int (-i)) (tC (.int 1))) tNil)))) (gName 5)
    (tSeq (tAug 4 (tOp (rIxL K) (tVar 2) (tVar 5)) ipAdd)
    (tIfS (tTest (tOp rGtI (tVar 4) (tOp rAddI (tOp rSubI (tVar 0) (tVar 5)) (tC (.int 1))))) (tRet (tVar 5)) tNext)))
    (tRet (tC .non)))))))
theorem len_crowded {K : PySem.W.Frag} {a : Ad} {vs : List V} {H : Hp} {Q : VK} {E : XK} (h : sp_crowded K a vs H Q E) : vs.length = 2 := by
  obtain ⟨b, w, rfl, _⟩ := h
  rfl
theorem pu_crowded {K : PySem.W.Frag} {a : Ad} {vs : List V} {H : Hp} {Q : VK} {E : XK} (h : sp_crowded K a vs H Q E) : t_crowded K a E { nx := fun _ H' => Q .non H', rt := Q } (start N_crowded vs) H := by
  obtain ⟨b, w, rfl, h⟩ := h
  refine ⟨b, rfl, w, rfl, b, w, rfl, ChkW.imp h fun n ws p eb ew h1 h2 hs hl hb q => ?_⟩
  subst eb
  subst ew
  -- tally = [0] * (berths + 1)
  refine ⟨by decide, fun l0 nl0 => ⟨.int n, rfl, n, 1, rfl, rfl, l0, _, _, rfl, rfl, upd_same, by omega, by omega, ?_, fun l1 nl1 => ?_⟩⟩
  · refine l1000 ?_
    show 1 * _ ≤ _
    omega
  have e1 : ((n : Int) + 1).toNat = n + 1 := by omega
  rw [e1, tallyL_new]
  have s0 : Same H (upd H l0 (.lst [.int 0])) := same_new nl0
  have n1 : H l1 = none := s0.free nl1
  have s1 := s0.store n1 (o := .lst (tallyL n []))
  refine for_seq (K := K) (H0 := H) (fun Q q => ⟨.ref p, rfl, q⟩) hs (fun i σ H' => (∃ y, σ = [some (.int n), some (.ref p), some (.ref l1), y, none, none]) ∧ Same H H' ∧ H' l1 = some (.lst (tallyL n (ws.take i)))) ⟨⟨none, rfl⟩, s1, upd_same⟩ (fun i σ H' h => h.2.1) ?_ ?_
  · rintro i x σ H' hx ⟨⟨y, rfl⟩, s, eh⟩
    obtain ⟨w, hw, rfl⟩ := item_of hx
    have bw := hb w (List.mem_of_getElem? hw)
    have ex : (tallyL n (ws.take i))[w.toNat]? = some (.int (cntEq (ws.take i) w)) := by
      rw [tallyL_at (by omega)]
      have : ((w.toNat : Nat) : Int) = w := by omega
      rw [this]
    refine ⟨.ref l1, rfl, .int w, rfl, l1, _, w, _, rfl, rfl, sqL_of eh, at_of (j := w.toNat) (by omega) ex, _, 1, rfl, rfl, l1, _, w, w.toNat, rfl, rfl, eh, ?_, ?_⟩
    · unfold ixN
      rw [if_pos (by omega), tallyL_len, if_pos (by omega)]
    refine ⟨⟨_, rfl⟩, s.store n1, ?_⟩
    rw [upd_same]
    rw [tallyL_set (by omega) bw.2, take_more hw]
  · rintro σ H' ⟨⟨y, rfl⟩, s, eh⟩
    rw [List.length_map, List.take_length] at eh
    refine ⟨.int n, rfl, _, rfl, n, 0, -1, ((n : Int) - 0).toNat, rfl, RgC.neg (by omega) (by omega) (by omega) (by omega), ?_⟩
    have en : ((n : Int) - 0).toNat = n := by omega
    rw [en]
    refine for_it walk_rangeC (fun i σ H2 => H2 = H' ∧ (∃ z, σ = [some (.int n), some (.ref p), some (.ref l1), y, some (.int (cntGe ws ((n : Int) - i + 1))), z]) ∧ crowdedL n ws = ((downTo n).drop i).find? fun b => decide ((n : Int) - b + 1 < (cntGe ws b : Int))) ⟨rfl, ⟨none, ?_⟩, rfl⟩ (fun _ _ _ _ _ => trivial) ?_ ?_
    · rw [show (n : Int) - ((0 : Nat) : Int) + 1 = (n : Int) + 1 by omega, cntGe_top hb]
      rfl
    · rintro i x σ H2 H3 hi ⟨rfl, ⟨z, rfl⟩, e⟩ ⟨rfl, ex0⟩
      rw [find_drop (downTo_at hi)] at e
      have ex : (tallyL n ws)[n - i]? = some (.int (cntEq ws ((n : Int) - i))) := by
        rw [tallyL_at (by omega)]
        have : (((n - i : Nat)) : Int) = (n : Int) - i := by omega
        rw [this]
      have ev : (n : Int) + (i : Int) * -1 = (n : Int) - i := by omega
      obtain rfl : x = .int ((n : Int) - i) := by
        rw [ex0]
        show V.int ((n : Int) + (i : Int) * -1) = _
        rw [ev]
      refine ⟨_, rfl, .ref l1, rfl, .int ((n : Int) - i), rfl, l1, _, (n : Int) - i, _, rfl, rfl, sqL_of eh, at_of (j := n - i) (by omega) ex, _, _, rfl, rfl, ?_⟩
      have step := cntGe_step ws ((n : Int) - i)
      refine ⟨_, rfl, .int n, rfl, .int ((n : Int) - i), rfl, n, _, rfl, rfl, _, 1, rfl, rfl, _, _, rfl, rfl, _, rfl, ?_⟩
      have e3 : ((cntGe ws ((n : Int) - i + 1) : Nat) : Int) + (cntEq ws ((n : Int) - i) : Nat) = (cntGe ws ((n : Int) - i) : Nat) := by omega
      refine ite2 (fun h => ?_) (fun h => ?_)
      · have h : (n : Int) - ((n : Int) - i) + 1 < ((cntGe ws ((n : Int) - i + 1) : Nat) : Int) + (cntEq ws ((n : Int) - i) : Nat) := of_decide_eq_true h
        rw [e3] at h
        rw [if_pos (decide_eq_true h)] at e
        refine ⟨.int ((n : Int) - i), rfl, ?_⟩
        have := q _ s
        rw [e] at this
        exact this
      · have h : ¬ (n : Int) - ((n : Int) - i) + 1 < ((cntGe ws ((n : Int) - i + 1) : Nat) : Int) + (cntEq ws ((n : Int) - i) : Nat) := fun z => h (decide_eq_true z)
        rw [e3] at h
        rw [if_neg (by simpa using h)] at e
        have e5 : ((cntGe ws ((n : Int) - i + 1) : Nat) : Int) + (cntEq ws ((n : Int) - i) : Nat) = (cntGe ws ((n : Int) - ((i + 1 : Nat) : Int) + 1) : Nat) := by
          rw [e3]
          have : (n : Int) - ((i + 1 : Nat) : Int) + 1 = (n : Int) - i := by omega
          rw [this]
        exact ⟨rfl, ⟨some (.int ((n : Int) - i)), congrArg (fun t => [some (V.int n), some (V.ref p), some (V.ref l1), y, some (V.int t), some (V.int ((n : Int) - i))]) e5⟩, e⟩
    · rintro σ H2 ⟨rfl, ⟨z, rfl⟩, e⟩
      have hd : (downTo n).drop n = [] := List.drop_eq_nil_of_le (by simp [downTo])
      rw [hd] at e
      have := q _ s
      rw [e] at this
      exact this
def sp_is_good (K : PySem.W.Frag) (a : Ad) : Sp := fun vs H Q E => ∃ b w, vs = [b, w] ∧ ChkW K a b w H E fun n ws _ => ∀ (H' : Hp), Same H H' → Q (.bl (crowdedL n ws).isNone) H'
abbrev N_is_good : List Str := ["berths", "wishes"]
def t_is_good (K : PySem.W.Frag) (a : Ad) (E : XK) : TS :=
  (tRet (tIsN (tCall (sp_crowded K a) [] E (tCons (tVar 0) (tCons (tVar 1) tNil)))))
theorem len_is_good {K : PySem.W.Frag} {a : Ad} {vs : List V} {H : Hp} {Q : VK} {E : XK} (h : sp_is_good K a vs H Q E) : vs.length = 2 := by
  obtain ⟨b, w, rfl, _⟩ := h
  rfl
theorem vO_isN (o : Option Int) : decide (vO o = .non) = o.isNone := by
  cases o <;> rfl
theorem pu_is_good {K : PySem.W.Frag} {a : Ad} {vs : List V} {H : Hp} {Q : VK} {E : XK} (h : sp_is_good K a vs H Q E) : t_is_good K a E { nx := fun _ H' => Q .non H', rt := Q } (start N_is_good vs) H := by
  obtain ⟨b, w, rfl, h⟩ := h
  refine ⟨b, rfl, w, rfl, b, w, rfl, ChkW.imp h fun n ws p eb ew h1 h2 hs hl hb q => ?_⟩
  intro H' s
  have := q H' s
  show Q (.bl (decide (vO (crowdedL n ws) = .non))) H'
  rw [vO_isN]
  exact this

/-! ### how many good wishes; the first and the last ones -/
def hmany (n k : Nat) : Int := if n < k then 0 else if k = 0 then 1 else ((n : Int) + 1 - k) * ((n : Int) + 1) ^ (k - 1)
def ChkR (K : PySem.W.Frag) (a : Ad) (hi : Nat) (s : V) (H : Hp) (E : XK) (R : Nat → Prop) : Prop := ∃ T, TyB K H s T ∧ ((inB 0 hi s = false ∧ E (.ref a.e_NoCount) none H) ∨ ∃ k : Nat, s = .int k ∧ k ≤ hi ∧ R k)
theorem ChkR.ok {K : PySem.W.Frag} {a : Ad} {hi k : Nat} {H : Hp} {E : XK} {R : Nat → Prop} (h : k ≤ hi) (r : R k) : ChkR K a hi (.int k) H E R := ⟨_, .int _, .inr ⟨k, rfl, h, r⟩⟩
theorem inB_nat {hi k : Nat} (h : k ≤ hi) : inB 0 hi (.int k) = true := by
  simp [inB]
  omega
theorem flat_repR (n : Nat) (x : Int) : (List.replicate n [V.int x]).flatten = (List.replicate n x).map V.int := by
  induction n with
  | zero => rfl
  | succ n ih => rw [List.replicate_succ, List.replicate_succ, List.flatten_cons, ih]; rfl
/-- (1,) * k -/
theorem ones_of {K : PySem.W.Frag} {te : TE} {σ : L2.St} {H : Hp} {Q : VK} {k : Nat} (hk : k ≤ 400) (ht : ∀ H1 : Hp, Same H H1 → ∀ Q' : VK, Q' (.int k) H1 → te σ H1 Q') (q : ∀ (l : Addr) (H' : Hp), Same H H' → H' l = some (.tup ((List.replicate k 1).map V.int)) → Q (.ref l) H') :
    (tOp (rRepTA K) (tTup (tCons (tC (.int 1)) tNil)) te) σ H Q := by
  refine ⟨l1000 (by show 1 ≤ 1000; decide), fun p np => ht _ (same_new np) _ ⟨p, k, _, rfl, rfl, sqT_of upd_same, (fun z => by cases z), by omega, by omega, (by show 1 ≤ 1000; decide), fun e => ?_, fun e l nl => ?_⟩⟩
  · refine q p _ (same_new np) ?_
    have e : k = 1 := by omega
    rw [e, upd_same]
    rfl
  · refine q l _ ((same_new np).store (same_new np |>.free nl)) ?_
    rw [upd_same, show ((k : Int)).toNat = k by omega, flat_repR]
def downs (n k : Nat) : List Int := (List.range k).map fun (i : Nat) => (n : Int) - i
theorem rgD_downs {n k : Nat} {c : Int} (h : c = (n : Int) - k) : rgD n c = (downs n k).map V.int := by
  unfold rgD downs
  rw [show ((n : Int) - c).toNat = k by omega, List.map_map]
  rfl
theorem downs_take {n k : Nat} (h : k ≤ n) : (downs n n).take k = downs n k := by
  unfold downs
  rw [← List.map_take, List.take_range, Nat.min_eq_left h]
/-! ### the next good wishes: the mathematics -/
theorem cntGe_append (a b : List Int) (x : Int) : cntGe (a ++ b) x = cntGe a x + cntGe b x := by
  unfold cntGe
  rw [List.filter_append, List.length_append]
theorem cntGe_one (y x : Int) : cntGe [y] x = if x ≤ y then 1 else 0 := by
  unfold cntGe
  by_cases h : x ≤ y <;> simp [h]
theorem cntGe_all {l : List Int} {b : Int} (h : ∀ x ∈ l, b ≤ x) : cntGe l b = l.length := by
  unfold cntGe
  rw [List.filter_eq_self.mpr fun x hx => decide_eq_true (h x hx)]
theorem cntGe_ones {m : Nat} {b : Int} (h : 2 ≤ b) : cntGe (List.replicate m 1) b = 0 := by
  unfold cntGe
  rw [List.length_eq_zero_iff, List.filter_eq_nil_iff]
  intro x hx
  rw [(List.mem_replicate.mp hx).2, decide_eq_true_eq]
  omega
def Good (n : Nat) (ws : List Int) : Prop := crowdedL n ws = none
theorem good_def {n : Nat} {ws : List Int} : Good n ws ↔ ∀ b : Int, 1 ≤ b → b ≤ n → (cntGe ws b : Int) ≤ n - b + 1 := crowded_none
theorem good_len {n : Nat} {ws : List Int} (hn : 1 ≤ n) (h : Good n ws) (h1 : ∀ x ∈ ws, 1 ≤ x) : ws.length ≤ n := by
  have := good_def.mp h 1 (by omega) (by omega)
  rw [cntGe_all h1] at this
  omega
theorem good_pre {n : Nat} {a b : List Int} (h : Good n (a ++ b)) : Good n a := good_def.mpr fun x h1 h2 => by
  have := good_def.mp h x h1 h2
  rw [cntGe_append] at this
  omega
theorem good_ones {n m : Nat} {a : List Int} (h : Good n a) (hl : a.length + m ≤ n) : Good n (a ++ List.replicate m 1) := good_def.mpr fun x h1 h2 => by
  rw [cntGe_append]
  by_cases hx : x = 1
  · have e1 := cntGe_le a x
    have e2 := cntGe_le (List.replicate m 1) x
    rw [List.length_replicate] at e2
    omega
  · rw [cntGe_ones (by omega)]
    have := good_def.mp h x h1 h2
    omega
theorem good_low {n : Nat} {a : List Int} {x y : Int} (h : Good n (a ++ [y])) (hxy : x ≤ y) : Good n (a ++ [x]) := good_def.mpr fun b h1 h2 => by
  have := good_def.mp h b h1 h2
  rw [cntGe_append, cntGe_one] at this ⊢
  by_cases c : b ≤ x
  · rw [if_pos c]
    rw [if_pos (by omega)] at this
    exact this
  · rw [if_neg c]
    split at this <;> omega
/-- wishes that go up by one at s, and their like -/
def upTo1 (row : List Int) (s : Nat) : List Int := row.take s ++ [row.getD s 0 + 1]
def upB (n : Nat) (row : List Int) (s : Nat) : Bool := decide (row.getD s 0 < n) && (crowdedL n (upTo1 row s)).isNone
def nextF (n : Nat) (row : List Int) : Nat → Option (List Int)
  | 0 => none
  | s + 1 => if upB n row s = true then some (upTo1 row s ++ List.replicate (row.length - (s + 1)) 1) else nextF n row s
def nextL (n : Nat) (row : List Int) : Option (List Int) := nextF n row row.length
theorem nextF_some {n : Nat} {row f : List Int} : ∀ {k : Nat}, nextF n row k = some f → ∃ s, s < k ∧ upB n row s = true ∧ (∀ j, s < j → j < k → upB n row j = false) ∧ f = upTo1 row s ++ List.replicate (row.length - (s + 1)) 1
  | 0, h => by cases h
  | k + 1, h => by
    unfold nextF at h
    cases e : upB n row k with
    | true =>
      rw [if_pos e] at h
      exact ⟨k, by omega, e, fun j h1 h2 => by omega, (Option.some.inj h).symm⟩
    | false =>
      rw [if_neg (by rw [e]; exact Bool.false_ne_true)] at h
      obtain ⟨s, s1, s2, s3, s4⟩ := nextF_some h
      refine ⟨s, by omega, s2, fun j h1 h2 => ?_, s4⟩
      by_cases z : j = k
      · rw [z]; exact e
      · exact s3 j h1 (by omega)
theorem nextF_none {n : Nat} {row : List Int} : ∀ {k : Nat}, nextF n row k = none → ∀ j, j < k → upB n row j = false
  | 0, _, j, hj => by omega
  | k + 1, h, j, hj => by
    unfold nextF at h
    cases e : upB n row k with
    | true =>
      rw [if_pos e] at h
      cases h
    | false =>
      rw [if_neg (by rw [e]; exact Bool.false_ne_true)] at h
      by_cases z : j = k
      · rw [z]; exact e
      · exact nextF_none h j (by omega)
theorem upB_true {n : Nat} {row : List Int} {s : Nat} : upB n row s = true ↔ row.getD s 0 < n ∧ Good n (upTo1 row s) := by
  unfold upB Good
  rw [Bool.and_eq_true, decide_eq_true_eq, Option.isNone_iff_eq_none]
theorem take_getD {row : List Int} {s : Nat} (h : s < row.length) : row = row.take s ++ row.getD s 0 :: row.drop (s + 1) := by
  have e : row.getD s 0 = row[s] := by
    rw [List.getD_eq_getElem?_getD, List.getElem?_eq_getElem h]
    rfl
  rw [e, ← List.drop_eq_getElem_cons h, List.take_append_drop]
/-! lists in their order -/
theorem lex_pre : ∀ (p a b : List Int), HT.lexLt (p ++ a) (p ++ b) = HT.lexLt a b
  | [], _, _ => rfl
  | x :: p, a, b => by
    show (if x = x then HT.lexLt (p ++ a) (p ++ b) else decide (x < x)) = _
    rw [if_pos rfl, lex_pre p a b]
theorem lex_up {x y : Int} {a b : List Int} (h : x < y) : HT.lexLt (x :: a) (y :: b) = true := by
  rw [HT.lexLt_cons, if_neg (by omega), decide_eq_true h]
theorem lex_down {x y : Int} {a b : List Int} (h : y < x) : HT.lexLt (x :: a) (y :: b) = false := by
  rw [HT.lexLt_cons, if_neg (by omega), decide_eq_false (by omega)]
theorem lex_split : ∀ {a b : List Int}, HT.lexLt a b = true → a.length = b.length → ∃ p r t x u, a = p ++ r :: t ∧ b = p ++ x :: u ∧ r < x
  | [], [], h, _ => by cases h
  | [], _ :: _, _, h => by cases h
  | _ :: _, [], _, h => by cases h
  | y :: a, z :: b, h, hl => by
    rw [HT.lexLt_cons] at h
    by_cases c : y = z
    · rw [if_pos c] at h
      obtain ⟨p, r, t, x, u, e1, e2, e3⟩ := lex_split h (by simpa using hl)
      exact ⟨y :: p, r, t, x, u, by rw [e1]; rfl, by rw [e2, c]; rfl, e3⟩
    · rw [if_neg c, decide_eq_true_eq] at h
      exact ⟨[], y, a, z, b, rfl, rfl, h⟩
theorem lex_ones : ∀ {u : List Int} {m : Nat}, (∀ x ∈ u, 1 ≤ x) → u.length = m → HT.lexLt u (List.replicate m 1) = false
  | [], 0, _, _ => rfl
  | [], _ + 1, _, h => by cases h
  | _ :: _, 0, _, h => by cases h
  | x :: u, m + 1, h, hl => by
    rw [List.replicate_succ, HT.lexLt_cons]
    have hx := h x List.mem_cons_self
    by_cases c : x = 1
    · rw [if_pos c]
      exact lex_ones (fun y hy => h y (List.mem_cons_of_mem _ hy)) (by simpa using hl)
    · rw [if_neg c, decide_eq_false (by omega)]
/-! the next ones are good, come behind, and nothing good comes between -/
structure Next (n : Nat) (row f : List Int) : Prop where
  good : Good n f
  len : f.length = row.length
  bd : ∀ x ∈ f, 1 ≤ x ∧ x ≤ n
  lt : HT.lexLt row f = true
  gap : ∀ o : List Int, o.length = row.length → (∀ x ∈ o, 1 ≤ x ∧ x ≤ n) → Good n o → HT.lexLt row o = true → HT.lexLt o f = false
theorem next_some {n : Nat} {row f : List Int} (hn : 1 ≤ n) (hb : ∀ x ∈ row, 1 ≤ x ∧ x ≤ n) (hg : Good n row) (h : nextL n row = some f) : Next n row f := by
  obtain ⟨s, s1, s2, s3, rfl⟩ := nextF_some h
  obtain ⟨u1, u2⟩ := upB_true.mp s2
  have e := take_getD s1
  have hl := good_len hn hg fun x hx => (hb x hx).1
  have hlen : (upTo1 row s).length = s + 1 := by
    unfold upTo1
    rw [List.length_append, List.length_take]
    simp
    omega
  have hrs : row.getD s 0 ∈ row := by
    rw [List.getD_eq_getElem?_getD, List.getElem?_eq_getElem s1]
    exact List.getElem_mem s1
  have hrb := hb _ hrs
  refine ⟨good_ones u2 (by omega), ?_, fun x hx => ?_, ?_, fun o ol ob og lo => ?_⟩
  · rw [List.length_append, hlen, List.length_replicate]
    omega
  · rcases List.mem_append.mp hx with z | z
    · unfold upTo1 at z
      rcases List.mem_append.mp z with z | z
      · exact hb x (List.mem_of_mem_take z)
      · rw [List.mem_singleton.mp z]
        omega
    · rw [(List.mem_replicate.mp z).2]
      omega
  · unfold upTo1
    rw [List.append_assoc]
    conv => lhs; arg 1; rw [e]
    rw [lex_pre]
    exact lex_up (by omega)
  · obtain ⟨p, r, t, x, u, e1, e2, e3⟩ := lex_split lo ol.symm
    have hx := ob x (by rw [e2]; simp)
    have hpl : p.length < row.length := by rw [e1]; simp
    have hgp : row.getD p.length 0 = r := by
      rw [e1, List.getD_eq_getElem?_getD, List.getElem?_append_right (Nat.le_refl _), Nat.sub_self]
      rfl
    have htp : row.take p.length = p := by rw [e1, List.take_left]
    rcases Nat.lt_trichotomy p.length s with c | c | c
    · -- before s
      have ef : upTo1 row s ++ List.replicate (row.length - (s + 1)) 1 = p ++ r :: ((t.take (s - p.length - 1) ++ [row.getD s 0 + 1]) ++ List.replicate (row.length - (s + 1)) 1) := by
        unfold upTo1
        have : row.take s = p ++ r :: t.take (s - p.length - 1) := by
          conv => lhs; rw [e1]
          rw [List.take_append, List.take_of_length_le (by omega)]
          congr 1
          obtain ⟨d, hd⟩ : ∃ d, s - p.length = d + 1 := ⟨s - p.length - 1, by omega⟩
          rw [hd]
          rfl
        rw [this]
        simp
      rw [ef, e2, lex_pre]
      exact lex_down e3
    · -- at s
      subst c
      unfold upTo1
      rw [htp, hgp, List.append_assoc, e2, lex_pre]
      by_cases z : x = r + 1
      · subst z
        show (if r + 1 = r + 1 then HT.lexLt u (List.replicate (row.length - (p.length + 1)) 1) else _) = false
        rw [if_pos rfl]
        refine lex_ones (fun y hy => (ob y (by rw [e2]; simp [hy])).1) ?_
        rw [← ol, e2]
        simp
        omega
      · exact lex_down (by omega)
    · -- behind s
      exfalso
      have nu := s3 p.length c hpl
      have up : upB n row p.length = true := by
        refine upB_true.mpr ⟨by rw [hgp]; omega, ?_⟩
        unfold upTo1
        rw [htp, hgp]
        have g1 : Good n (p ++ [x]) := by
          have : o = (p ++ [x]) ++ u := by rw [e2]; simp
          rw [this] at og
          exact good_pre og
        exact good_low g1 (by omega)
      rw [up] at nu
      cases nu
/-! the last ones -/
theorem downs_len {n k : Nat} : (downs n k).length = k := by simp [downs]
theorem mem_downs {n k : Nat} {x : Int} : x ∈ downs n k ↔ (n : Int) - k < x ∧ x ≤ n := by
  unfold downs
  simp only [List.mem_map, List.mem_range]
  constructor
  · rintro ⟨i, hi, rfl⟩
    omega
  · rintro ⟨h1, h2⟩
    exact ⟨((n : Int) - x).toNat, by omega, by omega⟩
theorem downs_nodup {n k : Nat} : (downs n k).Nodup := by
  unfold downs
  rw [List.nodup_iff_pairwise_ne, List.pairwise_map]
  exact List.Pairwise.imp (fun h => by omega) List.pairwise_lt_range
theorem downs_succ {n k : Nat} : downs n (k + 1) = downs n k ++ [(n : Int) - k] := by
  unfold downs
  rw [List.range_succ, List.map_append]
  rfl
theorem downs_cnt {n k : Nat} {b : Int} (h : b ≤ (n : Int) + 1) : (cntGe (downs n k) b : Int) ≤ n - b + 1 := by
  have : cntGe (downs n k) b ≤ ((n : Int) - b + 1).toNat := by
    unfold cntGe
    refine len_le_of (lo := b) (List.Pairwise.filter _ downs_nodup) fun x hx => ?_
    obtain ⟨h1, h2⟩ := List.mem_filter.mp hx
    have h3 := mem_downs.mp h1
    have h4 : b ≤ x := of_decide_eq_true h2
    omega
  omega
theorem next_none {n : Nat} {row : List Int} (hn : 1 ≤ n) (hb : ∀ x ∈ row, 1 ≤ x ∧ x ≤ n) (hg : Good n row) (h : nextL n row = none) : row = downs n row.length := by
  have hl := good_len hn hg fun x hx => (hb x hx).1
  have nu := nextF_none h
  have go : ∀ s, s ≤ row.length → row.take s = downs n s := by
    intro s
    induction s with
    | zero => intro _; rfl
    | succ s ih =>
      intro hs
      have ih := ih (by omega)
      have e := take_getD (row := row) (s := s) (by omega)
      have et : row.take (s + 1) = row.take s ++ [row.getD s 0] := by
        rw [List.take_add_one, List.getD_eq_getElem?_getD, List.getElem?_eq_getElem (by omega)]
        rfl
      have hrs : row.getD s 0 ∈ row := by
        rw [List.getD_eq_getElem?_getD, List.getElem?_eq_getElem (show s < row.length by omega)]
        exact List.getElem_mem _
      have hrb := hb _ hrs
      have nus := nu s (by omega)
      generalize hx : row.getD s 0 = x at *
      have g1 : Good n (downs n s ++ [x]) := by
        rw [← ih, ← et]
        have : row = row.take (s + 1) ++ row.drop (s + 1) := (List.take_append_drop _ _).symm
        rw [this] at hg
        exact good_pre hg
      have le : x ≤ (n : Int) - s := by
        by_cases z : s = 0
        · subst z
          omega
        · have := good_def.mp g1 ((n : Int) - s + 1) (by omega) (by omega)
          rw [cntGe_append, cntGe_one, cntGe_all (fun y hy => by have := mem_downs.mp hy; omega), downs_len] at this
          by_cases c : (n : Int) - s + 1 ≤ x
          · rw [if_pos c] at this
            omega
          · omega
      have ge : (n : Int) - s ≤ x := by
        by_cases c : (n : Int) - s ≤ x
        · exact c
        · exfalso
          have up : upB n row s = true := by
            refine upB_true.mpr ⟨by rw [hx]; omega, ?_⟩
            unfold upTo1
            rw [hx, ih]
            refine good_def.mpr fun b b1 b2 => ?_
            rw [cntGe_append, cntGe_one]
            by_cases d : b ≤ x + 1
            · rw [if_pos d]
              have := cntGe_le (downs n s) b
              rw [downs_len] at this
              omega
            · rw [if_neg d]
              have := downs_cnt (n := n) (k := s) (b := b) (by omega)
              omega
          rw [up] at nus
          cases nus
      rw [et, ih, downs_succ, show x = (n : Int) - s by omega]
  have := go row.length (Nat.le_refl _)
  rw [List.take_length] at this
  exact this

/-! ### next_row -/
theorem cut_takeN (xs : List V) (k : Nat) : cutV xs none (some (k : Int)) = xs.take k := by
  unfold cutV
  rw [HT.sIx_nat, HT.sIx_none, List.drop_zero, Nat.sub_zero]
  by_cases h : k ≤ xs.length
  · rw [Nat.min_eq_left h]
  · rw [Nat.min_eq_right (by omega), List.take_of_length_le (Nat.le_refl _), List.take_of_length_le (by omega)]
theorem tupOfS {K : PySem.W.Frag} {i : Nat} {te : TE} {r : TS} {D : Ends} {σ : L2.St} {H : Hp} {p : Addr} {xs : List V} (ht : ∀ Q' : VK, Q' (.ref p) H → te σ H Q') (h : SqA K H p xs) (q : ∀ (t : Addr) (H' : Hp), Same H H' → SqT K H' t xs → r D (σ.set i (some (.ref t))) H') :
    tSeq (tAsg (tCB (rTupleOf K) (tCons te tNil)) (gName i)) r D σ H := by
  change te σ H (fun x H1 => rTupleOf K [x] H1 fun t H2 => r D (σ.set i (some t)) H2)
  refine ht _ ?_
  rcases h with h | h
  · exact ⟨p, xs, rfl, .inl ⟨h, fun l nl => q l _ (same_new nl) (sqT_of upd_same)⟩⟩
  · exact ⟨p, xs, rfl, .inr ⟨h, q p H (Same.refl _) h⟩⟩
theorem int_at {ws : List Int} {s : Nat} (h : s < ws.length) : atI (ws.map V.int) (s : Int) = some (.int (ws.getD s 0)) := by
  refine atI_nat ?_
  rw [List.getElem?_map, List.getD_eq_getElem?_getD, List.getElem?_eq_getElem h]
  rfl
theorem nextF_no {n : Nat} {row : List Int} {s : Nat} (h : upB n row s = false) : nextF n row (s + 1) = nextF n row s := by
  show (if upB n row s = true then _ else _) = _
  rw [if_neg (by rw [h]; exact Bool.false_ne_true)]
def sp_next_row (K : PySem.W.Frag) (a : Ad) : Sp := fun vs H Q E => ∃ b w, vs = [b, w] ∧ ChkW K a b w H E fun n ws _ => (crowdedL n ws ≠ none ∧ ∀ H' : Hp, Same H H' → E (.ref a.e_NoWishes) none H') ∨
  (crowdedL n ws = none ∧ (nextL n ws = none → ∀ H' : Hp, Same H H' → Q .non H') ∧ ∀ f, nextL n ws = some f → ∀ (l : Addr) (H' : Hp), Same H H' → H' l = some (.tup (f.map V.int)) → Q (.ref l) H')
abbrev N_next_row : List Str := ["berths", "wishes", "row", "ship", "start"]
def t_next_row (K : PySem.W.Frag) (a : Ad) (E : XK) : TS :=
  (tSeq (tIfS (tNot (tB (tCall (sp_is_good K a) [] E (tCons (tVar 0) (tCons (tVar 1) tNil))))) (tRaise a.e_NoWishes E) tNext)
    (tSeq (tAsg (tCB (rTupleOf K) (tCons (tVar 1) tNil)) (gName 2))
    (tSeq (tFor (iRevR (tRg1 (tCB (rLenSq K) (tCons (tVar 2) tNil)))) (gName 3)
    (tSeq (tAsg (tOp (rCatA K) (tSl (rSlA K) (tVar 2) tNoPart (tPart (tVar 3))) (tTup (tCons (tOp rAddI (tOp (rIxT K) (tVar 2) (tVar 3)) (tC (.int 1))) tNil))) (gName 4))
    (tIfS (tAnd (tTest (tOp rLtI (tOp (rIxT K) (tVar 2) (tVar 3)) (tVar 0))) (tB (tCall (sp_is_good K a) [] E (tCons (tVar 0) (tCons (tVar 4) tNil))))) (tRet (tOp (rCatA K) (tVar 4) (tOp (rRepTA K) (tTup (tCons (tC (.int 1)) tNil)) (tOp rSubI (tCB (rLenSq K) (tCons (tVar 2) tNil)) (tCB (rLenSq K) (tCons (tVar 4) tNil)))))) tNext)))
    (tRet (tC .non)))))
theorem len_next_row {K : PySem.W.Frag} {a : Ad} {vs : List V} {H : Hp} {Q : VK} {E : XK} (h : sp_next_row K a vs H Q E) : vs.length = 2 := by
  obtain ⟨b, w, rfl, _⟩ := h
  rfl
theorem pu_next_row {K : PySem.W.Frag} {a : Ad} {vs : List V} {H : Hp} {Q : VK} {E : XK} (h : sp_next_row K a vs H Q E) : t_next_row K a E { nx := fun _ H' => Q .non H', rt := Q } (start N_next_row vs) H := by
  obtain ⟨b, w, rfl, h⟩ := h
  refine ⟨b, rfl, w, rfl, b, w, rfl, ChkW.imp h fun n ws p eb ew h1 h2 hs hl hb r H1 s1 => ⟨_, rfl, ?_⟩⟩
  subst eb
  subst ew
  cases ec : crowdedL n ws with
  | some c =>
    rcases r with ⟨_, q⟩ | ⟨z, _⟩
    · exact iteT (q H1 s1)
    · rw [ec] at z
      cases z
  | none =>
  have hq : (nextL n ws = none → ∀ H' : Hp, Same H H' → Q .non H') ∧ ∀ f, nextL n ws = some f → ∀ (l : Addr) (H' : Hp), Same H H' → H' l = some (.tup (f.map V.int)) → Q (.ref l) H' := by
    rcases r with ⟨z, _⟩ | ⟨_, q⟩
    · exact absurd ec z
    · exact q
  obtain ⟨q0, q1⟩ := hq
  refine iteF ?_
  change (tSeq (tAsg (tCB (rTupleOf K) (tCons (tVar 1) tNil)) (gName 2)) _) _ _ _
  refine tupOfS (p := p) (fun Q' q' => ⟨.ref p, rfl, q'⟩) (s1.seqA hs) fun t H2 s2 hT => ?_
  have s12 := s1.trans s2
  have hws := good_len (n := n) h1 ec fun x hx => (hb x hx).1
  refine ⟨.ref t, rfl, t, _, rfl, .inr hT, _, rfl, by omega, by omega, by omega, by rw [List.length_map]; omega, ?_⟩
  have en : ((((ws.map V.int).length : Nat) : Int) - 0).toNat = ws.length := by
    rw [List.length_map]
    omega
  rw [en]
  refine for_rangeC (fun i σ H' => (∃ y1 y2, σ = [some (.int n), some (.ref p), some (.ref t), y1, y2]) ∧ Same H2 H' ∧ nextL n ws = nextF n ws (ws.length - i)) ⟨⟨none, none, rfl⟩, Same.refl _, rfl⟩ ?_ ?_
  · rintro i σ H' hi ⟨⟨y1, y2, rfl⟩, s3, hN⟩
    obtain ⟨s, es⟩ : ∃ s, ws.length - i = s + 1 := ⟨ws.length - i - 1, by omega⟩
    have ev : 0 + ((ws.length : Nat) : Int) - 1 + ((i : Nat) : Int) * -1 = (s : Int) := by omega
    rw [ev]
    have hsl : s < ws.length := by omega
    have hT3 := s3.seqT hT
    -- start
    refine ⟨.ref t, rfl, .int s, rfl, s, rfl, slA_of hT3 fun l1 H4 s4 e4 => ?_⟩
    rw [cut_takeN] at e4
    have hT4 := s4.seqT hT3
    refine ⟨.ref t, rfl, .int s, rfl, t, _, s, .int (ws.getD s 0), rfl, rfl, hT4, int_at hsl, _, 1, rfl, rfl, l1000 (by show 1 ≤ 1000; decide), fun p2 np2 => ?_⟩
    refine catX_of ((same_new np2).seqT e4) upd_same (.inl (fun z => by cases z)) (by rw [List.length_take, List.length_map]; show _ + 1 ≤ 1000; omega) fun st H5 s5 e5x => ?_
    have e5x : H5 st = some (.tup ((upTo1 ws s).map V.int)) := by
      unfold upTo1
      rw [List.map_append, List.map_take]
      exact e5x
    have e5 := sqT_of (K := K) e5x
    have s25 := ((s4.trans (same_new np2)).trans s5)
    have hT5 := s25.seqT hT3
    refine ⟨.ref t, rfl, .int s, rfl, t, _, s, .int (ws.getD s 0), rfl, rfl, hT5, int_at hsl, .int n, rfl, _, n, rfl, rfl, _, rfl, ite2 (fun c => ?_) (fun c => ?_)⟩
    · have c : ws.getD s 0 < (n : Int) := of_decide_eq_true c
      have hsm : ws.getD s 0 ∈ ws := by
        rw [List.getD_eq_getElem?_getD, List.getElem?_eq_getElem hsl]
        exact List.getElem_mem hsl
      have hbs : ∀ x ∈ upTo1 ws s, 1 ≤ x ∧ x ≤ n := fun x hx => by
        unfold upTo1 at hx
        rcases List.mem_append.mp hx with z | z
        · exact hb x (List.mem_of_mem_take z)
        · rw [List.mem_singleton.mp z]
          have := hb _ hsm
          omega
      have hls : (upTo1 ws s).length = s + 1 := by
        unfold upTo1
        rw [List.length_append, List.length_take]
        simp
        omega
      refine ⟨.int n, rfl, .ref st, rfl, _, _, rfl, ChkW.ok h1 h2 (.inr e5) (by rw [hls]; omega) hbs fun H6 s6 => ⟨_, rfl, ?_⟩⟩
      cases ed : crowdedL n (upTo1 ws s) with
      | some d =>
        refine iteF ⟨⟨_, _, rfl⟩, (s3.trans s25).trans s6, ?_⟩
        rw [hN, es, show ws.length - (i + 1) = s by omega]
        refine nextF_no ?_
        unfold upB
        rw [ed, decide_eq_true c]
        rfl
      | none =>
        have up : upB n ws s = true := by
          unfold upB
          rw [ed, decide_eq_true c]
          rfl
        have ef : nextL n ws = some (upTo1 ws s ++ List.replicate (ws.length - (s + 1)) 1) := by
          rw [hN, es]
          unfold nextF
          rw [if_pos up]
        have e6 := s6.seqT e5
        have hT6 := s6.seqT hT5
        refine iteT ⟨.ref st, rfl, ?_⟩
        change (tOp (rRepTA K) (tTup (tCons (tC (.int 1)) tNil)) (tOp rSubI (tCB (rLenSq K) (tCons (tVar 2) tNil)) (tCB (rLenSq K) (tCons (tVar 4) tNil)))) _ _ _
        refine ones_of (K := K) (k := ws.length - (s + 1)) (by omega) (fun H7 s7 Q' q' => ⟨.ref t, rfl, t, _, rfl, .inr (s7.seqT hT6), .ref st, rfl, st, _, rfl, .inr (s7.seqT e6), _, _, rfl, rfl, ?_⟩) fun lo H7 s7 e7 => ?_
        · have ek : (((ws.map V.int).length : Nat) : Int) - ((((upTo1 ws s).map V.int).length : Nat) : Int) = ((ws.length - (s + 1) : Nat) : Int) := by
            rw [List.length_map, List.length_map, hls]
            omega
          show Q' (.int ((((ws.map V.int).length : Nat) : Int) - ((((upTo1 ws s).map V.int).length : Nat) : Int))) H7
          rw [ek]
          exact q'
        · refine catX_of (s7.seqT e6) e7 (.inr (s7 _ _ (s6 _ _ e5x))) (by rw [List.length_map, List.length_map, hls, List.length_replicate]; omega) fun lr H8 s8 e8 => ?_
          rw [← List.map_append] at e8
          exact q1 _ ef lr H8 (((((s12.trans s3).trans s25).trans s6).trans s7).trans s8) e8
    · have c : ¬ ws.getD s 0 < (n : Int) := fun z => c (decide_eq_true z)
      refine iteF ⟨⟨_, _, rfl⟩, s3.trans s25, ?_⟩
      rw [hN, es, show ws.length - (i + 1) = s by omega]
      refine nextF_no ?_
      unfold upB
      rw [decide_eq_false c]
      rfl
  · rintro σ H' ⟨⟨y1, y2, rfl⟩, s3, hN⟩
    rw [Nat.sub_self] at hN
    exact q0 hN H' (s12.trans s3)

/-! ### what the laws read of a script -/
def cellAt (ns : List Int) (k : Int) : Int := ns.getD k.toNat 0
theorem cut_drop (xs : List V) (k : Nat) : cutV xs (some (k : Int)) none = xs.drop k := by
  unfold cutV
  rw [HT.sIx_nat, HT.sIx_none]
  by_cases h : k ≤ xs.length
  · rw [Nat.min_eq_left h]
    exact List.take_of_length_le (by rw [List.length_drop]; omega)
  · rw [Nat.min_eq_right (by omega), Nat.sub_self, List.take_zero, List.drop_eq_nil_of_le (by omega)]
theorem cut2 (xs : List V) : cutV xs (some 2) none = xs.drop 2 := cut_drop xs 2
theorem atI_lit (xs : List V) (j : Nat) {v : V} (h : xs[j]? = some v) : atI xs (j : Int) = some v := atI_nat h
def sp_l_cell_at (K : PySem.W.Frag) : Sp := fun vs H Q _ => ∃ (s : Addr) (ns : List Int) (k : Int), vs = [.ref s, .int k] ∧ SqL K H s (ns.map V.int) ∧ 0 ≤ k ∧ Q (.int (cellAt ns k)) H
abbrev N_l_cell_at : List Str := ["_law_script", "_law_k"]
def t_l_cell_at (K : PySem.W.Frag) (a : Ad) : TS :=
  (tSeq (tIfS (tTest (tOp rLtI (tVar 1) (tCB (rLenSq K) (tCons (tVar 0) tNil)))) (tRet (tOp (rIxL K) (tVar 0) (tVar 1))) tNext)
    (tRet (tC (.int 0))))
theorem len_l_cell_at {K : PySem.W.Frag} {vs : List V} {H : Hp} {Q : VK} {E : XK} (h : sp_l_cell_at K vs H Q E) : vs.length = 2 := by
  obtain ⟨s, ns, k, rfl, _⟩ := h
  rfl
theorem pu_l_cell_at {K : PySem.W.Frag} {a : Ad} {vs : List V} {H : Hp} {Q : VK} {E : XK} (h : sp_l_cell_at K vs H Q E) : t_l_cell_at K a { nx := fun _ H' => Q .non H', rt := Q } (start N_l_cell_at vs) H := by
  obtain ⟨s, ns, k, rfl, hs, h0, q⟩ := h
  refine ⟨.int k, rfl, .ref s, rfl, s, _, rfl, .inl hs, _, _, rfl, rfl, _, rfl, ?_⟩
  by_cases h : k < ((ns.map V.int).length : Nat)
  · rw [decide_eq_true h]
    rw [List.length_map] at h
    have e : ns[k.toNat]? = some (cellAt ns k) := by
      unfold cellAt
      rw [List.getD_eq_getElem?_getD, List.getElem?_eq_getElem (by omega)]
      rfl
    refine iteT ⟨.ref s, rfl, .int k, rfl, s, _, k, _, rfl, rfl, hs, at_of (j := k.toNat) (by omega) (by rw [List.getElem?_map, e]; rfl), q⟩
  · rw [decide_eq_false h]
    rw [List.length_map] at h
    have e : cellAt ns k = 0 := by
      unfold cellAt
      rw [List.getD_eq_getElem?_getD, List.getElem?_eq_none (by omega)]
      rfl
    rw [e] at q
    exact iteF q
theorem p3 : (0 : Int) < 3 := by decide
theorem p4 : (0 : Int) < 4 := by decide
theorem d2 {n : Int} : CDiv n 2 := ⟨by decide, by decide⟩
theorem d3 {n : Int} : CDiv n 3 := ⟨by decide, by decide⟩
theorem d12 {n : Int} : CDiv n 12 := ⟨by decide, by decide⟩
theorem pick3 (c : Int) (x y z : V) : ∃ v, atI [x, y, z] (c % 3) = some v ∧ (v = x ∨ v = y ∨ v = z) := by
  have h : c % 3 = 0 ∨ c % 3 = 1 ∨ c % 3 = 2 := by omega
  rcases h with h | h | h <;> rw [h]
  · exact ⟨x, rfl, .inl rfl⟩
  · exact ⟨y, rfl, .inr (.inl rfl)⟩
  · exact ⟨z, rfl, .inr (.inr rfl)⟩
theorem pick4 (c : Int) (x y z u : V) : ∃ v, atI [x, y, z, u] (c % 4) = some v ∧ (v = x ∨ v = y ∨ v = z ∨ v = u) := by
  have h : c % 4 = 0 ∨ c % 4 = 1 ∨ c % 4 = 2 ∨ c % 4 = 3 := by omega
  rcases h with h | h | h | h <;> rw [h]
  · exact ⟨x, rfl, .inl rfl⟩
  · exact ⟨y, rfl, .inr (.inl rfl)⟩
  · exact ⟨z, rfl, .inr (.inr (.inl rfl))⟩
  · exact ⟨u, rfl, .inr (.inr (.inr rfl))⟩
/-! ### the two classes: methods called on one's own object, on one of either class, and the making of an object, also inside a try -/
def Ad.cls (a : Ad) (b : Bool) : Addr := if b then a.c_Round else a.c_Quay
/-- a method that keeps its promise, as its class has it -/
structure Mb (P : Program) (w : World) (K : PySem.W.Frag) (mg : Str → Option Value) (base : Heap) (CX : CXT) (k : Nat) (C : Addr) (m : Str) (f : Addr) (ps : List Str) (sp : Sp) : Prop where
  ex : ∃ fd, FnOk P w K mg base CX k f fd ps sp ∧ Binds K fd ps []
  mt : Meth K C m f
theorem _root_.L2.FnOk.lift {P : Program} {w : World} {K : PySem.W.Frag} {mg : Str → Option Value} {base : Heap} {CX : CXT} {k k' : Nat} {f : Addr} {fd : FuncData} {ps : List Str} {sp : Sp} (F : FnOk P w K mg base CX k f fd ps sp) (h : k ≤ k') : FnOk P w K mg base CX k' f fd ps sp :=
  ⟨F.len, fun A outer s H args us vs Q E hr e0 hb r q => F.run A outer s H args us vs Q E (hr.mono h) e0 hb r q⟩
theorem Mb.lift {P : Program} {w : World} {K : PySem.W.Frag} {mg : Str → Option Value} {base : Heap} {CX : CXT} {k k' : Nat} {C : Addr} {m : Str} {f : Addr} {ps : List Str} {sp : Sp} (G : Mb P w K mg base CX k C m f ps sp) (h : k ≤ k') : Mb P w K mg base CX k' C m f ps sp := by
  obtain ⟨⟨fd, F, b⟩, mt⟩ := G
  exact ⟨⟨fd, F.lift h, b⟩, mt⟩
theorem passOf {CX : CXT} {X : Cx} {E : XK} (h : Passes CX X E) (σ : L2.St) : PassesAt CX X σ E := fun pins H s e s' I q => h pins σ H s e s' I q
def tMethB (C : Bool → Addr) (m : Str) (sp : Bool → Sp) (E : L2.St → XK) (ta : TE) (t : TA) : TE := fun σ H Q => ta σ H fun x H1 => ∃ b p dx fs, x = V.ref p ∧ H1 p = some (.ins (C b) dx fs) ∧ List.lookup m fs = none ∧ t σ H1 fun vs H2 => sp b (x :: vs) H2 Q (E σ)
def tMk (C : Addr) (sp : Sp) (E : L2.St → XK) (t : TA) : TE := fun σ H Q => t σ H fun vs H1 => ∀ (x dx : Addr), H1 x = none → H1 dx = none → dx ≠ x → sp (V.ref x :: vs) (upd (upd H1 dx (.own x)) x (.ins C dx [])) (fun v H2 => v = V.non ∧ Q (V.ref x) H2) (E σ)
section
variable {X : Cx}
theorem pe_mbB {CX : CXT} {k : Nat} {C : Bool → Addr} {f : Bool → Addr} {ps : List Str} {sp : Bool → Sp} {E : L2.St → XK} {m : Str} {pos apos : Pos} {o e : Expr} {es : List Expr} {ta : TE} {t : TA} {pl : Sem Bool}
    (G : ∀ b, Mb X.prog X.w X.K X.mg X.base CX k (C b) m (f b) ps (sp b)) (cl : ∀ b, Cls X.K (C b)) (hr : Room k X.A) (hx : ∀ σ, PassesAt CX X σ (E σ)) (ho : PE X o ta) (ha : PA X (e :: es) t)
    (hst : starEach (e :: es) X.env = (false, eval e X.env) :: starEach es X.env := by rfl) (hpl : (backTo pos (starEach es X.env)).any (·.1) = false := by rfl)
    (ht : eval (.Call (.Attribute o m apos) (e :: es) [] pos) X.env = (do
      let ov ← eval o X.env
      standAt apos.atName
      let __x ← holding [ov] (getMethod ov m pl)
      match __x with
        | (f, first) => callWith pos f first (backTo pos (starEach (e :: es) X.env)) (backToKw pos (keywordEach [] X.env))) := by rfl) :
    PE X (.Call (.Attribute o m apos) (e :: es) [] pos) (tMethB C m sp E ta t) := by
  refine ⟨fun pins s σ H Q I h => ?_⟩
  refine PySem.W.methodCall_KW (pl := pl) (thn (ho.run pins s σ H _ I h) ?_) ht
  rintro u s1 ⟨x, H1, I1, rx, b, p, dx, fs, rfl, hp, hl, q⟩
  cases rx
  obtain ⟨⟨fd, F, hb⟩, mt⟩ := G b
  refine getmeth_ok I1 hp (cl b) mt hl (PySem.W.callWith_K I1.ok.mod.kin mt.kp (thn (ha.run pos pins s1 σ H1 (fun vs H2 => sp b (V.ref p :: vs) H2 Q (E σ)) I1 q) ?_) hst hpl)
  rintro us s2 ⟨vs, H2, I2, r, q2⟩
  exact ⟨I2.kIn, run_fnS (E := E) F hr hb (hx σ) I2 (Paired.cons (F := L2.RelV) (a := V.ref p) (b := Value.ref p) rfl r) q2⟩
theorem pe_mbB0 {CX : CXT} {k : Nat} {C : Bool → Addr} {f : Bool → Addr} {ps : List Str} {sp : Bool → Sp} {E : L2.St → XK} {m : Str} {pos apos : Pos} {o : Expr} {ta : TE} {pl : Sem Bool}
    (G : ∀ b, Mb X.prog X.w X.K X.mg X.base CX k (C b) m (f b) ps (sp b)) (cl : ∀ b, Cls X.K (C b)) (hr : Room k X.A) (hx : ∀ σ, PassesAt CX X σ (E σ)) (ho : PE X o ta)
    (ht : eval (.Call (.Attribute o m apos) [] [] pos) X.env = (do
      let ov ← eval o X.env
      standAt apos.atName
      let __x ← holding [ov] (getMethod ov m pl)
      match __x with
        | (f, first) => callWith pos f first (backTo pos (starEach [] X.env)) (backToKw pos (keywordEach [] X.env))) := by rfl) :
    PE X (.Call (.Attribute o m apos) [] [] pos) (tMethB C m sp E ta tNil) := by
  refine ⟨fun pins s σ H Q I h => ?_⟩
  refine PySem.W.methodCall_KW (pl := pl) (thn (ho.run pins s σ H _ I h) ?_) ht
  rintro u s1 ⟨x, H1, I1, rx, b, p, dx, fs, rfl, hp, hl, q⟩
  cases rx
  obtain ⟨⟨fd, F, hb⟩, mt⟩ := G b
  exact getmeth_ok I1 hp (cl b) mt hl (PySem.W.callWith_K0 I1.kIn mt.kp (run_fnS (E := E) F hr hb (hx σ) I1 (Paired.cons (F := L2.RelV) (a := V.ref p) (b := Value.ref p) rfl .nil) q))
theorem run_makeS {CX : CXT} {k : Nat} {f C : Addr} {fd : FuncData} {ps : List Str} {sp : Sp} {E : L2.St → XK} {pins : List (Addr × Obj)} {σ : L2.St} {H : Hp} {s : Shared} {Q : VK} {us : List Value} {vs : List V}
    (M : Mk X.K C f) (F : FnOk X.prog X.w X.K X.mg X.base CX k f fd ps sp) (hr : Room (k + 1) X.A) (hb : L2.Binds X.K fd ps []) (hx : PassesAt CX X σ (E σ)) (I : L2.Inv X pins σ H s) (r : Vals vs us)
    (h : ∀ (x dx : Addr), H x = none → H dx = none → dx ≠ x → sp (V.ref x :: vs) (upd (upd H dx (.own x)) x (.ins C dx [])) (fun v H2 => v = V.non ∧ Q (V.ref x) H2) (E σ)) :
    wpAny (model X.prog X.w) X.A (call (Value.ref C) us) (EP X pins σ Q) X.xe s := by
  have hq := h (s.heap.objs.size + 1) s.heap.objs.size (HOk.fresh I.hok (Nat.le_succ _)) (HOk.fresh I.hok (Nat.le_refl _)) (Nat.ne_of_lt (Nat.lt_succ_self _))
  have I2 := Inv.made (C := C) I
  have r2 : Vals (V.ref (s.heap.objs.size + 1) :: vs) (Value.ref (s.heap.objs.size + 1) :: us) := .cons rfl r
  have hl : ((Value.ref (s.heap.objs.size + 1) :: us) ++ []).length = ps.length := by
    rw [List.append_nil]
    exact r2.length.symm.trans (F.len _ _ _ _ hq)
  have hb2 := hb { heap := (s.heap.push PySem.W.emptyDict).push (PySem.W.instObj C s.heap.objs.size), gens := s.gens, drawn := s.drawn, toks := s.toks, os := s.os } (Value.ref (s.heap.objs.size + 1) :: us) I2.kIn hl
  rw [List.append_nil] at hb2
  refine wpAny_call (make_map I.kIn M.makes M.init (beq_iff_eq.mp M.fn) (codeAny_mono (F.run (X.A.under (Code.builtin "type.__call__" { pos := Value.ref C :: us })) X.stack _ _ { pos := Value.ref (s.heap.objs.size + 1) :: us } (Value.ref (s.heap.objs.size + 1) :: us) _ _ (E σ) (Room.make hr C us []) (Env0.make I2.env0 C us []) hb2 r2 hq) ?_))
  intro rs s' hq'
  cases rs with
  | error e => exact hx pins _ _ e s' I2 hq'
  | ok fl =>
    cases fl with
    | ret u =>
      obtain ⟨v, H', I3, rv, rfl, q3⟩ := I2.after hq'
      exact ⟨rv, V.ref (s.heap.objs.size + 1), H', I3, (show L2.RelV (V.ref (s.heap.objs.size + 1)) (Value.ref (s.heap.objs.size + 1)) from rfl), q3⟩
    | _ => exact hq'.elim
theorem pe_mk {CX : CXT} {k : Nat} {f C : Addr} {ps : List Str} {sp : Sp} {E : L2.St → XK} {x : Str} {p pos : Pos} {e : Expr} {es : List Expr} {t : TA}
    (M : Mk X.K C f) (G : ∃ fd, FnOk X.prog X.w X.K X.mg X.base CX k f fd ps sp ∧ Binds X.K fd ps []) (hm : X.mg x = some (.ref C)) (hr : Room (k + 1) X.A) (hg : Gl X x) (hx : ∀ σ, PassesAt CX X σ (E σ)) (ha : PA X (e :: es) t)
    (hdb : (x == ("__debug__" : Str)) = false := by decide) (he : starEach (e :: es) X.env = (false, eval e X.env) :: starEach es X.env := by rfl) (hpl : (backTo pos (starEach es X.env)).any (·.1) = false := by rfl) :
    PE X (.Call (.Name x p) (e :: es) [] pos) (tMk C sp E t) := by
  obtain ⟨fd, F, hb⟩ := G
  refine ⟨fun pins s σ H Q I h => wpAny_Call_Name_kw (ld_glob I hg hm (PySem.W.callWith_K I.ok.mod.kin M.kp (thn (ha.run pos pins s σ H _ I h) ?_) he hpl) hdb)⟩
  rintro us s1 ⟨vs, H1, I1, r, q⟩
  exact ⟨I1.kIn, run_makeS (E := E) M F hr hb (hx σ) I1 r q⟩
end
theorem mb_two {P : Program} {w : World} {K : PySem.W.Frag} {mg : Str → Option Value} {base : Heap} {CX : CXT} {kQ kR k : Nat} {m : Str} {fQ fR : Addr} {ps : List Str} {sp : Ad → Bool → Sp} {a : Ad} {TX : Ad → Prop} (T : TX a) (hQ : ∃ fd, FnOk P w K mg base CX kQ fQ fd ps (sp a false) ∧ Binds K fd ps []) (hR : ∃ fd, FnOk P w K mg base CX kR fR fd ps (sp a true) ∧ Binds K fd ps [])
    (mQ : Meth K a.c_Quay m fQ) (mR : Meth K a.c_Round m fR) (h1 : kQ ≤ k) (h2 : kR ≤ k) : ∀ b, Mb P w K mg base CX k (a.cls b) m ((fun b => if b = true then fR else fQ) b) ps (sp a b) := fun b => by
  cases b with
  | false =>
    obtain ⟨fd, F, hb⟩ := hQ
    exact ⟨⟨fd, F.lift h1, hb⟩, mQ⟩
  | true =>
    obtain ⟨fd, F, hb⟩ := hR
    exact ⟨⟨fd, F.lift h2, hb⟩, mR⟩
theorem mb_one {P : Program} {w : World} {K : PySem.W.Frag} {mg : Str → Option Value} {base : Heap} {CX : CXT} {kQ k : Nat} {m : Str} {fQ : Addr} {ps : List Str} {sp : Ad → Bool → Sp} {a : Ad} {TX : Ad → Prop} (T : TX a) (hQ : ∀ b, ∃ fd, FnOk P w K mg base CX kQ fQ fd ps (sp a b) ∧ Binds K fd ps [])
    (mQ : Meth K a.c_Quay m fQ) (mR : Meth K a.c_Round m fQ) (h1 : kQ ≤ k) : ∀ b, Mb P w K mg base CX k (a.cls b) m ((fun _ => fQ) b) ps (sp a b) := fun b => by
  obtain ⟨fd, F, hb⟩ := hQ b
  cases b with
  | false => exact ⟨⟨fd, F.lift h1, hb⟩, mQ⟩
  | true => exact ⟨⟨fd, F.lift h1, hb⟩, mR⟩

/-! ### x in d.values(), x not in d.values(): whole numbers -/
theorem entry_in : entryFor table "proto.contains_iter" = some Builtin.«proto.contains_iter» := entryFor_of_tree (by rfl)
theorem look_in : typeLookup (Value.type "dict_values") ("__contains__" : Str) = pure none := by rfl
theorem qt_in {as : List Value} : (Code.builtin "proto.contains_iter" { pos := as }).quiet = true := Code.quiet_builtin _ (by decide +kernel)
theorem in_loop {P : Program} {w : World} {it d : Addr} {ep : Nat} {kvs : List (Key × Value)} {ns : List Int} {x : Int} {tx : Tok} (hd : d ≠ it) (hl : kvs.length = ns.length) (hv : ∀ (i : Nat) (z : Int), ns[i]? = some z → ∃ k t, kvs[i]? = some (k, Value.int z t)) :
    ∀ (m i : Nat) (A : Around) (R : Result → Shared → Prop) (s : Shared), ns.length - i = m → A.handled = none → s.heap.IsValIter it d i kvs.length ep → Heap.DictAt (mixKind P w) s.heap d kvs ep →
      (∀ (h' : Heap) (t' : Nat), (∀ b o, b ≠ it → s.heap.get? b = some o → h'.get? b = some o) → R (.ok (.ret (.bool (decide (x ∈ ns.drop i))))) { heap := h', gens := s.gens, drawn := s.drawn, toks := t', os := s.os }) →
      codeAny (model P w) A (Code.builtin "proto.contains_iter" { pos := [.ref it, .int x tx] }) R s := by
  intro m
  induction m with
  | zero =>
    intro i A R s hm hA hi hdt k
    refine codeAny_builtin entry_in ?_
    show wpAny _ _ (pyNext (Value.ref it) >>= _) _ _ _
    refine wpAny_bind (wpAny_pyNext_values_end (kvs := kvs) (knd := mixKind P w) hA hi hdt (List.getElem?_eq_none (by omega)) fun h' hk => ?_)
    refine wpAny_bind (wpAny_rule (wpAny_pure ?_))
    have e : ns.drop i = [] := List.drop_eq_nil_of_le (by omega)
    rw [e] at k
    exact k h' _ hk
  | succ m ih =>
    intro i A R s hm hA hi hdt k
    have hlt : i < ns.length := by omega
    obtain ⟨key, t, e⟩ := hv i _ (List.getElem?_eq_getElem hlt)
    refine codeAny_builtin entry_in ?_
    show wpAny _ _ (pyNext (Value.ref it) >>= _) _ _ _
    refine wpAny_bind (wpAny_pyNext_values_item (kvs := kvs) (knd := mixKind P w) hi hdt e fun h' hi' hk => ?_)
    refine wpAny_bind (wpAny_eqBool_int ?_)
    have ed : ns.drop i = ns[i] :: ns.drop (i + 1) := List.drop_eq_getElem_cons hlt
    by_cases hx : ns[i] = x
    · refine wpAny_ite_true (by simpa using hx) (wpAny_bind (wpAny_rule (wpAny_pure ?_)))
      have k := k h' s.toks (fun b o hb q => (hk.2 b hb).trans q)
      rw [ed, hx, decide_eq_true (List.mem_cons_self)] at k
      exact k
    · refine wpAny_ite_false (by simpa using hx) (wpAny_pure ⟨qt_in, ?_⟩)
      refine ih (i + 1) A R _ (by omega) hA hi' ?_ fun h2 t2 h3 => ?_
      · obtain ⟨o, es, q1, q2⟩ := hdt
        exact ⟨o, es, (hk.2 d hd).trans q1, q2⟩
      · have k := k h2 t2 (fun b o hb q => h3 b o hb ((hk.2 b hb).trans q))
        have e2 : decide (x ∈ ns.drop i) = decide (x ∈ ns.drop (i + 1)) := by
          rw [ed]
          congr 1
          rw [eq_iff_iff, List.mem_cons]
          constructor
          · rintro (q | q)
            · exact absurd q.symm hx
            · exact q
          · exact .inr
        rw [e2] at k
        exact k
theorem contains_vals {P : Program} {w : World} {A : Around} {E : Value → Shared → Prop} {s : Shared} {v d : Addr} {ep : Nat} {kvs : List (Key × Value)} {ns : List Int} {x : Int} {tx : Tok} {Q : Bool → Shared → Prop} (hA : A.handled = none) (hvw : s.heap.IsValuesView v d) (hdt : Heap.DictAt (mixKind P w) s.heap d kvs ep)
    (hl : kvs.length = ns.length) (hv : ∀ (i : Nat) (z : Int), ns[i]? = some z → ∃ k t, kvs[i]? = some (k, Value.int z t))
    (k : ∀ (h' : Heap) (t' : Nat), (∀ b o, s.heap.get? b = some o → h'.get? b = some o) → Q (decide (x ∈ ns)) { heap := h', gens := s.gens, drawn := s.drawn, toks := t', os := s.os }) :
    wpAny (model P w) A (contains (.ref v) (.int x tx)) Q E s := by
  have ht : s.TypeIs (.ref v) "dict_values" := by
    obtain ⟨o, h1, h2, h3⟩ := hvw
    exact ⟨o, h1, h2⟩
  refine wpAny_holding ?_
  show wpAny _ _ (specialOf (Value.ref v) ("__contains__" : Str) >>= _) _ _ _
  refine wpAny_bind (wpAny_specialOf ht look_in ?_)
  refine wpAny_ite_false (by rfl) ?_
  refine wpAny_bind (wpAny_bind (wpAny_specialOf ht look_in (wpAny_pure ?_)))
  refine wpAny_bind (wpAny_rule (wpAny_bind (wpAny_tryCatch (wpAny_pyIter_values hvw hdt ?_))))
  refine wpAny_bind (wpAny_runValue ?_)
  have hd : d < s.heap.objs.size := by
    obtain ⟨o, es, q, _⟩ := hdt
    exact Heap.lt_size q
  refine in_loop (it := s.heap.objs.size) (Nat.ne_of_lt hd) hl hv ns.length 0 _ _ _ rfl hA ⟨_, Heap.get?_push_at rfl rfl, rfl, rfl⟩ (hdt.push _) fun h' t' hk => ?_
  refine wpAny_pure ?_
  have k := k h' t' fun b o q => hk b o (Nat.ne_of_lt (Heap.lt_size q)) (Heap.get?_push_of_some _ q)
  rw [List.drop_zero]
  exact k
theorem pd_get {α β : Type} {F : α → β → Prop} {l : List α} {m : List β} (h : Paired F l m) : ∀ {i : Nat} {x : α}, l[i]? = some x → ∃ y, m[i]? = some y ∧ F x y := by
  induction h with
  | nil => intro i x e; cases i <;> cases e
  | cons a r ih =>
    intro i x e
    cases i with
    | zero => cases e; exact ⟨_, rfl, a⟩
    | succ i => exact ih e
def tInVals (neg : Bool) (ti td : TE) : TE := fun σ H Q => ti σ H fun y H1 => td σ H1 fun x H2 => ∃ (d : Addr) (kvs : List (Key × V)) (ns : List Int) (i : Int), x = .ref d ∧ y = .int i ∧ H2 d = some (.dK kvs) ∧ kvs.map (·.2) = ns.map V.int ∧ Q (.bl (if neg = true then !decide (i ∈ ns) else decide (i ∈ ns))) H2
section
variable {X : Cx}
theorem pc_notInVals {o i : Expr} {ti td : TE} {apos cpos : Pos} (hc : X.calm = true) (hi : PE X i ti) (ho : PE X o td) (hbase : attributeBase o ("values" : Str) X.env (eval o X.env) = eval o X.env := by rfl) (hline : (apos.endLine == cpos.line) = true := by rfl) :
    PC X .NotIn i (.Call (.Attribute o ("values" : Str) apos) [] [] cpos) (tInVals true ti td) := by
  refine ⟨fun pins s σ H Q I h => thn (hi.run pins s σ H _ I h) ?_⟩
  rintro iv s1 ⟨y, H1, I1, ry, q1⟩
  refine wpAny_Call_method hbase rfl hline F.plainAttrs_dict F.slot_dict_values F.type_dict_values (thn (ho.run pins s1 σ H1 _ I1 q1) ?_)
  rintro u s2 ⟨x, H2, I2, rx, d, kvs, ns, z, rfl, rfl, hd, hkv, q⟩
  cases rx
  obtain ⟨t, rfl⟩ := ry
  obtain ⟨od, L⟩ := I2.lock hd trivial
  obtain ⟨hs, hgd, hx, es, ep, vs, hdt, hsz, kv, hm⟩ := L.frzK upd_same
  have hl := kv.length
  refine ⟨Heap.DictOf.typeIs (Heap.DictAt.dictOf hm), Heap.MapOf.noDict (Heap.DictOf.mapOf (Heap.DictAt.dictOf hm)), ?_⟩
  have hkl : kvs.length = ns.length := by
    have e := congrArg List.length hkv
    rw [List.length_map, List.length_map] at e
    exact e
  have hv : ∀ (i : Nat) (z : Int), ns[i]? = some z → ∃ k t, vs[i]? = some (k, Value.int z t) := by
    intro i z hz
    have h1 : (kvs.map (·.2))[i]? = some (V.int z) := by
      rw [hkv, List.getElem?_map, hz]
      rfl
    rw [List.getElem?_map] at h1
    cases e : kvs[i]? with
    | none => rw [e] at h1; cases h1
    | some p =>
      rw [e] at h1
      obtain ⟨⟨k, u⟩, e1, e2, e3⟩ := pd_get kv e
      have e4 : p.2 = V.int z := Option.some.inj h1
      rw [e4] at e3
      obtain ⟨t, rfl⟩ := e3
      exact ⟨k, t, e1⟩
  refine method_meetsIn F.slot_dict_values F.entry_dict_values rfl (PySem.evalArgs_none ⟨rfl, Heap.DictOf.typeIs (Heap.DictAt.dictOf hm), F.args_dict_values_1 (Value.ref d), _, meets_dict_values (mixKind X.prog X.w) d hs, ⟨vs, Heap.DictAt.dictOf hm⟩, ?_⟩)
  show wpAny _ _ (contains (Value.ref s2.heap.objs.size) (Value.int z t) >>= _) _ _ _
  have I3 := I2.kept (t' := s2.toks) fun b ob q => Heap.get?_push_of_some { cls := Value.type "dict_values", data := Data.fields #[Value.ref d] } q
  refine wpAny_bind (contains_vals (ns := ns) (I2.ok.hd hc) ⟨_, Heap.get?_push_size s2.1 rfl, rfl, rfl⟩ (hm.push _) (hl.symm.trans hkl) hv fun h' t' hk => wpAny_pure ?_)
  exact ⟨.bl (!decide (z ∈ ns)), H2, I3.kept hk, (show L2.RelV (.bl (!decide (z ∈ ns))) (Value.bool (!decide (z ∈ ns))) from rfl), q⟩
end

/-! ### C.m(x, y, ..): a method read off its class and called with its object -/
def tClsFn (C : Addr) (sp : Sp) (E : XK) (ta : TE) (t : TA) : TE := fun σ H Q => ta σ H fun x H1 => x = .ref C ∧ t σ H1 fun vs H2 => sp vs H2 Q E
structure ClsF (K : PySem.W.Frag) (C : Addr) (m : Str) (f : Addr) : Prop where
  rd : ClX.CRead K C (.type "type")
  fc : PySem.W.findCls K (.ref C) (.type "type") m = some (.val (.ref f))
  kp : PySem.W.keepIn K (.ref f) = true
section
variable {X : Cx}
theorem pe_clsFn {CX : CXT} {k : Nat} {C f : Addr} {fd : FuncData} {ps : List Str} {sp : Sp} {E : XK} {o e : Expr} {es : List Expr} {m : Str} {pos apos : Pos} {ta : TE} {t : TA} {pl : Sem Bool}
    (he : PE X o ta) (c : ClsF X.K C m f) (G : FnOk X.prog X.w X.K X.mg X.base CX k f fd ps sp) (hr : Room k X.A) (hb : L2.Binds X.K fd ps []) (hx : Passes CX X E) (ha : PA X (e :: es) t)
    (hst : starEach (e :: es) X.env = (false, eval e X.env) :: starEach es X.env := by rfl) (hpl : (backTo pos (starEach es X.env)).any (·.1) = false := by rfl)
    (ht : eval (.Call (.Attribute o m apos) (e :: es) [] pos) X.env = (do
      let ov ← eval o X.env
      standAt apos.atName
      let __x ← holding [ov] (getMethod ov m pl)
      match __x with
        | (f, first) => callWith pos f first (backTo pos (starEach (e :: es) X.env)) (backToKw pos (keywordEach [] X.env))) := by rfl) :
    PE X (.Call (.Attribute o m apos) (e :: es) [] pos) (tClsFn C sp E ta t) := by
  refine ⟨fun pins s σ H Q I h => ?_⟩
  refine PySem.W.methodCall_KW (pl := pl) (thn (he.run pins s σ H (fun x H1 => x = .ref C ∧ t σ H1 fun vs H2 => sp vs H2 Q E) I h) ?_) ht
  rintro u s1 ⟨x, H1, I1, rx, rfl, q⟩
  cases rx
  refine PySem.W.method_cls I1.kIn c.rd.ga (PySem.W.cls_value I1.kIn c.rd.rd c.fc rfl ?_)
  refine PySem.W.callWith_K (Inv.kIn (Inv.tok I1 (s1.toks + 1))) c.kp (thn (ha.run pos pins _ σ H1 (fun vs H2 => sp vs H2 Q E) (Inv.tok I1 (s1.toks + 1)) q) ?_) hst hpl
  rintro us s2 ⟨vs, H2, I2, rv, q2⟩
  refine ⟨I2.kIn, run_fn G hr hb .nil hx I2 rv ?_⟩
  rw [List.append_nil]
  exact q2
end

/-! ### a quay that is kept -/
def rLenStr : List V → Hp → VK → Prop := fun xs H Q => ∃ z : Str, xs = [.str z] ∧ z.length ≤ sizeLine ∧ Q (.int z.length) H
def rLeStr : R2 := fun x y H Q => ∃ i j : Str, x = .str i ∧ y = .str j ∧ Q (.bl (!decide (j.cps.toList < i.cps.toList))) H
def tJoin (K : PySem.W.Frag) (to te : TE) : TE := tM1 (fun x xs H Q => ∃ a p, ∃ ys : List Str, x = .str a ∧ xs = [.ref p] ∧ (SqL K H p (ys.map V.str) ∨ SqT K H p (ys.map V.str)) ∧ (ys.map (·.length)).sum + ys.length * a.length ≤ 16777216 ∧ Q (.str (Txt.join a ys)) H) to te
/-- name, wish, berth -/
abbrev Ship := Str × Int × Int
def ffq (b : Bool) (n : Nat) (occ : Int → Bool) (w : Int) : Option Int := if b = true then rfree n occ w else ffree n occ w
def occS (ss : List Ship) : Int → Bool := fun x => ss.any fun s => decide (s.2.2 = x)
theorem occS_snoc {ss : List Ship} {s : Ship} : occS (ss ++ [s]) = setO (occS ss) s.2.2 := by
  funext x
  unfold occS setO
  rw [List.any_append, Bool.or_comm]
  simp [eq_comm]
theorem occS_nil : occS [] = fun _ => false := rfl
def KvAt (K : PySem.W.Frag) (H : Hp) : List (Key × V) → List Ship → Prop := Paired fun kv s => kv.1 = .inr s.1 ∧ ∃ t, kv.2 = .ref t ∧ SqT K H t [.int s.2.1, .int s.2.2]
def TrAt (K : PySem.W.Frag) (H : Hp) : List V → List Ship → Prop := Paired fun v s => ∃ t, v = .ref t ∧ SqT K H t [.str s.1, .int s.2.1, .int s.2.2]
theorem pd_imp {α β : Type} {F G : α → β → Prop} {l : List α} {m : List β} (h : Paired F l m) (k : ∀ a b, F a b → G a b) : Paired G l m := by
  induction h with
  | nil => exact .nil
  | cons a _ ih => exact .cons (k _ _ a) ih
theorem pd_len {α β : Type} {F : α → β → Prop} {l : List α} {m : List β} (h : Paired F l m) : l.length = m.length := by
  induction h with
  | nil => rfl
  | cons _ _ ih => rw [List.length_cons, List.length_cons, ih]
theorem pd_snoc {α β : Type} {F : α → β → Prop} {l : List α} {m : List β} (h : Paired F l m) {a : α} {b : β} (k : F a b) : Paired F (l ++ [a]) (m ++ [b]) := by
  induction h with
  | nil => exact .cons k .nil
  | cons x _ ih => exact .cons x ih
theorem KvAt.same {K : PySem.W.Frag} {H H' : Hp} {kvs : List (Key × V)} {ss : List Ship} (h : KvAt K H kvs ss) (s : Same H H') : KvAt K H' kvs ss := pd_imp h fun _ _ ⟨e, t, q, r⟩ => ⟨e, t, q, s.seqT r⟩
theorem TrAt.same {K : PySem.W.Frag} {H H' : Hp} {vs : List V} {ss : List Ship} (h : TrAt K H vs ss) (s : Same H H') : TrAt K H' vs ss := pd_imp h fun _ _ ⟨t, q, r⟩ => ⟨t, q, s.seqT r⟩
/-- no tuple stands at d -/
def NT (H : Hp) (d : Addr) : Prop := (∀ xs, H d ≠ some (.tup xs)) ∧ ∀ o xs, H d ≠ some (.frz o (.tup xs))
theorem nt_dK {H : Hp} {d : Addr} {kvs : List (Key × V)} (h : H d = some (.dK kvs)) : NT H d := ⟨fun _ e => (by rw [h] at e; cases e), fun _ _ e => (by rw [h] at e; cases e)⟩
theorem nt_fz {H : Hp} {d : Addr} {o : Obj} {kvs : List (Key × V)} (h : H d = some (.frz o (.dK kvs))) : NT H d := ⟨fun _ e => (by rw [h] at e; cases e), fun _ _ e => (by rw [h] at e; cases e)⟩
theorem nt_lst {H : Hp} {d : Addr} {xs : List V} (h : H d = some (.lst xs)) : NT H d := ⟨fun _ e => (by rw [h] at e; cases e), fun _ _ e => (by rw [h] at e; cases e)⟩
theorem nt_none {H : Hp} {d : Addr} (h : H d = none) : NT H d := ⟨fun _ e => (by rw [h] at e; cases e), fun _ _ e => (by rw [h] at e; cases e)⟩
/-- tuples stay where only the object at d, no tuple, changes -/
theorem seqT_nt {K : PySem.W.Frag} {H H' : Hp} {t d : Addr} {xs : List V} (hd : NT H d) (k : ∀ c o, H c = some o → c ≠ d → H' c = some o) (h : SqT K H t xs) : SqT K H' t xs := by
  rcases h with (h | ⟨o, h⟩) | h
  · exact .inl (.inl (k _ _ h fun q => hd.1 xs (q ▸ h)))
  · exact .inl (.inr ⟨o, k _ _ h fun q => hd.2 o xs (q ▸ h)⟩)
  · exact .inr h
theorem seqT_but {K : PySem.W.Frag} {H H' : Hp} {t d : Addr} {xs : List V} {kvs : List (Key × V)} (hd : H d = some (.dK kvs)) (k : ∀ c o, H c = some o → c ≠ d → H' c = some o) (h : SqT K H t xs) : SqT K H' t xs := seqT_nt (nt_dK hd) k h
theorem KvAt.nt {K : PySem.W.Frag} {H H' : Hp} {d : Addr} {kvs : List (Key × V)} {ss : List Ship} (hd : NT H d) (k : ∀ c o, H c = some o → c ≠ d → H' c = some o) (h : KvAt K H kvs ss) : KvAt K H' kvs ss := pd_imp h fun _ _ ⟨e, t, q, r⟩ => ⟨e, t, q, seqT_nt hd k r⟩
theorem TrAt.nt {K : PySem.W.Frag} {H H' : Hp} {d : Addr} {vs : List V} {ss : List Ship} (hd : NT H d) (k : ∀ c o, H c = some o → c ≠ d → H' c = some o) (h : TrAt K H vs ss) : TrAt K H' vs ss := pd_imp h fun _ _ ⟨t, q, r⟩ => ⟨t, q, seqT_nt hd k r⟩
def flds (n : Nat) (d : Addr) : List (Str × V) := [("_berths", .int n), ("_ships", .ref d)]
theorem flds_b {n : Nat} {d : Addr} : (flds n d).lookup ("_berths" : Str) = some (.int n) := by rfl
theorem flds_s {n : Nat} {d : Addr} : (flds n d).lookup ("_ships" : Str) = some (.ref d) := by rfl
structure ClsT (K : PySem.W.Frag) (a : Ad) (b : Bool) : Prop where
  cl : Cls K (a.cls b)
  nB : NoAttr K (a.cls b) "_berths"
  nS : NoAttr K (a.cls b) "_ships"
/-- a quay of the class C stands at p, its ships at d -/
structure QuayAt (K : PySem.W.Frag) (C : Addr) (H : Hp) (p d : Addr) (n : Nat) (ss : List Ship) : Prop where
  ob : ∃ dx, H p = some (.ins C dx (flds n d))
  dc : ∃ kvs, H d = some (.dK kvs) ∧ KvAt K H kvs ss
  nd : (ss.map (·.1)).Nodup
  rg : ∀ s ∈ ss, 1 ≤ s.2.1 ∧ s.2.1 ≤ n ∧ 1 ≤ s.2.2 ∧ s.2.2 ≤ n
  n1 : 1 ≤ n ∧ n ≤ 400
  ln : ss.length ≤ 500
theorem QuayAt.same {K : PySem.W.Frag} {C : Addr} {H H' : Hp} {p d : Addr} {n : Nat} {ss : List Ship} (h : QuayAt K C H p d n ss) (s : Same H H') : QuayAt K C H' p d n ss := by
  obtain ⟨⟨dx, h1⟩, ⟨kvs, h2, h3⟩, h4, h5, h6, h7⟩ := h
  exact ⟨⟨dx, s _ _ h1⟩, ⟨kvs, s _ _ h2, h3.same s⟩, h4, h5, h6, h7⟩
theorem QuayAt.ne {K : PySem.W.Frag} {C : Addr} {H : Hp} {p d : Addr} {n : Nat} {ss : List Ship} (h : QuayAt K C H p d n ss) : p ≠ d := by
  obtain ⟨⟨dx, h1⟩, ⟨kvs, h2, h3⟩, _⟩ := h
  exact ne_of h1 h2 (by intro z; cases z)
/-! names -/
def isNm (t : Str) : Bool := decide (1 ≤ t.length) && decide (t.length ≤ 8) && t.cps.toList.all fun c => decide (97 ≤ c) && decide (c ≤ 122)
def nameV : V → Bool
  | .str t => isNm t
  | _ => false
def isStr : V → Bool
  | .str _ => true
  | _ => false
theorem tyb_str {K : PySem.W.Frag} {H : Hp} {x : V} {T : String} (h : TyB K H x T) : decide (T = "str") = isStr x := by
  cases h <;> first | rfl | decide
theorem le_one {x y : Nat} : (!decide (([y] : List Nat) < [x])) = decide (x ≤ y) := by
  by_cases h : x ≤ y
  · rw [decide_eq_true h]
    have : ¬ ([y] : List Nat) < [x] := fun z => by
      cases z with
      | rel q => omega
      | cons q => cases q
    rw [decide_eq_false this]
    rfl
  · rw [decide_eq_false h]
    have : ([y] : List Nat) < [x] := .rel (by omega)
    rw [decide_eq_true this]
    rfl
theorem nameV_true {x : V} (h : nameV x = true) : ∃ t, x = .str t ∧ isNm t = true := by
  cases x with
  | str t => exact ⟨t, rfl, h⟩
  | _ => cases h
/-- what a look at a name comes to: R behind a good one -/
def ChkN (K : PySem.W.Frag) (a : Ad) (x : V) (H : Hp) (E : XK) (R : Str → Prop) : Prop := (∃ T, TyB K H x T) ∧ (∀ t, x = .str t → t.length ≤ sizeLine) ∧ ((nameV x = false ∧ E (.ref a.e_NoName) none H) ∨ ∃ t, x = .str t ∧ isNm t = true ∧ R t)
theorem ChkN.imp {K : PySem.W.Frag} {a : Ad} {x : V} {H : Hp} {E : XK} {R R' : Str → Prop} (h : ChkN K a x H E R) (k : ∀ t, x = .str t → isNm t = true → R t → R' t) : ChkN K a x H E R' := by
  obtain ⟨h1, h2, h | ⟨t, e, g, r⟩⟩ := h
  · exact ⟨h1, h2, .inl h⟩
  · exact ⟨h1, h2, .inr ⟨t, e, g, k t e g r⟩⟩
/-! the methods -/
def sp_M_init (K : PySem.W.Frag) (a : Ad) (b : Bool) : Sp := fun vs H Q E => ∃ p dx y, vs = [.ref p, y] ∧ H p = some (.ins (a.cls b) dx []) ∧
  ChkQ K a y H E fun n => ∀ (d : Addr) (H' : Hp), H d = none → (∀ c o, H c = some o → c ≠ p → H' c = some o) → QuayAt K (a.cls b) H' p d n [] → Q .non H'
abbrev N_Q_init : List Str := ["self", "berths"]
def t_Q_init (K : PySem.W.Frag) (a : Ad) (E : XK) : TS :=
  (tSeq (tDrop (tCall (sp_check_quay K a) [] E (tCons (tVar 1) tNil)))
    (tSeq (sFld K (tVar 0) (tVar 1) "_berths")
    (sFld K (tVar 0) tDNewK "_ships")))
theorem len_M_init {K : PySem.W.Frag} {a : Ad} {b : Bool} {vs : List V} {H : Hp} {Q : VK} {E : XK} (h : sp_M_init K a b vs H Q E) : vs.length = 2 := by
  obtain ⟨p, dx, y, rfl, _⟩ := h
  rfl
theorem pu_Q_init {K : PySem.W.Frag} {a : Ad} {b : Bool} {vs : List V} {H : Hp} {Q : VK} {E : XK} (TC : ClsT K a b) (h : sp_M_init K a b vs H Q E) : t_Q_init K a E { nx := fun _ H' => Q .non H', rt := Q } (start N_Q_init vs) H := by
  obtain ⟨p, dx, y, rfl, hp, h⟩ := h
  refine ⟨y, rfl, y, rfl, ChkQ.imp h fun n e h1 h2 k => ?_⟩
  subst e
  refine ⟨_, rfl, _, rfl, p, _, dx, [], rfl, hp, TC.cl, TC.nB, (by show 0 < 1000; decide), ?_⟩
  intro d hd
  have npd : p ≠ d := ne_of_none upd_same hd
  refine ⟨_, rfl, p, _, dx, _, rfl, (by rw [upd_ne npd]; exact upd_same), TC.cl, TC.nS, (by show 1 < 1000; decide), ?_⟩
  have hd0 : H d = none := by rw [upd_ne npd.symm] at hd; exact hd
  refine k d _ hd0 (fun c o e ne => ?_) ⟨⟨dx, ?_⟩, ⟨[], ?_, .nil⟩, List.nodup_nil, fun s hs => (by cases hs), ⟨h1, h2⟩, by decide⟩
  · rw [upd_ne ne, upd_ne (ne_of_none e hd0), upd_ne ne]
    exact e
  · rw [upd_same]
    rfl
  · rw [upd_ne npd.symm, upd_same]
abbrev N_R_init : List Str := ["self", "berths"]
def t_R_init (K : PySem.W.Frag) (a : Ad) (E : XK) : TS :=
  (tDrop (tClsFn a.c_Quay (sp_M_init K a true) E (tC (.ref a.c_Quay)) (tCons (tVar 0) (tCons (tVar 1) tNil))))
theorem pu_R_init {K : PySem.W.Frag} {a : Ad} {vs : List V} {H : Hp} {Q : VK} {E : XK} (TC : ClsT K a true) (h : sp_M_init K a true vs H Q E) : t_R_init K a E { nx := fun _ H' => Q .non H', rt := Q } (start N_R_init vs) H := by
  obtain ⟨p, dx, y, rfl, hp, h⟩ := h
  exact ⟨rfl, _, rfl, _, rfl, p, dx, y, rfl, hp, h⟩
def kindS (b : Bool) : Str := if b = true then "round" else "quay"
/-! looking a name up -/
theorem kv_look {K : PySem.W.Frag} {H : Hp} {kvs : List (Key × V)} {ss : List Ship} (h : KvAt K H kvs ss) (t : Str) :
    (t ∉ ss.map (·.1) → valV kvs (Sum.inr t : Key) = none) ∧ (t ∈ ss.map (·.1) → ∃ s ∈ ss, s.1 = t ∧ ∃ tp, valV kvs (Sum.inr t : Key) = some (.ref tp) ∧ SqT K H tp [.int s.2.1, .int s.2.2]) := by
  induction h with
  | nil => exact ⟨fun _ => rfl, fun h => by cases h⟩
  | @cons kv s l1 l2 hk _ ih =>
    obtain ⟨i1, i2⟩ := ih
    obtain ⟨e, tp, ev, hs⟩ := hk
    obtain ⟨k, v⟩ := kv
    simp only at e ev
    subst e ev
    have step : valV ((Sum.inr s.1, V.ref tp) :: l1) (Sum.inr t : Key) = if s.1 = t then some (.ref tp) else valV l1 (Sum.inr t : Key) := by
      unfold valV
      rw [List.find?_cons]
      by_cases z : s.1 = t
      · simp [z]
      · have : ¬ (Sum.inr s.1 : Key) = Sum.inr t := fun q => z (Sum.inr.inj q)
        simp [z, this]
    rw [step]
    by_cases z : s.1 = t
    · rw [if_pos z]
      exact ⟨fun hn => absurd (by rw [List.map_cons, z]; exact List.mem_cons_self) hn, fun _ => ⟨s, List.mem_cons_self, z, tp, rfl, hs⟩⟩
    · rw [if_neg z]
      refine ⟨fun hn => i1 fun q => hn (by rw [List.map_cons]; exact List.mem_cons_of_mem _ q), fun hm => ?_⟩
      rw [List.map_cons] at hm
      rcases List.mem_cons.mp hm with q | q
      · exact absurd q.symm z
      · obtain ⟨s', m', r⟩ := i2 q
        exact ⟨s', List.mem_cons_of_mem _ m', r⟩
/-- what a look for a ship's name comes to: R behind one that is there -/
def ChkS (K : PySem.W.Frag) (a : Ad) (ss : List Ship) (x : V) (H : Hp) (E : XK) (R : Str → Prop) : Prop := ChkN K a x H E fun t => (t ∉ ss.map (·.1) ∧ E (.ref a.e_NoShip) none H) ∨ (t ∈ ss.map (·.1) ∧ R t)
/-! the berths that are held -/
def freeS (n : Nat) (ss : List Ship) : List Int := (allB n).filter fun x => !occS ss x
/-! all ships -/
/-! a ship comes -/
/-! ### mixed numbers, an order of so many -/
def sp_l_mix (K : PySem.W.Frag) : Sp := fun vs H Q _ => ∃ (p : Addr) (st c : Int), vs = [.ref p, .int c] ∧ H p = some (.lst [.int st]) ∧ 0 ≤ st ∧ st < 2147483647 ∧ ∀ st' r : Int, 0 ≤ st' → st' < 2147483647 → 0 ≤ r → r < 2147483647 → Q (.int r) (upd H p (.lst [.int st']))
abbrev N_l_mix : List Str := ["_law_state", "_law_cell"]
def t_l_mix (K : PySem.W.Frag) (a : Ad) : TS :=
  (tSeq (tAsg (tOp rModI (tOp rAddI (tOp rAddI (tOp rMulI (tOp (rIxL K) (tVar 0) (tC (.int 0))) (tC (.int 48271))) (tOp rMulI (tVar 1) (tC (.int 16807)))) (tC (.int 11))) (tC (.int 2147483647))) (gSub (tVar 0) (tC (.int 0)) rSetL))
    (tRet (tOp rDivI (tOp rModI (tOp rMulI (tOp (rIxL K) (tVar 0) (tC (.int 0))) (tOp (rIxL K) (tVar 0) (tC (.int 0)))) (tC (.int 2147483647))) (tC (.int 5)))))
theorem len_l_mix {K : PySem.W.Frag} {vs : List V} {H : Hp} {Q : VK} {E : XK} (h : sp_l_mix K vs H Q E) : vs.length = 2 := by
  obtain ⟨p, st, c, rfl, _⟩ := h
  rfl
theorem d5 {n : Int} : CDiv n 5 := ⟨by decide, by decide⟩
theorem pmix : (0 : Int) < 2147483647 := by decide
theorem pu_l_mix {K : PySem.W.Frag} {a : Ad} {vs : List V} {H : Hp} {Q : VK} {E : XK} (h : sp_l_mix K vs H Q E) : t_l_mix K a { nx := fun _ H' => Q .non H', rt := Q } (start N_l_mix vs) H := by
  obtain ⟨p, st, c, rfl, hp, h0, h1, q⟩ := h
  refine ⟨.ref p, rfl, p, _, 0, .int st, rfl, rfl, sqL_of hp, atI_nat (j := 0) rfl, st, 48271, rfl, rfl, .inr ⟨by decide, by decide⟩, .int c, rfl, c, 16807, rfl, rfl, .inr ⟨by decide, by decide⟩, _, _, rfl, rfl, _, 11, rfl, rfl, _, 2147483647, rfl, rfl, pmix, .ref p, rfl, p, _, 0, 0, rfl, rfl, hp, rfl, ?_⟩
  have b1 := Int.emod_nonneg (st * 48271 + c * 16807 + 11) (show (2147483647 : Int) ≠ 0 by decide)
  have b2 := Int.emod_lt_of_pos (st * 48271 + c * 16807 + 11) pmix
  refine ⟨.ref p, rfl, p, _, 0, .int ((st * 48271 + c * 16807 + 11) % 2147483647), rfl, rfl, sqL_of upd_same, atI_nat (j := 0) rfl, .ref p, rfl, p, _, 0, .int ((st * 48271 + c * 16807 + 11) % 2147483647), rfl, rfl, sqL_of upd_same, atI_nat (j := 0) rfl, _, _, rfl, rfl, .inl ⟨by omega, by omega⟩, _, 2147483647, rfl, rfl, pmix, _, 5, rfl, rfl, d5, ?_⟩
  have c1 := Int.emod_nonneg (((st * 48271 + c * 16807 + 11) % 2147483647) * ((st * 48271 + c * 16807 + 11) % 2147483647)) (show (2147483647 : Int) ≠ 0 by decide)
  have c2 := Int.emod_lt_of_pos (((st * 48271 + c * 16807 + 11) % 2147483647) * ((st * 48271 + c * 16807 + 11) % 2147483647)) pmix
  generalize (((st * 48271 + c * 16807 + 11) % 2147483647) * ((st * 48271 + c * 16807 + 11) % 2147483647)) % 2147483647 = u at c1 c2
  exact q _ _ b1 b2 (by omega) (by omega)
theorem rg_upTo {m : Nat} : rgV 0 (m : Int) = (upTo 0 m).map V.int := by
  unfold rgV upTo
  rw [List.map_map]
  have e : ((m : Int) - 0).toNat = m := by omega
  rw [e]
  rfl
theorem pop_perm {l : List Int} {k : Nat} {y : Int} (h : l[k]? = some y) : (y :: l.eraseIdx k).Perm l := by
  induction l generalizing k with
  | nil => simp at h
  | cons x r ih =>
    cases k with
    | zero =>
      cases h
      exact List.Perm.refl _
    | succ k => exact (List.Perm.swap x y _).trans ((ih (k := k) (by simpa using h)).cons x)
/-! ### the word of a refusal, or none -/
inductive Rk where
  | quay | wishes | count
  deriving DecidableEq
def clsK (a : Ad) : Rk → Addr
  | .quay => a.e_NoQuay
  | .wishes => a.e_NoWishes
  | .count => a.e_NoCount
def wordK : Rk → Str
  | .quay => Str.ofString "quay"
  | .wishes => Str.ofString "wishes"
  | .count => Str.ofString "count"
structure RefK (K : PySem.W.Frag) (a : Ad) (k : Rk) : Prop where
  ex : PySem.W.exmOne K (.ref (clsK a k)) (.ref a.e_BerthError) = some true
  c : ExcC K (clsK a k)
  n1 : PySem.W.kitOne K (.ref (clsK a k)) (.ref a.e_NoOrder) = some false
  n2 : PySem.W.kitOne K (.ref (clsK a k)) (.ref a.e_NoTree) = some false
  n3 : PySem.W.kitOne K (.ref (clsK a k)) (.ref a.e_TooMany) = some false
  o : ∀ k', PySem.W.kitOne K (.ref (clsK a k)) (.ref (clsK a k')) = some (decide (k' = k))
theorem kitF2 {K : PySem.W.Frag} {t c1 c2 : Value} (h1 : PySem.W.kitOne K t c1 = some false) (h2 : PySem.W.kitOne K t c2 = some false) : PySem.W.kitAny K t [c1, c2] = some false :=
  kitAny_cons h1 (fun _ => kitAny_cons h2 (fun _ => rfl) (fun z => by cases z)) (fun z => by cases z)
def sp_l_word (K : PySem.W.Frag) (a : Ad) : Sp := fun vs H Q _ => ∃ x, vs = [x] ∧ ((x = .non ∧ ∀ H', Same H H' → Q (.str (Str.ofString "none")) H') ∨ ∃ (e : Addr) (k : Rk), x = .ref e ∧ H e = some (ExK (.ref (clsK a k)) none e) ∧ ∀ H', Same H H' → Q (.str (wordK k)) H')
abbrev N_l_word : List Str := ["_law_e", "_law_some"]
def t_l_word (K : PySem.W.Frag) (a : Ad) : TS :=
  (tSeq (tIfS (tOr (tB (tIsN (tVar 0))) (tOr (tB (tCB (rIsiTE K) (tCons (tVar 0) (tCons (tTup (tCons (tC (.ref a.e_NoOrder)) (tCons (tC (.ref a.e_NoTree)) tNil))) tNil)))) (tB (tCB (rIsiE K) (tCons (tVar 0) (tCons (tC (.ref a.e_TooMany)) tNil)))))) (tRet (tOp (rIxL K) (tLst (tCons (tC (.str (Str.ofString "other"))) (tCons (tC (.str (Str.ofString "none"))) tNil))) (tCB rInt1 (tCons (tIsN (tVar 0)) tNil)))) tNext)
    (tSeq (tAsg (tLst tNil) (gName 1))
    (tSeq (tIfS (tB (tCB (rIsiE K) (tCons (tVar 0) (tCons (tC (.ref a.e_NoQuay)) tNil)))) (tDrop (tBM K "list" rAppend (tVar 1) (tCons (tC (.str (Str.ofString "quay"))) tNil))) tNext)
    (tSeq (tIfS (tB (tCB (rIsiE K) (tCons (tVar 0) (tCons (tC (.ref a.e_NoWishes)) tNil)))) (tDrop (tBM K "list" rAppend (tVar 1) (tCons (tC (.str (Str.ofString "wishes"))) tNil))) tNext)
    (tSeq (tIfS (tB (tCB (rIsiE K) (tCons (tVar 0) (tCons (tC (.ref a.e_NoCount)) tNil)))) (tDrop (tBM K "list" rAppend (tVar 1) (tCons (tC (.str (Str.ofString "count"))) tNil))) tNext)
    (tRet (tJoin K (tC (.str (Str.ofString " "))) (tVar 1))))))))
theorem len_l_word {K : PySem.W.Frag} {a : Ad} {vs : List V} {H : Hp} {Q : VK} {E : XK} (h : sp_l_word K a vs H Q E) : vs.length = 1 := by
  obtain ⟨x, rfl, _⟩ := h
  rfl
theorem word_step {K : PySem.W.Frag} {a : Ad} {k k' : Rk} {x l : Addr} {wd : Str} {ws : List Str} {rest : TS} {D : Ends} {H : Hp} (F : RefK K a k) (ex : H x = some (ExK (.ref (clsK a k)) none x)) (el : H l = some (.lst (ws.map V.str))) (hl : ws.length ≤ 10) (hx : x ≠ l)
    (kk : ∀ H', H' x = some (ExK (.ref (clsK a k)) none x) → H' l = some (.lst ((ws ++ if k' = k then [wd] else []).map V.str)) → (∀ c o, H c = some o → c ≠ l → H' c = some o) → rest D [some (.ref x), some (.ref l)] H') :
    (tSeq (tIfS (tB (tCB (rIsiE K) (tCons (tVar 0) (tCons (tC (.ref (clsK a k'))) tNil)))) (tDrop (tBM K "list" rAppend (tVar 1) (tCons (tC (.str wd)) tNil))) tNext) rest) D [some (.ref x), some (.ref l)] H := by
  refine ⟨.ref x, rfl, .ref x, _, _, _, decide (k' = k), rfl, .own _, .exc ex F.c, F.o k', _, rfl, ?_⟩
  by_cases z : k' = k
  · rw [decide_eq_true z]
    refine iteT ⟨.ref l, rfl, .inl ⟨rfl, _, sqL_of el⟩, l, _, _, rfl, rfl, el, ?_, ?_⟩
    · rw [List.length_map]
      exact small1000 (by omega)
    · refine kk _ (by rw [upd_ne hx]; exact ex) ?_ fun c o e ne => by rw [upd_ne ne]; exact e
      rw [upd_same, if_pos z, List.map_append]
      rfl
  · rw [decide_eq_false z]
    refine iteF (kk H ex ?_ fun c o e _ => e)
    rw [if_neg z, List.append_nil]
    exact el
theorem pu_l_word {K : PySem.W.Frag} {a : Ad} (F : ∀ k, RefK K a k) {vs : List V} {H : Hp} {Q : VK} {E : XK} (h : sp_l_word K a vs H Q E) : t_l_word K a { nx := fun _ H' => Q .non H', rt := Q } (start N_l_word vs) H := by
  obtain ⟨x, rfl, ⟨rfl, q⟩ | ⟨x, k, rfl, ex, q⟩⟩ := h
  · refine ⟨.non, rfl, true, rfl, iteT ⟨(by show 2 ≤ sizeLine; decide), fun l nl => ⟨.non, rfl, .inr ⟨true, rfl, l, _, 1, _, rfl, rfl, sqL_of upd_same, atI_nat (j := 1) rfl, q _ (same_new nl)⟩⟩⟩⟩
  have G := F k
  refine ⟨.ref x, rfl, false, rfl, iteF ⟨_, rfl, (by show 2 ≤ sizeLine; decide), fun t1 n1 => ⟨.ref x, t1, _, _, _, false, rfl, upd_same, .cons (.own _) (.cons (.own _) .nil), .exc (same_new n1 _ _ ex) G.c, kitF2 G.n1 G.n2, false, rfl, iteF ?_⟩⟩⟩
  have s1 := same_new n1 (o := .tup [V.ref a.e_NoOrder, V.ref a.e_NoTree])
  refine ⟨.ref x, rfl, .ref x, _, _, _, false, rfl, .own _, .exc (s1 _ _ ex) G.c, G.n3, false, rfl, iteF ⟨Nat.zero_le _, fun l nl => ?_⟩⟩
  have s4 := s1.trans (same_new nl (o := .lst []))
  have ex4 := s4 _ _ ex
  have hxl : x ≠ l := ne_of_none (s1 _ _ ex) nl
  have nl0 : H l = none := s1.free nl
  refine word_step (k' := .quay) (ws := []) G ex4 upd_same (by decide) hxl fun H1 e1 l1 k1 => ?_
  refine word_step (k' := .wishes) G e1 l1 (by cases k <;> decide) hxl fun H2 e2 l2 k2 => ?_
  refine word_step (k' := .count) G e2 l2 (by cases k <;> decide) hxl fun H3 e3 l3 k3 => ?_
  have sf : Same H H3 := fun c o e => by
    have ne : c ≠ l := ne_of_none e nl0
    exact k3 c o (k2 c o (k1 c o (s4 c o e) ne) ne) ne
  cases k <;> refine ⟨⟨_, rfl⟩, .ref l, rfl, Str.ofString " ", l, _, rfl, rfl, .inl (sqL_of l3), by decide +kernel, ?_⟩ <;> refine Eq.mp (congrArg (fun z => Q (.str z) H3) ?_) (q _ sf) <;> decide +kernel
/-- a refusal's way out: its word -/
def WordE (a : Ad) (Q : VK) : XK := fun cls d H' => d = none ∧ ∃ k, cls = .ref (clsK a k) ∧ ∀ H'', Same H' H'' → Q (.str (wordK k)) H''
theorem ChkQ.mono {K : PySem.W.Frag} {a : Ad} {b : V} {H : Hp} {E E' : XK} {R R' : Nat → Prop} (h : ChkQ K a b H E R) (e : ∀ cls d H', E cls d H' → E' cls d H') (k : ∀ n, R n → R' n) : ChkQ K a b H E' R' := by
  obtain ⟨T, ty, ⟨h1, h2⟩ | ⟨n, e1, h1, h2, r⟩⟩ := h
  · exact ⟨T, ty, .inl ⟨h1, e _ _ _ h2⟩⟩
  · exact ⟨T, ty, .inr ⟨n, e1, h1, h2, k n r⟩⟩
theorem ChkW.mono {K : PySem.W.Frag} {a : Ad} {b w : V} {H : Hp} {E E' : XK} {R R' : Nat → List Int → Addr → Prop} (h : ChkW K a b w H E R) (e : ∀ cls d H', E cls d H' → E' cls d H') (k : ∀ n ws p, R n ws p → R' n ws p) : ChkW K a b w H E' R' :=
  ChkQ.mono h e fun n r => by
    rcases r with ⟨T, ty, t1, t2, r⟩ | ⟨p, xs, ew, hs, ht, ⟨r1, r2⟩ | ⟨ws, ex, hl, hb, r⟩⟩
    · exact .inl ⟨T, ty, t1, t2, e _ _ _ r⟩
    · exact .inr ⟨p, xs, ew, hs, ht, .inl ⟨r1, e _ _ _ r2⟩⟩
    · exact .inr ⟨p, xs, ew, hs, ht, .inr ⟨ws, ex, hl, hb, k n ws p r⟩⟩
/-- what each of the functions asked comes to where the wishes are good ones of the kind -/
def AskedR (K : PySem.W.Frag) (a : Ad) (way : Nat) (y : V) (H : Hp) (Q : VK) (E : XK) (n : Nat) (ws : List Int) (p : Addr) : Prop :=
  (way ≤ 7 ∧ ws.length ≤ n ∧ SqL K H p (ws.map V.int) ∧ (∃ T, TyB K H y T) ∧ ((way = 7 ∧ isInt y = false ∧ E (.ref a.e_NoCount) none H) ∨ ((way = 7 → isInt y = true) ∧ ∀ H', Same H H' → Q .non H'))) ∨
  (way = 8 ∧ ((ws.length + 1 ≠ n ∧ E (.ref a.e_NoWishes) none H) ∨ (ws.length + 1 = n ∧ ∀ H', Same H H' → Q .non H')))
def sp_l_asked (K : PySem.W.Frag) (a : Ad) : Sp := fun vs H Q E => ∃ (way : Nat) (b w y : V), vs = [.int way, b, w, y] ∧ way ≤ 9 ∧ ChkW K a b w H E (AskedR K a way y H Q E)
abbrev N_l_asked : List Str := ["_law_way", "_law_berths", "_law_wishes", "_law_by"]
def t_l_asked (K : PySem.W.Frag) (a : Ad) (E : XK) : TS :=
  (tIfS (tTest (tOp rEq (tVar 0) (tC (.int 0)))) (tDrop (tCall (sp_placed K a) [] E (tCons (tVar 1) (tCons (tVar 2) tNil)))) (tIfS (tTest (tOp rEq (tVar 0) (tC (.int 1)))) (tDrop (tCall (sp_taken K a) [] E (tCons (tVar 1) (tCons (tVar 2) tNil)))) (tIfS (tTest (tOp rEq (tVar 0) (tC (.int 2)))) (tDrop (tCall (sp_gone_on K a) [] E (tCons (tVar 1) (tCons (tVar 2) tNil)))) (tIfS (tTest (tOp rEq (tVar 0) (tC (.int 3)))) (tDrop (tCall (sp_crowded K a) [] E (tCons (tVar 1) (tCons (tVar 2) tNil)))) (tIfS (tTest (tOp rEq (tVar 0) (tC (.int 4)))) (tDrop (tCall (sp_is_good K a) [] E (tCons (tVar 1) (tCons (tVar 2) tNil)))) (tIfS (tTest (tOp rEq (tVar 0) (tC (.int 5)))) (tDrop (tCall (sp_placed_round K a) [] E (tCons (tVar 1) (tCons (tVar 2) tNil)))) (tIfS (tTest (tOp rEq (tVar 0) (tC (.int 6)))) (tDrop (tCall (sp_left_over K a) [] E (tCons (tVar 1) (tCons (tVar 2) tNil)))) (tIfS (tTest (tOp rEq (tVar 0) (tC (.int 7)))) (tDrop (tCall (sp_turned K a) [] E (tCons (tVar 1) (tCons (tVar 2) (tCons (tVar 3) tNil))))) (tIfS (tTest (tOp rEq (tVar 0) (tC (.int 8)))) (tDrop (tCall (sp_turning K a) [] E (tCons (tVar 1) (tCons (tVar 2) tNil)))) (tDrop (tCall (sp_next_row K a) [] E (tCons (tVar 1) (tCons (tVar 2) tNil)))))))))))))
theorem len_l_asked {K : PySem.W.Frag} {a : Ad} {vs : List V} {H : Hp} {Q : VK} {E : XK} (h : sp_l_asked K a vs H Q E) : vs.length = 4 := by
  obtain ⟨way, b, w, y, rfl, _⟩ := h
  rfl
theorem low_r {K : PySem.W.Frag} {a : Ad} {way : Nat} {y : V} {H : Hp} {Q : VK} {E : XK} {n : Nat} {ws : List Int} {p : Addr} (h : AskedR K a way y H Q E n ws p) (hw : way < 7) : ws.length ≤ n ∧ SqL K H p (ws.map V.int) ∧ ∀ H', Same H H' → Q .non H' := by
  rcases h with ⟨_, h1, h2, _, ⟨h3, _⟩ | ⟨_, h3⟩⟩ | ⟨h1, _⟩
  · omega
  · exact ⟨h1, h2, h3⟩
  · omega
theorem pu_l_asked {K : PySem.W.Frag} {a : Ad} {vs : List V} {H : Hp} {Q : VK} {E : XK} (h : sp_l_asked K a vs H Q E) : t_l_asked K a E { nx := fun _ H' => Q .non H', rt := Q } (start N_l_asked vs) H := by
  obtain ⟨way, b, w, y, rfl, hw, h⟩ := h
  have dk : ∀ i j : Int, decide (V.int i = V.int j) = decide (i = j) := fun i j => by
    by_cases z : i = j
    · rw [z, decide_eq_true rfl, decide_eq_true rfl]
    · rw [decide_eq_false z, decide_eq_false fun q => z (V.int.inj q)]
  have step : ∀ {c : Int} {A B : TS} {D : Ends} {σ : L2.St} {H' : Hp}, σ[0]? = some (some (.int way)) → ((way : Int) = c → A D σ H') → ((way : Int) ≠ c → B D σ H') → tIfS (tTest (tOp rEq (tVar 0) (tC (.int c)))) A B D σ H' := fun {c A B D σ H'} e0 h1 h2 => by
    refine ⟨_, e0, rfl, _, rfl, ?_⟩
    show (if decide (V.int way = V.int c) = true then _ else _)
    rw [dk]
    by_cases z : (way : Int) = c
    · rw [decide_eq_true z]; exact iteT (h1 z)
    · rw [decide_eq_false z]; exact iteF (h2 z)
  refine step rfl (fun z => ?_) (fun z0 => step rfl (fun z => ?_) (fun z1 => step rfl (fun z => ?_) (fun z2 => step rfl (fun z => ?_) (fun z3 => step rfl (fun z => ?_) (fun z4 => step rfl (fun z => ?_) (fun z5 => step rfl (fun z => ?_) (fun z6 => step rfl (fun z => ?_) (fun z7 => step rfl (fun z => ?_) (fun z8 => ?_)))))))))
  · exact ⟨_, rfl, _, rfl, b, w, rfl, ChkW.mono h (fun _ _ _ e => e) fun n ws p r => fun l H' _ s _ => (low_r r (by omega)).2.2 H' s⟩
  · exact ⟨_, rfl, _, rfl, b, w, rfl, ChkW.mono h (fun _ _ _ e => e) fun n ws p r => fun l H' _ s _ => (low_r r (by omega)).2.2 H' s⟩
  · exact ⟨_, rfl, _, rfl, b, w, rfl, ChkW.mono h (fun _ _ _ e => e) fun n ws p r => ⟨(low_r r (by omega)).2.1, fun H' s => (low_r r (by omega)).2.2 H' s⟩⟩
  · exact ⟨_, rfl, _, rfl, b, w, rfl, ChkW.mono h (fun _ _ _ e => e) fun n ws p r => fun H' s => (low_r r (by omega)).2.2 H' s⟩
  · exact ⟨_, rfl, _, rfl, b, w, rfl, ChkW.mono h (fun _ _ _ e => e) fun n ws p r => fun H' s => (low_r r (by omega)).2.2 H' s⟩
  · exact ⟨_, rfl, _, rfl, b, w, rfl, ChkW.mono h (fun _ _ _ e => e) fun n ws p r => .inr ⟨(low_r r (by omega)).1, fun l H' _ s _ => (low_r r (by omega)).2.2 H' s⟩⟩
  · exact ⟨_, rfl, _, rfl, b, w, rfl, ChkW.mono h (fun _ _ _ e => e) fun n ws p r => .inr ⟨(low_r r (by omega)).1, fun l H' _ s _ => (low_r r (by omega)).2.2 H' s⟩⟩
  · refine ⟨_, rfl, _, rfl, _, rfl, b, w, y, rfl, ChkW.mono h (fun _ _ _ e => e) fun n ws p r => ?_⟩
    rcases r with ⟨_, h1, h2, ⟨T, ty⟩, ⟨_, h3, h4⟩ | ⟨h3, h4⟩⟩ | ⟨h1, _⟩
    · exact ⟨T, ty, .inl ⟨h3, h4⟩⟩
    · have h5 := h3 (by omega)
      cases y with
      | int k => exact ⟨T, ty, .inr ⟨k, rfl, fun l H' _ s _ => h4 H' s⟩⟩
      | _ => cases h5
    · omega
  · refine ⟨_, rfl, _, rfl, b, w, rfl, ChkW.mono h (fun _ _ _ e => e) fun n ws p r => ?_⟩
    rcases r with ⟨h1, _⟩ | ⟨_, ⟨h1, h2⟩ | ⟨h1, h2⟩⟩
    · omega
    · exact .inl ⟨h1, h2⟩
    · exact .inr ⟨h1, h2⟩
  · refine ⟨_, rfl, _, rfl, b, w, rfl, ChkW.mono h (fun _ _ _ e => e) fun n ws p r => ?_⟩
    rcases r with ⟨h1, _⟩ | ⟨h1, _⟩
    · omega
    · omega
def sp_l_told (K : PySem.W.Frag) (a : Ad) : Sp := fun vs H Q _ => sp_l_asked K a vs H (fun _ H' => ∀ H'', Same H' H'' → Q (.str (Str.ofString "none")) H'') (WordE a Q)
abbrev N_l_told : List Str := ["_law_way", "_law_berths", "_law_wishes", "_law_by", "_law_caught", "_law_e"]
def t_l_told (K : PySem.W.Frag) (a : Ad) : TS :=
  (tSeq (tAsg (tC .non) (gName 4))
    (tSeq (tTryKeep K a.e_BerthError 5 4 fun W => (tDrop (tCallS (sp_l_asked K a) (WE W) (tCons (tVar 0) (tCons (tVar 1) (tCons (tVar 2) (tCons (tVar 3) tNil)))))))
    (tRet (tCall (sp_l_word K a) [] E0 (tCons (tVar 4) tNil)))))
theorem len_l_told {K : PySem.W.Frag} {a : Ad} {vs : List V} {H : Hp} {Q : VK} {E : XK} (h : sp_l_told K a vs H Q E) : vs.length = 4 := len_l_asked h
theorem pu_l_told {K : PySem.W.Frag} {a : Ad} (F : ∀ k, RefK K a k) {vs : List V} {H : Hp} {Q : VK} {E : XK} (h : sp_l_told K a vs H Q E) : t_l_told K a { nx := fun _ H' => Q .non H', rt := Q } (start N_l_told vs) H := by
  obtain ⟨way, b, w, y, rfl, hw, h⟩ := h
  have fin : ∀ (H' : Hp), (∀ H'', Same H' H'' → Q (.str (Str.ofString "none")) H'') → (tRet (tCall (sp_l_word K a) [] E0 (tCons (tVar 4) tNil))) { nx := fun _ H' => Q .non H', rt := Q } [some (.int way), some b, some w, some y, some .non, none] H' := fun H' q =>
    ⟨.non, rfl, .non, rfl, .inl ⟨rfl, q⟩⟩
  have out : ∀ (k : Rk) (H' : Hp) (c : Addr), (∀ H'', Same H' H'' → Q (.str (wordK k)) H'') → H' c = none →
      (tRet (tCall (sp_l_word K a) [] E0 (tCons (tVar 4) tNil))) { nx := fun _ H' => Q .non H', rt := Q } [some (.int way), some b, some w, some y, some (.ref c), none] (upd H' c (ExK (.ref (clsK a k)) none c)) := fun k H' c q nc =>
    ⟨.ref c, rfl, .ref c, rfl, .inr ⟨c, k, rfl, upd_same, fun H'' s => q H'' ((same_new nc).trans s)⟩⟩
  refine ⟨_, rfl, _, rfl, _, rfl, _, rfl, way, b, w, y, rfl, hw, ?_⟩
  have ee : ∀ cls d H', WordE a Q cls d H' → wKeep K a.e_BerthError 5 4 { nx := fun σ H' => (tRet (tCall (sp_l_word K a) [] E0 (tCons (tVar 4) tNil))) { nx := fun _ H' => Q .non H', rt := Q } σ H', rt := Q } cls d [some (.int way), some b, some w, some y, some .non, none] H' := by
    rintro cls d H' ⟨rfl, k, rfl, q⟩
    exact ⟨(F k).ex, fun c nc => out k H' c q nc⟩
  refine ChkW.mono h ee fun n ws p r => ?_
  rcases r with ⟨h1, h2, h3, h4, ⟨h5, h6, h7⟩ | ⟨h5, h6⟩⟩ | ⟨h1, ⟨h2, h3⟩ | ⟨h2, h3⟩⟩
  · exact .inl ⟨h1, h2, h3, h4, .inl ⟨h5, h6, ee _ _ _ h7⟩⟩
  · exact .inl ⟨h1, h2, h3, h4, .inr ⟨h5, fun H' s => fin H' (h6 H' s)⟩⟩
  · exact .inr ⟨h1, .inl ⟨h2, ee _ _ _ h3⟩⟩
  · exact .inr ⟨h1, .inr ⟨h2, fun H' s => fin H' (h3 H' s)⟩⟩

/-! ### what is no berth; what is no quay -/
theorem _root_.L2.TyB.same {K : PySem.W.Frag} {H H' : Hp} {v : V} {T : String} (h : TyB K H v T) (s : Same H H') : TyB K H' v T := by
  cases h with
  | non => exact .non
  | bl b => exact .bl b
  | int i => exact .int i
  | str x => exact .str x
  | byt b => exact .byt b
  | lst h => exact .lst (s.seq h)
  | tup h => exact .tup (s.seqT h)
  | dK h => exact .dK (s _ _ h)
theorem pickV {xs : List V} {r : Int} (h0 : 0 ≤ r) (h1 : r < xs.length) : ∃ x ∈ xs, atI xs r = some x := ⟨xs[r.toNat]'(by omega), List.getElem_mem _, at_of (j := r.toNat) (by omega) (List.getElem?_eq_getElem (by omega))⟩
theorem e16 {r : Int} : CDiv r 16 := ⟨by decide, by decide⟩
theorem e200 {r : Int} : CDiv r 200 := ⟨by decide, by decide⟩
theorem e2000 {r : Int} : CDiv r 2000 := ⟨by decide, by decide⟩
theorem e7 {r : Int} : CDiv r 7 := ⟨by decide, by decide⟩
theorem e3 {r : Int} : CDiv r 3 := ⟨by decide, by decide⟩
theorem e2 {r : Int} : CDiv r 2 := ⟨by decide, by decide⟩
theorem q11 : (0 : Int) < 11 := by decide
theorem q7 : (0 : Int) < 7 := by decide
theorem q6 : (0 : Int) < 6 := by decide
theorem q4 : (0 : Int) < 4 := by decide
theorem q3 : (0 : Int) < 3 := by decide
theorem q399 : (0 : Int) < 399 := by decide
theorem qst : (0 : Int) < 2147483646 := by decide
theorem pw40 : CPow 10 40 := ⟨by decide, by decide, by decide⟩
theorem pw30 : CPow 10 30 := ⟨by decide, by decide, by decide⟩
def sp_l_odd (K : PySem.W.Frag) : Sp := fun vs H Q _ => ∃ (n : Nat) (c : Int), vs = [.int n, .int c] ∧ ∀ (v : V) (H' : Hp), Same H H' → (∃ T, TyB K H' v T) → inB 1 n v = false → Q v H'
abbrev N_l_odd : List Str := ["_law_berths", "_law_cell", "_law_some"]
def t_l_odd (K : PySem.W.Frag) (a : Ad) : TS :=
  (tSeq (tAsg (tLst (tCons (tC (.int 0)) (tCons (tOp rAddI (tVar 0) (tC (.int 1))) (tCons (tUn (rU fun i => .int (-i)) (tC (.int 1))) (tCons (tOp rAddI (tOp rAddI (tVar 0) (tC (.int 1))) (tOp rModI (tVar 1) (tOp rPowI (tC (.int 10)) (tC (.int 40))))) (tCons (tOp rSubI (tUn (rU fun i => .int (-i)) (tC (.int 1))) (tOp rModI (tVar 1) (tOp rPowI (tC (.int 10)) (tC (.int 40))))) (tCons (tC (.bl true)) (tCons (tC .non) (tCons (tC (.str (Str.ofString "1"))) (tCons (tLst (tCons (tC (.int 1)) tNil)) (tCons (tTup (tCons (tC (.int 1)) tNil)) (tCons (tC (.bl false)) tNil)))))))))))) (gName 2))
    (tRet (tOp (rIxL K) (tVar 2) (tOp rModI (tOp rDivI (tVar 1) (tC (.int 16))) (tC (.int 11))))))
theorem len_l_odd {K : PySem.W.Frag} {vs : List V} {H : Hp} {Q : VK} {E : XK} (h : sp_l_odd K vs H Q E) : vs.length = 2 := by
  obtain ⟨n, c, rfl, _⟩ := h
  rfl
theorem inB_out {n : Nat} {i : Int} (h : i < 1 ∨ (n : Int) < i) : inB 1 n (.int i) = false := by
  simp only [inB, Bool.and_eq_false_iff, decide_eq_false_iff_not]
  rcases h with h | h
  · exact .inl (by omega)
  · exact .inr (by omega)
theorem pu_l_odd {K : PySem.W.Frag} {a : Ad} {vs : List V} {H : Hp} {Q : VK} {E : XK} (h : sp_l_odd K vs H Q E) : t_l_odd K a { nx := fun _ H' => Q .non H', rt := Q } (start N_l_odd vs) H := by
  obtain ⟨n, c, rfl, q⟩ := h
  have pM : (0 : Int) < (10 : Int) ^ (40 : Int).toNat := by decide
  refine ⟨_, rfl, (n : Int), 1, rfl, rfl, 1, rfl, _, rfl, (n : Int), 1, rfl, rfl, _, rfl, 10, 40, rfl, rfl, pw40, c, _, rfl, rfl, pM, _, _, rfl, rfl, 1, rfl, _, rfl, 10, 40, rfl, rfl, pw40, c, _, rfl, rfl, pM, _, _, rfl, rfl, (by show 1 ≤ sizeLine; decide), fun l1 n1 => ⟨(by show 1 ≤ sizeLine; decide), fun t1 m1 => ⟨(by show 11 ≤ sizeLine; decide), fun l nl => ?_⟩⟩⟩
  have c0 := Int.emod_nonneg c (show (10 : Int) ^ (40 : Int).toNat ≠ 0 by decide)
  have s1 : Same H (upd H l1 (.lst [.int 1])) := same_new n1
  have s2 : Same (upd H l1 (.lst [.int 1])) (upd (upd H l1 (.lst [.int 1])) t1 (.tup [.int 1])) := same_new m1
  obtain ⟨v, hv, ev⟩ := pickV (xs := [V.int 0, .int ((n : Int) + 1), .int (-1), .int ((n : Int) + 1 + c % (10 : Int) ^ (40 : Int).toNat), .int (-1 - c % (10 : Int) ^ (40 : Int).toNat), .bl true, .non, .str (Str.ofString "1"), .ref l1, .ref t1, .bl false]) (r := c / 16 % 11) (Int.emod_nonneg _ (by decide)) (Int.emod_lt_of_pos _ q11)
  refine ⟨.ref l, rfl, _, rfl, c, 16, rfl, rfl, e16, _, 11, rfl, rfl, q11, l, _, _, v, rfl, rfl, sqL_of upd_same, ev, ?_⟩
  have s3 : Same (upd (upd H l1 (.lst [.int 1])) t1 (.tup [.int 1])) (upd (upd (upd H l1 (.lst [.int 1])) t1 (.tup [.int 1])) l (.lst [V.int 0, .int ((n : Int) + 1), .int (-1), .int ((n : Int) + 1 + c % (10 : Int) ^ (40 : Int).toNat), .int (-1 - c % (10 : Int) ^ (40 : Int).toNat), .bl true, .non, .str (Str.ofString "1"), .ref l1, .ref t1, .bl false])) := same_new nl
  have el1 := s3 _ _ (s2 _ _ (upd_same (H := H) (a := l1)))
  have et1 := s3 _ _ (upd_same (H := upd H l1 (.lst [.int 1])) (a := t1))
  refine q v _ ((s1.trans s2).trans s3) ?_ ?_
  · simp only [List.mem_cons, List.not_mem_nil, or_false] at hv
    rcases hv with rfl | rfl | rfl | rfl | rfl | rfl | rfl | rfl | rfl | rfl | rfl
    · exact ⟨_, .int _⟩
    · exact ⟨_, .int _⟩
    · exact ⟨_, .int _⟩
    · exact ⟨_, .int _⟩
    · exact ⟨_, .int _⟩
    · exact ⟨_, .bl _⟩
    · exact ⟨_, .non⟩
    · exact ⟨_, .str _⟩
    · exact ⟨_, .lst (sqL_of el1)⟩
    · exact ⟨_, .tup (sqT_of et1)⟩
    · exact ⟨_, .bl _⟩
  · simp only [List.mem_cons, List.not_mem_nil, or_false] at hv
    rcases hv with rfl | rfl | rfl | rfl | rfl | rfl | rfl | rfl | rfl | rfl | rfl
    · exact inB_out (.inl (by decide))
    · exact inB_out (.inr (by omega))
    · exact inB_out (.inl (by decide))
    · exact inB_out (.inr (by omega))
    · exact inB_out (.inl (by omega))
    · rfl
    · rfl
    · rfl
    · rfl
    · rfl
    · rfl
def sp_l_no_quay (K : PySem.W.Frag) (a : Ad) : Sp := fun vs H Q _ => ∃ x, vs = [x] ∧ (∃ T, TyB K H x T) ∧ inB 1 400 x = false ∧ ∀ H', Same H H' → Q (.bl true) H'
abbrev N_l_no_quay : List Str := ["_law_berths", "_law_found", "_law_around", "_law_caught", "_law_e"]
def t_l_no_quay (K : PySem.W.Frag) (a : Ad) : TS :=
  (tSeq (tAsg (tLst tNil) (gName 1))
    (tSeq (tFor (iList K (tLst (tCons (tC (.bl false)) (tCons (tC (.bl true)) tNil)))) (gName 2)
    (tSeq (tAsg (tC .non) (gName 3))
    (tSeq (tTryKeep K a.e_BerthError 4 3 fun W => (tIfS (tB (tVar 2)) (tDrop (tMk a.c_Round (sp_M_init K a true) (WE W) (tCons (tVar 0) tNil))) (tDrop (tMk a.c_Quay (sp_M_init K a false) (WE W) (tCons (tVar 0) tNil)))))
    (tDrop (tBM K "list" rAppend (tVar 1) (tCons (tCall (sp_l_word K a) [] E0 (tCons (tVar 3) tNil)) tNil))))))
    (tRet (tOp (rEqT K) (tVar 1) (tLst (tCons (tC (.str (Str.ofString "quay"))) (tCons (tC (.str (Str.ofString "quay"))) tNil)))))))
theorem len_l_no_quay {K : PySem.W.Frag} {a : Ad} {vs : List V} {H : Hp} {Q : VK} {E : XK} (h : sp_l_no_quay K a vs H Q E) : vs.length = 1 := by
  obtain ⟨x, rfl, _⟩ := h
  rfl
theorem dp_strs {K : PySem.W.Frag} {H : Hp} : ∀ ns : List Str, DpAll K H (ns.map V.str) (ns.map PyData.str)
  | [] => .nil
  | n :: r => .cons (.str n) (dp_strs r)
theorem ho_strs {K : PySem.W.Frag} {H : Hp} {p : Addr} {ns : List Str} (h : SqL K H p (ns.map V.str)) : Dp K H (.ref p) (PySem.W.Datum.toD ns) := .lst h (dp_strs ns)
theorem pu_l_no_quay {K : PySem.W.Frag} {a : Ad} (F : ∀ k, RefK K a k) {vs : List V} {H : Hp} {Q : VK} {E : XK} (h : sp_l_no_quay K a vs H Q E) : t_l_no_quay K a { nx := fun _ H' => Q .non H', rt := Q } (start N_l_no_quay vs) H := by
  obtain ⟨x, rfl, ⟨T, ty⟩, bad, q⟩ := h
  refine ⟨Nat.zero_le _, fun lf nlf => ?_⟩
  have s1 : Same H (upd H lf (.lst [])) := same_new nlf
  refine ⟨(by show 2 ≤ sizeLine; decide), fun lb nlb => ⟨lb, rfl, ⟨_, sqL_of upd_same⟩, ?_⟩⟩
  have s2 : Same (upd H lf (.lst [])) (upd (upd H lf (.lst [])) lb (.lst [.bl false, .bl true])) := same_new nlb
  have elf : (upd (upd H lf (.lst [])) lb (.lst [.bl false, .bl true])) lf = some (.lst []) := s2 _ _ upd_same
  have elb : (upd (upd H lf (.lst [])) lb (.lst [.bl false, .bl true])) lb = some (.lst [.bl false, .bl true]) := upd_same
  have lne : lb ≠ lf := fun z => by rw [z, upd_same] at nlb; cases nlb
  have s12 := s1.trans s2
  generalize (upd (upd H lf (.lst [])) lb (.lst [.bl false, .bl true])) = H2 at elf elb s12 ⊢
  refine for_list (K := K) (a := lb) (xs := [.bl false, .bl true]) (fun i σ H' => (∃ y2 y3, σ = [some x, some (.ref lf), y2, y3, none]) ∧ (∀ c o, H2 c = some o → c ≠ lf → H' c = some o) ∧ H' lf = some (.lst ((List.replicate i (Str.ofString "quay")).map V.str)))
    ⟨⟨none, none, rfl⟩, fun c o e _ => e, elf⟩ (fun i σ H' _ h => sqL_of (h.2.1 _ _ elb lne)) ?_ ?_
  · rintro i v σ H3 hv ⟨⟨y2, y3, rfl⟩, k3, e3⟩
    have hi : i < 2 := (List.getElem?_eq_some_iff.mp hv).1
    obtain ⟨b, rfl⟩ : ∃ b, v = .bl b := by
      rcases List.mem_cons.mp (List.mem_of_getElem? hv) with e | e
      · exact ⟨_, e⟩
      · exact ⟨_, List.mem_singleton.mp e⟩
    have sH3 : Same H H3 := fun c o e => k3 c o (s12 c o e) (ne_of_none e nlf)
    have rest : ∀ (H4 : Hp) (c : Addr), Same H3 H4 → H4 c = none → (tDrop (tBM K "list" rAppend (tVar 1) (tCons (tCall (sp_l_word K a) [] E0 (tCons (tVar 3) tNil)) tNil)))
        { nx := fun σ H' => (∃ y2 y3, σ = [some x, some (.ref lf), y2, y3, none]) ∧ (∀ c o, H2 c = some o → c ≠ lf → H' c = some o) ∧ H' lf = some (.lst ((List.replicate (i + 1) (Str.ofString "quay")).map V.str)), rt := Q, bk := fun σ H' => (tRet (tOp (rEqT K) (tVar 1) (tLst (tCons (tC (.str (Str.ofString "quay"))) (tCons (tC (.str (Str.ofString "quay"))) tNil))))) { nx := fun _ H' => Q .non H', rt := Q } σ H', ct := fun σ H' => (∃ y2 y3, σ = [some x, some (.ref lf), y2, y3, none]) ∧ (∀ c o, H2 c = some o → c ≠ lf → H' c = some o) ∧ H' lf = some (.lst ((List.replicate (i + 1) (Str.ofString "quay")).map V.str)) }
        [some x, some (.ref lf), some (.bl b), some (.ref c), none] (upd H4 c (ExK (.ref a.e_NoQuay) none c)) := fun H4 c s4 nc => by
      have s5 : Same H4 (upd H4 c (ExK (.ref a.e_NoQuay) none c)) := same_new nc
      have e5 := s5 _ _ (s4 _ _ e3)
      refine ⟨.ref lf, rfl, .inl ⟨rfl, _, sqL_of e5⟩, .ref c, rfl, .ref c, rfl, .inr ⟨c, .quay, rfl, upd_same, fun H6 s6 => ?_⟩⟩
      refine ⟨lf, _, _, rfl, rfl, s6 _ _ e5, ?_, ⟨_, _, rfl⟩, fun c' o e ne => ?_, ?_⟩
      · rw [List.length_map, List.length_replicate]
        exact small1000 (by omega)
      · rw [upd_ne ne]
        exact s6 _ _ (s5 _ _ (s4 _ _ (k3 _ _ e ne)))
      · rw [upd_same, List.replicate_succ', List.map_append]
        rfl
    refine ⟨.bl b, rfl, b, rfl, ?_⟩
    cases b with
    | true =>
      refine iteT ⟨_, rfl, fun p dx np ndx nex => ⟨p, dx, x, rfl, upd_same, T, ?_, .inl ⟨bad, (F .quay).ex, fun c nc => rest _ c ((same_new ndx).store np) nc⟩⟩⟩
      exact ty.same (sH3.trans ((same_new ndx).store np))
    | false =>
      refine iteF ⟨_, rfl, fun p dx np ndx nex => ⟨p, dx, x, rfl, upd_same, T, ?_, .inl ⟨bad, (F .quay).ex, fun c nc => rest _ c ((same_new ndx).store np) nc⟩⟩⟩
      exact ty.same (sH3.trans ((same_new ndx).store np))
  · rintro σ H3 ⟨⟨y2, y3, rfl⟩, k3, e3⟩
    have sH3 : Same H H3 := fun c o e => k3 c o (s12 c o e) (ne_of_none e nlf)
    refine ⟨.ref lf, rfl, (by show 2 ≤ sizeLine; decide), fun l2 n2 => ?_⟩
    refine eqT_of (a := [Str.ofString "quay", Str.ofString "quay"]) (b := [Str.ofString "quay", Str.ofString "quay"]) (ho_strs (sqL_of (same_new n2 _ _ e3))) (ho_strs (sqL_of upd_same)) (by decide) ?_
    rw [decide_eq_true rfl]
    exact q _ (sH3.trans (same_new n2))
theorem ml' {n : Nat} (h : n ≤ 1000000) : n ≤ sizeLine := Nat.le_trans h (by decide)
theorem cutV_len (xs : List V) (lo hi : Option Int) : (cutV xs lo hi).length ≤ xs.length := by
  unfold cutV
  rw [List.length_take, List.length_drop]
  omega

/-! ### the law: what is refused -/
theorem cut_first (xs : List V) (k : Nat) : cutV xs none (some (k : Int)) = xs.take k := by
  unfold cutV
  rw [HT.sIx_nat, HT.sIx_none, List.drop_zero, Nat.sub_zero]
  by_cases h : k ≤ xs.length
  · rw [Nat.min_eq_left h]
  · rw [Nat.min_eq_right (by omega), List.take_of_length_le (Nat.le_refl _), List.take_of_length_le (by omega)]
/-- no wishes for a quay of n berths -/
def BadW (K : PySem.W.Frag) (n : Nat) (H : Hp) (w : V) : Prop := (∃ T, TyB K H w T ∧ T ≠ "list" ∧ T ≠ "tuple") ∨ ∃ p xs, w = .ref p ∧ SqA K H p xs ∧ (∀ x ∈ xs, ∃ T, TyB K H x T) ∧ goodW n xs = false
theorem BadW.same {K : PySem.W.Frag} {n : Nat} {H H' : Hp} {w : V} (h : BadW K n H w) (s : Same H H') : BadW K n H' w := by
  rcases h with ⟨T, ty, h1, h2⟩ | ⟨p, xs, e, h1, h2, h3⟩
  · exact .inl ⟨T, ty.same s, h1, h2⟩
  · refine .inr ⟨p, xs, e, s.seqA h1, fun x hx => ?_, h3⟩
    obtain ⟨T, ty⟩ := h2 x hx
    exact ⟨T, ty.same s⟩
theorem told_bad {K : PySem.W.Frag} {a : Ad} {way n : Nat} {w y : V} {H : Hp} {Q : VK} {E : XK} (hw : way ≤ 9) (h1 : 1 ≤ n) (h2 : n ≤ 400) (h : BadW K n H w) (q : ∀ H', Same H H' → Q (.str (Str.ofString "wishes")) H') : sp_l_told K a [.int way, .int n, w, y] H Q E := by
  refine ⟨way, .int n, w, y, rfl, hw, ChkQ.ok h1 h2 ?_⟩
  have e : WordE a Q (.ref a.e_NoWishes) none H := ⟨rfl, .wishes, rfl, q⟩
  rcases h with ⟨T, ty, t1, t2⟩ | ⟨p, xs, ew, hs, ht, hg⟩
  · exact .inl ⟨T, ty, t1, t2, e⟩
  · exact .inr ⟨p, xs, ew, hs, ht, .inl ⟨hg, e⟩⟩
theorem told_noq {K : PySem.W.Frag} {a : Ad} {way : Nat} {b w y : V} {H : Hp} {Q : VK} {E : XK} (hw : way ≤ 9) (ty : ∃ T, TyB K H b T) (hb : inB 1 400 b = false) (q : ∀ H', Same H H' → Q (.str (Str.ofString "quay")) H') : sp_l_told K a [.int way, b, w, y] H Q E := by
  obtain ⟨T, ty⟩ := ty
  exact ⟨way, b, w, y, rfl, hw, T, ty, .inl ⟨hb, rfl, .quay, rfl, q⟩⟩
theorem told_good {K : PySem.W.Frag} {a : Ad} {way n : Nat} {p : Addr} {ws : List Int} {y : V} {H : Hp} {Q : VK} {E : XK} (hw : way ≤ 9) (h1 : 1 ≤ n) (h2 : n ≤ 400) (hs : SqL K H p (ws.map V.int)) (hl : ws.length ≤ 400) (hb : ∀ x ∈ ws, 1 ≤ x ∧ x ≤ n)
    (r : AskedR K a way y H (fun _ H' => ∀ H'', Same H' H'' → Q (.str (Str.ofString "none")) H'') (WordE a Q) n ws p) : sp_l_told K a [.int way, .int n, .ref p, y] H Q E :=
  ⟨way, .int n, .ref p, y, rfl, hw, ChkW.ok h1 h2 (.inl hs) hl hb r⟩
def sp_law (K : PySem.W.Frag) : Sp := fun vs H Q _ => ∃ (s : Addr) (ns : List Int), vs = [.ref s] ∧ SqL K H s (ns.map V.int) ∧ ns.length ≤ 63 ∧ ∀ H', Q (.bl true) H'
abbrev N_law : List Str := ["_law_script", "_law_k", "_law_cell", "_law_berths", "_law_state", "_law_wishes", "_law_at", "_law_bad", "_law_none", "_law_way", "_law_some", "_law_ship", "_law_odd_here"]
def t_law (K : PySem.W.Frag) (a : Ad) : TS :=
  (tSeq (tFor (iRng1 (tCons (tOp rAddI (tC (.int 1)) (tCB rMin2 (tCons (tC (.int 39)) (tCons (tCB (rLenSq K) (tCons (tVar 0) tNil)) tNil)))) tNil)) (gName 1)
    (tSeq (tAsg (tCall (sp_l_cell_at K) [] E0 (tCons (tVar 0) (tCons (tVar 1) tNil))) (gName 2))
    (tSeq (tAsg (tOp (rIxL K) (tLst (tCons (tOp rAddI (tC (.int 1)) (tOp rModI (tVar 2) (tC (.int 7)))) (tCons (tOp rAddI (tC (.int 2)) (tOp rModI (tOp rDivI (tVar 2) (tC (.int 7))) (tC (.int 399)))) tNil))) (tOp rDivI (tOp rModI (tOp rDivI (tVar 2) (tC (.int 3))) (tC (.int 3))) (tC (.int 2)))) (gName 3))
    (tSeq (tAsg (tLst (tCons (tOp rAddI (tC (.int 1)) (tOp rModI (tVar 2) (tC (.int 2147483646)))) tNil)) (gName 4))
    (tSeq (tAsg (tLc (iRng1 (tCons (tOp rSubI (tVar 3) (tC (.int 1))) tNil)) (gName 11) tYes (tOp rAddI (tC (.int 1)) (tOp rModI (tCall (sp_l_mix K) [] E0 (tCons (tVar 4) (tCons (tVar 1) tNil))) (tVar 3))) [11]) (gName 5))
    (tSeq (tAsg (tOp rModI (tCall (sp_l_mix K) [] E0 (tCons (tVar 4) (tCons (tVar 1) tNil))) (tVar 3)) (gName 6))
    (tSeq (tAsg (tOp rCat (tOp rCat (tSl (rSlL K) (tVar 5) tNoPart (tPart (tVar 6))) (tLst (tCons (tCall (sp_l_odd K) [] E0 (tCons (tVar 3) (tCons (tVar 2) tNil))) tNil))) (tSl (rSlL K) (tVar 5) (tPart (tOp rAddI (tVar 6) (tC (.int 1)))) tNoPart)) (gName 7))
    (tSeq (tAsg (tOp (rIxL K) (tLst (tCons tDNewK (tCons (tC .non) (tCons (tC (.str (Str.ofString "1"))) (tCons (tC (.int 5)) (tCons (tOp rRep (tLst (tCons (tC (.int 1)) tNil)) (tC (.int 401))) (tCons (tOp (rRepTA K) (tTup (tCons (tC (.int 1)) tNil)) (tC (.int 401))) tNil))))))) (tOp rModI (tOp rDivI (tVar 2) (tC (.int 200))) (tC (.int 6)))) (gName 8))
    (tSeq (tFor (iRng1 (tCons (tC (.int 10)) tNil)) (gName 9)
    (tFor (iList K (tLst (tCons (tVar 7) (tCons (tVar 8) (tCons (tCB (rTupleOf K) (tCons (tVar 7) tNil)) tNil))))) (gName 10)
    (tSeq (tIfS (tOr (tTest (tOp rNe (tCall (sp_l_told K a) [] E0 (tCons (tVar 9) (tCons (tVar 3) (tCons (tVar 10) (tCons (tC (.int 1)) tNil))))) (tC (.str (Str.ofString "wishes"))))) (tTest (tOp rNe (tCall (sp_l_told K a) [] E0 (tCons (tVar 9) (tCons (tVar 3) (tCons (tVar 10) (tCons (tC .non) tNil))))) (tC (.str (Str.ofString "wishes")))))) (tRet (tC (.bl false))) tNext)
    (tIfS (tTest (tOp rNe (tCall (sp_l_told K a) [] E0 (tCons (tVar 9) (tCons (tOp (rIxL K) (tLst (tCons (tC (.int 0)) (tCons (tC (.int 401)) (tCons (tUn (rU fun i => .int (-i)) (tC (.int 1))) (tCons (tC .non) (tCons (tC (.bl true)) (tCons (tC (.str (Str.ofString "5"))) (tCons (tLst (tCons (tC (.int 5)) tNil)) tNil)))))))) (tOp rModI (tOp rDivI (tVar 2) (tC (.int 2000))) (tC (.int 7)))) (tCons (tVar 10) (tCons (tC (.str (Str.ofString "x"))) tNil))))) (tC (.str (Str.ofString "quay"))))) (tRet (tC (.bl false))) tNext))))
    (tSeq (tIfS (tOr (tTest (tOp rNe (tCall (sp_l_told K a) [] E0 (tCons (tC (.int 8)) (tCons (tVar 3) (tCons (tOp rCat (tVar 5) (tLst (tCons (tC (.int 1)) tNil))) (tCons (tC (.int 0)) tNil))))) (tC (.str (Str.ofString "wishes"))))) (tTest (tOp rNe (tCall (sp_l_told K a) [] E0 (tCons (tC (.int 8)) (tCons (tVar 3) (tCons (tVar 5) (tCons (tC (.int 0)) tNil))))) (tC (.str (Str.ofString "none")))))) (tRet (tC (.bl false))) tNext)
    (tSeq (tIfS (tTest (tOp rNe (tCall (sp_l_told K a) [] E0 (tCons (tC (.int 7)) (tCons (tVar 3) (tCons (tVar 5) (tCons (tOp (rIxL K) (tLst (tCons (tC .non) (tCons (tC (.bl true)) (tCons (tC (.str (Str.ofString "1"))) (tCons (tLst (tCons (tC (.int 1)) tNil)) tNil))))) (tOp rModI (tVar 2) (tC (.int 4)))) tNil))))) (tC (.str (Str.ofString "count"))))) (tRet (tC (.bl false))) tNext)
    (tIfS (tTest (tOp (rNeT K) (tLc (iRng1 (tCons (tC (.int 8)) tNil)) (gName 9) tYes (tCall (sp_l_told K a) [] E0 (tCons (tVar 9) (tCons (tVar 3) (tCons (tVar 5) (tCons (tC (.int 3)) tNil))))) [9]) (tOp rRep (tLst (tCons (tC (.str (Str.ofString "none"))) tNil)) (tC (.int 8))))) (tRet (tC (.bl false))) tNext))))))))))))
    (tRet (tOp (rEqT K) (tLc (iList K (tLst (tCons (tC (.int 0)) (tCons (tC (.int 401)) (tCons (tUn (rU fun i => .int (-i)) (tC (.int 1))) (tCons (tC (.bl true)) (tCons (tC .non) (tCons (tC (.str (Str.ofString "3"))) (tCons (tOp rPowI (tC (.int 10)) (tC (.int 30))) tNil))))))))) (gName 12) (tNot (tB (tCall (sp_l_no_quay K a) [] E0 (tCons (tVar 12) tNil)))) (tVar 12) [12]) (tLst tNil))))
theorem len_law {K : PySem.W.Frag} {vs : List V} {H : Hp} {Q : VK} {E : XK} (h : sp_law K vs H Q E) : vs.length = 1 := by
  obtain ⟨s, ns, rfl, _⟩ := h
  rfl
theorem pu_law {K : PySem.W.Frag} {a : Ad} {vs : List V} {H : Hp} {Q : VK} {E : XK} (h : sp_law K vs H Q E) : t_law K a { nx := fun _ H' => Q .non H', rt := Q } (start N_law vs) H := by
  obtain ⟨sa, ns, rfl, hs, hl, q⟩ := h
  have dT : ∀ v : V, (!decide (v = v)) = false := fun v => by rw [decide_eq_true rfl]; rfl
  refine ⟨.ref sa, rfl, sa, _, rfl, .inl hs, 39, _, rfl, 1, _, rfl, rfl, _, rfl, ?_, ?_, for_range (fun i σ H' => Same H H' ∧ ∃ y1 y2 y3 y4 y5 y6 y7 y8 y9 y10 y11 y12, σ = [some (.ref sa), y1, y2, y3, y4, y5, y6, y7, y8, y9, y10, y11, y12])
    ⟨Same.refl _, none, none, none, none, none, none, none, none, none, none, none, none, rfl⟩ ?_ ?_⟩
  · rw [List.length_map]
    split <;> omega
  · rw [List.length_map]
    split <;> omega
  rotate_left
  · rintro σ H1 ⟨s1, y1, y2, y3, y4, y5, y6, y7, y8, y9, y10, y11, y12, rfl⟩
    -- what is no quay
    refine ⟨1, rfl, 10, 30, rfl, rfl, pw30, (by show 7 ≤ sizeLine; decide), fun lo nlo => ⟨lo, rfl, ⟨_, sqL_of upd_same⟩, ?_⟩⟩
    have elo : (upd H1 lo (.lst [V.int 0, .int 401, .int (-1), .bl true, .non, .str (Str.ofString "3"), .int ((10 : Int) ^ (30 : Int).toNat)])) lo = some (.lst [V.int 0, .int 401, .int (-1), .bl true, .non, .str (Str.ofString "3"), .int ((10 : Int) ^ (30 : Int).toNat)]) := upd_same
    have all7 : ∀ v ∈ [V.int 0, .int 401, .int (-1), .bl true, .non, .str (Str.ofString "3"), .int ((10 : Int) ^ (30 : Int).toNat)], (∀ H', ∃ T, TyB K H' v T) ∧ inB 1 400 v = false := by
      intro v hv
      simp only [List.mem_cons, List.not_mem_nil, or_false] at hv
      rcases hv with rfl | rfl | rfl | rfl | rfl | rfl | rfl
      · exact ⟨fun _ => ⟨_, .int _⟩, by decide⟩
      · exact ⟨fun _ => ⟨_, .int _⟩, by decide⟩
      · exact ⟨fun _ => ⟨_, .int _⟩, by decide⟩
      · exact ⟨fun _ => ⟨_, .bl _⟩, by decide⟩
      · exact ⟨fun _ => ⟨_, .non⟩, by decide⟩
      · exact ⟨fun _ => ⟨_, .str _⟩, by decide⟩
      · exact ⟨fun _ => ⟨_, .int _⟩, by decide⟩
    refine lc_pure (walk_list (K := K) (a := lo) (xs := [V.int 0, .int 401, .int (-1), .bl true, .non, .str (Str.ofString "3"), .int ((10 : Int) ^ (30 : Int).toNat)])) (by decide) [V.int 0, .int 401, .int (-1), .bl true, .non, .str (Str.ofString "3"), .int ((10 : Int) ^ (30 : Int).toNat)] rfl (fun _ => false) (fun v => v) (fun H' s' => s'.seq (sqL_of elo)) ?_ ?_
    · intro i x v H2 H3 R hx s2 hy kk
      obtain ⟨rfl, hv⟩ := hy
      rw [hx] at hv
      cases hv
      obtain ⟨ty, hb⟩ := all7 x (List.mem_of_getElem? hx)
      refine ⟨rfl, x, rfl, x, rfl, ty _, hb, fun H4 s4 => ⟨true, rfl, iteF (kk .non H4 s4 fun z => by cases z)⟩⟩
    · intro D H2 nD s2 eD
      rw [List.filter_eq_nil_iff.mpr fun _ _ => by decide] at eD
      refine ⟨Nat.zero_le _, fun l nl => ?_⟩
      refine eqT_of (a := ([] : List Int)) (b := ([] : List Int)) (ho_ints (ns := []) (sqL_of (same_new nl _ _ eD))) (ho_ints (ns := []) (sqL_of upd_same)) (by decide) ?_
      rw [decide_eq_true rfl]
      exact q _
  rintro k σ H1 hk ⟨s1, y1, y2, y3, y4, y5, y6, y7, y8, y9, y10, y11, y12, rfl⟩
  have hs1 := s1.seq hs
  refine ⟨_, rfl, _, rfl, sa, ns, _, rfl, hs1, by omega, ?_⟩
  rw [Int.zero_add]
  generalize cellAt ns (k : Int) = c
  have b1 := Int.emod_nonneg c (show (7 : Int) ≠ 0 by decide)
  have b2 := Int.emod_lt_of_pos c q7
  have b3 := Int.emod_nonneg (c / 7) (show (399 : Int) ≠ 0 by decide)
  have b4 := Int.emod_lt_of_pos (c / 7) q399
  refine ⟨_, rfl, c, 7, rfl, rfl, q7, 1, _, rfl, rfl, _, rfl, c, 7, rfl, rfl, e7, _, 399, rfl, rfl, q399, 2, _, rfl, rfl, (by show 2 ≤ sizeLine; decide), fun lb nlb => ?_⟩
  have r1 := Int.emod_nonneg (c / 3) (show (3 : Int) ≠ 0 by decide)
  have r2 := Int.emod_lt_of_pos (c / 3) q3
  obtain ⟨v, hv, ev⟩ := pickV (xs := [V.int (1 + c % 7), .int (2 + c / 7 % 399)]) (r := c / 3 % 3 / 2) (by omega) (by show c / 3 % 3 / 2 < 2; omega)
  obtain ⟨n, rfl, n1, n2⟩ : ∃ n : Nat, v = .int n ∧ 1 ≤ n ∧ n ≤ 400 := by
    rcases List.mem_cons.mp hv with e | hv
    · exact ⟨(1 + c % 7).toNat, by rw [e]; congr 1; omega, by omega, by omega⟩
    · exact ⟨(2 + c / 7 % 399).toNat, by rw [List.mem_singleton.mp hv]; congr 1; omega, by omega, by omega⟩
  refine ⟨_, rfl, c, 3, rfl, rfl, e3, _, 3, rfl, rfl, q3, _, 2, rfl, rfl, e2, lb, _, _, _, rfl, rfl, sqL_of upd_same, ev, ?_⟩
  have s2 : Same H1 (upd H1 lb (.lst [V.int (1 + c % 7), .int (2 + c / 7 % 399)])) := same_new nlb
  generalize (upd H1 lb (.lst [V.int (1 + c % 7), .int (2 + c / 7 % 399)])) = H2 at s2 ⊢
  have c1 := Int.emod_nonneg c (show (2147483646 : Int) ≠ 0 by decide)
  have c2 := Int.emod_lt_of_pos c qst
  refine ⟨_, rfl, c, 2147483646, rfl, rfl, qst, 1, _, rfl, rfl, (by show 1 ≤ sizeLine; decide), fun stl nst => ?_⟩
  have s3 : Same H1 (upd H2 stl (.lst [.int (1 + c % 2147483646)])) := s2.trans (same_new nst)
  have est : (upd H2 stl (.lst [.int (1 + c % 2147483646)])) stl = some (.lst [.int (1 + c % 2147483646)]) := upd_same
  have nst1 : H1 stl = none := s2.free nst
  generalize (upd H2 stl (.lst [.int (1 + c % 2147483646)])) = H3 at s3 est ⊢
  -- the wishes
  refine ⟨_, rfl, n, 1, rfl, rfl, (n : Int) - 1, rfl, by omega, by omega, fun lw nlw => ?_⟩
  have nlw1 : H1 lw = none := s3.free nlw
  have nsw : stl ≠ lw := ne_of_none est nlw
  have en : ((n : Int) - 1).toNat = n - 1 := by omega
  rw [en]
  refine lc_range (lo := 0) (n := n - 1) (fun i H' => Same H1 H' ∧ (∃ st : Int, H' stl = some (.lst [.int st]) ∧ 0 ≤ st ∧ st < 2147483647) ∧ ∃ ws : List Int, H' lw = some (.lst (ws.map V.int)) ∧ ws.length = i ∧ ∀ x ∈ ws, 1 ≤ x ∧ x ≤ n)
    ⟨s3.trans (same_new nlw), ⟨_, by rw [upd_ne nsw]; exact est, by omega, by omega⟩, [], upd_same, rfl, fun x hx => by cases hx⟩ ?_ ?_
  · rintro i H4 hi ⟨s4, ⟨st, est4, h0, h1⟩, ws, ew, hwl, hwb⟩
    refine ⟨rfl, iteT (B := Same H1 H4 ∧ (∃ st : Int, H4 stl = some (.lst [.int st]) ∧ 0 ≤ st ∧ st < 2147483647) ∧ ∃ ws : List Int, H4 lw = some (.lst (ws.map V.int)) ∧ ws.length = i + 1 ∧ ∀ x ∈ ws, 1 ≤ x ∧ x ≤ n) ?_⟩
    refine ⟨_, rfl, _, rfl, stl, st, k, rfl, est4, h0, h1, fun st' r g0 g1 r0 r1 => ⟨_, rfl, r, n, rfl, rfl, (by show (0 : Int) < (n : Int); omega), 1, _, rfl, rfl, ?_⟩⟩
    have m1 := Int.emod_nonneg r (show (n : Int) ≠ 0 by omega)
    have m2 := Int.emod_lt_of_pos r (show (0 : Int) < (n : Int) by omega)
    refine ⟨_, by rw [upd_ne nsw.symm]; exact ew, by rw [List.length_map, hwl]; exact small1000 (by omega), (s4.store nst1).store nlw1, ⟨st', by rw [upd_ne nsw, upd_same], g0, g1⟩, ws ++ [1 + r % (n : Int)], by rw [upd_same, List.map_append]; rfl, by rw [List.length_append, hwl]; rfl, fun x hx => ?_⟩
    rcases List.mem_append.mp hx with hx | hx
    · exact hwb x hx
    · rw [List.mem_singleton.mp hx]
      omega
  rintro H4 ⟨s4, ⟨st, est4, h0, h1⟩, ws, ew4, hwl, hwb⟩
  have hw4 : ws.length ≤ 399 := by omega
  -- a place
  refine ⟨_, rfl, _, rfl, stl, st, k, rfl, est4, h0, h1, fun st' r g0 g1 r0 r1 => ⟨_, rfl, r, n, rfl, rfl, (by show (0 : Int) < (n : Int); omega), ?_⟩⟩
  have m1 := Int.emod_nonneg r (show (n : Int) ≠ 0 by omega)
  have m2 := Int.emod_lt_of_pos r (show (0 : Int) < (n : Int) by omega)
  show gName 6 (V.int (r % (n : Int))) _ _ _
  obtain ⟨at', ea⟩ : ∃ m : Nat, r % (n : Int) = (m : Int) := ⟨(r % (n : Int)).toNat, by omega⟩
  rw [ea] at m2 ⊢
  have s5 : Same H1 (upd H4 stl (.lst [.int st'])) := s4.store nst1
  have ew5 : (upd H4 stl (.lst [.int st'])) lw = some (.lst (ws.map V.int)) := by rw [upd_ne nsw.symm]; exact ew4
  generalize (upd H4 stl (.lst [.int st'])) = H5 at s5 ew5 ⊢
  -- the bad wishes
  refine ⟨.ref lw, rfl, _, rfl, at', rfl, lw, _, rfl, sqL_of ew5, fun l1 nl1 => ⟨_, rfl, _, rfl, n, c, rfl, fun vb H6 s6 tyb nb => ⟨(by show 1 ≤ sizeLine; decide), fun l2 nl2 => ?_⟩⟩⟩
  rw [cut_first] at s6
  have hsz : ((ws.map V.int).take at').length ≤ 399 := by rw [List.length_take, List.length_map]; omega
  have el1 : H6 l1 = some (.lst ((ws.map V.int).take at')) := s6 _ _ upd_same
  have s56 : Same H5 H6 := (same_new nl1).trans s6
  refine ⟨l1, l2, _, _, rfl, rfl, same_new nl2 _ _ el1, upd_same, (by simp only [List.length_cons, List.length_nil]; exact ml' (by omega)), fun l3 nl3 => ⟨.ref lw, rfl, _, rfl, at', 1, rfl, rfl, (at' : Int) + 1, rfl, lw, _, rfl, sqL_of (same_new nl3 _ _ (same_new nl2 _ _ (s56 _ _ ew5))), fun l4 nl4 => ⟨l3, l4, _, _, rfl, rfl, same_new nl4 _ _ upd_same, upd_same, ?_, fun l5 nl5 => ?_⟩⟩⟩
  · have := cutV_len (ws.map V.int) (some ((at' : Int) + 1)) none
    rw [List.length_map] at this
    rw [List.length_append]
    simp only [List.length_cons, List.length_nil]
    exact ml' (by omega)
  have hvm : vb ∈ (ws.map V.int).take at' ++ [vb] ++ cutV (ws.map V.int) (some ((at' : Int) + 1)) none := by simp
  have hxm : ∀ x ∈ (ws.map V.int).take at' ++ [vb] ++ cutV (ws.map V.int) (some ((at' : Int) + 1)) none, ∃ T, TyB K H6 x T := by
    have allI : ∀ x ∈ ws.map V.int, ∃ T, TyB K H6 x T := fun x hx => by
      obtain ⟨z, _, rfl⟩ := List.mem_map.mp hx
      exact ⟨_, .int z⟩
    intro x hx
    rcases List.mem_append.mp hx with hx | hx
    · rcases List.mem_append.mp hx with hx | hx
      · exact allI x (List.mem_of_mem_take hx)
      · rw [List.mem_singleton.mp hx]
        exact tyb
    · exact allI x (List.mem_of_mem_drop (List.mem_of_mem_take hx))
  have s67 : Same H6 (upd (upd (upd (upd H6 l2 (.lst [vb])) l3 (.lst ((ws.map V.int).take at' ++ [vb]))) l4 (.lst (cutV (ws.map V.int) (some ((at' : Int) + 1)) none))) l5 (.lst ((ws.map V.int).take at' ++ [vb] ++ cutV (ws.map V.int) (some ((at' : Int) + 1)) none))) :=
    (((same_new nl2).trans (same_new nl3)).trans (same_new nl4)).trans (same_new nl5)
  have e5 : (upd (upd (upd (upd H6 l2 (.lst [vb])) l3 (.lst ((ws.map V.int).take at' ++ [vb]))) l4 (.lst (cutV (ws.map V.int) (some ((at' : Int) + 1)) none))) l5 (.lst ((ws.map V.int).take at' ++ [vb] ++ cutV (ws.map V.int) (some ((at' : Int) + 1)) none))) l5 = some (.lst ((ws.map V.int).take at' ++ [vb] ++ cutV (ws.map V.int) (some ((at' : Int) + 1)) none)) := upd_same
  generalize (upd (upd (upd (upd H6 l2 (.lst [vb])) l3 (.lst ((ws.map V.int).take at' ++ [vb]))) l4 (.lst (cutV (ws.map V.int) (some ((at' : Int) + 1)) none))) l5 (.lst ((ws.map V.int).take at' ++ [vb] ++ cutV (ws.map V.int) (some ((at' : Int) + 1)) none))) = H7 at s67 e5 ⊢
  clear nl5 nl4 nl3
  generalize (ws.map V.int).take at' ++ [vb] ++ cutV (ws.map V.int) (some ((at' : Int) + 1)) none = XS at hvm hxm e5
  have hgx : goodW n XS = false := by
    cases z : goodW n XS with
    | false => rfl
    | true =>
      unfold goodW at z
      rw [Bool.and_eq_true, List.all_eq_true] at z
      rw [z.2 vb hvm] at nb
      cases nb
  have bad5 : BadW K n H7 (.ref l5) := .inr ⟨l5, XS, rfl, .inl (sqL_of e5), fun x hx => by
    obtain ⟨T, ty⟩ := hxm x hx
    exact ⟨T, ty.same s67⟩, hgx⟩
  have ew7 := s67 _ _ (s56 _ _ ew5)
  have s17 : Same H1 H7 := s5.trans (s56.trans s67)
  -- things that are no wishes
  refine fun d hd => ⟨(by show 1 ≤ sizeLine; decide), fun l6 n6 => ⟨l6, 401, _, rfl, rfl, upd_same, by decide, by decide, (by show 1 * _ ≤ sizeLine; decide), fun l7 n7 => ⟨(by show 1 ≤ sizeLine; decide), fun t1 m3 => ⟨t1, 401, _, rfl, rfl, sqT_of upd_same, by simp, by decide, by decide, (by show 1 ≤ 1000; decide), (fun z => absurd z (by decide)), fun _ t2 m4 => ⟨(by show 6 ≤ sizeLine; decide), fun l8 n8 => ?_⟩⟩⟩⟩⟩
  have t7 := (((((same_new hd (o := .dK [])).trans (same_new n6 (o := .lst [V.int 1]))).trans (same_new n7 (o := .lst (List.replicate (401 : Int).toNat [V.int 1]).flatten))).trans (same_new m3 (o := .tup [V.int 1]))).trans (same_new m4 (o := .tup (List.replicate (401 : Int).toNat [V.int 1]).flatten))).trans (same_new n8 (o := .lst [V.ref d, .non, .str (Str.ofString "1"), .int 5, .ref l7, .ref t2]))
  have hl401 : (List.replicate (401 : Int).toNat [V.int 1]).flatten.length = 401 := by decide
  have hi401 : ∀ x ∈ (List.replicate (401 : Int).toNat [V.int 1]).flatten, ∃ T, ∀ H', TyB K H' x T := fun x hx => by
    obtain ⟨l, hl, hx⟩ := List.mem_flatten.mp hx
    rw [List.eq_of_mem_replicate hl] at hx
    rw [List.mem_singleton.mp hx]
    exact ⟨_, fun _ => .int 1⟩
  have hg401 : goodW n (List.replicate (401 : Int).toNat [V.int 1]).flatten = false := by
    unfold goodW
    rw [hl401]
    rfl
  have s8 := same_new n8 (o := .lst [V.ref d, .non, .str (Str.ofString "1"), .int 5, .ref l7, .ref t2])
  have z4 := same_new m4 (o := .tup (List.replicate (401 : Int).toNat [V.int 1]).flatten)
  have z3 := same_new m3 (o := .tup [V.int 1])
  have z7 := same_new n7 (o := .lst (List.replicate (401 : Int).toNat [V.int 1]).flatten)
  have z6 := same_new n6 (o := .lst [V.int 1])
  have ed8 := s8 _ _ (z4 _ _ (z3 _ _ (z7 _ _ (z6 _ _ (upd_same (H := H7) (a := d) (o := .dK []))))))
  have el78 := s8 _ _ (z4 _ _ (z3 _ _ (upd_same (a := l7) (o := .lst (List.replicate (401 : Int).toNat [V.int 1]).flatten))))
  have et28 := s8 _ _ (upd_same (a := t2) (o := .tup (List.replicate (401 : Int).toNat [V.int 1]).flatten))
  have e8 := upd_same (H := (upd (upd (upd (upd (upd H7 d (.dK [])) l6 (.lst [V.int 1])) l7 (.lst (List.replicate (401 : Int).toNat [V.int 1]).flatten)) t1 (.tup [V.int 1])) t2 (.tup (List.replicate (401 : Int).toNat [V.int 1]).flatten))) (a := l8) (o := .lst [V.ref d, .non, .str (Str.ofString "1"), .int 5, .ref l7, .ref t2])
  clear z3 z4 z6 z7 s8 n8 m4 m3 n7 n6
  generalize (upd (upd (upd (upd (upd (upd H7 d (.dK [])) l6 (.lst [V.int 1])) l7 (.lst (List.replicate (401 : Int).toNat [V.int 1]).flatten)) t1 (.tup [V.int 1])) t2 (.tup (List.replicate (401 : Int).toNat [V.int 1]).flatten)) l8 (.lst [V.ref d, .non, .str (Str.ofString "1"), .int 5, .ref l7, .ref t2])) = H8 at t7 ed8 el78 et28 e8 ⊢
  obtain ⟨v0, hv0, ev0⟩ := pickV (xs := [V.ref d, .non, .str (Str.ofString "1"), .int 5, .ref l7, .ref t2]) (r := c / 200 % 6) (Int.emod_nonneg _ (by decide)) (Int.emod_lt_of_pos _ q6)
  have bad0 : BadW K n H8 v0 := by
    simp only [List.mem_cons, List.not_mem_nil, or_false] at hv0
    rcases hv0 with rfl | rfl | rfl | rfl | rfl | rfl
    · exact .inl ⟨_, .dK ed8, by decide, by decide⟩
    · exact .inl ⟨_, .non, by decide, by decide⟩
    · exact .inl ⟨_, .str _, by decide, by decide⟩
    · exact .inl ⟨_, .int _, by decide, by decide⟩
    · exact .inr ⟨l7, _, rfl, .inl (sqL_of el78), fun x hx => by
        obtain ⟨T, ty⟩ := hi401 x hx
        exact ⟨T, ty _⟩, hg401⟩
    · exact .inr ⟨t2, _, rfl, .inr (sqT_of et28), fun x hx => by
        obtain ⟨T, ty⟩ := hi401 x hx
        exact ⟨T, ty _⟩, hg401⟩
  refine ⟨_, rfl, c, 200, rfl, rfl, e200, _, 6, rfl, rfl, q6, l8, _, _, v0, rfl, rfl, sqL_of e8, ev0, ?_⟩
  have bad58 := bad5.same t7
  have e58 := t7 _ _ e5
  have ew8 := t7 _ _ ew7
  have s18 : Same H1 H8 := s17.trans t7
  have tyx : ∀ x ∈ XS, ∃ T, TyB K H8 x T := fun x hx => by
    obtain ⟨T, ty⟩ := hxm x hx
    exact ⟨T, (ty.same s67).same t7⟩
  clear el78 et28 ed8 e8 hi401 hg401 hl401 ev0 hv0 t7
  show gName 8 v0 _ _ _
  refine ⟨10, rfl, by decide, by decide, for_range (fun i σ H' => Same H8 H' ∧ ∃ y9 y10, σ = [some (.ref sa), some (.int k), some (.int c), some (.int n), some (.ref stl), some (.ref lw), some (.int at'), some (.ref l5), some v0, y9, y10, y11, y12])
    ⟨Same.refl _, _, _, rfl⟩ ?_ ?_⟩
  · rintro way σ H9 hway ⟨s9, y9, y10, rfl⟩
    have hw : way ≤ 9 := by
      have : (10 : Int).toNat = 10 := rfl
      omega
    rw [Int.zero_add]
    refine ⟨_, rfl, _, rfl, _, rfl, l5, XS, rfl, .inl ⟨sqL_of (s9 _ _ e58), fun tt ntt => ⟨(by show 3 ≤ sizeLine; decide), fun l9 n9 => ⟨l9, rfl, ⟨_, sqL_of upd_same⟩, ?_⟩⟩⟩⟩
    have sA : Same H9 (upd (upd H9 tt (.tup XS)) l9 (.lst [.ref l5, v0, .ref tt])) := (same_new ntt).trans (same_new n9)
    have etA := same_new n9 (o := .lst [.ref l5, v0, .ref tt]) _ _ (upd_same (H := H9) (a := tt) (o := .tup XS))
    have elA := upd_same (H := upd H9 tt (.tup XS)) (a := l9) (o := .lst [.ref l5, v0, .ref tt])
    generalize (upd (upd H9 tt (.tup XS)) l9 (.lst [.ref l5, v0, .ref tt])) = HA at sA etA elA ⊢
    have s8A : Same H8 HA := s9.trans sA
    have allB : ∀ v ∈ [V.ref l5, v0, .ref tt], BadW K n HA v := by
      intro v hv
      simp only [List.mem_cons, List.not_mem_nil, or_false] at hv
      rcases hv with rfl | rfl | rfl
      · exact bad58.same s8A
      · exact bad0.same s8A
      · exact .inr ⟨tt, XS, rfl, .inr (sqT_of etA), fun x hx => by
          obtain ⟨T, ty⟩ := tyx x hx
          exact ⟨T, ty.same s8A⟩, hgx⟩
    refine for_list (K := K) (a := l9) (xs := [.ref l5, v0, .ref tt]) (fun i σ H' => Same HA H' ∧ ∃ y10, σ = [some (.ref sa), some (.int k), some (.int c), some (.int n), some (.ref stl), some (.ref lw), some (.int at'), some (.ref l5), some v0, some (.int way), y10, y11, y12])
      ⟨Same.refl _, _, rfl⟩ (fun i σ H' _ h => sqL_of (h.1 _ _ elA)) ?_ ?_
    · rintro i v σ HB hv ⟨sB, y10', rfl⟩
      have bw := (allB v (List.mem_of_getElem? hv)).same sB
      refine ⟨_, rfl, _, rfl, _, rfl, told_bad (E := E0) hw n1 n2 bw fun HC sC => ⟨rfl, _, rfl, ?_⟩⟩
      show (if (!decide (V.str _ = V.str _)) = true then _ else _)
      rw [dT]
      refine iteF ⟨_, rfl, _, rfl, _, rfl, told_bad (E := E0) hw n1 n2 (bw.same sC) fun HD sD => ⟨rfl, _, rfl, ?_⟩⟩
      show (if (!decide (V.str _ = V.str _)) = true then _ else _)
      rw [dT]
      refine iteF ?_
      refine ⟨_, rfl, 1, rfl, (by show 1 ≤ sizeLine; decide), fun l10 n10 => ⟨(by show 7 ≤ sizeLine; decide), fun l11 n11 => ?_⟩⟩
      have sE := (same_new n10 (o := .lst [V.int 5])).trans (same_new n11 (o := .lst [V.int 0, .int 401, .int (-1), .non, .bl true, .str (Str.ofString "5"), .ref l10]))
      obtain ⟨b, hb, eb⟩ := pickV (xs := [V.int 0, .int 401, .int (-1), .non, .bl true, .str (Str.ofString "5"), .ref l10]) (r := c / 2000 % 7) (Int.emod_nonneg _ (by decide)) (Int.emod_lt_of_pos _ q7)
      have tyB : (∃ T, TyB K (upd (upd HD l10 (.lst [V.int 5])) l11 (.lst [V.int 0, .int 401, .int (-1), .non, .bl true, .str (Str.ofString "5"), .ref l10])) b T) ∧ inB 1 400 b = false := by
        simp only [List.mem_cons, List.not_mem_nil, or_false] at hb
        rcases hb with rfl | rfl | rfl | rfl | rfl | rfl | rfl
        · exact ⟨⟨_, .int _⟩, by decide⟩
        · exact ⟨⟨_, .int _⟩, by decide⟩
        · exact ⟨⟨_, .int _⟩, by decide⟩
        · exact ⟨⟨_, .non⟩, rfl⟩
        · exact ⟨⟨_, .bl _⟩, rfl⟩
        · exact ⟨⟨_, .str _⟩, rfl⟩
        · exact ⟨⟨_, .lst (sqL_of (same_new n11 _ _ upd_same))⟩, rfl⟩
      refine ⟨_, rfl, c, 2000, rfl, rfl, e2000, _, 7, rfl, rfl, q7, l11, _, _, b, rfl, rfl, sqL_of upd_same, eb, _, rfl, told_noq (E := E0) hw tyB.1 tyB.2 fun HE sE' => ⟨rfl, _, rfl, ?_⟩⟩
      show (if (!decide (V.str _ = V.str _)) = true then _ else _)
      rw [dT]
      exact iteF ⟨(sB.trans (sC.trans (sD.trans (sE.trans sE')))), _, rfl⟩
    · rintro σ HB ⟨sB, y10', rfl⟩
      exact ⟨s8A.trans sB, _, _, rfl⟩
  rintro σ H9 ⟨s9, y9, y10, rfl⟩
  have s19 : Same H1 H9 := s18.trans s9
  have ew9 := s9 _ _ ew8
  clear s9 s18 bad0 bad58 bad5 e5 e58 ew8 ew7 tyx hxm hvm hgx
  -- one wish too many; as many as there are
  refine ⟨_, rfl, _, rfl, (by show 1 ≤ sizeLine; decide), fun k1 o1 => ⟨lw, k1, _, _, rfl, rfl, same_new o1 _ _ ew9, upd_same, ?_, fun k2 o2 => ?_⟩⟩
  · rw [List.length_map]
    simp only [List.length_cons, List.length_nil]
    exact ml' (by omega)
  have sA := (same_new o1 (o := .lst [V.int 1])).trans (same_new o2 (o := .lst (ws.map V.int ++ [V.int 1])))
  have ek2 := upd_same (H := upd H9 k1 (.lst [V.int 1])) (a := k2) (o := .lst (ws.map V.int ++ [V.int 1]))
  generalize upd (upd H9 k1 (.lst [V.int 1])) k2 (.lst (ws.map V.int ++ [V.int 1])) = HA at sA ek2 ⊢
  have eap : ws.map V.int ++ [V.int 1] = (ws ++ [1]).map V.int := by rw [List.map_append]; rfl
  rw [eap] at ek2
  have hb1 : ∀ x ∈ ws ++ [1], 1 ≤ x ∧ x ≤ (n : Int) := fun x hx => by
    rcases List.mem_append.mp hx with hx | hx
    · exact hwb x hx
    · rw [List.mem_singleton.mp hx]
      omega
  refine told_good (E := E0) (way := 8) (by decide) n1 n2 (sqL_of ek2) (by rw [List.length_append]; simp only [List.length_cons, List.length_nil]; omega) hb1 (.inr ⟨rfl, .inl ⟨by rw [List.length_append]; simp only [List.length_cons, List.length_nil]; omega, ⟨rfl, .wishes, rfl, fun HB sB => ⟨rfl, _, rfl, ?_⟩⟩⟩⟩)
  show (if (!decide (V.str (Str.ofString "wishes") = V.str (Str.ofString "wishes"))) = true then _ else _)
  rw [dT]
  have sAB := sA.trans sB
  refine iteF ⟨_, rfl, _, rfl, told_good (E := E0) (way := 8) (by decide) n1 n2 (sqL_of (sAB _ _ ew9)) (by omega) hwb (.inr ⟨rfl, .inr ⟨by omega, fun HC sC HC' sC' => ⟨rfl, _, rfl, ?_⟩⟩⟩)⟩
  show (if (!decide (V.str (Str.ofString "none") = V.str (Str.ofString "none"))) = true then _ else _)
  rw [dT]
  have s9D := (sAB.trans sC).trans sC'
  generalize HC' = HD at s9D
  clear sC' sC sB sA sAB ek2
  -- no count
  refine iteF ⟨_, rfl, _, rfl, (by show 1 ≤ sizeLine; decide), fun l10 n10 => ⟨(by show 4 ≤ sizeLine; decide), fun l11 n11 => ?_⟩⟩
  have sE := (same_new n10 (o := .lst [V.int 1])).trans (same_new n11 (o := .lst [V.non, .bl true, .str (Str.ofString "1"), .ref l10]))
  obtain ⟨y, hy, ey⟩ := pickV (xs := [V.non, .bl true, .str (Str.ofString "1"), .ref l10]) (r := c % 4) (Int.emod_nonneg _ (by decide)) (Int.emod_lt_of_pos _ q4)
  have tyY : (∃ T, TyB K (upd (upd HD l10 (.lst [V.int 1])) l11 (.lst [V.non, .bl true, .str (Str.ofString "1"), .ref l10])) y T) ∧ isInt y = false := by
    simp only [List.mem_cons, List.not_mem_nil, or_false] at hy
    rcases hy with rfl | rfl | rfl | rfl
    · exact ⟨⟨_, .non⟩, rfl⟩
    · exact ⟨⟨_, .bl _⟩, rfl⟩
    · exact ⟨⟨_, .str _⟩, rfl⟩
    · exact ⟨⟨_, .lst (sqL_of (same_new n11 _ _ upd_same))⟩, rfl⟩
  have s9E := s9D.trans sE
  refine ⟨_, rfl, c, 4, rfl, rfl, q4, l11, _, _, y, rfl, rfl, sqL_of upd_same, ey, told_good (E := E0) (way := 7) (by decide) n1 n2 (sqL_of (s9E _ _ ew9)) (by omega) hwb (.inl ⟨by decide, by omega, sqL_of (s9E _ _ ew9), tyY.1, .inl ⟨rfl, tyY.2, ⟨rfl, .count, rfl, fun HF sF => ⟨rfl, _, rfl, ?_⟩⟩⟩⟩)⟩
  show (if (!decide (V.str (Str.ofString "count") = V.str (Str.ofString "count"))) = true then _ else _)
  rw [dT]
  have s9F := s9E.trans sF
  refine iteF ?_
  clear sF sE s9E s9D n10 n11 tyY ey hy
  -- what is let pass
  refine ⟨8, rfl, by decide, by decide, fun lz nlz => ?_⟩
  refine lc_range (lo := 0) (n := 8) (fun i H' => Same HF H' ∧ H' lz = some (.lst ((List.replicate i (Str.ofString "none")).map V.str)))
    ⟨same_new nlz, upd_same⟩ ?_ ?_
  · rintro i HG hi ⟨sG, eG⟩
    have ewG := sG _ _ (s9F _ _ ew9)
    refine ⟨rfl, iteT (B := Same HF HG ∧ HG lz = some (.lst ((List.replicate (i + 1) (Str.ofString "none")).map V.str))) ?_⟩
    rw [Int.zero_add]
    refine ⟨_, rfl, _, rfl, _, rfl, told_good (E := E0) (by omega) n1 n2 (sqL_of ewG) (by omega) hwb (.inl ⟨by omega, by omega, sqL_of ewG, ⟨_, .int _⟩, .inr ⟨fun _ => rfl, fun HK sK HL sL => ?_⟩⟩)⟩
    refine ⟨_, sL _ _ (sK _ _ eG), ?_, (sG.trans (sK.trans sL)).store nlz, ?_⟩
    · rw [List.length_map, List.length_replicate]
      exact small1000 (by omega)
    · rw [upd_same, List.replicate_succ', List.map_append]
      rfl
  · rintro HG ⟨sG, eG⟩
    refine ⟨(by show 1 ≤ sizeLine; decide), fun l12 n12 => ⟨l12, 8, _, rfl, rfl, upd_same, by decide, by decide, (by show 1 * _ ≤ sizeLine; decide), fun l13 n13 => ?_⟩⟩
    refine neT_of (a := List.replicate 8 (Str.ofString "none")) (b := List.replicate 8 (Str.ofString "none")) (ho_strs (sqL_of (same_new n13 _ _ (same_new n12 _ _ eG)))) (ho_strs (sqL_of upd_same)) (by decide) ⟨_, rfl, ?_⟩
    rw [decide_eq_false (fun z => z rfl)]
    exact iteF ⟨s1.trans (s19.trans (s9F.trans (sG.trans ((same_new n12).trans (same_new n13))))), _, _, _, _, _, _, _, _, _, _, _, _, rfl⟩

section
variable {P : Program} {w : World} {K : PySem.W.Frag} {mg : Str → Option Value} {base : Heap} {a : Ad}
def topS (i : Nat) : Stmt := PySem.Challenge.pw_berthrow_k14_wishes_refused.main.body.getD i (.Pass ⟨0, 0, 0, 0⟩)
structure Txt (K : PySem.W.Frag) (mg : Str → Option Value) (a : Ad) : Prop where
  t_0 : True
  b_int : mg "int" = none
  b_isinstance : mg "isinstance" = none
  b_len : mg "len" = none
  b_list : mg "list" = none
  b_min : mg "min" = none
  b_range : mg "range" = none
  b_reversed : mg "reversed" = none
  b_sorted : mg "sorted" = none
  b_sum : mg "sum" = none
  b_tuple : mg "tuple" = none
  b_type : mg "type" = none
  b_zip : mg "zip" = none
  c_MOST : ∃ u, mg "MOST" = some u ∧ RelV (.int 400) u
  c_LONGEST : ∃ u, mg "LONGEST" = some u ∧ RelV (.int 8) u
  e_BerthError : ExF K mg "BerthError" a.e_BerthError
  e_NoCount : ExF K mg "NoCount" a.e_NoCount
  e_NoOrder : ExF K mg "NoOrder" a.e_NoOrder
  e_NoQuay : ExF K mg "NoQuay" a.e_NoQuay
  e_NoTree : ExF K mg "NoTree" a.e_NoTree
  e_NoWishes : ExF K mg "NoWishes" a.e_NoWishes
  e_TooMany : ExF K mg "TooMany" a.e_TooMany
  g_BerthError : ExG K a.e_BerthError
  g_NoOrder : ExG K a.e_NoOrder
  g_NoTree : ExG K a.e_NoTree
  g_TooMany : ExG K a.e_TooMany
  g_NoQuay : ExG K a.e_NoQuay
  g_NoWishes : ExG K a.e_NoWishes
  g_NoCount : ExG K a.e_NoCount
  s_NoQuay_BerthError : PySem.W.subIn K (.ref a.e_NoQuay) (.ref a.e_BerthError) = some true
  s_NoQuay_NoOrder : PySem.W.subIn K (.ref a.e_NoQuay) (.ref a.e_NoOrder) = some false
  s_NoQuay_NoTree : PySem.W.subIn K (.ref a.e_NoQuay) (.ref a.e_NoTree) = some false
  s_NoQuay_TooMany : PySem.W.subIn K (.ref a.e_NoQuay) (.ref a.e_TooMany) = some false
  s_NoQuay_NoQuay : PySem.W.subIn K (.ref a.e_NoQuay) (.ref a.e_NoQuay) = some true
  s_NoQuay_NoWishes : PySem.W.subIn K (.ref a.e_NoQuay) (.ref a.e_NoWishes) = some false
  s_NoQuay_NoCount : PySem.W.subIn K (.ref a.e_NoQuay) (.ref a.e_NoCount) = some false
  s_NoWishes_BerthError : PySem.W.subIn K (.ref a.e_NoWishes) (.ref a.e_BerthError) = some true
  s_NoWishes_NoOrder : PySem.W.subIn K (.ref a.e_NoWishes) (.ref a.e_NoOrder) = some false
  s_NoWishes_NoTree : PySem.W.subIn K (.ref a.e_NoWishes) (.ref a.e_NoTree) = some false
  s_NoWishes_TooMany : PySem.W.subIn K (.ref a.e_NoWishes) (.ref a.e_TooMany) = some false
  s_NoWishes_NoQuay : PySem.W.subIn K (.ref a.e_NoWishes) (.ref a.e_NoQuay) = some false
  s_NoWishes_NoWishes : PySem.W.subIn K (.ref a.e_NoWishes) (.ref a.e_NoWishes) = some true
  s_NoWishes_NoCount : PySem.W.subIn K (.ref a.e_NoWishes) (.ref a.e_NoCount) = some false
  s_NoCount_BerthError : PySem.W.subIn K (.ref a.e_NoCount) (.ref a.e_BerthError) = some true
  s_NoCount_NoOrder : PySem.W.subIn K (.ref a.e_NoCount) (.ref a.e_NoOrder) = some false
  s_NoCount_NoTree : PySem.W.subIn K (.ref a.e_NoCount) (.ref a.e_NoTree) = some false
  s_NoCount_TooMany : PySem.W.subIn K (.ref a.e_NoCount) (.ref a.e_TooMany) = some false
  s_NoCount_NoQuay : PySem.W.subIn K (.ref a.e_NoCount) (.ref a.e_NoQuay) = some false
  s_NoCount_NoWishes : PySem.W.subIn K (.ref a.e_NoCount) (.ref a.e_NoWishes) = some false
  s_NoCount_NoCount : PySem.W.subIn K (.ref a.e_NoCount) (.ref a.e_NoCount) = some true
  cl : ∀ b, ClsT K a b
  mk_Quay : Mk K a.c_Quay a.f_Q_init
  m_Quay : mg "Quay" = some (.ref a.c_Quay)
  mk_Round : Mk K a.c_Round a.f_R_init
  m_Round : mg "Round" = some (.ref a.c_Round)
  cf_Quay : ClsF K a.c_Quay "__init__" a.f_Q_init
abbrev s_l_cell_at : Stmt := topS 43
theorem sc_l_cell_at : FnScope N_l_cell_at ["_law_script", "_law_k"] (defScope s_l_cell_at) := ⟨rfl, rfl, rfl, by decide +kernel, rfl, by decide +kernel, by decide +kernel⟩
theorem ok_l_cell_at (D : DF K mg "_law_cell_at" s_l_cell_at ["_law_script", "_law_k"] a.f_l_cell_at) (T : Txt K mg a) : Cb P w K mg base CX0 1 "_law_cell_at" a.f_l_cell_at ["_law_script", "_law_k"] (sp_l_cell_at K) := by
  obtain ⟨⟨fd, F, bb⟩, gg⟩ := D
  refine ⟨⟨fd, F.ok sc_l_cell_at (fun vs H Q E h => len_l_cell_at h) (fun cdv A outer s H vs Q E hr h => ⟨t_l_cell_at K a, ?_, pu_l_cell_at h⟩), bb⟩, gg, F.kp⟩
  exact (pss_cons (ps_if (pt_cmpR op_lt (pv 1) (pe_callB call_len_seq (by rfl) T.b_len (by decide +kernel) (pa_cons (pv 0) pa_nil)) (nomark _)) (pss_one (ps_ret (pe_ix ix_list (pv 0) (pv 1) (fun _ _ => rfl)))) pss_nil)
    (pss_one (ps_ret pe_int)))

abbrev s_l_mix : Stmt := topS 44
theorem sc_l_mix : FnScope N_l_mix ["_law_state", "_law_cell"] (defScope s_l_mix) := ⟨rfl, rfl, rfl, by decide +kernel, rfl, by decide +kernel, by decide +kernel⟩
theorem ok_l_mix (D : DF K mg "_law_mix" s_l_mix ["_law_state", "_law_cell"] a.f_l_mix) (T : Txt K mg a) : Cb P w K mg base CX0 1 "_law_mix" a.f_l_mix ["_law_state", "_law_cell"] (sp_l_mix K) := by
  obtain ⟨⟨fd, F, bb⟩, gg⟩ := D
  refine ⟨⟨fd, F.ok sc_l_mix (fun vs H Q E h => len_l_mix h) (fun cdv A outer s H vs Q E hr h => ⟨t_l_mix K a, ?_, pu_l_mix h⟩), bb⟩, gg, F.kp⟩
  exact (pss_cons (ps_asg (pe_op op_mod (pe_op op_add (pe_op op_add (pe_op op_mul (pe_ix ix_list (pv 0) pe_int (fun _ _ => rfl)) pe_int) (pe_op op_mul (pv 1) pe_int)) pe_int) pe_int) (pg_sub (pv 0) pe_int set_list))
    (pss_one (ps_ret (pe_op op_fdiv (pe_op op_mod (pe_op op_mul (pe_ix ix_list (pv 0) pe_int (fun _ _ => rfl)) (pe_ix ix_list (pv 0) pe_int (fun _ _ => rfl))) pe_int) pe_int))))

abbrev s_l_word : Stmt := topS 46
theorem sc_l_word : FnScope N_l_word ["_law_e"] (defScope s_l_word) := ⟨rfl, rfl, rfl, by decide +kernel, rfl, by decide +kernel, by decide +kernel⟩
theorem ok_l_word (D : DF K mg "_law_word" s_l_word ["_law_e"] a.f_l_word) (T : Txt K mg a) : Cb P w K mg base CX0 1 "_law_word" a.f_l_word ["_law_e"] (sp_l_word K a) := by
  obtain ⟨⟨fd, F, bb⟩, gg⟩ := D
  refine ⟨⟨fd, F.ok sc_l_word (fun vs H Q E h => len_l_word h) (fun cdv A outer s H vs Q E hr h => ⟨t_l_word K a, ?_, pu_l_word (fun k => match k with | .quay => ⟨exm_of T.g_BerthError T.s_NoQuay_BerthError, T.g_NoQuay.c, kit_ref T.g_NoOrder T.s_NoQuay_NoOrder, kit_ref T.g_NoTree T.s_NoQuay_NoTree, kit_ref T.g_TooMany T.s_NoQuay_TooMany, fun k' => match k' with | .quay => kit_ref T.g_NoQuay T.s_NoQuay_NoQuay | .wishes => kit_ref T.g_NoWishes T.s_NoQuay_NoWishes | .count => kit_ref T.g_NoCount T.s_NoQuay_NoCount⟩ | .wishes => ⟨exm_of T.g_BerthError T.s_NoWishes_BerthError, T.g_NoWishes.c, kit_ref T.g_NoOrder T.s_NoWishes_NoOrder, kit_ref T.g_NoTree T.s_NoWishes_NoTree, kit_ref T.g_TooMany T.s_NoWishes_TooMany, fun k' => match k' with | .quay => kit_ref T.g_NoQuay T.s_NoWishes_NoQuay | .wishes => kit_ref T.g_NoWishes T.s_NoWishes_NoWishes | .count => kit_ref T.g_NoCount T.s_NoWishes_NoCount⟩ | .count => ⟨exm_of T.g_BerthError T.s_NoCount_BerthError, T.g_NoCount.c, kit_ref T.g_NoOrder T.s_NoCount_NoOrder, kit_ref T.g_NoTree T.s_NoCount_NoTree, kit_ref T.g_TooMany T.s_NoCount_TooMany, fun k' => match k' with | .quay => kit_ref T.g_NoQuay T.s_NoCount_NoQuay | .wishes => kit_ref T.g_NoWishes T.s_NoCount_NoWishes | .count => kit_ref T.g_NoCount T.s_NoCount_NoCount⟩) h⟩), bb⟩, gg, F.kp⟩
  exact (pss_cons (ps_if (PW.pt (pw_or (pt_cmp (pc_isN (pv 0)) rfl) (pw_or (pt_val (pe_callB call_isiTE (by rfl) T.b_isinstance (by decide +kernel) (pa_cons (pv 0) (pa_cons (pe_tup (pa_cons (pe_glob (by rfl) T.e_NoOrder.g rfl) (pa_cons (pe_glob (by rfl) T.e_NoTree.g rfl) pa_nil))) pa_nil)))) (pw_or1 (pt_val (pe_callB call_isiE (by rfl) T.b_isinstance (by decide +kernel) (pa_cons (pv 0) (pa_cons (pe_glob (by rfl) T.e_TooMany.g rfl) pa_nil)))))))) (pss_one (ps_ret (pe_ix ix_list (pe_lst (pa_cons pe_str (pa_cons pe_str pa_nil))) (pe_callTy call_int1 (by rfl) T.b_int (by decide +kernel) (pa_cons (pe_cmp (pc_isN (pv 0)) rfl) pa_nil)) (fun _ _ => rfl)))) pss_nil)
    (pss_cons (ps_set (i := 1) sc_l_word.nd rfl (by first | exact Or.inl rfl | exact Or.inr rfl) (pe_lst pa_nil))
    (pss_cons (ps_if (pt_val (pe_callB call_isiE (by rfl) T.b_isinstance (by decide +kernel) (pa_cons (pv 0) (pa_cons (pe_glob (by rfl) T.e_NoQuay.g rfl) pa_nil)))) (pss_one (ps_expr (pe_bm PySem.F.plainAttrs_list PySem.F.slot_list_append PySem.F.type_list_append mt_append (pv 1) (pa_cons pe_str pa_nil)))) pss_nil)
    (pss_cons (ps_if (pt_val (pe_callB call_isiE (by rfl) T.b_isinstance (by decide +kernel) (pa_cons (pv 0) (pa_cons (pe_glob (by rfl) T.e_NoWishes.g rfl) pa_nil)))) (pss_one (ps_expr (pe_bm PySem.F.plainAttrs_list PySem.F.slot_list_append PySem.F.type_list_append mt_append (pv 1) (pa_cons pe_str pa_nil)))) pss_nil)
    (pss_cons (ps_if (pt_val (pe_callB call_isiE (by rfl) T.b_isinstance (by decide +kernel) (pa_cons (pv 0) (pa_cons (pe_glob (by rfl) T.e_NoCount.g rfl) pa_nil)))) (pss_one (ps_expr (pe_bm PySem.F.plainAttrs_list PySem.F.slot_list_append PySem.F.type_list_append mt_append (pv 1) (pa_cons pe_str pa_nil)))) pss_nil)
    (pss_one (ps_ret (pe_join pe_str (pv 1)))))))))

abbrev s_is_number : Stmt := topS 17
theorem sc_is_number : FnScope N_is_number ["thing"] (defScope s_is_number) := ⟨rfl, rfl, rfl, by decide +kernel, rfl, by decide +kernel, by decide +kernel⟩
theorem ok_is_number (D : DF K mg "is_number" s_is_number ["thing"] a.f_is_number) (T : Txt K mg a) : Cb P w K mg base CX0 1 "is_number" a.f_is_number ["thing"] (sp_is_number K a) := by
  obtain ⟨⟨fd, F, bb⟩, gg⟩ := D
  refine ⟨⟨fd, F.ok sc_is_number (fun vs H Q E h => len_is_number h) (fun cdv A outer s H vs Q E hr h => ⟨t_is_number K a, ?_, pu_is_number h⟩), bb⟩, gg, F.kp⟩
  exact (pss_one (ps_ret (pe_cmpR op_isTyB (pe_callTy call_type1 (by rfl) T.b_type (by decide +kernel) (pa_cons (pv 0) pa_nil)) (pe_bltn (by rfl) T.b_int (by decide +kernel) rfl) (nomark _))))

abbrev s_is_from_to : Stmt := topS 18
theorem sc_is_from_to : FnScope N_is_from_to ["low", "high", "thing"] (defScope s_is_from_to) := ⟨rfl, rfl, rfl, by decide +kernel, rfl, by decide +kernel, by decide +kernel⟩
theorem ok_is_from_to (D : DF K mg "is_from_to" s_is_from_to ["low", "high", "thing"] a.f_is_from_to) (T : Txt K mg a) (g_is_number : Cb P w K mg base CX0 1 "is_number" a.f_is_number ["thing"] (sp_is_number K a)) : Cb P w K mg base CX0 2 "is_from_to" a.f_is_from_to ["low", "high", "thing"] (sp_is_from_to K a) := by
  obtain ⟨⟨fd, F, bb⟩, gg⟩ := D
  refine ⟨⟨fd, F.ok sc_is_from_to (fun vs H Q E h => len_is_from_to h) (fun cdv A outer s H vs Q E hr h => ⟨t_is_from_to K a, ?_, pu_is_from_to h⟩), bb⟩, gg, F.kp⟩
  exact (pss_one (ps_ret (pe_and (pe_cb g_is_number (hr.mono (by decide)) (by rfl) pass0 (pa_cons (pv 2) pa_nil)) (pe_one (pe_chain op_le op_le (pv 0) (pv 2) (pv 1))))))

abbrev s_check_quay : Stmt := topS 21
theorem sc_check_quay : FnScope N_check_quay ["berths"] (defScope s_check_quay) := ⟨rfl, rfl, rfl, by decide +kernel, rfl, by decide +kernel, by decide +kernel⟩
theorem ok_check_quay (D : DF K mg "check_quay" s_check_quay ["berths"] a.f_check_quay) (T : Txt K mg a) (g_is_from_to : Cb P w K mg base CX0 2 "is_from_to" a.f_is_from_to ["low", "high", "thing"] (sp_is_from_to K a)) : Cb P w K mg base (L2.CX P w) 3 "check_quay" a.f_check_quay ["berths"] (sp_check_quay K a) := by
  obtain ⟨⟨fd, F, bb⟩, gg⟩ := D
  refine ⟨⟨fd, F.okX sc_check_quay (fun vs H Q E h => len_check_quay h) (fun cdv A outer s H vs Q E hr h => ⟨t_check_quay K a E, ?_, pu_check_quay h⟩), bb⟩, gg, F.kp⟩
  exact (pss_one (ps_if (pt_not (pt_val (pe_cb g_is_from_to (hr.mono (by decide)) (by rfl) pass0 (pa_cons pe_int (pa_cons (pe_gl (by rfl) T.c_MOST) (pa_cons (pv 0) pa_nil)))))) (pss_one (ps_raise rfl (takes_of rfl rfl rfl rfl) (pmk_own PySem.F.excBase_ValueError T.e_NoQuay.x T.e_NoQuay.g T.e_NoQuay.k (raises_own T.e_NoQuay.b T.e_NoQuay.t) (by exact rfl)))) pss_nil))

abbrev s_is_row : Stmt := topS 19
theorem sc_is_row : FnScope N_is_row ["thing"] (defScope s_is_row) := ⟨rfl, rfl, rfl, by decide +kernel, rfl, by decide +kernel, by decide +kernel⟩
theorem ok_is_row (D : DF K mg "is_row" s_is_row ["thing"] a.f_is_row) (T : Txt K mg a) : Cb P w K mg base CX0 1 "is_row" a.f_is_row ["thing"] (sp_is_row K a) := by
  obtain ⟨⟨fd, F, bb⟩, gg⟩ := D
  refine ⟨⟨fd, F.ok sc_is_row (fun vs H Q E h => len_is_row h) (fun cdv A outer s H vs Q E hr h => ⟨t_is_row K a, ?_, pu_is_row h⟩), bb⟩, gg, F.kp⟩
  exact (pss_one (ps_ret (pe_or (pe_cmpR op_isTyB (pe_callTy call_type1 (by rfl) T.b_type (by decide +kernel) (pa_cons (pv 0) pa_nil)) (pe_bltn (by rfl) T.b_list (by decide +kernel) rfl) (nomark _)) (pe_one (pe_cmpR op_isTyB (pe_callTy call_type1 (by rfl) T.b_type (by decide +kernel) (pa_cons (pv 0) pa_nil)) (pe_bltn (by rfl) T.b_tuple (by decide +kernel) rfl) (nomark _))))))

abbrev s_check_wishes : Stmt := topS 22
theorem sc_check_wishes : FnScope N_check_wishes ["berths", "wishes"] (defScope s_check_wishes) := ⟨rfl, rfl, rfl, by decide +kernel, rfl, by decide +kernel, by decide +kernel⟩
theorem ok_check_wishes (D : DF K mg "check_wishes" s_check_wishes ["berths", "wishes"] a.f_check_wishes) (T : Txt K mg a) (g_is_from_to : Cb P w K mg base CX0 2 "is_from_to" a.f_is_from_to ["low", "high", "thing"] (sp_is_from_to K a)) (g_is_row : Cb P w K mg base CX0 1 "is_row" a.f_is_row ["thing"] (sp_is_row K a)) (g_check_quay : Cb P w K mg base (L2.CX P w) 3 "check_quay" a.f_check_quay ["berths"] (sp_check_quay K a)) : Cb P w K mg base (L2.CX P w) 4 "check_wishes" a.f_check_wishes ["berths", "wishes"] (sp_check_wishes K a) := by
  obtain ⟨⟨fd, F, bb⟩, gg⟩ := D
  refine ⟨⟨fd, F.okX sc_check_wishes (fun vs H Q E h => len_check_wishes h) (fun cdv A outer s H vs Q E hr h => ⟨t_check_wishes K a E, ?_, pu_check_wishes h⟩), bb⟩, gg, F.kp⟩
  exact (pss_cons (ps_expr (pe_cb g_check_quay (hr.mono (by decide)) (by rfl) (passes_call (takes_of rfl rfl rfl rfl) (fun _ _ _ _ h => h)) (pa_cons (pv 0) pa_nil)))
    (pss_cons (ps_if (pt_not (pt_val (pe_cb g_is_row (hr.mono (by decide)) (by rfl) pass0 (pa_cons (pv 1) pa_nil)))) (pss_one (ps_raise rfl (takes_of rfl rfl rfl rfl) (pmk_own PySem.F.excBase_ValueError T.e_NoWishes.x T.e_NoWishes.g T.e_NoWishes.k (raises_own T.e_NoWishes.b T.e_NoWishes.t) (by exact rfl)))) pss_nil)
    (pss_cons (ps_if (pt_cmpR op_gt (pe_callB call_len_seq (by rfl) T.b_len (by decide +kernel) (pa_cons (pv 1) pa_nil)) (pe_gl (by rfl) T.c_MOST) (nomark _)) (pss_one (ps_raise rfl (takes_of rfl rfl rfl rfl) (pmk_own PySem.F.excBase_ValueError T.e_NoWishes.x T.e_NoWishes.g T.e_NoWishes.k (raises_own T.e_NoWishes.b T.e_NoWishes.t) (by exact rfl)))) pss_nil)
    (pss_one (ps_for (passes_of rfl) rfl (pi_seq (pv 1)) (pg_name (i := 2) sc_check_wishes.nd rfl (by first | exact Or.inl rfl | exact Or.inr rfl))
    (pss_one (ps_if (pt_not (pt_val (pe_cb g_is_from_to (hr.mono (by decide)) (by rfl) pass0 (pa_cons pe_int (pa_cons (pv 0) (pa_cons (pv 2) pa_nil)))))) (pss_one (ps_raise rfl (takes_of rfl rfl rfl rfl) (pmk_own PySem.F.excBase_ValueError T.e_NoWishes.x T.e_NoWishes.g T.e_NoWishes.k (raises_own T.e_NoWishes.b T.e_NoWishes.t) (by exact rfl)))) pss_nil)))))))

abbrev s_first_free : Stmt := topS 24
theorem sc_first_free : FnScope N_first_free ["held", "wish"] (defScope s_first_free) := ⟨rfl, rfl, rfl, by decide +kernel, rfl, by decide +kernel, by decide +kernel⟩
theorem ok_first_free (D : DF K mg "first_free" s_first_free ["held", "wish"] a.f_first_free) (T : Txt K mg a) : Cb P w K mg base CX0 1 "first_free" a.f_first_free ["held", "wish"] (sp_first_free K a) := by
  obtain ⟨⟨fd, F, bb⟩, gg⟩ := D
  refine ⟨⟨fd, F.ok sc_first_free (fun vs H Q E h => len_first_free h) (fun cdv A outer s H vs Q E hr h => ⟨t_first_free K a, ?_, pu_first_free h⟩), bb⟩, gg, F.kp⟩
  exact (pss_cons (ps_for PassesOwn.never rfl (pi_range2 (by rfl) T.b_range (pa_cons (pv 1) (pa_cons (pe_callB call_len_seq (by rfl) T.b_len (by decide +kernel) (pa_cons (pv 0) pa_nil)) pa_nil))) (pg_name (i := 2) sc_first_free.nd rfl (by first | exact Or.inl rfl | exact Or.inr rfl))
    (pss_one (ps_if (pt_not (pt_val (pe_ix ix_list (pv 0) (pv 2) (fun _ _ => rfl)))) (pss_one (ps_ret (pv 2))) pss_nil)))
    (pss_one (ps_ret pe_non)))

abbrev s_placed : Stmt := topS 25
theorem sc_placed : FnScope N_placed ["berths", "wishes"] (defScope s_placed) := ⟨rfl, rfl, rfl, by decide +kernel, rfl, by decide +kernel, by decide +kernel⟩
theorem ok_placed (D : DF K mg "placed" s_placed ["berths", "wishes"] a.f_placed) (T : Txt K mg a) (g_check_wishes : Cb P w K mg base (L2.CX P w) 4 "check_wishes" a.f_check_wishes ["berths", "wishes"] (sp_check_wishes K a)) (g_first_free : Cb P w K mg base CX0 1 "first_free" a.f_first_free ["held", "wish"] (sp_first_free K a)) : Cb P w K mg base (L2.CX P w) 5 "placed" a.f_placed ["berths", "wishes"] (sp_placed K a) := by
  obtain ⟨⟨fd, F, bb⟩, gg⟩ := D
  refine ⟨⟨fd, F.okX sc_placed (fun vs H Q E h => len_placed h) (fun cdv A outer s H vs Q E hr h => ⟨t_placed K a E, ?_, pu_placed h⟩), bb⟩, gg, F.kp⟩
  exact (pss_cons (ps_expr (pe_cb g_check_wishes (hr.mono (by decide)) (by rfl) (passes_call (takes_of rfl rfl rfl rfl) (fun _ _ _ _ h => h)) (pa_cons (pv 0) (pa_cons (pv 1) pa_nil))))
    (pss_cons (ps_set (i := 2) sc_placed.nd rfl (by first | exact Or.inl rfl | exact Or.inr rfl) (pe_op op_rep (pe_lst (pa_cons pe_bl pa_nil)) (pe_op op_add (pv 0) pe_int)))
    (pss_cons (ps_set (i := 3) sc_placed.nd rfl (by first | exact Or.inl rfl | exact Or.inr rfl) (pe_lst pa_nil))
    (pss_cons (ps_for (passes_of rfl) rfl (pi_seq (pv 1)) (pg_name (i := 4) sc_placed.nd rfl (by first | exact Or.inl rfl | exact Or.inr rfl))
    (pss_cons (ps_set (i := 5) sc_placed.nd rfl (by first | exact Or.inl rfl | exact Or.inr rfl) (pe_cb g_first_free (hr.mono (by decide)) (by rfl) pass0 (pa_cons (pv 2) (pa_cons (pv 4) pa_nil))))
    (pss_cons (ps_if (pt_cmp (pc_notN (pv 5)) rfl) (pss_one (ps_asg pe_bl (pg_sub (pv 2) (pv 5) set_list))) pss_nil)
    (pss_one (ps_expr (pe_bm PySem.F.plainAttrs_list PySem.F.slot_list_append PySem.F.type_list_append mt_append (pv 3) (pa_cons (pv 5) pa_nil)))))))
    (pss_one (ps_ret (pv 3)))))))

abbrev s_taken : Stmt := topS 26
theorem sc_taken : FnScope N_taken ["berths", "wishes"] (defScope s_taken) := ⟨rfl, rfl, rfl, by decide +kernel, rfl, by decide +kernel, by decide +kernel⟩
theorem ok_taken (D : DF K mg "taken" s_taken ["berths", "wishes"] a.f_taken) (T : Txt K mg a) (g_placed : Cb P w K mg base (L2.CX P w) 5 "placed" a.f_placed ["berths", "wishes"] (sp_placed K a)) : Cb P w K mg base (L2.CX P w) 6 "taken" a.f_taken ["berths", "wishes"] (sp_taken K a) := by
  obtain ⟨⟨fd, F, bb⟩, gg⟩ := D
  refine ⟨⟨fd, F.okX sc_taken (fun vs H Q E h => len_taken h) (fun cdv A outer s H vs Q E hr h => ⟨t_taken K a E, ?_, pu_taken h⟩), bb⟩, gg, F.kp⟩
  exact (pss_one (ps_ret (pe_callB cr_sortedI (by rfl) T.b_sorted (by decide +kernel) (pa_cons (pe_lc (own := [("berth", 2)]) rfl sc_taken.nd (pi_list (pe_cb g_placed (hr.mono (by decide)) (by rfl) (passes_call (takes_of rfl rfl rfl rfl) (fun _ _ _ _ h => h)) (pa_cons (pv 0) (pa_cons (pv 1) pa_nil)))) (blkOk_by (N := N_taken) (sc := defScope s_taken) (by decide +kernel)) (fun _ _ _ _ _ => (pg_name (i := 2) sc_taken.nd rfl (by first | exact Or.inl rfl | exact Or.inr rfl))) (fun _ _ _ _ _ => (pts_one (pt_cmp (pc_notN (pv 2)) rfl))) (fun _ _ _ _ _ => (pv 2))) pa_nil))))

abbrev s_gone_on : Stmt := topS 27
theorem sc_gone_on : FnScope N_gone_on ["berths", "wishes"] (defScope s_gone_on) := ⟨rfl, rfl, rfl, by decide +kernel, rfl, by decide +kernel, by decide +kernel⟩
theorem ok_gone_on (D : DF K mg "gone_on" s_gone_on ["berths", "wishes"] a.f_gone_on) (T : Txt K mg a) (g_placed : Cb P w K mg base (L2.CX P w) 5 "placed" a.f_placed ["berths", "wishes"] (sp_placed K a)) : Cb P w K mg base (L2.CX P w) 6 "gone_on" a.f_gone_on ["berths", "wishes"] (sp_gone_on K a) := by
  obtain ⟨⟨fd, F, bb⟩, gg⟩ := D
  refine ⟨⟨fd, F.okX sc_gone_on (fun vs H Q E h => len_gone_on h) (fun cdv A outer s H vs Q E hr h => ⟨t_gone_on K a E, ?_, pu_gone_on h⟩), bb⟩, gg, F.kp⟩
  exact (pss_cons (ps_set (i := 2) sc_gone_on.nd rfl (by first | exact Or.inl rfl | exact Or.inr rfl) (pe_cb g_placed (hr.mono (by decide)) (by rfl) (passes_call (takes_of rfl rfl rfl rfl) (fun _ _ _ _ h => h)) (pa_cons (pv 0) (pa_cons (pv 1) pa_nil))))
    (pss_one (ps_ret (pe_callB (cr_sum rfl) (by rfl) T.b_sum (by decide +kernel) (pa_cons (pe_lc (own := [("wish", 3), ("berth", 4)]) rfl sc_gone_on.nd (pi_zip (by rfl) T.b_zip (pa_cons (pv 1) (pa_cons (pv 2) pa_nil))) (blkOk_by (N := N_gone_on) (sc := defScope s_gone_on) (by decide +kernel)) (fun _ _ _ _ _ => (pg_tup rfl (pgs_cons (pg_name (i := 3) sc_gone_on.nd rfl (by first | exact Or.inl rfl | exact Or.inr rfl)) (pgs_cons (pg_name (i := 4) sc_gone_on.nd rfl (by first | exact Or.inl rfl | exact Or.inr rfl)) pgs_nil)))) (fun _ _ _ _ _ => (pts_one (pt_cmp (pc_notN (pv 4)) rfl))) (fun _ _ _ _ _ => (pe_op op_sub (pv 4) (pv 3)))) pa_nil)))))

abbrev s_crowded : Stmt := topS 29
theorem sc_crowded : FnScope N_crowded ["berths", "wishes"] (defScope s_crowded) := ⟨rfl, rfl, rfl, by decide +kernel, rfl, by decide +kernel, by decide +kernel⟩
theorem ok_crowded (D : DF K mg "crowded" s_crowded ["berths", "wishes"] a.f_crowded) (T : Txt K mg a) (g_check_wishes : Cb P w K mg base (L2.CX P w) 4 "check_wishes" a.f_check_wishes ["berths", "wishes"] (sp_check_wishes K a)) : Cb P w K mg base (L2.CX P w) 5 "crowded" a.f_crowded ["berths", "wishes"] (sp_crowded K a) := by
  obtain ⟨⟨fd, F, bb⟩, gg⟩ := D
  refine ⟨⟨fd, F.okX sc_crowded (fun vs H Q E h => len_crowded h) (fun cdv A outer s H vs Q E hr h => ⟨t_crowded K a E, ?_, pu_crowded h⟩), bb⟩, gg, F.kp⟩
  exact (pss_cons (ps_expr (pe_cb g_check_wishes (hr.mono (by decide)) (by rfl) (passes_call (takes_of rfl rfl rfl rfl) (fun _ _ _ _ h => h)) (pa_cons (pv 0) (pa_cons (pv 1) pa_nil))))
    (pss_cons (ps_set (i := 2) sc_crowded.nd rfl (by first | exact Or.inl rfl | exact Or.inr rfl) (pe_op op_rep (pe_lst (pa_cons pe_int pa_nil)) (pe_op op_add (pv 0) pe_int)))
    (pss_cons (ps_for (passes_of rfl) rfl (pi_seq (pv 1)) (pg_name (i := 3) sc_crowded.nd rfl (by first | exact Or.inl rfl | exact Or.inr rfl))
    (pss_one (ps_augS (pv 2) (pv 3) gt_list pe_int ip_add set_list)))
    (pss_cons (ps_set (i := 4) sc_crowded.nd rfl (by first | exact Or.inl rfl | exact Or.inr rfl) pe_int)
    (pss_cons (ps_for (passes_of rfl) rfl (pi_range3 (by rfl) T.b_range (pa_cons (pv 0) (pa_cons pe_int (pa_cons (pe_un un_neg pe_int) pa_nil)))) (pg_name (i := 5) sc_crowded.nd rfl (by first | exact Or.inl rfl | exact Or.inr rfl))
    (pss_cons (ps_aug (i := 4) sc_crowded.nd rfl (by first | exact Or.inl rfl | exact Or.inr rfl) (pe_ix ix_list (pv 2) (pv 5) (fun _ _ => rfl)) ip_add)
    (pss_one (ps_if (pt_cmpR op_gt (pv 4) (pe_op op_add (pe_op op_sub (pv 0) (pv 5)) pe_int) (nomark _)) (pss_one (ps_ret (pv 5))) pss_nil))))
    (pss_one (ps_ret pe_non)))))))

abbrev s_is_good : Stmt := topS 28
theorem sc_is_good : FnScope N_is_good ["berths", "wishes"] (defScope s_is_good) := ⟨rfl, rfl, rfl, by decide +kernel, rfl, by decide +kernel, by decide +kernel⟩
theorem ok_is_good (D : DF K mg "is_good" s_is_good ["berths", "wishes"] a.f_is_good) (T : Txt K mg a) (g_crowded : Cb P w K mg base (L2.CX P w) 5 "crowded" a.f_crowded ["berths", "wishes"] (sp_crowded K a)) : Cb P w K mg base (L2.CX P w) 6 "is_good" a.f_is_good ["berths", "wishes"] (sp_is_good K a) := by
  obtain ⟨⟨fd, F, bb⟩, gg⟩ := D
  refine ⟨⟨fd, F.okX sc_is_good (fun vs H Q E h => len_is_good h) (fun cdv A outer s H vs Q E hr h => ⟨t_is_good K a E, ?_, pu_is_good h⟩), bb⟩, gg, F.kp⟩
  exact (pss_one (ps_ret (pe_cmp (pc_isN (pe_cb g_crowded (hr.mono (by decide)) (by rfl) (passes_call (takes_of rfl rfl rfl rfl) (fun _ _ _ _ h => h)) (pa_cons (pv 0) (pa_cons (pv 1) pa_nil)))) rfl)))

abbrev s_first_free_round : Stmt := topS 31
theorem sc_first_free_round : FnScope N_first_free_round ["held", "wish"] (defScope s_first_free_round) := ⟨rfl, rfl, rfl, by decide +kernel, rfl, by decide +kernel, by decide +kernel⟩
theorem ok_first_free_round (D : DF K mg "first_free_round" s_first_free_round ["held", "wish"] a.f_first_free_round) (T : Txt K mg a) (g_first_free : Cb P w K mg base CX0 1 "first_free" a.f_first_free ["held", "wish"] (sp_first_free K a)) : Cb P w K mg base CX0 2 "first_free_round" a.f_first_free_round ["held", "wish"] (sp_first_free_round K a) := by
  obtain ⟨⟨fd, F, bb⟩, gg⟩ := D
  refine ⟨⟨fd, F.ok sc_first_free_round (fun vs H Q E h => len_first_free_round h) (fun cdv A outer s H vs Q E hr h => ⟨t_first_free_round K a, ?_, pu_first_free_round h⟩), bb⟩, gg, F.kp⟩
  exact (pss_cons (ps_set (i := 2) sc_first_free_round.nd rfl (by first | exact Or.inl rfl | exact Or.inr rfl) (pe_cb g_first_free (hr.mono (by decide)) (by rfl) pass0 (pa_cons (pv 0) (pa_cons (pv 1) pa_nil))))
    (pss_cons (ps_if (pt_cmp (pc_isN (pv 2)) rfl) (pss_one (ps_ret (pe_cb g_first_free (hr.mono (by decide)) (by rfl) pass0 (pa_cons (pv 0) (pa_cons pe_int pa_nil))))) pss_nil)
    (pss_one (ps_ret (pv 2)))))

abbrev s_placed_round : Stmt := topS 32
theorem sc_placed_round : FnScope N_placed_round ["berths", "wishes"] (defScope s_placed_round) := ⟨rfl, rfl, rfl, by decide +kernel, rfl, by decide +kernel, by decide +kernel⟩
theorem ok_placed_round (D : DF K mg "placed_round" s_placed_round ["berths", "wishes"] a.f_placed_round) (T : Txt K mg a) (g_check_wishes : Cb P w K mg base (L2.CX P w) 4 "check_wishes" a.f_check_wishes ["berths", "wishes"] (sp_check_wishes K a)) (g_first_free_round : Cb P w K mg base CX0 2 "first_free_round" a.f_first_free_round ["held", "wish"] (sp_first_free_round K a)) : Cb P w K mg base (L2.CX P w) 5 "placed_round" a.f_placed_round ["berths", "wishes"] (sp_placed_round K a) := by
  obtain ⟨⟨fd, F, bb⟩, gg⟩ := D
  refine ⟨⟨fd, F.okX sc_placed_round (fun vs H Q E h => len_placed_round h) (fun cdv A outer s H vs Q E hr h => ⟨t_placed_round K a E, ?_, pu_placed_round h⟩), bb⟩, gg, F.kp⟩
  exact (pss_cons (ps_expr (pe_cb g_check_wishes (hr.mono (by decide)) (by rfl) (passes_call (takes_of rfl rfl rfl rfl) (fun _ _ _ _ h => h)) (pa_cons (pv 0) (pa_cons (pv 1) pa_nil))))
    (pss_cons (ps_if (pt_cmpR op_gt (pe_callB call_len_seq (by rfl) T.b_len (by decide +kernel) (pa_cons (pv 1) pa_nil)) (pv 0) (nomark _)) (pss_one (ps_raise rfl (takes_of rfl rfl rfl rfl) (pmk_own PySem.F.excBase_ValueError T.e_TooMany.x T.e_TooMany.g T.e_TooMany.k (raises_own T.e_TooMany.b T.e_TooMany.t) (by exact rfl)))) pss_nil)
    (pss_cons (ps_set (i := 2) sc_placed_round.nd rfl (by first | exact Or.inl rfl | exact Or.inr rfl) (pe_op op_rep (pe_lst (pa_cons pe_bl pa_nil)) (pe_op op_add (pv 0) pe_int)))
    (pss_cons (ps_set (i := 3) sc_placed_round.nd rfl (by first | exact Or.inl rfl | exact Or.inr rfl) (pe_lst pa_nil))
    (pss_cons (ps_for (passes_of rfl) rfl (pi_seq (pv 1)) (pg_name (i := 4) sc_placed_round.nd rfl (by first | exact Or.inl rfl | exact Or.inr rfl))
    (pss_cons (ps_set (i := 5) sc_placed_round.nd rfl (by first | exact Or.inl rfl | exact Or.inr rfl) (pe_cb g_first_free_round (hr.mono (by decide)) (by rfl) pass0 (pa_cons (pv 2) (pa_cons (pv 4) pa_nil))))
    (pss_cons (ps_asg pe_bl (pg_sub (pv 2) (pv 5) set_list))
    (pss_one (ps_expr (pe_bm PySem.F.plainAttrs_list PySem.F.slot_list_append PySem.F.type_list_append mt_append (pv 3) (pa_cons (pv 5) pa_nil)))))))
    (pss_one (ps_ret (pv 3))))))))

abbrev s_left_over : Stmt := topS 33
theorem sc_left_over : FnScope N_left_over ["berths", "wishes"] (defScope s_left_over) := ⟨rfl, rfl, rfl, by decide +kernel, rfl, by decide +kernel, by decide +kernel⟩
theorem ok_left_over (D : DF K mg "left_over" s_left_over ["berths", "wishes"] a.f_left_over) (T : Txt K mg a) (g_placed_round : Cb P w K mg base (L2.CX P w) 5 "placed_round" a.f_placed_round ["berths", "wishes"] (sp_placed_round K a)) : Cb P w K mg base (L2.CX P w) 6 "left_over" a.f_left_over ["berths", "wishes"] (sp_left_over K a) := by
  obtain ⟨⟨fd, F, bb⟩, gg⟩ := D
  refine ⟨⟨fd, F.okX sc_left_over (fun vs H Q E h => len_left_over h) (fun cdv A outer s H vs Q E hr h => ⟨t_left_over K a E, ?_, pu_left_over h⟩), bb⟩, gg, F.kp⟩
  exact (pss_cons (ps_set (i := 2) sc_left_over.nd rfl (by first | exact Or.inl rfl | exact Or.inr rfl) (pe_cb g_placed_round (hr.mono (by decide)) (by rfl) (passes_call (takes_of rfl rfl rfl rfl) (fun _ _ _ _ h => h)) (pa_cons (pv 0) (pa_cons (pv 1) pa_nil))))
    (pss_one (ps_ret (pe_lc (own := [("berth", 3)]) rfl sc_left_over.nd (pi_range2 (by rfl) T.b_range (pa_cons pe_int (pa_cons (pe_op op_add (pv 0) pe_int) pa_nil))) (blkOk_by (N := N_left_over) (sc := defScope s_left_over) (by decide +kernel)) (fun _ _ _ _ _ => (pg_name (i := 3) sc_left_over.nd rfl (by first | exact Or.inl rfl | exact Or.inr rfl))) (fun _ _ _ _ _ => (pts_one (pt_cmpR op_notIn_seq (pv 3) (pv 2) (by rfl)))) (fun _ _ _ _ _ => (pv 3))))))

abbrev s_turned : Stmt := topS 34
theorem sc_turned : FnScope N_turned ["berths", "wishes", "by"] (defScope s_turned) := ⟨rfl, rfl, rfl, by decide +kernel, rfl, by decide +kernel, by decide +kernel⟩
theorem ok_turned (D : DF K mg "turned" s_turned ["berths", "wishes", "by"] a.f_turned) (T : Txt K mg a) (g_is_number : Cb P w K mg base CX0 1 "is_number" a.f_is_number ["thing"] (sp_is_number K a)) (g_check_wishes : Cb P w K mg base (L2.CX P w) 4 "check_wishes" a.f_check_wishes ["berths", "wishes"] (sp_check_wishes K a)) : Cb P w K mg base (L2.CX P w) 5 "turned" a.f_turned ["berths", "wishes", "by"] (sp_turned K a) := by
  obtain ⟨⟨fd, F, bb⟩, gg⟩ := D
  refine ⟨⟨fd, F.okX sc_turned (fun vs H Q E h => len_turned h) (fun cdv A outer s H vs Q E hr h => ⟨t_turned K a E, ?_, pu_turned h⟩), bb⟩, gg, F.kp⟩
  exact (pss_cons (ps_expr (pe_cb g_check_wishes (hr.mono (by decide)) (by rfl) (passes_call (takes_of rfl rfl rfl rfl) (fun _ _ _ _ h => h)) (pa_cons (pv 0) (pa_cons (pv 1) pa_nil))))
    (pss_cons (ps_if (pt_not (pt_val (pe_cb g_is_number (hr.mono (by decide)) (by rfl) pass0 (pa_cons (pv 2) pa_nil)))) (pss_one (ps_raise rfl (takes_of rfl rfl rfl rfl) (pmk_own PySem.F.excBase_ValueError T.e_NoCount.x T.e_NoCount.g T.e_NoCount.k (raises_own T.e_NoCount.b T.e_NoCount.t) (by exact rfl)))) pss_nil)
    (pss_one (ps_ret (pe_lc (own := [("wish", 3)]) rfl sc_turned.nd (pi_seq (pv 1)) (blkOk_by (N := N_turned) (sc := defScope s_turned) (by decide +kernel)) (fun _ _ _ _ _ => (pg_name (i := 3) sc_turned.nd rfl (by first | exact Or.inl rfl | exact Or.inr rfl))) (fun _ _ _ _ _ => pts_nil) (fun _ _ _ _ _ => (pe_op op_add (pe_op op_mod (pe_op op_add (pe_op op_sub (pv 3) pe_int) (pv 2)) (pv 0)) pe_int)))))))

abbrev s_turning : Stmt := topS 35
theorem sc_turning : FnScope N_turning ["berths", "wishes"] (defScope s_turning) := ⟨rfl, rfl, rfl, by decide +kernel, rfl, by decide +kernel, by decide +kernel⟩
theorem ok_turning (D : DF K mg "turning" s_turning ["berths", "wishes"] a.f_turning) (T : Txt K mg a) (g_check_wishes : Cb P w K mg base (L2.CX P w) 4 "check_wishes" a.f_check_wishes ["berths", "wishes"] (sp_check_wishes K a)) (g_left_over : Cb P w K mg base (L2.CX P w) 6 "left_over" a.f_left_over ["berths", "wishes"] (sp_left_over K a)) : Cb P w K mg base (L2.CX P w) 7 "turning" a.f_turning ["berths", "wishes"] (sp_turning K a) := by
  obtain ⟨⟨fd, F, bb⟩, gg⟩ := D
  refine ⟨⟨fd, F.okX sc_turning (fun vs H Q E h => len_turning h) (fun cdv A outer s H vs Q E hr h => ⟨t_turning K a E, ?_, pu_turning h⟩), bb⟩, gg, F.kp⟩
  exact (pss_cons (ps_expr (pe_cb g_check_wishes (hr.mono (by decide)) (by rfl) (passes_call (takes_of rfl rfl rfl rfl) (fun _ _ _ _ h => h)) (pa_cons (pv 0) (pa_cons (pv 1) pa_nil))))
    (pss_cons (ps_if (pt_cmpR op_ne (pe_callB call_len_seq (by rfl) T.b_len (by decide +kernel) (pa_cons (pv 1) pa_nil)) (pe_op op_sub (pv 0) pe_int) (nomark _)) (pss_one (ps_raise rfl (takes_of rfl rfl rfl rfl) (pmk_own PySem.F.excBase_ValueError T.e_NoWishes.x T.e_NoWishes.g T.e_NoWishes.k (raises_own T.e_NoWishes.b T.e_NoWishes.t) (by exact rfl)))) pss_nil)
    (pss_one (ps_ret (pe_op op_sub (pv 0) (pe_ix ix_list (pe_cb g_left_over (hr.mono (by decide)) (by rfl) (passes_call (takes_of rfl rfl rfl rfl) (fun _ _ _ _ h => h)) (pa_cons (pv 0) (pa_cons (pv 1) pa_nil))) pe_int (fun _ _ => rfl)))))))

abbrev s_next_row : Stmt := topS 41
theorem sc_next_row : FnScope N_next_row ["berths", "wishes"] (defScope s_next_row) := ⟨rfl, rfl, rfl, by decide +kernel, rfl, by decide +kernel, by decide +kernel⟩
theorem ok_next_row (D : DF K mg "next_row" s_next_row ["berths", "wishes"] a.f_next_row) (T : Txt K mg a) (g_is_good : Cb P w K mg base (L2.CX P w) 6 "is_good" a.f_is_good ["berths", "wishes"] (sp_is_good K a)) : Cb P w K mg base (L2.CX P w) 7 "next_row" a.f_next_row ["berths", "wishes"] (sp_next_row K a) := by
  obtain ⟨⟨fd, F, bb⟩, gg⟩ := D
  refine ⟨⟨fd, F.okX sc_next_row (fun vs H Q E h => len_next_row h) (fun cdv A outer s H vs Q E hr h => ⟨t_next_row K a E, ?_, pu_next_row h⟩), bb⟩, gg, F.kp⟩
  exact (pss_cons (ps_if (pt_not (pt_val (pe_cb g_is_good (hr.mono (by decide)) (by rfl) (passes_call (takes_of rfl rfl rfl rfl) (fun _ _ _ _ h => h)) (pa_cons (pv 0) (pa_cons (pv 1) pa_nil))))) (pss_one (ps_raise rfl (takes_of rfl rfl rfl rfl) (pmk_own PySem.F.excBase_ValueError T.e_NoWishes.x T.e_NoWishes.g T.e_NoWishes.k (raises_own T.e_NoWishes.b T.e_NoWishes.t) (by exact rfl)))) pss_nil)
    (pss_cons (ps_set (i := 2) sc_next_row.nd rfl (by first | exact Or.inl rfl | exact Or.inr rfl) (pe_callTy call_tuple_of (by rfl) T.b_tuple (by decide +kernel) (pa_cons (pv 1) pa_nil)))
    (pss_cons (ps_for (passes_of rfl) rfl (pi_revR (by rfl) T.b_reversed (prg_1 (by rfl) T.b_range (pe_callB call_len_seq (by rfl) T.b_len (by decide +kernel) (pa_cons (pv 2) pa_nil)))) (pg_name (i := 3) sc_next_row.nd rfl (by first | exact Or.inl rfl | exact Or.inr rfl))
    (pss_cons (ps_set (i := 4) sc_next_row.nd rfl (by first | exact Or.inl rfl | exact Or.inr rfl) (pe_op op_catA (pe_slice sl_tupA (pv 2) po_none (po_some (pv 3))) (pe_tup (pa_cons (pe_op op_add (pe_ix ix_tup (pv 2) (pv 3) (fun _ _ => rfl)) pe_int) pa_nil))))
    (pss_one (ps_if (PW.pt (pw_and (pt_cmpR op_lt (pe_ix ix_tup (pv 2) (pv 3) (fun _ _ => rfl)) (pv 0) (nomark _)) (pw_and1 (pt_val (pe_cb g_is_good (hr.mono (by decide)) (by rfl) (passes_call (takes_of rfl rfl rfl rfl) (fun _ _ _ _ h => h)) (pa_cons (pv 0) (pa_cons (pv 4) pa_nil))))))) (pss_one (ps_ret (pe_op op_catA (pv 4) (pe_op op_repTA (pe_tup (pa_cons pe_int pa_nil)) (pe_op op_sub (pe_callB call_len_seq (by rfl) T.b_len (by decide +kernel) (pa_cons (pv 2) pa_nil)) (pe_callB call_len_seq (by rfl) T.b_len (by decide +kernel) (pa_cons (pv 4) pa_nil))))))) pss_nil))))
    (pss_one (ps_ret pe_non)))))

abbrev s_l_asked : Stmt := topS 45
theorem sc_l_asked : FnScope N_l_asked ["_law_way", "_law_berths", "_law_wishes", "_law_by"] (defScope s_l_asked) := ⟨rfl, rfl, rfl, by decide +kernel, rfl, by decide +kernel, by decide +kernel⟩
theorem ok_l_asked (D : DF K mg "_law_asked" s_l_asked ["_law_way", "_law_berths", "_law_wishes", "_law_by"] a.f_l_asked) (T : Txt K mg a) (g_placed : Cb P w K mg base (L2.CX P w) 5 "placed" a.f_placed ["berths", "wishes"] (sp_placed K a)) (g_taken : Cb P w K mg base (L2.CX P w) 6 "taken" a.f_taken ["berths", "wishes"] (sp_taken K a)) (g_gone_on : Cb P w K mg base (L2.CX P w) 6 "gone_on" a.f_gone_on ["berths", "wishes"] (sp_gone_on K a)) (g_is_good : Cb P w K mg base (L2.CX P w) 6 "is_good" a.f_is_good ["berths", "wishes"] (sp_is_good K a)) (g_crowded : Cb P w K mg base (L2.CX P w) 5 "crowded" a.f_crowded ["berths", "wishes"] (sp_crowded K a)) (g_placed_round : Cb P w K mg base (L2.CX P w) 5 "placed_round" a.f_placed_round ["berths", "wishes"] (sp_placed_round K a)) (g_left_over : Cb P w K mg base (L2.CX P w) 6 "left_over" a.f_left_over ["berths", "wishes"] (sp_left_over K a)) (g_turned : Cb P w K mg base (L2.CX P w) 5 "turned" a.f_turned ["berths", "wishes", "by"] (sp_turned K a)) (g_turning : Cb P w K mg base (L2.CX P w) 7 "turning" a.f_turning ["berths", "wishes"] (sp_turning K a)) (g_next_row : Cb P w K mg base (L2.CX P w) 7 "next_row" a.f_next_row ["berths", "wishes"] (sp_next_row K a)) : Cb P w K mg base (L2.CX P w) 8 "_law_asked" a.f_l_asked ["_law_way", "_law_berths", "_law_wishes", "_law_by"] (sp_l_asked K a) := by
  obtain ⟨⟨fd, F, bb⟩, gg⟩ := D
  refine ⟨⟨fd, F.okX sc_l_asked (fun vs H Q E h => len_l_asked h) (fun cdv A outer s H vs Q E hr h => ⟨t_l_asked K a E, ?_, pu_l_asked h⟩), bb⟩, gg, F.kp⟩
  exact (pss_one (ps_if (pt_cmpR op_eq (pv 0) pe_int (nomark _)) (pss_one (ps_expr (pe_cb g_placed (hr.mono (by decide)) (by rfl) (passes_call (takes_of rfl rfl rfl rfl) (fun _ _ _ _ h => h)) (pa_cons (pv 1) (pa_cons (pv 2) pa_nil))))) (pss_one (ps_if (pt_cmpR op_eq (pv 0) pe_int (nomark _)) (pss_one (ps_expr (pe_cb g_taken (hr.mono (by decide)) (by rfl) (passes_call (takes_of rfl rfl rfl rfl) (fun _ _ _ _ h => h)) (pa_cons (pv 1) (pa_cons (pv 2) pa_nil))))) (pss_one (ps_if (pt_cmpR op_eq (pv 0) pe_int (nomark _)) (pss_one (ps_expr (pe_cb g_gone_on (hr.mono (by decide)) (by rfl) (passes_call (takes_of rfl rfl rfl rfl) (fun _ _ _ _ h => h)) (pa_cons (pv 1) (pa_cons (pv 2) pa_nil))))) (pss_one (ps_if (pt_cmpR op_eq (pv 0) pe_int (nomark _)) (pss_one (ps_expr (pe_cb g_crowded (hr.mono (by decide)) (by rfl) (passes_call (takes_of rfl rfl rfl rfl) (fun _ _ _ _ h => h)) (pa_cons (pv 1) (pa_cons (pv 2) pa_nil))))) (pss_one (ps_if (pt_cmpR op_eq (pv 0) pe_int (nomark _)) (pss_one (ps_expr (pe_cb g_is_good (hr.mono (by decide)) (by rfl) (passes_call (takes_of rfl rfl rfl rfl) (fun _ _ _ _ h => h)) (pa_cons (pv 1) (pa_cons (pv 2) pa_nil))))) (pss_one (ps_if (pt_cmpR op_eq (pv 0) pe_int (nomark _)) (pss_one (ps_expr (pe_cb g_placed_round (hr.mono (by decide)) (by rfl) (passes_call (takes_of rfl rfl rfl rfl) (fun _ _ _ _ h => h)) (pa_cons (pv 1) (pa_cons (pv 2) pa_nil))))) (pss_one (ps_if (pt_cmpR op_eq (pv 0) pe_int (nomark _)) (pss_one (ps_expr (pe_cb g_left_over (hr.mono (by decide)) (by rfl) (passes_call (takes_of rfl rfl rfl rfl) (fun _ _ _ _ h => h)) (pa_cons (pv 1) (pa_cons (pv 2) pa_nil))))) (pss_one (ps_if (pt_cmpR op_eq (pv 0) pe_int (nomark _)) (pss_one (ps_expr (pe_cb g_turned (hr.mono (by decide)) (by rfl) (passes_call (takes_of rfl rfl rfl rfl) (fun _ _ _ _ h => h)) (pa_cons (pv 1) (pa_cons (pv 2) (pa_cons (pv 3) pa_nil)))))) (pss_one (ps_if (pt_cmpR op_eq (pv 0) pe_int (nomark _)) (pss_one (ps_expr (pe_cb g_turning (hr.mono (by decide)) (by rfl) (passes_call (takes_of rfl rfl rfl rfl) (fun _ _ _ _ h => h)) (pa_cons (pv 1) (pa_cons (pv 2) pa_nil))))) (pss_one (ps_expr (pe_cb g_next_row (hr.mono (by decide)) (by rfl) (passes_call (takes_of rfl rfl rfl rfl) (fun _ _ _ _ h => h)) (pa_cons (pv 1) (pa_cons (pv 2) pa_nil)))))))))))))))))))))))

abbrev s_l_told : Stmt := topS 47
theorem sc_l_told : FnScope N_l_told ["_law_way", "_law_berths", "_law_wishes", "_law_by"] (defScope s_l_told) := ⟨rfl, rfl, rfl, by decide +kernel, rfl, by decide +kernel, by decide +kernel⟩
theorem ok_l_told (D : DF K mg "_law_told" s_l_told ["_law_way", "_law_berths", "_law_wishes", "_law_by"] a.f_l_told) (T : Txt K mg a) (g_l_asked : Cb P w K mg base (L2.CX P w) 8 "_law_asked" a.f_l_asked ["_law_way", "_law_berths", "_law_wishes", "_law_by"] (sp_l_asked K a)) (g_l_word : Cb P w K mg base CX0 1 "_law_word" a.f_l_word ["_law_e"] (sp_l_word K a)) : Cb P w K mg base CX0 9 "_law_told" a.f_l_told ["_law_way", "_law_berths", "_law_wishes", "_law_by"] (sp_l_told K a) := by
  obtain ⟨⟨fd, F, bb⟩, gg⟩ := D
  refine ⟨⟨fd, F.ok sc_l_told (fun vs H Q E h => len_l_told h) (fun cdv A outer s H vs Q E hr h => ⟨t_l_told K a, ?_, pu_l_told (fun k => match k with | .quay => ⟨exm_of T.g_BerthError T.s_NoQuay_BerthError, T.g_NoQuay.c, kit_ref T.g_NoOrder T.s_NoQuay_NoOrder, kit_ref T.g_NoTree T.s_NoQuay_NoTree, kit_ref T.g_TooMany T.s_NoQuay_TooMany, fun k' => match k' with | .quay => kit_ref T.g_NoQuay T.s_NoQuay_NoQuay | .wishes => kit_ref T.g_NoWishes T.s_NoQuay_NoWishes | .count => kit_ref T.g_NoCount T.s_NoQuay_NoCount⟩ | .wishes => ⟨exm_of T.g_BerthError T.s_NoWishes_BerthError, T.g_NoWishes.c, kit_ref T.g_NoOrder T.s_NoWishes_NoOrder, kit_ref T.g_NoTree T.s_NoWishes_NoTree, kit_ref T.g_TooMany T.s_NoWishes_TooMany, fun k' => match k' with | .quay => kit_ref T.g_NoQuay T.s_NoWishes_NoQuay | .wishes => kit_ref T.g_NoWishes T.s_NoWishes_NoWishes | .count => kit_ref T.g_NoCount T.s_NoWishes_NoCount⟩ | .count => ⟨exm_of T.g_BerthError T.s_NoCount_BerthError, T.g_NoCount.c, kit_ref T.g_NoOrder T.s_NoCount_NoOrder, kit_ref T.g_NoTree T.s_NoCount_NoTree, kit_ref T.g_TooMany T.s_NoCount_TooMany, fun k' => match k' with | .quay => kit_ref T.g_NoQuay T.s_NoCount_NoQuay | .wishes => kit_ref T.g_NoWishes T.s_NoCount_NoWishes | .count => kit_ref T.g_NoCount T.s_NoCount_NoCount⟩) h⟩), bb⟩, gg, F.kp⟩
  exact (pss_cons (ps_set (i := 4) sc_l_told.nd rfl (by first | exact Or.inl rfl | exact Or.inr rfl) pe_non)
    (pss_cons (ps_try_keep (i := 5) (j := 4) (tb := fun W => (tDrop (tCallS (sp_l_asked K a) (WE W) (tCons (tVar 0) (tCons (tVar 1) (tCons (tVar 2) (tCons (tVar 3) tNil))))))) rfl rfl rfl sc_l_told.nd rfl rfl ⟨rfl, by decide, .inl T.e_BerthError.g⟩ (fun W pn xe tk _ => (pss_one (ps_expr (pe_cbS g_l_asked (hr.mono (by decide)) (by rfl) (fun s => passAt tk s) (pa_cons (pv 0) (pa_cons (pv 1) (pa_cons (pv 2) (pa_cons (pv 3) pa_nil)))))))) (fun _ _ _ _ _ _ _ => pss_one (ps_set (i := 4) sc_l_told.nd rfl (.inl rfl) (pv 5))))
    (pss_one (ps_ret (pe_cb g_l_word (hr.mono (by decide)) (by rfl) pass0 (pa_cons (pv 4) pa_nil))))))

abbrev s_l_odd : Stmt := topS 48
theorem sc_l_odd : FnScope N_l_odd ["_law_berths", "_law_cell"] (defScope s_l_odd) := ⟨rfl, rfl, rfl, by decide +kernel, rfl, by decide +kernel, by decide +kernel⟩
theorem ok_l_odd (D : DF K mg "_law_odd" s_l_odd ["_law_berths", "_law_cell"] a.f_l_odd) (T : Txt K mg a) : Cb P w K mg base CX0 1 "_law_odd" a.f_l_odd ["_law_berths", "_law_cell"] (sp_l_odd K) := by
  obtain ⟨⟨fd, F, bb⟩, gg⟩ := D
  refine ⟨⟨fd, F.ok sc_l_odd (fun vs H Q E h => len_l_odd h) (fun cdv A outer s H vs Q E hr h => ⟨t_l_odd K a, ?_, pu_l_odd h⟩), bb⟩, gg, F.kp⟩
  exact (pss_cons (ps_set (i := 2) sc_l_odd.nd rfl (by first | exact Or.inl rfl | exact Or.inr rfl) (pe_lst (pa_cons pe_int (pa_cons (pe_op op_add (pv 0) pe_int) (pa_cons (pe_un un_neg pe_int) (pa_cons (pe_op op_add (pe_op op_add (pv 0) pe_int) (pe_op op_mod (pv 1) (pe_op op_pow pe_int pe_int))) (pa_cons (pe_op op_sub (pe_un un_neg pe_int) (pe_op op_mod (pv 1) (pe_op op_pow pe_int pe_int))) (pa_cons pe_bl (pa_cons pe_non (pa_cons pe_str (pa_cons (pe_lst (pa_cons pe_int pa_nil)) (pa_cons (pe_tup (pa_cons pe_int pa_nil)) (pa_cons pe_bl pa_nil)))))))))))))
    (pss_one (ps_ret (pe_ix ix_list (pv 2) (pe_op op_mod (pe_op op_fdiv (pv 1) pe_int) pe_int) (fun _ _ => rfl)))))

abbrev s_Q_init : Stmt := inClass (topS 37) 0
theorem sc_Q_init : FnScope N_Q_init ["self", "berths"] (defScope s_Q_init) := ⟨rfl, rfl, rfl, by decide +kernel, rfl, by decide +kernel, by decide +kernel⟩
theorem ok_Q_init (b : Bool) (D : ∃ fd, Fun K "__init__" "Quay.__init__" s_Q_init a.f_Q_init fd ∧ Binds K fd ["self", "berths"] []) (T : Txt K mg a) (g_check_quay : Cb P w K mg base (L2.CX P w) 3 "check_quay" a.f_check_quay ["berths"] (sp_check_quay K a)) : ∃ fd, FnOk P w K mg base (L2.CX P w) 4 a.f_Q_init fd ["self", "berths"] (sp_M_init K a b) ∧ Binds K fd ["self", "berths"] [] := by
  obtain ⟨fd, F, hbb⟩ := D
  refine ⟨fd, F.okX sc_Q_init (fun vs H Q E h => len_M_init h) (fun cdv A outer s H vs Q E hr h => ⟨t_Q_init K a E, ?_, pu_Q_init (T.cl b) h⟩), hbb⟩
  exact (pss_cons (ps_expr (pe_cb g_check_quay (hr.mono (by decide)) (by rfl) (passes_call (takes_of rfl rfl rfl rfl) (fun _ _ _ _ h => h)) (pa_cons (pv 1) pa_nil)))
    (pss_cons (ps_fld (pv 0) (pv 1) rfl)
    (pss_one (ps_fld (pv 0) pe_dnewK rfl))))

abbrev s_R_init : Stmt := inClass (topS 38) 0
theorem sc_R_init : FnScope N_R_init ["self", "berths"] (defScope s_R_init) := ⟨rfl, rfl, rfl, by decide +kernel, rfl, by decide +kernel, by decide +kernel⟩
theorem ok_R_init (D : ∃ fd, Fun K "__init__" "Round.__init__" s_R_init a.f_R_init fd ∧ Binds K fd ["self", "berths"] []) (T : Txt K mg a) (G_Q_init : ∀ b, ∃ fd, FnOk P w K mg base (L2.CX P w) 4 a.f_Q_init fd ["self", "berths"] (sp_M_init K a b) ∧ Binds K fd ["self", "berths"] []) : ∃ fd, FnOk P w K mg base (L2.CX P w) 5 a.f_R_init fd ["self", "berths"] (sp_M_init K a true) ∧ Binds K fd ["self", "berths"] [] := by
  obtain ⟨fd, F, hbb⟩ := D
  refine ⟨fd, F.okX sc_R_init (fun vs H Q E h => len_M_init h) (fun cdv A outer s H vs Q E hr h => ⟨t_R_init K a E, ?_, pu_R_init (T.cl true) h⟩), hbb⟩
  exact (pss_one (ps_expr (pe_clsFn (pe_glob (by rfl) T.m_Quay rfl) T.cf_Quay (G_Q_init true).choose_spec.1 (hr.mono (by decide)) (G_Q_init true).choose_spec.2 (passes_call (takes_of rfl rfl rfl rfl) (fun _ _ _ _ h => h)) (pa_cons (pv 0) (pa_cons (pv 1) pa_nil)))))

abbrev s_l_no_quay : Stmt := topS 49
theorem sc_l_no_quay : FnScope N_l_no_quay ["_law_berths"] (defScope s_l_no_quay) := ⟨rfl, rfl, rfl, by decide +kernel, rfl, by decide +kernel, by decide +kernel⟩
theorem ok_l_no_quay (D : DF K mg "_law_no_quay" s_l_no_quay ["_law_berths"] a.f_l_no_quay) (T : Txt K mg a) (G_Q_init : ∀ b, ∃ fd, FnOk P w K mg base (L2.CX P w) 4 a.f_Q_init fd ["self", "berths"] (sp_M_init K a b) ∧ Binds K fd ["self", "berths"] []) (G_R_init : ∃ fd, FnOk P w K mg base (L2.CX P w) 5 a.f_R_init fd ["self", "berths"] (sp_M_init K a true) ∧ Binds K fd ["self", "berths"] []) (g_l_word : Cb P w K mg base CX0 1 "_law_word" a.f_l_word ["_law_e"] (sp_l_word K a)) : Cb P w K mg base CX0 7 "_law_no_quay" a.f_l_no_quay ["_law_berths"] (sp_l_no_quay K a) := by
  obtain ⟨⟨fd, F, bb⟩, gg⟩ := D
  refine ⟨⟨fd, F.ok sc_l_no_quay (fun vs H Q E h => len_l_no_quay h) (fun cdv A outer s H vs Q E hr h => ⟨t_l_no_quay K a, ?_, pu_l_no_quay (fun k => match k with | .quay => ⟨exm_of T.g_BerthError T.s_NoQuay_BerthError, T.g_NoQuay.c, kit_ref T.g_NoOrder T.s_NoQuay_NoOrder, kit_ref T.g_NoTree T.s_NoQuay_NoTree, kit_ref T.g_TooMany T.s_NoQuay_TooMany, fun k' => match k' with | .quay => kit_ref T.g_NoQuay T.s_NoQuay_NoQuay | .wishes => kit_ref T.g_NoWishes T.s_NoQuay_NoWishes | .count => kit_ref T.g_NoCount T.s_NoQuay_NoCount⟩ | .wishes => ⟨exm_of T.g_BerthError T.s_NoWishes_BerthError, T.g_NoWishes.c, kit_ref T.g_NoOrder T.s_NoWishes_NoOrder, kit_ref T.g_NoTree T.s_NoWishes_NoTree, kit_ref T.g_TooMany T.s_NoWishes_TooMany, fun k' => match k' with | .quay => kit_ref T.g_NoQuay T.s_NoWishes_NoQuay | .wishes => kit_ref T.g_NoWishes T.s_NoWishes_NoWishes | .count => kit_ref T.g_NoCount T.s_NoWishes_NoCount⟩ | .count => ⟨exm_of T.g_BerthError T.s_NoCount_BerthError, T.g_NoCount.c, kit_ref T.g_NoOrder T.s_NoCount_NoOrder, kit_ref T.g_NoTree T.s_NoCount_NoTree, kit_ref T.g_TooMany T.s_NoCount_TooMany, fun k' => match k' with | .quay => kit_ref T.g_NoQuay T.s_NoCount_NoQuay | .wishes => kit_ref T.g_NoWishes T.s_NoCount_NoWishes | .count => kit_ref T.g_NoCount T.s_NoCount_NoCount⟩) h⟩), bb⟩, gg, F.kp⟩
  exact (pss_cons (ps_set (i := 1) sc_l_no_quay.nd rfl (by first | exact Or.inl rfl | exact Or.inr rfl) (pe_lst pa_nil))
    (pss_cons (ps_for PassesOwn.never rfl (pi_list (pe_lst (pa_cons pe_bl (pa_cons pe_bl pa_nil)))) (pg_name (i := 2) sc_l_no_quay.nd rfl (by first | exact Or.inl rfl | exact Or.inr rfl))
    (pss_cons (ps_set (i := 3) sc_l_no_quay.nd rfl (by first | exact Or.inl rfl | exact Or.inr rfl) pe_non)
    (pss_cons (ps_try_keep (i := 4) (j := 3) (tb := fun W => (tIfS (tB (tVar 2)) (tDrop (tMk a.c_Round (sp_M_init K a true) (WE W) (tCons (tVar 0) tNil))) (tDrop (tMk a.c_Quay (sp_M_init K a false) (WE W) (tCons (tVar 0) tNil))))) rfl rfl rfl sc_l_no_quay.nd rfl rfl ⟨rfl, by decide, .inl T.e_BerthError.g⟩ (fun W pn xe tk _ => (pss_one (ps_if (pt_val (pv 2)) (pss_one (ps_expr (pe_mk T.mk_Round G_R_init T.m_Round (hr.mono (by decide)) (by rfl) (fun s => passAt tk s) (pa_cons (pv 0) pa_nil)))) (pss_one (ps_expr (pe_mk T.mk_Quay (G_Q_init false) T.m_Quay (hr.mono (by decide)) (by rfl) (fun s => passAt tk s) (pa_cons (pv 0) pa_nil))))))) (fun _ _ _ _ _ _ _ => pss_one (ps_set (i := 3) sc_l_no_quay.nd rfl (.inl rfl) (pv 4))))
    (pss_one (ps_expr (pe_bm PySem.F.plainAttrs_list PySem.F.slot_list_append PySem.F.type_list_append mt_append (pv 1) (pa_cons (pe_cb g_l_word (hr.mono (by decide)) (by rfl) pass0 (pa_cons (pv 3) pa_nil)) pa_nil)))))))
    (pss_one (ps_ret (pe_cmpR (op_eqT hr.units) (pv 1) (pe_lst (pa_cons pe_str (pa_cons pe_str pa_nil))) (nomark _))))))

abbrev s_law : Stmt := topS 50
theorem sc_law : FnScope N_law ["_law_script"] (defScope s_law) := ⟨rfl, rfl, rfl, by decide +kernel, rfl, by decide +kernel, by decide +kernel⟩
theorem ok_law {f : Addr} {fd : FuncData} (F : Fun K "law" "law" s_law f fd) (T : Txt K mg a) (g_l_cell_at : Cb P w K mg base CX0 1 "_law_cell_at" a.f_l_cell_at ["_law_script", "_law_k"] (sp_l_cell_at K)) (g_l_mix : Cb P w K mg base CX0 1 "_law_mix" a.f_l_mix ["_law_state", "_law_cell"] (sp_l_mix K)) (g_l_told : Cb P w K mg base CX0 9 "_law_told" a.f_l_told ["_law_way", "_law_berths", "_law_wishes", "_law_by"] (sp_l_told K a)) (g_l_odd : Cb P w K mg base CX0 1 "_law_odd" a.f_l_odd ["_law_berths", "_law_cell"] (sp_l_odd K)) (g_l_no_quay : Cb P w K mg base CX0 7 "_law_no_quay" a.f_l_no_quay ["_law_berths"] (sp_l_no_quay K a)) : FnOk P w K mg base CX0 10 f fd ["_law_script"] (sp_law K) := by
  refine F.ok sc_law (fun vs H Q E h => len_law h) (fun cdv A outer s H vs Q E hr h => ⟨t_law K a, ?_, pu_law h⟩)
  exact (pss_cons (ps_for PassesOwn.never rfl (pi_range1 (by rfl) T.b_range (pa_cons (pe_op op_add pe_int (pe_callB (call_min2 rfl) (by rfl) T.b_min (by decide +kernel) (pa_cons pe_int (pa_cons (pe_callB call_len_seq (by rfl) T.b_len (by decide +kernel) (pa_cons (pv 0) pa_nil)) pa_nil)))) pa_nil)) (pg_name (i := 1) sc_law.nd rfl (by first | exact Or.inl rfl | exact Or.inr rfl))
    (pss_cons (ps_set (i := 2) sc_law.nd rfl (by first | exact Or.inl rfl | exact Or.inr rfl) (pe_cb g_l_cell_at (hr.mono (by decide)) (by rfl) pass0 (pa_cons (pv 0) (pa_cons (pv 1) pa_nil))))
    (pss_cons (ps_set (i := 3) sc_law.nd rfl (by first | exact Or.inl rfl | exact Or.inr rfl) (pe_ix ix_list (pe_lst (pa_cons (pe_op op_add pe_int (pe_op op_mod (pv 2) pe_int)) (pa_cons (pe_op op_add pe_int (pe_op op_mod (pe_op op_fdiv (pv 2) pe_int) pe_int)) pa_nil))) (pe_op op_fdiv (pe_op op_mod (pe_op op_fdiv (pv 2) pe_int) pe_int) pe_int) (fun _ _ => rfl)))
    (pss_cons (ps_set (i := 4) sc_law.nd rfl (by first | exact Or.inl rfl | exact Or.inr rfl) (pe_lst (pa_cons (pe_op op_add pe_int (pe_op op_mod (pv 2) pe_int)) pa_nil)))
    (pss_cons (ps_set (i := 5) sc_law.nd rfl (by first | exact Or.inl rfl | exact Or.inr rfl) (pe_lc (own := [("_law_ship", 11)]) rfl sc_law.nd (pi_range1 (by rfl) T.b_range (pa_cons (pe_op op_sub (pv 3) pe_int) pa_nil)) (blkOk_by (N := N_law) (sc := defScope s_law) (by decide +kernel)) (fun _ _ _ _ _ => (pg_name (i := 11) sc_law.nd rfl (by first | exact Or.inl rfl | exact Or.inr rfl))) (fun _ _ _ _ _ => pts_nil) (fun _ _ _ _ _ => (pe_op op_add pe_int (pe_op op_mod (pe_cb g_l_mix (hr.mono (by decide)) (by rfl) pass0 (pa_cons (pv 4) (pa_cons (pv 1) pa_nil))) (pv 3))))))
    (pss_cons (ps_set (i := 6) sc_law.nd rfl (by first | exact Or.inl rfl | exact Or.inr rfl) (pe_op op_mod (pe_cb g_l_mix (hr.mono (by decide)) (by rfl) pass0 (pa_cons (pv 4) (pa_cons (pv 1) pa_nil))) (pv 3)))
    (pss_cons (ps_set (i := 7) sc_law.nd rfl (by first | exact Or.inl rfl | exact Or.inr rfl) (pe_op op_cat (pe_op op_cat (pe_slice sl_list (pv 5) po_none (po_some (pv 6))) (pe_lst (pa_cons (pe_cb g_l_odd (hr.mono (by decide)) (by rfl) pass0 (pa_cons (pv 3) (pa_cons (pv 2) pa_nil))) pa_nil))) (pe_slice sl_list (pv 5) (po_some (pe_op op_add (pv 6) pe_int)) po_none)))
    (pss_cons (ps_set (i := 8) sc_law.nd rfl (by first | exact Or.inl rfl | exact Or.inr rfl) (pe_ix ix_list (pe_lst (pa_cons pe_dnewK (pa_cons pe_non (pa_cons pe_str (pa_cons pe_int (pa_cons (pe_op op_rep (pe_lst (pa_cons pe_int pa_nil)) pe_int) (pa_cons (pe_op op_repTA (pe_tup (pa_cons pe_int pa_nil)) pe_int) pa_nil))))))) (pe_op op_mod (pe_op op_fdiv (pv 2) pe_int) pe_int) (fun _ _ => rfl)))
    (pss_cons (ps_for PassesOwn.never rfl (pi_range1 (by rfl) T.b_range (pa_cons pe_int pa_nil)) (pg_name (i := 9) sc_law.nd rfl (by first | exact Or.inl rfl | exact Or.inr rfl))
    (pss_one (ps_for PassesOwn.never rfl (pi_list (pe_lst (pa_cons (pv 7) (pa_cons (pv 8) (pa_cons (pe_callTy call_tuple_of (by rfl) T.b_tuple (by decide +kernel) (pa_cons (pv 7) pa_nil)) pa_nil))))) (pg_name (i := 10) sc_law.nd rfl (by first | exact Or.inl rfl | exact Or.inr rfl))
    (pss_cons (ps_if (PW.pt (pw_or (pt_cmpR op_ne (pe_cb g_l_told (hr.mono (by decide)) (by rfl) pass0 (pa_cons (pv 9) (pa_cons (pv 3) (pa_cons (pv 10) (pa_cons pe_int pa_nil))))) pe_str (nomark _)) (pw_or1 (pt_cmpR op_ne (pe_cb g_l_told (hr.mono (by decide)) (by rfl) pass0 (pa_cons (pv 9) (pa_cons (pv 3) (pa_cons (pv 10) (pa_cons pe_non pa_nil))))) pe_str (nomark _))))) (pss_one (ps_ret pe_bl)) pss_nil)
    (pss_one (ps_if (pt_cmpR op_ne (pe_cb g_l_told (hr.mono (by decide)) (by rfl) pass0 (pa_cons (pv 9) (pa_cons (pe_ix ix_list (pe_lst (pa_cons pe_int (pa_cons pe_int (pa_cons (pe_un un_neg pe_int) (pa_cons pe_non (pa_cons pe_bl (pa_cons pe_str (pa_cons (pe_lst (pa_cons pe_int pa_nil)) pa_nil)))))))) (pe_op op_mod (pe_op op_fdiv (pv 2) pe_int) pe_int) (fun _ _ => rfl)) (pa_cons (pv 10) (pa_cons pe_str pa_nil))))) pe_str (nomark _)) (pss_one (ps_ret pe_bl)) pss_nil))))))
    (pss_cons (ps_if (PW.pt (pw_or (pt_cmpR op_ne (pe_cb g_l_told (hr.mono (by decide)) (by rfl) pass0 (pa_cons pe_int (pa_cons (pv 3) (pa_cons (pe_op op_cat (pv 5) (pe_lst (pa_cons pe_int pa_nil))) (pa_cons pe_int pa_nil))))) pe_str (nomark _)) (pw_or1 (pt_cmpR op_ne (pe_cb g_l_told (hr.mono (by decide)) (by rfl) pass0 (pa_cons pe_int (pa_cons (pv 3) (pa_cons (pv 5) (pa_cons pe_int pa_nil))))) pe_str (nomark _))))) (pss_one (ps_ret pe_bl)) pss_nil)
    (pss_cons (ps_if (pt_cmpR op_ne (pe_cb g_l_told (hr.mono (by decide)) (by rfl) pass0 (pa_cons pe_int (pa_cons (pv 3) (pa_cons (pv 5) (pa_cons (pe_ix ix_list (pe_lst (pa_cons pe_non (pa_cons pe_bl (pa_cons pe_str (pa_cons (pe_lst (pa_cons pe_int pa_nil)) pa_nil))))) (pe_op op_mod (pv 2) pe_int) (fun _ _ => rfl)) pa_nil))))) pe_str (nomark _)) (pss_one (ps_ret pe_bl)) pss_nil)
    (pss_one (ps_if (pt_cmpR (op_neT hr.units) (pe_lc (own := [("_law_way", 9)]) rfl sc_law.nd (pi_range1 (by rfl) T.b_range (pa_cons pe_int pa_nil)) (blkOk_by (N := N_law) (sc := defScope s_law) (by decide +kernel)) (fun _ _ _ _ _ => (pg_name (i := 9) sc_law.nd rfl (by first | exact Or.inl rfl | exact Or.inr rfl))) (fun _ _ _ _ _ => pts_nil) (fun _ _ _ _ _ => (pe_cb g_l_told (hr.mono (by decide)) (by rfl) pass0 (pa_cons (pv 9) (pa_cons (pv 3) (pa_cons (pv 5) (pa_cons pe_int pa_nil))))))) (pe_op op_rep (pe_lst (pa_cons pe_str pa_nil)) pe_int) (nomark _)) (pss_one (ps_ret pe_bl)) pss_nil)))))))))))))
    (pss_one (ps_ret (pe_cmpR (op_eqT hr.units) (pe_lc (own := [("_law_odd_here", 12)]) rfl sc_law.nd (pi_list (pe_lst (pa_cons pe_int (pa_cons pe_int (pa_cons (pe_un un_neg pe_int) (pa_cons pe_bl (pa_cons pe_non (pa_cons pe_str (pa_cons (pe_op op_pow pe_int pe_int) pa_nil))))))))) (blkOk_by (N := N_law) (sc := defScope s_law) (by decide +kernel)) (fun _ _ _ _ _ => (pg_name (i := 12) sc_law.nd rfl (by first | exact Or.inl rfl | exact Or.inr rfl))) (fun _ _ _ _ _ => (pts_one (pt_not (pt_val (pe_cb g_l_no_quay (hr.mono (by decide)) (by rfl) pass0 (pa_cons (pv 12) pa_nil)))))) (fun _ _ _ _ _ => (pv 12))) (pe_lst pa_nil) (nomark _)))))
end
theorem all_mk {P : Program} {w : World} {K : PySem.W.Frag} {h : Heap} {mg : Str → Option Value} {fa : Addr} (X : K.In h) (G : h.Ns mainGlobals mg) (hfa : mg "law" = some (.ref fa))
    {f_l_cell_at f_l_mix f_l_word f_is_number f_is_from_to f_check_quay f_is_row f_check_wishes f_first_free f_placed f_taken f_gone_on f_crowded f_is_good f_first_free_round f_placed_round f_left_over f_turned f_turning f_next_row f_l_asked f_l_told f_l_odd f_Q_init f_R_init f_l_no_quay f_law e_BerthError e_NoCount e_NoOrder e_NoQuay e_NoTree e_NoWishes e_TooMany c_Quay c_Round : Addr}
    {od_l_cell_at an_l_cell_at od_l_mix an_l_mix od_l_word an_l_word od_is_number an_is_number od_is_from_to an_is_from_to od_check_quay an_check_quay od_is_row an_is_row od_check_wishes an_check_wishes od_first_free an_first_free od_placed an_placed od_taken an_taken od_gone_on an_gone_on od_crowded an_crowded od_is_good an_is_good od_first_free_round an_first_free_round od_placed_round an_placed_round od_left_over an_left_over od_turned an_turned od_turning an_turning od_next_row an_next_row od_l_asked an_l_asked od_l_told an_l_told od_l_odd an_l_odd od_Q_init an_Q_init od_R_init an_R_init od_l_no_quay an_l_no_quay od_law an_law : Option Addr}
    {sl_l_cell_at sl_l_mix sl_l_word sl_is_number sl_is_from_to sl_check_quay sl_is_row sl_check_wishes sl_first_free sl_placed sl_taken sl_gone_on sl_crowded sl_is_good sl_first_free_round sl_placed_round sl_left_over sl_turned sl_turning sl_next_row sl_l_asked sl_l_told sl_l_odd sl_Q_init sl_R_init sl_l_no_quay sl_law : Array (Option Value)}
    {oc_l_cell_at kV_l_cell_at dc_l_cell_at pm_l_cell_at cd_l_cell_at ct_l_cell_at oc_l_mix kV_l_mix dc_l_mix pm_l_mix cd_l_mix ct_l_mix oc_l_word kV_l_word dc_l_word pm_l_word cd_l_word ct_l_word oc_is_number kV_is_number dc_is_number pm_is_number cd_is_number ct_is_number oc_is_from_to kV_is_from_to dc_is_from_to pm_is_from_to cd_is_from_to ct_is_from_to oc_check_quay kV_check_quay dc_check_quay pm_check_quay cd_check_quay ct_check_quay oc_is_row kV_is_row dc_is_row pm_is_row cd_is_row ct_is_row oc_check_wishes kV_check_wishes dc_check_wishes pm_check_wishes cd_check_wishes ct_check_wishes oc_first_free kV_first_free dc_first_free pm_first_free cd_first_free ct_first_free oc_placed kV_placed dc_placed pm_placed cd_placed ct_placed oc_taken kV_taken dc_taken pm_taken cd_taken ct_taken oc_gone_on kV_gone_on dc_gone_on pm_gone_on cd_gone_on ct_gone_on oc_crowded kV_crowded dc_crowded pm_crowded cd_crowded ct_crowded oc_is_good kV_is_good dc_is_good pm_is_good cd_is_good ct_is_good oc_first_free_round kV_first_free_round dc_first_free_round pm_first_free_round cd_first_free_round ct_first_free_round oc_placed_round kV_placed_round dc_placed_round pm_placed_round cd_placed_round ct_placed_round oc_left_over kV_left_over dc_left_over pm_left_over cd_left_over ct_left_over oc_turned kV_turned dc_turned pm_turned cd_turned ct_turned oc_turning kV_turning dc_turning pm_turning cd_turning ct_turning oc_next_row kV_next_row dc_next_row pm_next_row cd_next_row ct_next_row oc_l_asked kV_l_asked dc_l_asked pm_l_asked cd_l_asked ct_l_asked oc_l_told kV_l_told dc_l_told pm_l_told cd_l_told ct_l_told oc_l_odd kV_l_odd dc_l_odd pm_l_odd cd_l_odd ct_l_odd oc_Q_init kV_Q_init dc_Q_init pm_Q_init cd_Q_init ct_Q_init oc_R_init kV_R_init dc_R_init pm_R_init cd_R_init ct_R_init oc_l_no_quay kV_l_no_quay dc_l_no_quay pm_l_no_quay cd_l_no_quay ct_l_no_quay oc_law kV_law dc_law pm_law cd_law ct_law : Value}
    {t_MOST t_LONGEST : Tok}
    (aC_Quay : PySem.W.nsIn K mainGlobals "Quay" = some (some (.ref c_Quay)))
    (pg_Quay : PySem.W.plainGet K c_Quay Str.empty = true)
    (hd_Quay : PySem.W.hasDictIn K c_Quay = true)
    (po_Quay : PySem.W.plainOver K c_Quay = true)
    (sa_Quay : PySem.W.findIn K (.ref c_Quay) "__setattr__" = some (some (.builtin "object.__setattr__")))
    (mk_Quay : PySem.W.makesIn K c_Quay = true)
    (kc_Quay : PySem.W.keepIn K (.ref c_Quay) = true)
    (nB_Quay : PySem.W.findIn K (.ref c_Quay) "_berths" = some none)
    (nS_Quay : PySem.W.findIn K (.ref c_Quay) "_ships" = some none)
    (aC_Round : PySem.W.nsIn K mainGlobals "Round" = some (some (.ref c_Round)))
    (pg_Round : PySem.W.plainGet K c_Round Str.empty = true)
    (hd_Round : PySem.W.hasDictIn K c_Round = true)
    (po_Round : PySem.W.plainOver K c_Round = true)
    (sa_Round : PySem.W.findIn K (.ref c_Round) "__setattr__" = some (some (.builtin "object.__setattr__")))
    (mk_Round : PySem.W.makesIn K c_Round = true)
    (kc_Round : PySem.W.keepIn K (.ref c_Round) = true)
    (nB_Round : PySem.W.findIn K (.ref c_Round) "_berths" = some none)
    (nS_Round : PySem.W.findIn K (.ref c_Round) "_ships" = some none)
    (a_l_cell_at : PySem.W.nsIn K mainGlobals "_law_cell_at" = some (some (.ref f_l_cell_at))) (l_l_cell_at : K.lookup f_l_cell_at = some ⟨oc_l_cell_at, od_l_cell_at, .func (PySem.W.fnOf "_law_cell_at" "_law_cell_at" (defArgs s_l_cell_at) (defBody s_l_cell_at) (defScope s_l_cell_at) .none kV_l_cell_at dc_l_cell_at pm_l_cell_at an_l_cell_at cd_l_cell_at ct_l_cell_at), sl_l_cell_at⟩) (cI_l_cell_at : PySem.W.codeIn K cd_l_cell_at "_law_cell_at" = true) (kI_l_cell_at : PySem.W.keepIn K (.ref f_l_cell_at) = true)
    (a_l_mix : PySem.W.nsIn K mainGlobals "_law_mix" = some (some (.ref f_l_mix))) (l_l_mix : K.lookup f_l_mix = some ⟨oc_l_mix, od_l_mix, .func (PySem.W.fnOf "_law_mix" "_law_mix" (defArgs s_l_mix) (defBody s_l_mix) (defScope s_l_mix) .none kV_l_mix dc_l_mix pm_l_mix an_l_mix cd_l_mix ct_l_mix), sl_l_mix⟩) (cI_l_mix : PySem.W.codeIn K cd_l_mix "_law_mix" = true) (kI_l_mix : PySem.W.keepIn K (.ref f_l_mix) = true)
    (a_l_word : PySem.W.nsIn K mainGlobals "_law_word" = some (some (.ref f_l_word))) (l_l_word : K.lookup f_l_word = some ⟨oc_l_word, od_l_word, .func (PySem.W.fnOf "_law_word" "_law_word" (defArgs s_l_word) (defBody s_l_word) (defScope s_l_word) .none kV_l_word dc_l_word pm_l_word an_l_word cd_l_word ct_l_word), sl_l_word⟩) (cI_l_word : PySem.W.codeIn K cd_l_word "_law_word" = true) (kI_l_word : PySem.W.keepIn K (.ref f_l_word) = true)
    (a_is_number : PySem.W.nsIn K mainGlobals "is_number" = some (some (.ref f_is_number))) (l_is_number : K.lookup f_is_number = some ⟨oc_is_number, od_is_number, .func (PySem.W.fnOf "is_number" "is_number" (defArgs s_is_number) (defBody s_is_number) (defScope s_is_number) .none kV_is_number dc_is_number pm_is_number an_is_number cd_is_number ct_is_number), sl_is_number⟩) (cI_is_number : PySem.W.codeIn K cd_is_number "is_number" = true) (kI_is_number : PySem.W.keepIn K (.ref f_is_number) = true)
    (a_is_from_to : PySem.W.nsIn K mainGlobals "is_from_to" = some (some (.ref f_is_from_to))) (l_is_from_to : K.lookup f_is_from_to = some ⟨oc_is_from_to, od_is_from_to, .func (PySem.W.fnOf "is_from_to" "is_from_to" (defArgs s_is_from_to) (defBody s_is_from_to) (defScope s_is_from_to) .none kV_is_from_to dc_is_from_to pm_is_from_to an_is_from_to cd_is_from_to ct_is_from_to), sl_is_from_to⟩) (cI_is_from_to : PySem.W.codeIn K cd_is_from_to "is_from_to" = true) (kI_is_from_to : PySem.W.keepIn K (.ref f_is_from_to) = true)
    (a_check_quay : PySem.W.nsIn K mainGlobals "check_quay" = some (some (.ref f_check_quay))) (l_check_quay : K.lookup f_check_quay = some ⟨oc_check_quay, od_check_quay, .func (PySem.W.fnOf "check_quay" "check_quay" (defArgs s_check_quay) (defBody s_check_quay) (defScope s_check_quay) .none kV_check_quay dc_check_quay pm_check_quay an_check_quay cd_check_quay ct_check_quay), sl_check_quay⟩) (cI_check_quay : PySem.W.codeIn K cd_check_quay "check_quay" = true) (kI_check_quay : PySem.W.keepIn K (.ref f_check_quay) = true)
    (a_is_row : PySem.W.nsIn K mainGlobals "is_row" = some (some (.ref f_is_row))) (l_is_row : K.lookup f_is_row = some ⟨oc_is_row, od_is_row, .func (PySem.W.fnOf "is_row" "is_row" (defArgs s_is_row) (defBody s_is_row) (defScope s_is_row) .none kV_is_row dc_is_row pm_is_row an_is_row cd_is_row ct_is_row), sl_is_row⟩) (cI_is_row : PySem.W.codeIn K cd_is_row "is_row" = true) (kI_is_row : PySem.W.keepIn K (.ref f_is_row) = true)
    (a_check_wishes : PySem.W.nsIn K mainGlobals "check_wishes" = some (some (.ref f_check_wishes))) (l_check_wishes : K.lookup f_check_wishes = some ⟨oc_check_wishes, od_check_wishes, .func (PySem.W.fnOf "check_wishes" "check_wishes" (defArgs s_check_wishes) (defBody s_check_wishes) (defScope s_check_wishes) .none kV_check_wishes dc_check_wishes pm_check_wishes an_check_wishes cd_check_wishes ct_check_wishes), sl_check_wishes⟩) (cI_check_wishes : PySem.W.codeIn K cd_check_wishes "check_wishes" = true) (kI_check_wishes : PySem.W.keepIn K (.ref f_check_wishes) = true)
    (a_first_free : PySem.W.nsIn K mainGlobals "first_free" = some (some (.ref f_first_free))) (l_first_free : K.lookup f_first_free = some ⟨oc_first_free, od_first_free, .func (PySem.W.fnOf "first_free" "first_free" (defArgs s_first_free) (defBody s_first_free) (defScope s_first_free) .none kV_first_free dc_first_free pm_first_free an_first_free cd_first_free ct_first_free), sl_first_free⟩) (cI_first_free : PySem.W.codeIn K cd_first_free "first_free" = true) (kI_first_free : PySem.W.keepIn K (.ref f_first_free) = true)
    (a_placed : PySem.W.nsIn K mainGlobals "placed" = some (some (.ref f_placed))) (l_placed : K.lookup f_placed = some ⟨oc_placed, od_placed, .func (PySem.W.fnOf "placed" "placed" (defArgs s_placed) (defBody s_placed) (defScope s_placed) .none kV_placed dc_placed pm_placed an_placed cd_placed ct_placed), sl_placed⟩) (cI_placed : PySem.W.codeIn K cd_placed "placed" = true) (kI_placed : PySem.W.keepIn K (.ref f_placed) = true)
    (a_taken : PySem.W.nsIn K mainGlobals "taken" = some (some (.ref f_taken))) (l_taken : K.lookup f_taken = some ⟨oc_taken, od_taken, .func (PySem.W.fnOf "taken" "taken" (defArgs s_taken) (defBody s_taken) (defScope s_taken) .none kV_taken dc_taken pm_taken an_taken cd_taken ct_taken), sl_taken⟩) (cI_taken : PySem.W.codeIn K cd_taken "taken" = true) (kI_taken : PySem.W.keepIn K (.ref f_taken) = true)
    (a_gone_on : PySem.W.nsIn K mainGlobals "gone_on" = some (some (.ref f_gone_on))) (l_gone_on : K.lookup f_gone_on = some ⟨oc_gone_on, od_gone_on, .func (PySem.W.fnOf "gone_on" "gone_on" (defArgs s_gone_on) (defBody s_gone_on) (defScope s_gone_on) .none kV_gone_on dc_gone_on pm_gone_on an_gone_on cd_gone_on ct_gone_on), sl_gone_on⟩) (cI_gone_on : PySem.W.codeIn K cd_gone_on "gone_on" = true) (kI_gone_on : PySem.W.keepIn K (.ref f_gone_on) = true)
    (a_crowded : PySem.W.nsIn K mainGlobals "crowded" = some (some (.ref f_crowded))) (l_crowded : K.lookup f_crowded = some ⟨oc_crowded, od_crowded, .func (PySem.W.fnOf "crowded" "crowded" (defArgs s_crowded) (defBody s_crowded) (defScope s_crowded) .none kV_crowded dc_crowded pm_crowded an_crowded cd_crowded ct_crowded), sl_crowded⟩) (cI_crowded : PySem.W.codeIn K cd_crowded "crowded" = true) (kI_crowded : PySem.W.keepIn K (.ref f_crowded) = true)
    (a_is_good : PySem.W.nsIn K mainGlobals "is_good" = some (some (.ref f_is_good))) (l_is_good : K.lookup f_is_good = some ⟨oc_is_good, od_is_good, .func (PySem.W.fnOf "is_good" "is_good" (defArgs s_is_good) (defBody s_is_good) (defScope s_is_good) .none kV_is_good dc_is_good pm_is_good an_is_good cd_is_good ct_is_good), sl_is_good⟩) (cI_is_good : PySem.W.codeIn K cd_is_good "is_good" = true) (kI_is_good : PySem.W.keepIn K (.ref f_is_good) = true)
    (a_first_free_round : PySem.W.nsIn K mainGlobals "first_free_round" = some (some (.ref f_first_free_round))) (l_first_free_round : K.lookup f_first_free_round = some ⟨oc_first_free_round, od_first_free_round, .func (PySem.W.fnOf "first_free_round" "first_free_round" (defArgs s_first_free_round) (defBody s_first_free_round) (defScope s_first_free_round) .none kV_first_free_round dc_first_free_round pm_first_free_round an_first_free_round cd_first_free_round ct_first_free_round), sl_first_free_round⟩) (cI_first_free_round : PySem.W.codeIn K cd_first_free_round "first_free_round" = true) (kI_first_free_round : PySem.W.keepIn K (.ref f_first_free_round) = true)
    (a_placed_round : PySem.W.nsIn K mainGlobals "placed_round" = some (some (.ref f_placed_round))) (l_placed_round : K.lookup f_placed_round = some ⟨oc_placed_round, od_placed_round, .func (PySem.W.fnOf "placed_round" "placed_round" (defArgs s_placed_round) (defBody s_placed_round) (defScope s_placed_round) .none kV_placed_round dc_placed_round pm_placed_round an_placed_round cd_placed_round ct_placed_round), sl_placed_round⟩) (cI_placed_round : PySem.W.codeIn K cd_placed_round "placed_round" = true) (kI_placed_round : PySem.W.keepIn K (.ref f_placed_round) = true)
    (a_left_over : PySem.W.nsIn K mainGlobals "left_over" = some (some (.ref f_left_over))) (l_left_over : K.lookup f_left_over = some ⟨oc_left_over, od_left_over, .func (PySem.W.fnOf "left_over" "left_over" (defArgs s_left_over) (defBody s_left_over) (defScope s_left_over) .none kV_left_over dc_left_over pm_left_over an_left_over cd_left_over ct_left_over), sl_left_over⟩) (cI_left_over : PySem.W.codeIn K cd_left_over "left_over" = true) (kI_left_over : PySem.W.keepIn K (.ref f_left_over) = true)
    (a_turned : PySem.W.nsIn K mainGlobals "turned" = some (some (.ref f_turned))) (l_turned : K.lookup f_turned = some ⟨oc_turned, od_turned, .func (PySem.W.fnOf "turned" "turned" (defArgs s_turned) (defBody s_turned) (defScope s_turned) .none kV_turned dc_turned pm_turned an_turned cd_turned ct_turned), sl_turned⟩) (cI_turned : PySem.W.codeIn K cd_turned "turned" = true) (kI_turned : PySem.W.keepIn K (.ref f_turned) = true)
    (a_turning : PySem.W.nsIn K mainGlobals "turning" = some (some (.ref f_turning))) (l_turning : K.lookup f_turning = some ⟨oc_turning, od_turning, .func (PySem.W.fnOf "turning" "turning" (defArgs s_turning) (defBody s_turning) (defScope s_turning) .none kV_turning dc_turning pm_turning an_turning cd_turning ct_turning), sl_turning⟩) (cI_turning : PySem.W.codeIn K cd_turning "turning" = true) (kI_turning : PySem.W.keepIn K (.ref f_turning) = true)
    (a_next_row : PySem.W.nsIn K mainGlobals "next_row" = some (some (.ref f_next_row))) (l_next_row : K.lookup f_next_row = some ⟨oc_next_row, od_next_row, .func (PySem.W.fnOf "next_row" "next_row" (defArgs s_next_row) (defBody s_next_row) (defScope s_next_row) .none kV_next_row dc_next_row pm_next_row an_next_row cd_next_row ct_next_row), sl_next_row⟩) (cI_next_row : PySem.W.codeIn K cd_next_row "next_row" = true) (kI_next_row : PySem.W.keepIn K (.ref f_next_row) = true)
    (a_l_asked : PySem.W.nsIn K mainGlobals "_law_asked" = some (some (.ref f_l_asked))) (l_l_asked : K.lookup f_l_asked = some ⟨oc_l_asked, od_l_asked, .func (PySem.W.fnOf "_law_asked" "_law_asked" (defArgs s_l_asked) (defBody s_l_asked) (defScope s_l_asked) .none kV_l_asked dc_l_asked pm_l_asked an_l_asked cd_l_asked ct_l_asked), sl_l_asked⟩) (cI_l_asked : PySem.W.codeIn K cd_l_asked "_law_asked" = true) (kI_l_asked : PySem.W.keepIn K (.ref f_l_asked) = true)
    (a_l_told : PySem.W.nsIn K mainGlobals "_law_told" = some (some (.ref f_l_told))) (l_l_told : K.lookup f_l_told = some ⟨oc_l_told, od_l_told, .func (PySem.W.fnOf "_law_told" "_law_told" (defArgs s_l_told) (defBody s_l_told) (defScope s_l_told) .none kV_l_told dc_l_told pm_l_told an_l_told cd_l_told ct_l_told), sl_l_told⟩) (cI_l_told : PySem.W.codeIn K cd_l_told "_law_told" = true) (kI_l_told : PySem.W.keepIn K (.ref f_l_told) = true)
    (a_l_odd : PySem.W.nsIn K mainGlobals "_law_odd" = some (some (.ref f_l_odd))) (l_l_odd : K.lookup f_l_odd = some ⟨oc_l_odd, od_l_odd, .func (PySem.W.fnOf "_law_odd" "_law_odd" (defArgs s_l_odd) (defBody s_l_odd) (defScope s_l_odd) .none kV_l_odd dc_l_odd pm_l_odd an_l_odd cd_l_odd ct_l_odd), sl_l_odd⟩) (cI_l_odd : PySem.W.codeIn K cd_l_odd "_law_odd" = true) (kI_l_odd : PySem.W.keepIn K (.ref f_l_odd) = true)
    (am_Q_init : PySem.W.findIn K (.ref c_Quay) "__init__" = some (some (.ref f_Q_init)))
    (im_Q_init : PySem.W.isFn K (.ref f_Q_init) = true)
    (l_Q_init : K.lookup f_Q_init = some ⟨oc_Q_init, od_Q_init, .func (PySem.W.fnOf "__init__" "Quay.__init__" (defArgs s_Q_init) (defBody s_Q_init) (defScope s_Q_init) .none kV_Q_init dc_Q_init pm_Q_init an_Q_init cd_Q_init ct_Q_init), sl_Q_init⟩)
    (cI_Q_init : PySem.W.codeIn K cd_Q_init "Quay.__init__" = true)
    (kI_Q_init : PySem.W.keepIn K (.ref f_Q_init) = true)
    (am_R_init : PySem.W.findIn K (.ref c_Round) "__init__" = some (some (.ref f_R_init)))
    (im_R_init : PySem.W.isFn K (.ref f_R_init) = true)
    (l_R_init : K.lookup f_R_init = some ⟨oc_R_init, od_R_init, .func (PySem.W.fnOf "__init__" "Round.__init__" (defArgs s_R_init) (defBody s_R_init) (defScope s_R_init) .none kV_R_init dc_R_init pm_R_init an_R_init cd_R_init ct_R_init), sl_R_init⟩)
    (cI_R_init : PySem.W.codeIn K cd_R_init "Round.__init__" = true)
    (kI_R_init : PySem.W.keepIn K (.ref f_R_init) = true)
    (a_l_no_quay : PySem.W.nsIn K mainGlobals "_law_no_quay" = some (some (.ref f_l_no_quay))) (l_l_no_quay : K.lookup f_l_no_quay = some ⟨oc_l_no_quay, od_l_no_quay, .func (PySem.W.fnOf "_law_no_quay" "_law_no_quay" (defArgs s_l_no_quay) (defBody s_l_no_quay) (defScope s_l_no_quay) .none kV_l_no_quay dc_l_no_quay pm_l_no_quay an_l_no_quay cd_l_no_quay ct_l_no_quay), sl_l_no_quay⟩) (cI_l_no_quay : PySem.W.codeIn K cd_l_no_quay "_law_no_quay" = true) (kI_l_no_quay : PySem.W.keepIn K (.ref f_l_no_quay) = true)
    (a_law : PySem.W.nsIn K mainGlobals "law" = some (some (.ref f_law))) (l_law : K.lookup f_law = some ⟨oc_law, od_law, .func (PySem.W.fnOf "law" "law" (defArgs s_law) (defBody s_law) (defScope s_law) .none kV_law dc_law pm_law an_law cd_law ct_law), sl_law⟩) (cI_law : PySem.W.codeIn K cd_law "law" = true) (kI_law : PySem.W.keepIn K (.ref f_law) = true)
    (rd_Quay : PySem.W.readsIn K c_Quay (.type "type") = true)
    (ga_Quay : PySem.W.specialIn K (.ref c_Quay) "__getattribute__" = some (some (.builtin "type.__getattribute__")))
    (fc_Quay : PySem.W.findCls K (.ref c_Quay) (.type "type") "__init__" = some (.val (.ref f_Q_init)))
    (z_int : PySem.W.nsIn K mainGlobals "int" = some none)
    (z_isinstance : PySem.W.nsIn K mainGlobals "isinstance" = some none)
    (z_len : PySem.W.nsIn K mainGlobals "len" = some none)
    (z_list : PySem.W.nsIn K mainGlobals "list" = some none)
    (z_min : PySem.W.nsIn K mainGlobals "min" = some none)
    (z_range : PySem.W.nsIn K mainGlobals "range" = some none)
    (z_reversed : PySem.W.nsIn K mainGlobals "reversed" = some none)
    (z_sorted : PySem.W.nsIn K mainGlobals "sorted" = some none)
    (z_sum : PySem.W.nsIn K mainGlobals "sum" = some none)
    (z_tuple : PySem.W.nsIn K mainGlobals "tuple" = some none)
    (z_type : PySem.W.nsIn K mainGlobals "type" = some none)
    (z_zip : PySem.W.nsIn K mainGlobals "zip" = some none)
    (y_MOST : PySem.W.nsIn K mainGlobals "MOST" = some (some (.int 400 t_MOST)))
    (y_LONGEST : PySem.W.nsIn K mainGlobals "LONGEST" = some (some (.int 8 t_LONGEST)))
    (xg_BerthError : PySem.W.nsIn K mainGlobals "BerthError" = some (some (.ref e_BerthError)))
    (xx_BerthError : PySem.W.excIn K e_BerthError [.type "ValueError", .type "Exception", .type "BaseException", .type "object"] "ValueError.__new__" = true)
    (xk_BerthError : PySem.W.keepIn K (.ref e_BerthError) = true)
    (xb_BerthError : PySem.W.subIn K (.ref e_BerthError) (.type "BaseException") = some true)
    (xt_BerthError : PySem.W.typeIn K (.ref e_BerthError) = some (.type "type"))
    (xg_NoCount : PySem.W.nsIn K mainGlobals "NoCount" = some (some (.ref e_NoCount)))
    (xx_NoCount : PySem.W.excIn K e_NoCount [.type "ValueError", .type "Exception", .type "BaseException", .type "object"] "ValueError.__new__" = true)
    (xk_NoCount : PySem.W.keepIn K (.ref e_NoCount) = true)
    (xb_NoCount : PySem.W.subIn K (.ref e_NoCount) (.type "BaseException") = some true)
    (xt_NoCount : PySem.W.typeIn K (.ref e_NoCount) = some (.type "type"))
    (xg_NoOrder : PySem.W.nsIn K mainGlobals "NoOrder" = some (some (.ref e_NoOrder)))
    (xx_NoOrder : PySem.W.excIn K e_NoOrder [.type "ValueError", .type "Exception", .type "BaseException", .type "object"] "ValueError.__new__" = true)
    (xk_NoOrder : PySem.W.keepIn K (.ref e_NoOrder) = true)
    (xb_NoOrder : PySem.W.subIn K (.ref e_NoOrder) (.type "BaseException") = some true)
    (xt_NoOrder : PySem.W.typeIn K (.ref e_NoOrder) = some (.type "type"))
    (xg_NoQuay : PySem.W.nsIn K mainGlobals "NoQuay" = some (some (.ref e_NoQuay)))
    (xx_NoQuay : PySem.W.excIn K e_NoQuay [.type "ValueError", .type "Exception", .type "BaseException", .type "object"] "ValueError.__new__" = true)
    (xk_NoQuay : PySem.W.keepIn K (.ref e_NoQuay) = true)
    (xb_NoQuay : PySem.W.subIn K (.ref e_NoQuay) (.type "BaseException") = some true)
    (xt_NoQuay : PySem.W.typeIn K (.ref e_NoQuay) = some (.type "type"))
    (xg_NoTree : PySem.W.nsIn K mainGlobals "NoTree" = some (some (.ref e_NoTree)))
    (xx_NoTree : PySem.W.excIn K e_NoTree [.type "ValueError", .type "Exception", .type "BaseException", .type "object"] "ValueError.__new__" = true)
    (xk_NoTree : PySem.W.keepIn K (.ref e_NoTree) = true)
    (xb_NoTree : PySem.W.subIn K (.ref e_NoTree) (.type "BaseException") = some true)
    (xt_NoTree : PySem.W.typeIn K (.ref e_NoTree) = some (.type "type"))
    (xg_NoWishes : PySem.W.nsIn K mainGlobals "NoWishes" = some (some (.ref e_NoWishes)))
    (xx_NoWishes : PySem.W.excIn K e_NoWishes [.type "ValueError", .type "Exception", .type "BaseException", .type "object"] "ValueError.__new__" = true)
    (xk_NoWishes : PySem.W.keepIn K (.ref e_NoWishes) = true)
    (xb_NoWishes : PySem.W.subIn K (.ref e_NoWishes) (.type "BaseException") = some true)
    (xt_NoWishes : PySem.W.typeIn K (.ref e_NoWishes) = some (.type "type"))
    (xg_TooMany : PySem.W.nsIn K mainGlobals "TooMany" = some (some (.ref e_TooMany)))
    (xx_TooMany : PySem.W.excIn K e_TooMany [.type "ValueError", .type "Exception", .type "BaseException", .type "object"] "ValueError.__new__" = true)
    (xk_TooMany : PySem.W.keepIn K (.ref e_TooMany) = true)
    (xb_TooMany : PySem.W.subIn K (.ref e_TooMany) (.type "BaseException") = some true)
    (xt_TooMany : PySem.W.typeIn K (.ref e_TooMany) = some (.type "type"))
    (v_hn : PySem.W.specialIn K (.builtin "object.__class__") "__get__" = some (some (.builtin "getset_descriptor.__get__")))
    (v_ht : PySem.W.takesIn K (.builtin "object.__class__") = some true)
    (vhg_BerthError : PySem.W.findIn K (.ref e_BerthError) "__getattribute__" = some (some (.builtin "BaseException.__getattribute__")))
    (vhk_BerthError : PySem.W.findIn K (.ref e_BerthError) "__getattr__" = some none)
    (vhs_BerthError : PySem.W.subIn K (.ref e_BerthError) (.type "BaseException") = some true)
    (vhd_BerthError : PySem.W.hasDictIn K e_BerthError = true)
    (vha_BerthError : PySem.W.findIn K (.ref e_BerthError) "__class__" = some (some (.builtin "object.__class__")))
    (vhm_BerthError : PySem.W.mroIn K e_BerthError (.type "object") = some true)
    (vty_BerthError : PySem.W.typeIn K (.ref e_BerthError) = some (.type "type"))
    (vse_BerthError : PySem.W.subIn K (.ref e_BerthError) (.ref e_BerthError) = some true)
    (vhg_NoOrder : PySem.W.findIn K (.ref e_NoOrder) "__getattribute__" = some (some (.builtin "BaseException.__getattribute__")))
    (vhk_NoOrder : PySem.W.findIn K (.ref e_NoOrder) "__getattr__" = some none)
    (vhs_NoOrder : PySem.W.subIn K (.ref e_NoOrder) (.type "BaseException") = some true)
    (vhd_NoOrder : PySem.W.hasDictIn K e_NoOrder = true)
    (vha_NoOrder : PySem.W.findIn K (.ref e_NoOrder) "__class__" = some (some (.builtin "object.__class__")))
    (vhm_NoOrder : PySem.W.mroIn K e_NoOrder (.type "object") = some true)
    (vty_NoOrder : PySem.W.typeIn K (.ref e_NoOrder) = some (.type "type"))
    (vse_NoOrder : PySem.W.subIn K (.ref e_NoOrder) (.ref e_NoOrder) = some true)
    (vhg_NoTree : PySem.W.findIn K (.ref e_NoTree) "__getattribute__" = some (some (.builtin "BaseException.__getattribute__")))
    (vhk_NoTree : PySem.W.findIn K (.ref e_NoTree) "__getattr__" = some none)
    (vhs_NoTree : PySem.W.subIn K (.ref e_NoTree) (.type "BaseException") = some true)
    (vhd_NoTree : PySem.W.hasDictIn K e_NoTree = true)
    (vha_NoTree : PySem.W.findIn K (.ref e_NoTree) "__class__" = some (some (.builtin "object.__class__")))
    (vhm_NoTree : PySem.W.mroIn K e_NoTree (.type "object") = some true)
    (vty_NoTree : PySem.W.typeIn K (.ref e_NoTree) = some (.type "type"))
    (vse_NoTree : PySem.W.subIn K (.ref e_NoTree) (.ref e_NoTree) = some true)
    (vhg_TooMany : PySem.W.findIn K (.ref e_TooMany) "__getattribute__" = some (some (.builtin "BaseException.__getattribute__")))
    (vhk_TooMany : PySem.W.findIn K (.ref e_TooMany) "__getattr__" = some none)
    (vhs_TooMany : PySem.W.subIn K (.ref e_TooMany) (.type "BaseException") = some true)
    (vhd_TooMany : PySem.W.hasDictIn K e_TooMany = true)
    (vha_TooMany : PySem.W.findIn K (.ref e_TooMany) "__class__" = some (some (.builtin "object.__class__")))
    (vhm_TooMany : PySem.W.mroIn K e_TooMany (.type "object") = some true)
    (vty_TooMany : PySem.W.typeIn K (.ref e_TooMany) = some (.type "type"))
    (vse_TooMany : PySem.W.subIn K (.ref e_TooMany) (.ref e_TooMany) = some true)
    (vhg_NoQuay : PySem.W.findIn K (.ref e_NoQuay) "__getattribute__" = some (some (.builtin "BaseException.__getattribute__")))
    (vhk_NoQuay : PySem.W.findIn K (.ref e_NoQuay) "__getattr__" = some none)
    (vhs_NoQuay : PySem.W.subIn K (.ref e_NoQuay) (.type "BaseException") = some true)
    (vhd_NoQuay : PySem.W.hasDictIn K e_NoQuay = true)
    (vha_NoQuay : PySem.W.findIn K (.ref e_NoQuay) "__class__" = some (some (.builtin "object.__class__")))
    (vhm_NoQuay : PySem.W.mroIn K e_NoQuay (.type "object") = some true)
    (vty_NoQuay : PySem.W.typeIn K (.ref e_NoQuay) = some (.type "type"))
    (vse_NoQuay : PySem.W.subIn K (.ref e_NoQuay) (.ref e_NoQuay) = some true)
    (vhg_NoWishes : PySem.W.findIn K (.ref e_NoWishes) "__getattribute__" = some (some (.builtin "BaseException.__getattribute__")))
    (vhk_NoWishes : PySem.W.findIn K (.ref e_NoWishes) "__getattr__" = some none)
    (vhs_NoWishes : PySem.W.subIn K (.ref e_NoWishes) (.type "BaseException") = some true)
    (vhd_NoWishes : PySem.W.hasDictIn K e_NoWishes = true)
    (vha_NoWishes : PySem.W.findIn K (.ref e_NoWishes) "__class__" = some (some (.builtin "object.__class__")))
    (vhm_NoWishes : PySem.W.mroIn K e_NoWishes (.type "object") = some true)
    (vty_NoWishes : PySem.W.typeIn K (.ref e_NoWishes) = some (.type "type"))
    (vse_NoWishes : PySem.W.subIn K (.ref e_NoWishes) (.ref e_NoWishes) = some true)
    (vhg_NoCount : PySem.W.findIn K (.ref e_NoCount) "__getattribute__" = some (some (.builtin "BaseException.__getattribute__")))
    (vhk_NoCount : PySem.W.findIn K (.ref e_NoCount) "__getattr__" = some none)
    (vhs_NoCount : PySem.W.subIn K (.ref e_NoCount) (.type "BaseException") = some true)
    (vhd_NoCount : PySem.W.hasDictIn K e_NoCount = true)
    (vha_NoCount : PySem.W.findIn K (.ref e_NoCount) "__class__" = some (some (.builtin "object.__class__")))
    (vhm_NoCount : PySem.W.mroIn K e_NoCount (.type "object") = some true)
    (vty_NoCount : PySem.W.typeIn K (.ref e_NoCount) = some (.type "type"))
    (vse_NoCount : PySem.W.subIn K (.ref e_NoCount) (.ref e_NoCount) = some true)
    (w_NoQuay_BerthError : PySem.W.subIn K (.ref e_NoQuay) (.ref e_BerthError) = some true)
    (w_NoQuay_NoOrder : PySem.W.subIn K (.ref e_NoQuay) (.ref e_NoOrder) = some false)
    (w_NoQuay_NoTree : PySem.W.subIn K (.ref e_NoQuay) (.ref e_NoTree) = some false)
    (w_NoQuay_TooMany : PySem.W.subIn K (.ref e_NoQuay) (.ref e_TooMany) = some false)
    (w_NoQuay_NoQuay : PySem.W.subIn K (.ref e_NoQuay) (.ref e_NoQuay) = some true)
    (w_NoQuay_NoWishes : PySem.W.subIn K (.ref e_NoQuay) (.ref e_NoWishes) = some false)
    (w_NoQuay_NoCount : PySem.W.subIn K (.ref e_NoQuay) (.ref e_NoCount) = some false)
    (w_NoWishes_BerthError : PySem.W.subIn K (.ref e_NoWishes) (.ref e_BerthError) = some true)
    (w_NoWishes_NoOrder : PySem.W.subIn K (.ref e_NoWishes) (.ref e_NoOrder) = some false)
    (w_NoWishes_NoTree : PySem.W.subIn K (.ref e_NoWishes) (.ref e_NoTree) = some false)
    (w_NoWishes_TooMany : PySem.W.subIn K (.ref e_NoWishes) (.ref e_TooMany) = some false)
    (w_NoWishes_NoQuay : PySem.W.subIn K (.ref e_NoWishes) (.ref e_NoQuay) = some false)
    (w_NoWishes_NoWishes : PySem.W.subIn K (.ref e_NoWishes) (.ref e_NoWishes) = some true)
    (w_NoWishes_NoCount : PySem.W.subIn K (.ref e_NoWishes) (.ref e_NoCount) = some false)
    (w_NoCount_BerthError : PySem.W.subIn K (.ref e_NoCount) (.ref e_BerthError) = some true)
    (w_NoCount_NoOrder : PySem.W.subIn K (.ref e_NoCount) (.ref e_NoOrder) = some false)
    (w_NoCount_NoTree : PySem.W.subIn K (.ref e_NoCount) (.ref e_NoTree) = some false)
    (w_NoCount_TooMany : PySem.W.subIn K (.ref e_NoCount) (.ref e_TooMany) = some false)
    (w_NoCount_NoQuay : PySem.W.subIn K (.ref e_NoCount) (.ref e_NoQuay) = some false)
    (w_NoCount_NoWishes : PySem.W.subIn K (.ref e_NoCount) (.ref e_NoWishes) = some false)
    (w_NoCount_NoCount : PySem.W.subIn K (.ref e_NoCount) (.ref e_NoCount) = some true)
    : ∃ fd : FuncData, (∀ (s : Shared) (v : Value), BindsTo s fd ⟨[v], []⟩ [("_law_script", v)]) ∧ ∀ base : Heap, K.In base → base.Ns mainGlobals mg → FnOk P w K mg base CX0 10 fa fd ["_law_script"] (sp_law K) := by
  have e := hfa.symm.trans (PySem.W.mg_of X G a_law)
  cases e
  have T : Txt K mg ({ f_l_cell_at := f_l_cell_at, f_l_mix := f_l_mix, f_l_word := f_l_word, f_is_number := f_is_number, f_is_from_to := f_is_from_to, f_check_quay := f_check_quay, f_is_row := f_is_row, f_check_wishes := f_check_wishes, f_first_free := f_first_free, f_placed := f_placed, f_taken := f_taken, f_gone_on := f_gone_on, f_crowded := f_crowded, f_is_good := f_is_good, f_first_free_round := f_first_free_round, f_placed_round := f_placed_round, f_left_over := f_left_over, f_turned := f_turned, f_turning := f_turning, f_next_row := f_next_row, f_l_asked := f_l_asked, f_l_told := f_l_told, f_l_odd := f_l_odd, f_Q_init := f_Q_init, f_R_init := f_R_init, f_l_no_quay := f_l_no_quay, e_BerthError := e_BerthError, e_NoCount := e_NoCount, e_NoOrder := e_NoOrder, e_NoQuay := e_NoQuay, e_NoTree := e_NoTree, e_NoWishes := e_NoWishes, e_TooMany := e_TooMany, c_Quay := c_Quay, c_Round := c_Round } : Ad) := ⟨trivial,
    PySem.W.mg_none_of X G z_int,
    PySem.W.mg_none_of X G z_isinstance,
    PySem.W.mg_none_of X G z_len,
    PySem.W.mg_none_of X G z_list,
    PySem.W.mg_none_of X G z_min,
    PySem.W.mg_none_of X G z_range,
    PySem.W.mg_none_of X G z_reversed,
    PySem.W.mg_none_of X G z_sorted,
    PySem.W.mg_none_of X G z_sum,
    PySem.W.mg_none_of X G z_tuple,
    PySem.W.mg_none_of X G z_type,
    PySem.W.mg_none_of X G z_zip,
    ⟨_, PySem.W.mg_of X G y_MOST, ⟨_, rfl⟩⟩,
    ⟨_, PySem.W.mg_of X G y_LONGEST, ⟨_, rfl⟩⟩,
    ⟨PySem.W.mg_of X G xg_BerthError, xx_BerthError, xk_BerthError, xb_BerthError, xt_BerthError⟩,
    ⟨PySem.W.mg_of X G xg_NoCount, xx_NoCount, xk_NoCount, xb_NoCount, xt_NoCount⟩,
    ⟨PySem.W.mg_of X G xg_NoOrder, xx_NoOrder, xk_NoOrder, xb_NoOrder, xt_NoOrder⟩,
    ⟨PySem.W.mg_of X G xg_NoQuay, xx_NoQuay, xk_NoQuay, xb_NoQuay, xt_NoQuay⟩,
    ⟨PySem.W.mg_of X G xg_NoTree, xx_NoTree, xk_NoTree, xb_NoTree, xt_NoTree⟩,
    ⟨PySem.W.mg_of X G xg_NoWishes, xx_NoWishes, xk_NoWishes, xb_NoWishes, xt_NoWishes⟩,
    ⟨PySem.W.mg_of X G xg_TooMany, xx_TooMany, xk_TooMany, xb_TooMany, xt_TooMany⟩,
    ⟨⟨vhg_BerthError, vhk_BerthError, vhs_BerthError, vhd_BerthError, vha_BerthError, v_hn, v_ht, vhm_BerthError⟩, vty_BerthError, vse_BerthError⟩,
    ⟨⟨vhg_NoOrder, vhk_NoOrder, vhs_NoOrder, vhd_NoOrder, vha_NoOrder, v_hn, v_ht, vhm_NoOrder⟩, vty_NoOrder, vse_NoOrder⟩,
    ⟨⟨vhg_NoTree, vhk_NoTree, vhs_NoTree, vhd_NoTree, vha_NoTree, v_hn, v_ht, vhm_NoTree⟩, vty_NoTree, vse_NoTree⟩,
    ⟨⟨vhg_TooMany, vhk_TooMany, vhs_TooMany, vhd_TooMany, vha_TooMany, v_hn, v_ht, vhm_TooMany⟩, vty_TooMany, vse_TooMany⟩,
    ⟨⟨vhg_NoQuay, vhk_NoQuay, vhs_NoQuay, vhd_NoQuay, vha_NoQuay, v_hn, v_ht, vhm_NoQuay⟩, vty_NoQuay, vse_NoQuay⟩,
    ⟨⟨vhg_NoWishes, vhk_NoWishes, vhs_NoWishes, vhd_NoWishes, vha_NoWishes, v_hn, v_ht, vhm_NoWishes⟩, vty_NoWishes, vse_NoWishes⟩,
    ⟨⟨vhg_NoCount, vhk_NoCount, vhs_NoCount, vhd_NoCount, vha_NoCount, v_hn, v_ht, vhm_NoCount⟩, vty_NoCount, vse_NoCount⟩,
    w_NoQuay_BerthError,
    w_NoQuay_NoOrder,
    w_NoQuay_NoTree,
    w_NoQuay_TooMany,
    w_NoQuay_NoQuay,
    w_NoQuay_NoWishes,
    w_NoQuay_NoCount,
    w_NoWishes_BerthError,
    w_NoWishes_NoOrder,
    w_NoWishes_NoTree,
    w_NoWishes_TooMany,
    w_NoWishes_NoQuay,
    w_NoWishes_NoWishes,
    w_NoWishes_NoCount,
    w_NoCount_BerthError,
    w_NoCount_NoOrder,
    w_NoCount_NoTree,
    w_NoCount_TooMany,
    w_NoCount_NoQuay,
    w_NoCount_NoWishes,
    w_NoCount_NoCount,
    (fun b => match b with | false => ⟨⟨pg_Quay, hd_Quay, po_Quay, sa_Quay⟩, nB_Quay, nS_Quay⟩ | true => ⟨⟨pg_Round, hd_Round, po_Round, sa_Round⟩, nB_Round, nS_Round⟩),
    ⟨mk_Quay, am_Q_init, im_Q_init, kc_Quay⟩,
    PySem.W.mg_of X G aC_Quay,
    ⟨mk_Round, am_R_init, im_R_init, kc_Round⟩,
    PySem.W.mg_of X G aC_Round,
    ⟨⟨rd_Quay, ga_Quay⟩, fc_Quay, kI_Q_init⟩⟩
  have D_l_cell_at : DF K mg "_law_cell_at" s_l_cell_at ["_law_script", "_law_k"] f_l_cell_at := df_mk (fun_mk (st := s_l_cell_at) l_l_cell_at cI_l_cell_at kI_l_cell_at) (fun _ _ _ _ _ _ us hl => match us, hl with | [_, _], _ => rfl) (PySem.W.mg_of X G a_l_cell_at)
  have D_l_mix : DF K mg "_law_mix" s_l_mix ["_law_state", "_law_cell"] f_l_mix := df_mk (fun_mk (st := s_l_mix) l_l_mix cI_l_mix kI_l_mix) (fun _ _ _ _ _ _ us hl => match us, hl with | [_, _], _ => rfl) (PySem.W.mg_of X G a_l_mix)
  have D_l_word : DF K mg "_law_word" s_l_word ["_law_e"] f_l_word := df_mk (fun_mk (st := s_l_word) l_l_word cI_l_word kI_l_word) (fun _ _ _ _ _ _ us hl => match us, hl with | [_], _ => rfl) (PySem.W.mg_of X G a_l_word)
  have D_is_number : DF K mg "is_number" s_is_number ["thing"] f_is_number := df_mk (fun_mk (st := s_is_number) l_is_number cI_is_number kI_is_number) (fun _ _ _ _ _ _ us hl => match us, hl with | [_], _ => rfl) (PySem.W.mg_of X G a_is_number)
  have D_is_from_to : DF K mg "is_from_to" s_is_from_to ["low", "high", "thing"] f_is_from_to := df_mk (fun_mk (st := s_is_from_to) l_is_from_to cI_is_from_to kI_is_from_to) (fun _ _ _ _ _ _ us hl => match us, hl with | [_, _, _], _ => rfl) (PySem.W.mg_of X G a_is_from_to)
  have D_check_quay : DF K mg "check_quay" s_check_quay ["berths"] f_check_quay := df_mk (fun_mk (st := s_check_quay) l_check_quay cI_check_quay kI_check_quay) (fun _ _ _ _ _ _ us hl => match us, hl with | [_], _ => rfl) (PySem.W.mg_of X G a_check_quay)
  have D_is_row : DF K mg "is_row" s_is_row ["thing"] f_is_row := df_mk (fun_mk (st := s_is_row) l_is_row cI_is_row kI_is_row) (fun _ _ _ _ _ _ us hl => match us, hl with | [_], _ => rfl) (PySem.W.mg_of X G a_is_row)
  have D_check_wishes : DF K mg "check_wishes" s_check_wishes ["berths", "wishes"] f_check_wishes := df_mk (fun_mk (st := s_check_wishes) l_check_wishes cI_check_wishes kI_check_wishes) (fun _ _ _ _ _ _ us hl => match us, hl with | [_, _], _ => rfl) (PySem.W.mg_of X G a_check_wishes)
  have D_first_free : DF K mg "first_free" s_first_free ["held", "wish"] f_first_free := df_mk (fun_mk (st := s_first_free) l_first_free cI_first_free kI_first_free) (fun _ _ _ _ _ _ us hl => match us, hl with | [_, _], _ => rfl) (PySem.W.mg_of X G a_first_free)
  have D_placed : DF K mg "placed" s_placed ["berths", "wishes"] f_placed := df_mk (fun_mk (st := s_placed) l_placed cI_placed kI_placed) (fun _ _ _ _ _ _ us hl => match us, hl with | [_, _], _ => rfl) (PySem.W.mg_of X G a_placed)
  have D_taken : DF K mg "taken" s_taken ["berths", "wishes"] f_taken := df_mk (fun_mk (st := s_taken) l_taken cI_taken kI_taken) (fun _ _ _ _ _ _ us hl => match us, hl with | [_, _], _ => rfl) (PySem.W.mg_of X G a_taken)
  have D_gone_on : DF K mg "gone_on" s_gone_on ["berths", "wishes"] f_gone_on := df_mk (fun_mk (st := s_gone_on) l_gone_on cI_gone_on kI_gone_on) (fun _ _ _ _ _ _ us hl => match us, hl with | [_, _], _ => rfl) (PySem.W.mg_of X G a_gone_on)
  have D_crowded : DF K mg "crowded" s_crowded ["berths", "wishes"] f_crowded := df_mk (fun_mk (st := s_crowded) l_crowded cI_crowded kI_crowded) (fun _ _ _ _ _ _ us hl => match us, hl with | [_, _], _ => rfl) (PySem.W.mg_of X G a_crowded)
  have D_is_good : DF K mg "is_good" s_is_good ["berths", "wishes"] f_is_good := df_mk (fun_mk (st := s_is_good) l_is_good cI_is_good kI_is_good) (fun _ _ _ _ _ _ us hl => match us, hl with | [_, _], _ => rfl) (PySem.W.mg_of X G a_is_good)
  have D_first_free_round : DF K mg "first_free_round" s_first_free_round ["held", "wish"] f_first_free_round := df_mk (fun_mk (st := s_first_free_round) l_first_free_round cI_first_free_round kI_first_free_round) (fun _ _ _ _ _ _ us hl => match us, hl with | [_, _], _ => rfl) (PySem.W.mg_of X G a_first_free_round)
  have D_placed_round : DF K mg "placed_round" s_placed_round ["berths", "wishes"] f_placed_round := df_mk (fun_mk (st := s_placed_round) l_placed_round cI_placed_round kI_placed_round) (fun _ _ _ _ _ _ us hl => match us, hl with | [_, _], _ => rfl) (PySem.W.mg_of X G a_placed_round)
  have D_left_over : DF K mg "left_over" s_left_over ["berths", "wishes"] f_left_over := df_mk (fun_mk (st := s_left_over) l_left_over cI_left_over kI_left_over) (fun _ _ _ _ _ _ us hl => match us, hl with | [_, _], _ => rfl) (PySem.W.mg_of X G a_left_over)
  have D_turned : DF K mg "turned" s_turned ["berths", "wishes", "by"] f_turned := df_mk (fun_mk (st := s_turned) l_turned cI_turned kI_turned) (fun _ _ _ _ _ _ us hl => match us, hl with | [_, _, _], _ => rfl) (PySem.W.mg_of X G a_turned)
  have D_turning : DF K mg "turning" s_turning ["berths", "wishes"] f_turning := df_mk (fun_mk (st := s_turning) l_turning cI_turning kI_turning) (fun _ _ _ _ _ _ us hl => match us, hl with | [_, _], _ => rfl) (PySem.W.mg_of X G a_turning)
  have D_next_row : DF K mg "next_row" s_next_row ["berths", "wishes"] f_next_row := df_mk (fun_mk (st := s_next_row) l_next_row cI_next_row kI_next_row) (fun _ _ _ _ _ _ us hl => match us, hl with | [_, _], _ => rfl) (PySem.W.mg_of X G a_next_row)
  have D_l_asked : DF K mg "_law_asked" s_l_asked ["_law_way", "_law_berths", "_law_wishes", "_law_by"] f_l_asked := df_mk (fun_mk (st := s_l_asked) l_l_asked cI_l_asked kI_l_asked) (fun _ _ _ _ _ _ us hl => match us, hl with | [_, _, _, _], _ => rfl) (PySem.W.mg_of X G a_l_asked)
  have D_l_told : DF K mg "_law_told" s_l_told ["_law_way", "_law_berths", "_law_wishes", "_law_by"] f_l_told := df_mk (fun_mk (st := s_l_told) l_l_told cI_l_told kI_l_told) (fun _ _ _ _ _ _ us hl => match us, hl with | [_, _, _, _], _ => rfl) (PySem.W.mg_of X G a_l_told)
  have D_l_odd : DF K mg "_law_odd" s_l_odd ["_law_berths", "_law_cell"] f_l_odd := df_mk (fun_mk (st := s_l_odd) l_l_odd cI_l_odd kI_l_odd) (fun _ _ _ _ _ _ us hl => match us, hl with | [_, _], _ => rfl) (PySem.W.mg_of X G a_l_odd)
  have F_Q_init := fun_mk (x := "__init__") (qual := "Quay.__init__") (st := s_Q_init) l_Q_init cI_Q_init kI_Q_init
  have D_Q_init : ∃ fd, Fun K "__init__" "Quay.__init__" s_Q_init f_Q_init fd ∧ Binds K fd ["self", "berths"] [] := ⟨_, F_Q_init, F_Q_init.binds (ps := ["self", "berths"]) (fun _ _ _ _ _ _ us hl => match us, hl with | [_, _], _ => rfl)⟩
  have F_R_init := fun_mk (x := "__init__") (qual := "Round.__init__") (st := s_R_init) l_R_init cI_R_init kI_R_init
  have D_R_init : ∃ fd, Fun K "__init__" "Round.__init__" s_R_init f_R_init fd ∧ Binds K fd ["self", "berths"] [] := ⟨_, F_R_init, F_R_init.binds (ps := ["self", "berths"]) (fun _ _ _ _ _ _ us hl => match us, hl with | [_, _], _ => rfl)⟩
  have D_l_no_quay : DF K mg "_law_no_quay" s_l_no_quay ["_law_berths"] f_l_no_quay := df_mk (fun_mk (st := s_l_no_quay) l_l_no_quay cI_l_no_quay kI_l_no_quay) (fun _ _ _ _ _ _ us hl => match us, hl with | [_], _ => rfl) (PySem.W.mg_of X G a_l_no_quay)
  refine ⟨PySem.W.fnOf "law" "law" (defArgs s_law) (defBody s_law) (defScope s_law) .none kV_law dc_law pm_law an_law cd_law ct_law, fun s v => .of_eq rfl, fun base _ _ => ?_⟩
  have g_l_cell_at := ok_l_cell_at (P := P) (w := w) (base := base) D_l_cell_at T
  have g_l_mix := ok_l_mix (P := P) (w := w) (base := base) D_l_mix T
  have g_l_word := ok_l_word (P := P) (w := w) (base := base) D_l_word T
  have g_is_number := ok_is_number (P := P) (w := w) (base := base) D_is_number T
  have g_is_from_to := ok_is_from_to (P := P) (w := w) (base := base) D_is_from_to T g_is_number
  have g_check_quay := ok_check_quay (P := P) (w := w) (base := base) D_check_quay T g_is_from_to
  have g_is_row := ok_is_row (P := P) (w := w) (base := base) D_is_row T
  have g_check_wishes := ok_check_wishes (P := P) (w := w) (base := base) D_check_wishes T g_is_from_to g_is_row g_check_quay
  have g_first_free := ok_first_free (P := P) (w := w) (base := base) D_first_free T
  have g_placed := ok_placed (P := P) (w := w) (base := base) D_placed T g_check_wishes g_first_free
  have g_taken := ok_taken (P := P) (w := w) (base := base) D_taken T g_placed
  have g_gone_on := ok_gone_on (P := P) (w := w) (base := base) D_gone_on T g_placed
  have g_crowded := ok_crowded (P := P) (w := w) (base := base) D_crowded T g_check_wishes
  have g_is_good := ok_is_good (P := P) (w := w) (base := base) D_is_good T g_crowded
  have g_first_free_round := ok_first_free_round (P := P) (w := w) (base := base) D_first_free_round T g_first_free
  have g_placed_round := ok_placed_round (P := P) (w := w) (base := base) D_placed_round T g_check_wishes g_first_free_round
  have g_left_over := ok_left_over (P := P) (w := w) (base := base) D_left_over T g_placed_round
  have g_turned := ok_turned (P := P) (w := w) (base := base) D_turned T g_is_number g_check_wishes
  have g_turning := ok_turning (P := P) (w := w) (base := base) D_turning T g_check_wishes g_left_over
  have g_next_row := ok_next_row (P := P) (w := w) (base := base) D_next_row T g_is_good
  have g_l_asked := ok_l_asked (P := P) (w := w) (base := base) D_l_asked T g_placed g_taken g_gone_on g_is_good g_crowded g_placed_round g_left_over g_turned g_turning g_next_row
  have g_l_told := ok_l_told (P := P) (w := w) (base := base) D_l_told T g_l_asked g_l_word
  have g_l_odd := ok_l_odd (P := P) (w := w) (base := base) D_l_odd T
  have M_Q_init := fun b => ok_Q_init (P := P) (w := w) (base := base) b D_Q_init T g_check_quay
  have G_Q_init := M_Q_init
  have M_R_init := ok_R_init (P := P) (w := w) (base := base) D_R_init T G_Q_init
  have G_R_init := M_R_init
  have g_l_no_quay := ok_l_no_quay (P := P) (w := w) (base := base) D_l_no_quay T G_Q_init G_R_init g_l_word
  exact ok_law (fun_mk (st := s_law) l_law cI_law kI_law) T g_l_cell_at g_l_mix g_l_told g_l_odd g_l_no_quay
end Br
open PySem PySem.W PyProof.Rows
set_option maxHeartbeats 0 in
theorem PySem.Challenge.cw_berthrow_k14_wishes_refused_holds : PySem.Challenge.rw_berthrow_k14_wishes_refused.Holds := by
  w_on; o_law; k_head; (case hw => w_witness2)
  k_fill
  refine L2.walk_of (l := PySem.Challenge.rw_berthrow_k14_wishes_refused) (n := 63) (k := 10) (x := "_law_script") (CX := fun _ => L2.CX0) (sp := fun w => Br.sp_law _) rfl (by decide) rfl ⟨rfl, by decide, by decide⟩ (fun w h Y => PySem.W.kIn_of Y) ?F (fun _ _ a ns hl _ hS => ⟨a, ns, rfl, hS, hl, fun _ => rfl⟩) (fun _ _ _ _ _ h => h)
  case F =>
    intro w mg fa h KX G hmg
    refine' Br.all_mk KX G hmg ?aC_Quay ?pg_Quay ?hd_Quay ?po_Quay ?sa_Quay ?mk_Quay ?kc_Quay ?nB_Quay ?nS_Quay ?aC_Round ?pg_Round ?hd_Round ?po_Round ?sa_Round ?mk_Round ?kc_Round ?nB_Round ?nS_Round ?a_l_cell_at ?l_l_cell_at ?cI_l_cell_at ?kI_l_cell_at ?a_l_mix ?l_l_mix ?cI_l_mix ?kI_l_mix ?a_l_word ?l_l_word ?cI_l_word ?kI_l_word ?a_is_number ?l_is_number ?cI_is_number ?kI_is_number ?a_is_from_to ?l_is_from_to ?cI_is_from_to ?kI_is_from_to ?a_check_quay ?l_check_quay ?cI_check_quay ?kI_check_quay ?a_is_row ?l_is_row ?cI_is_row ?kI_is_row ?a_check_wishes ?l_check_wishes ?cI_check_wishes ?kI_check_wishes ?a_first_free ?l_first_free ?cI_first_free ?kI_first_free ?a_placed ?l_placed ?cI_placed ?kI_placed ?a_taken ?l_taken ?cI_taken ?kI_taken ?a_gone_on ?l_gone_on ?cI_gone_on ?kI_gone_on ?a_crowded ?l_crowded ?cI_crowded ?kI_crowded ?a_is_good ?l_is_good ?cI_is_good ?kI_is_good ?a_first_free_round ?l_first_free_round ?cI_first_free_round ?kI_first_free_round ?a_placed_round ?l_placed_round ?cI_placed_round ?kI_placed_round ?a_left_over ?l_left_over ?cI_left_over ?kI_left_over ?a_turned ?l_turned ?cI_turned ?kI_turned ?a_turning ?l_turning ?cI_turning ?kI_turning ?a_next_row ?l_next_row ?cI_next_row ?kI_next_row ?a_l_asked ?l_l_asked ?cI_l_asked ?kI_l_asked ?a_l_told ?l_l_told ?cI_l_told ?kI_l_told ?a_l_odd ?l_l_odd ?cI_l_odd ?kI_l_odd ?am_Q_init ?im_Q_init ?l_Q_init ?cI_Q_init ?kI_Q_init ?am_R_init ?im_R_init ?l_R_init ?cI_R_init ?kI_R_init ?a_l_no_quay ?l_l_no_quay ?cI_l_no_quay ?kI_l_no_quay ?a_law ?l_law ?cI_law ?kI_law ?rd_Quay ?ga_Quay ?fc_Quay ?z_int ?z_isinstance ?z_len ?z_list ?z_min ?z_range ?z_reversed ?z_sorted ?z_sum ?z_tuple ?z_type ?z_zip ?y_MOST ?y_LONGEST ?xg_BerthError ?xx_BerthError ?xk_BerthError ?xb_BerthError ?xt_BerthError ?xg_NoCount ?xx_NoCount ?xk_NoCount ?xb_NoCount ?xt_NoCount ?xg_NoOrder ?xx_NoOrder ?xk_NoOrder ?xb_NoOrder ?xt_NoOrder ?xg_NoQuay ?xx_NoQuay ?xk_NoQuay ?xb_NoQuay ?xt_NoQuay ?xg_NoTree ?xx_NoTree ?xk_NoTree ?xb_NoTree ?xt_NoTree ?xg_NoWishes ?xx_NoWishes ?xk_NoWishes ?xb_NoWishes ?xt_NoWishes ?xg_TooMany ?xx_TooMany ?xk_TooMany ?xb_TooMany ?xt_TooMany ?v_hn ?v_ht ?vhg_BerthError ?vhk_BerthError ?vhs_BerthError ?vhd_BerthError ?vha_BerthError ?vhm_BerthError ?vty_BerthError ?vse_BerthError ?vhg_NoOrder ?vhk_NoOrder ?vhs_NoOrder ?vhd_NoOrder ?vha_NoOrder ?vhm_NoOrder ?vty_NoOrder ?vse_NoOrder ?vhg_NoTree ?vhk_NoTree ?vhs_NoTree ?vhd_NoTree ?vha_NoTree ?vhm_NoTree ?vty_NoTree ?vse_NoTree ?vhg_TooMany ?vhk_TooMany ?vhs_TooMany ?vhd_TooMany ?vha_TooMany ?vhm_TooMany ?vty_TooMany ?vse_TooMany ?vhg_NoQuay ?vhk_NoQuay ?vhs_NoQuay ?vhd_NoQuay ?vha_NoQuay ?vhm_NoQuay ?vty_NoQuay ?vse_NoQuay ?vhg_NoWishes ?vhk_NoWishes ?vhs_NoWishes ?vhd_NoWishes ?vha_NoWishes ?vhm_NoWishes ?vty_NoWishes ?vse_NoWishes ?vhg_NoCount ?vhk_NoCount ?vhs_NoCount ?vhd_NoCount ?vha_NoCount ?vhm_NoCount ?vty_NoCount ?vse_NoCount ?w_NoQuay_BerthError ?w_NoQuay_NoOrder ?w_NoQuay_NoTree ?w_NoQuay_TooMany ?w_NoQuay_NoQuay ?w_NoQuay_NoWishes ?w_NoQuay_NoCount ?w_NoWishes_BerthError ?w_NoWishes_NoOrder ?w_NoWishes_NoTree ?w_NoWishes_TooMany ?w_NoWishes_NoQuay ?w_NoWishes_NoWishes ?w_NoWishes_NoCount ?w_NoCount_BerthError ?w_NoCount_NoOrder ?w_NoCount_NoTree ?w_NoCount_TooMany ?w_NoCount_NoQuay ?w_NoCount_NoWishes ?w_NoCount_NoCount
    (case aC_Quay => k_is)
    (case pg_Quay => k_is)
    (case hd_Quay => k_is)
    (case po_Quay => k_is)
    (case sa_Quay => k_is)
    (case mk_Quay => k_is)
    (case kc_Quay => k_is)
    (case nB_Quay => k_is)
    (case nS_Quay => k_is)
    (case aC_Round => k_is)
    (case pg_Round => k_is)
    (case hd_Round => k_is)
    (case po_Round => k_is)
    (case sa_Round => k_is)
    (case mk_Round => k_is)
    (case kc_Round => k_is)
    (case nB_Round => k_is)
    (case nS_Round => k_is)
    (case a_l_cell_at => k_is)
    (case l_l_cell_at => k_is)
    (case cI_l_cell_at => k_is)
    (case kI_l_cell_at => k_is)
    (case a_l_mix => k_is)
    (case l_l_mix => k_is)
    (case cI_l_mix => k_is)
    (case kI_l_mix => k_is)
    (case a_l_word => k_is)
    (case l_l_word => k_is)
    (case cI_l_word => k_is)
    (case kI_l_word => k_is)
    (case a_is_number => k_is)
    (case l_is_number => k_is)
    (case cI_is_number => k_is)
    (case kI_is_number => k_is)
    (case a_is_from_to => k_is)
    (case l_is_from_to => k_is)
    (case cI_is_from_to => k_is)
    (case kI_is_from_to => k_is)
    (case a_check_quay => k_is)
    (case l_check_quay => k_is)
    (case cI_check_quay => k_is)
    (case kI_check_quay => k_is)
    (case a_is_row => k_is)
    (case l_is_row => k_is)
    (case cI_is_row => k_is)
    (case kI_is_row => k_is)
    (case a_check_wishes => k_is)
    (case l_check_wishes => k_is)
    (case cI_check_wishes => k_is)
    (case kI_check_wishes => k_is)
    (case a_first_free => k_is)
    (case l_first_free => k_is)
    (case cI_first_free => k_is)
    (case kI_first_free => k_is)
    (case a_placed => k_is)
    (case l_placed => k_is)
    (case cI_placed => k_is)
    (case kI_placed => k_is)
    (case a_taken => k_is)
    (case l_taken => k_is)
    (case cI_taken => k_is)
    (case kI_taken => k_is)
    (case a_gone_on => k_is)
    (case l_gone_on => k_is)
    (case cI_gone_on => k_is)
    (case kI_gone_on => k_is)
    (case a_crowded => k_is)
    (case l_crowded => k_is)
    (case cI_crowded => k_is)
    (case kI_crowded => k_is)
    (case a_is_good => k_is)
    (case l_is_good => k_is)
    (case cI_is_good => k_is)
    (case kI_is_good => k_is)
    (case a_first_free_round => k_is)
    (case l_first_free_round => k_is)
    (case cI_first_free_round => k_is)
    (case kI_first_free_round => k_is)
    (case a_placed_round => k_is)
    (case l_placed_round => k_is)
    (case cI_placed_round => k_is)
    (case kI_placed_round => k_is)
    (case a_left_over => k_is)
    (case l_left_over => k_is)
    (case cI_left_over => k_is)
    (case kI_left_over => k_is)
    (case a_turned => k_is)
    (case l_turned => k_is)
    (case cI_turned => k_is)
    (case kI_turned => k_is)
    (case a_turning => k_is)
    (case l_turning => k_is)
    (case cI_turning => k_is)
    (case kI_turning => k_is)
    (case a_next_row => k_is)
    (case l_next_row => k_is)
    (case cI_next_row => k_is)
    (case kI_next_row => k_is)
    (case a_l_asked => k_is)
    (case l_l_asked => k_is)
    (case cI_l_asked => k_is)
    (case kI_l_asked => k_is)
    (case a_l_told => k_is)
    (case l_l_told => k_is)
    (case cI_l_told => k_is)
    (case kI_l_told => k_is)
    (case a_l_odd => k_is)
    (case l_l_odd => k_is)
    (case cI_l_odd => k_is)
    (case kI_l_odd => k_is)
    (case am_Q_init => k_is)
    (case im_Q_init => k_is)
    (case l_Q_init => k_is)
    (case cI_Q_init => k_is)
    (case kI_Q_init => k_is)
    (case am_R_init => k_is)
    (case im_R_init => k_is)
    (case l_R_init => k_is)
    (case cI_R_init => k_is)
    (case kI_R_init => k_is)
    (case a_l_no_quay => k_is)
    (case l_l_no_quay => k_is)
    (case cI_l_no_quay => k_is)
    (case kI_l_no_quay => k_is)
    (case a_law => k_is)
    (case l_law => k_is)
    (case cI_law => k_is)
    (case kI_law => k_is)
    (case rd_Quay => k_is)
    (case ga_Quay => k_is)
    (case fc_Quay => k_is)
    (case z_int => k_is)
    (case z_isinstance => k_is)
    (case z_len => k_is)
    (case z_list => k_is)
    (case z_min => k_is)
    (case z_range => k_is)
    (case z_reversed => k_is)
    (case z_sorted => k_is)
    (case z_sum => k_is)
    (case z_tuple => k_is)
    (case z_type => k_is)
    (case z_zip => k_is)
    (case y_MOST => k_is)
    (case y_LONGEST => k_is)
    (case xg_BerthError => k_is)
    (case xx_BerthError => k_exc)
    (case xk_BerthError => k_is)
    (case xb_BerthError => k_is)
    (case xt_BerthError => k_is)
    (case xg_NoCount => k_is)
    (case xx_NoCount => k_exc)
    (case xk_NoCount => k_is)
    (case xb_NoCount => k_is)
    (case xt_NoCount => k_is)
    (case xg_NoOrder => k_is)
    (case xx_NoOrder => k_exc)
    (case xk_NoOrder => k_is)
    (case xb_NoOrder => k_is)
    (case xt_NoOrder => k_is)
    (case xg_NoQuay => k_is)
    (case xx_NoQuay => k_exc)
    (case xk_NoQuay => k_is)
    (case xb_NoQuay => k_is)
    (case xt_NoQuay => k_is)
    (case xg_NoTree => k_is)
    (case xx_NoTree => k_exc)
    (case xk_NoTree => k_is)
    (case xb_NoTree => k_is)
    (case xt_NoTree => k_is)
    (case xg_NoWishes => k_is)
    (case xx_NoWishes => k_exc)
    (case xk_NoWishes => k_is)
    (case xb_NoWishes => k_is)
    (case xt_NoWishes => k_is)
    (case xg_TooMany => k_is)
    (case xx_TooMany => k_exc)
    (case xk_TooMany => k_is)
    (case xb_TooMany => k_is)
    (case xt_TooMany => k_is)
    (case v_hn => k_is)
    (case v_ht => k_is)
    (case vhg_BerthError => k_is)
    (case vhk_BerthError => k_is)
    (case vhs_BerthError => k_is)
    (case vhd_BerthError => k_is)
    (case vha_BerthError => k_is)
    (case vhm_BerthError => k_is)
    (case vty_BerthError => k_is)
    (case vse_BerthError => k_is)
    (case vhg_NoOrder => k_is)
    (case vhk_NoOrder => k_is)
    (case vhs_NoOrder => k_is)
    (case vhd_NoOrder => k_is)
    (case vha_NoOrder => k_is)
    (case vhm_NoOrder => k_is)
    (case vty_NoOrder => k_is)
    (case vse_NoOrder => k_is)
    (case vhg_NoTree => k_is)
    (case vhk_NoTree => k_is)
    (case vhs_NoTree => k_is)
    (case vhd_NoTree => k_is)
    (case vha_NoTree => k_is)
    (case vhm_NoTree => k_is)
    (case vty_NoTree => k_is)
    (case vse_NoTree => k_is)
    (case vhg_TooMany => k_is)
    (case vhk_TooMany => k_is)
    (case vhs_TooMany => k_is)
    (case vhd_TooMany => k_is)
    (case vha_TooMany => k_is)
    (case vhm_TooMany => k_is)
    (case vty_TooMany => k_is)
    (case vse_TooMany => k_is)
    (case vhg_NoQuay => k_is)
    (case vhk_NoQuay => k_is)
    (case vhs_NoQuay => k_is)
    (case vhd_NoQuay => k_is)
    (case vha_NoQuay => k_is)
    (case vhm_NoQuay => k_is)
    (case vty_NoQuay => k_is)
    (case vse_NoQuay => k_is)
    (case vhg_NoWishes => k_is)
    (case vhk_NoWishes => k_is)
    (case vhs_NoWishes => k_is)
    (case vhd_NoWishes => k_is)
    (case vha_NoWishes => k_is)
    (case vhm_NoWishes => k_is)
    (case vty_NoWishes => k_is)
    (case vse_NoWishes => k_is)
    (case vhg_NoCount => k_is)
    (case vhk_NoCount => k_is)
    (case vhs_NoCount => k_is)
    (case vhd_NoCount => k_is)
    (case vha_NoCount => k_is)
    (case vhm_NoCount => k_is)
    (case vty_NoCount => k_is)
    (case vse_NoCount => k_is)
    (case w_NoQuay_BerthError => k_is)
    (case w_NoQuay_NoOrder => k_is)
    (case w_NoQuay_NoTree => k_is)
    (case w_NoQuay_TooMany => k_is)
    (case w_NoQuay_NoQuay => k_is)
    (case w_NoQuay_NoWishes => k_is)
    (case w_NoQuay_NoCount => k_is)
    (case w_NoWishes_BerthError => k_is)
    (case w_NoWishes_NoOrder => k_is)
    (case w_NoWishes_NoTree => k_is)
    (case w_NoWishes_TooMany => k_is)
    (case w_NoWishes_NoQuay => k_is)
    (case w_NoWishes_NoWishes => k_is)
    (case w_NoWishes_NoCount => k_is)
    (case w_NoCount_BerthError => k_is)
    (case w_NoCount_NoOrder => k_is)
    (case w_NoCount_NoTree => k_is)
    (case w_NoCount_TooMany => k_is)
    (case w_NoCount_NoQuay => k_is)
    (case w_NoCount_NoWishes => k_is)
    (case w_NoCount_NoCount => k_is)

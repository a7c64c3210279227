import PyProof.Rows.All
import Wide.All
import OpenK.AllK
import Wide.FinOn
import HandS.ForMost
import HandS.ForExc
import HandS.Evl
import HandS.IsInst
import HandS.FStr
import HandS.RaiseMore
import HandS.More
import HandS.Conv
import PySem.Challenge.RW_shortlimit_k01_places_counted
set_option Elab.async false
set_option linter.all false
set_option maxRecDepth 100000
set_option maxHeartbeats 4000000
/-! ### own words over the hand layer: what more evaluates, and a search along a reading -/
namespace Sl
open PySem L2 Evl
theorem et_yes {σ : L2.St} {H : Hp} : EvT tYes σ H true := fun H1 _ _ q => q H1 (Ex.refl H1)
theorem ex_of {H H' : Hp} (e : Same H H') : Ex H H' := e
section
variable {K : PySem.W.Frag} {σ : L2.St} {H H' : Hp} {ta tb te tx tc : TE} {t u : TT} {x y z v : V}
/-- two lists joined: both operands new -/
theorem el_cat {xs ys : List V} (ha : EvL ta σ H xs) (hb : EvL tb σ H ys) (hl : xs.length + ys.length ≤ 100000) : EvL (tOp rCat ta tb) σ H (xs ++ ys) := fun H1 e Q q =>
  ha H1 e _ fun p H2 hp e2 h2 => hb H2 (e.trans e2) _ fun r H3 hr e3 h3 =>
    ⟨p, r, xs, ys, rfl, rfl, e3 p _ h2, h3, sz_of hl, fun l hl' => q l _ (fresh_back e2 (fresh_back e3 hl')) ((e2.trans e3).trans (Ex.new hl')) upd_same⟩
/-- a list of one repeated -/
theorem el_rep {xs : List V} {n : Nat} (ha : EvL ta σ H xs) (hb : Ev tb σ H (.int (n : Int))) (hl : xs.length * n ≤ 100000) (hn : n ≤ 100000) : EvL (tOp rRep ta tb) σ H (List.replicate n xs).flatten := fun H1 e Q q =>
  ha H1 e _ fun p H2 hp e2 h2 => hb H2 (e.trans e2) _ fun H3 e3 =>
    ⟨p, (n : Int), xs, rfl, rfl, e3 p _ h2, by omega, by omega, sz_of (by simpa using hl), fun l hl' => q l _ (fresh_back e2 (fresh_back e3 hl')) ((e2.trans e3).trans (Ex.new hl')) (by rw [upd_same]; simp)⟩
/-- a slice of a new list -/
theorem el_slN {xs : List V} {tl th : TO} {lo hi : Option Int} (h : EvL te σ H xs) (h1 : EvO tl σ H lo) (h2 : EvO th σ H hi) : EvL (tSl (rSlL K) te tl th) σ H (cutV xs lo hi) := fun H1 e Q q =>
  h H1 e _ fun a H2 ha e2 hx => h1 H2 (e.trans e2) _ fun H3 e3 => h2 H3 ((e.trans e2).trans e3) _ fun H4 e4 =>
    ⟨a, xs, rfl, sq_of (e4 a _ (e3 a _ hx)), fun p hp => q p _ (fresh_back ((e2.trans e3).trans e4) hp) (((e2.trans e3).trans e4).trans (Ex.new hp)) upd_same⟩
/-- a chain of two comparisons of whole numbers -/
theorem ev_chain {g g' : Int → Int → Bool} {i j k : Int} (ha : Ev ta σ H (.int i)) (hb : Ev tb σ H (.int j)) (hc : Ev tc σ H (.int k)) :
    Ev (tChain (rI0 fun i j => .bl (g i j)) (rI0 fun i j => .bl (g' i j)) ta tb tc) σ H (.bl (g i j && g' j k)) := fun H1 e Q q =>
  ha H1 e _ fun H2 e2 => hb H2 (e.trans e2) _ fun H3 e3 => ⟨i, j, rfl, rfl, g i j, rfl, by
    cases hg : g i j with
    | true =>
      rw [hg, Bool.true_and] at q
      show tc σ H3 _
      exact hc H3 ((e.trans e2).trans e3) _ fun H4 e4 => ⟨j, k, rfl, rfl, q H4 ((e2.trans e3).trans e4)⟩
    | false =>
      rw [hg, Bool.false_and] at q
      show Q (.bl false) H3
      exact q H3 (e2.trans e3)⟩
theorem ev_sum {ns : List Int} (h : EvL ta σ H (ns.map V.int)) : Ev (tCB (rSum K) (tCons ta tNil)) σ H (.int ns.sum) := fun H1 e Q q =>
  h H1 e _ fun a H2 _ e2 hx => ⟨a, ns, rfl, sq_of hx, q H2 e2⟩
theorem cutV_from1 (xs : List V) : cutV xs (some 1) none = xs.drop 1 := by
  unfold cutV
  rw [show HT.sIx xs.length 0 (some 1) = min 1 xs.length from HT.sIx_nat xs.length 0 1, HT.sIx_none]
  cases xs with
  | nil => rfl
  | cons x r =>
    simp
theorem cutV_to (xs : List V) (n : Nat) : cutV xs none (some (n : Int)) = xs.take n := by
  unfold cutV
  rw [HT.sIx_none, show HT.sIx xs.length xs.length (some (n : Int)) = min n xs.length from HT.sIx_nat xs.length _ n]
  simp
end
/-! ### what a thing handed in may be -/
def Thing (H : Hp) (x : V) : Prop := x = .non ∨ (∃ b, x = .bl b) ∨ (∃ i, x = .int i) ∨ (∃ s, x = .str s) ∨ ∃ a xs, x = .ref a ∧ (H a = some (.lst xs) ∨ H a = some (.tup xs))
theorem Thing.mono {H H' : Hp} {x : V} (e : Ex H H') (h : Thing H x) : Thing H' x := by
  rcases h with h | h | h | h | ⟨a, xs, h, g⟩
  · exact .inl h
  · exact .inr (.inl h)
  · exact .inr (.inr (.inl h))
  · exact .inr (.inr (.inr (.inl h)))
  · exact .inr (.inr (.inr (.inr ⟨a, xs, h, g.elim (fun g => .inl (e _ _ g)) fun g => .inr (e _ _ g)⟩)))
theorem Thing.int {H : Hp} (i : Int) : Thing H (.int i) := .inr (.inr (.inl ⟨i, rfl⟩))
def isBl : V → Bool
  | .bl _ => true
  | _ => false
def isNum : V → Bool
  | .bl _ => true
  | .int _ => true
  | _ => false
/-- a whole number from lo to hi -/
def within (lo hi : Int) : V → Bool
  | .int i => decide (lo ≤ i) && decide (i ≤ hi)
  | _ => false
theorem Thing.isi_bool {K : PySem.W.Frag} {H : Hp} {x : V} (h : Thing H x) : ∃ t, TyX K H x (.type t) ∧ PySem.W.kitOne K (.type t) (.type "bool") = some (isBl x) ∧ PySem.W.kitOne K (.type t) (.type "int") = some (isNum x) := by
  rcases h with rfl | ⟨b, rfl⟩ | ⟨i, rfl⟩ | ⟨s, rfl⟩ | ⟨a, xs, rfl, g | g⟩
  · exact ⟨_, .base .non, kit_ty (show kitB "NoneType" "bool" = some false by decide +kernel), kit_ty (show kitB "NoneType" "int" = some false by decide +kernel)⟩
  · exact ⟨_, .base (.bl _), kit_ty (show kitB "bool" "bool" = some true by decide +kernel), kit_ty (show kitB "bool" "int" = some true by decide +kernel)⟩
  · exact ⟨_, .base (.int _), kit_ty (show kitB "int" "bool" = some false by decide +kernel), kit_ty (show kitB "int" "int" = some true by decide +kernel)⟩
  · exact ⟨_, .base (.str _), kit_ty (show kitB "str" "bool" = some false by decide +kernel), kit_ty (show kitB "str" "int" = some false by decide +kernel)⟩
  · exact ⟨_, .base (.lst g), kit_ty (show kitB "list" "bool" = some false by decide +kernel), kit_ty (show kitB "list" "int" = some false by decide +kernel)⟩
  · exact ⟨_, .base (.tup g), kit_ty (show kitB "tuple" "bool" = some false by decide +kernel), kit_ty (show kitB "tuple" "int" = some false by decide +kernel)⟩
section
variable {K : PySem.W.Frag} {σ : L2.St} {H H' : Hp} {te : TE} {x : V}
theorem ev_isBool (h : Ev te σ H x) (k : Thing H x) : Ev (tCB (rIsi K) (tCons te (tCons (tC (.ty "bool")) tNil))) σ H (.bl (isBl x)) := fun H1 e Q q =>
  h H1 e _ fun H2 e2 => by
    obtain ⟨t, h1, h2, _⟩ := (k.mono (e.trans e2)).isi_bool (K := K)
    exact ⟨x, .ty "bool", _, _, _, rfl, .ty _, h1, h2, q H2 e2⟩
theorem ev_isInt (h : Ev te σ H x) (k : Thing H x) : Ev (tCB (rIsi K) (tCons te (tCons (tC (.ty "int")) tNil))) σ H (.bl (isNum x)) := fun H1 e Q q =>
  h H1 e _ fun H2 e2 => by
    obtain ⟨t, h1, _, h2⟩ := (k.mono (e.trans e2)).isi_bool (K := K)
    exact ⟨x, .ty "int", _, _, _, rfl, .ty _, h1, h2, q H2 e2⟩
end
/-! ### data compared -/
section
variable {K : PySem.W.Frag} {σ : L2.St} {H H' : Hp} {ta tb : TE} {x y : V}
theorem lay_all {n : Nat} : ∀ {xs : List PyData}, (∀ d ∈ xs, d.canLay0 = true ∧ d.depth ≤ n) → PyData.canLayAll0 xs = true ∧ PyData.depthAll xs ≤ n
  | [], _ => ⟨rfl, Nat.zero_le _⟩
  | d :: r, h => by
    have h1 := h d List.mem_cons_self
    have h2 := lay_all fun z hz => h z (List.mem_cons_of_mem _ hz)
    refine ⟨?_, ?_⟩
    · unfold PyData.canLayAll0
      rw [h1.1, h2.1]
      rfl
    · unfold PyData.depthAll
      exact Nat.max_le.mpr ⟨h1.2, h2.2⟩
theorem shaped_list {xs : List PyData} (h : ∀ d ∈ xs, d.canLay0 = true ∧ d.depth ≤ 60) : SeqAt.shaped (.list xs) = true := by
  have k := lay_all h
  unfold SeqAt.shaped PyData.canLay0 PyData.depth
  rw [k.1, decide_eq_true (show PyData.depthAll xs + 1 ≤ 64 by have := k.2; omega)]
  rfl
theorem shaped_tuple {xs : List PyData} (h : ∀ d ∈ xs, d.canLay0 = true ∧ d.depth ≤ 60) : SeqAt.shaped (.tuple xs) = true := by
  have k := lay_all h
  unfold SeqAt.shaped PyData.canLay0 PyData.depth
  rw [k.1, decide_eq_true (show PyData.depthAll xs + 1 ≤ 64 by have := k.2; omega)]
  rfl
theorem dpAll_map {α : Type} {f : α → V} {g : α → PyData} : ∀ {xs : List α}, (∀ z ∈ xs, Dp K H (f z) (g z)) → DpAll K H (xs.map f) (xs.map g)
  | [], _ => .nil
  | z :: r, h => .cons (h z List.mem_cons_self) (dpAll_map fun w hw => h w (List.mem_cons_of_mem _ hw))
mutual
theorem dp_mono (e : Ex H H') : ∀ (d : PyData) (v : V), Dp K H v d → Dp K H' v d
  | .none, _, h => by cases h; exact .non
  | .bool _, _, h => by cases h; exact .bl _
  | .int _, _, h => by cases h; exact .int _
  | .str _, _, h => by cases h; exact .str _
  | .list ds, _, h => by
    cases h with
    | lst hs ha => exact .lst (ex_l e hs) (dp_monoAll e ds _ ha)
  | .tuple ds, _, h => by
    cases h with
    | tup hs ha => exact .tup (ex_t e hs) (dp_monoAll e ds _ ha)
  | .dict _, _, h => by cases h
theorem dp_monoAll (e : Ex H H') : ∀ (ds : List PyData) (vs : List V), DpAll K H vs ds → DpAll K H' vs ds
  | [], _, h => by cases h; exact .nil
  | d :: ds, _, h => by
    cases h with
    | cons h1 h2 => exact .cons (dp_mono e d _ h1) (dp_monoAll e ds _ h2)
end
theorem dp_ints {a : Addr} {ns : List Int} (h : SqL K H a (ns.map V.int)) : Dp K H (.ref a) (.list (ns.map PyData.int)) := .lst h (dpAll_map fun _ _ => .int _)
theorem shaped_ints (ns : List Int) : SeqAt.shaped (.list (ns.map PyData.int)) = true := shaped_list fun d hd => by
  obtain ⟨i, _, rfl⟩ := List.mem_map.mp hd
  exact ⟨rfl, Nat.zero_le _⟩
theorem eqv_same {d : PyData} (h : SeqAt.shaped d = true) : PyData.eqv d d = true := SeqAt.eqv_refl d (Bool.and_eq_true_iff.mp h).1
theorem ev_eqD {d e : PyData} (ha : Ev ta σ H x) (hb : Ev tb σ H y) (hd : Dp K H x d) (he : Dp K H y e) (sd : SeqAt.shaped d = true) (se : SeqAt.shaped e = true) : Ev (tOp (rEqD K) ta tb) σ H (.bl (PyData.eqv d e)) := fun H1 g Q q =>
  ha H1 g _ fun H2 e2 => hb H2 (g.trans e2) _ fun H3 e3 => ⟨d, e, dp_mono ((g.trans e2).trans e3) d _ hd, dp_mono ((g.trans e2).trans e3) e _ he, sd, se, q H3 (e2.trans e3)⟩
theorem ev_neD {d e : PyData} (ha : Ev ta σ H x) (hb : Ev tb σ H y) (hd : Dp K H x d) (he : Dp K H y e) (sd : SeqAt.shaped d = true) (se : SeqAt.shaped e = true) : Ev (tOp (rNeD K) ta tb) σ H (.bl (!PyData.eqv d e)) := fun H1 g Q q =>
  ha H1 g _ fun H2 e2 => hb H2 (g.trans e2) _ fun H3 e3 => ⟨d, e, dp_mono ((g.trans e2).trans e3) d _ hd, dp_mono ((g.trans e2).trans e3) e _ he, sd, se, q H3 (e2.trans e3)⟩
end
end Sl

/-! ### the text by places -/
namespace Sl
open PySem PySem.Spec PyProof.Rows L2 Evl
def topS (i : Nat) : Stmt := PySem.Challenge.pw_shortlimit_k01_places_counted.main.body.getD i (.Pass ⟨0, 0, 0, 0⟩)
abbrev s_is_number : Stmt := topS 7
abbrev N_is_number : List Str := ["thing", "least", "most"]
theorem sc_is_number : FnScope N_is_number ["thing", "least", "most"] (defScope s_is_number) := ⟨rfl, rfl, rfl, by decide +kernel, rfl, by decide +kernel, by decide +kernel⟩
abbrev s_check_bound : Stmt := topS 8
abbrev N_check_bound : List Str := ["bound"]
theorem sc_check_bound : FnScope N_check_bound ["bound"] (defScope s_check_bound) := ⟨rfl, rfl, rfl, by decide +kernel, rfl, by decide +kernel, by decide +kernel⟩
abbrev s_check_lengths : Stmt := topS 9
abbrev N_check_lengths : List Str := ["lengths", "bound", "length"]
theorem sc_check_lengths : FnScope N_check_lengths ["lengths", "bound"] (defScope s_check_lengths) := ⟨rfl, rfl, rfl, by decide +kernel, rfl, by decide +kernel, by decide +kernel⟩
abbrev s_places : Stmt := topS 11
abbrev N_places : List Str := ["length", "bound"]
theorem sc_places : FnScope N_places ["length", "bound"] (defScope s_places) := ⟨rfl, rfl, rfl, by decide +kernel, rfl, by decide +kernel, by decide +kernel⟩
abbrev s_room : Stmt := topS 12
abbrev N_room : List Str := ["bound"]
theorem sc_room : FnScope N_room ["bound"] (defScope s_room) := ⟨rfl, rfl, rfl, by decide +kernel, rfl, by decide +kernel, by decide +kernel⟩
abbrev s_counted : Stmt := topS 13
abbrev N_counted : List Str := ["lengths", "bound", "length"]
theorem sc_counted : FnScope N_counted ["lengths", "bound"] (defScope s_counted) := ⟨rfl, rfl, rfl, by decide +kernel, rfl, by decide +kernel, by decide +kernel⟩
abbrev s_lw_cell : Stmt := topS 15
abbrev N_lw_cell : List Str := ["_law_script", "_law_k", "_law_number"]
theorem sc_lw_cell : FnScope N_lw_cell ["_law_script", "_law_k"] (defScope s_lw_cell) := ⟨rfl, rfl, rfl, by decide +kernel, rfl, by decide +kernel, by decide +kernel⟩
abbrev s_lw_whole : Stmt := topS 16
abbrev N_lw_whole : List Str := ["_law_found"]
theorem sc_lw_whole : FnScope N_lw_whole ["_law_found"] (defScope s_lw_whole) := ⟨rfl, rfl, rfl, by decide +kernel, rfl, by decide +kernel, by decide +kernel⟩
abbrev s_lw_doubled : Stmt := topS 17
abbrev N_lw_doubled : List Str := ["_law_times", "_law_found", "_law_turn"]
theorem sc_lw_doubled : FnScope N_lw_doubled ["_law_times"] (defScope s_lw_doubled) := ⟨rfl, rfl, rfl, by decide +kernel, rfl, by decide +kernel, by decide +kernel⟩
abbrev s_law : Stmt := topS 18
abbrev N_law : List Str := ["_law_script", "_law_bound", "_law_lengths", "_law_due", "_law_length", "_law_handed", "_law_found", "_law_many", "_law_k"]
theorem sc_law : FnScope N_law ["_law_script"] (defScope s_law) := ⟨rfl, rfl, rfl, by decide +kernel, rfl, by decide +kernel, by decide +kernel⟩
/-- a def behind the top -/
structure Def (K : PySem.W.Frag) (mg : Str → Option Value) (x : Str) (st : Stmt) (f : Addr) (fd : FuncData) (ps : List Str) : Prop where
  F : Fun K x x st f fd
  g : mg x = some (.ref f)
  b : Binds K fd ps []
/-- an own class of errors -/
structure XCls (K : PySem.W.Frag) (mg : Str → Option Value) (x : Str) (C : Addr) : Prop where
  gC : mg x = some (.ref C)
  xC : PySem.W.excIn K C [.type "ValueError", .type "Exception", .type "BaseException", .type "object"] "ValueError.__new__" = true
  kC : PySem.W.keepIn K (.ref C) = true
  bC : PySem.W.subIn K (.ref C) (.type "BaseException") = some true
  tC : PySem.W.typeIn K (.ref C) = some (.type "type")
structure Blt (mg : Str → Option Value) : Prop where
  b_bool : mg "bool" = none
  b_int : mg "int" = none
  b_isinstance : mg "isinstance" = none
  b_len : mg "len" = none
  b_list : mg "list" = none
  b_range : mg "range" = none
  b_sum : mg "sum" = none
structure Adr where
  f_is_number : Addr
  d_is_number : FuncData
  f_check_bound : Addr
  d_check_bound : FuncData
  f_check_lengths : Addr
  d_check_lengths : FuncData
  f_places : Addr
  d_places : FuncData
  f_room : Addr
  d_room : FuncData
  f_counted : Addr
  d_counted : FuncData
  f_lw_cell : Addr
  d_lw_cell : FuncData
  f_lw_whole : Addr
  d_lw_whole : FuncData
  f_lw_doubled : Addr
  d_lw_doubled : FuncData
  f_law : Addr
  d_law : FuncData
  C_CodeError : Addr
  C_BadBound : Addr
  C_BadLengths : Addr
structure Top (K : PySem.W.Frag) (mg : Str → Option Value) (t : Adr) : Prop where
  b : Blt mg
  is_number : Def K mg "is_number" s_is_number t.f_is_number t.d_is_number ["thing", "least", "most"]
  check_bound : Def K mg "check_bound" s_check_bound t.f_check_bound t.d_check_bound ["bound"]
  check_lengths : Def K mg "check_lengths" s_check_lengths t.f_check_lengths t.d_check_lengths ["lengths", "bound"]
  places : Def K mg "places" s_places t.f_places t.d_places ["length", "bound"]
  room : Def K mg "room" s_room t.f_room t.d_room ["bound"]
  counted : Def K mg "counted" s_counted t.f_counted t.d_counted ["lengths", "bound"]
  lw_cell : Def K mg "_law_cell" s_lw_cell t.f_lw_cell t.d_lw_cell ["_law_script", "_law_k"]
  lw_whole : Def K mg "_law_whole" s_lw_whole t.f_lw_whole t.d_lw_whole ["_law_found"]
  lw_doubled : Def K mg "_law_doubled" s_lw_doubled t.f_lw_doubled t.d_lw_doubled ["_law_times"]
  law : Def K mg "law" s_law t.f_law t.d_law ["_law_script"]
  C_CodeError : XCls K mg "CodeError" t.C_CodeError
  C_BadBound : XCls K mg "BadBound" t.C_BadBound
  C_BadLengths : XCls K mg "BadLengths" t.C_BadLengths
  c_MOST_SIGNS : ∃ u, mg "MOST_SIGNS" = some u ∧ RelV (.int 24) u
  c_MOST_BITS : ∃ u, mg "MOST_BITS" = some u ∧ RelV (.int 12) u
variable {P : Program} {w : World} {K : PySem.W.Frag} {mg : Str → Option Value} {base : Heap} {t : Adr}
end Sl
namespace Sl
open PySem PySem.Spec PyProof.Rows L2 Evl
section
variable {P : Program} {w : World} {K : PySem.W.Frag} {mg : Str → Option Value} {base : Heap} {t : Adr}
/-! is_number -/
def spNumber : Sp := fun vs H Q _ => ∃ (x : V) (lo hi : Int), vs = [x, .int lo, .int hi] ∧ Thing H x ∧ RetV (.bl (within lo hi x)) H Q
theorem sv_number {H : Hp} {x : V} {lo hi : Int} (k : Thing H x) : SpV spNumber ([x, .int lo, .int hi] ++ []) H (.bl (within lo hi x)) := fun H1 e Q q E => ⟨x, lo, hi, rfl, k.mono e, q⟩
theorem ok_is_number (T : Top K mg t) : FnOk P w K mg base CX0 1 t.f_is_number t.d_is_number ["thing", "least", "most"] spNumber := by
  refine T.is_number.F.ok sc_is_number (fun vs H Q E h => ?_) (fun cdv A outer s H vs Q E hr h => ?_)
  · obtain ⟨x, lo, hi, rfl, _⟩ := h
    rfl
  · obtain ⟨x, lo, hi, rfl, k, q⟩ := h
    refine ⟨_, (pss_cons (ps_if (PW.pt (pw_or (pt_val (pe_callB call_isi (by rfl) T.b.b_isinstance (by decide +kernel) (pa_cons (pv 0) (pa_cons (pe_bltn (v := .ty "bool") (by rfl) T.b.b_bool (by decide +kernel) rfl) pa_nil)))) (pw_or1 (pt_not (pt_val (pe_callB call_isi (by rfl) T.b.b_isinstance (by decide +kernel) (pa_cons (pv 0) (pa_cons (pe_bltn (v := .ty "int") (by rfl) T.b.b_int (by decide +kernel) rfl) pa_nil)))))))) (pss_one (ps_ret pe_bl)) pss_nil)
      (pss_one (ps_ret (pe_chain op_le op_le (pv 1) (pv 0) (pv 2))))), ?_⟩
    refine q_when (et_or (et_B (ev_isBool (ev_var rfl) k)) fun _ => et_not (et_B (ev_isInt (ev_var rfl) k))) (fun hb H1 e1 => ?_) (fun hb H1 e1 => ?_)
    · refine s_ret ev_c fun H2 e2 => ?_
      have z : within lo hi x = false := by
        cases x <;> first | rfl | (exact absurd (show false = true from hb) (by decide))
      rw [z] at q
      exact q H2 (e1.trans e2)
    · cases x with
      | int i =>
        refine s_ret (ev_chain (ev_var rfl) (ev_var rfl) (ev_var rfl)) fun H2 e2 => ?_
        exact q H2 (e1.trans e2)
      | _ => exact absurd (show true = false from hb) (by decide)
end
end Sl
namespace Sl
open PySem PySem.Spec PyProof.Rows L2 Evl
section
variable {P : Program} {w : World} {K : PySem.W.Frag} {mg : Str → Option Value} {base : Heap} {t : Adr}
/-! check_bound -/
def spCheckBound (C : Addr) : Sp := fun vs H Q E => ∃ x : V, vs = [x] ∧ Thing H x ∧ (within 1 12 x = true → RetV .non H Q) ∧ (within 1 12 x = false → ∀ H1, Ex H H1 → E (.ref C) none H1)
theorem sv_bound {C : Addr} {H : Hp} {b : Int} (h : 1 ≤ b ∧ b ≤ 12) : SpV (spCheckBound C) ([.int b] ++ []) H .non := fun H1 e Q q E =>
  ⟨.int b, rfl, .int b, fun _ => q, fun z => absurd z (by show ¬ (decide (1 ≤ b) && decide (b ≤ 12)) = false; rw [decide_eq_true h.1, decide_eq_true h.2]; decide)⟩
theorem ok_check_bound (T : Top K mg t) : FnOk P w K mg base (L2.CX P w) 2 t.f_check_bound t.d_check_bound ["bound"] (spCheckBound t.C_BadBound) := by
  refine T.check_bound.F.okX sc_check_bound (fun vs H Q E h => ?_) (fun cdv A outer s H vs Q E hr h => ?_)
  · obtain ⟨x, rfl, _⟩ := h
    rfl
  · obtain ⟨x, rfl, k, q, r⟩ := h
    refine ⟨_, (pss_one (ps_if (pt_not (pt_val (pe_call (ok_is_number T) (hr.mono (by decide)) (by rfl) T.is_number.g T.is_number.F.kp T.is_number.b .nil pass0 (pa_cons (pv 0) (pa_cons pe_int (pa_cons (pe_glob (v := .int 12) rfl T.c_MOST_BITS.choose_spec.1 T.c_MOST_BITS.choose_spec.2) pa_nil)))))) (pss_one (ps_raise rfl (takes_of rfl rfl rfl rfl) (SkE.pmk_own1 PySem.F.excBase_ValueError T.C_BadBound.xC T.C_BadBound.gC T.C_BadBound.kC (raises_own T.C_BadBound.bC T.C_BadBound.tC) rfl (pe_joined (.cons pe_str (.cons (pe_fmt (pe_glob (v := .int 12) rfl T.c_MOST_BITS.choose_spec.1 T.c_MOST_BITS.choose_spec.2)) .nil)))))) pss_nil)), ?_⟩
    refine s_when (et_not (et_B (ev_call (ea_cons (ev_var rfl) (ea_cons ev_c (ea_cons ev_c ea_nil))) (sv_number k)))) (fun hb H1 e1 => ?_) (fun hb H1 e1 => ?_)
    · refine ⟨_, rfl, by decide +kernel, .inr ⟨12, rfl, by decide, _, rfl, by decide +kernel, ?_⟩⟩
      exact r (by simpa using hb) H1 e1
    · exact q (by simpa using hb) H1 e1
end
end Sl
namespace Sl
open PySem PySem.Spec PyProof.Rows L2 Evl
section
variable {P : Program} {w : World} {K : PySem.W.Frag} {mg : Str → Option Value} {base : Heap} {t : Adr}
/-! check_lengths -/
def okLens (lo hi : Int) (xs : List V) : Bool := decide (xs.length ≤ 24) && xs.all (within lo hi)
def spCheckLengths (K : PySem.W.Frag) (C : Addr) : Sp := fun vs H Q E => ∃ (a : Addr) (xs : List V) (b : Int), vs = [.ref a, .int b] ∧ SqL K H a xs ∧ (∀ x ∈ xs, Thing H x) ∧ 1 ≤ b ∧ b ≤ 12 ∧
  (okLens 1 b xs = true → RetV .non H Q) ∧ (okLens 1 b xs = false → ∀ H1, Ex H H1 → E (.ref C) none H1)
theorem text12 {b : Int} (h1 : 1 ≤ b) (h2 : b ≤ 12) (z : Str) (hz : z.length ≤ 100) : (z ++ (toString b : Str)).length ≤ sizeLine := by
  have k : ((toString b : Str)).length ≤ 2 := by
    have h : b = 1 ∨ b = 2 ∨ b = 3 ∨ b = 4 ∨ b = 5 ∨ b = 6 ∨ b = 7 ∨ b = 8 ∨ b = 9 ∨ b = 10 ∨ b = 11 ∨ b = 12 := by omega
    rcases h with rfl | rfl | rfl | rfl | rfl | rfl | rfl | rfl | rfl | rfl | rfl | rfl <;> decide +kernel
  have e : (z ++ (toString b : Str)).length = z.length + (toString b : Str).length := by
    show (z.cps ++ (toString b : Str).cps).size = z.cps.size + (toString b : Str).cps.size
    exact Array.size_append
  rw [e]
  exact Nat.le_trans (Nat.add_le_add hz k) (by decide)
theorem log12 {b : Int} (h1 : 1 ≤ b) (h2 : b ≤ 12) : b.natAbs.log2 < 1920 := by
  have h : b = 1 ∨ b = 2 ∨ b = 3 ∨ b = 4 ∨ b = 5 ∨ b = 6 ∨ b = 7 ∨ b = 8 ∨ b = 9 ∨ b = 10 ∨ b = 11 ∨ b = 12 := by omega
  rcases h with rfl | rfl | rfl | rfl | rfl | rfl | rfl | rfl | rfl | rfl | rfl | rfl <;> decide
theorem ok_check_lengths (T : Top K mg t) : FnOk P w K mg base (L2.CX P w) 2 t.f_check_lengths t.d_check_lengths ["lengths", "bound"] (spCheckLengths K t.C_BadLengths) := by
  refine T.check_lengths.F.okX sc_check_lengths (fun vs H Q E h => ?_) (fun cdv A outer s H vs Q E hr h => ?_)
  · obtain ⟨a, xs, b, rfl, _⟩ := h
    rfl
  · obtain ⟨a, xs, b, rfl, hS, hT, h1, h2, q, r⟩ := h
    refine ⟨_, (pss_cons (ps_if (pt_cmpR op_gt (pe_callB call_len_seq (by rfl) T.b.b_len (by decide +kernel) (pa_cons (pv 0) pa_nil)) (pe_glob (v := .int 24) rfl T.c_MOST_SIGNS.choose_spec.1 T.c_MOST_SIGNS.choose_spec.2) (nomark _)) (pss_one (ps_raise rfl (takes_of rfl rfl rfl rfl) (SkE.pmk_own1 PySem.F.excBase_ValueError T.C_BadLengths.xC T.C_BadLengths.gC T.C_BadLengths.kC (raises_own T.C_BadLengths.bC T.C_BadLengths.tC) rfl (pe_joined (.cons pe_str (.cons (pe_fmt (pe_glob (v := .int 24) rfl T.c_MOST_SIGNS.choose_spec.1 T.c_MOST_SIGNS.choose_spec.2)) (.cons pe_str .nil))))))) pss_nil)
      (pss_one (ps_for (passes_of rfl) rfl (pi_list (pv 0)) (pg_name (i := 2) sc_check_lengths.nd rfl (.inl rfl)) (pss_one (ps_if (pt_not (pt_val (pe_call (ok_is_number T) (hr.mono (by decide)) (by rfl) T.is_number.g T.is_number.F.kp T.is_number.b .nil pass0 (pa_cons (pv 2) (pa_cons pe_int (pa_cons (pv 1) pa_nil)))))) (pss_one (ps_raise rfl (takes_of rfl rfl rfl rfl) (SkE.pmk_own1 PySem.F.excBase_ValueError T.C_BadLengths.xC T.C_BadLengths.gC T.C_BadLengths.kC (raises_own T.C_BadLengths.bC T.C_BadLengths.tC) rfl (pe_joined (.cons pe_str (.cons (pe_fmt (pv 1)) .nil)))))) pss_nil))))), ?_⟩
    refine q_when (et_test (ev_op (ev_len (ev_var rfl) hS) ev_c rv_I0)) (fun hb H1 e1 => ?_) (fun hb H1 e1 => ?_)
    · refine ⟨_, rfl, by decide +kernel, .inr ⟨24, rfl, by decide, _, rfl, by decide +kernel, _, rfl, by decide +kernel, ?_⟩⟩
      refine r ?_ H1 e1
      have z : ¬ xs.length ≤ 24 := by
        have := of_decide_eq_true hb
        omega
      unfold okLens
      rw [decide_eq_false z]
      rfl
    · have hl : xs.length ≤ 24 := by
        have := of_decide_eq_false hb
        omega
      refine s_forLn (ev_var rfl) (ex_l e1 hS) (fun i σ' H' => Ex H H' ∧ (∃ v2, σ' = [some (.ref a), some (.int b), v2]) ∧ (xs.take i).all (within 1 b) = true) (fun H2 e2 => ⟨e1.trans e2, ⟨_, rfl⟩, rfl⟩) (fun i σ' H' _ p => ex_l p.1 hS) (fun i x σ' H' hx p => ?_) (fun σ' H' p => ?_)
      · obtain ⟨e', ⟨v2, rfl⟩, pa⟩ := p
        have hm : x ∈ xs := List.mem_of_getElem? hx
        have hi : i < xs.length := (List.getElem?_eq_some_iff.mp hx).1
        have et : xs.take (i + 1) = xs.take i ++ [x] := by rw [List.take_add_one, hx]; rfl
        refine s_when (et_not (et_B (ev_call (ea_cons (ev_var rfl) (ea_cons ev_c (ea_cons (ev_var rfl) ea_nil))) (sv_number ((hT x hm).mono e'))))) (fun hb H2 e2 => ?_) (fun hb H2 e2 => ?_)
        · refine ⟨_, rfl, by decide +kernel, ⟨_, rfl, .inr ⟨b, rfl, log12 h1 h2, _, rfl, text12 h1 h2 _ (by decide +kernel), ?_⟩⟩⟩
          refine r ?_ H2 (e'.trans e2)
          have hb' : within 1 b x = false := by simpa using hb
          have z : xs.all (within 1 b) = false := by
            rw [Bool.eq_false_iff]
            intro h
            rw [List.all_eq_true.mp h x hm] at hb'
            cases hb'
          unfold okLens
          rw [z, Bool.and_false]
        · have hb' : within 1 b x = true := by simpa using hb
          refine ⟨e'.trans e2, ⟨_, rfl⟩, ?_⟩
          rw [et, List.all_append, pa, List.all_cons, hb']
          rfl
      · obtain ⟨e', _, pa⟩ := p
        rw [List.take_length] at pa
        refine q ?_ H' e'
        unfold okLens
        rw [pa, decide_eq_true hl]
        rfl
end
end Sl
namespace Sl
open PySem PySem.Spec PyProof.Rows L2 Evl
section
variable {P : Program} {w : World} {K : PySem.W.Frag} {mg : Str → Option Value} {base : Heap} {t : Adr}
/-! places -/
def spPlaces : Sp := fun vs H Q _ => ∃ l b : Int, vs = [.int l, .int b] ∧ l ≤ b ∧ b ≤ 1000 ∧ 0 ≤ l ∧ RetV (.int (2 ^ (b - l).toNat)) H Q
theorem sv_places {H : Hp} {l b : Int} (h1 : l ≤ b) (h2 : b ≤ 1000) (h3 : 0 ≤ l) : SpV spPlaces ([.int l, .int b] ++ []) H (.int (2 ^ (b - l).toNat)) := fun H1 e Q q E => ⟨l, b, rfl, h1, h2, h3, q⟩
theorem ok_places (T : Top K mg t) : FnOk P w K mg base CX0 1 t.f_places t.d_places ["length", "bound"] spPlaces := by
  refine T.places.F.ok sc_places (fun vs H Q E h => ?_) (fun cdv A outer s H vs Q E hr h => ?_)
  · obtain ⟨l, b, rfl, _⟩ := h
    rfl
  · obtain ⟨l, b, rfl, h1, h2, h3, q⟩ := h
    refine ⟨_, (pss_one (ps_ret (pe_op op_shl pe_int (pe_op op_sub (pv 1) (pv 0))))), ?_⟩
    refine s_ret (ev_op ev_c (ev_op (ev_var rfl) (ev_var rfl) rv_I0) (rv_I ⟨by omega, by omega, by decide⟩)) fun H1 e1 => ?_
    have z := q H1 e1
    rw [← Int.one_mul (2 ^ (b - l).toNat)] at z
    exact z
end
end Sl
namespace Sl
open PySem PySem.Spec PyProof.Rows L2 Evl
section
variable {P : Program} {w : World} {K : PySem.W.Frag} {mg : Str → Option Value} {base : Heap} {t : Adr}
/-! room -/
def spRoom (C : Addr) : Sp := fun vs H Q E => ∃ x : V, vs = [x] ∧ Thing H x ∧ (∀ b : Int, x = .int b → 1 ≤ b → b ≤ 12 → RetV (.int (2 ^ b.toNat)) H Q) ∧ (within 1 12 x = false → ∀ H1, Ex H H1 → E (.ref C) none H1)
theorem within_int {lo hi : Int} {x : V} (h : within lo hi x = true) : ∃ i, x = .int i ∧ lo ≤ i ∧ i ≤ hi := by
  cases x with
  | int i =>
    have z : (decide (lo ≤ i) && decide (i ≤ hi)) = true := h
    rw [Bool.and_eq_true] at z
    exact ⟨i, rfl, of_decide_eq_true z.1, of_decide_eq_true z.2⟩
  | _ => exact absurd (show false = true from h) (by decide)
theorem within_yes {lo hi i : Int} (h1 : lo ≤ i) (h2 : i ≤ hi) : within lo hi (.int i) = true := by
  show (decide (lo ≤ i) && decide (i ≤ hi)) = true
  rw [decide_eq_true h1, decide_eq_true h2]
  rfl
theorem sv_room {C : Addr} {H : Hp} {b : Int} (h1 : 1 ≤ b) (h2 : b ≤ 12) : SpV (spRoom C) ([.int b] ++ []) H (.int (2 ^ b.toNat)) := fun H1 e Q q E =>
  ⟨.int b, rfl, .int b, fun c hc _ _ => by cases hc; exact q, fun z => absurd z (by rw [within_yes h1 h2]; decide)⟩
theorem ok_room (T : Top K mg t) : FnOk P w K mg base (L2.CX P w) 3 t.f_room t.d_room ["bound"] (spRoom t.C_BadBound) := by
  refine T.room.F.okX sc_room (fun vs H Q E h => ?_) (fun cdv A outer s H vs Q E hr h => ?_)
  · obtain ⟨x, rfl, _⟩ := h
    rfl
  · obtain ⟨x, rfl, k, q, r⟩ := h
    refine ⟨_, (pss_cons (ps_expr (pe_call (ok_check_bound T) (hr.mono (by decide)) (by rfl) T.check_bound.g T.check_bound.F.kp T.check_bound.b .nil (passes_call (takes_of rfl rfl rfl rfl) fun _ _ _ _ h => h) (pa_cons (pv 0) pa_nil)))
      (pss_one (ps_ret (pe_op op_shl pe_int (pv 0))))), ?_⟩
    refine ⟨x, rfl, x, rfl, k, fun hw H1 e1 => ?_, r⟩
    obtain ⟨b, rfl, h1, h2⟩ := within_int hw
    refine s_ret (ev_op ev_c (ev_var rfl) (rv_I ⟨by omega, by omega, by decide⟩)) fun H2 e2 => ?_
    have z := q b rfl h1 h2 H2 (e1.trans e2)
    rw [← Int.one_mul (2 ^ b.toNat)] at z
    exact z
end
end Sl
namespace Sl
open PySem PySem.Spec PyProof.Rows L2 Evl
section
variable {P : Program} {w : World} {K : PySem.W.Frag} {mg : Str → Option Value} {base : Heap} {t : Adr}
/-! counted -/
def placesOf (b : Int) : V → Int
  | .int l => 2 ^ (b - l).toNat
  | _ => 0
def sumOf (b : Int) (xs : List V) : Int := (xs.map (placesOf b)).sum
/-- a list of things and a whole number as a bound -/
def spCounted (K : PySem.W.Frag) (CL CB : Addr) : Sp := fun vs H Q E => ∃ (a : Addr) (xs : List V) (y : V), vs = [.ref a, y] ∧ SqL K H a xs ∧ (∀ x ∈ xs, Thing H x) ∧ Thing H y ∧
  (∀ b : Int, y = .int b → 1 ≤ b → b ≤ 12 → okLens 1 b xs = true → RetV (.int (sumOf b xs)) H Q) ∧
  (∀ b : Int, y = .int b → 1 ≤ b → b ≤ 12 → okLens 1 b xs = false → ∀ H1, Ex H H1 → E (.ref CL) none H1) ∧
  (within 1 12 y = false → ∀ H1, Ex H H1 → E (.ref CB) none H1)
theorem given_all (n : Nat) (v : Nat → V) : given n (fun _ => true) v = (List.range n).map v := by
  unfold given
  rw [List.filter_eq_self.mpr fun _ _ => rfl]
theorem map_range_of {α β : Type} (xs : List α) (f : α → β) (g : Nat → β) (h : ∀ i x, xs[i]? = some x → g i = f x) : (List.range xs.length).map g = xs.map f := by
  refine List.ext_getElem? fun i => ?_
  rw [List.getElem?_map, List.getElem?_map]
  by_cases hi : i < xs.length
  · rw [List.getElem?_range hi, List.getElem?_eq_getElem hi]
    show some (g i) = some (f xs[i])
    rw [h i xs[i] (List.getElem?_eq_getElem hi)]
  · rw [List.getElem?_eq_none (by simpa using hi), List.getElem?_eq_none (by simpa using hi)]
    rfl
theorem ok_counted (T : Top K mg t) : FnOk P w K mg base (L2.CX P w) 3 t.f_counted t.d_counted ["lengths", "bound"] (spCounted K t.C_BadLengths t.C_BadBound) := by
  refine T.counted.F.okX sc_counted (fun vs H Q E h => ?_) (fun cdv A outer s H vs Q E hr h => ?_)
  · obtain ⟨a, xs, y, rfl, _⟩ := h
    rfl
  · obtain ⟨a, xs, y, rfl, hS, hT, ky, q, r1, r2⟩ := h
    refine ⟨_, (pss_cons (ps_expr (pe_call (ok_check_bound T) (hr.mono (by decide)) (by rfl) T.check_bound.g T.check_bound.F.kp T.check_bound.b .nil (passes_call (takes_of rfl rfl rfl rfl) fun _ _ _ _ h => h) (pa_cons (pv 1) pa_nil)))
      (pss_cons (ps_expr (pe_call (ok_check_lengths T) (hr.mono (by decide)) (by rfl) T.check_lengths.g T.check_lengths.F.kp T.check_lengths.b .nil (passes_call (takes_of rfl rfl rfl rfl) fun _ _ _ _ h => h) (pa_cons (pv 0) (pa_cons (pv 1) pa_nil))))
      (pss_one (ps_ret (pe_callB (cr_sum rfl) (by rfl) T.b.b_sum (by decide +kernel) (pa_cons (pe_lc (own := [("length", 2)]) (g := gName 2) (tt := tYes) rfl sc_counted.nd (pi_list (pv 0)) (blkOk_by (own := [("length", 2)]) (N := N_counted) (sc := defScope s_counted) (by decide +kernel)) (fun _ _ _ _ _ => (pg_name (i := 2) sc_counted.nd rfl (.inl rfl))) (fun _ _ _ _ _ => pts_nil) (fun _ _ _ _ _ => (pe_call (ok_places T) (hr.mono (by decide)) (by rfl) T.places.g T.places.F.kp T.places.b .nil pass0 (pa_cons (pv 2) (pa_cons (pv 1) pa_nil))))) pa_nil)))))), ?_⟩
    refine ⟨y, rfl, y, rfl, ky, fun hw H1 e1 => ?_, r2⟩
    obtain ⟨b, rfl, h1, h2⟩ := within_int hw
    refine ⟨.ref a, rfl, .int b, rfl, a, xs, b, rfl, ex_l e1 hS, fun x hx => (hT x hx).mono e1, h1, h2, fun hk H2 e2 => ?_, fun hk H2 e2 => r1 b rfl h1 h2 hk H2 (e1.trans e2)⟩
    have hl : xs.length ≤ 24 ∧ xs.all (within 1 b) = true := by
      have z := hk
      unfold okLens at z
      rw [Bool.and_eq_true] at z
      exact ⟨of_decide_eq_true z.1, z.2⟩
    have e12 := e1.trans e2
    have ha : ∀ (i : Nat) (x : V), xs[i]? = some x → ∃ l : Int, x = .int l ∧ 1 ≤ l ∧ l ≤ b := fun i x hx => within_int (List.all_eq_true.mp hl.2 x (List.mem_of_getElem? hx))
    have hc := el_lcL (σ := [some (V.ref a), some (V.int b), none]) (H := H2) (j := 2) (vs := [2]) (te := tCall spPlaces [] E0 (tCons (tVar 2) (tCons (tVar 1) tNil))) (t := tYes) (K := K) (tl := tVar 0) (fun _ => true) (fun i => .int (placesOf b (xs.getD i .non)))
      (ev_var rfl) (ex_l e12 hS) (by omega) (fun x => rfl) (fun i x H3 e3 hx => et_yes) (fun i x H3 e3 hx _ => by
        obtain ⟨l, rfl, l1, l2⟩ := ha i x hx
        have eg : xs.getD i .non = .int l := by rw [List.getD_eq_getElem?_getD, hx]; rfl
        rw [eg]
        exact ev_call (ea_cons (ev_var rfl) (ea_cons (ev_var rfl) ea_nil)) (sv_places l2 (by omega) (by omega)))
    rw [given_all, map_range_of xs (fun x => V.int (placesOf b x)) _ fun i x hx => by rw [List.getD_eq_getElem?_getD, hx]; rfl] at hc
    have hc' := ev_sum (K := K) (ns := xs.map (placesOf b)) (by rw [List.map_map]; exact hc)
    refine s_ret hc' fun H3 e3 => ?_
    exact q b rfl h1 h2 hk H3 (e12.trans e3)
end
end Sl
namespace Sl
open PySem PySem.Spec PyProof.Rows L2 Evl
section
variable {P : Program} {w : World} {K : PySem.W.Frag} {mg : Str → Option Value} {base : Heap} {t : Adr}
/-! _law_cell -/
def lwSeed (ns : List Int) (k : Int) : Int := if 0 < ns.length then (ns.getD (k * 7 % (ns.length : Int)).toNat 0 * 48271 + k * 7919) % 2147483647 else k * 7919 + 5
def lwCell (ns : List Int) (k : Int) : Int := if k < (ns.length : Int) then ns.getD k.toNat 0 else lwSeed ns k * lwSeed ns k % 2147483629
def spLwCell (K : PySem.W.Frag) : Sp := fun vs H Q _ => ∃ (a : Addr) (ns : List Int) (k : Int), vs = [.ref a, .int k] ∧ SqL K H a (ns.map V.int) ∧ 0 ≤ k ∧ k ≤ 1000000 ∧ RetV (.int (lwCell ns k)) H Q
theorem sv_cell {H : Hp} {a : Addr} {ns : List Int} {k : Int} (hS : SqL K H a (ns.map V.int)) (h0 : 0 ≤ k) (h1 : k ≤ 1000000) : SpV (spLwCell K) ([.ref a, .int k] ++ []) H (.int (lwCell ns k)) := fun H1 e Q q E =>
  ⟨a, ns, k, rfl, ex_l e hS, h0, h1, q⟩
theorem at_getD {ns : List Int} {j : Int} (h0 : 0 ≤ j) (h : j < (ns.length : Int)) : atI (ns.map V.int) j = some (.int (ns.getD j.toNat 0)) := by
  obtain ⟨n, rfl⟩ := Int.eq_ofNat_of_zero_le h0
  have hn : n < ns.length := by omega
  refine atI_nat ?_
  rw [List.getElem?_map, Int.toNat_natCast, List.getD_eq_getElem?_getD, List.getElem?_eq_getElem hn]
  rfl
theorem ok_lw_cell (T : Top K mg t) : FnOk P w K mg base CX0 1 t.f_lw_cell t.d_lw_cell ["_law_script", "_law_k"] (spLwCell K) := by
  refine T.lw_cell.F.ok sc_lw_cell (fun vs H Q E h => ?_) (fun cdv A outer s H vs Q E hr h => ?_)
  · obtain ⟨a, ns, k, rfl, _⟩ := h
    rfl
  · obtain ⟨a, ns, k, rfl, hS, h0, h1, q⟩ := h
    refine ⟨_, (pss_cons (ps_if (pt_cmpR op_lt (pv 1) (pe_callB call_len_seq (by rfl) T.b.b_len (by decide +kernel) (pa_cons (pv 0) pa_nil)) (nomark _)) (pss_one (ps_ret (pe_ix ix_list (pv 0) (pv 1) (fun _ _ => rfl)))) pss_nil)
      (pss_cons (ps_set (i := 2) sc_lw_cell.nd rfl (.inl rfl) (pe_op op_add (pe_op op_mul (pv 1) pe_int) pe_int))
      (pss_cons (ps_if (pt_cmpR op_gt (pe_callB call_len_seq (by rfl) T.b.b_len (by decide +kernel) (pa_cons (pv 0) pa_nil)) pe_int (nomark _)) (pss_one (ps_set (i := 2) sc_lw_cell.nd rfl (.inl rfl) (pe_op op_mod (pe_op op_add (pe_op op_mul (pe_ix ix_list (pv 0) (pe_op op_mod (pe_op op_mul (pv 1) pe_int) (pe_callB call_len_seq (by rfl) T.b.b_len (by decide +kernel) (pa_cons (pv 0) pa_nil))) (fun _ _ => rfl)) pe_int) (pe_op op_mul (pv 1) pe_int)) pe_int))) pss_nil)
      (pss_one (ps_ret (pe_op op_mod (pe_op op_mul (pv 2) (pv 2)) pe_int)))))), ?_⟩
    have el : ((ns.map V.int).length : Int) = (ns.length : Int) := by rw [List.length_map]
    refine q_when (et_test (ev_op (ev_var rfl) (ev_len (ev_var rfl) hS) rv_I0)) (fun hb H1 e1 => ?_) (fun hb H1 e1 => ?_)
    · have hk : k < (ns.length : Int) := by
        have := of_decide_eq_true hb
        omega
      refine s_ret (ev_op (ev_var rfl) (ev_var rfl) (rv_ixL (ex_l e1 hS) (at_getD h0 hk))) fun H2 e2 => ?_
      have z := q H2 (e1.trans e2)
      unfold lwCell at z
      rw [if_pos hk] at z
      exact z
    · have hk : ¬ k < (ns.length : Int) := by
        have := of_decide_eq_false hb
        omega
      refine q_asg (ev_op (ev_op (ev_var rfl) ev_c (rv_I (.inr ⟨by decide, by decide⟩))) ev_c rv_I0) fun H2 e2 => ?_
      have e12 := e1.trans e2
      have fin : ∀ H3, Ex H H3 → ∀ n : Int, n = lwSeed ns k → -(2 ^ 64) < n ∧ n < 2 ^ 64 → tRet (tOp (rI (fun _ j => 0 < j) fun i j => .int (i % j)) (tOp (rI CMul fun i j => .int (i * j)) (tVar 2) (tVar 2)) (tC (.int 2147483629))) { nx := fun _ H' => Q .non H', rt := Q } [some (V.ref a), some (V.int k), some (V.int n)] H3 := by
        intro H3 e3 n hn hb
        refine s_ret (ev_op (ev_op (ev_var rfl) (ev_var rfl) (rv_I (.inl hb))) ev_c (rv_I (by decide))) fun H4 e4 => ?_
        have z := q H4 (e3.trans e4)
        unfold lwCell at z
        rw [if_neg hk, ← hn] at z
        exact z
      refine q_when (et_test (ev_op (ev_len (ev_var rfl) (ex_l e12 hS)) ev_c rv_I0)) (fun hb H3 e3 => ?_) (fun hb H3 e3 => ?_)
      · have hp : 0 < ns.length := by
          have := of_decide_eq_true hb
          omega
        have hm0 : 0 ≤ k * 7 % (ns.length : Int) := Int.emod_nonneg _ (by omega)
        have hm1 : k * 7 % (ns.length : Int) < (ns.length : Int) := Int.emod_lt_of_pos _ (by omega)
        refine s_asg (ev_op (ev_op (ev_op (ev_op (ev_var rfl) (ev_op (ev_op (ev_var rfl) ev_c (rv_I (.inr ⟨by decide, by decide⟩))) (ev_len (ev_var rfl) (ex_l (e12.trans e3) hS)) (rv_I (by rw [el]; omega))) (rv_ixL (ex_l (e12.trans e3) hS) (by rw [el]; exact at_getD hm0 hm1))) ev_c (rv_I (.inr ⟨by decide, by decide⟩)))
          (ev_op (ev_var rfl) ev_c (rv_I (.inr ⟨by decide, by decide⟩))) rv_I0) ev_c (rv_I (by decide))) fun H4 e4 => ?_
        have hs : lwSeed ns k = (ns.getD (k * 7 % (ns.length : Int)).toNat 0 * 48271 + k * 7919) % 2147483647 := if_pos hp
        have b0 := Int.emod_nonneg (ns.getD (k * 7 % (ns.length : Int)).toNat 0 * 48271 + k * 7919) (show (2147483647 : Int) ≠ 0 by decide)
        have b1 := Int.emod_lt_of_pos (ns.getD (k * 7 % (ns.length : Int)).toNat 0 * 48271 + k * 7919) (show (0 : Int) < 2147483647 by decide)
        exact fin H4 ((e12.trans e3).trans e4) _ hs.symm ⟨by omega, by omega⟩
      · have hp : ¬ 0 < ns.length := by
          have := of_decide_eq_false hb
          omega
        have hs : lwSeed ns k = k * 7919 + 5 := if_neg hp
        exact fin H3 (e12.trans e3) _ hs.symm ⟨by omega, by omega⟩
end
end Sl
namespace Sl
open PySem PySem.Spec PyProof.Rows L2 Evl
section
variable {P : Program} {w : World} {K : PySem.W.Frag} {mg : Str → Option Value} {base : Heap} {t : Adr}
/-! _law_whole -/
def isInt : V → Bool
  | .int _ => true
  | _ => false
def spWhole : Sp := fun vs H Q _ => ∃ x : V, vs = [x] ∧ Thing H x ∧ RetV (.bl (isInt x)) H Q
theorem sv_whole {H : Hp} {x : V} (k : Thing H x) : SpV spWhole ([x] ++ []) H (.bl (isInt x)) := fun H1 e Q q E => ⟨x, rfl, k.mono e, q⟩
theorem ok_lw_whole (T : Top K mg t) : FnOk P w K mg base CX0 1 t.f_lw_whole t.d_lw_whole ["_law_found"] spWhole := by
  refine T.lw_whole.F.ok sc_lw_whole (fun vs H Q E h => ?_) (fun cdv A outer s H vs Q E hr h => ?_)
  · obtain ⟨x, rfl, _⟩ := h
    rfl
  · obtain ⟨x, rfl, k, q⟩ := h
    refine ⟨_, (pss_one (ps_ret (pe_and (pe_callB call_isi (by rfl) T.b.b_isinstance (by decide +kernel) (pa_cons (pv 0) (pa_cons (pe_bltn (v := .ty "int") (by rfl) T.b.b_int (by decide +kernel) rfl) pa_nil))) (pe_one (pe_not (pe_callB call_isi (by rfl) T.b.b_isinstance (by decide +kernel) (pa_cons (pv 0) (pa_cons (pe_bltn (v := .ty "bool") (by rfl) T.b.b_bool (by decide +kernel) rfl) pa_nil)))))))), ?_⟩
    refine s_ret (ev_andV (ev_isInt (ev_var rfl) k) fun _ => ev_notV (ev_isBool (ev_var rfl) k)) fun H1 e1 => ?_
    have z : (isNum x && !isBl x) = isInt x := by cases x <;> rfl
    rw [z]
    exact q H1 e1
end
end Sl
namespace Sl
open PySem PySem.Spec PyProof.Rows L2 Evl
section
variable {P : Program} {w : World} {K : PySem.W.Frag} {mg : Str → Option Value} {base : Heap} {t : Adr}
/-! _law_doubled -/
def spDoubled : Sp := fun vs H Q _ => ∃ n : Int, vs = [.int n] ∧ n ≤ 60 ∧ -1000 ≤ n ∧ RetV (.int (2 ^ n.toNat)) H Q
theorem sv_doubled {H : Hp} {n : Int} (h : n ≤ 60) (h' : -1000 ≤ n) : SpV spDoubled ([.int n] ++ []) H (.int (2 ^ n.toNat)) := fun H1 e Q q E => ⟨n, rfl, h, h', q⟩
theorem s_forR1n {D : Ends} {tu : TS} {σ : L2.St} {H : Hp} {ta : TA} {j : Nat} {n : Int} (h : EvA ta σ H [.int n]) (hn : -100000 ≤ n ∧ n ≤ 100000) (Pv : Nat → L2.St → Hp → Prop) (h0 : ∀ H1, Ex H H1 → Pv 0 σ H1)
    (hs : ∀ (i : Nat) σ' H', (i : Int) < n → Pv i σ' H' → tu { D with nx := Pv (i + 1), ct := Pv (i + 1), bk := D.nx } (σ'.set j (some (.int (i : Int)))) H') (hd : ∀ σ' H', Pv n.toNat σ' H' → D.nx σ' H') : tFor (iRng1 ta) (gName j) tu D σ H :=
  h H (Ex.refl H) _ fun H1 e => ⟨n, rfl, by omega, by omega, for_range (lo := 0) (n := n.toNat) Pv (h0 H1 e) (fun i σ' H' hi p => by
    have e0 : (0 : Int) + (i : Int) = (i : Int) := Int.zero_add _
    show tu _ (σ'.set j (some (.int ((0 : Int) + (i : Int))))) H'
    rw [e0]
    exact hs i σ' H' (by omega) p) hd⟩
theorem ok_lw_doubled (T : Top K mg t) : FnOk P w K mg base CX0 1 t.f_lw_doubled t.d_lw_doubled ["_law_times"] spDoubled := by
  refine T.lw_doubled.F.ok sc_lw_doubled (fun vs H Q E h => ?_) (fun cdv A outer s H vs Q E hr h => ?_)
  · obtain ⟨n, rfl, _⟩ := h
    rfl
  · obtain ⟨n, rfl, hn, hn', q⟩ := h
    refine ⟨_, (pss_cons (ps_set (i := 1) sc_lw_doubled.nd rfl (.inl rfl) pe_int)
      (pss_cons (ps_for PassesOwn.never rfl (pi_range1 (by rfl) T.b.b_range (pa_cons (pv 0) pa_nil)) (pg_name (i := 2) sc_lw_doubled.nd rfl (.inl rfl)) (pss_one (ps_set (i := 1) sc_lw_doubled.nd rfl (.inl rfl) (pe_op op_mul (pv 1) pe_int))))
      (pss_one (ps_ret (pv 1))))), ?_⟩
    refine q_asg ev_c fun H1 e1 => ?_
    refine s_forR1n (D := { nx := _, rt := _ }) (ea_cons (ev_var rfl) ea_nil) ⟨by omega, by omega⟩ (fun i σ' H' => Ex H H' ∧ ∃ v2, σ' = [some (.int n), some (.int (2 ^ i)), v2]) (fun H2 e2 => ⟨e1.trans e2, _, rfl⟩) (fun i σ' H' hi p => ?_) (fun σ' H' p => ?_)
    · obtain ⟨e', v2, rfl⟩ := p
      refine s_asg (ev_op (ev_var rfl) ev_c (rv_I (.inr ⟨by decide, by decide⟩))) fun H3 e3 => ?_
      exact ⟨e'.trans e3, _, rfl⟩
    · obtain ⟨e', v2, rfl⟩ := p
      exact s_ret (ev_var rfl) fun H3 e3 => q H3 (e'.trans e3)
end
end Sl
namespace Sl
open PySem PySem.Spec PyProof.Rows L2 Evl
section
variable {P : Program} {w : World} {K : PySem.W.Frag} {mg : Str → Option Value} {base : Heap} {t : Adr}
/-! law -/
def spLaw (K : PySem.W.Frag) : Sp := fun vs H Q _ => ∃ (a : Addr) (ns : List Int), vs = [.ref a] ∧ SqL K H a (ns.map V.int) ∧ ns.length ≤ 63 ∧ ∀ H', Q (.bl true) H'
theorem mod_in (i : Int) {m : Int} (h : 0 < m) : 0 ≤ i % m ∧ i % m < m := ⟨Int.emod_nonneg _ (by omega), Int.emod_lt_of_pos _ h⟩
theorem sum_counted {b : Int} : ∀ ls : List Int, (∀ l ∈ ls, 1 ≤ l ∧ l ≤ b) → sumOf b (ls.map V.int) = (ls.map fun l => (2 : Int) ^ (b - l).toNat).sum := fun ls _ => by
  unfold sumOf
  rw [List.map_map]
  rfl
theorem ok_law (T : Top K mg t) : FnOk P w K mg base CX0 4 t.f_law t.d_law ["_law_script"] (spLaw K) := by
  refine T.law.F.ok sc_law (fun vs H Q E h => ?_) (fun cdv A outer s H vs Q E hr h => ?_)
  · obtain ⟨a, ns, rfl, _⟩ := h
    rfl
  · obtain ⟨a, ns, rfl, hS, hlen, q⟩ := h
    refine ⟨_, (pss_cons (ps_set (i := 1) sc_law.nd rfl (.inr rfl) (pe_op op_add pe_int (pe_op op_mod (pe_call (ok_lw_cell T) (hr.mono (by decide)) (by rfl) T.lw_cell.g T.lw_cell.F.kp T.lw_cell.b .nil pass0 (pa_cons (pv 0) (pa_cons pe_int pa_nil))) pe_int)))
      (pss_cons (ps_setLc (i := 2) (own := [("_law_k", 8)]) (g := gName 8) (tt := tYes) rfl sc_law.nd rfl rfl (sw_true rfl rfl rfl (by decide +kernel)) (pi_range1 (by rfl) T.b.b_range (pa_cons (pe_op op_mod (pe_call (ok_lw_cell T) (hr.mono (by decide)) (by rfl) T.lw_cell.g T.lw_cell.F.kp T.lw_cell.b .nil pass0 (pa_cons (pv 0) (pa_cons pe_int pa_nil))) pe_int) pa_nil)) (blkOk_by (own := [("_law_k", 8)]) (N := N_law) (sc := defScope s_law) (by decide +kernel)) (fun _ _ _ _ _ => (pg_name (i := 8) sc_law.nd rfl (.inl rfl))) (fun _ _ _ _ _ => pts_nil) (fun _ _ _ _ _ => (pe_op op_add pe_int (pe_op op_mod (pe_call (ok_lw_cell T) (hr.mono (by decide)) (by rfl) T.lw_cell.g T.lw_cell.F.kp T.lw_cell.b .nil pass0 (pa_cons (pv 0) (pa_cons (pe_op op_add pe_int (pv 8)) pa_nil))) (pv 1)))))
      (pss_cut (ps_if (pt_cmpR op_eq (pe_op op_mod (pe_call (ok_lw_cell T) (hr.mono (by decide)) (by rfl) T.lw_cell.g T.lw_cell.F.kp T.lw_cell.b .nil pass0 (pa_cons (pv 0) (pa_cons pe_int pa_nil))) pe_int) pe_int (nomark _)) (pss_one (ps_set (i := 2) sc_law.nd rfl (.inl rfl) (pe_op op_cat (pe_slice sl_list (pv 2) po_none (po_some pe_int)) (pe_lc (own := [("_law_k", 8)]) (g := gName 8) (tt := tYes) rfl sc_law.nd (pi_list (pe_slice sl_list (pv 2) (po_some pe_int) po_none)) (blkOk_by (own := [("_law_k", 8)]) (N := N_law) (sc := defScope s_law) (by decide +kernel)) (fun _ _ _ _ _ => (pg_name (i := 8) sc_law.nd rfl (.inl rfl))) (fun _ _ _ _ _ => pts_nil) (fun _ _ _ _ _ => (pe_op op_add pe_int (pe_op op_mod (pe_op op_fdiv (pe_call (ok_lw_cell T) (hr.mono (by decide)) (by rfl) T.lw_cell.g T.lw_cell.F.kp T.lw_cell.b .nil pass0 (pa_cons (pv 0) (pa_cons pe_int pa_nil))) pe_int) (pv 1)))))))) pss_nil)
      (pss_cons (ps_set (i := 3) sc_law.nd rfl (.inl rfl) pe_int)
      (pss_cons (ps_for PassesOwn.never rfl (pi_list (pv 2)) (pg_name (i := 4) sc_law.nd rfl (.inl rfl)) (pss_one (ps_set (i := 3) sc_law.nd rfl (.inl rfl) (pe_op op_add (pv 3) (pe_call (ok_lw_doubled T) (hr.mono (by decide)) (by rfl) T.lw_doubled.g T.lw_doubled.F.kp T.lw_doubled.b .nil pass0 (pa_cons (pe_op op_sub (pv 1) (pv 4)) pa_nil))))))
      (pss_cons (ps_set (i := 5) sc_law.nd rfl (.inl rfl) (pe_callTy call_list_of (by rfl) T.b.b_list (by decide +kernel) (pa_cons (pv 2) pa_nil)))
      (pss_cons (ps_set (i := 6) sc_law.nd rfl (.inl rfl) (pe_call (ok_counted T) (hr.mono (by decide)) (by rfl) T.counted.g T.counted.F.kp T.counted.b .nil passL (pa_cons (pv 5) (pa_cons (pv 1) pa_nil))))
      (pss_cons (ps_set (i := 7) sc_law.nd rfl (.inl rfl) (pe_call (ok_room T) (hr.mono (by decide)) (by rfl) T.room.g T.room.F.kp T.room.b .nil passL (pa_cons (pv 1) pa_nil)))
      (pss_cons (ps_if (PW.pt (pw_or (pt_cmpR (op_neD hr.units) (pv 5) (pv 2) (nomark _)) (pw_or (pt_not (pt_val (pe_call (ok_lw_whole T) (hr.mono (by decide)) (by rfl) T.lw_whole.g T.lw_whole.F.kp T.lw_whole.b .nil pass0 (pa_cons (pv 6) pa_nil)))) (pw_or1 (pt_not (pt_val (pe_call (ok_lw_whole T) (hr.mono (by decide)) (by rfl) T.lw_whole.g T.lw_whole.F.kp T.lw_whole.b .nil pass0 (pa_cons (pv 7) pa_nil)))))))) (pss_one (ps_ret pe_bl)) pss_nil)
      (pss_one (ps_ret (pe_and (pe_cmpR op_eq (pv 6) (pv 3) (nomark _)) (pe_one (pe_cmpR op_eq (pv 7) (pe_call (ok_lw_doubled T) (hr.mono (by decide)) (by rfl) T.lw_doubled.g T.lw_doubled.F.kp T.lw_doubled.b .nil pass0 (pa_cons (pv 1) pa_nil)) (nomark _))))))))))))))), ?_⟩
    -- the bound
    have hb := mod_in (lwCell ns 0) (show (0 : Int) < 12 by decide)
    refine q_asg (ev_op ev_c (ev_op (ev_call (ea_cons (ev_var rfl) (ea_cons ev_c ea_nil)) (sv_cell hS (by decide) (by decide))) ev_c (rv_I (by decide))) rv_I0) fun H1 e1 => ?_
    obtain ⟨b, hbe⟩ : ∃ b, b = 1 + lwCell ns 0 % 12 := ⟨_, rfl⟩
    rw [← hbe]
    have b1 : 1 ≤ b := by omega
    have b2 : b ≤ 12 := by omega
    -- the lengths
    have hn := mod_in (lwCell ns 1) (show (0 : Int) < 25 by decide)
    have c1 := el_lcR1 (σ := [some (V.ref a), some (V.int b), none, none, none, none, none, none, none]) (H := H1) (j := 8) (vs := [8]) (t := tYes) (n := lwCell ns 1 % 25)
      (te := tOp (rI0 fun i j => .int (i + j)) (tC (.int 1)) (tOp (rI (fun _ j => 0 < j) fun i j => .int (i % j)) (tCall (spLwCell K) [] E0 (tCons (tVar 0) (tCons (tOp (rI0 fun i j => .int (i + j)) (tC (.int 3)) (tVar 8)) tNil))) (tVar 1)))
      (ta := tCons (tOp (rI (fun _ j => 0 < j) fun i j => .int (i % j)) (tCall (spLwCell K) [] E0 (tCons (tVar 0) (tCons (tC (.int 1)) tNil))) (tC (.int 25))) tNil)
      (fun _ => true) (fun i => .int (1 + lwCell ns (3 + (i : Int)) % b))
      (ea_cons (ev_op (ev_call (ea_cons (ev_var rfl) (ea_cons ev_c ea_nil)) (sv_cell (ex_l e1 hS) (by decide) (by decide))) ev_c (rv_I (by decide))) ea_nil) ⟨hn.1, by omega⟩ (fun x => rfl) (fun i H3 e3 hi => et_yes)
      (fun i H3 e3 hi _ => ev_op ev_c (ev_op (ev_call (ea_cons (ev_var rfl) (ea_cons (ev_op ev_c (ev_var rfl) rv_I0) ea_nil)) (sv_cell (ex_l (e1.trans e3) hS) (by omega) (by omega))) (ev_var rfl) (rv_I (show 0 < b by omega))) rv_I0)
    rw [given_all] at c1
    refine q_asgL c1 fun p H2 hp e2 h2 => ?_
    obtain ⟨l1, hl1, hk1, hz1⟩ : ∃ l1 : List Int, (List.range (lwCell ns 1 % 25).toNat).map (fun (i : Nat) => V.int (1 + lwCell ns (3 + (i : Int)) % b)) = l1.map V.int ∧ (∀ l ∈ l1, 1 ≤ l ∧ l ≤ b) ∧ l1.length ≤ 24 := by
      refine ⟨(List.range (lwCell ns 1 % 25).toNat).map (fun (i : Nat) => 1 + lwCell ns (3 + (i : Int)) % b), by rw [List.map_map]; rfl, fun l hl => ?_, by rw [List.length_map, List.length_range]; omega⟩
      obtain ⟨i, _, rfl⟩ := List.mem_map.mp hl
      have z := mod_in (lwCell ns (3 + (i : Int))) (show 0 < b by omega)
      omega
    rw [hl1] at h2
    have e12 := e1.trans e2
    -- all alike but one, or not
    refine q_cut (M := fun σ' H' => Ex H H' ∧ ∃ (p : Addr) (ls : List Int) (v : Option V), σ' = [some (V.ref a), some (V.int b), some (V.ref p), none, none, none, none, none, v] ∧ H' p = some (.lst (ls.map V.int)) ∧ (∀ l ∈ ls, 1 ≤ l ∧ l ≤ b) ∧ ls.length ≤ 24) ?_ fun σ' H' hM => ?_
    · refine s_when (et_test (ev_op (ev_op (ev_call (ea_cons (ev_var rfl) (ea_cons ev_c ea_nil)) (sv_cell (ex_l e12 hS) (by decide) (by decide))) ev_c (rv_I (by decide))) ev_c (rv_eq rfl))) (fun hb H3 e3 => ?_) (fun hb H3 e3 => ⟨e12.trans e3, p, l1, _, rfl, e3 _ _ h2, hk1, hz1⟩)
      have e13 := e12.trans e3
      have h3 := e3 _ _ h2
      have cL := el_sl (K := K) (σ := [some (V.ref a), some (V.int b), some (V.ref p), none, none, none, none, none, none]) (H := H3) (te := tVar 2) (tl := tNoPart) (th := tPart (tC (.int 1))) (ev_var rfl) eo_none (eo_some ev_c) (sq_of h3)
      have cT := el_sl (K := K) (σ := [some (V.ref a), some (V.int b), some (V.ref p), none, none, none, none, none, none]) (H := H3) (te := tVar 2) (tl := tPart (tC (.int 1))) (th := tNoPart) (ev_var rfl) (eo_some ev_c) eo_none (sq_of h3)
      rw [show ((1 : Int)) = ((1 : Nat) : Int) from rfl, cutV_to] at cL
      rw [cutV_from1] at cT
      have cC := el_lcNL (K := K) (σ := [some (V.ref a), some (V.int b), some (V.ref p), none, none, none, none, none, none]) (H := H3) (j := 8) (vs := [8]) (t := tYes)
        (te := tOp (rI0 fun i j => .int (i + j)) (tC (.int 1)) (tOp (rI (fun _ j => 0 < j) fun i j => .int (i % j)) (tOp (rI CDiv fun i j => .int (i / j)) (tCall (spLwCell K) [] E0 (tCons (tVar 0) (tCons (tC (.int 2)) tNil))) (tC (.int 3))) (tVar 1)))
        (fun _ => true) (fun _ => .int (1 + lwCell ns 2 / 3 % b)) cT (by simp; omega) (fun x => rfl) (fun i x H4 e4 _ => et_yes)
        (fun i x H4 e4 _ _ => ev_op ev_c (ev_op (ev_op (ev_call (ea_cons (ev_var rfl) (ea_cons ev_c ea_nil)) (sv_cell (ex_l (e13.trans e4) hS) (by decide) (by decide))) ev_c (rv_I ⟨by decide, by decide⟩)) (ev_var rfl) (rv_I (show 0 < b by omega))) rv_I0)
      rw [given_all] at cC
      refine s_asgL (el_cat cL cC (by simp; omega)) fun r H4 hr4 e4 h4 => ?_
      have hc := mod_in (lwCell ns 2 / 3) (show 0 < b by omega)
      refine ⟨e13.trans e4, r, l1.take 1 ++ (List.range (l1.drop 1).length).map (fun _ => 1 + lwCell ns 2 / 3 % b), _, rfl, ?_, fun l hl => ?_, ?_⟩
      · rw [h4, List.map_append, List.map_take, List.map_map, ← List.map_drop, List.length_map]
        rfl
      · rcases List.mem_append.mp hl with h | h
        · exact hk1 l (List.mem_of_mem_take h)
        · obtain ⟨_, _, rfl⟩ := List.mem_map.mp h
          omega
      · simp
        omega
    -- the due sum
    · obtain ⟨e3, p, ls, v8, rfl, hp, hk, hz⟩ := hM
      refine q_asg ev_c fun H4 e4 => ?_
      have hp4 := e4 _ _ hp
      have e34 := e3.trans e4
      refine q_forLn (ev_var rfl) (sq_of hp4) (fun i σ' H' => Ex H4 H' ∧ ∃ v4, σ' = [some (V.ref a), some (V.int b), some (V.ref p), some (V.int ((ls.take i).map fun l => (2 : Int) ^ (b - l).toNat).sum), v4, none, none, none, v8]) (fun H5 e5 => ⟨e5, _, rfl⟩) (fun i σ' H' _ hP => sq_of (hP.1 _ _ hp4)) (fun i x σ' H' hx hP => ?_) fun σ' H' hP => ?_
      · obtain ⟨e5, v4, rfl⟩ := hP
        obtain ⟨l, hl, rfl⟩ : ∃ l, ls[i]? = some l ∧ x = .int l := by
          rw [List.getElem?_map] at hx
          obtain ⟨l, hl, rfl⟩ := Option.map_eq_some_iff.mp hx
          exact ⟨l, hl, rfl⟩
        have hkl := hk l (List.mem_of_getElem? hl)
        refine s_asg (ev_op (ev_var rfl) (ev_call (ea_cons (ev_op (ev_var rfl) (ev_var rfl) rv_I0) ea_nil) (sv_doubled (by omega) (by omega))) rv_I0) fun H6 e6 => ?_
        refine ⟨e5.trans e6, some (.int l), ?_⟩
        rw [List.take_add_one, hl, List.map_append, List.sum_append]
        show _ = [_, _, _, some (V.int (_ + ([(2 : Int) ^ (b - l).toNat]).sum)), _, _, _, _, _]
        rw [List.sum_cons, List.sum_nil, Int.add_zero]
        rfl
      · obtain ⟨e5, v4, rfl⟩ := hP
        rw [List.length_map, List.take_length]
        have e45 := e34.trans e5
        have hp5 := e5 _ _ hp4
        -- list, counted, room
        refine q_asgL (el_list (ev_var rfl) (sq_of hp5)) fun r H6 hr6 e6 h6 => ?_
        have hall : okLens 1 b (ls.map V.int) = true := by
          unfold okLens
          rw [List.length_map, decide_eq_true hz, Bool.true_and, List.all_eq_true]
          intro x hx
          obtain ⟨l, hl, rfl⟩ := List.mem_map.mp hx
          exact within_yes (hk l hl).1 (hk l hl).2
        refine q_asg (v := .int (sumOf b (ls.map V.int))) (ev_call (ea_cons (ev_var rfl) (ea_cons (ev_var rfl) ea_nil)) fun H7 e7 Q7 q7 E7 => ?_) fun H7 e7 => ?_
        · refine ⟨r, ls.map V.int, .int b, rfl, sq_of (e7 _ _ h6), fun x hx => ?_, .int b, fun c hc _ _ _ => ?_, fun c hc _ _ hf => ?_, fun hf => ?_⟩
          · obtain ⟨l, hl, rfl⟩ := List.mem_map.mp hx
            exact .int l
          · cases hc
            exact q7
          · cases hc
            rw [hall] at hf
            cases hf
          · rw [within_yes b1 b2] at hf
            cases hf
        refine q_asg (ev_call (ea_cons (ev_var rfl) ea_nil) (sv_room b1 b2)) fun H8 e8 => ?_
        have e78 := e7.trans e8
        refine q_when (et_or (et_test (ev_neD (ev_var rfl) (ev_var rfl) (dp_ints (sq_of (e78 _ _ h6))) (dp_ints (sq_of ((e6.trans e78) _ _ hp5))) (shaped_ints _) (shaped_ints _))) fun _ => et_or (et_not (et_B (ev_call (ea_cons (ev_var rfl) ea_nil) (sv_whole (.int _))))) fun _ => et_not (et_B (ev_call (ea_cons (ev_var rfl) ea_nil) (sv_whole (.int _))))) (fun hb _ _ => ?_) (fun hb H9 e9 => ?_)
        · rw [eqv_same (shaped_ints ls)] at hb
          exact absurd (show false = true from hb) (by decide)
        · refine s_ret (ev_andV (ev_op (ev_var rfl) (ev_var rfl) (rv_eq rfl)) fun _ => ev_op (ev_var rfl) (ev_call (ea_cons (ev_var rfl) ea_nil) (sv_doubled (by omega) (by omega))) (rv_eq rfl)) fun H10 e10 => ?_
          rw [sum_counted ls hk]
          have z := q H10
          simpa using z
end
end Sl
/-! ### what the top has written, and the end -/
namespace Sl
open PySem PySem.Spec PyProof.Rows L2 Evl
theorem all_mk {P : Program} {w : World} {K : PySem.W.Frag} {h : Heap} {mg : Str → Option Value} {fa C_CodeError C_BadBound C_BadLengths f_is_number f_check_bound f_check_lengths f_places f_room f_counted f_lw_cell f_lw_whole f_lw_doubled f_law : Addr} (X : K.In h) (G : h.Ns mainGlobals mg) (hfa : mg "law" = some (.ref fa))
    (a_CodeError : PySem.W.nsIn K mainGlobals "CodeError" = some (some (.ref C_CodeError)))
    (x_CodeError : PySem.W.excIn K C_CodeError [.type "ValueError", .type "Exception", .type "BaseException", .type "object"] "ValueError.__new__" = true)
    (k_CodeError : PySem.W.keepIn K (.ref C_CodeError) = true)
    (b_CodeError : PySem.W.subIn K (.ref C_CodeError) (.type "BaseException") = some true)
    (t_CodeError : PySem.W.typeIn K (.ref C_CodeError) = some (.type "type"))
    (a_BadBound : PySem.W.nsIn K mainGlobals "BadBound" = some (some (.ref C_BadBound)))
    (x_BadBound : PySem.W.excIn K C_BadBound [.type "ValueError", .type "Exception", .type "BaseException", .type "object"] "ValueError.__new__" = true)
    (k_BadBound : PySem.W.keepIn K (.ref C_BadBound) = true)
    (b_BadBound : PySem.W.subIn K (.ref C_BadBound) (.type "BaseException") = some true)
    (t_BadBound : PySem.W.typeIn K (.ref C_BadBound) = some (.type "type"))
    (a_BadLengths : PySem.W.nsIn K mainGlobals "BadLengths" = some (some (.ref C_BadLengths)))
    (x_BadLengths : PySem.W.excIn K C_BadLengths [.type "ValueError", .type "Exception", .type "BaseException", .type "object"] "ValueError.__new__" = true)
    (k_BadLengths : PySem.W.keepIn K (.ref C_BadLengths) = true)
    (b_BadLengths : PySem.W.subIn K (.ref C_BadLengths) (.type "BaseException") = some true)
    (t_BadLengths : PySem.W.typeIn K (.ref C_BadLengths) = some (.type "type"))
    {oc_is_number kV_is_number dc_is_number pm_is_number cd_is_number ct_is_number : Value} {od_is_number an_is_number : Option Addr} {sl_is_number : Array (Option Value)}
    (a_is_number : PySem.W.nsIn K mainGlobals "is_number" = some (some (.ref f_is_number)))
    (l_is_number : K.lookup f_is_number = some ⟨oc_is_number, od_is_number, .func (PySem.W.fnOf "is_number" "is_number" (defArgs s_is_number) (defBody s_is_number) (defScope s_is_number) .none kV_is_number dc_is_number pm_is_number an_is_number cd_is_number ct_is_number), sl_is_number⟩)
    (c_is_number : PySem.W.codeIn K cd_is_number "is_number" = true)
    (k_is_number : PySem.W.keepIn K (.ref f_is_number) = true)
    {oc_check_bound kV_check_bound dc_check_bound pm_check_bound cd_check_bound ct_check_bound : Value} {od_check_bound an_check_bound : Option Addr} {sl_check_bound : Array (Option Value)}
    (a_check_bound : PySem.W.nsIn K mainGlobals "check_bound" = some (some (.ref f_check_bound)))
    (l_check_bound : K.lookup f_check_bound = some ⟨oc_check_bound, od_check_bound, .func (PySem.W.fnOf "check_bound" "check_bound" (defArgs s_check_bound) (defBody s_check_bound) (defScope s_check_bound) .none kV_check_bound dc_check_bound pm_check_bound an_check_bound cd_check_bound ct_check_bound), sl_check_bound⟩)
    (c_check_bound : PySem.W.codeIn K cd_check_bound "check_bound" = true)
    (k_check_bound : PySem.W.keepIn K (.ref f_check_bound) = true)
    {oc_check_lengths kV_check_lengths dc_check_lengths pm_check_lengths cd_check_lengths ct_check_lengths : Value} {od_check_lengths an_check_lengths : Option Addr} {sl_check_lengths : Array (Option Value)}
    (a_check_lengths : PySem.W.nsIn K mainGlobals "check_lengths" = some (some (.ref f_check_lengths)))
    (l_check_lengths : K.lookup f_check_lengths = some ⟨oc_check_lengths, od_check_lengths, .func (PySem.W.fnOf "check_lengths" "check_lengths" (defArgs s_check_lengths) (defBody s_check_lengths) (defScope s_check_lengths) .none kV_check_lengths dc_check_lengths pm_check_lengths an_check_lengths cd_check_lengths ct_check_lengths), sl_check_lengths⟩)
    (c_check_lengths : PySem.W.codeIn K cd_check_lengths "check_lengths" = true)
    (k_check_lengths : PySem.W.keepIn K (.ref f_check_lengths) = true)
    {oc_places kV_places dc_places pm_places cd_places ct_places : Value} {od_places an_places : Option Addr} {sl_places : Array (Option Value)}
    (a_places : PySem.W.nsIn K mainGlobals "places" = some (some (.ref f_places)))
    (l_places : K.lookup f_places = some ⟨oc_places, od_places, .func (PySem.W.fnOf "places" "places" (defArgs s_places) (defBody s_places) (defScope s_places) .none kV_places dc_places pm_places an_places cd_places ct_places), sl_places⟩)
    (c_places : PySem.W.codeIn K cd_places "places" = true)
    (k_places : PySem.W.keepIn K (.ref f_places) = true)
    {oc_room kV_room dc_room pm_room cd_room ct_room : Value} {od_room an_room : Option Addr} {sl_room : Array (Option Value)}
    (a_room : PySem.W.nsIn K mainGlobals "room" = some (some (.ref f_room)))
    (l_room : K.lookup f_room = some ⟨oc_room, od_room, .func (PySem.W.fnOf "room" "room" (defArgs s_room) (defBody s_room) (defScope s_room) .none kV_room dc_room pm_room an_room cd_room ct_room), sl_room⟩)
    (c_room : PySem.W.codeIn K cd_room "room" = true)
    (k_room : PySem.W.keepIn K (.ref f_room) = true)
    {oc_counted kV_counted dc_counted pm_counted cd_counted ct_counted : Value} {od_counted an_counted : Option Addr} {sl_counted : Array (Option Value)}
    (a_counted : PySem.W.nsIn K mainGlobals "counted" = some (some (.ref f_counted)))
    (l_counted : K.lookup f_counted = some ⟨oc_counted, od_counted, .func (PySem.W.fnOf "counted" "counted" (defArgs s_counted) (defBody s_counted) (defScope s_counted) .none kV_counted dc_counted pm_counted an_counted cd_counted ct_counted), sl_counted⟩)
    (c_counted : PySem.W.codeIn K cd_counted "counted" = true)
    (k_counted : PySem.W.keepIn K (.ref f_counted) = true)
    {oc_lw_cell kV_lw_cell dc_lw_cell pm_lw_cell cd_lw_cell ct_lw_cell : Value} {od_lw_cell an_lw_cell : Option Addr} {sl_lw_cell : Array (Option Value)}
    (a_lw_cell : PySem.W.nsIn K mainGlobals "_law_cell" = some (some (.ref f_lw_cell)))
    (l_lw_cell : K.lookup f_lw_cell = some ⟨oc_lw_cell, od_lw_cell, .func (PySem.W.fnOf "_law_cell" "_law_cell" (defArgs s_lw_cell) (defBody s_lw_cell) (defScope s_lw_cell) .none kV_lw_cell dc_lw_cell pm_lw_cell an_lw_cell cd_lw_cell ct_lw_cell), sl_lw_cell⟩)
    (c_lw_cell : PySem.W.codeIn K cd_lw_cell "_law_cell" = true)
    (k_lw_cell : PySem.W.keepIn K (.ref f_lw_cell) = true)
    {oc_lw_whole kV_lw_whole dc_lw_whole pm_lw_whole cd_lw_whole ct_lw_whole : Value} {od_lw_whole an_lw_whole : Option Addr} {sl_lw_whole : Array (Option Value)}
    (a_lw_whole : PySem.W.nsIn K mainGlobals "_law_whole" = some (some (.ref f_lw_whole)))
    (l_lw_whole : K.lookup f_lw_whole = some ⟨oc_lw_whole, od_lw_whole, .func (PySem.W.fnOf "_law_whole" "_law_whole" (defArgs s_lw_whole) (defBody s_lw_whole) (defScope s_lw_whole) .none kV_lw_whole dc_lw_whole pm_lw_whole an_lw_whole cd_lw_whole ct_lw_whole), sl_lw_whole⟩)
    (c_lw_whole : PySem.W.codeIn K cd_lw_whole "_law_whole" = true)
    (k_lw_whole : PySem.W.keepIn K (.ref f_lw_whole) = true)
    {oc_lw_doubled kV_lw_doubled dc_lw_doubled pm_lw_doubled cd_lw_doubled ct_lw_doubled : Value} {od_lw_doubled an_lw_doubled : Option Addr} {sl_lw_doubled : Array (Option Value)}
    (a_lw_doubled : PySem.W.nsIn K mainGlobals "_law_doubled" = some (some (.ref f_lw_doubled)))
    (l_lw_doubled : K.lookup f_lw_doubled = some ⟨oc_lw_doubled, od_lw_doubled, .func (PySem.W.fnOf "_law_doubled" "_law_doubled" (defArgs s_lw_doubled) (defBody s_lw_doubled) (defScope s_lw_doubled) .none kV_lw_doubled dc_lw_doubled pm_lw_doubled an_lw_doubled cd_lw_doubled ct_lw_doubled), sl_lw_doubled⟩)
    (c_lw_doubled : PySem.W.codeIn K cd_lw_doubled "_law_doubled" = true)
    (k_lw_doubled : PySem.W.keepIn K (.ref f_lw_doubled) = true)
    {oc_law kV_law dc_law pm_law cd_law ct_law : Value} {od_law an_law : Option Addr} {sl_law : Array (Option Value)}
    (a_law : PySem.W.nsIn K mainGlobals "law" = some (some (.ref f_law)))
    (l_law : K.lookup f_law = some ⟨oc_law, od_law, .func (PySem.W.fnOf "law" "law" (defArgs s_law) (defBody s_law) (defScope s_law) .none kV_law dc_law pm_law an_law cd_law ct_law), sl_law⟩)
    (c_law : PySem.W.codeIn K cd_law "law" = true)
    (k_law : PySem.W.keepIn K (.ref f_law) = true)
    {tk_MOST_SIGNS : Tok} (n_MOST_SIGNS : PySem.W.nsIn K mainGlobals "MOST_SIGNS" = some (some (.int 24 tk_MOST_SIGNS)))
    {tk_MOST_BITS : Tok} (n_MOST_BITS : PySem.W.nsIn K mainGlobals "MOST_BITS" = some (some (.int 12 tk_MOST_BITS)))
    (z_bool : PySem.W.nsIn K mainGlobals "bool" = some none)
    (z_int : PySem.W.nsIn K mainGlobals "int" = some none)
    (z_isinstance : PySem.W.nsIn K mainGlobals "isinstance" = some none)
    (z_len : PySem.W.nsIn K mainGlobals "len" = some none)
    (z_list : PySem.W.nsIn K mainGlobals "list" = some none)
    (z_range : PySem.W.nsIn K mainGlobals "range" = some none)
    (z_sum : PySem.W.nsIn K mainGlobals "sum" = some none)
    : ∃ fd : FuncData, (∀ (s : Shared) (u : Value), BindsTo s fd ⟨[u], []⟩ [("_law_script", u)]) ∧ ∀ base : Heap, K.In base → base.Ns mainGlobals mg → FnOk P w K mg base CX0 4 fa fd ["_law_script"] (spLaw K) := by
  have e := hfa.symm.trans (PySem.W.mg_of X G a_law)
  cases e
  have F_is_number := fun_mk (st := s_is_number) l_is_number c_is_number k_is_number
  have F_check_bound := fun_mk (st := s_check_bound) l_check_bound c_check_bound k_check_bound
  have F_check_lengths := fun_mk (st := s_check_lengths) l_check_lengths c_check_lengths k_check_lengths
  have F_places := fun_mk (st := s_places) l_places c_places k_places
  have F_room := fun_mk (st := s_room) l_room c_room k_room
  have F_counted := fun_mk (st := s_counted) l_counted c_counted k_counted
  have F_lw_cell := fun_mk (st := s_lw_cell) l_lw_cell c_lw_cell k_lw_cell
  have F_lw_whole := fun_mk (st := s_lw_whole) l_lw_whole c_lw_whole k_lw_whole
  have F_lw_doubled := fun_mk (st := s_lw_doubled) l_lw_doubled c_lw_doubled k_lw_doubled
  have F_law := fun_mk (st := s_law) l_law c_law k_law
  have T : Top K mg ⟨f_is_number, _, f_check_bound, _, f_check_lengths, _, f_places, _, f_room, _, f_counted, _, f_lw_cell, _, f_lw_whole, _, f_lw_doubled, _, fa, _, C_CodeError, C_BadBound, C_BadLengths⟩ := ⟨⟨PySem.W.mg_none_of X G z_bool, PySem.W.mg_none_of X G z_int, PySem.W.mg_none_of X G z_isinstance, PySem.W.mg_none_of X G z_len, PySem.W.mg_none_of X G z_list, PySem.W.mg_none_of X G z_range, PySem.W.mg_none_of X G z_sum⟩,
    ⟨F_is_number, PySem.W.mg_of X G a_is_number, F_is_number.binds (ps := ["thing", "least", "most"]) fun _ _ _ _ _ _ us hl => match us, hl with | [_, _, _], _ => rfl⟩,
    ⟨F_check_bound, PySem.W.mg_of X G a_check_bound, F_check_bound.binds (ps := ["bound"]) fun _ _ _ _ _ _ us hl => match us, hl with | [_], _ => rfl⟩,
    ⟨F_check_lengths, PySem.W.mg_of X G a_check_lengths, F_check_lengths.binds (ps := ["lengths", "bound"]) fun _ _ _ _ _ _ us hl => match us, hl with | [_, _], _ => rfl⟩,
    ⟨F_places, PySem.W.mg_of X G a_places, F_places.binds (ps := ["length", "bound"]) fun _ _ _ _ _ _ us hl => match us, hl with | [_, _], _ => rfl⟩,
    ⟨F_room, PySem.W.mg_of X G a_room, F_room.binds (ps := ["bound"]) fun _ _ _ _ _ _ us hl => match us, hl with | [_], _ => rfl⟩,
    ⟨F_counted, PySem.W.mg_of X G a_counted, F_counted.binds (ps := ["lengths", "bound"]) fun _ _ _ _ _ _ us hl => match us, hl with | [_, _], _ => rfl⟩,
    ⟨F_lw_cell, PySem.W.mg_of X G a_lw_cell, F_lw_cell.binds (ps := ["_law_script", "_law_k"]) fun _ _ _ _ _ _ us hl => match us, hl with | [_, _], _ => rfl⟩,
    ⟨F_lw_whole, PySem.W.mg_of X G a_lw_whole, F_lw_whole.binds (ps := ["_law_found"]) fun _ _ _ _ _ _ us hl => match us, hl with | [_], _ => rfl⟩,
    ⟨F_lw_doubled, PySem.W.mg_of X G a_lw_doubled, F_lw_doubled.binds (ps := ["_law_times"]) fun _ _ _ _ _ _ us hl => match us, hl with | [_], _ => rfl⟩,
    ⟨F_law, PySem.W.mg_of X G a_law, F_law.binds (ps := ["_law_script"]) fun _ _ _ _ _ _ us hl => match us, hl with | [_], _ => rfl⟩,
    ⟨PySem.W.mg_of X G a_CodeError, x_CodeError, k_CodeError, b_CodeError, t_CodeError⟩,
    ⟨PySem.W.mg_of X G a_BadBound, x_BadBound, k_BadBound, b_BadBound, t_BadBound⟩,
    ⟨PySem.W.mg_of X G a_BadLengths, x_BadLengths, k_BadLengths, b_BadLengths, t_BadLengths⟩,
    ⟨_, PySem.W.mg_of X G n_MOST_SIGNS, ⟨_, rfl⟩⟩,
    ⟨_, PySem.W.mg_of X G n_MOST_BITS, ⟨_, rfl⟩⟩⟩
  exact ⟨_, fun s u => .of_eq rfl, fun base _ _ => ok_law T⟩
end Sl
open PySem PySem.W PyProof.Rows
set_option maxRecDepth 100000 in
set_option maxHeartbeats 0 in
theorem PySem.Challenge.cw_shortlimit_k01_places_counted_holds : PySem.Challenge.rw_shortlimit_k01_places_counted.Holds := by
  w_on; o_law; k_head; (case hw => w_witness2)
  k_fill
  refine L2.walk_of (l := PySem.Challenge.rw_shortlimit_k01_places_counted) (n := 63) (k := 4) (x := "_law_script") (CX := fun _ => L2.CX0) (sp := fun w => Sl.spLaw _) rfl (by decide) rfl ⟨rfl, by decide, by decide⟩ (fun w h Y => PySem.W.kIn_of Y) ?F (fun _ _ a ns hl _ hS => ⟨a, ns, rfl, hS, hl, fun _ => rfl⟩) (fun _ _ _ _ _ h => h)
  case F =>
    intro w mg fa h KX G hmg
    refine' Sl.all_mk KX G hmg ?a_CodeError ?x_CodeError ?k_CodeError ?b_CodeError ?t_CodeError ?a_BadBound ?x_BadBound ?k_BadBound ?b_BadBound ?t_BadBound ?a_BadLengths ?x_BadLengths ?k_BadLengths ?b_BadLengths ?t_BadLengths ?a_is_number ?l_is_number ?c_is_number ?k_is_number ?a_check_bound ?l_check_bound ?c_check_bound ?k_check_bound ?a_check_lengths ?l_check_lengths ?c_check_lengths ?k_check_lengths ?a_places ?l_places ?c_places ?k_places ?a_room ?l_room ?c_room ?k_room ?a_counted ?l_counted ?c_counted ?k_counted ?a_lw_cell ?l_lw_cell ?c_lw_cell ?k_lw_cell ?a_lw_whole ?l_lw_whole ?c_lw_whole ?k_lw_whole ?a_lw_doubled ?l_lw_doubled ?c_lw_doubled ?k_lw_doubled ?a_law ?l_law ?c_law ?k_law ?n_MOST_SIGNS ?n_MOST_BITS ?z_bool ?z_int ?z_isinstance ?z_len ?z_list ?z_range ?z_sum
    (case a_CodeError => k_is)
    (case x_CodeError => k_exc)
    (case k_CodeError => k_is)
    (case b_CodeError => k_is)
    (case t_CodeError => k_is)
    (case a_BadBound => k_is)
    (case x_BadBound => k_exc)
    (case k_BadBound => k_is)
    (case b_BadBound => k_is)
    (case t_BadBound => k_is)
    (case a_BadLengths => k_is)
    (case x_BadLengths => k_exc)
    (case k_BadLengths => k_is)
    (case b_BadLengths => k_is)
    (case t_BadLengths => k_is)
    (case a_is_number => k_is)
    (case l_is_number => k_is)
    (case c_is_number => k_is)
    (case k_is_number => k_is)
    (case a_check_bound => k_is)
    (case l_check_bound => k_is)
    (case c_check_bound => k_is)
    (case k_check_bound => k_is)
    (case a_check_lengths => k_is)
    (case l_check_lengths => k_is)
    (case c_check_lengths => k_is)
    (case k_check_lengths => k_is)
    (case a_places => k_is)
    (case l_places => k_is)
    (case c_places => k_is)
    (case k_places => k_is)
    (case a_room => k_is)
    (case l_room => k_is)
    (case c_room => k_is)
    (case k_room => k_is)
    (case a_counted => k_is)
    (case l_counted => k_is)
    (case c_counted => k_is)
    (case k_counted => k_is)
    (case a_lw_cell => k_is)
    (case l_lw_cell => k_is)
    (case c_lw_cell => k_is)
    (case k_lw_cell => k_is)
    (case a_lw_whole => k_is)
    (case l_lw_whole => k_is)
    (case c_lw_whole => k_is)
    (case k_lw_whole => k_is)
    (case a_lw_doubled => k_is)
    (case l_lw_doubled => k_is)
    (case c_lw_doubled => k_is)
    (case k_lw_doubled => k_is)
    (case a_law => k_is)
    (case l_law => k_is)
    (case c_law => k_is)
    (case k_law => k_is)
    (case n_MOST_SIGNS => k_is)
    (case n_MOST_BITS => k_is)
    (case z_bool => k_is)
    (case z_int => k_is)
    (case z_isinstance => k_is)
    (case z_len => k_is)
    (case z_list => k_is)
    (case z_range => k_is)
    (case z_sum => k_is)

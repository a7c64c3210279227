import PyProof.Rows.All
import Wide.All
import OpenK.AllK
import Wide.FinOn
import HandS.ForMost
import HandS.ForExc
import HandS.Evl
import HandS.IsInst
import HandS.FStr
import HandS.RaiseMore
import HandS.More
import HandS.Conv
import HandS.HotCalls
import HandS.ExcIs
import HandS.StrMore
import HandS.SortRule
import HandS.SortInts
import HandS.TupAny
import HandS.SetFor
import HandS.TupLen
import HandS.Walk
import HandS.Zip
import HandS.DictComp
import HandS.Lambda
import HandS.EndTab
import KE.DataMinMax
import KE.SortKeyHeap
import PySem.Challenge.RW_shortlimit_k13_a_reader
set_option Elab.async false
set_option linter.all false
set_option maxRecDepth 100000
set_option maxHeartbeats 4000000
/-! ### own words over the hand layer: what more evaluates, and a search along a reading -/
namespace Sl
open PySem L2 Evl
theorem et_yes {σ : L2.St} {H : Hp} : EvT tYes σ H true := fun H1 _ _ q => q H1 (Ex.refl H1)
theorem ex_of {H H' : Hp} (e : Same H H') : Ex H H' := e
section
variable {K : PySem.W.Frag} {σ : L2.St} {H H' : Hp} {ta tb te tx tc : TE} {t u : TT} {x y z v : V}
/-- two lists joined: both operands new -/
theorem el_cat {xs ys : List V} (ha : EvL ta σ H xs) (hb : EvL tb σ H ys) (hl : xs.length + ys.length ≤ 100000) : EvL (tOp rCat ta tb) σ H (xs ++ ys) := fun H1 e Q q =>
  ha H1 e _ fun p H2 hp e2 h2 => hb H2 (e.trans e2) _ fun r H3 hr e3 h3 =>
    ⟨p, r, xs, ys, rfl, rfl, e3 p _ h2, h3, sz_of hl, fun l hl' => q l _ (fresh_back e2 (fresh_back e3 hl')) ((e2.trans e3).trans (Ex.new hl')) upd_same⟩
/-- a list of one repeated -/
theorem el_rep {xs : List V} {n : Nat} (ha : EvL ta σ H xs) (hb : Ev tb σ H (.int (n : Int))) (hl : xs.length * n ≤ 100000) (hn : n ≤ 100000) : EvL (tOp rRep ta tb) σ H (List.replicate n xs).flatten := fun H1 e Q q =>
  ha H1 e _ fun p H2 hp e2 h2 => hb H2 (e.trans e2) _ fun H3 e3 =>
    ⟨p, (n : Int), xs, rfl, rfl, e3 p _ h2, by omega, by omega, sz_of (by simpa using hl), fun l hl' => q l _ (fresh_back e2 (fresh_back e3 hl')) ((e2.trans e3).trans (Ex.new hl')) (by rw [upd_same]; simp)⟩
/-- a slice of a new list -/
theorem el_slN {xs : List V} {tl th : TO} {lo hi : Option Int} (h : EvL te σ H xs) (h1 : EvO tl σ H lo) (h2 : EvO th σ H hi) : EvL (tSl (rSlL K) te tl th) σ H (cutV xs lo hi) := fun H1 e Q q =>
  h H1 e _ fun a H2 ha e2 hx => h1 H2 (e.trans e2) _ fun H3 e3 => h2 H3 ((e.trans e2).trans e3) _ fun H4 e4 =>
    ⟨a, xs, rfl, sq_of (e4 a _ (e3 a _ hx)), fun p hp => q p _ (fresh_back ((e2.trans e3).trans e4) hp) (((e2.trans e3).trans e4).trans (Ex.new hp)) upd_same⟩
/-- a chain of two comparisons of whole numbers -/
theorem ev_chain {g g' : Int → Int → Bool} {i j k : Int} (ha : Ev ta σ H (.int i)) (hb : Ev tb σ H (.int j)) (hc : Ev tc σ H (.int k)) :
    Ev (tChain (rI0 fun i j => .bl (g i j)) (rI0 fun i j => .bl (g' i j)) ta tb tc) σ H (.bl (g i j && g' j k)) := fun H1 e Q q =>
  ha H1 e _ fun H2 e2 => hb H2 (e.trans e2) _ fun H3 e3 => ⟨i, j, rfl, rfl, g i j, rfl, by
    cases hg : g i j with
    | true =>
      rw [hg, Bool.true_and] at q
      show tc σ H3 _
      exact hc H3 ((e.trans e2).trans e3) _ fun H4 e4 => ⟨j, k, rfl, rfl, q H4 ((e2.trans e3).trans e4)⟩
    | false =>
      rw [hg, Bool.false_and] at q
      show Q (.bl false) H3
      exact q H3 (e2.trans e3)⟩
theorem ev_sum {ns : List Int} (h : EvL ta σ H (ns.map V.int)) : Ev (tCB (rSum K) (tCons ta tNil)) σ H (.int ns.sum) := fun H1 e Q q =>
  h H1 e _ fun a H2 _ e2 hx => ⟨a, ns, rfl, sq_of hx, q H2 e2⟩
theorem cutV_from1 (xs : List V) : cutV xs (some 1) none = xs.drop 1 := by
  unfold cutV
  rw [show HT.sIx xs.length 0 (some 1) = min 1 xs.length from HT.sIx_nat xs.length 0 1, HT.sIx_none]
  cases xs with
  | nil => rfl
  | cons x r =>
    simp
theorem cutV_to (xs : List V) (n : Nat) : cutV xs none (some (n : Int)) = xs.take n := by
  unfold cutV
  rw [HT.sIx_none, show HT.sIx xs.length xs.length (some (n : Int)) = min n xs.length from HT.sIx_nat xs.length _ n]
  simp
end
/-! ### what a thing handed in may be -/
def Thing (H : Hp) (x : V) : Prop := x = .non ∨ (∃ b, x = .bl b) ∨ (∃ i, x = .int i) ∨ (∃ s, x = .str s) ∨ ∃ a xs, x = .ref a ∧ (H a = some (.lst xs) ∨ H a = some (.tup xs))
theorem Thing.mono {H H' : Hp} {x : V} (e : Ex H H') (h : Thing H x) : Thing H' x := by
  rcases h with h | h | h | h | ⟨a, xs, h, g⟩
  · exact .inl h
  · exact .inr (.inl h)
  · exact .inr (.inr (.inl h))
  · exact .inr (.inr (.inr (.inl h)))
  · exact .inr (.inr (.inr (.inr ⟨a, xs, h, g.elim (fun g => .inl (e _ _ g)) fun g => .inr (e _ _ g)⟩)))
theorem Thing.int {H : Hp} (i : Int) : Thing H (.int i) := .inr (.inr (.inl ⟨i, rfl⟩))
def isBl : V → Bool
  | .bl _ => true
  | _ => false
def isNum : V → Bool
  | .bl _ => true
  | .int _ => true
  | _ => false
/-- a whole number from lo to hi -/
def within (lo hi : Int) : V → Bool
  | .int i => decide (lo ≤ i) && decide (i ≤ hi)
  | _ => false
theorem Thing.isi_bool {K : PySem.W.Frag} {H : Hp} {x : V} (h : Thing H x) : ∃ t, TyX K H x (.type t) ∧ PySem.W.kitOne K (.type t) (.type "bool") = some (isBl x) ∧ PySem.W.kitOne K (.type t) (.type "int") = some (isNum x) := by
  rcases h with rfl | ⟨b, rfl⟩ | ⟨i, rfl⟩ | ⟨s, rfl⟩ | ⟨a, xs, rfl, g | g⟩
  · exact ⟨_, .base .non, kit_ty (show kitB "NoneType" "bool" = some false by decide +kernel), kit_ty (show kitB "NoneType" "int" = some false by decide +kernel)⟩
  · exact ⟨_, .base (.bl _), kit_ty (show kitB "bool" "bool" = some true by decide +kernel), kit_ty (show kitB "bool" "int" = some true by decide +kernel)⟩
  · exact ⟨_, .base (.int _), kit_ty (show kitB "int" "bool" = some false by decide +kernel), kit_ty (show kitB "int" "int" = some true by decide +kernel)⟩
  · exact ⟨_, .base (.str _), kit_ty (show kitB "str" "bool" = some false by decide +kernel), kit_ty (show kitB "str" "int" = some false by decide +kernel)⟩
  · exact ⟨_, .base (.lst g), kit_ty (show kitB "list" "bool" = some false by decide +kernel), kit_ty (show kitB "list" "int" = some false by decide +kernel)⟩
  · exact ⟨_, .base (.tup g), kit_ty (show kitB "tuple" "bool" = some false by decide +kernel), kit_ty (show kitB "tuple" "int" = some false by decide +kernel)⟩
section
variable {K : PySem.W.Frag} {σ : L2.St} {H H' : Hp} {te : TE} {x : V}
theorem ev_isBool (h : Ev te σ H x) (k : Thing H x) : Ev (tCB (rIsi K) (tCons te (tCons (tC (.ty "bool")) tNil))) σ H (.bl (isBl x)) := fun H1 e Q q =>
  h H1 e _ fun H2 e2 => by
    obtain ⟨t, h1, h2, _⟩ := (k.mono (e.trans e2)).isi_bool (K := K)
    exact ⟨x, .ty "bool", _, _, _, rfl, .ty _, h1, h2, q H2 e2⟩
theorem ev_isInt (h : Ev te σ H x) (k : Thing H x) : Ev (tCB (rIsi K) (tCons te (tCons (tC (.ty "int")) tNil))) σ H (.bl (isNum x)) := fun H1 e Q q =>
  h H1 e _ fun H2 e2 => by
    obtain ⟨t, h1, _, h2⟩ := (k.mono (e.trans e2)).isi_bool (K := K)
    exact ⟨x, .ty "int", _, _, _, rfl, .ty _, h1, h2, q H2 e2⟩
end
/-! ### data compared -/
section
variable {K : PySem.W.Frag} {σ : L2.St} {H H' : Hp} {ta tb : TE} {x y : V}
theorem lay_all {n : Nat} : ∀ {xs : List PyData}, (∀ d ∈ xs, d.canLay0 = true ∧ d.depth ≤ n) → PyData.canLayAll0 xs = true ∧ PyData.depthAll xs ≤ n
  | [], _ => ⟨rfl, Nat.zero_le _⟩
  | d :: r, h => by
    have h1 := h d List.mem_cons_self
    have h2 := lay_all fun z hz => h z (List.mem_cons_of_mem _ hz)
    refine ⟨?_, ?_⟩
    · unfold PyData.canLayAll0
      rw [h1.1, h2.1]
      rfl
    · unfold PyData.depthAll
      exact Nat.max_le.mpr ⟨h1.2, h2.2⟩
theorem shaped_list {xs : List PyData} (h : ∀ d ∈ xs, d.canLay0 = true ∧ d.depth ≤ 60) : SeqAt.shaped (.list xs) = true := by
  have k := lay_all h
  unfold SeqAt.shaped PyData.canLay0 PyData.depth
  rw [k.1, decide_eq_true (show PyData.depthAll xs + 1 ≤ 64 by have := k.2; omega)]
  rfl
theorem shaped_tuple {xs : List PyData} (h : ∀ d ∈ xs, d.canLay0 = true ∧ d.depth ≤ 60) : SeqAt.shaped (.tuple xs) = true := by
  have k := lay_all h
  unfold SeqAt.shaped PyData.canLay0 PyData.depth
  rw [k.1, decide_eq_true (show PyData.depthAll xs + 1 ≤ 64 by have := k.2; omega)]
  rfl
theorem dpAll_map {α : Type} {f : α → V} {g : α → PyData} : ∀ {xs : List α}, (∀ z ∈ xs, Dp K H (f z) (g z)) → DpAll K H (xs.map f) (xs.map g)
  | [], _ => .nil
  | z :: r, h => .cons (h z List.mem_cons_self) (dpAll_map fun w hw => h w (List.mem_cons_of_mem _ hw))
mutual
theorem dp_mono (e : Ex H H') : ∀ (d : PyData) (v : V), Dp K H v d → Dp K H' v d
  | .none, _, h => by cases h; exact .non
  | .bool _, _, h => by cases h; exact .bl _
  | .int _, _, h => by cases h; exact .int _
  | .str _, _, h => by cases h; exact .str _
  | .list ds, _, h => by
    cases h with
    | lst hs ha => exact .lst (ex_l e hs) (dp_monoAll e ds _ ha)
  | .tuple ds, _, h => by
    cases h with
    | tup hs ha => exact .tup (ex_t e hs) (dp_monoAll e ds _ ha)
  | .dict _, _, h => by cases h
theorem dp_monoAll (e : Ex H H') : ∀ (ds : List PyData) (vs : List V), DpAll K H vs ds → DpAll K H' vs ds
  | [], _, h => by cases h; exact .nil
  | d :: ds, _, h => by
    cases h with
    | cons h1 h2 => exact .cons (dp_mono e d _ h1) (dp_monoAll e ds _ h2)
end
theorem dp_ints {a : Addr} {ns : List Int} (h : SqL K H a (ns.map V.int)) : Dp K H (.ref a) (.list (ns.map PyData.int)) := .lst h (dpAll_map fun _ _ => .int _)
theorem shaped_ints (ns : List Int) : SeqAt.shaped (.list (ns.map PyData.int)) = true := shaped_list fun d hd => by
  obtain ⟨i, _, rfl⟩ := List.mem_map.mp hd
  exact ⟨rfl, Nat.zero_le _⟩
theorem eqv_same {d : PyData} (h : SeqAt.shaped d = true) : PyData.eqv d d = true := SeqAt.eqv_refl d (Bool.and_eq_true_iff.mp h).1
theorem ev_eqD {d e : PyData} (ha : Ev ta σ H x) (hb : Ev tb σ H y) (hd : Dp K H x d) (he : Dp K H y e) (sd : SeqAt.shaped d = true) (se : SeqAt.shaped e = true) : Ev (tOp (rEqD K) ta tb) σ H (.bl (PyData.eqv d e)) := fun H1 g Q q =>
  ha H1 g _ fun H2 e2 => hb H2 (g.trans e2) _ fun H3 e3 => ⟨d, e, dp_mono ((g.trans e2).trans e3) d _ hd, dp_mono ((g.trans e2).trans e3) e _ he, sd, se, q H3 (e2.trans e3)⟩
theorem ev_neD {d e : PyData} (ha : Ev ta σ H x) (hb : Ev tb σ H y) (hd : Dp K H x d) (he : Dp K H y e) (sd : SeqAt.shaped d = true) (se : SeqAt.shaped e = true) : Ev (tOp (rNeD K) ta tb) σ H (.bl (!PyData.eqv d e)) := fun H1 g Q q =>
  ha H1 g _ fun H2 e2 => hb H2 (g.trans e2) _ fun H3 e3 => ⟨d, e, dp_mono ((g.trans e2).trans e3) d _ hd, dp_mono ((g.trans e2).trans e3) e _ he, sd, se, q H3 (e2.trans e3)⟩
end
end Sl

/-! ### a whole number's binary text: f'{n:b}' -/
namespace Sl
open PySem PySem.W PySem.Calls PyProof.Rows Builtin Builtin.Str Builtin.Int Builtin.Float
/-- the signs of a number's binary text -/
def binCps (n : Nat) : List Nat := (Nat.toDigits 2 n).map Char.toNat
def binText (n : Nat) : PySem.Str := ⟨(binCps n).toArray⟩
theorem spec_b : parseFormatSpec (PySem.Str.ofString "b").cps.toList "int" 62 = .ok { align := 62, type := some 98 } := by rfl
section
variable {prog : Program} {w : World} {A : Around} {E : Value → Shared → Prop} {s : Shared} {t : Tok} {a : Int}
theorem txt_of {M : Model} {A : Around} {E : Value → Shared → Prop} {s : Shared} {X T : PySem.Str} {Q : Value → Shared → Prop} (e : X = T) (hL : T.length ≤ sizeLine) (h : ∀ t k, Q (.str T t) { s with toks := k }) : wpAny M A (mkStr X) Q E s := by
  subst e
  exact wpAny_mkStr (h _ _) hL
theorem field_b {Q : Value → Shared → Prop} (hd : decide (a < 0) = false) (c : Nat) (cs : List Nat) (hl : binCps a.natAbs = c :: cs) (hz : (binText a.natAbs).length ≤ sizeLine) (h : ∀ t' k, Q (.str (binText a.natAbs) t') { s with toks := k }) : wpAny (model prog w) A (formatField (.int a t) (PySem.Str.ofString "b")) Q E s := by
  refine KXf.field_int (spec' := PySem.Str.ofString "b") rfl (by decide +kernel) (by decide +kernel) ?g h
  intro _
  apply KPc.meets_of
  intro _ _ _ _ _ _ hq
  unfold Builtin.«int.__format__»
  refine wpAny_bind (wpAny_of_eq (a := (_, _)) rfl ?_)
  refine wpAny_bind (wpAny_of_eq (a := _) rfl ?_)
  refine wpAny_ite (KPc.ite_no Bool.false_ne_true ?_)
  refine wpAny_bind (wpAny_typeNameOf (T := "str") (typeIs_str _ _ _) (by decide) fun _ => ?_)
  refine wpAny_bind (wpAny_of_eq (a := some _) rfl ?_)
  refine wpAny_ite (KPc.ite_no (by decide +kernel) ?_)
  refine wpAny_ite (KPc.ite_no (by decide +kernel) ?_)
  refine wpAny_bind (wpAny_typeNameOfCut_int ?_)
  rw [spec_b]
  refine wpAny_ite (KPc.ite_yes (by decide +kernel) ?_)
  conv => arg 3; whnf
  rw [hd]
  generalize hds : List.map _ (Nat.toDigits 2 a.natAbs) = ds
  have e : ds = c :: cs := by rw [← hds, ← hl]; rfl
  subst e
  refine wpAny_bind (txt_of (T := binText a.natAbs) ?e hz fun t' k => wpAny_pure (hq t' k))
  unfold binText
  rw [hl]
  conv => lhs; whnf
  simp
  omega
end
end Sl
namespace Sl
open PySem PySem.Spec PyProof.Rows L2 Evl
theorem digit_code {d : Nat} (h : d < 2) : (Nat.digitChar d).toNat = 48 + d := by
  have k : d = 0 ∨ d = 1 := by omega
  rcases k with rfl | rfl <;> rfl
theorem binCps_small {n : Nat} (h : n < 2) : binCps n = [48 + n] := by
  unfold binCps
  rw [Nat.toDigits_of_lt_base h]
  show [(Nat.digitChar n).toNat] = _
  rw [digit_code h]
theorem binCps_step {n : Nat} (h : 2 ≤ n) : binCps n = binCps (n / 2) ++ [48 + n % 2] := by
  unfold binCps
  rw [Nat.toDigits_of_base_le (by decide) h, List.map_append]
  show _ ++ [(Nat.digitChar (n % 2)).toNat] = _
  rw [digit_code (Nat.mod_lt _ (by decide))]
theorem binCps_ne (n : Nat) : ∃ c cs, binCps n = c :: cs := by
  cases e : binCps n with
  | nil =>
    have z : Nat.toDigits 2 n = [] := List.map_eq_nil_iff.mp e
    exact absurd z Nat.toDigits_ne_nil
  | cons c cs => exact ⟨c, cs, rfl⟩
section
variable {X : Cx}
def tFmtB (te : TE) : TE := fun σ H Q => te σ H fun x H1 => ∃ n : Nat, x = .int (n : Int) ∧ (binCps n).length ≤ 100000 ∧ Q (.str (binText n)) H1
theorem pe_fmtb {e : Expr} {te : TE} {k : Nat} {p1 p2 pos : Pos} (he : PE X e te) : PE X (.FormattedValue e (-1) (some (.JoinedStr [.Constant (.str (Str.ofString "b")) k p1] p2)) pos) (tFmtB te) := by
  refine ⟨fun pins s σ H Q I h => ?_⟩
  refine wpAny_FormattedValue_spec (thn (he.run pins s σ H _ I h) fun v s1 hv => ?_)
  obtain ⟨x, H1, I1, r1, n, rfl, hz, q⟩ := hv
  obtain ⟨tk, rfl⟩ := r1
  have hs : PE X (.JoinedStr [.Constant (.str (Str.ofString "b")) k p1] p2) (tC (.str (Str.ofString "b"))) := pe_joined1 pe_str
  refine thn (hs.run pins s1 σ H1 (fun y H2 => y = .str (Str.ofString "b") ∧ H2 = H1) I1 ⟨rfl, rfl⟩) fun r s2 hr => ?_
  obtain ⟨y, H2, I2, r2, rfl, rfl⟩ := hr
  obtain ⟨t2, rfl⟩ := r2
  obtain ⟨c, cs, hc⟩ := binCps_ne n
  refine ⟨_, _, rfl, field_b (a := (n : Int)) (decide_eq_false (by omega)) c cs hc ?_ fun t' k' => ?_⟩
  · show (binCps n).toArray.size ≤ sizeLine
    rw [List.size_toArray]
    exact sz_of hz
  · exact ⟨.str (binText n), H2, I2.tok _, ⟨_, rfl⟩, q⟩
end
end Sl

/-! ### bits of a number, most significant first -/
namespace Sl
open PySem
/-- k signs 0, 1 (as codes) of n's last k bits -/
def bits (n : Nat) : Nat → List Nat
  | 0 => []
  | k + 1 => bits (n / 2) k ++ [48 + n % 2]
theorem bits_len (k : Nat) : ∀ n, (bits n k).length = k := by
  induction k with
  | zero => intro n; rfl
  | succ k ih => intro n; unfold bits; rw [List.length_append, ih]; rfl
theorem bits_zero (k : Nat) : bits 0 k = List.replicate k 48 := by
  induction k with
  | zero => rfl
  | succ k ih =>
    unfold bits
    rw [show 0 / 2 = 0 from rfl, ih, List.replicate_succ']
theorem bits_take (a : Nat) : ∀ (b n : Nat), (bits n (a + b)).take a = bits (n / 2 ^ b) a := by
  intro b
  induction b with
  | zero =>
    intro n
    rw [Nat.add_zero, Nat.pow_zero, Nat.div_one, List.take_of_length_le (Nat.le_of_eq (bits_len a n))]
  | succ b ih =>
    intro n
    show (bits (n / 2) (a + b) ++ [48 + n % 2]).take a = _
    rw [List.take_append_of_le_length (by rw [bits_len]; omega), ih, Nat.div_div_eq_div_mul, Nat.pow_succ, Nat.mul_comm]
theorem bits_inj (k : Nat) : ∀ {n m : Nat}, n < 2 ^ k → m < 2 ^ k → bits n k = bits m k → n = m := by
  induction k with
  | zero => intro n m hn hm _; rw [Nat.pow_zero] at hn hm; omega
  | succ k ih =>
    intro n m hn hm h
    unfold bits at h
    have h1 := List.append_inj' h rfl
    have h2 : n % 2 = m % 2 := by
      have := List.cons.inj h1.2
      omega
    have h3 := ih (n := n / 2) (m := m / 2) (by rw [Nat.pow_succ] at hn; omega) (by rw [Nat.pow_succ] at hm; omega) h1.1
    omega
theorem bits_mod (k : Nat) : ∀ n, bits n k = bits (n % 2 ^ k) k := by
  induction k with
  | zero => intro n; rfl
  | succ k ih =>
    intro n
    unfold bits
    have e1 : n % 2 ^ (k + 1) % 2 = n % 2 := by
      rw [Nat.pow_succ, Nat.mul_comm, Nat.mod_mul_right_mod]
    have e2 : n % 2 ^ (k + 1) / 2 = n / 2 % 2 ^ k := by
      rw [Nat.pow_succ, Nat.mul_comm, Nat.mod_mul_right_div_self]
    rw [e1, e2, ← ih]
theorem bits_mem {c : Nat} : ∀ {k n : Nat}, c ∈ bits n k → c = 48 ∨ c = 49 := by
  intro k
  induction k with
  | zero => intro n h; cases h
  | succ k ih =>
    intro n h
    unfold bits at h
    rcases List.mem_append.mp h with h | h
    · exact ih h
    · have := List.mem_singleton.mp h
      omega
end Sl

/-! ### f'{n:b}'.zfill(12) -/
namespace Sl
open PySem PySem.Spec PyProof.Rows L2 Evl
theorem pad_bits (k : Nat) : ∀ n, 1 ≤ k → n < 2 ^ k → (binCps n).length ≤ k ∧ List.replicate (k - (binCps n).length) 48 ++ binCps n = bits n k := by
  induction k with
  | zero => intro n h; omega
  | succ k ih =>
    intro n _ hn
    by_cases h : n < 2
    · rw [binCps_small h]
      refine ⟨by show 1 ≤ k + 1; omega, ?_⟩
      show List.replicate (k + 1 - 1) 48 ++ [48 + n] = bits (n / 2) k ++ [48 + n % 2]
      rw [show n / 2 = 0 by omega, show n % 2 = n by omega, bits_zero, Nat.add_sub_cancel]
    · have hk : 1 ≤ k := by
        rcases Nat.eq_zero_or_pos k with e | e
        · subst e; rw [Nat.pow_succ, Nat.pow_zero] at hn; omega
        · exact e
      obtain ⟨h1, h2⟩ := ih (n / 2) hk (by rw [Nat.pow_succ] at hn; omega)
      rw [binCps_step (by omega), List.length_append]
      refine ⟨by show _ + 1 ≤ k + 1; omega, ?_⟩
      show List.replicate (k + 1 - ((binCps (n / 2)).length + 1)) 48 ++ (binCps (n / 2) ++ [48 + n % 2]) = bits (n / 2) k ++ [48 + n % 2]
      rw [← List.append_assoc, show k + 1 - ((binCps (n / 2)).length + 1) = k - (binCps (n / 2)).length by omega, h2]
theorem binCps_head {n c : Nat} {cs : List Nat} (h : binCps n = c :: cs) : c = 48 ∨ c = 49 := by
  have k : ∀ m : Nat, ∀ d ∈ binCps m, d = 48 ∨ d = 49 := by
    intro m
    induction m using Nat.strongRecOn with
    | ind m ih =>
      intro d hd
      by_cases hm : m < 2
      · rw [binCps_small hm] at hd
        have := List.mem_singleton.mp hd
        omega
      · rw [binCps_step (by omega)] at hd
        rcases List.mem_append.mp hd with hd | hd
        · exact ih (m / 2) (by omega) d hd
        · have := List.mem_singleton.mp hd
          omega
  exact k n c (by rw [h]; exact List.mem_cons_self)
/-- a text by its codes -/
def tx (l : List Nat) : Str := ⟨l.toArray⟩
theorem tx_len (l : List Nat) : (tx l).length = l.length := by
  show l.toArray.size = _
  rw [List.size_toArray]
theorem tx_cps (l : List Nat) : (tx l).cps.toList = l := rfl
theorem zfill_bin {n : Nat} (h : n < 2 ^ 12) : Txt.zfill (binText n) 12 = tx (bits n 12) := by
  obtain ⟨h1, h2⟩ := pad_bits 12 n (by decide) h
  have el : (binText n).length = (binCps n).length := tx_len _
  unfold Txt.zfill
  by_cases hle : (12 : Int) ≤ ((binText n).length : Nat)
  · rw [if_pos hle]
    have e0 : 12 - (binCps n).length = 0 := by
      rw [el] at hle
      omega
    rw [e0] at h2
    show tx (binCps n) = _
    rw [← h2]
    rfl
  · rw [if_neg hle]
    obtain ⟨c, cs, hc⟩ := binCps_ne n
    have ec : (binText n).cps[0]? = some c := by
      show (binCps n).toArray[0]? = _
      rw [hc]
      rfl
    have hz : zfilled (binText n) ((12 : Int).toNat - (binText n).length) = Builtin.Str.padded (binText n) ((12 : Int).toNat - (binText n).length) 0 48 := by
      unfold zfilled
      rw [ec]
      rcases binCps_head hc with e | e <;> rw [e] <;> rfl
    rw [hz, el]
    show Builtin.Str.padded (binText n) (12 - (binCps n).length) 0 48 = _
    unfold Builtin.Str.padded
    rw [← h2]
    unfold tx binText
    simp
end Sl

/-! ### a def that is called within an except suite and looks at the error that is held there -/
namespace Sl
open PySem PySem.Spec PyProof.Rows L2 Evl L2H
/-- a promise that may hang on the held error: its address and its class -/
abbrev SpE := Addr → Value → Sp
structure FnE (P : Program) (w : World) (K : PySem.W.Frag) (mg : Str → Option Value) (base : Heap) (k : Nat) (f : Addr) (fd : FuncData) (ps : List Str) (sp : SpE) : Prop where
  len : ∀ a c vs H Q E, sp a c vs H Q E → vs.length = ps.length
  run : ∀ (A : Around) (outer : List Env) (s : Shared) (H : Hp) (args : Args) (us : List Value) (vs : List V) (Q : VK) (E : XK) (p : Addr × Obj) (c : Value), RoomH k A → PinOk outer H s p → Zc c none p.2 → (∃ fs, p.2.data = .fields fs) →
    Env0 P w K mg base A outer s H → BindsTo s fd args (ps.zip us) → Vals vs us → sp p.1 c vs H Q E → codeAny (model P w) A (.call (.ref f) args) (CR CX0 outer P w H s Q E) s
theorem kind_of {h : Heap} {scope : Scope} {N ps : List Str} {us : List Value} (S : FnScope N ps scope) : ∀ y ∈ ps.zip us, scope.names.lookup y.1 = some .local ∨ (scope.names.lookup y.1 = some .cell ∧ ((cellsFrom (h.objs.size + 1) scope.names []).lookup y.1).isSome = true) := by
  rintro ⟨n, v⟩ hy
  rcases S.par n (List.of_mem_zip hy).1 with q | q
  · exact .inl q
  · exact .inr ⟨q, PySem.W.cellsFrom_some _ _ _ (.inl q)⟩
section
variable {P : Program} {w : World} {K : PySem.W.Frag} {mg : Str → Option Value} {base : Heap}
/-- such a def, by its body -/
theorem fnE_of {x qual : Str} {st : Stmt} {f : Addr} {fd : FuncData} {N ps : List Str} {k : Nat} {sp : SpE} (F : Fun K x qual st f fd) (S : FnScope N ps (defScope st)) (len : ∀ a c vs H Q E, sp a c vs H Q E → vs.length = ps.length)
    (hbody : ∀ (cdv : Value) (A : Around) (outer : List Env) (s : Shared) (H : Hp) (vs : List V) (Q : VK) (E : XK) (p : Addr × Obj) (c : Value), Zc c none p.2 → (∃ fs, p.2.data = .fields fs) → RoomH k (A.deeper (envOfC qual (defScope st) s.heap.objs.size f cdv)) → sp p.1 c vs H Q E →
      ∃ t, PSs (cxH CX0 P w K mg base N qual (defScope st) f cdv A outer s H E p) (defBody st) t ∧ t { nx := fun _ H' => Q .non H', rt := Q } (L2.start N vs) H) : FnE P w K mg base (k + 1) f fd ps sp := by
  obtain ⟨oc, od, kV, doc, pm, an, cdv, ct, osl, rfl, lk, hcd⟩ := F.ex
  refine ⟨len, fun A outer s H args us vs Q E p c hr hpin hz hf e0 hb r hsp => ?_⟩
  have KX : K.In s.heap := e0.mod.kin.keeps fun b o e => (e0.bs b o e).1
  have lim := e0.mod.nolimit.keeps fun b o e => (e0.bs b o e).1
  refine codeAny_call_function hr.depth (KX _ _ lk) rfl S.co S.gen rfl (PySem.W.codeRec_of KX hcd) (hb _ _ _ _ ?_)
  refine wpAny_newFunctionEnv_cells S.kind (kind_of S) fun env he s1 i1 => ?_
  subst he
  refine ⟨lim.keeps i1.toInCall.keep, codeAny_func ?_⟩
  obtain ⟨t, ht, hq⟩ := hbody cdv A outer s H vs Q E p c hz hf (hr.deeper _) hsp
  have I := inv_startH (CX := CX0) (f := f) (cd := cdv) (E := E) S hpin e0 (len _ _ _ _ _ _ hsp) r i1
  refine wpAny_mono (ht.run [] s1 _ H _ I hq) (fun fl s' hs => ?_) fun e s' hs => hs
  cases fl with
  | ret u =>
    obtain ⟨v, σ', H', J, rv, q⟩ := hs
    exact (⟨v, H', J.os, J.bare, J.base, J.hok, rv, q⟩ : CE outer P w H s Q u s')
  | next =>
    obtain ⟨σ', H', J, q⟩ := hs
    exact (⟨.non, H', J.os, J.bare, J.base, J.hok, rfl, q⟩ : CE outer P w H s Q .none s')
  | brk => exact hs.elim fun _ z => z.elim fun _ z => z.2.elim
  | cont => exact hs.elim fun _ z => z.elim fun _ z => z.2.elim
end
section
variable {X : Cx} {k : Nat} {f : Addr} {fd : FuncData} {ps : List Str} {sp : SpE} {E : L2.St → XK} {x : Str} {q pos : Pos} {e : Expr} {es : List Expr} {ta : TE} {t : TA}
/-- its call, within the suite that holds p -/
theorem pe_callE (F : FnE X.prog X.w X.K X.mg X.base k f fd ps sp) (hr : RoomH k X.A) {p : Addr × Obj} {c : Value} (hp : p ∈ X.pn) (hz : Zc c none p.2) (hf : ∃ fs, p.2.data = .fields fs) (hg : Gl X x) (hm : X.mg x = some (.ref f)) (hk : PySem.W.keepIn X.K (.ref f) = true)
    (hb : Binds X.K fd ps []) (ha : PA X (e :: es) t) (hdb : (x == ("__debug__" : Str)) = false := by decide) (he : starEach (e :: es) X.env = (false, eval e X.env) :: starEach es X.env := by rfl) (hpl : (backTo pos (starEach es X.env)).any (·.1) = false := by rfl) :
    PE X (.Call (.Name x q) (e :: es) [] pos) (tCall (sp p.1 c) [] E0 t) := by
  refine ⟨fun pins s σ H Q I h => ?_⟩
  refine wpAny_Call_Name_kw (ld_glob I hg hm ?_ hdb)
  refine PySem.W.callWith_K (h₀ := X.base) I.ok.mod.kin hk (thn (ha.run pos pins s σ H _ I h) fun us s1 hu => ?_) he hpl
  obtain ⟨vs, H1, I1, r, qq⟩ := hu
  refine ⟨I1.kIn, ?_⟩
  have qq' : sp p.1 c vs H1 Q E0 := by rw [List.append_nil] at qq; exact qq
  have hl : us.length = ps.length := by rw [← r.length]; exact F.len _ _ _ _ _ _ qq'
  have b := hb s1 us I1.kIn (by rw [List.append_nil]; exact hl)
  rw [List.append_nil] at b
  have P1 := I1.pin p (List.mem_append_left _ hp)
  have hpin : PinOk X.stack H1 s1 p := ⟨P1.1, P1.2.1, fun hm => (List.mem_cons.mp (I1.stkSub p.1 hm)).elim P1.2.2.1 P1.2.2.2.1, P1.2.2.2.2⟩
  refine wpAny_call (codeAny_mono (F.run X.A X.stack s1 H1 ⟨us, []⟩ us vs Q E0 p c hr hpin hz hf I1.env0 b r qq') fun r s' hq => ?_)
  cases r with
  | error e => exact hq.elim
  | ok fl =>
    cases fl with
    | ret u => exact I1.after hq
    | next => exact False.elim hq
    | brk => exact False.elim hq
    | cont => exact False.elim hq
/-- isinstance(e, c), e the error that the context bears -/
def rIsP (K : PySem.W.Frag) (a : Addr) (d : Value) : List V → Hp → VK → Prop := fun xs H Q => ∃ (D : Addr) (c : V) (cv : Value) (b : Bool), d = .ref D ∧ ExcC K D ∧ xs = [.ref a, c] ∧ (∀ u, RelV c u → u = cv) ∧ PySem.W.kitOne K (.ref D) cv = some b ∧ Q (.bl b) H
theorem call_isP {p : Addr × Obj} {c : Value} (hp : p ∈ X.pn) (hz : Zc c none p.2) (hf : ∃ fs, p.2.data = .fields fs) : CallR X (.builtin "isinstance") (rIsP X.K p.1 c) := by
  intro pins s σ H xs us Q I r h
  obtain ⟨D, cc, cv, b, hD, C, rfl, hcv, e, q⟩ := h
  subst hD
  obtain ⟨u1, u2, rfl, rx, rt⟩ := vals2 r
  cases rx
  have ec := hcv _ rt
  subst ec
  have hget := (I.pin p (List.mem_append_left _ hp)).1
  obtain ⟨fs, hv⟩ := hf
  have J : PySem.W.InstAt s.heap p.1 p.2 D none := by
    obtain ⟨pa, oc, od, oda, osl⟩ := p
    obtain ⟨h1, h2⟩ := hz
    dsimp only at h1 h2 hv hget
    subst h1 h2 hv
    exact ⟨hget, rfl, rfl, trivial⟩
  exact PySem.W.kia_one (PySem.W.handS_kitx_exc C.hg C.hk C.hs C.hd C.ha C.hn C.ht C.hm) I.kIn J e (fun z => nomatch z) fun tk => ⟨.bl b, H, I.kept (t' := tk) fun _ _ z => z, rfl, q⟩
/-- a block under a premise -/
theorem pss_given {sts : List Stmt} {t : TS} {p : Prop} (h : p → PSs X sts t) : PSs X sts (fun D σ H => p ∧ t D σ H) := ⟨fun pins s σ H D I ht => (h ht.1).run pins s σ H D I ht.2⟩
end
theorem kit_self {K : PySem.W.Frag} {D : Addr} : PySem.W.kitOne K (.ref D) (.ref D) = some true := if_pos (beq_self_eq_true _)
theorem kit_no {K : PySem.W.Frag} {D C : Addr} (i : PySem.W.isClsIn K C = true) (t : PySem.W.typeIn K (.ref C) = some (.type "type")) (n : PySem.W.subIn K (.ref D) (.ref C) = some false) (y : PySem.W.subIn K (.ref D) (.ref D) = some true) : PySem.W.kitOne K (.ref D) (.ref C) = some false := by
  have ne : D ≠ C := fun e => by
    rw [← e, y] at n
    cases n
  have nb : (Value.ref D == Value.ref C) = false := Bool.eq_false_iff.mpr fun z => ne (Value.ref.inj (beq_iff_eq.mp z))
  have ci : ((PySem.W.clsIn K C).isSome && PySem.W.typeIn K (.ref C) == some (.type "type")) = true := by
    have i' : (PySem.W.clsIn K C).isSome = true := i
    rw [i', t]
    decide +kernel
  unfold PySem.W.kitOne
  rw [nb, if_neg Bool.false_ne_true]
  show (if ((PySem.W.clsIn K C).isSome && PySem.W.typeIn K (.ref C) == some (.type "type")) = true then PySem.W.subIn K (.ref D) (.ref C) else none) = some false
  rw [if_pos ci]
  exact n
theorem kit_VE {K : PySem.W.Frag} {D : Addr} (n : PySem.W.subIn K (.ref D) (.type "ValueError") = some true) : PySem.W.kitOne K (.ref D) (.type "ValueError") = some true := by
  have nb : (Value.ref D == Value.type "ValueError") = false := rfl
  unfold PySem.W.kitOne
  rw [nb, if_neg Bool.false_ne_true]
  show (if PySem.W.kitMeta "ValueError" = true then PySem.W.subIn K (.ref D) (.type "ValueError") else none) = some true
  rw [if_pos (by decide +kernel)]
  exact n
end Sl

/-! ### words by lengths: places one behind the other -/
namespace Sl
open PySem
def sz (l : Int) : Nat := 2 ^ (12 - l).toNat
/-- a word of length l that begins at place p of the room of 12 bits, by its codes -/
def word (p : Nat) (l : Int) : List Nat := (bits p 12).take l.toNat
def LensOk (ls : List Int) : Prop := ∀ l ∈ ls, 1 ≤ l ∧ l ≤ 12
def pairs (ls : List Int) : List (Int × Nat) := (List.range ls.length).map fun i => (ls.getD i 0, i)
def atLen (ls : List Int) (L : Int) : List (Int × Nat) := ((List.range ls.length).filter fun k => decide (ls.getD k 0 = L)).map fun k => (L, k)
def lawSeq (ls : List Int) : List (Int × Nat) := (List.range 12).flatMap fun (j : Nat) => atLen ls ((j : Int) + 1)
def stepW (st : List (List Nat) × Nat) (q : Int × Nat) : List (List Nat) × Nat := (st.1.set q.2 (word st.2 q.1), st.2 + sz q.1)
def runW (st : List (List Nat) × Nat) (qs : List (Int × Nat)) : List (List Nat) × Nat := qs.foldl stepW st
def startW (n : Nat) : List (List Nat) × Nat := (List.replicate n [], 0)
def byLen (ls : List Int) : List (List Nat) := (runW (startW ls.length) (lawSeq ls)).1
def lexP (a b : Int × Nat) : Prop := a.1 < b.1 ∨ (a.1 = b.1 ∧ a.2 < b.2)
theorem mem_atLen {ls : List Int} {L : Int} {q : Int × Nat} : q ∈ atLen ls L ↔ q.1 = L ∧ q.2 < ls.length ∧ ls.getD q.2 0 = L := by
  unfold atLen
  rw [List.mem_map]
  constructor
  · rintro ⟨k, hk, rfl⟩
    obtain ⟨h1, h2⟩ := List.mem_filter.mp hk
    exact ⟨rfl, List.mem_range.mp h1, of_decide_eq_true h2⟩
  · rintro ⟨h1, h2, h3⟩
    exact ⟨q.2, List.mem_filter.mpr ⟨List.mem_range.mpr h2, decide_eq_true h3⟩, by rw [← h1]⟩
theorem mem_lawSeq {ls : List Int} {q : Int × Nat} : q ∈ lawSeq ls ↔ 1 ≤ q.1 ∧ q.1 ≤ 12 ∧ q.2 < ls.length ∧ ls.getD q.2 0 = q.1 := by
  unfold lawSeq
  rw [List.mem_flatMap]
  constructor
  · rintro ⟨j, hj, h⟩
    have hj' := List.mem_range.mp hj
    obtain ⟨h1, h2, h3⟩ := mem_atLen.mp h
    exact ⟨by omega, by omega, h2, by rw [h3, h1]⟩
  · rintro ⟨h1, h2, h3, h4⟩
    refine ⟨(q.1 - 1).toNat, List.mem_range.mpr (by omega), mem_atLen.mpr ⟨?_, h3, ?_⟩⟩
    · omega
    · rw [h4]; omega
theorem atLen_sorted (ls : List Int) (L : Int) : (atLen ls L).Pairwise lexP := by
  unfold atLen
  rw [List.pairwise_map]
  refine List.Pairwise.imp (R := fun a b => a < b) (fun h => .inr ⟨rfl, h⟩) ?_
  exact List.Pairwise.filter _ List.pairwise_lt_range
theorem lawSeq_sorted (ls : List Int) : (lawSeq ls).Pairwise lexP := by
  unfold lawSeq
  have gen : ∀ js : List Nat, js.Pairwise (· < ·) → (js.flatMap fun (j : Nat) => atLen ls ((j : Int) + 1)).Pairwise lexP := by
    intro js
    induction js with
    | nil => intro _; exact List.Pairwise.nil
    | cons j r ih =>
      intro h
      rw [List.flatMap_cons, List.pairwise_append]
      refine ⟨atLen_sorted _ _, ih (List.pairwise_cons.mp h).2, fun a ha b hb => ?_⟩
      obtain ⟨k, hk, hb⟩ := List.mem_flatMap.mp hb
      have hlt := (List.pairwise_cons.mp h).1 k hk
      have e1 := (mem_atLen.mp ha).1
      have e2 := (mem_atLen.mp hb).1
      exact .inl (by omega)
  exact gen _ List.pairwise_lt_range
theorem lawSeq_nodup (ls : List Int) : (lawSeq ls).Nodup := List.Pairwise.imp (fun {a b} h e => by
  subst e
  rcases h with h | h
  · exact absurd h (Int.lt_irrefl _)
  · exact absurd h.2 (Nat.lt_irrefl _)) (lawSeq_sorted ls)
theorem pairs_nodup (ls : List Int) : (pairs ls).Nodup := by
  unfold pairs
  refine List.pairwise_map.mpr (List.Pairwise.imp (fun {a b} h e => ?_) List.pairwise_lt_range)
  have := congrArg Prod.snd e
  simp at this
  omega
theorem mem_pairs {ls : List Int} {q : Int × Nat} : q ∈ pairs ls ↔ q.2 < ls.length ∧ ls.getD q.2 0 = q.1 := by
  unfold pairs
  rw [List.mem_map]
  constructor
  · rintro ⟨k, hk, rfl⟩
    exact ⟨List.mem_range.mp hk, rfl⟩
  · rintro ⟨h1, h2⟩
    exact ⟨q.2, List.mem_range.mpr h1, by rw [h2]⟩
theorem getD_mem {ls : List Int} {k : Nat} (h : k < ls.length) : ls.getD k 0 ∈ ls := by
  rw [List.getD_eq_getElem?_getD, List.getElem?_eq_getElem h]
  exact List.getElem_mem h
theorem lawSeq_perm {ls : List Int} (h : LensOk ls) : (lawSeq ls).Perm (pairs ls) := by
  refine (List.perm_ext_iff_of_nodup (lawSeq_nodup ls) (pairs_nodup ls)).mpr fun q => ?_
  rw [mem_lawSeq, mem_pairs]
  constructor
  · rintro ⟨_, _, h3, h4⟩
    exact ⟨h3, h4⟩
  · rintro ⟨h3, h4⟩
    have := h _ (getD_mem h3)
    rw [h4] at this
    exact ⟨this.1, this.2, h3, h4⟩
theorem runW_snd : ∀ (qs : List (Int × Nat)) (st : List (List Nat) × Nat), (runW st qs).2 = st.2 + (qs.map fun q => sz q.1).sum
  | [], st => by simp [runW]
  | q :: r, st => by
    show (runW (stepW st q) r).2 = _
    rw [runW_snd r]
    show st.2 + sz q.1 + _ = _
    rw [List.map_cons, List.sum_cons]
    omega
theorem runW_len : ∀ (qs : List (Int × Nat)) (st : List (List Nat) × Nat), (runW st qs).1.length = st.1.length
  | [], st => rfl
  | q :: r, st => by
    show (runW (stepW st q) r).1.length = _
    rw [runW_len r]
    exact List.length_set
theorem runW_app (a b : List (Int × Nat)) (st : List (List Nat) × Nat) : runW st (a ++ b) = runW (runW st a) b := List.foldl_append
theorem runW_off : ∀ (qs : List (Int × Nat)) (st : List (List Nat) × Nat) (k : Nat), (∀ q ∈ qs, q.2 ≠ k) → (runW st qs).1[k]? = st.1[k]?
  | [], st, k, _ => rfl
  | q :: r, st, k, h => by
    show (runW (stepW st q) r).1[k]? = _
    rw [runW_off r _ k fun z hz => h z (List.mem_cons_of_mem _ hz)]
    exact List.getElem?_set_ne (h q List.mem_cons_self)
theorem runW_at (a b : List (Int × Nat)) (q : Int × Nat) (st : List (List Nat) × Nat) (hq : q.2 < st.1.length) (hb : ∀ z ∈ b, z.2 ≠ q.2) : (runW st (a ++ q :: b)).1[q.2]? = some (word (st.2 + (a.map fun z => sz z.1).sum) q.1) := by
  rw [runW_app]
  show (runW (stepW (runW st a) q) b).1[q.2]? = _
  rw [runW_off b _ _ hb]
  show ((runW st a).1.set q.2 _)[q.2]? = _
  rw [List.getElem?_set_self (by rw [runW_len]; exact hq), runW_snd]
theorem sum_pairs (ls : List Int) : ((pairs ls).map fun q => sz q.1).sum = (ls.map sz).sum := by
  congr 1
  unfold pairs
  rw [List.map_map]
  refine List.ext_getElem? fun i => ?_
  rw [List.getElem?_map, List.getElem?_map]
  by_cases hi : i < ls.length
  · rw [List.getElem?_range hi, List.getElem?_eq_getElem hi]
    show some (sz (ls.getD i 0)) = some (sz ls[i])
    rw [List.getD_eq_getElem?_getD, List.getElem?_eq_getElem hi]
    rfl
  · rw [List.getElem?_eq_none (by simpa using hi), List.getElem?_eq_none (by simpa using hi)]
    rfl
theorem sum_lawSeq {ls : List Int} (h : LensOk ls) : ((lawSeq ls).map fun q => sz q.1).sum = (ls.map sz).sum := by
  rw [← sum_pairs]
  exact ((lawSeq_perm h).map _).sum_nat
theorem byLen_len (ls : List Int) : (byLen ls).length = ls.length := by
  unfold byLen
  rw [runW_len]
  exact List.length_replicate
/-- what the k-th word is -/
theorem byLen_at {ls : List Int} {a b : List (Int × Nat)} {q : Int × Nat} (e : lawSeq ls = a ++ q :: b) : (byLen ls)[q.2]? = some (word (a.map fun z => sz z.1).sum q.1) ∧ 1 ≤ q.1 ∧ q.1 ≤ 12 ∧ q.2 < ls.length ∧ ls.getD q.2 0 = q.1 := by
  have hm := mem_lawSeq.mp (show q ∈ lawSeq ls by rw [e]; exact List.mem_append_right _ List.mem_cons_self)
  refine ⟨?_, hm⟩
  unfold byLen
  rw [e, runW_at a b q (startW ls.length) (by show q.2 < (List.replicate ls.length []).length; rw [List.length_replicate]; exact hm.2.2.1) fun z hz ez => ?_]
  · show some (word (0 + _) _) = _
    rw [Nat.zero_add]
  · have s := lawSeq_sorted ls
    rw [e, List.pairwise_append] at s
    have hz' := (List.pairwise_cons.mp s.2.1).1 z hz
    have m2 := mem_lawSeq.mp (show z ∈ lawSeq ls by rw [e]; exact List.mem_append_right _ (List.mem_cons_of_mem _ hz))
    rcases hz' with h | h
    · rw [ez, hm.2.2.2] at m2
      omega
    · omega
theorem word_len {p : Nat} {l : Int} (h1 : 0 ≤ l) (h2 : l ≤ 12) : (word p l).length = l.toNat := by
  unfold word
  rw [List.length_take, bits_len]
  omega
theorem word_eq {p : Nat} {l : Int} (h1 : 0 ≤ l) (h2 : l ≤ 12) : word p l = bits (p / sz l) l.toNat := by
  unfold word sz
  have e : (12 : Nat) = l.toNat + (12 - l).toNat := by omega
  have k := bits_take l.toNat (12 - l).toNat p
  rw [← e] at k
  exact k
/-- two words at places that are apart: the one whose places lie ahead, then the other -/
theorem word_apart {p r : Nat} {l m : Int} (hl : 1 ≤ l) (hm : m ≤ 12) (hlm : l ≤ m) (hp : p < 4096) (hr : r < 4096) (h : p + sz l ≤ r ∨ (r + sz l ≤ p)) : (word r m).take l.toNat ≠ word p l := by
  intro e
  have l2 : l ≤ 12 := by omega
  have e1 : (word r m).take l.toNat = word r l := by
    unfold word
    rw [List.take_take, Nat.min_eq_left (by omega)]
  rw [e1, word_eq (by omega) l2, word_eq (by omega) l2] at e
  have pos : 0 < sz l := Nat.pow_pos (by decide)
  have e4096 : sz l * 2 ^ l.toNat = 4096 := by
    unfold sz
    rw [← Nat.pow_add]
    have : (12 - l).toNat + l.toNat = 12 := by omega
    rw [this]
  have b1 : p / sz l < 2 ^ l.toNat := Nat.div_lt_of_lt_mul (by rw [e4096]; exact hp)
  have b2 : r / sz l < 2 ^ l.toNat := Nat.div_lt_of_lt_mul (by rw [e4096]; exact hr)
  have k := bits_inj _ b2 b1 e
  rcases h with h | h
  · have : (p + sz l) / sz l ≤ r / sz l := Nat.div_le_div_right h
    rw [Nat.add_div_right _ pos] at this
    omega
  · have : (r + sz l) / sz l ≤ p / sz l := Nat.div_le_div_right h
    rw [Nat.add_div_right _ pos] at this
    omega
theorem sz_mono {l m : Int} (h : l ≤ m) : sz m ≤ sz l := Nat.pow_le_pow_right (by decide) (by omega)
theorem sz_pos (l : Int) : 0 < sz l := Nat.pow_pos (by decide)
/-- the j-th word does not begin with the i-th -/
theorem byLen_apart {ls : List Int} (h : LensOk ls) (hs : (ls.map sz).sum ≤ 4096) {i j : Nat} {u v : List Nat} (hij : i ≠ j) (hu : (byLen ls)[i]? = some u) (hv : (byLen ls)[j]? = some v) : v.take u.length ≠ u := by
  have hi : i < ls.length := by
    have := (List.getElem?_eq_some_iff.mp hu).1
    rw [byLen_len] at this
    exact this
  have hj : j < ls.length := by
    have := (List.getElem?_eq_some_iff.mp hv).1
    rw [byLen_len] at this
    exact this
  have mi : (ls.getD i 0, i) ∈ lawSeq ls := (lawSeq_perm h).mem_iff.mpr (mem_pairs.mpr ⟨hi, rfl⟩)
  have mj : (ls.getD j 0, j) ∈ lawSeq ls := (lawSeq_perm h).mem_iff.mpr (mem_pairs.mpr ⟨hj, rfl⟩)
  have tot := sum_lawSeq h
  obtain ⟨a, b, e⟩ := List.append_of_mem mi
  obtain ⟨wi, i1, i2, _, _⟩ := byLen_at e
  obtain ⟨c, d, e'⟩ := List.append_of_mem mj
  obtain ⟨wj, j1, j2, _, _⟩ := byLen_at e'
  dsimp only at wi wj i1 i2 j1 j2
  have eu : u = word (a.map fun z => sz z.1).sum (ls.getD i 0) := Option.some.inj (hu.symm.trans wi)
  have ev : v = word (c.map fun z => sz z.1).sum (ls.getD j 0) := Option.some.inj (hv.symm.trans wj)
  have ta : (a.map fun z => sz z.1).sum + sz (ls.getD i 0) ≤ 4096 := by
    rw [e, List.map_append, List.sum_append, List.map_cons, List.sum_cons] at tot
    dsimp only at tot ⊢
    omega
  have tc : (c.map fun z => sz z.1).sum + sz (ls.getD j 0) ≤ 4096 := by
    rw [e', List.map_append, List.sum_append, List.map_cons, List.sum_cons] at tot
    dsimp only at tot ⊢
    omega
  have pi := sz_pos (ls.getD i 0)
  have pj := sz_pos (ls.getD j 0)
  have lu : u.length = (ls.getD i 0).toNat := by rw [eu]; exact word_len (by omega) i2
  have lv : v.length = (ls.getD j 0).toNat := by rw [ev]; exact word_len (by omega) j2
  by_cases hlm : ls.getD i 0 ≤ ls.getD j 0
  · rw [lu, ev, eu]
    refine word_apart i1 j2 hlm (by omega) (by omega) ?_
    -- which stands ahead
    have srt := lawSeq_sorted ls
    have mj' := mj
    rw [e] at mj'
    rcases List.mem_append.mp mj' with hm | hm
    · -- j ahead of i: then of equal lengths
      right
      have lt : lexP (ls.getD j 0, j) (ls.getD i 0, i) := by
        rw [e, List.pairwise_append] at srt
        exact srt.2.2 _ hm _ List.mem_cons_self
      have eq : ls.getD j 0 = ls.getD i 0 := by
        rcases lt with z | z
        · have z' : ls.getD j 0 < ls.getD i 0 := z
          omega
        · exact z.1
      obtain ⟨a1, a2, ea⟩ := List.append_of_mem hm
      have ec : a1 = c := by
        have nd := lawSeq_nodup ls
        have e2 : lawSeq ls = a1 ++ (ls.getD j 0, j) :: (a2 ++ (ls.getD i 0, i) :: b) := by rw [e, ea]; simp
        rw [e2] at nd
        exact split_uniq nd (e2.symm.trans e')
      rw [ea, List.map_append, List.sum_append, List.map_cons, List.sum_cons, ec]
      dsimp only
      rw [eq]
      omega
    · left
      rcases List.mem_cons.mp hm with hm | hm
      · exact absurd (congrArg Prod.snd hm).symm hij
      · obtain ⟨b1, b2, eb⟩ := List.append_of_mem hm
        have ec : a ++ (ls.getD i 0, i) :: b1 = c := by
          have nd := lawSeq_nodup ls
          have e2 : lawSeq ls = (a ++ (ls.getD i 0, i) :: b1) ++ (ls.getD j 0, j) :: b2 := by rw [e, eb]; simp
          rw [e2] at nd
          exact split_uniq nd (e2.symm.trans e')
        rw [← ec, List.map_append, List.sum_append, List.map_cons, List.sum_cons]
        dsimp only
        omega
  · intro z
    have := congrArg List.length z
    rw [List.length_take, lu, lv] at this
    omega
where
  split_uniq {α : Type} {x : α} : ∀ {a b c d : List α}, (a ++ x :: b).Nodup → a ++ x :: b = c ++ x :: d → a = c
    | [], b, [], d, _, _ => rfl
    | [], b, y :: c, d, nd, e => by
      have h := List.cons.inj e
      have nd' := (List.nodup_cons.mp nd).1
      rw [h.2] at nd'
      exact absurd (List.mem_append_right _ List.mem_cons_self) nd'
    | y :: a, b, [], d, nd, e => by
      have h := List.cons.inj e
      have nd' := (List.nodup_cons.mp nd).1
      rw [h.1] at nd'
      exact absurd (List.mem_append_right _ List.mem_cons_self) nd'
    | y :: a, b, z :: c, d, nd, e => by
      have h := List.cons.inj e
      rw [h.1, split_uniq (List.nodup_cons.mp nd).2 h.2]
/-- a sorted rearrangement of the pairs is that sequence -/
theorem sorted_is_law {ls : List Int} (h : LensOk ls) {zs : List (Int × Int)} (hs : zs.Pairwise fun x y => ¬ (y.1 < x.1 ∨ (y.1 = x.1 ∧ y.2 < x.2))) (hp : zs.Perm ((pairs ls).map fun q => (q.1, (q.2 : Int)))) : zs = (lawSeq ls).map fun q => (q.1, (q.2 : Int)) := by
  refine List.Perm.eq_of_pairwise (le := fun x y => ¬ (y.1 < x.1 ∨ (y.1 = x.1 ∧ y.2 < x.2))) (fun x y _ _ h1 h2 => ?_) hs ?_ (hp.trans ((lawSeq_perm h).map _).symm)
  · obtain ⟨x1, x2⟩ := x
    obtain ⟨y1, y2⟩ := y
    simp only at h1 h2
    have : x1 = y1 ∧ x2 = y2 := by omega
    rw [this.1, this.2]
  · rw [List.pairwise_map]
    refine List.Pairwise.imp (fun {a b} z => ?_) (lawSeq_sorted ls)
    unfold lexP at z
    show ¬ (b.1 < a.1 ∨ (b.1 = a.1 ∧ (b.2 : Int) < (a.2 : Int)))
    omega
theorem bits_small {k n c : Nat} (h : c ∈ bits n k) : c < 0x110000 := by
  rcases bits_mem h with e | e <;> omega
/-- the words are texts of 0 and 1 -/
theorem byLen_small {ls : List Int} (h : LensOk ls) : ∀ u ∈ byLen ls, (∀ c ∈ u, c < 0x110000) ∧ u.length ≤ 12 := by
  intro u hu
  obtain ⟨i, hi, rfl⟩ := List.getElem_of_mem hu
  have hi' : i < ls.length := by rw [byLen_len] at hi; exact hi
  have mi : (ls.getD i 0, i) ∈ lawSeq ls := (lawSeq_perm h).mem_iff.mpr (mem_pairs.mpr ⟨hi', rfl⟩)
  obtain ⟨a, b, e⟩ := List.append_of_mem mi
  obtain ⟨wi, i1, i2, _, _⟩ := byLen_at e
  dsimp only at wi i1 i2
  rw [List.getElem?_eq_getElem hi] at wi
  rw [Option.some.inj wi]
  refine ⟨fun c hc => ?_, ?_⟩
  · unfold word at hc
    exact bits_small (List.mem_of_mem_take hc)
  · rw [word_len (by omega) i2]
    omega
end Sl

/-! ### lists of tuples made, sorted, walked -/
namespace Sl
open PySem L2 Evl
section
variable {K : PySem.W.Frag} {σ : L2.St} {H H' : Hp} {ta tb te tl : TE} {x y z v : V} {D : Ends} {g : TG} {tu : TS}
/-- gives a new list of which R holds -/
def EvX (te : TE) (σ : L2.St) (H : Hp) (R : List V → Hp → Prop) : Prop := ∀ H1, Ex H H1 → ∀ Q : VK, (∀ p xs H2, H1 p = none → Ex H1 H2 → H2 p = some (.lst xs) → R xs H2 → Q (.ref p) H2) → te σ H1 Q
theorem EvL.toX {xs : List V} (h : EvL te σ H xs) : EvX te σ H fun ys _ => ys = xs := fun H1 e Q q => h H1 e Q fun p H2 hp e2 h2 => q p xs H2 hp e2 h2 rfl
/-- the pairs of whole numbers that a list's tuples hold -/
def Tups (H : Hp) (zs : List V) (qs : List (Int × Int)) : Prop := zs.length = qs.length ∧ ∀ (i : Nat) (q : Int × Int), qs[i]? = some q → ∃ t, zs[i]? = some (.ref t) ∧ H t = some (.tup [.int q.1, .int q.2])
theorem Tups.mono {zs : List V} {qs : List (Int × Int)} (e : Ex H H') (h : Tups H zs qs) : Tups H' zs qs := ⟨h.1, fun i q hq => by
  obtain ⟨t, h1, h2⟩ := h.2 i q hq
  exact ⟨t, h1, e _ _ h2⟩⟩
def keyOf (H : Hp) : V → Int × Int
  | .ref t => match H t with
    | some (.tup [.int i, .int j]) => (i, j)
    | _ => (0, 0)
  | _ => (0, 0)
theorem keyOf_ref {t : Addr} {i j : Int} (h : H t = some (.tup [.int i, .int j])) : keyOf H (.ref t) = (i, j) := by
  show (match H t with | some (.tup [.int i, .int j]) => (i, j) | _ => (0, 0)) = (i, j)
  rw [h]
theorem Tups.keys {zs : List V} {qs : List (Int × Int)} (h : Tups H zs qs) : zs.map (keyOf H) = qs := by
  refine List.ext_getElem? fun i => ?_
  rw [List.getElem?_map]
  cases e : qs[i]? with
  | none =>
    rw [List.getElem?_eq_none (by rw [h.1]; exact List.getElem?_eq_none_iff.mp e)]
    rfl
  | some q =>
    obtain ⟨t, h1, h2⟩ := h.2 i q e
    rw [h1]
    show some (keyOf H (.ref t)) = some q
    rw [keyOf_ref h2]
theorem Tups.mem {zs : List V} {qs : List (Int × Int)} (h : Tups H zs qs) : ∀ z ∈ zs, ∃ t, z = .ref t ∧ H t = some (.tup [.int (keyOf H z).1, .int (keyOf H z).2]) := fun z hz => by
  obtain ⟨i, hi, e⟩ := List.getElem_of_mem hz
  have hq : i < qs.length := by rw [← h.1]; exact hi
  obtain ⟨t, h1, h2⟩ := h.2 i _ (List.getElem?_eq_getElem hq)
  rw [List.getElem?_eq_getElem hi] at h1
  have ez : z = .ref t := e.symm.trans (Option.some.inj h1)
  refine ⟨t, ez, ?_⟩
  rw [ez]
  have : keyOf H (.ref t) = qs[i] := keyOf_ref h2
  rw [this]
  exact h2
theorem tups_of {zs : List V} (h : ∀ z ∈ zs, ∃ t, z = .ref t ∧ H t = some (.tup [.int (keyOf H z).1, .int (keyOf H z).2])) : Tups H zs (zs.map (keyOf H)) := by
  refine ⟨(List.length_map _).symm, fun i q hq => ?_⟩
  rw [List.getElem?_map] at hq
  obtain ⟨z, hz, rfl⟩ := Option.map_eq_some_iff.mp hq
  obtain ⟨t, rfl, h2⟩ := h z (List.mem_of_getElem? hz)
  exact ⟨t, hz, h2⟩
/-- [.. for s, l in enumerate(xs)], a new pair each turn -/
theorem ex_lcEnum {ta : TA} {a : Addr} {xs : List V} {s l : Nat} {vs : List Nat} (gv : Nat → V → Int × Int) (h : EvA ta σ H [.ref a]) (hS : SqL K H a xs) (hz : xs.length ≤ 40000) (hw : ∀ v w, wipe (((wipe σ vs).set s (some v)).set l (some w)) vs = wipe σ vs)
    (he : ∀ (i : Nat) (x : V) H1, Ex H H1 → xs[i]? = some x → EvU te (((wipe σ vs).set s (some (.int (i : Int)))).set l (some x)) H1 [.int (gv i x).1, .int (gv i x).2]) :
    EvX (tLc (iEnum K ta) (gTup K 2 (gCons (gName s) (gCons (gName l) gNil))) tYes te vs) σ H fun ys H2 => ∃ qs : List (Int × Int), Tups H2 ys qs ∧ qs.length = xs.length ∧ ∀ (i : Nat) (x : V), xs[i]? = some x → qs[i]? = some (gv i x) := fun H0 e0 Q q =>
  h H0 e0 _ fun H1 e1 => by
    have e01 := e0.trans e1
    refine ⟨a, xs, rfl, ex_l e01 hS, fun Dl hD => ?_⟩
    refine ⟨fun i m H' => m = xs.length - i ∧ i ≤ xs.length ∧ Ex H1 H' ∧ ∃ ys qs, H' Dl = some (.lst ys) ∧ Tups H' ys qs ∧ qs.length = i ∧ ∀ (j : Nat) (x : V), j < i → xs[j]? = some x → qs[j]? = some (gv j x),
      ⟨xs.length, rfl, Nat.zero_le _, Ex.new hD, [], [], upd_same, ⟨rfl, fun i q hq => by simp at hq⟩, rfl, fun j x hj => absurd hj (Nat.not_lt_zero _)⟩, ?_⟩
    rintro i m H' ⟨rfl, hi, e', ys, qs, hd, ht, hl', hq⟩
    have hS' := ex_l (e01.trans e') hS
    by_cases hlt : i < xs.length
    · refine .inr ⟨⟨xs, xs[i], hS', List.getElem?_eq_getElem hlt⟩, _, fun H'' w => ⟨xs.length - (i + 1), by omega, rfl, hlt, w⟩, ?_⟩
      rintro w H'' ⟨T, x, rfl, hT, rfl, hx⟩
      have hx' := hx xs hS'
      have e'' : Ex H' (upd H' T (.tup [.int (i : Nat), x])) := Ex.new hT
      refine ⟨T, [.int (i : Nat), x], rfl, .inl (.inl upd_same), rfl, .int (i : Nat), [x], rfl, x, [], rfl, rfl, hw _ _, ?_⟩
      show te _ _ _
      refine he i x _ ((e01.trans e').trans e'') hx' _ (Ex.refl _) _ fun t H3 hn e3 h3 => ?_
      have h3d := e3 _ _ (e'' _ _ hd)
      have hyl : ys.length = i := ht.1.trans hl'
      have tD : t ≠ Dl := fun z => by rw [z] at hn; rw [e'' _ _ hd] at hn; cases hn
      have keep : ∀ b o, b ≠ Dl → H3 b = some o → (upd H3 Dl (.lst (ys ++ [.ref t]))) b = some o := fun b o hb ho => by rw [upd_ne hb]; exact ho
      refine ⟨ys, h3d, sz_lt (by omega), ?_, ys ++ [.ref t], qs ++ [gv i x], upd_same, ⟨by rw [List.length_append, List.length_append, ht.1]; rfl, fun j q hj => ?_⟩, by rw [List.length_append, hl']; rfl, fun j y hj hy => ?_⟩
      · exact Ex.mut ((e'.trans e'').trans e3) hD
      · by_cases hji : j < qs.length
        · rw [List.getElem?_append_left hji] at hj
          obtain ⟨u, h1, h2⟩ := ht.2 j q hj
          refine ⟨u, by rw [List.getElem?_append_left (by omega)]; exact h1, keep _ _ (fun z => ?_) (e3 _ _ (e'' _ _ h2))⟩
          rw [z, hd] at h2
          cases h2
        · rw [List.getElem?_append_right (by omega)] at hj
          have ej : j - qs.length = 0 := by
            have := (List.getElem?_eq_some_iff.mp hj).1
            simp at this
            omega
          rw [ej] at hj
          cases hj
          refine ⟨t, ?_, keep _ _ tD h3⟩
          rw [List.getElem?_append_right (by omega), show j - ys.length = 0 by omega]
          rfl
      · by_cases hji : j < i
        · rw [List.getElem?_append_left (by omega)]
          exact hq j y hji hy
        · have ej : j = i := by omega
          subst ej
          rw [List.getElem?_append_right (by omega), show j - qs.length = 0 by omega]
          rw [hx'] at hy
          cases hy
          rfl
    · have ei : i = xs.length := by omega
      refine .inl ⟨⟨xs, hS', by omega⟩, q Dl ys H' (fresh_back e1 hD) (e1.trans e') hd ⟨qs, ht, by omega, fun j x hx => hq j x (by rw [ei]; exact (List.getElem?_eq_some_iff.mp hx).1) hx⟩⟩
/-- sorted of a new list of pairs of whole numbers -/
theorem ex_sortedP {R : List V → Hp → Prop} {P : List (Int × Int) → Prop} (h : EvX te σ H R) (hR : ∀ ys H2, R ys H2 → ∃ qs, Tups H2 ys qs ∧ P qs) :
    EvX (tCB (rSortedPO K) (tCons te tNil)) σ H fun zs H3 => ∃ qs ps, Tups H3 zs qs ∧ P ps ∧ qs.Perm ps ∧ qs.Pairwise fun x y => ¬ (y.1 < x.1 ∨ (y.1 = x.1 ∧ y.2 < x.2)) := fun H1 e Q q =>
  h H1 e _ fun p ys H2 hp e2 h2 r => by
    obtain ⟨ps, ht, hP⟩ := hR ys H2 r
    refine ⟨p, ys, keyOf H2, rfl, sq_of h2, ht.mem, fun zs p' hs hb hn => ?_⟩
    have hz : Tups H2 zs (zs.map (keyOf H2)) := tups_of fun z hz => ht.mem z (hb.perm.mem_iff.mp hz)
    refine q p' zs _ (fresh_back e2 hn) (e2.trans (Ex.new hn)) upd_same ⟨zs.map (keyOf H2), ps, hz.mono (Ex.new hn), hP, ?_, ?_⟩
    · rw [← ht.keys]
      exact hb.perm.map _
    · rw [List.pairwise_map]
      exact List.Pairwise.imp (fun {a b} z => SrtO.lexB_no.mp z) hs
/-- a loop over a new list -/
theorem s_forX {R : List V → Hp → Prop} (h : EvX tl σ H R) (Pv : Addr → List V → Nat → L2.St → Hp → Prop) (h0 : ∀ p xs H1, H p = none → Ex H H1 → H1 p = some (.lst xs) → R xs H1 → Pv p xs 0 σ H1) (hl : ∀ p xs i σ' H', i ≤ xs.length → Pv p xs i σ' H' → SqL K H' p xs)
    (hs : ∀ p xs i x σ' H', xs[i]? = some x → Pv p xs i σ' H' → g x σ' H' fun σ2 H2 => tu { D with nx := Pv p xs (i + 1), ct := Pv p xs (i + 1), bk := D.nx } σ2 H2) (hd : ∀ p xs σ' H', Pv p xs xs.length σ' H' → D.nx σ' H') : tFor (iList K tl) g tu D σ H :=
  h H (Ex.refl H) _ fun p xs H1 hp e h1 r => ⟨p, rfl, ⟨xs, sq_of h1⟩, for_list (Pv p xs) (h0 p xs H1 hp e h1 r) (hl p xs) (hs p xs) (hd p xs)⟩
theorem q_forX {tz : TS} {R : List V → Hp → Prop} (h : EvX tl σ H R) (Pv : Addr → List V → Nat → L2.St → Hp → Prop) (h0 : ∀ p xs H1, H p = none → Ex H H1 → H1 p = some (.lst xs) → R xs H1 → Pv p xs 0 σ H1) (hl : ∀ p xs i σ' H', i ≤ xs.length → Pv p xs i σ' H' → SqL K H' p xs)
    (hs : ∀ p xs i x σ' H', xs[i]? = some x → Pv p xs i σ' H' → g x σ' H' fun σ2 H2 => tu { D with nx := Pv p xs (i + 1), ct := Pv p xs (i + 1), bk := tz D } σ2 H2) (hd : ∀ p xs σ' H', Pv p xs xs.length σ' H' → tz D σ' H') : tSeq (tFor (iList K tl) g tu) tz D σ H :=
  s_forX (D := { D with nx := tz D }) h Pv h0 hl hs hd
/-- all but one object as it was -/
def ExB (b : Addr) (H H' : Hp) : Prop := ∀ c o, H c = some o → c ≠ b → H' c = some o
theorem ExB.then {b : Addr} {H1 H2 : Hp} (h : ExB b H H1) (e : Ex H1 H2) : ExB b H H2 := fun c o hc hb => e _ _ (h c o hc hb)
theorem ExB.set {b : Addr} {o : HO} (h : ExB b H H') : ExB b H (upd H' b o) := fun c u hc hb => by rw [upd_ne hb]; exact h c u hc hb
theorem ExB.back {b : Addr} {H0 : Hp} (e : Ex H0 H) (hn : H0 b = none) (h : ExB b H H') : Ex H0 H' := fun c o hc => h c o (e _ _ hc) fun z => by rw [z, hn] at hc; cases hc
theorem ExB.refl (b : Addr) (H : Hp) : ExB b H H := fun _ _ h _ => h
end
end Sl

/-! ### things handed in: plain ones, or lists and tuples of whole numbers -/
namespace Sl
open PySem L2 Evl
def Simple (H : Hp) (x : V) : Prop := x = .non ∨ (∃ b, x = .bl b) ∨ (∃ i, x = .int i) ∨ (∃ s, x = .str s ∧ PyData.canLay0 (.str s) = true) ∨ ∃ (a : Addr) (ns : List Int), x = .ref a ∧ (H a = some (.lst (ns.map V.int)) ∨ H a = some (.tup (ns.map V.int)))
section
variable {K : PySem.W.Frag} {σ : L2.St} {H H' : Hp} {ta tb te tl : TE} {x y z v : V} {D : Ends} {g : TG} {tu tz : TS} {t : TT}
theorem Simple.thing (h : Simple H x) : Thing H x := by
  rcases h with h | h | h | ⟨s, h, _⟩ | ⟨a, ns, h, g | g⟩
  · exact .inl h
  · exact .inr (.inl h)
  · exact .inr (.inr (.inl h))
  · exact .inr (.inr (.inr (.inl ⟨s, h⟩)))
  · exact .inr (.inr (.inr (.inr ⟨a, _, h, .inl g⟩)))
  · exact .inr (.inr (.inr (.inr ⟨a, _, h, .inr g⟩)))
theorem Simple.mono (e : Ex H H') (h : Simple H x) : Simple H' x := by
  rcases h with h | h | h | h | ⟨a, ns, h, g⟩
  · exact .inl h
  · exact .inr (.inl h)
  · exact .inr (.inr (.inl h))
  · exact .inr (.inr (.inr (.inl h)))
  · exact .inr (.inr (.inr (.inr ⟨a, ns, h, g.elim (fun g => .inl (e _ _ g)) fun g => .inr (e _ _ g)⟩)))
theorem Simple.int (i : Int) : Simple H (.int i) := .inr (.inr (.inl ⟨i, rfl⟩))
theorem Simple.bl (b : Bool) : Simple H (.bl b) := .inr (.inl ⟨b, rfl⟩)
theorem Simple.non : Simple H .non := .inl rfl
theorem Simple.str (s : Str) (h : PyData.canLay0 (.str s) = true) : Simple H (.str s) := .inr (.inr (.inr (.inl ⟨s, rfl, h⟩)))
theorem Simple.lst {a : Addr} {ns : List Int} (h : H a = some (.lst (ns.map V.int))) : Simple H (.ref a) := .inr (.inr (.inr (.inr ⟨a, ns, rfl, .inl h⟩)))
theorem Simple.tup {a : Addr} {ns : List Int} (h : H a = some (.tup (ns.map V.int))) : Simple H (.ref a) := .inr (.inr (.inr (.inr ⟨a, ns, rfl, .inr h⟩)))
theorem flat_ints (ns : List Int) : ∀ d ∈ ns.map PyData.int, d.canLay0 = true ∧ d.depth ≤ 0 := fun d hd => by
  obtain ⟨i, _, rfl⟩ := List.mem_map.mp hd
  exact ⟨rfl, Nat.le_refl _⟩
theorem Simple.data (h : Simple H x) : ∃ d, Dp K H x d ∧ d.canLay0 = true ∧ d.depth ≤ 60 := by
  rcases h with rfl | ⟨b, rfl⟩ | ⟨i, rfl⟩ | ⟨s, rfl, k⟩ | ⟨a, ns, rfl, g | g⟩
  · exact ⟨_, .non, rfl, Nat.zero_le _⟩
  · exact ⟨_, .bl _, rfl, Nat.zero_le _⟩
  · exact ⟨_, .int _, rfl, Nat.zero_le _⟩
  · exact ⟨_, .str _, k, Nat.zero_le _⟩
  · have z := lay_all (flat_ints ns)
    refine ⟨.list (ns.map PyData.int), dp_ints (sq_of g), ?_, ?_⟩
    · unfold PyData.canLay0
      exact z.1
    · unfold PyData.depth
      have := z.2
      omega
  · have z := lay_all (flat_ints ns)
    refine ⟨.tuple (ns.map PyData.int), .tup (st_of g) (dpAll_map fun _ _ => .int _), ?_, ?_⟩
    · unfold PyData.canLay0
      exact z.1
    · unfold PyData.depth
      have := z.2
      omega
/-- the data of a list of such things -/
theorem simple_list {a : Addr} : ∀ {xs : List V}, (∀ x ∈ xs, Simple H x) → ∃ ds : List PyData, DpAll K H xs ds ∧ ds.length = xs.length ∧ ∀ d ∈ ds, d.canLay0 = true ∧ d.depth ≤ 60
  | [], _ => ⟨[], .nil, rfl, fun _ h => by cases h⟩
  | x :: r, h => by
    obtain ⟨d, h1, h2, h3⟩ := (h x List.mem_cons_self).data (K := K)
    obtain ⟨ds, k1, k2, k3⟩ := simple_list (a := a) fun z hz => h z (List.mem_cons_of_mem _ hz)
    refine ⟨d :: ds, .cons h1 k1, by simp [k2], fun e he => ?_⟩
    rcases List.mem_cons.mp he with rfl | he
    · exact ⟨h2, h3⟩
    · exact k3 e he
/-- two lists of the same things are equal -/
theorem ev_neSame {a b : Addr} {xs : List V} (ha : Ev ta σ H (.ref a)) (hb : Ev tb σ H (.ref b)) (hA : SqL K H a xs) (hB : SqL K H b xs) (hx : ∀ x ∈ xs, Simple H x) : Ev (tOp (rNeD K) ta tb) σ H (.bl false) := by
  obtain ⟨ds, h1, _, h3⟩ := simple_list (K := K) (a := a) hx
  have s := shaped_list h3
  exact ev_is (ev_neD ha hb (.lst hA h1) (.lst hB h1) s s) (by rw [eqv_same s]; rfl)
/-- a list compared with a new empty one -/
theorem ev_eqNil {xs : List V} (ha : EvX ta σ H fun ys H2 => ys = xs ∧ ∀ x ∈ xs, Simple H2 x) (hb : ∀ H1, Ex H H1 → EvL tb σ H1 []) : Ev (tOp (rEqD K) ta tb) σ H (.bl xs.isEmpty) := fun H1 e Q q =>
  ha H1 e _ fun p ys H2 hp e2 h2 r => by
    obtain ⟨rfl, hs⟩ := r
    refine hb H2 (e.trans e2) H2 (Ex.refl _) _ fun b H3 hb' e3 h3 => ?_
    obtain ⟨ds, k1, k2, k3⟩ := simple_list (K := K) (a := p) hs
    refine ⟨.list ds, .list [], .lst (sq_of (e3 _ _ h2)) (dp_monoAll e3 _ _ k1), .lst (sq_of h3) .nil, shaped_list k3, rfl, ?_⟩
    have z : PyData.eqv (.list ds) (.list []) = ys.isEmpty := by
      cases ys with
      | nil =>
        have : ds = [] := List.length_eq_zero_iff.mp k2
        rw [this]
        rfl
      | cons y r =>
        cases ds with
        | nil => simp at k2
        | cons d r2 => rfl
    rw [z]
    exact q H3 (e2.trans e3)
theorem ev_eqNilI {r : Addr} {ks : List Int} (ha : Ev ta σ H (.ref r)) (h : SqL K H r (ks.map V.int)) (hb : ∀ H1, Ex H H1 → EvL tb σ H1 []) : Ev (tOp (rEqD K) ta tb) σ H (.bl ks.isEmpty) := fun H1 e Q q =>
  ha H1 e _ fun H2 e2 => hb H2 (e.trans e2) H2 (Ex.refl _) _ fun b H3 hb' e3 h3 => by
    refine ⟨.list (ks.map PyData.int), .list [], dp_ints (ex_l ((e.trans e2).trans e3) h), .lst (sq_of h3) .nil, shaped_ints ks, rfl, ?_⟩
    have z : PyData.eqv (.list (ks.map PyData.int)) (.list []) = ks.isEmpty := by cases ks <;> rfl
    rw [z]
    exact q H3 (e2.trans e3)
theorem cutV_from (xs : List V) (n : Nat) : cutV xs (some (n : Int)) none = xs.drop n := by
  unfold cutV
  rw [show HT.sIx xs.length 0 (some (n : Int)) = min n xs.length from HT.sIx_nat xs.length 0 n, HT.sIx_none]
  by_cases h : n ≤ xs.length
  · rw [Nat.min_eq_left h, List.take_of_length_le (by rw [List.length_drop]; omega)]
  · rw [Nat.min_eq_right (by omega), List.drop_of_length_le (Nat.le_refl _), List.drop_of_length_le (by omega)]
    exact List.take_nil
/-! ### argument lists whose items are things -/
def EvS (ta : TA) (σ : L2.St) (H : Hp) (R : List V → Hp → Prop) : Prop := ∀ H1, Ex H H1 → ∀ Q : List V → Hp → Prop, (∀ vs H2, Ex H1 H2 → R vs H2 → Q vs H2) → ta σ H1 Q
theorem es_nil : EvS tNil σ H fun vs _ => vs = [] := fun H1 _ Q q => q [] H1 (Ex.refl _) rfl
/-- n things, none an object of H -/
def AllS (H0 : Hp) (n : Nat) (vs : List V) (H : Hp) : Prop := vs.length = n ∧ ∀ v ∈ vs, Simple H v ∧ ∀ b, v = .ref b → H0 b = none
theorem es0 : EvS tNil σ H (AllS H 0) := fun H1 _ Q q => q [] H1 (Ex.refl _) ⟨rfl, fun _ h => by cases h⟩
theorem AllS.cons {H0 : Hp} {n : Nat} {vs : List V} (h : Simple H v) (f : ∀ b, v = .ref b → H0 b = none) (k : AllS H0 n vs H) : AllS H0 (n + 1) (v :: vs) H := ⟨by rw [List.length_cons, k.1], fun w hw => (List.mem_cons.mp hw).elim (fun e => e ▸ ⟨h, f⟩) (k.2 w)⟩
theorem es_v {tr : TA} {n : Nat} (h : Ev te σ H v) (hs : Simple H v) (k : EvS tr σ H (AllS H n)) (f : ∀ b, v = .ref b → H b = none := by intro _ z; cases z) : EvS (tCons te tr) σ H (AllS H (n + 1)) := fun H1 e Q q =>
  h H1 e _ fun H2 e2 => k H2 (e.trans e2) _ fun vs H3 e3 r => q _ H3 (e2.trans e3) (AllS.cons (hs.mono ((e.trans e2).trans e3)) f r)
theorem es_l {tr : TA} {n : Nat} {ns : List Int} (h : EvL te σ H (ns.map V.int)) (k : EvS tr σ H (AllS H n)) : EvS (tCons te tr) σ H (AllS H (n + 1)) := fun H1 e Q q =>
  h H1 e _ fun p H2 hp e2 h2 => k H2 (e.trans e2) _ fun vs H3 e3 r => q _ H3 (e2.trans e3) (AllS.cons (Simple.lst (e3 _ _ h2)) (fun b z => by cases z; exact fresh_back e hp) r)
theorem es_u {tr : TA} {n : Nat} {ns : List Int} (h : EvU te σ H (ns.map V.int)) (k : EvS tr σ H (AllS H n)) : EvS (tCons te tr) σ H (AllS H (n + 1)) := fun H1 e Q q =>
  h H1 e _ fun p H2 hp e2 h2 => k H2 (e.trans e2) _ fun vs H3 e3 r => q _ H3 (e2.trans e3) (AllS.cons (Simple.tup (e3 _ _ h2)) (fun b z => by cases z; exact fresh_back e hp) r)
/-- a thing is told, none of the objects that were there -/
def RetS (H : Hp) (Q : VK) : Prop := ∀ v H2, Ex H H2 → Simple H2 v → (∀ b, v = .ref b → H b = none) → Q v H2
/-- an item of a list of things written there -/
theorem s_retItem {ts : TA} {n : Nat} {j : Nat} (h : EvS ts σ H (AllS H n)) (hi : Ev te σ H (.int (j : Int))) (hj : j < n) (hn : n ≤ 1000) (q : RetS H D.rt) : tRet (tOp (rIxL K) (tLst ts) te) D σ H :=
  h H (Ex.refl _) _ fun vs H2 e2 r => ⟨sz_of (by rw [r.1]; omega), fun p hp => hi (upd H2 p (.lst vs)) (e2.trans (Ex.new hp)) _ fun H3 e3 => by
    have hjl : j < vs.length := by rw [r.1]; exact hj
    refine ⟨p, vs, (j : Int), vs[j], rfl, rfl, sq_of (e3 _ _ upd_same), ?_, ?_⟩
    · unfold atI
      rw [ixN_nat hjl]
      exact List.getElem?_eq_getElem hjl
    · exact q _ H3 ((e2.trans (Ex.new hp)).trans e3) ((r.2 _ (List.getElem_mem hjl)).1.mono ((Ex.new hp).trans e3)) (r.2 _ (List.getElem_mem hjl)).2⟩
/-! ### more of the same, small -/
theorem el_range {n : Nat} {ta : TE} (h : Ev ta σ H (.int (n : Int))) (hn : n ≤ 10000) : EvL (tLstRg (tRg1 ta)) σ H ((List.range n).map fun (i : Nat) => V.int (i : Int)) := fun H1 e Q q =>
  h H1 e _ fun H2 e2 => ⟨(n : Int), rfl, ⟨by omega, by omega, by omega, by omega, by omega⟩, fun p hp => by
    refine q p _ (fresh_back e2 hp) (e2.trans (Ex.new hp)) ?_
    rw [upd_same]
    unfold rgV
    rw [show ((n : Int) - 0).toNat = n by omega]
    congr 2
    refine List.map_congr_left fun i _ => ?_
    rw [Int.zero_add]⟩
/-- if b: xs.append(v) -/
theorem q_ifApp {b : Bool} {l : Addr} {xs : List V} (hl : H l = some (.lst xs)) (ht : EvT t σ H b) (ha : Ev ta σ H (.ref l)) (hv : Ev te σ H v) (hz : xs.length < 1000) (k : ∀ H1, ExB l H H1 → H1 l = some (.lst (xs ++ if b = true then [v] else [])) → tz D σ H1) :
    tSeq (tIfS t (tDrop (tBM K "list" rAppend ta (tCons te tNil))) tNext) tz D σ H := by
  refine q_when ht (fun hb H1 e1 => ?_) (fun hb H1 e1 => ?_)
  · refine s_app (D := { D with nx := tz D }) (e1 _ _ hl) (fun H2 e => ha H2 (e1.trans e)) (fun H2 e => hv H2 (e1.trans e)) (by omega) fun H2 e2 => ?_
    refine k _ (fun c o hc hb => ?_) ?_
    · rw [upd_ne hb]
      exact e2 _ _ (e1 _ _ hc)
    · rw [upd_same, if_pos hb]
  · refine k H1 (fun c o hc _ => e1 _ _ hc) ?_
    rw [e1 _ _ hl, hb]
    simp
theorem ev_isP {a : Addr} {D : Addr} {c : V} {cv : Value} {b : Bool} (C : ExcC K D) (ha : Ev ta σ H (.ref a)) (hc : Ev tb σ H c) (hr : ∀ u, RelV c u → u = cv) (hk : PySem.W.kitOne K (.ref D) cv = some b) : Ev (tCB (rIsP K a (.ref D)) (tCons ta (tCons tb tNil))) σ H (.bl b) := fun H1 e Q q =>
  ha H1 e _ fun H2 e2 => hc H2 (e.trans e2) _ fun H3 e3 => ⟨D, c, cv, b, rfl, C, rfl, hr, hk, q H3 (e2.trans e3)⟩
/-- a new tuple is told -/
def RetU (xs : List V) (H : Hp) (Q : VK) : Prop := ∀ p H2, H p = none → Ex H H2 → H2 p = some (.tup xs) → Q (.ref p) H2
theorem RetU.go {xs : List V} {Q : VK} (k : RetU xs H Q) (e : Ex H H') {p : Addr} {H2 : Hp} (hp : H' p = none) (e2 : Ex H' H2) (h : H2 p = some (.tup xs)) : Q (.ref p) H2 := k p H2 (fresh_back e hp) (e.trans e2) h
theorem ev_isList {a : Addr} {xs : List V} (h : Ev te σ H (.ref a)) (k : H a = some (.lst xs)) : Ev (tCB (rIsi K) (tCons te (tCons (tC (.ty "list")) tNil))) σ H (.bl true) := fun H1 e Q q =>
  h H1 e _ fun H2 e2 => ⟨.ref a, .ty "list", _, _, true, rfl, .ty _, .base (.lst ((e.trans e2) _ _ k)), kit_ty (by decide +kernel), q H2 e2⟩
theorem ev_isListU {a : Addr} {xs : List V} (h : Ev te σ H (.ref a)) (k : H a = some (.tup xs)) : Ev (tCB (rIsi K) (tCons te (tCons (tC (.ty "list")) tNil))) σ H (.bl false) := fun H1 e Q q =>
  h H1 e _ fun H2 e2 => ⟨.ref a, .ty "list", _, _, false, rfl, .ty _, .base (.tup ((e.trans e2) _ _ k)), kit_ty (by decide +kernel), q H2 e2⟩
def rMin2 : List V → Hp → VK → Prop := fun xs H Q => ∃ i j, xs = [.int i, .int j] ∧ Q (.int (if j < i then j else i)) H
theorem ev_min2 {i j : Int} (ha : Ev ta σ H (.int i)) (hb : Ev tb σ H (.int j)) : Ev (tCB rMin2 (tCons ta (tCons tb tNil))) σ H (.int (if j < i then j else i)) := fun H1 e Q q =>
  ha H1 e _ fun H2 e2 => hb H2 (e.trans e2) _ fun H3 e3 => ⟨i, j, rfl, q H3 (e2.trans e3)⟩
def rLenTx : List V → Hp → VK → Prop := fun xs H Q => ∃ z, xs = [.str z] ∧ z.length ≤ sizeLine ∧ Q (.int z.length) H
theorem ev_lenTx {l : List Nat} (ha : Ev ta σ H (.str (tx l))) (hl : l.length ≤ 100000) : Ev (tCB rLenTx (tCons ta tNil)) σ H (.int (l.length : Int)) := fun H1 e Q q =>
  ha H1 e _ fun H2 e2 => ⟨tx l, rfl, by rw [tx_len]; exact sz_of hl, by rw [tx_len]; exact q H2 e2⟩
theorem cutS_to (l : List Nat) (n : Nat) : cutS (tx l) none (some (n : Int)) = tx (l.take n) := by
  unfold cutS
  rw [HT.sIx_none, show HT.sIx (tx l).length (tx l).length (some (n : Int)) = min n (tx l).length from HT.sIx_nat _ _ n, tx_len]
  show tx ((l.drop 0).take (min n l.length - 0)) = _
  rw [List.drop_zero, Nat.sub_zero]
  congr 1
  by_cases h : n ≤ l.length
  · rw [Nat.min_eq_left h]
  · rw [Nat.min_eq_right (by omega), List.take_length, List.take_of_length_le (by omega)]
theorem ev_slTo {l : List Nat} {n : Nat} {th : TO} (ha : Ev ta σ H (.str (tx l))) (hh : EvO th σ H (some (n : Int))) (hl : l.length ≤ 100000) : Ev (tSl rSlS ta tNoPart th) σ H (.str (tx (l.take n))) := fun H1 e Q q =>
  ha H1 e _ fun H2 e2 => hh H2 (e.trans e2) _ fun H3 e3 => ⟨tx l, rfl, by rw [tx_len]; exact sz_of hl, by rw [cutS_to]; exact q H3 (e2.trans e3)⟩
theorem tx_app (a b : List Nat) : tx a ++ tx b = tx (a ++ b) := by
  show (⟨a.toArray ++ b.toArray⟩ : Str) = ⟨(a ++ b).toArray⟩
  rw [List.append_toArray]
theorem tx_inj {a b : List Nat} (h : tx a = tx b) : a = b := by
  have := congrArg (fun z : Str => z.cps.toList) h
  exact this
theorem rv_addTx {a b : List Nat} (h : a.length + b.length ≤ 100000) : RV (fun x y H Q => ∃ i j, x = .str i ∧ y = .str j ∧ i.length + j.length ≤ sizeLine ∧ Q (.str (i ++ j)) H) (.str (tx a)) (.str (tx b)) H (.str (tx (a ++ b))) := fun H1 _ _ q =>
  ⟨tx a, tx b, rfl, rfl, by rw [tx_len, tx_len]; exact sz_of h, by rw [tx_app]; exact q H1 (Ex.refl _)⟩
theorem canLay_tx {l : List Nat} (h : ∀ c ∈ l, c < 0x110000) : PyData.canLay0 (.str (tx l)) = true := by
  unfold PyData.canLay0
  unfold PyData.strOk
  rw [Array.all_eq_true]
  intro i hi
  exact decide_eq_true (h _ (List.getElem_mem (by simpa [tx] using hi)))
theorem ev_eqLL {xs ys : List V} {d e : PyData} (ha : EvL ta σ H xs) (hb : EvL tb σ H ys) (hd : ∀ p H1, H1 p = some (.lst xs) → Dp K H1 (.ref p) d) (he : ∀ p H1, H1 p = some (.lst ys) → Dp K H1 (.ref p) e) (sd : SeqAt.shaped d = true) (se : SeqAt.shaped e = true) : Ev (tOp (rEqD K) ta tb) σ H (.bl (PyData.eqv d e)) :=
  ev_opLL ha hb fun p q H1 h1 h2 _ H2 e2 Q k => ⟨d, e, dp_mono e2 d _ (hd p H1 h1), dp_mono e2 e _ (he q H1 h2), sd, se, k H2 (Ex.refl _)⟩
def vtx (l : List Nat) : V := .str (tx l)
def dtx (l : List Nat) : PyData := .str (tx l)
theorem dp_txs {a : Addr} {ws : List (List Nat)} (h : SqL K H a (ws.map vtx)) : Dp K H (.ref a) (.list (ws.map dtx)) := .lst h (dpAll_map fun _ _ => .str _)
theorem shaped_txs {ws : List (List Nat)} (h : ∀ u ∈ ws, ∀ c ∈ u, c < 0x110000) : SeqAt.shaped (.list (ws.map dtx)) = true := shaped_list fun d hd => by
  obtain ⟨u, hu, rfl⟩ := List.mem_map.mp hd
  exact ⟨canLay_tx (h u hu), Nat.zero_le _⟩
end
end Sl

/-! ### the depths of a tree's leaves, in their order -/
namespace Sl
inductive Leafs : Int → List Int → Prop where
  | leaf (d : Int) : Leafs d [d]
  | node {d : Int} {a b : List Int} : Leafs (d + 1) a → Leafs (d + 1) b → Leafs d (a ++ b)
theorem Leafs.ne {d : Int} {a : List Int} (h : Leafs d a) : a ≠ [] := by
  induction h with
  | leaf d => exact List.cons_ne_nil _ _
  | node _ _ ih1 ih2 => exact fun e => ih1 (List.append_eq_nil_iff.mp e).1
theorem Leafs.le {d : Int} {a : List Int} (h : Leafs d a) : ∀ x ∈ a, d ≤ x := by
  induction h with
  | leaf d => intro x hx; rw [List.mem_singleton.mp hx]; exact Int.le_refl _
  | node _ _ ih1 ih2 =>
    intro x hx
    rcases List.mem_append.mp hx with hx | hx
    · have := ih1 x hx; omega
    · have := ih2 x hx; omega
/-- a leaf becomes a fork -/
theorem Leafs.split {d : Int} {xs : List Int} (h : Leafs d xs) : ∀ {l r : List Int} {e : Int}, xs = l ++ e :: r → Leafs d (l ++ (e + 1) :: (e + 1) :: r) := by
  induction h with
  | leaf d =>
    intro l r e he
    cases l with
    | nil =>
      have := List.cons.inj he
      rw [← this.1, ← this.2]
      show Leafs d ([d + 1] ++ [d + 1])
      exact .node (.leaf _) (.leaf _)
    | cons y l =>
      have := (List.cons.inj he).2
      exact absurd this.symm (by simp)
  | @node d a b ha hb ih1 ih2 =>
    intro l r e he
    rcases List.append_eq_append_iff.mp he with ⟨m, h1, h2⟩ | ⟨m, h1, h2⟩
    · -- l = a ++ m
      rw [h1]
      have := Leafs.node ha (ih2 h2)
      rw [List.append_assoc]
      exact this
    · cases m with
      | nil =>
        rw [List.append_nil] at h1
        have h2' : e :: r = b := h2
        rw [← h1]
        have := Leafs.node ha (ih2 (l := []) h2'.symm)
        exact this
      | cons y m =>
        have hy := List.cons.inj h2
        rw [← hy.1] at h1
        have := Leafs.node (ih1 h1) hb
        rw [hy.2]
        rw [List.append_assoc] at this
        exact this
/-- what all leaves weigh -/
theorem Leafs.kraft {B : Nat} {d : Int} {xs : List Int} (h : Leafs d xs) (hd : 0 ≤ d) (hx : ∀ x ∈ xs, x ≤ (B : Int)) : (xs.map fun x => 2 ^ ((B : Int) - x).toNat).sum = 2 ^ ((B : Int) - d).toNat := by
  induction h with
  | leaf d => simp
  | @node d a b ha hb ih1 ih2 =>
    rw [List.map_append, List.sum_append, ih1 (by omega) fun x h => hx x (List.mem_append_left _ h), ih2 (by omega) fun x h => hx x (List.mem_append_right _ h)]
    obtain ⟨x, r, e⟩ : ∃ x r, a = x :: r := by
      cases a with
      | nil => exact absurd rfl ha.ne
      | cons x r => exact ⟨x, r, rfl⟩
    have h1 : d + 1 ≤ x := ha.le x (by rw [e]; exact List.mem_cons_self)
    have h2 : x ≤ (B : Int) := hx x (List.mem_append_left _ (by rw [e]; exact List.mem_cons_self))
    rw [show ((B : Int) - d).toNat = ((B : Int) - (d + 1)).toNat + 1 by omega, Nat.pow_succ]
    omega
end Sl

/-! ### words in order: each at the first place behind that its length allows -/
namespace Sl
open PySem L2 Evl
/-- the first multiple of s from p on -/
def up (p s : Nat) : Nat := (p + s - 1) / s * s
def endO (p : Nat) : List Int → Nat
  | [] => p
  | l :: r => endO (up p (sz l) + sz l) r
def wordsO (p : Nat) : List Int → List (List Nat)
  | [] => []
  | l :: r => word (up p (sz l)) l :: wordsO (up p (sz l) + sz l) r
theorem up_le {p s : Nat} (h : 0 < s) : p ≤ up p s := by
  unfold up
  have h1 := Nat.div_add_mod (p + s - 1) s
  have h2 := Nat.mod_lt (p + s - 1) h
  rw [Nat.mul_comm] at h1
  omega
theorem up_mod (p s : Nat) : up p s = up p s / s * s := by
  unfold up
  rcases Nat.eq_zero_or_pos s with h | h
  · subst h; simp
  · rw [Nat.mul_div_cancel _ h]
/-- the same by the remainder -/
theorem up_eq {p s : Nat} (h : 0 < s) : up p s = if 0 < p % s then p + s - p % s else p := by
  unfold up
  have h1 := Nat.div_add_mod p s
  have h2 := Nat.mod_lt p h
  split
  · rename_i hp
    have e : (p + s - 1) / s = p / s + 1 := by
      rw [show p + s - 1 = (p % s - 1) + s * (p / s + 1) by rw [Nat.mul_add, Nat.mul_one]; omega, Nat.add_mul_div_left _ _ h, Nat.div_eq_of_lt (by omega)]
      omega
    rw [e, Nat.add_mul, Nat.one_mul, Nat.mul_comm]
    omega
  · rename_i hp
    have e : (p + s - 1) / s = p / s := by
      rw [show p + s - 1 = (s - 1) + s * (p / s) by omega, Nat.add_mul_div_left _ _ h, Nat.div_eq_of_lt (by omega)]
      omega
    rw [e, Nat.mul_comm]
    omega
theorem endO_le : ∀ (ls : List Int) (p : Nat), p ≤ endO p ls
  | [], p => Nat.le_refl p
  | l :: r, p => Nat.le_trans (Nat.le_trans (up_le (sz_pos l)) (Nat.le_add_right _ _)) (endO_le r _)
theorem endO_sum : ∀ (ls : List Int) (p : Nat), p + (ls.map sz).sum ≤ endO p ls
  | [], p => Nat.le_refl p
  | l :: r, p => by
    have h := endO_sum r (up p (sz l) + sz l)
    have k := up_le (p := p) (sz_pos l)
    show p + (sz l :: r.map sz).sum ≤ endO (up p (sz l) + sz l) r
    rw [List.sum_cons]
    omega
theorem endO_app : ∀ (a b : List Int) (p : Nat), endO p (a ++ b) = endO (endO p a) b
  | [], _, _ => rfl
  | l :: r, b, p => endO_app r b _
theorem wordsO_app : ∀ (a b : List Int) (p : Nat), wordsO p (a ++ b) = wordsO p a ++ wordsO (endO p a) b
  | [], _, _ => rfl
  | l :: r, b, p => by
    show word _ l :: wordsO _ (r ++ b) = word _ l :: (wordsO _ r ++ wordsO (endO _ r) b)
    rw [wordsO_app r b]
theorem wordsO_len : ∀ (ls : List Int) (p : Nat), (wordsO p ls).length = ls.length
  | [], _ => rfl
  | l :: r, p => congrArg (· + 1) (wordsO_len r _)
theorem endO_take (ls : List Int) (i : Nat) : endO 0 (ls.take i) ≤ endO 0 ls := by
  conv => rhs; rw [← List.take_append_drop i ls, endO_app]
  exact endO_le _ _
theorem endO_step {ls : List Int} {i : Nat} {l : Int} (h : ls[i]? = some l) : endO 0 (ls.take (i + 1)) = up (endO 0 (ls.take i)) (sz l) + sz l := by
  rw [List.take_add_one, h, endO_app]
  rfl
theorem wordsO_step {ls : List Int} {i : Nat} {l : Int} (h : ls[i]? = some l) : wordsO 0 (ls.take (i + 1)) = wordsO 0 (ls.take i) ++ [word (up (endO 0 (ls.take i)) (sz l)) l] := by
  rw [List.take_add_one, h, wordsO_app]
  rfl
theorem wordsO_at {ls : List Int} {i : Nat} {l : Int} (h : ls[i]? = some l) : (wordsO 0 ls)[i]? = some (word (up (endO 0 (ls.take i)) (sz l)) l) := by
  have hi := (List.getElem?_eq_some_iff.mp h).1
  have e : ls = ls.take i ++ l :: ls.drop (i + 1) := by
    have := (List.getElem?_eq_some_iff.mp h).2
    rw [← this, ← List.drop_eq_getElem_cons hi, List.take_append_drop]
  conv => lhs; rw [e, wordsO_app]
  rw [List.getElem?_append_right (by rw [wordsO_len, List.length_take]; omega), wordsO_len, List.length_take, show i - min i ls.length = 0 by omega]
  rfl
/-- places of an earlier sign lie ahead of a later one's -/
theorem placesO_lt {ls : List Int} {i j : Nat} {l m : Int} (hij : i < j) (hi : ls[i]? = some l) (hj : ls[j]? = some m) : up (endO 0 (ls.take i)) (sz l) + sz l ≤ up (endO 0 (ls.take j)) (sz m) := by
  have h1 := endO_step hi
  have h2 : endO 0 (ls.take (i + 1)) ≤ endO 0 (ls.take j) := by
    have := endO_take (ls.take j) (i + 1)
    rw [List.take_take, Nat.min_eq_left (by omega)] at this
    exact this
  have h3 := up_le (p := endO 0 (ls.take j)) (sz_pos m)
  omega
/-- two words at places whose quotients differ -/
theorem word_apartQ {p r : Nat} {l m : Int} (hl : 1 ≤ l) (hm : m ≤ 12) (hlm : l ≤ m) (hp : p < 4096) (hr : r < 4096) (h : p / sz l ≠ r / sz l) : (word r m).take l.toNat ≠ word p l := by
  intro e
  have l2 : l ≤ 12 := by omega
  have e1 : (word r m).take l.toNat = word r l := by
    unfold word
    rw [List.take_take, Nat.min_eq_left (by omega)]
  rw [e1, word_eq (by omega) l2, word_eq (by omega) l2] at e
  have e4096 : sz l * 2 ^ l.toNat = 4096 := by
    unfold sz
    rw [← Nat.pow_add]
    have : (12 - l).toNat + l.toNat = 12 := by omega
    rw [this]
  have b1 : p / sz l < 2 ^ l.toNat := Nat.div_lt_of_lt_mul (by rw [e4096]; exact hp)
  have b2 : r / sz l < 2 ^ l.toNat := Nat.div_lt_of_lt_mul (by rw [e4096]; exact hr)
  exact h (bits_inj _ b2 b1 e).symm
theorem wordsO_apart {ls : List Int} (h : LensOk ls) (hs : endO 0 ls ≤ 4096) {i j : Nat} {u v : List Nat} (hij : i ≠ j) (hu : (wordsO 0 ls)[i]? = some u) (hv : (wordsO 0 ls)[j]? = some v) : v.take u.length ≠ u := by
  have hi : i < ls.length := by
    have := (List.getElem?_eq_some_iff.mp hu).1
    rw [wordsO_len] at this
    exact this
  have hj : j < ls.length := by
    have := (List.getElem?_eq_some_iff.mp hv).1
    rw [wordsO_len] at this
    exact this
  have gi := List.getElem?_eq_getElem hi
  have gj := List.getElem?_eq_getElem hj
  obtain ⟨l, hl⟩ : ∃ l, l = ls[i] := ⟨_, rfl⟩
  obtain ⟨m, hm⟩ : ∃ m, m = ls[j] := ⟨_, rfl⟩
  rw [← hl] at gi
  rw [← hm] at gj
  have li := h l (List.mem_of_getElem? gi)
  have mj := h m (List.mem_of_getElem? gj)
  have eu : u = _ := Option.some.inj (hu.symm.trans (wordsO_at gi))
  have ev : v = _ := Option.some.inj (hv.symm.trans (wordsO_at gj))
  have bi : up (endO 0 (ls.take i)) (sz l) + sz l ≤ 4096 := by
    rw [← endO_step gi]
    exact Nat.le_trans (endO_take ls _) hs
  have bj : up (endO 0 (ls.take j)) (sz m) + sz m ≤ 4096 := by
    rw [← endO_step gj]
    exact Nat.le_trans (endO_take ls _) hs
  have pl := sz_pos l
  have pm := sz_pos m
  have lu : u.length = l.toNat := by rw [eu]; exact word_len (by omega) li.2
  have lv : v.length = m.toNat := by rw [ev]; exact word_len (by omega) mj.2
  by_cases hlm : l ≤ m
  · rw [lu, ev, eu]
    refine word_apartQ li.1 mj.2 hlm (by omega) (by omega) ?_
    rcases Nat.lt_or_gt_of_ne hij with q | q
    · have := placesO_lt q gi gj
      have : (up (endO 0 (ls.take i)) (sz l) + sz l) / sz l ≤ up (endO 0 (ls.take j)) (sz m) / sz l := Nat.div_le_div_right this
      rw [Nat.add_div_right _ pl] at this
      omega
    · have k := placesO_lt q gj gi
      have e := up_mod (endO 0 (ls.take i)) (sz l)
      have : up (endO 0 (ls.take j)) (sz m) / sz l < up (endO 0 (ls.take i)) (sz l) / sz l := by
        rw [Nat.div_lt_iff_lt_mul pl, ← e]
        omega
      omega
  · intro z
    have := congrArg List.length z
    rw [List.length_take, lu, lv] at this
    omega
/-! ### words rise as texts do -/
theorem bits_headO (i : Nat) : ∀ n, bits n (i + 1) = (48 + n / 2 ^ i % 2) :: bits n i := by
  induction i with
  | zero => intro n; show [] ++ [48 + n % 2] = _; rw [Nat.pow_zero, Nat.div_one]; rfl
  | succ i ih =>
    intro n
    show bits (n / 2) (i + 1) ++ [48 + n % 2] = _
    rw [ih, Nat.div_div_eq_div_mul, Nat.pow_succ, Nat.mul_comm (2 ^ i) 2]
    rfl
theorem bits_modO : ∀ (k n : Nat), bits (n % 2 ^ k) k = bits n k
  | 0, _ => rfl
  | k + 1, n => by
    show bits (n % 2 ^ (k + 1) / 2) k ++ [48 + n % 2 ^ (k + 1) % 2] = bits (n / 2) k ++ [48 + n % 2]
    have e1 : n % 2 ^ (k + 1) / 2 = n / 2 % 2 ^ k := by
      rw [Nat.pow_succ, Nat.mul_comm (2 ^ k) 2]
      exact Nat.mod_mul_right_div_self n 2 (2 ^ k)
    have e2 : n % 2 ^ (k + 1) % 2 = n % 2 := Nat.mod_mod_of_dvd n (by rw [Nat.pow_succ]; exact Nat.dvd_mul_left 2 _)
    rw [e1, e2, bits_modO k]
theorem bits_lt : ∀ (k n m : Nat), n < m → m < 2 ^ k → bits n k < bits m k
  | 0, n, m, h1, h2 => by rw [Nat.pow_zero] at h2; omega
  | k + 1, n, m, h1, h2 => by
    rw [bits_headO, bits_headO]
    have pk : 0 < 2 ^ k := Nat.pow_pos (by decide)
    have tn : n / 2 ^ k < 2 := Nat.div_lt_of_lt_mul (by rw [Nat.pow_succ] at h2; omega)
    have tm : m / 2 ^ k < 2 := Nat.div_lt_of_lt_mul (by rw [Nat.pow_succ] at h2; omega)
    have le : n / 2 ^ k ≤ m / 2 ^ k := Nat.div_le_div_right (Nat.le_of_lt h1)
    rw [Nat.mod_eq_of_lt tn, Nat.mod_eq_of_lt tm]
    rcases Nat.lt_or_eq_of_le le with q | q
    · exact List.Lex.rel (by omega)
    · rw [q, ← bits_modO k n, ← bits_modO k m]
      refine List.Lex.cons (bits_lt k _ _ ?_ (Nat.mod_lt _ pk))
      have e1 := Nat.div_add_mod n (2 ^ k)
      have e2 := Nat.div_add_mod m (2 ^ k)
      rw [q] at e1
      omega
/-- of two lists that differ, one less: so are beginnings of them that are no beginnings of each other -/
theorem take_lt : ∀ {A B : List Nat} {a b : Nat}, A < B → (B.take b).take (A.take a).length ≠ A.take a → (A.take a).take (B.take b).length ≠ B.take b → A.take a < B.take b
  | [], B, a, b, h, h1, _ => by
    exact absurd (by simp) h1
  | x :: A, [], a, b, h, _, _ => by cases h
  | x :: A, y :: B, 0, b, h, h1, _ => absurd (by simp) h1
  | x :: A, y :: B, a + 1, 0, h, _, h2 => absurd (by simp) h2
  | x :: A, y :: B, a + 1, b + 1, h, h1, h2 => by
    show x :: A.take a < y :: B.take b
    cases h with
    | rel h => exact List.Lex.rel h
    | cons h =>
      refine List.Lex.cons (take_lt h (fun z => h1 ?_) (fun z => h2 ?_))
      · show x :: (B.take b).take (A.take a).length = x :: A.take a
        rw [z]
      · show x :: (A.take a).take (B.take b).length = x :: B.take b
        rw [z]
theorem wordsO_rise {ls : List Int} (h : LensOk ls) (hs : endO 0 ls ≤ 4096) : (wordsO 0 ls).Pairwise (· < ·) := by
  rw [List.pairwise_iff_getElem]
  intro i j hi hj hij
  have gi := List.getElem?_eq_getElem hi
  have gj := List.getElem?_eq_getElem hj
  have a1 := wordsO_apart h hs (Nat.ne_of_lt hij) gi gj
  have a2 := wordsO_apart h hs (Nat.ne_of_gt hij) gj gi
  rw [wordsO_len] at hi hj
  have li := wordsO_at (List.getElem?_eq_getElem hi)
  have lj := wordsO_at (List.getElem?_eq_getElem hj)
  rw [gi] at li
  rw [gj] at lj
  have ei := Option.some.inj li
  have ej := Option.some.inj lj
  rw [ei, ej] at a1 a2 ⊢
  unfold word at a1 a2 ⊢
  refine take_lt (bits_lt 12 _ _ ?_ ?_) a1 a2
  · have := placesO_lt hij (List.getElem?_eq_getElem hi) (List.getElem?_eq_getElem hj)
    have := sz_pos ls[i]
    omega
  · have b := endO_step (List.getElem?_eq_getElem hj)
    have c := endO_take ls (j + 1)
    have := sz_pos ls[j]
    show _ < 4096
    omega
theorem wordsO_small {ls : List Int} (h : LensOk ls) : ∀ u ∈ wordsO 0 ls, (∀ c ∈ u, c < 0x110000) ∧ u.length ≤ 12 := by
  intro u hu
  obtain ⟨i, hi, rfl⟩ := List.getElem_of_mem hu
  have gi := List.getElem?_eq_getElem hi
  rw [wordsO_len] at hi
  have li := wordsO_at (List.getElem?_eq_getElem hi)
  rw [gi] at li
  rw [Option.some.inj li]
  have hl := h ls[i] (List.getElem_mem hi)
  refine ⟨fun c hc => ?_, ?_⟩
  · unfold word at hc
    exact bits_small (List.mem_of_mem_take hc)
  · rw [word_len (by omega) hl.2]
    omega
/-! ### sorted of texts that rise -/
theorem rising_pairs : ∀ (p : Str) (l : List Str), PyProof.Rows.sortedS (p :: l) = true → (p :: l).Pairwise fun a b => ¬ b.cps.toList < a.cps.toList
  | p, [], _ => List.pairwise_singleton _ _
  | p, x :: r, h => by
    have h' : (!PySem.Spec.ltCps x.cps.toList p.cps.toList && PyProof.Rows.sortedS (x :: r)) = true := h
    rw [Bool.and_eq_true] at h'
    have ih := rising_pairs x r h'.2
    have h1 : ¬ x.cps.toList < p.cps.toList := by
      have := h'.1
      rw [PyProof.Rows.ltCps_eq] at this
      simpa using this
    refine List.pairwise_cons.mpr ⟨fun y hy => ?_, ih⟩
    rcases List.mem_cons.mp hy with rfl | hy
    · exact h1
    · have h2 := (List.pairwise_cons.mp ih).1 y hy
      exact List.le_trans (l₁ := p.cps.toList) (l₂ := x.cps.toList) (l₃ := y.cps.toList) h1 h2
theorem sorted_same {ws : List (List Nat)} (h : ws.Pairwise (· < ·)) {ys : List Str} (hp : ys.Perm (ws.map tx)) (hs : PyProof.Rows.sortedS ys = true) : ys = ws.map tx := by
  refine List.Perm.eq_of_pairwise (le := fun a b : Str => ¬ b.cps.toList < a.cps.toList) (fun a b ha hb h1 h2 => ?_) ?_ ?_ hp
  · have e : a.cps.toList = b.cps.toList := List.le_antisymm h1 h2
    obtain ⟨u, _, rfl⟩ := List.mem_map.mp (hp.mem_iff.mp ha)
    obtain ⟨v, _, rfl⟩ := List.mem_map.mp hb
    have e' : u = v := e
    rw [e']
  · cases ys with
    | nil => exact List.Pairwise.nil
    | cons p l => exact rising_pairs p l hs
  · rw [List.pairwise_map]
    refine List.Pairwise.imp (fun {a b} k => ?_) h
    show ¬ b < a
    exact fun z => List.lt_irrefl a (List.lt_trans k z)
theorem el_sortedS {K : PySem.W.Frag} {σ : L2.St} {H : Hp} {ta : TE} {a : Addr} {ws : List (List Nat)} (ha : Ev ta σ H (.ref a)) (hS : SqL K H a (ws.map vtx)) (hl : ws.length < 64) (h : ws.Pairwise (· < ·)) : EvL (tCB (rSortedS K) (tCons ta tNil)) σ H (ws.map vtx) := fun H1 e Q q =>
  ha H1 e _ fun H2 e2 => ⟨a, ws.map tx, rfl, by
    rw [List.map_map]
    exact ex_l (e.trans e2) hS, by rw [List.length_map]; exact hl, fun ys p hp hs hn => by
    rw [sorted_same h hp hs, List.map_map]
    exact q p _ (fresh_back e2 hn) (e2.trans (Ex.new hn)) upd_same⟩

end Sl

/-! ### the table of weights in order: least sums of runs, and how runs are parted -/
namespace Sl
/-- the run's weights together -/
def sumR (ws : List Nat) (f l : Nat) : Nat := ((ws.take l).drop f).sum
def bestOf : List (Option Nat) → Option Nat
  | [] => none
  | none :: r => bestOf r
  | some a :: r => match bestOf r with
    | none => some a
    | some b => some (min a b)
def both : Option Nat → Option Nat → Option Nat
  | some a, some b => some (a + b)
  | _, _ => none
def val (ws : List Nat) : Nat → Nat → Nat → Option Nat
  | 0, f, l => if l ≤ f + 1 then some 0 else none
  | d + 1, f, l => if l ≤ f + 1 then some 0 else (bestOf ((List.range (l - f - 1)).map fun i => both (val ws d f (f + 1 + i)) (val ws d (f + 1 + i) l))).map (sumR ws f l + ·)
def ways (ws : List Nat) (d f l : Nat) : List (Option Nat) := (List.range (l - f - 1)).map fun i => both (val ws d f (f + 1 + i)) (val ws d (f + 1 + i) l)
theorem val_more (ws : List Nat) {d f l : Nat} (h : ¬ l ≤ f + 1) : val ws (d + 1) f l = (bestOf (ways ws d f l)).map (sumR ws f l + ·) := by
  show (if l ≤ f + 1 then some 0 else _) = _
  rw [if_neg h]
  rfl
theorem val_one (ws : List Nat) {f l : Nat} (h : l ≤ f + 1) : ∀ d, val ws d f l = some 0
  | 0 => by show (if l ≤ f + 1 then some 0 else none) = _; rw [if_pos h]
  | d + 1 => by show (if l ≤ f + 1 then some 0 else _) = _; rw [if_pos h]
theorem bestOf_mem : ∀ {l : List (Option Nat)} {b : Nat}, bestOf l = some b → some b ∈ l
  | none :: r, b, h => List.mem_cons_of_mem _ (bestOf_mem (l := r) h)
  | some a :: r, b, h => by
    unfold bestOf at h
    cases e : bestOf r with
    | none =>
      rw [e] at h
      rw [← h]
      exact List.mem_cons_self
    | some c =>
      rw [e] at h
      have h' : min a c = b := Option.some.inj h
      by_cases q : a ≤ c
      · rw [Nat.min_eq_left q] at h'
        rw [h']
        exact List.mem_cons_self
      · rw [Nat.min_eq_right (by omega)] at h'
        rw [← h']
        exact List.mem_cons_of_mem _ (bestOf_mem e)
theorem bestOf_le : ∀ {l : List (Option Nat)} {a : Nat}, some a ∈ l → ∃ b, bestOf l = some b ∧ b ≤ a
  | none :: r, a, h => by
    rcases List.mem_cons.mp h with h | h
    · cases h
    · exact bestOf_le (l := r) h
  | some c :: r, a, h => by
    unfold bestOf
    rcases List.mem_cons.mp h with h | h
    · cases h
      cases e : bestOf r with
      | none => exact ⟨c, rfl, Nat.le_refl _⟩
      | some b => exact ⟨min c b, rfl, Nat.min_le_left _ _⟩
    · obtain ⟨b, hb, hle⟩ := bestOf_le (l := r) h
      rw [hb]
      exact ⟨min c b, rfl, Nat.le_trans (Nat.min_le_right _ _) hle⟩
theorem bestOf_none {l : List (Option Nat)} (h : ∀ o ∈ l, o = none) : bestOf l = none := by
  cases e : bestOf l with
  | none => rfl
  | some b => exact absurd (h _ (bestOf_mem e)) (by simp)
theorem both_some {x y : Option Nat} {c : Nat} (h : both x y = some c) : ∃ a b, x = some a ∧ y = some b ∧ c = a + b := by
  cases x with
  | none => cases h
  | some a =>
    cases y with
    | none => cases h
    | some b => exact ⟨a, b, rfl, rfl, (Option.some.inj h).symm⟩
/-- there is a value just where the depth's room has a place for each sign -/
theorem val_some (ws : List Nat) : ∀ (d f l : Nat), f < l → ((∃ v, val ws d f l = some v) ↔ l - f ≤ 2 ^ d)
  | 0, f, l, h => by
    show (∃ v, (if l ≤ f + 1 then some 0 else none) = some v) ↔ _
    by_cases q : l ≤ f + 1
    · rw [if_pos q]
      exact ⟨fun _ => by rw [Nat.pow_zero]; omega, fun _ => ⟨0, rfl⟩⟩
    · rw [if_neg q]
      exact ⟨fun h => (by obtain ⟨v, h⟩ := h; cases h), fun h => (by rw [Nat.pow_zero] at h; omega)⟩
  | d + 1, f, l, h => by
    by_cases q : l ≤ f + 1
    · rw [val_one ws q]
      exact ⟨fun _ => by have := Nat.pow_pos (n := d + 1) (show 0 < 2 by decide); omega, fun _ => ⟨0, rfl⟩⟩
    · rw [val_more ws q, Nat.pow_succ]
      constructor
      · rintro ⟨v, hv⟩
        obtain ⟨b, hb, _⟩ := Option.map_eq_some_iff.mp hv
        obtain ⟨i, hi, e⟩ := List.mem_map.mp (bestOf_mem hb)
        have hi := List.mem_range.mp hi
        obtain ⟨x, y, h1, h2, _⟩ := both_some e
        have k1 := (val_some ws d f (f + 1 + i) (by omega)).mp ⟨x, h1⟩
        have k2 := (val_some ws d (f + 1 + i) l (by omega)).mp ⟨y, h2⟩
        omega
      · intro hl
        have pos := Nat.pow_pos (n := d) (show 0 < 2 by decide)
        obtain ⟨i, hi, k1, k2⟩ : ∃ i, i < l - f - 1 ∧ f + 1 + i - f ≤ 2 ^ d ∧ l - (f + 1 + i) ≤ 2 ^ d := by
          by_cases z : l - f - 1 ≤ 2 ^ d
          · exact ⟨l - f - 2, by omega, by omega, by omega⟩
          · exact ⟨2 ^ d - 1, by omega, by omega, by omega⟩
        obtain ⟨x, hx⟩ := (val_some ws d f (f + 1 + i) (by omega)).mpr k1
        obtain ⟨y, hy⟩ := (val_some ws d (f + 1 + i) l (by omega)).mpr k2
        obtain ⟨b, hb, _⟩ := bestOf_le (l := ways ws d f l) (a := x + y) (List.mem_map.mpr ⟨i, List.mem_range.mpr hi, by rw [hx, hy]; rfl⟩)
        exact ⟨_, by rw [hb]; rfl⟩
/-! where a run is parted -/
def mid (ws : List Nat) (d f l : Nat) : Nat := f + 1 + (ways ws d f l).findIdx fun o => o == bestOf (ways ws d f l)
theorem mid_of {ws : List Nat} {d f l v : Nat} (q : ¬ l ≤ f + 1) (h : val ws (d + 1) f l = some v) : ∃ a b, f < mid ws d f l ∧ mid ws d f l < l ∧ val ws d f (mid ws d f l) = some a ∧ val ws d (mid ws d f l) l = some b ∧ v = sumR ws f l + (a + b) ∧
    ∀ m, f < m → m < mid ws d f l → ∀ x y, val ws d f m = some x → val ws d m l = some y → sumR ws f l + (x + y) ≠ v := by
  rw [val_more ws q] at h
  obtain ⟨b, hb, rfl⟩ := Option.map_eq_some_iff.mp h
  have hx : ∃ x ∈ ways ws d f l, (x == bestOf (ways ws d f l)) = true := ⟨some b, bestOf_mem hb, by rw [hb]; simp⟩
  have hlt := List.findIdx_lt_length_of_exists hx
  have hg := List.findIdx_getElem (w := hlt)
  have wl : (ways ws d f l).length = l - f - 1 := by unfold ways; rw [List.length_map, List.length_range]
  have at_ : ∀ (i : Nat) (hi : i < (ways ws d f l).length), (ways ws d f l)[i] = both (val ws d f (f + 1 + i)) (val ws d (f + 1 + i) l) := fun i hi => by
    have k : (ways ws d f l)[i]? = some (both (val ws d f (f + 1 + i)) (val ws d (f + 1 + i) l)) := by
      unfold ways
      rw [List.getElem?_map, List.getElem?_range (by omega)]
      rfl
    rw [List.getElem?_eq_getElem hi] at k
    exact Option.some.inj k
  have hge : (ways ws d f l)[(ways ws d f l).findIdx fun o => o == bestOf (ways ws d f l)] = some b := by
    rw [← hb]
    exact eq_of_beq hg
  rw [at_ _ hlt] at hge
  obtain ⟨x, y, h1, h2, h3⟩ := both_some hge
  refine ⟨x, y, by unfold mid; omega, by unfold mid; omega, h1, h2, by rw [h3], fun m m1 m2 x' y' g1 g2 e => ?_⟩
  have hi : m - f - 1 < (ways ws d f l).findIdx fun o => o == bestOf (ways ws d f l) := by
    unfold mid at m2
    omega
  have no := List.not_of_lt_findIdx hi
  rw [at_ _ (by omega), show f + 1 + (m - f - 1) = m by omega, g1, g2, hb] at no
  have t : (some (x' + y') == some b) = false := no
  have : x' + y' = b := by omega
  rw [this] at t
  simp at t
def cut (ws : List Nat) : Nat → Nat → Nat → List Nat
  | 0, f, l => List.replicate (l - f) 0
  | d + 1, f, l => if l ≤ f + 1 then List.replicate (l - f) 0 else (cut ws d f (mid ws d f l) ++ cut ws d (mid ws d f l) l).map (· + 1)
def dot : List Nat → List Nat → Nat
  | w :: ws, d :: ds => w * d + dot ws ds
  | _, _ => 0
theorem dot_app : ∀ (a : List Nat) (ws b : List Nat), dot ws (a ++ b) = dot ws a + dot (ws.drop a.length) b
  | [], ws, b => by
    show dot ws b = dot ws [] + dot ws b
    cases ws <;> simp [dot]
  | x :: a, [], b => by simp [dot]
  | x :: a, w :: ws, b => by
    show w * x + dot ws (a ++ b) = w * x + dot ws a + dot (ws.drop a.length) b
    rw [dot_app a ws b]
    omega
theorem dot_up : ∀ (a ws : List Nat), dot ws (a.map (· + 1)) = dot ws a + (ws.take a.length).sum
  | [], ws => by cases ws <;> rfl
  | x :: a, [] => rfl
  | x :: a, w :: ws => by
    show w * (x + 1) + dot ws (a.map (· + 1)) = w * x + dot ws a + (w :: ws.take a.length).sum
    rw [dot_up a ws, List.sum_cons, Nat.mul_add]
    omega
theorem dot_zero : ∀ (n : Nat) (ws : List Nat), dot ws (List.replicate n 0) = 0
  | 0, ws => by cases ws <;> rfl
  | n + 1, [] => rfl
  | n + 1, w :: ws => by
    show w * 0 + dot ws (List.replicate n 0) = 0
    rw [dot_zero n ws]
    rfl
theorem sumR_eq (ws : List Nat) (f l : Nat) : sumR ws f l = ((ws.drop f).take (l - f)).sum := by
  unfold sumR
  rw [List.drop_take]
/-- what the lengths by parting weigh, and that they are the depths of a tree's leaves -/
theorem cut_all (ws : List Nat) : ∀ (d f l v : Nat), f < l → val ws d f l = some v → (cut ws d f l).length = l - f ∧ dot (ws.drop f) (cut ws d f l) = v ∧ (∀ x ∈ cut ws d f l, x ≤ d) ∧ ∀ e : Int, Leafs e ((cut ws d f l).map fun x : Nat => e + (x : Int))
  | 0, f, l, v, h, hv => by
    have q : l ≤ f + 1 := by
      by_cases q : l ≤ f + 1
      · exact q
      · have : (if l ≤ f + 1 then some 0 else none) = some v := hv
        rw [if_neg q] at this
        cases this
    rw [val_one ws q] at hv
    cases hv
    have e1 : l - f = 1 := by omega
    show (List.replicate (l - f) 0).length = _ ∧ _ ∧ (∀ x ∈ List.replicate (l - f) 0, x ≤ 0) ∧ ∀ e : Int, Leafs e ((List.replicate (l - f) 0).map _)
    rw [e1]
    refine ⟨rfl, ?_, fun x hx => by rw [List.eq_of_mem_replicate hx]; exact Nat.le_refl _, fun e => ?_⟩
    · show dot (ws.drop f) (List.replicate (l - f) 0) = 0
      exact dot_zero _ _
    · have := Leafs.leaf e
      rw [← Int.add_zero e] at this
      simpa using this
  | d + 1, f, l, v, h, hv => by
    by_cases q : l ≤ f + 1
    · rw [val_one ws q] at hv
      cases hv
      have e1 : l - f = 1 := by omega
      have ec : cut ws (d + 1) f l = List.replicate (l - f) 0 := by
        show (if l ≤ f + 1 then List.replicate (l - f) 0 else _) = _
        rw [if_pos q]
      rw [ec]
      refine ⟨by simp, dot_zero _ _, fun x hx => by rw [List.eq_of_mem_replicate hx]; exact Nat.zero_le _, fun e => ?_⟩
      rw [e1]
      have := Leafs.leaf e
      rw [← Int.add_zero e] at this
      simpa using this
    · obtain ⟨a, b, m1, m2, v1, v2, hvv, _⟩ := mid_of q hv
      have ec : cut ws (d + 1) f l = (cut ws d f (mid ws d f l) ++ cut ws d (mid ws d f l) l).map (· + 1) := by
        show (if l ≤ f + 1 then _ else _) = _
        rw [if_neg q]
      rw [ec]
      generalize mid ws d f l = m at *
      obtain ⟨l1, w1, b1, t1⟩ := cut_all ws d f m a m1 v1
      obtain ⟨l2, w2, b2, t2⟩ := cut_all ws d m l b m2 v2
      refine ⟨by rw [List.length_map, List.length_append, l1, l2]; omega, ?_, fun x hx => ?_, fun e => ?_⟩
      · rw [dot_up, dot_app, w1, l1, List.drop_drop, show f + (m - f) = m by omega, w2, List.length_append, l1, l2, hvv, sumR_eq, show m - f + (l - m) = l - f by omega]
        omega
      · obtain ⟨y, hy, rfl⟩ := List.mem_map.mp hx
        rcases List.mem_append.mp hy with hy | hy
        · have := b1 y hy; omega
        · have := b2 y hy; omega
      · have k1 := t1 (e + 1)
        have k2 := t2 (e + 1)
        have := Leafs.node k1 k2
        rw [← List.map_append] at this
        rw [List.map_map]
        have ef : ((fun x : Nat => e + (x : Int)) ∘ fun x => x + 1) = fun x : Nat => e + 1 + (x : Int) := by
          funext x
          show e + ((x + 1 : Nat) : Int) = _
          omega
        rw [ef]
        exact this
/-- no tree's leaves weigh less -/
theorem val_least (ws : List Nat) {B : Nat} {e : Int} {ds : List Int} (h : Leafs e ds) : ∀ (d f : Nat), e + (d : Int) = (B : Int) → 0 ≤ e → (∀ x ∈ ds, x ≤ (B : Int)) → f + ds.length ≤ ws.length →
    ∃ v, val ws d f (f + ds.length) = some v ∧ v + e.toNat * sumR ws f (f + ds.length) ≤ dot (ws.drop f) (ds.map Int.toNat) := by
  induction h with
  | leaf e =>
    intro d f hd he _ hl
    refine ⟨0, val_one ws (by simp) d, ?_⟩
    obtain ⟨w, hw⟩ : ∃ w, ws[f]? = some w := ⟨_, List.getElem?_eq_getElem (by simp at hl; omega)⟩
    have hd : ws.drop f = w :: ws.drop (f + 1) := by
      rw [← (List.getElem?_eq_some_iff.mp hw).2]
      exact List.drop_eq_getElem_cons _
    have es : sumR ws f (f + [e].length) = w := by
      rw [sumR_eq, hd, show f + [e].length - f = 1 by simp]
      simp
    rw [es, hd]
    show 0 + e.toNat * w ≤ w * e.toNat + dot _ []
    rw [Nat.mul_comm]
    omega
  | @node e a b ha hb ih1 ih2 =>
    intro d f hd he hx hl
    rw [List.length_append] at hl
    obtain ⟨x, r, ea⟩ : ∃ x r, a = x :: r := by
      cases a with
      | nil => exact absurd rfl ha.ne
      | cons x r => exact ⟨x, r, rfl⟩
    have g1 : e + 1 ≤ x := ha.le x (by rw [ea]; exact List.mem_cons_self)
    have g2 : x ≤ (B : Int) := hx x (List.mem_append_left _ (by rw [ea]; exact List.mem_cons_self))
    obtain ⟨d', rfl⟩ : ∃ d', d = d' + 1 := ⟨d - 1, by omega⟩
    obtain ⟨v1, k1, k2⟩ := ih1 d' f (by omega) (by omega) (fun x h => hx x (List.mem_append_left _ h)) (by omega)
    obtain ⟨v2, j1, j2⟩ := ih2 d' (f + a.length) (by omega) (by omega) (fun x h => hx x (List.mem_append_right _ h)) (by omega)
    have na : 0 < a.length := by rw [ea]; exact Nat.succ_pos _
    have nb : 0 < b.length := by
      cases b with
      | nil => exact absurd rfl hb.ne
      | cons x r => exact Nat.succ_pos _
    rw [List.length_append]
    have q : ¬ f + (a.length + b.length) ≤ f + 1 := by omega
    rw [Nat.add_assoc] at j1 j2
    obtain ⟨c, hc, hle⟩ := bestOf_le (l := ways ws d' f (f + (a.length + b.length))) (a := v1 + v2) (List.mem_map.mpr ⟨a.length - 1, List.mem_range.mpr (by omega), by rw [show f + 1 + (a.length - 1) = f + a.length by omega, k1, j1]; rfl⟩)
    refine ⟨sumR ws f (f + (a.length + b.length)) + c, by rw [val_more ws q, hc]; rfl, ?_⟩
    rw [List.map_append, dot_app, List.length_map, List.drop_drop]
    have es : sumR ws f (f + (a.length + b.length)) = sumR ws f (f + a.length) + sumR ws (f + a.length) (f + (a.length + b.length)) := by
      rw [sumR_eq, sumR_eq, sumR_eq, show f + (a.length + b.length) - f = a.length + b.length by omega, show f + a.length - f = a.length by omega, show f + (a.length + b.length) - (f + a.length) = b.length by omega, List.take_add, List.sum_append, List.drop_drop]
    have et : (e + 1).toNat = e.toNat + 1 := by omega
    rw [et, Nat.add_mul] at k2 j2
    rw [es, Nat.mul_add]
    omega
/-! leaves in their order take the places of a room one behind the other -/
def szB (B : Nat) (l : Int) : Nat := 2 ^ ((B : Int) - l).toNat
def endB (B : Nat) (p : Nat) : List Int → Nat
  | [] => p
  | l :: r => endB B (up p (szB B l) + szB B l) r
theorem endB_app (B : Nat) : ∀ (a b : List Int) (p : Nat), endB B p (a ++ b) = endB B (endB B p a) b
  | [], _, _ => rfl
  | l :: r, b, p => endB_app B r b _
theorem up_mul {s : Nat} (h : 0 < s) (k : Nat) : up (k * s) s = k * s := by
  rw [up_eq h, if_neg (by rw [Nat.mul_mod_left]; exact Nat.lt_irrefl _)]
theorem endB_leafs {B : Nat} {e : Int} {ds : List Int} (h : Leafs e ds) : ∀ k : Nat, (∀ x ∈ ds, x ≤ (B : Int)) → endB B (k * szB B e) ds = k * szB B e + szB B e := by
  induction h with
  | leaf e =>
    intro k _
    show up _ _ + _ = _
    rw [up_mul (s := szB B e) (Nat.pow_pos (by decide))]
  | @node e a b ha hb ih1 ih2 =>
    intro k hx
    obtain ⟨x, r, ea⟩ : ∃ x r, a = x :: r := by
      cases a with
      | nil => exact absurd rfl ha.ne
      | cons x r => exact ⟨x, r, rfl⟩
    have g1 : e + 1 ≤ x := ha.le x (by rw [ea]; exact List.mem_cons_self)
    have g2 : x ≤ (B : Int) := hx x (List.mem_append_left _ (by rw [ea]; exact List.mem_cons_self))
    have es : szB B e = 2 * szB B (e + 1) := by
      unfold szB
      rw [show ((B : Int) - e).toNat = ((B : Int) - (e + 1)).toNat + 1 by omega, Nat.pow_succ]
      omega
    have e1 : k * szB B e = (2 * k) * szB B (e + 1) := by
      rw [es, ← Nat.mul_assoc, Nat.mul_comm k 2]
    have e2 : (2 * k) * szB B (e + 1) + szB B (e + 1) = (2 * k + 1) * szB B (e + 1) := by rw [Nat.add_mul, Nat.one_mul]
    rw [endB_app, e1, ih1 (2 * k) fun x h => hx x (List.mem_append_left _ h), e2, ih2 (2 * k + 1) fun x h => hx x (List.mem_append_right _ h), es]
    rw [Nat.add_mul]
    omega
end Sl

/-! ### rows of packets: what they are, and that the first of the last row weigh least -/
namespace Sl
abbrev Pk := Nat × List Nat
/-- one packet put in place: behind all that weigh no more -/
def put : List Pk → Pk → List Pk
  | [], p => [p]
  | x :: r, p => if x.1 ≤ p.1 then x :: put r p else p :: x :: r
def mixed (a b : List Nat) : List Nat := (List.range 24).flatMap fun s => List.replicate (a.count s + b.count s) s
def pairsOf : List Pk → List Pk
  | x :: y :: r => (x.1 + y.1, mixed x.2 y.2) :: pairsOf r
  | _ => []
def alone (ws : List Nat) : List Pk := (List.range ws.length).map fun s => (ws.getD s 0, [s])
def firstRow (ws : List Nat) : List Pk := (alone ws).foldl put []
def rowOf (ws : List Nat) (ahead : List Pk) : List Pk := (pairsOf ahead).foldl put (firstRow ws)
/-- the k-th row, none for 0 -/
def rowP (ws : List Nat) : Nat → List Pk
  | 0 => []
  | k + 1 => rowOf ws (rowP ws k)
def SrtP (r : List Pk) : Prop := r.Pairwise fun x y => x.1 ≤ y.1
theorem put_perm : ∀ (r : List Pk) (p : Pk), (put r p).Perm (p :: r)
  | [], p => .refl _
  | x :: r, p => by
    unfold put
    split
    · exact ((put_perm r p).cons x).trans (.swap p x r)
    · exact .refl _
theorem put_srt : ∀ {r : List Pk} (p : Pk), SrtP r → SrtP (put r p)
  | [], p, _ => List.pairwise_singleton _ _
  | x :: r, p, h => by
    have h' := List.pairwise_cons.mp h
    unfold put
    split
    · rename_i hx
      refine List.pairwise_cons.mpr ⟨fun y hy => ?_, put_srt p h'.2⟩
      rcases List.mem_cons.mp ((put_perm r p).mem_iff.mp hy) with rfl | hy
      · exact hx
      · exact h'.1 y hy
    · rename_i hx
      refine List.pairwise_cons.mpr ⟨fun y hy => ?_, h⟩
      rcases List.mem_cons.mp hy with rfl | hy
      · omega
      · have := h'.1 y hy
        omega
theorem puts_srt : ∀ (ps : List Pk) {r : List Pk}, SrtP r → SrtP (ps.foldl put r)
  | [], _, h => h
  | p :: ps, _, h => puts_srt ps (put_srt p h)
theorem puts_perm : ∀ (ps r : List Pk), (ps.foldl put r).Perm (r ++ ps)
  | [], r => by rw [List.append_nil]; exact .refl _
  | p :: ps, r => by
    refine (puts_perm ps (put r p)).trans ?_
    refine ((put_perm r p).append_right ps).trans ?_
    exact List.perm_middle.symm
theorem firstRow_srt (ws : List Nat) : SrtP (firstRow ws) := puts_srt _ List.Pairwise.nil
theorem firstRow_perm (ws : List Nat) : (firstRow ws).Perm (alone ws) := puts_perm _ _
theorem firstRow_len (ws : List Nat) : (firstRow ws).length = ws.length := by
  rw [(firstRow_perm ws).length_eq]
  unfold alone
  rw [List.length_map, List.length_range]
theorem rowOf_srt (ws : List Nat) (r : List Pk) : SrtP (rowOf ws r) := puts_srt _ (firstRow_srt ws)
theorem rowP_srt (ws : List Nat) : ∀ k, SrtP (rowP ws k)
  | 0 => List.Pairwise.nil
  | _ + 1 => rowOf_srt ws _
theorem pairsOf_len : ∀ r : List Pk, (pairsOf r).length = r.length / 2
  | [] => rfl
  | [_] => by simp [pairsOf]
  | x :: y :: r => by
    show (pairsOf r).length + 1 = (r.length + 1 + 1) / 2
    rw [pairsOf_len r]
    omega
theorem pairsOf_take : ∀ (p : Nat) (r : List Pk), (pairsOf r).take p = pairsOf (r.take (2 * p))
  | 0, r => by rw [List.take_zero, Nat.mul_zero, List.take_zero]; rfl
  | p + 1, [] => by rw [List.take_nil]; rfl
  | p + 1, [x] => by
    show ([] : List Pk).take (p + 1) = pairsOf ([x].take (2 * p + 1 + 1))
    rfl
  | p + 1, x :: y :: r => by
    show (_ :: (pairsOf r).take p) = pairsOf ((x :: y :: r).take (2 * p + 1 + 1))
    rw [pairsOf_take p r]
    rfl
theorem pairsOf_srt : ∀ {r : List Pk}, SrtP r → SrtP (pairsOf r) := by
  have key : ∀ (n : Nat) (r : List Pk), r.length ≤ n → SrtP r → SrtP (pairsOf r) ∧ ∀ z ∈ pairsOf r, ∀ m : Nat, (∀ u ∈ r, m ≤ u.1) → m + m ≤ z.1 := by
    intro n
    induction n with
    | zero =>
      intro r hr _
      have : r = [] := List.length_eq_zero_iff.mp (by omega)
      subst this
      exact ⟨List.Pairwise.nil, fun z hz => by cases hz⟩
    | succ n ih =>
      intro r hr hs
      match r, hr, hs with
      | [], _, _ => exact ⟨List.Pairwise.nil, fun z hz => by cases hz⟩
      | [_], _, _ => exact ⟨List.Pairwise.nil, fun z hz => by cases hz⟩
      | x :: y :: r, hr, hs =>
        have h1 := List.pairwise_cons.mp hs
        have h2 := List.pairwise_cons.mp h1.2
        obtain ⟨k1, k2⟩ := ih r (by simp at hr; omega) h2.2
        refine ⟨List.pairwise_cons.mpr ⟨fun z hz => ?_, k1⟩, fun z hz m hm => ?_⟩
        · have a := k2 z hz y.1 h2.1
          have b := h1.1 y List.mem_cons_self
          show x.1 + y.1 ≤ z.1
          omega
        · rcases List.mem_cons.mp hz with rfl | hz
          · have a := hm x List.mem_cons_self
            have b := hm y (List.mem_cons_of_mem _ List.mem_cons_self)
            show m + m ≤ x.1 + y.1
            omega
          · exact k2 z hz m fun u hu => hm u (List.mem_cons_of_mem _ (List.mem_cons_of_mem _ hu))
  intro r h
  exact (key r.length r (Nat.le_refl _) h).1
/-! one row laid into another, on equal weights the first's packets first -/
inductive Mg : List Pk → List Pk → List Pk → Prop
  | nil : Mg [] [] []
  | left {a as ps r} : (∀ p ∈ ps, a.1 ≤ p.1) → Mg as ps r → Mg (a :: as) ps (a :: r)
  | right {p as ps r} : (∀ a ∈ as, p.1 < a.1) → Mg as ps r → Mg as (p :: ps) (p :: r)
theorem Mg.self : ∀ A : List Pk, Mg A [] A
  | [] => .nil
  | _ :: r => .left (fun _ h => by cases h) (Mg.self r)
theorem Mg.put {A ps R : List Pk} (h : Mg A ps R) (hA : SrtP A) (p : Pk) (hp : ∀ q ∈ ps, q.1 ≤ p.1) : Mg A (ps ++ [p]) (put R p) := by
  induction h with
  | nil => exact .right (fun _ h => by cases h) .nil
  | @left a as ps r h1 h2 ih =>
    have hA' := List.pairwise_cons.mp hA
    unfold Sl.put
    split
    · rename_i ha
      refine .left (fun q hq => ?_) (ih hA'.2 hp)
      rcases List.mem_append.mp hq with hq | hq
      · exact h1 q hq
      · rw [List.mem_singleton.mp hq]
        exact ha
    · rename_i ha
      cases ps with
      | nil =>
        refine .right (fun x hx => ?_) (.left h1 h2)
        rcases List.mem_cons.mp hx with rfl | hx
        · omega
        · have := hA'.1 x hx
          omega
      | cons q qs =>
        have a1 := h1 q List.mem_cons_self
        have a2 := hp q List.mem_cons_self
        omega
  | @right q as ps r h1 h2 ih =>
    unfold Sl.put
    rw [if_pos (hp q List.mem_cons_self)]
    exact .right h1 (ih hA fun z hz => hp z (List.mem_cons_of_mem _ hz))
theorem Mg.puts {A : List Pk} (hA : SrtP A) : ∀ (qs ps R : List Pk), Mg A ps R → SrtP (ps ++ qs) → Mg A (ps ++ qs) (qs.foldl Sl.put R)
  | [], ps, R, h, _ => by rw [List.append_nil]; exact h
  | q :: qs, ps, R, h, hs => by
    have e : ps ++ q :: qs = (ps ++ [q]) ++ qs := by rw [List.append_assoc]; rfl
    have k := (List.pairwise_append.mp hs).2.2
    rw [e] at hs ⊢
    exact Mg.puts hA qs (ps ++ [q]) (Sl.put R q) (h.put hA q fun z hz => k z hz q List.mem_cons_self) hs
theorem Mg.split {A ps R : List Pk} (h : Mg A ps R) : ∀ t, t ≤ R.length → ∃ a p, a + p = t ∧ a ≤ A.length ∧ p ≤ ps.length ∧ (R.take t).Perm (A.take a ++ ps.take p) ∧ ∀ q, 0 < p → ps[p - 1]? = some q → ∀ x ∈ A.drop a, q.1 < x.1 := by
  induction h with
  | nil => exact fun t ht => ⟨0, 0, by simp at ht; omega, Nat.le_refl _, Nat.le_refl _, by simp, fun q h => absurd h (by decide)⟩
  | @left a as ps r h1 h2 ih =>
    intro t ht
    cases t with
    | zero => exact ⟨0, 0, rfl, Nat.zero_le _, Nat.zero_le _, .refl _, fun q h => absurd h (by decide)⟩
    | succ t =>
      obtain ⟨i, j, e, k1, k2, k3, k4⟩ := ih t (by simp at ht; omega)
      exact ⟨i + 1, j, by omega, by simp; omega, k2, k3.cons a, k4⟩
  | @right p as ps r h1 h2 ih =>
    intro t ht
    cases t with
    | zero => exact ⟨0, 0, rfl, Nat.zero_le _, Nat.zero_le _, .refl _, fun q h => absurd h (by decide)⟩
    | succ t =>
      obtain ⟨i, j, e, k1, k2, k3, k4⟩ := ih t (by simp at ht; omega)
      refine ⟨i, j + 1, by omega, k1, by simp; omega, (k3.cons p).trans List.perm_middle.symm, fun q _ hq x hx => ?_⟩
      cases j with
      | zero =>
        cases hq
        exact h1 x (List.mem_of_mem_drop hx)
      | succ j => exact k4 q (by omega) hq x hx
theorem Mg.len {A ps R : List Pk} (h : Mg A ps R) : R.length = A.length + ps.length := by
  induction h with
  | nil => rfl
  | left _ _ ih => simp; omega
  | right _ _ ih => simp; omega
theorem row_mg (ws : List Nat) {r : List Pk} (h : SrtP r) : Mg (firstRow ws) (pairsOf r) (rowOf ws r) := Mg.puts (firstRow_srt ws) _ [] _ (Mg.self _) (pairsOf_srt h)
theorem rowP_len (ws : List Nat) (k : Nat) : (rowP ws (k + 1)).length = ws.length + (rowP ws k).length / 2 := by
  show (rowOf ws (rowP ws k)).length = _
  rw [(row_mg ws (rowP_srt ws k)).len, firstRow_len, pairsOf_len]
/-- as many packets as can be needed -/
theorem rowP_many (ws : List Nat) : ∀ k, 2 * (ws.length * 2 ^ k) < ((rowP ws k).length + 1) * 2 ^ k + 2 * ws.length
  | 0 => by
    show 2 * (ws.length * 1) < (0 + 1) * 1 + 2 * ws.length
    omega
  | k + 1 => by
    have ih := rowP_many ws k
    rw [rowP_len, Nat.pow_succ]
    generalize (rowP ws k).length = r at *
    generalize 2 ^ k = x at *
    generalize ws.length = n at *
    have e1 : n * (x * 2) = 2 * (n * x) := by rw [← Nat.mul_assoc, Nat.mul_comm]
    have e2 : (n + r / 2 + 1) * (x * 2) = 2 * (n * x) + (2 * (r / 2) + 2) * x := by
      rw [show n + r / 2 + 1 = n + (r / 2 + 1) from Nat.add_assoc _ _ _, Nat.add_mul, e1, show 2 * (r / 2) + 2 = (r / 2 + 1) * 2 by omega, Nat.mul_assoc, Nat.mul_comm x 2]
    have e3 : (r + 1) * x ≤ (2 * (r / 2) + 2) * x := Nat.mul_le_mul_right x (by omega)
    rw [e1, e2]
    omega
/-! ### the signs in packets, and their weights -/
def sgP (r : List Pk) : List Nat := r.flatMap (·.2)
def wtP (r : List Pk) : Nat := (r.map (·.1)).sum
def GoodP (ws : List Nat) (p : Pk) : Prop := p.1 = (p.2.map fun s => ws.getD s 0).sum ∧ ∀ s ∈ p.2, s < ws.length
theorem count_reps (f : Nat → Nat) (s : Nat) : ∀ N : Nat, ((List.range N).flatMap fun i => List.replicate (f i) i).count s = if s < N then f s else 0
  | 0 => by simp
  | N + 1 => by
    rw [List.range_succ, List.flatMap_append, List.count_append, count_reps f s N, List.flatMap_cons, List.flatMap_nil, List.append_nil, List.count_replicate]
    by_cases h : s < N
    · rw [if_pos h, if_neg (by simp; omega), if_pos (by omega)]
      omega
    · rw [if_neg h]
      by_cases e : N = s
      · rw [if_pos (by simp [e]), if_pos (by omega), e]
        omega
      · rw [if_neg (by simp [e]), if_neg (by omega)]
theorem mixed_perm {a b : List Nat} (ha : ∀ s ∈ a, s < 24) (hb : ∀ s ∈ b, s < 24) : (mixed a b).Perm (a ++ b) := by
  rw [List.perm_iff_count]
  intro s
  unfold mixed
  rw [count_reps, List.count_append]
  split
  · rfl
  · rename_i h
    rw [List.count_eq_zero.mpr fun z => h (ha s z), List.count_eq_zero.mpr fun z => h (hb s z)]
theorem sgP_app (a b : List Pk) : sgP (a ++ b) = sgP a ++ sgP b := List.flatMap_append
theorem wtP_app (a b : List Pk) : wtP (a ++ b) = wtP a + wtP b := by
  unfold wtP
  rw [List.map_append, List.sum_append]
theorem sgP_perm {a b : List Pk} (h : a.Perm b) : (sgP a).Perm (sgP b) := h.flatMap_right _
theorem wtP_perm {a b : List Pk} (h : a.Perm b) : wtP a = wtP b := (h.map _).sum_nat
theorem good_pairsOf {ws : List Nat} (hn : ws.length ≤ 24) : ∀ {r : List Pk}, (∀ p ∈ r, GoodP ws p) → ∀ p ∈ pairsOf r, GoodP ws p
  | [], _, p, hp => by cases hp
  | [_], _, p, hp => by cases hp
  | x :: y :: r, h, p, hp => by
    rcases List.mem_cons.mp hp with rfl | hp
    · have gx := h x List.mem_cons_self
      have gy := h y (List.mem_cons_of_mem _ List.mem_cons_self)
      have pm := mixed_perm (a := x.2) (b := y.2) (fun s hs => Nat.lt_of_lt_of_le (gx.2 s hs) hn) (fun s hs => Nat.lt_of_lt_of_le (gy.2 s hs) hn)
      refine ⟨?_, fun s hs => ?_⟩
      · show x.1 + y.1 = ((mixed x.2 y.2).map _).sum
        rw [(pm.map _).sum_nat, List.map_append, List.sum_append, gx.1, gy.1]
      · rcases List.mem_append.mp (pm.mem_iff.mp hs) with hs | hs
        · exact gx.2 s hs
        · exact gy.2 s hs
    · exact good_pairsOf hn (fun z hz => h z (List.mem_cons_of_mem _ (List.mem_cons_of_mem _ hz))) p hp
theorem good_alone (ws : List Nat) : ∀ p ∈ alone ws, GoodP ws p := fun p hp => by
  obtain ⟨s, hs, rfl⟩ := List.mem_map.mp hp
  refine ⟨by simp, fun z hz => ?_⟩
  rw [List.mem_singleton.mp hz]
  exact List.mem_range.mp hs
theorem good_row {ws : List Nat} (hn : ws.length ≤ 24) : ∀ k, ∀ p ∈ rowP ws k, GoodP ws p
  | 0, p, hp => by cases hp
  | k + 1, p, hp => by
    have h := (puts_perm (pairsOf (rowP ws k)) (firstRow ws)).mem_iff.mp hp
    rcases List.mem_append.mp h with h | h
    · exact good_alone ws p ((firstRow_perm ws).mem_iff.mp h)
    · exact good_pairsOf hn (good_row hn k) p h
/-- what an even number of packets hold, their pairs hold -/
theorem sgP_pairs {ws : List Nat} (hn : ws.length ≤ 24) : ∀ {r : List Pk}, (∀ p ∈ r, GoodP ws p) → r.length % 2 = 0 → (sgP (pairsOf r)).Perm (sgP r) ∧ wtP (pairsOf r) = wtP r
  | [], _, _ => ⟨.refl _, rfl⟩
  | [_], _, h => absurd h (by simp)
  | x :: y :: r, h, he => by
    have gx := h x List.mem_cons_self
    have gy := h y (List.mem_cons_of_mem _ List.mem_cons_self)
    have pm := mixed_perm (a := x.2) (b := y.2) (fun s hs => Nat.lt_of_lt_of_le (gx.2 s hs) hn) (fun s hs => Nat.lt_of_lt_of_le (gy.2 s hs) hn)
    obtain ⟨k1, k2⟩ := sgP_pairs hn (r := r) (fun z hz => h z (List.mem_cons_of_mem _ (List.mem_cons_of_mem _ hz))) (by simp at he; omega)
    refine ⟨?_, ?_⟩
    · show (mixed x.2 y.2 ++ sgP (pairsOf r)).Perm (x.2 ++ (y.2 ++ sgP r))
      rw [← List.append_assoc]
      exact pm.append k1
    · show x.1 + y.1 + wtP (pairsOf r) = x.1 + (y.1 + wtP r)
      rw [k2]
      omega
theorem alone_sg (ws : List Nat) : sgP (alone ws) = List.range ws.length := by
  unfold sgP alone
  rw [List.flatMap_map]
  show (List.range ws.length).flatMap (fun s => [s]) = _
  induction List.range ws.length with
  | nil => rfl
  | cons a r ih => rw [List.flatMap_cons, ih]; rfl
theorem sg_first (ws : List Nat) : (sgP (firstRow ws)).Perm (List.range ws.length) := by
  rw [← alone_sg ws]
  exact sgP_perm (firstRow_perm ws)
theorem first_one {ws : List Nat} {x : Pk} (h : x ∈ firstRow ws) : ∃ s, s < ws.length ∧ x = (ws.getD s 0, [s]) := by
  obtain ⟨s, hs, e⟩ := List.mem_map.mp ((firstRow_perm ws).mem_iff.mp h)
  exact ⟨s, List.mem_range.mp hs, e.symm⟩
theorem sg_len {ws : List Nat} : ∀ {l : List Pk}, (∀ x ∈ l, x ∈ firstRow ws) → (sgP l).length = l.length
  | [], _ => rfl
  | x :: r, h => by
    obtain ⟨s, _, rfl⟩ := first_one (h x List.mem_cons_self)
    show (s :: sgP r).length = _
    rw [List.length_cons, sg_len fun z hz => h z (List.mem_cons_of_mem _ hz)]
    rfl
/-- a sign weighs no more than a packet with it -/
theorem le_sum_mem {f : Nat → Nat} : ∀ {l : List Nat} {s : Nat}, s ∈ l → f s ≤ (l.map f).sum
  | x :: r, s, h => by
    rw [List.map_cons, List.sum_cons]
    rcases List.mem_cons.mp h with rfl | h
    · omega
    · have := le_sum_mem (f := f) h
      omega
theorem srt_get {r : List Pk} (h : SrtP r) {i j : Nat} {x y : Pk} (hij : i ≤ j) (hx : r[i]? = some x) (hy : r[j]? = some y) : x.1 ≤ y.1 := by
  rcases Nat.lt_or_eq_of_le hij with q | q
  · obtain ⟨a, ea⟩ := List.getElem?_eq_some_iff.mp hx
    obtain ⟨b, eb⟩ := List.getElem?_eq_some_iff.mp hy
    have := List.pairwise_iff_getElem.mp h i j a b q
    rw [ea, eb] at this
    exact this
  · subst q
    rw [hx] at hy
    cases hy
    exact Nat.le_refl _
theorem pairs_at : ∀ {r : List Pk} {p : Nat} {q : Pk}, (pairsOf r)[p]? = some q → ∃ x y, r[2 * p]? = some x ∧ r[2 * p + 1]? = some y ∧ q.1 = x.1 + y.1
  | [], p, q, h => by cases h
  | [_], p, q, h => by cases h
  | x :: y :: r, 0, q, h => by
    cases h
    exact ⟨x, y, rfl, rfl, rfl⟩
  | x :: y :: r, p + 1, q, h => by
    obtain ⟨a, b, h1, h2, h3⟩ := pairs_at (r := r) (p := p) h
    exact ⟨a, b, h1, h2, h3⟩
/-- the first packets of a next row: some of the signs' own, and the first packets of the row ahead in twos; no sign whose own isn't among them stands in these -/
theorem row_step {ws : List Nat} (hn : ws.length ≤ 24) {k t : Nat} (ht : t ≤ (rowP ws (k + 1)).length) : ∃ a p, a + p = t ∧ a ≤ ws.length ∧ 2 * p ≤ (rowP ws k).length ∧
    wtP ((rowP ws (k + 1)).take t) = wtP ((firstRow ws).take a) + wtP ((rowP ws k).take (2 * p)) ∧
    (∀ s, (sgP ((rowP ws (k + 1)).take t)).count s = (sgP ((firstRow ws).take a)).count s + (sgP ((rowP ws k).take (2 * p))).count s) ∧
    ∀ s ∈ sgP ((firstRow ws).drop a), (sgP ((rowP ws k).take (2 * p))).count s = 0 := by
  obtain ⟨a, p, e, h1, h2, h3, h4⟩ := (row_mg ws (rowP_srt ws k)).split t ht
  rw [firstRow_len] at h1
  rw [pairsOf_len] at h2
  have hp : 2 * p ≤ (rowP ws k).length := by omega
  have hl : ((rowP ws k).take (2 * p)).length = 2 * p := by rw [List.length_take]; omega
  have hg : ∀ q ∈ (rowP ws k).take (2 * p), GoodP ws q := fun q hq => good_row hn k q (List.mem_of_mem_take hq)
  obtain ⟨k1, k2⟩ := sgP_pairs hn hg (by rw [hl]; omega)
  rw [pairsOf_take] at h3
  refine ⟨a, p, e, h1, hp, ?_, fun s => ?_, fun s hs => ?_⟩
  · have := wtP_perm h3
    rw [wtP_app, k2] at this
    exact this
  · have := (List.perm_iff_count.mp (sgP_perm h3)) s
    rw [sgP_app, List.count_append, List.perm_iff_count.mp k1 s] at this
    exact this
  · refine List.count_eq_zero.mpr fun hc => ?_
    obtain ⟨q, hq, hsq⟩ := List.mem_flatMap.mp hc
    obtain ⟨x, hx, hsx⟩ := List.mem_flatMap.mp hs
    obtain ⟨z, hz, rfl⟩ := first_one (List.mem_of_mem_drop hx)
    have es : s = z := List.mem_singleton.mp hsx
    subst es
    have gq := hg q hq
    have w1 : ws.getD s 0 ≤ q.1 := by
      rw [gq.1]
      exact le_sum_mem (f := fun s => ws.getD s 0) hsq
    obtain ⟨i, hi, eq⟩ := List.getElem_of_mem hq
    rw [hl] at hi
    cases p with
    | zero => omega
    | succ p =>
      have hpl : p < (pairsOf (rowP ws k)).length := by rw [pairsOf_len]; omega
      obtain ⟨q', hq'⟩ : ∃ q', (pairsOf (rowP ws k))[p]? = some q' := ⟨_, List.getElem?_eq_getElem hpl⟩
      have tie := h4 q' (Nat.succ_pos p) hq' _ hx
      obtain ⟨u, v, g1, g2, g3⟩ := pairs_at hq'
      have gi : (rowP ws k)[i]? = some q := by
        have := List.getElem?_eq_getElem (l := (rowP ws k).take (2 * (p + 1))) (by rw [hl]; exact hi)
        rw [eq, List.getElem?_take, if_pos hi] at this
        exact this
      have := srt_get (rowP_srt ws k) (show i ≤ 2 * p + 1 by omega) gi g2
      have t' : q'.1 < ws.getD s 0 := tie
      omega
/-! ### how often signs stand in the first packets: lengths of words -/
def oft (ws : List Nat) (k t s : Nat) : Nat := (sgP ((rowP ws k).take t)).count s
def sumN (n : Nat) (f : Nat → Nat) : Nat := ((List.range n).map f).sum
theorem sumN_first (ws : List Nat) (a : Nat) (f : Nat → Nat) : sumN ws.length f = ((sgP ((firstRow ws).take a)).map f).sum + ((sgP ((firstRow ws).drop a)).map f).sum := by
  unfold sumN
  rw [← ((sg_first ws).map f).sum_nat, ← List.sum_append, ← List.map_append, ← sgP_app, List.take_append_drop]
theorem sum_map_congr {l : List Nat} {f g : Nat → Nat} (h : ∀ s ∈ l, f s = g s) : (l.map f).sum = (l.map g).sum := by
  rw [List.map_congr_left h]
theorem sum_map_add {l : List Nat} {f g : Nat → Nat} : (l.map fun s => f s + g s).sum = (l.map f).sum + (l.map g).sum := by
  induction l with
  | nil => rfl
  | cons a r ih => simp only [List.map_cons, List.sum_cons, ih]; omega
theorem sum_map_const {l : List Nat} {c : Nat} : (l.map fun _ => c).sum = l.length * c := by
  induction l with
  | nil => simp
  | cons a r ih => rw [List.map_cons, List.sum_cons, ih, List.length_cons, Nat.add_mul]; omega
theorem first_nodup (ws : List Nat) : (sgP (firstRow ws)).Nodup := (sg_first ws).nodup_iff.mpr List.nodup_range
theorem take_once (ws : List Nat) (a s : Nat) : (sgP ((firstRow ws).take a)).count s ≤ 1 := by
  have h := List.nodup_iff_count.mp (first_nodup ws) s
  rw [← List.take_append_drop a (firstRow ws), sgP_app, List.count_append] at h
  omega
theorem take_in {ws : List Nat} {a s : Nat} (h : s ∈ sgP ((firstRow ws).take a)) : (sgP ((firstRow ws).take a)).count s = 1 := by
  have := take_once ws a s
  have := List.count_pos_iff.mpr h
  omega
theorem drop_out {ws : List Nat} {a s : Nat} (h : s ∈ sgP ((firstRow ws).drop a)) : (sgP ((firstRow ws).take a)).count s = 0 := by
  have k := List.nodup_iff_count.mp (first_nodup ws) s
  rw [← List.take_append_drop a (firstRow ws), sgP_app, List.count_append] at k
  have := List.count_pos_iff.mpr h
  omega
theorem oft_le {ws : List Nat} (hn : ws.length ≤ 24) (s : Nat) : ∀ (k t : Nat), t ≤ (rowP ws k).length → oft ws k t s ≤ k
  | 0, t, _ => by
    unfold oft
    show (sgP (([] : List Pk).take t)).count s ≤ 0
    rw [List.take_nil]
    exact Nat.le_refl _
  | k + 1, t, ht => by
    obtain ⟨a, p, _, _, h2, _, h4, _⟩ := row_step hn ht
    have := oft_le hn s k (2 * p) h2
    have := take_once ws a s
    unfold oft at *
    rw [h4 s]
    omega
/-- the places that are left -/
theorem oft_kraft {ws : List Nat} (hn : ws.length ≤ 24) : ∀ (k t : Nat), t ≤ (rowP ws k).length → 2 * sumN ws.length (fun s => 2 ^ (k - oft ws k t s)) + t * 2 ^ k = 2 * (ws.length * 2 ^ k)
  | 0, t, ht => by
    have e : t = 0 := Nat.le_zero.mp ht
    subst e
    unfold sumN
    rw [sum_map_congr (g := fun _ => 1) (fun s _ => by rw [Nat.zero_sub]), sum_map_const, List.length_range]
    omega
  | k + 1, t, ht => by
    obtain ⟨a, p, e, h1, h2, _, h4, h5⟩ := row_step hn ht
    have ih := oft_kraft hn k (2 * p) h2
    have lt : (sgP ((firstRow ws).take a)).length = a := by
      rw [sg_len fun x hx => List.mem_of_mem_take hx, List.length_take, firstRow_len]
      omega
    have ld : (sgP ((firstRow ws).drop a)).length = ws.length - a := by
      rw [sg_len fun x hx => List.mem_of_mem_drop hx, List.length_drop, firstRow_len]
    rw [sumN_first ws a] at ih ⊢
    have c1 : ((sgP ((firstRow ws).take a)).map fun s => 2 ^ (k + 1 - oft ws (k + 1) t s)).sum = ((sgP ((firstRow ws).take a)).map fun s => 2 ^ (k - oft ws k (2 * p) s)).sum := by
      refine sum_map_congr fun s hs => ?_
      have : oft ws (k + 1) t s = 1 + oft ws k (2 * p) s := by
        unfold oft
        rw [h4 s, take_in hs]
      rw [this]
      congr 1
      omega
    have c2 : ((sgP ((firstRow ws).drop a)).map fun s => 2 ^ (k + 1 - oft ws (k + 1) t s)).sum = ((sgP ((firstRow ws).drop a)).map fun s => 2 ^ (k - oft ws k (2 * p) s)).sum + (ws.length - a) * 2 ^ k := by
      rw [← ld, ← sum_map_const, ← sum_map_add]
      refine sum_map_congr fun s hs => ?_
      have z : oft ws k (2 * p) s = 0 := h5 s hs
      have : oft ws (k + 1) t s = 0 := by
        have := h4 s
        rw [drop_out hs] at this
        unfold oft at z ⊢
        omega
      rw [this, z, Nat.sub_zero, Nat.sub_zero, Nat.pow_succ]
      omega
    rw [c1, c2]
    generalize ((sgP ((firstRow ws).take a)).map fun s => 2 ^ (k - oft ws k (2 * p) s)).sum = u at *
    generalize ((sgP ((firstRow ws).drop a)).map fun s => 2 ^ (k - oft ws k (2 * p) s)).sum = v at *
    rw [Nat.pow_succ, ← e]
    obtain ⟨b, hb⟩ : ∃ b, ws.length = a + b := ⟨ws.length - a, by omega⟩
    rw [hb] at ih ⊢
    generalize 2 ^ k = x at *
    rw [show a + b - a = b by omega]
    have e1 : (a + p) * (x * 2) = 2 * (a * x) + 2 * (p * x) := by
      rw [← Nat.mul_assoc, Nat.add_mul]
      omega
    have e2 : (a + b) * (x * 2) = 2 * (a * x) + 2 * (b * x) := by
      rw [← Nat.mul_assoc, Nat.add_mul]
      omega
    have e3 : (a + b) * x = a * x + b * x := Nat.add_mul _ _ _
    have e4 : 2 * p * x = 2 * (p * x) := Nat.mul_assoc _ _ _
    omega
/-- the packets' weight is the signs' -/
theorem oft_weight {ws : List Nat} (hn : ws.length ≤ 24) (k t : Nat) : wtP ((rowP ws k).take t) = sumN ws.length fun s => ws.getD s 0 * oft ws k t s := by
  have gen : ∀ l : List Pk, (∀ q ∈ l, GoodP ws q) → wtP l = ((sgP l).map fun s => ws.getD s 0).sum ∧ ∀ s ∈ sgP l, s < ws.length := by
    intro l
    induction l with
    | nil => intro _; exact ⟨rfl, fun s h => by cases h⟩
    | cons q r ih =>
      intro h
      obtain ⟨k1, k2⟩ := ih fun z hz => h z (List.mem_cons_of_mem _ hz)
      have g := h q List.mem_cons_self
      refine ⟨?_, fun s hs => ?_⟩
      · show q.1 + wtP r = ((q.2 ++ sgP r).map _).sum
        rw [List.map_append, List.sum_append, ← k1, g.1]
      · rcases List.mem_append.mp (show s ∈ q.2 ++ sgP r from hs) with hs | hs
        · exact g.2 s hs
        · exact k2 s hs
  obtain ⟨k1, k2⟩ := gen ((rowP ws k).take t) fun q hq => good_row hn k q (List.mem_of_mem_take hq)
  rw [k1]
  unfold sumN oft
  generalize sgP ((rowP ws k).take t) = l at *
  -- a sum over a list is the sum over the numbers, each as often as it stands there
  have key : ∀ (l : List Nat) (N : Nat), (∀ s ∈ l, s < N) → (l.map fun s => ws.getD s 0).sum = ((List.range N).map fun s => ws.getD s 0 * l.count s).sum := by
    intro l
    induction l with
    | nil =>
      intro N _
      have : ((List.range N).map fun s => ws.getD s 0 * ([] : List Nat).count s).sum = ((List.range N).map fun _ => 0).sum := sum_map_congr fun s _ => Nat.mul_zero _
      rw [this, sum_map_const, Nat.mul_zero]
      rfl
    | cons a r ih =>
      intro N h
      rw [List.map_cons, List.sum_cons, ih N fun s hs => h s (List.mem_cons_of_mem _ hs)]
      have e : ((List.range N).map fun s => ws.getD s 0 * (a :: r).count s).sum = ((List.range N).map fun s => (if s = a then ws.getD a 0 else 0) + ws.getD s 0 * r.count s).sum := by
        refine sum_map_congr fun s _ => ?_
        rw [List.count_cons]
        by_cases z : a = s
        · subst z
          rw [if_pos (by simp), if_pos rfl, Nat.mul_add]
          omega
        · rw [if_neg (by simpa using z), if_neg (fun y => z y.symm), Nat.add_zero, Nat.zero_add]
      rw [e, sum_map_add]
      congr 1
      have hN := h a List.mem_cons_self
      have single : ∀ M : Nat, ((List.range M).map fun s => if s = a then ws.getD a 0 else 0).sum = if a < M then ws.getD a 0 else 0 := by
        intro M
        induction M with
        | zero => simp
        | succ M ihM =>
          rw [List.range_succ, List.map_append, List.sum_append, ihM]
          show _ + ((if M = a then ws.getD a 0 else 0) + 0) = _
          by_cases y : a < M
          · rw [if_pos y, if_neg (by omega), if_pos (by omega)]
            omega
          · by_cases y2 : M = a
            · rw [if_neg y, if_pos y2, if_pos (by omega)]
              omega
            · rw [if_neg y, if_neg y2, if_neg (by omega)]
      rw [single N, if_pos hN]
  exact key l ws.length k2
/-! ### no other lengths weigh less -/
theorem least_le : ∀ {M X Z : List Nat}, M.Pairwise (· ≤ ·) → (X ++ Z).Perm M → (M.take X.length).sum ≤ X.sum
  | [], X, Z, _, h => by
    have : X = [] := (List.append_eq_nil_iff.mp h.eq_nil).1
    subst this
    exact Nat.le_refl _
  | m :: M, X, Z, hs, h => by
    have hs' := List.pairwise_cons.mp hs
    cases X with
    | nil => exact Nat.zero_le _
    | cons x X =>
      by_cases hm : m ∈ x :: X
      · obtain ⟨X', hX⟩ : ∃ X', (x :: X).Perm (m :: X') := ⟨_, (List.perm_cons_erase hm)⟩
        have h2 : (X' ++ Z).Perm M := by
          have := (hX.append_right Z).symm.trans h
          exact this.cons_inv
        have ih := least_le hs'.2 h2
        rw [hX.sum_nat, hX.length_eq, List.length_cons, List.take_succ_cons, List.sum_cons, List.sum_cons]
        omega
      · have hz : m ∈ Z := by
          have := h.symm.mem_iff.mp (List.mem_cons_self (a := m) (l := M))
          rcases List.mem_append.mp this with q | q
          · exact absurd q hm
          · exact q
        obtain ⟨Z', hZ⟩ : ∃ Z', Z.Perm (m :: Z') := ⟨_, List.perm_cons_erase hz⟩
        have hx : x ∈ M := by
          rcases List.mem_cons.mp (h.mem_iff.mp (List.mem_append_left Z (List.mem_cons_self (a := x) (l := X)))) with q | q
          · exact absurd (q ▸ List.mem_cons_self) hm
          · exact q
        have h2 : (X ++ (x :: Z')).Perm M := by
          have a1 : ((x :: X) ++ Z).Perm (m :: (X ++ x :: Z')) := by
            refine ((List.Perm.refl (x :: X)).append hZ).trans ?_
            refine List.perm_middle.trans ?_
            exact (List.perm_middle.symm).cons m
          exact (a1.symm.trans h).cons_inv
        have ih := least_le hs'.2 h2
        have := hs'.1 x hx
        rw [List.length_cons, List.take_succ_cons, List.sum_cons, List.sum_cons]
        omega
theorem split_w (w c : Nat → Nat) : ∀ l : List Nat, (l.map fun s => w s * c s).sum = ((l.filter fun s => decide (1 ≤ c s)).map w).sum + (l.map fun s => w s * (c s - 1)).sum
  | [] => rfl
  | a :: r => by
    have ih := split_w w c r
    by_cases h : 1 ≤ c a
    · rw [List.filter_cons_of_pos (by simpa using h), List.map_cons, List.map_cons, List.map_cons, List.sum_cons, List.sum_cons, List.sum_cons, ih]
      have : w a * c a = w a + w a * (c a - 1) := by
        obtain ⟨d, hd⟩ : ∃ d, c a = d + 1 := ⟨c a - 1, by omega⟩
        rw [hd, Nat.mul_add, Nat.add_sub_cancel]
        omega
      omega
    · rw [List.filter_cons_of_neg (by simpa using h), List.map_cons, List.map_cons, List.sum_cons, List.sum_cons, ih]
      have z : c a = 0 := by omega
      rw [z]
      omega
theorem split_k (k : Nat) (c : Nat → Nat) : ∀ l : List Nat, (∀ s ∈ l, c s ≤ k + 1) → (l.map fun s => 2 ^ (k + 1 - c s)).sum + (l.filter fun s => decide (1 ≤ c s)).length * 2 ^ k = (l.map fun s => 2 ^ (k - (c s - 1))).sum + l.length * 2 ^ k
  | [], _ => rfl
  | a :: r, hc => by
    have ih := split_k k c r fun s hs => hc s (List.mem_cons_of_mem _ hs)
    have ha := hc a List.mem_cons_self
    by_cases h : 1 ≤ c a
    · rw [List.filter_cons_of_pos (by simpa using h), List.map_cons, List.map_cons, List.sum_cons, List.sum_cons, List.length_cons, List.length_cons, Nat.add_mul, Nat.add_mul, show k - (c a - 1) = k + 1 - c a by omega]
      omega
    · rw [List.filter_cons_of_neg (by simpa using h), List.map_cons, List.map_cons, List.sum_cons, List.sum_cons, List.length_cons, Nat.add_mul]
      have z : c a = 0 := by omega
      rw [z, Nat.sub_zero, Nat.zero_sub, Nat.sub_zero, Nat.pow_succ]
      omega
theorem ge_len {f : Nat → Nat} (h : ∀ s, 1 ≤ f s) : ∀ l : List Nat, l.length ≤ (l.map f).sum
  | [] => Nat.le_refl _
  | a :: r => by
    have := ge_len h r
    have := h a
    rw [List.map_cons, List.sum_cons, List.length_cons]
    omega
theorem alone_filter (ws : List Nat) (P : Nat → Bool) : (((List.range ws.length).filter P).map (fun s => ((ws.getD s 0, [s]) : Pk)) ++ ((List.range ws.length).filter fun s => !P s).map fun s => ((ws.getD s 0, [s]) : Pk)).Perm (alone ws) := by
  rw [← List.map_append]
  exact (List.filter_append_perm P _).map _
/-- whatever each sign's number of levels: if they leave no more places than t packets do, they weigh no less -/
theorem least_packets {ws : List Nat} : ∀ (k t : Nat) (c : Nat → Nat), (∀ s, s < ws.length → c s ≤ k) → 2 * sumN ws.length (fun s => 2 ^ (k - c s)) + t * 2 ^ k ≤ 2 * (ws.length * 2 ^ k) → wtP ((rowP ws k).take t) ≤ sumN ws.length fun s => ws.getD s 0 * c s
  | 0, t, c, _, _ => by
    show wtP (([] : List Pk).take t) ≤ _
    rw [List.take_nil]
    exact Nat.zero_le _
  | k + 1, t, c, hc, hk => by
    have hn : ∀ s ∈ List.range ws.length, c s ≤ k + 1 := fun s hs => hc s (List.mem_range.mp hs)
    obtain ⟨Y, hY⟩ : ∃ Y, Y = (List.range ws.length).filter fun s => decide (1 ≤ c s) := ⟨_, rfl⟩
    obtain ⟨N, hN⟩ : ∃ N, N = (List.range ws.length).filter fun s => !decide (1 ≤ c s) := ⟨_, rfl⟩
    have sk := split_k k c (List.range ws.length) hn
    have sw := split_w (fun s => ws.getD s 0) c (List.range ws.length)
    have pa := alone_filter ws fun s => decide (1 ≤ c s)
    rw [← hY] at sk sw pa
    rw [← hN] at pa
    rw [List.length_range] at sk
    unfold sumN at hk ⊢
    rw [sw]
    have row : (rowP ws (k + 1)).Perm (alone ws ++ pairsOf (rowP ws k)) := (puts_perm (pairsOf (rowP ws k)) (firstRow ws)).trans ((firstRow_perm ws).append_right _)
    have srt : ((rowP ws (k + 1)).map (·.1)).Pairwise (· ≤ ·) := List.pairwise_map.mpr (rowP_srt ws (k + 1))
    have yl : Y.length ≤ ws.length := by
      rw [hY]
      have := List.length_filter_le (fun s => decide (1 ≤ c s)) (List.range ws.length)
      rw [List.length_range] at this
      exact this
    -- the row's weights, taken so
    have way : ∀ X Z : List Pk, (X ++ Z).Perm (rowP ws (k + 1)) → wtP ((rowP ws (k + 1)).take X.length) ≤ wtP X := fun X Z h => by
      have := least_le srt (X := X.map (·.1)) (Z := Z.map (·.1)) (by rw [← List.map_append]; exact h.map _)
      rw [List.length_map, ← List.map_take] at this
      exact this
    have wY : ∀ l : List Nat, wtP (l.map fun s => ((ws.getD s 0, [s]) : Pk)) = (l.map fun s => ws.getD s 0).sum := fun l => by
      unfold wtP
      rw [List.map_map]
      rfl
    by_cases hty : t ≤ Y.length
    · have h := way ((Y.take t).map fun s => (ws.getD s 0, [s])) ((Y.drop t).map (fun s => ((ws.getD s 0, [s]) : Pk)) ++ (N.map (fun s => ((ws.getD s 0, [s]) : Pk)) ++ pairsOf (rowP ws k))) (by
        rw [← List.append_assoc, ← List.map_append, List.take_append_drop, ← List.append_assoc]
        exact (pa.append_right _).trans row.symm)
      rw [List.length_map, List.length_take, Nat.min_eq_left hty, wY] at h
      have e : (Y.map fun s => ws.getD s 0).sum = ((Y.take t).map fun s => ws.getD s 0).sum + ((Y.drop t).map fun s => ws.getD s 0).sum := by
        rw [← List.sum_append, ← List.map_append, List.take_append_drop]
      omega
    · obtain ⟨d, hd⟩ : ∃ d, t = Y.length + d := ⟨t - Y.length, by omega⟩
      have pos := Nat.pow_pos (n := k) (show 0 < 2 by decide)
      have hk2 : 2 * ((List.range ws.length).map fun s => 2 ^ (k - (c s - 1))).sum + (2 * d) * 2 ^ k ≤ 2 * (ws.length * 2 ^ k) := by
        rw [hd, Nat.pow_succ] at hk
        have e1 : (Y.length + d) * (2 ^ k * 2) = 2 * (Y.length * 2 ^ k) + 2 * (d * 2 ^ k) := by
          rw [← Nat.mul_assoc, Nat.add_mul]
          omega
        have e2 : ws.length * (2 ^ k * 2) = 2 * (ws.length * 2 ^ k) := by
          rw [← Nat.mul_assoc]
          omega
        have e3 : 2 * d * 2 ^ k = 2 * (d * 2 ^ k) := Nat.mul_assoc _ _ _
        omega
      have ih := least_packets k (2 * d) (fun s => c s - 1) (fun s hs => by have := hc s hs; omega) hk2
      have many := rowP_many ws k
      have ge := ge_len (f := fun s => 2 ^ (k - (c s - 1))) (fun s => Nat.pow_pos (by decide)) (List.range ws.length)
      rw [List.length_range] at ge
      have hd2 : 2 * d ≤ (rowP ws k).length := by
        refine Nat.le_of_lt_succ (Nat.lt_of_mul_lt_mul_right (a := 2 ^ k) ?_)
        rw [Nat.succ_eq_add_one]
        omega
      have h := way (Y.map (fun s => (ws.getD s 0, [s])) ++ (pairsOf (rowP ws k)).take d) (N.map (fun s => ((ws.getD s 0, [s]) : Pk)) ++ (pairsOf (rowP ws k)).drop d) (by
        refine List.Perm.trans ?_ row.symm
        refine List.Perm.trans ?_ (pa.append_right _)
        conv => rhs; rw [← List.take_append_drop d (pairsOf (rowP ws k))]
        rw [List.append_assoc, List.append_assoc]
        refine List.Perm.append_left _ ?_
        rw [← List.append_assoc, ← List.append_assoc]
        exact List.perm_append_comm.append_right _)
      rw [List.length_append, List.length_map, List.length_take, pairsOf_len, Nat.min_eq_left (by omega), ← hd, wtP_app, wY] at h
      have ev : wtP ((pairsOf (rowP ws k)).take d) = wtP ((rowP ws k).take (2 * d)) := by
        rw [pairsOf_take]
        have gen : ∀ (n : Nat) (r : List Pk), r.length ≤ n → r.length % 2 = 0 → wtP (pairsOf r) = wtP r := by
          intro n
          induction n with
          | zero =>
            intro r hr _
            have : r = [] := List.length_eq_zero_iff.mp (by omega)
            subst this
            rfl
          | succ n ih =>
            intro r hr he
            match r, hr, he with
            | [], _, _ => rfl
            | [_], _, he => exact absurd he (by simp)
            | x :: y :: r, hr, he =>
              show x.1 + y.1 + wtP (pairsOf r) = x.1 + (y.1 + wtP r)
              rw [ih r (by simp at hr; omega) (by simp at he; omega)]
              omega
        exact gen _ _ (Nat.le_refl _) (by rw [List.length_take]; omega)
      rw [ev] at h
      unfold sumN at ih
      omega
/-! ### the free lengths -/
def freeLens (ws : List Nat) (B : Nat) : List Nat := if ws.length < 2 then List.replicate ws.length 1 else (List.range ws.length).map (oft ws B (2 * ws.length - 2))
theorem row_enough {ws : List Nat} {B : Nat} (h : ws.length ≤ 2 ^ B) : 2 * ws.length - 2 ≤ (rowP ws B).length := by
  have := rowP_many ws B
  have pos := Nat.pow_pos (n := B) (show 0 < 2 by decide)
  have : (2 * ws.length) * 2 ^ B < ((rowP ws B).length + 3) * 2 ^ B := by
    rw [show (rowP ws B).length + 3 = ((rowP ws B).length + 1) + 2 by omega, Nat.add_mul (_ + 1), Nat.mul_assoc]
    omega
  have := Nat.lt_of_mul_lt_mul_right this
  omega
theorem free_room {ws : List Nat} {B : Nat} (hn : ws.length ≤ 24) (h2 : 2 ≤ ws.length) (h : ws.length ≤ 2 ^ B) : sumN ws.length (fun s => 2 ^ (B - oft ws B (2 * ws.length - 2) s)) = 2 ^ B := by
  have k := oft_kraft hn B _ (row_enough h)
  obtain ⟨m, hm⟩ : ∃ m, ws.length = m + 1 := ⟨ws.length - 1, by omega⟩
  have e1 : (2 * ws.length - 2) * 2 ^ B = 2 * (m * 2 ^ B) := by
    rw [show 2 * ws.length - 2 = 2 * m by omega, Nat.mul_assoc]
  have e2 : ws.length * 2 ^ B = m * 2 ^ B + 2 ^ B := by rw [hm, Nat.add_mul, Nat.one_mul]
  omega
theorem sum_ge_two {f : Nat → Nat} (hf : ∀ s, 1 ≤ f s) : ∀ {l : List Nat} {s : Nat}, s ∈ l → f s + (l.length - 1) ≤ (l.map f).sum
  | a :: r, s, h => by
    rw [List.map_cons, List.sum_cons, List.length_cons]
    rcases List.mem_cons.mp h with rfl | h
    · have := ge_len hf r
      omega
    · have := sum_ge_two hf h
      have := hf a
      have : 0 < r.length := List.length_pos_of_mem h
      omega
theorem free_within {ws : List Nat} {B : Nat} (hn : ws.length ≤ 24) (h2 : 2 ≤ ws.length) (h : ws.length ≤ 2 ^ B) {s : Nat} (hs : s < ws.length) : 1 ≤ oft ws B (2 * ws.length - 2) s ∧ oft ws B (2 * ws.length - 2) s ≤ B := by
  refine ⟨?_, oft_le hn s B _ (row_enough h)⟩
  refine Nat.pos_of_ne_zero fun z => ?_
  have k := free_room hn h2 h
  have g := sum_ge_two (f := fun s => 2 ^ (B - oft ws B (2 * ws.length - 2) s)) (fun s => Nat.pow_pos (by decide)) (List.mem_range.mpr hs)
  unfold sumN at k
  rw [k, List.length_range] at g
  have : 2 ^ (B - oft ws B (2 * ws.length - 2) s) = 2 ^ B := by rw [z, Nat.sub_zero]
  have g' : 2 ^ (B - oft ws B (2 * ws.length - 2) s) + (ws.length - 1) ≤ 2 ^ B := g
  omega
theorem free_least {ws : List Nat} {B : Nat} (hn : ws.length ≤ 24) (h2 : 2 ≤ ws.length) {m : Nat → Nat} (hm : ∀ s, s < ws.length → m s ≤ B) (hk : sumN ws.length (fun s => 2 ^ (B - m s)) ≤ 2 ^ B) :
    sumN ws.length (fun s => ws.getD s 0 * oft ws B (2 * ws.length - 2) s) ≤ sumN ws.length fun s => ws.getD s 0 * m s := by
  rw [← oft_weight hn]
  refine least_packets B _ m hm ?_
  obtain ⟨k, hk'⟩ : ∃ k, ws.length = k + 1 := ⟨ws.length - 1, by omega⟩
  have e1 : (2 * ws.length - 2) * 2 ^ B = 2 * (k * 2 ^ B) := by
    rw [show 2 * ws.length - 2 = 2 * k by omega, Nat.mul_assoc]
  have e2 : ws.length * 2 ^ B = k * 2 ^ B + 2 ^ B := by rw [hk', Nat.add_mul, Nat.one_mul]
  omega
end Sl
namespace Sl
theorem pairsOf_get : ∀ {r : List Pk} {k : Nat} {x y : Pk}, r[2 * k]? = some x → r[2 * k + 1]? = some y → (pairsOf r)[k]? = some (x.1 + y.1, mixed x.2 y.2)
  | [], k, x, y, h, _ => by simp at h
  | [_], 0, x, y, _, h => by simp at h
  | [_], k + 1, x, y, h, _ => by simp at h
  | a :: b :: r, 0, x, y, h1, h2 => by
    cases h1
    cases h2
    rfl
  | a :: b :: r, k + 1, x, y, h1, h2 => pairsOf_get (r := r) (k := k) h1 h2
theorem mixed_len {a b : List Nat} {n : Nat} (ha : a.length ≤ n) (hb : b.length ≤ n) : ∀ N : Nat, ((List.range N).flatMap fun s => List.replicate (a.count s + b.count s) s).length ≤ N * (2 * n)
  | 0 => by simp
  | N + 1 => by
    have ih := mixed_len ha hb N
    have c1 := List.count_le_length (a := N) (l := a)
    have c2 := List.count_le_length (a := N) (l := b)
    rw [List.range_succ, List.flatMap_append, List.length_append, List.flatMap_cons, List.flatMap_nil, List.append_nil, List.length_replicate, Nat.add_mul]
    omega
end Sl
namespace Sl
theorem rowP_len_le (ws : List Nat) : ∀ k, (rowP ws k).length ≤ 2 * ws.length
  | 0 => Nat.zero_le _
  | k + 1 => by
    have := rowP_len_le ws k
    rw [rowP_len]
    omega
theorem pairs_len {ws : List Nat} (hn : ws.length ≤ 24) {n : Nat} : ∀ {r : List Pk}, (∀ p ∈ r, GoodP ws p) → (∀ p ∈ r, p.2.length ≤ n) → ∀ p ∈ pairsOf r, p.2.length ≤ 2 * n
  | [], _, _, p, hp => by cases hp
  | [_], _, _, p, hp => by cases hp
  | x :: y :: r, h, hl, p, hp => by
    rcases List.mem_cons.mp hp with rfl | hp
    · have gx := h x List.mem_cons_self
      have gy := h y (List.mem_cons_of_mem _ List.mem_cons_self)
      have pm := mixed_perm (a := x.2) (b := y.2) (fun s hs => Nat.lt_of_lt_of_le (gx.2 s hs) hn) (fun s hs => Nat.lt_of_lt_of_le (gy.2 s hs) hn)
      have lx := hl x List.mem_cons_self
      have ly := hl y (List.mem_cons_of_mem _ List.mem_cons_self)
      show (mixed x.2 y.2).length ≤ _
      rw [pm.length_eq, List.length_append]
      omega
    · exact pairs_len hn (fun z hz => h z (List.mem_cons_of_mem _ (List.mem_cons_of_mem _ hz))) (fun z hz => hl z (List.mem_cons_of_mem _ (List.mem_cons_of_mem _ hz))) p hp
/-- a packet of the k-th row has no more signs than this -/
theorem pk_len {ws : List Nat} (hn : ws.length ≤ 24) : ∀ k, ∀ q ∈ rowP ws (k + 1), q.2.length ≤ 2 ^ k := by
  have one : ∀ q ∈ firstRow ws, q.2.length = 1 := fun q hq => by
    obtain ⟨s, _, rfl⟩ := first_one hq
    rfl
  intro k
  induction k with
  | zero =>
    intro q hq
    rw [one q hq]
    exact Nat.le_refl _
  | succ k ih =>
    intro q hq
    rcases List.mem_append.mp ((puts_perm (pairsOf (rowP ws (k + 1))) (firstRow ws)).mem_iff.mp hq) with h | h
    · rw [one q h]
      exact Nat.pow_pos (by decide)
    · have := pairs_len hn (good_row hn (k + 1)) ih q h
      rw [Nat.pow_succ]
      omega
theorem pk_small {ws : List Nat} (hn : ws.length ≤ 24) {k : Nat} (hk : k ≤ 12) : ∀ q ∈ rowP ws k, q.2.length ≤ 2048 := by
  cases k with
  | zero => intro q hq; cases hq
  | succ k =>
    intro q hq
    have a := pk_len hn k q hq
    have b : 2 ^ k ≤ 2 ^ 11 := Nat.pow_le_pow_right (by decide) (by omega)
    omega
end Sl

/-! ### free lengths beside another choice, dealt out in any order -/
namespace Sl
theorem sumN_succ (n : Nat) (f : Nat → Nat) : sumN (n + 1) f = sumN n f + f n := by
  unfold sumN
  rw [List.range_succ, List.map_append, List.sum_append]
  simp
theorem sumN_congr {n : Nat} {f g : Nat → Nat} (h : ∀ k, k < n → f k = g k) : sumN n f = sumN n g := sum_map_congr fun s hs => h s (List.mem_range.mp hs)
theorem list_range {l : List Nat} : (List.range l.length).map (fun k => l.getD k 0) = l := by
  refine List.ext_getElem? fun i => ?_
  rw [List.getElem?_map]
  by_cases hi : i < l.length
  · rw [List.getElem?_range hi, List.getElem?_eq_getElem hi]
    show some (l.getD i 0) = _
    rw [List.getD_eq_getElem?_getD, List.getElem?_eq_getElem hi]
    rfl
  · rw [List.getElem?_eq_none (by simpa using hi), List.getElem?_eq_none (by simpa using hi)]
    rfl
theorem sumN_list (l : List Nat) (f : Nat → Nat) : sumN l.length (fun k => f (l.getD k 0)) = (l.map f).sum := by
  have : ((List.range l.length).map fun k => f (l.getD k 0)) = l.map f := by
    conv => rhs; rw [← list_range (l := l), List.map_map]
    rfl
  unfold sumN
  rw [this]
theorem freeLens_len (ws : List Nat) (b : Nat) : (freeLens ws b).length = ws.length := by
  unfold freeLens
  split <;> simp
theorem freeLens_get {ws : List Nat} {b k : Nat} (h2 : 2 ≤ ws.length) (hk : k < ws.length) : (freeLens ws b).getD k 0 = oft ws b (2 * ws.length - 2) k := by
  unfold freeLens
  rw [if_neg (by omega), List.getD_eq_getElem?_getD, List.getElem?_map, List.getElem?_range hk]
  rfl
theorem freeLens_in {ws : List Nat} {b : Nat} (hn : ws.length ≤ 24) (hb : 1 ≤ b) (h : ws.length ≤ 2 ^ b) : ∀ x ∈ freeLens ws b, 1 ≤ x ∧ x ≤ b := fun x hx => by
  unfold freeLens at hx
  split at hx
  · rw [List.eq_of_mem_replicate hx]
    exact ⟨Nat.le_refl _, hb⟩
  · obtain ⟨s, hs, rfl⟩ := List.mem_map.mp hx
    exact free_within hn (by omega) h (List.mem_range.mp hs)
theorem freeLens_sum {ws : List Nat} {b : Nat} (hn : ws.length ≤ 24) (hb : 1 ≤ b) (h : ws.length ≤ 2 ^ b) : ((freeLens ws b).map fun x => 2 ^ (b - x)).sum ≤ 2 ^ b ∧ (2 ≤ ws.length → ((freeLens ws b).map fun x => 2 ^ (b - x)).sum = 2 ^ b) := by
  by_cases h2 : 2 ≤ ws.length
  · have e : ((freeLens ws b).map fun x => 2 ^ (b - x)).sum = 2 ^ b := by
      rw [← free_room hn h2 h, ← sumN_list, freeLens_len]
      exact sumN_congr fun k hk => by rw [freeLens_get h2 hk]
    exact ⟨by omega, fun _ => e⟩
  · refine ⟨?_, fun z => absurd z h2⟩
    unfold freeLens
    rw [if_pos (by omega), List.map_replicate]
    have p : 2 ^ (b - 1) ≤ 2 ^ b := Nat.pow_le_pow_right (by decide) (by omega)
    have c : ws.length = 0 ∨ ws.length = 1 := by omega
    rcases c with c | c
    · rw [c]
      exact Nat.zero_le _
    · rw [c]
      show 2 ^ (b - 1) + 0 ≤ 2 ^ b
      omega
/-- another choice: lengths dealt out in the order os -/
theorem free_any {ws os dn : List Nat} {b : Nat} (hn : ws.length ≤ 24) (h1 : 1 ≤ ws.length) (ho : os.Perm (List.range ws.length)) (hd : dn.length = ws.length) (hb : ∀ x ∈ dn, 1 ≤ x ∧ x ≤ b) (hk : (dn.map fun x => 2 ^ (b - x)).sum ≤ 2 ^ b) :
    sumN ws.length (fun k => ws.getD k 0 * (freeLens ws b).getD k 0) ≤ sumN ws.length fun k => ws.getD (os.getD k 0) 0 * dn.getD k 0 := by
  have ol : os.length = ws.length := by rw [ho.length_eq, List.length_range]
  have nd : os.Nodup := ho.nodup_iff.mpr List.nodup_range
  by_cases h2 : 2 ≤ ws.length
  · -- each sign's length
    have idx : ∀ k, k < ws.length → dn.getD (os.idxOf (os.getD k 0)) 0 = dn.getD k 0 := fun k hk => by
      have e : os.getD k 0 = os[k]'(by omega) := by rw [List.getD_eq_getElem?_getD, List.getElem?_eq_getElem (by omega)]; rfl
      rw [e, List.Nodup.idxOf_getElem nd k (by omega)]
    have turn : ∀ G : Nat → Nat → Nat, sumN ws.length (fun k => G (os.getD k 0) (dn.getD k 0)) = sumN ws.length fun s => G s (dn.getD (os.idxOf s) 0) := fun G => by
      have e1 : sumN ws.length (fun k => G (os.getD k 0) (dn.getD k 0)) = sumN os.length fun k => (fun s => G s (dn.getD (os.idxOf s) 0)) (os.getD k 0) := by
        rw [ol]
        exact sumN_congr fun k hk => by
          show _ = G (os.getD k 0) (dn.getD (os.idxOf (os.getD k 0)) 0)
          rw [idx k hk]
      rw [e1, sumN_list os fun s => G s (dn.getD (os.idxOf s) 0)]
      exact (ho.map _).sum_nat
    rw [turn fun s d => ws.getD s 0 * d, sumN_congr (g := fun s => ws.getD s 0 * oft ws b (2 * ws.length - 2) s) fun k hk => by rw [freeLens_get h2 hk]]
    refine free_least hn h2 (m := fun s => dn.getD (os.idxOf s) 0) (fun s hs => ?_) ?_
    · have hi : os.idxOf s < dn.length := by
        rw [hd, ← ol]
        exact List.idxOf_lt_length_of_mem (ho.mem_iff.mpr (List.mem_range.mpr hs))
      show dn.getD (os.idxOf s) 0 ≤ b
      rw [List.getD_eq_getElem?_getD, List.getElem?_eq_getElem hi]
      exact (hb _ (List.getElem_mem hi)).2
    · rw [← turn fun _ d => 2 ^ (b - d), ← hd, sumN_list dn fun d => 2 ^ (b - d)]
      exact hk
  · have c : ws.length = 1 := by omega
    rw [c] at ho hd ⊢
    have eo : os = [0] := by
      have := ho.length_eq
      simp at this
      obtain ⟨o, rfl⟩ := List.length_eq_one_iff.mp this
      have := ho.mem_iff.mp List.mem_cons_self
      rw [List.mem_range] at this
      have : o = 0 := by omega
      rw [this]
    obtain ⟨d, rfl⟩ := List.length_eq_one_iff.mp hd
    have ef : freeLens ws b = [1] := by
      unfold freeLens
      rw [if_pos (by omega), c]
      rfl
    rw [eo, ef]
    show ws.getD 0 0 * 1 + 0 ≤ ws.getD 0 0 * d + 0
    exact Nat.add_le_add_right (Nat.mul_le_mul_left _ (hb d List.mem_cons_self).1) 0
end Sl

/-! ### comprehensions that take all or none; calls whose answer is one of several -/
namespace Sl
open PySem L2 Evl
theorem given_every (n : Nat) (v : Nat → V) : given n (fun _ => true) v = (List.range n).map v := by
  unfold given
  rw [List.filter_eq_self.mpr fun _ _ => rfl]
theorem given_never (n : Nat) (v : Nat → V) : given n (fun _ => false) v = [] := by
  unfold given
  rw [List.filter_eq_nil_iff.mpr fun _ _ h => by cases h]
  rfl
section
variable {K : PySem.W.Frag} {σ : L2.St} {H : Hp} {ta tb : TE} {D : Ends} {tz : TS} {sp : Sp} {vs dvs xs : List V} {E : XK} {te : TE} {tr : TA} {i : Nat}
theorem ev_neNilI (ha : EvL ta σ H []) (hb : ∀ H1, Ex H H1 → EvL tb σ H1 []) : Ev (tOp (rNeD K) ta tb) σ H (.bl false) := fun H1 e Q q =>
  ha H1 e _ fun a H2 ha' e2 h2 => hb H2 (e.trans e2) H2 (Ex.refl _) _ fun b H3 hb' e3 h3 => ⟨.list [], .list [], .lst (sq_of (e3 _ _ h2)) .nil, .lst (sq_of h3) .nil, rfl, rfl, q H3 (e2.trans e3)⟩
theorem q_call (h : EvA tr σ H vs) (k : ∀ H1, Ex H H1 → sp (vs ++ dvs) H1 (fun v H2 => tz D (σ.set i (some v)) H2) E) : tSeq (tAsg (tCall sp dvs E tr) (gName i)) tz D σ H :=
  h H (Ex.refl H) _ fun H1 e1 => k H1 e1
theorem q_callL (h : EvL te σ H xs) (k : ∀ p H1, H p = none → Ex H H1 → H1 p = some (.lst xs) → tr σ H1 fun vs H2 => sp (.ref p :: vs ++ dvs) H2 (fun v H3 => tz D (σ.set i (some v)) H3) E) : tSeq (tAsg (tCall sp dvs E (tCons te tr)) (gName i)) tz D σ H :=
  h H (Ex.refl H) _ k
end
def natsV (ns : List Nat) : List V := ns.map fun (n : Nat) => V.int (n : Int)
theorem natsV_len (ns : List Nat) : (natsV ns).length = ns.length := by
  unfold natsV
  rw [List.length_map]
theorem natsV_ints (ns : List Nat) : natsV ns = (ns.map fun (n : Nat) => (n : Int)).map V.int := by
  unfold natsV
  rw [List.map_map]
  rfl
theorem at_natsV {ns : List Nat} {k : Nat} (h : k < ns.length) : atI (natsV ns) (k : Int) = some (.int ((ns.getD k 0 : Nat) : Int)) := by
  refine atI_nat ?_
  unfold natsV
  rw [List.getElem?_map, List.getD_eq_getElem?_getD, List.getElem?_eq_getElem h]
  rfl
theorem natsV_inj {ws ws' : List Nat} (h : natsV ws = natsV ws') : ws' = ws := by
  have h' : (ws.map fun (n : Nat) => V.int (n : Int)) = ws'.map fun (n : Nat) => V.int (n : Int) := h
  have := congrArg (List.map fun v : V => match v with | .int i => i.toNat | _ => 0) h'
  rw [List.map_map, List.map_map] at this
  have e : ∀ l : List Nat, l.map ((fun v : V => match v with | .int i => i.toNat | _ => 0) ∘ fun (n : Nat) => V.int (n : Int)) = l := fun l => by
    conv => rhs; rw [← List.map_id l]
    refine List.map_congr_left fun n _ => ?_
    exact Int.toNat_natCast n
  rw [e, e] at this
  exact this.symm
theorem natsV_set (ns : List Nat) (k x : Nat) : (natsV ns).set k (.int (x : Int)) = natsV (ns.set k x) := by
  unfold natsV
  rw [List.map_set]
theorem natsV_thing {H : Hp} {ns : List Nat} : ∀ x ∈ natsV ns, Thing H x := fun x hx => by
  obtain ⟨n, _, rfl⟩ := List.mem_map.mp hx
  exact .int _
theorem mod_nat (i : Int) {m : Nat} (h : 0 < m) : ∃ n : Nat, i % (m : Int) = (n : Int) ∧ n < m := by
  have h0 := Int.emod_nonneg i (show (m : Int) ≠ 0 by omega)
  have h1 := Int.emod_lt_of_pos i (show (0 : Int) < (m : Int) by omega)
  exact ⟨(i % (m : Int)).toNat, by omega, by omega⟩
theorem pow_int (b : Nat) : (2 : Int) ^ b = ((2 ^ b : Nat) : Int) := by
  rw [Int.natCast_pow]
  rfl
theorem sum_pows (b : Nat) : ∀ fl : List Nat, (∀ x ∈ fl, x ≤ b) → (fl.map fun x : Nat => (2 : Int) ^ ((b : Int) - (x : Int)).toNat).sum = (((fl.map fun x => 2 ^ (b - x)).sum : Nat) : Int)
  | [], _ => rfl
  | x :: r, h => by
    have := h x List.mem_cons_self
    rw [List.map_cons, List.sum_cons, List.map_cons, List.sum_cons, sum_pows b r fun y hy => h y (List.mem_cons_of_mem _ hy), Int.natCast_add, Int.natCast_pow, show ((b : Int) - (x : Int)).toNat = b - x by omega]
    rfl
theorem rep_one {α : Type} (n : Nat) (x : α) : (List.replicate n [x]).flatten = List.replicate n x := by
  induction n with
  | zero => rfl
  | succ n ih => rw [List.replicate_succ, List.flatten_cons, ih, List.replicate_succ]; rfl
/-- one item changed to what counts no more -/
theorem sum_set_le {f : Nat → Nat} {y : Nat} : ∀ {l : List Nat} {j : Nat}, f y ≤ f (l.getD j 0) → ((l.set j y).map f).sum ≤ (l.map f).sum
  | [], _, _ => Nat.le_refl _
  | x :: r, 0, h => by
    have h' : f y ≤ f x := h
    show f y + (r.map f).sum ≤ f x + (r.map f).sum
    omega
  | x :: r, j + 1, h => by
    have := sum_set_le (f := f) (y := y) (l := r) (j := j) h
    show f x + ((r.set j y).map f).sum ≤ f x + (r.map f).sum
    omega
end Sl

/-! ### ordered lengths -/
namespace Sl
def ordLens (ws : List Nat) (b : Nat) : List Nat := if ws.length < 2 then List.replicate ws.length 1 else cut ws b 0 ws.length
def intsOf (ns : List Nat) : List Int := ns.map fun (n : Nat) => (n : Int)
theorem leafs_pos {ds : List Int} (h : Leafs 0 ds) (h2 : 2 ≤ ds.length) : ∀ x ∈ ds, (1 : Int) ≤ x := by
  generalize ed : (0 : Int) = d0 at h
  cases h with
  | leaf => simp at h2
  | @node _ u v hu hv =>
    intro x hx
    rcases List.mem_append.mp hx with hx | hx
    · have := hu.le x hx; omega
    · have := hv.le x hx; omega
/-- what is known of them for two signs or more -/
theorem ord_two {ws : List Nat} {b : Nat} (h2 : 2 ≤ ws.length) (h : ws.length ≤ 2 ^ b) : ∃ v, val ws b 0 ws.length = some v ∧ (ordLens ws b).length = ws.length ∧ dot ws (ordLens ws b) = v ∧ (∀ x ∈ ordLens ws b, 1 ≤ x ∧ x ≤ b) ∧ Leafs 0 (intsOf (ordLens ws b)) := by
  obtain ⟨v, hv⟩ := (val_some ws b 0 ws.length (by omega)).mpr (by omega)
  obtain ⟨k1, k2, k3, k4⟩ := cut_all ws b 0 ws.length v (by omega) hv
  have e : ordLens ws b = cut ws b 0 ws.length := if_neg (by omega)
  rw [e]
  have hl := k4 0
  have e0 : ((cut ws b 0 ws.length).map fun x : Nat => (0 : Int) + (x : Int)) = intsOf (cut ws b 0 ws.length) := List.map_congr_left fun x _ => Int.zero_add _
  rw [e0] at hl
  have pos := leafs_pos hl (by unfold intsOf; rw [List.length_map, k1]; omega)
  refine ⟨v, hv, by rw [k1]; omega, by rw [← k2]; rfl, fun x hx => ⟨?_, k3 x hx⟩, hl⟩
  have := pos (x : Int) (List.mem_map.mpr ⟨x, hx, rfl⟩)
  omega
theorem ordLens_len {ws : List Nat} {b : Nat} (h : ws.length ≤ 2 ^ b) : (ordLens ws b).length = ws.length := by
  by_cases h2 : 2 ≤ ws.length
  · obtain ⟨_, _, k, _⟩ := ord_two h2 h
    exact k
  · unfold ordLens
    rw [if_pos (by omega), List.length_replicate]
theorem ordLens_in {ws : List Nat} {b : Nat} (hb : 1 ≤ b) (h : ws.length ≤ 2 ^ b) : ∀ x ∈ ordLens ws b, 1 ≤ x ∧ x ≤ b := fun x hx => by
  by_cases h2 : 2 ≤ ws.length
  · obtain ⟨_, _, _, _, k, _⟩ := ord_two h2 h
    exact k x hx
  · unfold ordLens at hx
    rw [if_pos (by omega)] at hx
    rw [List.eq_of_mem_replicate hx]
    exact ⟨Nat.le_refl _, hb⟩
theorem szB_zero (b : Nat) : szB b 0 = 2 ^ b := by
  unfold szB
  rw [Int.sub_zero, Int.toNat_natCast]
theorem leafs_end {b : Nat} {ds : List Int} (h : Leafs 0 ds) (hb : ∀ x ∈ ds, x ≤ (b : Int)) : endB b 0 ds = 2 ^ b := by
  have := endB_leafs h 0 hb
  rw [Nat.zero_mul, Nat.zero_add, szB_zero] at this
  exact this
theorem ordLens_end {ws : List Nat} {b : Nat} (hb : 1 ≤ b) (h : ws.length ≤ 2 ^ b) : endB b 0 (intsOf (ordLens ws b)) ≤ 2 ^ b := by
  by_cases h2 : 2 ≤ ws.length
  · obtain ⟨_, _, _, _, k, hl⟩ := ord_two h2 h
    rw [leafs_end hl fun x hx => by
      obtain ⟨y, hy, rfl⟩ := List.mem_map.mp hx
      have := k y hy
      omega]
    exact Nat.le_refl _
  · unfold ordLens
    rw [if_pos (by omega)]
    have c : ws.length = 0 ∨ ws.length = 1 := by omega
    rcases c with c | c
    · rw [c]
      exact Nat.zero_le _
    · rw [c]
      show up 0 (szB b 1) + szB b 1 ≤ 2 ^ b
      have e : up 0 (szB b 1) = 0 := by
        have := up_mul (s := szB b 1) (Nat.pow_pos (by decide)) 0
        rw [Nat.zero_mul] at this
        exact this
      rw [e, Nat.zero_add]
      unfold szB
      exact Nat.pow_le_pow_right (by decide) (by omega)
/-- no tree's leaves in this order weigh less -/
theorem ord_least {ws dn : List Nat} {b : Nat} (h1 : 1 ≤ ws.length) (h : ws.length ≤ 2 ^ b) (hd : dn.length = ws.length) (hb : ∀ x ∈ dn, 1 ≤ x ∧ x ≤ b) (hl : 2 ≤ ws.length → Leafs 0 (intsOf dn)) : dot ws (ordLens ws b) ≤ dot ws dn := by
  by_cases h2 : 2 ≤ ws.length
  · obtain ⟨v, hv, _, hw, _, _⟩ := ord_two h2 h
    rw [hw]
    have il : (intsOf dn).length = ws.length := by unfold intsOf; rw [List.length_map, hd]
    obtain ⟨v', k1, k2⟩ := val_least ws (B := b) (hl h2) b 0 (by omega) (by decide) (fun x hx => by
      obtain ⟨y, hy, rfl⟩ := List.mem_map.mp hx
      have := hb y hy
      omega) (by omega)
    rw [il, Nat.zero_add] at k1 k2
    rw [hv] at k1
    cases k1
    have e : (intsOf dn).map Int.toNat = dn := by
      unfold intsOf
      rw [List.map_map]
      conv => rhs; rw [← List.map_id dn]
      exact List.map_congr_left fun x _ => Int.toNat_natCast x
    rw [e] at k2
    have : Int.toNat 0 * sumR ws 0 ws.length = 0 := Nat.zero_mul _
    have k3 : v + Int.toNat 0 * sumR ws 0 ws.length ≤ dot ws dn := k2
    omega
  · have c : ws.length = 1 := by omega
    obtain ⟨w, rfl⟩ := List.length_eq_one_iff.mp c
    obtain ⟨d, rfl⟩ := List.length_eq_one_iff.mp (hd.trans c)
    have := hb d List.mem_cons_self
    show w * 1 + 0 ≤ w * d + 0
    exact Nat.add_le_add_right (Nat.mul_le_mul_left _ this.1) 0
/-- the weights by the lengths, as a sum over the signs' numbers -/
theorem dot_sum : ∀ (ws ds : List Nat), ds.length = ws.length → dot ws ds = sumN ws.length fun k => ws.getD k 0 * ds.getD k 0
  | [], [], _ => rfl
  | w :: ws, d :: ds, h => by
    show w * d + dot ws ds = ((List.range (ws.length + 1)).map _).sum
    rw [List.range_succ_eq_map, List.map_cons, List.sum_cons, List.map_map, dot_sum ws ds (by simpa using h)]
    rfl
theorem endB_all (b : Nat) (x : Int) (r : List Int) (p : Nat) : endB b p (x :: r) = endB b (up p (szB b x) + szB b x) r := rfl
theorem endB_step {b : Nat} {ls : List Int} {i : Nat} {l : Int} (h : ls[i]? = some l) : endB b 0 (ls.take (i + 1)) = up (endB b 0 (ls.take i)) (szB b l) + szB b l := by
  rw [List.take_add_one, h, endB_app]
  rfl
theorem endB_le (b : Nat) : ∀ (ls : List Int) (p : Nat), (∀ l ∈ ls, 0 ≤ l) → endB b p ls ≤ p + ls.length * (2 * 2 ^ b)
  | [], p, _ => by show p ≤ _; omega
  | l :: r, p, h => by
    have ih := endB_le b r (up p (szB b l) + szB b l) fun x hx => h x (List.mem_cons_of_mem _ hx)
    have h0 := h l List.mem_cons_self
    have s1 : szB b l ≤ 2 ^ b := Nat.pow_le_pow_right (by decide) (by omega)
    have s0 : 0 < szB b l := Nat.pow_pos (by decide)
    have u : up p (szB b l) ≤ p + szB b l := by
      rw [up_eq s0]
      split
      · omega
      · omega
    show endB b (up p (szB b l) + szB b l) r ≤ _
    rw [List.length_cons, Nat.add_mul]
    omega
end Sl

/-! ### t.count(k) of a tuple of whole numbers -/
namespace Sl
open PySem PySem.Spec PyProof.Rows L2
def rCntT (K : PySem.W.Frag) : V → List V → Hp → VK → Prop := fun x xs H Q => ∃ (p : Addr) (ns : List Int) (k : Int), x = .ref p ∧ xs = [.int k] ∧ SqT K H p (ns.map V.int) ∧ Q (.int (ns.count k : Nat)) H
theorem mt_tcount {X : Cx} : MtR X "tuple.count" (rCntT X.K) := by
  intro pins s σ H x xs v us Q I rx rxs h
  obtain ⟨p, ns, k, rfl, rfl, hs, q⟩ := h
  cases rx
  obtain ⟨u, rfl, ru⟩ := rxs.one
  obtain ⟨t, rfl⟩ := ru
  obtain ⟨its, rv, ⟨⟨cls, dd, data, sl⟩, ho, hc, n, hd⟩, hlen⟩ := I.tuple hs
  simp only at hc hd
  subst hc hd
  have hi := ints_of_vals rv
  refine call_meets PySem.F.slot_tuple_count ⟨_, ho, rfl⟩ PySem.F.entry_tuple_count (PySem.F.args_tuple_count_2 _ _)
    (SeqAt.tuple_countAt p its.toArray n dd sl (.int k t) (eqk k)) ⟨ho, fun y hy => (eqk_gives hi y (by simpa using hy)).at _ _, ?_⟩
  have ec : its.toArray.toList.countP (eqk k) = ns.count k := eqk_count hi
  refine ⟨.int (ns.count k : Nat), H, I.tok _, ⟨s.toks, ?_⟩, q⟩
  show Value.int ((its.toArray.toList.countP (eqk k) : Nat) : Int) s.toks = Value.int ((ns.count k : Nat) : Int) s.toks
  rw [ec]
end Sl

/-! ### tuples whose object is known: new ones, and their methods -/
namespace Sl
open PySem PySem.Spec PyProof.Rows L2 Evl
section
variable {X : Cx} {es : List Expr} {t : TA} {pos : Pos}
def TupF (H : Hp) (p : Addr) (xs : List V) : Prop := ∃ o : Obj, H p = some (.frz o (.tup xs)) ∧ o.cls = .type "tuple" ∧ o.dict = none
theorem TupF.mono {H H' : Hp} {p : Addr} {xs : List V} (e : Ex H H') (h : TupF H p xs) : TupF H' p xs := by
  obtain ⟨o, h1, h2⟩ := h
  exact ⟨o, e _ _ h1, h2⟩
theorem TupF.sq {K : PySem.W.Frag} {H : Hp} {p : Addr} {xs : List V} (h : TupF H p xs) : SqT K H p xs := by
  obtain ⟨o, h1, _⟩ := h
  exact .inl (.inr ⟨o, h1⟩)
def tTupF (t : TA) : TE := fun σ H Q => t σ H fun xs H1 => xs.length ≤ sizeLine ∧ ∀ p H2, H1 p = none → Ex H1 H2 → TupF H2 p xs → Q (.ref p) H2
theorem pe_tupF {x1} (h : PA X es t) : PE X (.Tuple es x1 pos) (tTupF t) := by
  refine ⟨fun pins s σ H Q I hq => ?_⟩
  refine wpAny_Tuple_spliced (thn (h.run pos pins s σ H _ I hq) fun us s1 ⟨xs, H1, I1, r, z, q⟩ => ⟨by rw [← r.length]; exact z, ?_⟩)
  have hf : H1 s1.heap.objs.size = none := I1.hok.fresh (Nat.le_refl _)
  refine ⟨.ref s1.heap.objs.size, upd H1 s1.heap.objs.size (.frz { cls := .type "tuple", data := .seq us.toArray } (.tup xs)), I1.laid (t' := s1.toks) (fun b u e => Heap.get?_push_of_some _ e) (Nat.le_refl _) ?_, rfl, q _ _ hf (Ex.new hf) ⟨_, upd_same, rfl, rfl⟩⟩
  exact ⟨Heap.get?_push_size _ rfl, z, us, r, ⟨_, Heap.get?_push_size _ rfl, rfl, _, rfl⟩⟩
def rTupleF (K : PySem.W.Frag) : List V → Hp → VK → Prop := fun xs H Q => ∃ p ys, xs = [.ref p] ∧ SqL K H p ys ∧ ∀ l H2, H l = none → Ex H H2 → TupF H2 l ys → Q (.ref l) H2
theorem call_tupleF : CallR X (.type "tuple") (rTupleF X.K) := by
  intro pins s σ H xs us Q I r h
  obtain ⟨p, ys, rfl, hq, q⟩ := h
  obtain ⟨u, rfl, rx⟩ := vals1 r
  cases rx
  obtain ⟨its, r', pl, hz⟩ := I.list hq
  have hlen := r'.length
  refine call_tuple_list pl.isList (fun h' kp => ?_) (by simp only [List.size_toArray] <;> omega)
  have I1 : Inv X pins σ H { s with heap := h' } := I.kept (t' := s.toks) kp
  have hf : H h'.objs.size = none := I1.hok.fresh (Nat.le_refl _)
  have I2 : Inv X pins σ (upd H h'.objs.size (.frz { cls := .type "tuple", data := .seq its.toArray } (.tup ys))) { s with heap := h'.push { cls := .type "tuple", data := .seq its.toArray } } :=
    I1.laid (t' := s.toks) (fun b o e => Heap.get?_push_of_some _ e) (Nat.le_refl _) (show ObjOk X.prog X.w _ _ _ (.frz _ (.tup ys)) from ⟨Heap.get?_push_size _ rfl, hz, its, r', IsTup.new _ _⟩)
  exact ⟨.ref h'.objs.size, _, I2, rfl, q _ _ hf (Ex.new hf) ⟨_, upd_same, rfl, rfl⟩⟩
def tBMT (r : V → List V → Hp → VK → Prop) (to : TE) (t : TA) : TE := fun σ H Q => to σ H fun x H1 => (∃ p xs, x = .ref p ∧ TupF H1 p xs) ∧ t σ H1 fun xs H2 => r x xs H2 Q
variable {o e : Expr} {to : TE} {name : Str} {apos cpos : Pos} {id : String} {r : V → List V → Hp → VK → Prop}
theorem pe_bmT (slot : Slot "tuple" name id) (hty : typeOf (.builtin id) = pure (.type "method_descriptor")) (hm : MtR X id r) (ho : PE X o to) (ha : PA X (e :: es) t)
    (hbase : attributeBase o name X.env (eval o X.env) = eval o X.env := by rfl)
    (hfew : ((backTo cpos (starEach (e :: es) X.env)).all (fun x => !x.1) && (backToKw cpos (keywordEach [] X.env)).all (fun x => x.1.isSome)
      && decide ((e :: es).length + ([] : List Keyword).length + (if ([] : List Keyword).isEmpty then 0 else 1) < 30)) = true := by rfl)
    (hline : (apos.endLine == cpos.line) = true := by rfl) (hs : starEach (e :: es) X.env = (false, eval e X.env) :: starEach es X.env := by rfl) (hplain : (backTo cpos (starEach es X.env)).any (·.1) = false := by rfl) :
    PE X (.Call (.Attribute o name apos) (e :: es) [] cpos) (tBMT r to t) := by
  refine ⟨fun pins s σ H Q I h => ?_⟩
  refine wpAny_Call_method_late hbase hfew hline rfl (thn (ho.run pins s σ H _ I h) fun v s1 ⟨x, H1, I1, r1, ty, q1⟩ => ?_)
  obtain ⟨p, xs, rfl, ob, h1, h2, h3⟩ := ty
  cases r1
  have hob := (I1.hok p _ h1).1
  refine ⟨"tuple", id, PySem.F.plainAttrs_tuple, slot, hty, ⟨ob, hob, h2⟩, fun a e => by cases e; exact ⟨ob, hob, h3⟩, ?_⟩
  have hA := ha.run cpos pins s1 σ H1 _ I1 q1
  rw [hs] at hA ⊢
  refine Calls.callWith_builtin (by show (false || (backTo cpos (starEach es X.env)).any (·.1)) = false; rw [hplain] <;> rfl) (Calls.evalArgs_plain ?_)
  exact thn hA fun us s2 ⟨vs, H2, I2, r2, q2⟩ => hm pins s2 σ H2 (.ref p) vs (.ref p) us Q I2 rfl r2 q2
end
section
variable {K : PySem.W.Frag} {σ : L2.St} {H : Hp} {ta tb te to : TE}
/-- gives a new tuple whose object is known -/
def EvF (te : TE) (σ : L2.St) (H : Hp) (xs : List V) : Prop := ∀ H1, Ex H H1 → ∀ Q : VK, (∀ p H2, H1 p = none → Ex H1 H2 → TupF H2 p xs → Q (.ref p) H2) → te σ H1 Q
theorem ef_tup {t : TA} {vs : List V} (h : EvA t σ H vs) (hl : vs.length ≤ 100000) : EvF (tTupF t) σ H vs := fun H1 e Q q =>
  h H1 e _ fun H2 e2 => ⟨sz_of hl, fun p H3 hp e3 h3 => q p H3 (fresh_back e2 hp) (e2.trans e3) h3⟩
theorem ef_tuple {xs : List V} (h : EvL ta σ H xs) : EvF (tCB (rTupleF K) (tCons ta tNil)) σ H xs := fun H1 e Q q =>
  h H1 e _ fun p H2 hp e2 h2 => ⟨p, xs, rfl, sq_of h2, fun l H3 hl e3 h3 => q l H3 (fresh_back e2 hl) (e2.trans e3) h3⟩
theorem ef_tupleV {a : Addr} {xs : List V} (h : Ev ta σ H (.ref a)) (hS : SqL K H a xs) : EvF (tCB (rTupleF K) (tCons ta tNil)) σ H xs := fun H1 e Q q =>
  h H1 e _ fun H2 e2 => ⟨a, xs, rfl, ex_l (e.trans e2) hS, fun l H3 hl e3 h3 => q l H3 (fresh_back e2 hl) (e2.trans e3) h3⟩
theorem ev_tcount {p : Addr} {ns : List Int} {k : Int} (h : Ev to σ H (.ref p)) (hp : TupF H p (ns.map V.int)) (hk : Ev te σ H (.int k)) : Ev (tBMT (rCntT K) to (tCons te tNil)) σ H (.int (ns.count k : Nat)) := fun H1 e Q q =>
  h H1 e _ fun H2 e2 => ⟨⟨p, _, rfl, hp.mono (e.trans e2)⟩, hk H2 (e.trans e2) _ fun H3 e3 => ⟨p, ns, k, rfl, rfl, (hp.mono ((e.trans e2).trans e3)).sq, q H3 (e2.trans e3)⟩⟩
theorem ev_isTup {p : Addr} {xs : List V} (h : Ev te σ H (.ref p)) (k : H p = some (.tup xs)) : Ev (tCB (rIsi K) (tCons te (tCons (tC (.ty "tuple")) tNil))) σ H (.bl true) := fun H1 e Q q =>
  h H1 e _ fun H2 e2 => ⟨.ref p, .ty "tuple", _, _, true, rfl, .ty _, .base (.tup ((e.trans e2) _ _ k)), kit_ty (by decide +kernel), q H2 e2⟩
theorem ev_isTupF {p : Addr} {xs : List V} (h : Ev te σ H (.ref p)) (k : TupF H p xs) : Ev (tCB (rIsi K) (tCons te (tCons (tC (.ty "tuple")) tNil))) σ H (.bl true) := fun H1 e Q q =>
  h H1 e _ fun H2 e2 => by
    obtain ⟨o, k1, _⟩ := k
    exact ⟨.ref p, .ty "tuple", _, _, true, rfl, .ty _, .fTuple ((e.trans e2) _ _ k1), kit_ty (by decide +kernel), q H2 e2⟩
theorem ev_lenT {p : Addr} {xs : List V} (ha : Ev ta σ H (.ref p)) (h : SqT K H p xs) : Ev (tCB (rLenS K) (tCons ta tNil)) σ H (.int (xs.length : Int)) := fun H1 e Q q =>
  ha H1 e _ fun H2 e2 => ⟨p, xs, rfl, .inr (ex_t (e.trans e2) h), q H2 e2⟩
theorem el_lcT {a : Addr} {xs : List V} {tl : TE} {t : TT} {j : Nat} {vs : List Nat} (f : Nat → Bool) (v : Nat → V) (h : Ev tl σ H (.ref a)) (hx : SqT K H a xs) (hz : xs.length ≤ 40000) (hw : ∀ x, wipe ((wipe σ vs).set j (some x)) vs = wipe σ vs)
    (ht : ∀ (i : Nat) (x : V) H1, Ex H H1 → xs[i]? = some x → EvT t ((wipe σ vs).set j (some x)) H1 (f i)) (he : ∀ (i : Nat) (x : V) H1, Ex H H1 → xs[i]? = some x → f i = true → Ev te ((wipe σ vs).set j (some x)) H1 (v i)) :
    EvL (tLc (iTup K tl) (gName j) t te vs) σ H (given xs.length f v) := fun H0 e Q q => h H0 e _ fun H1 e1 => ⟨a, rfl, ⟨xs, ex_t (e.trans e1) hx⟩, fun Dl hD =>
  lc_tup (xs := xs) (Cw H1 f v Dl) ⟨hD, Ex.new hD, upd_same⟩ (fun i H' _ p => ex_t ((e.trans e1).trans p.2.1) hx) (fun i x H' hi p => ⟨hw x, cw_turn p (by have := (List.getElem?_eq_some_iff.mp hi).1; omega) (ht i x H1 (e.trans e1) hi) (fun hf => he i x H1 (e.trans e1) hi hf)⟩)
    (fun H' p => q Dl H' (fresh_back e1 p.1) (e1.trans p.2.1) p.2.2)⟩
end
end Sl

/-! ### packets in the heap -/
namespace Sl
open PySem L2 Evl
def PkAt (H : Hp) (z : V) (p : Pk) : Prop := ∃ t u : Addr, z = .ref t ∧ H t = some (.tup [.int (p.1 : Int), .ref u]) ∧ TupF H u (natsV p.2)
def Pks (H : Hp) (zs : List V) (r : List Pk) : Prop := zs.length = r.length ∧ ∀ (i : Nat) (p : Pk), r[i]? = some p → ∃ z, zs[i]? = some z ∧ PkAt H z p
def dPk (p : Pk) : PyData := .tuple [.int (p.1 : Int), .tuple ((p.2.map fun (n : Nat) => (n : Int)).map PyData.int)]
section
variable {K : PySem.W.Frag} {H H' : Hp}
theorem PkAt.mono {z : V} {p : Pk} (e : Ex H H') (h : PkAt H z p) : PkAt H' z p := by
  obtain ⟨t, u, h1, h2, h3⟩ := h
  exact ⟨t, u, h1, e _ _ h2, h3.mono e⟩
theorem PkAt.upd {z : V} {p : Pk} {b : Addr} {xs : List V} {o : HO} (hb : H b = some (.lst xs)) (h : PkAt H z p) : PkAt (upd H b o) z p := by
  obtain ⟨t, u, h1, h2, h3⟩ := h
  refine ⟨t, u, h1, ?_, ?_⟩
  · rw [upd_ne fun z => by rw [z, hb] at h2; cases h2]; exact h2
  · obtain ⟨ob, k1, k2⟩ := h3
    exact ⟨ob, by rw [upd_ne fun z => by rw [z, hb] at k1; cases k1]; exact k1, k2⟩
theorem Pks.mono {zs : List V} {r : List Pk} (e : Ex H H') (h : Pks H zs r) : Pks H' zs r := ⟨h.1, fun i p hp => by
  obtain ⟨z, h1, h2⟩ := h.2 i p hp
  exact ⟨z, h1, h2.mono e⟩⟩
theorem Pks.upd {zs : List V} {r : List Pk} {b : Addr} {xs : List V} {o : HO} (hb : H b = some (.lst xs)) (h : Pks H zs r) : Pks (upd H b o) zs r := ⟨h.1, fun i p hp => by
  obtain ⟨z, h1, h2⟩ := h.2 i p hp
  exact ⟨z, h1, h2.upd hb⟩⟩
theorem Pks.nil : Pks H [] [] := ⟨rfl, fun i p h => by simp at h⟩
theorem Pks.at {zs : List V} {r : List Pk} {i : Nat} (h : Pks H zs r) (hi : i < r.length) : ∃ z, zs[i]? = some z ∧ PkAt H z r[i] := h.2 i _ (List.getElem?_eq_getElem hi)
theorem Pks.app {zs ys : List V} {r q : List Pk} (h : Pks H zs r) (k : Pks H ys q) : Pks H (zs ++ ys) (r ++ q) := by
  refine ⟨by rw [List.length_append, List.length_append, h.1, k.1], fun i p hp => ?_⟩
  by_cases hi : i < r.length
  · rw [List.getElem?_append_left hi] at hp
    rw [List.getElem?_append_left (by rw [h.1]; exact hi)]
    exact h.2 i p hp
  · rw [List.getElem?_append_right (by omega)] at hp
    rw [List.getElem?_append_right (by rw [h.1]; omega), h.1]
    exact k.2 _ p hp
theorem Pks.one {z : V} {p : Pk} (h : PkAt H z p) : Pks H [z] [p] := ⟨rfl, fun i q hq => by
  cases i with
  | zero => cases hq; exact ⟨z, rfl, h⟩
  | succ i => simp at hq⟩
theorem Pks.take {zs : List V} {r : List Pk} (h : Pks H zs r) (n : Nat) : Pks H (zs.take n) (r.take n) := by
  refine ⟨by rw [List.length_take, List.length_take, h.1], fun i p hp => ?_⟩
  rw [List.getElem?_take] at hp ⊢
  split at hp
  · rename_i hi
    rw [if_pos hi]
    exact h.2 i p hp
  · cases hp
theorem Pks.drop {zs : List V} {r : List Pk} (h : Pks H zs r) (n : Nat) : Pks H (zs.drop n) (r.drop n) := by
  refine ⟨by rw [List.length_drop, List.length_drop, h.1], fun i p hp => ?_⟩
  rw [List.getElem?_drop] at hp ⊢
  exact h.2 _ p hp
theorem PkAt.dp {z : V} {p : Pk} (h : PkAt H z p) : Dp K H z (dPk p) := by
  obtain ⟨t, u, rfl, h2, h3⟩ := h
  rw [natsV_ints] at h3
  exact .tup (st_of h2) (.cons (.int _) (.cons (.tup h3.sq (dpAll_map fun _ _ => .int _)) .nil))
theorem Pks.dp : ∀ {zs : List V} {r : List Pk}, Pks H zs r → DpAll K H zs (r.map dPk)
  | [], [], _ => .nil
  | [], _ :: _, h => by have := h.1; simp at this
  | _ :: _, [], h => by have := h.1; simp at this
  | z :: zs, p :: r, h => by
    obtain ⟨z', h1, h2⟩ := h.2 0 p rfl
    cases h1
    exact .cons h2.dp (Pks.dp ⟨by simpa using h.1, fun i q hq => h.2 (i + 1) q hq⟩)
theorem shaped_pks (r : List Pk) : SeqAt.shaped (.list (r.map dPk)) = true := shaped_list fun d hd => by
  obtain ⟨p, _, rfl⟩ := List.mem_map.mp hd
  have z := lay_all (flat_ints (p.2.map fun (n : Nat) => (n : Int)))
  have zz : ∀ e ∈ [PyData.int (p.1 : Int), .tuple ((p.2.map fun (n : Nat) => (n : Int)).map PyData.int)], e.canLay0 = true ∧ e.depth ≤ 1 := fun e he => by
    rcases List.mem_cons.mp he with rfl | he
    · exact ⟨rfl, Nat.zero_le _⟩
    · rw [List.mem_singleton.mp he]
      refine ⟨?_, ?_⟩
      · unfold PyData.canLay0
        exact z.1
      · unfold PyData.depth
        have := z.2
        omega
  have y := lay_all zz
  refine ⟨?_, ?_⟩
  · unfold dPk PyData.canLay0
    exact y.1
  · unfold dPk PyData.depth
    have := y.2
    omega
/-- where a packet is put: behind those that weigh no more -/
theorem put_split : ∀ {r : List Pk} {p : Pk} {n : Nat}, n ≤ r.length → (∀ (i : Nat) (x : Pk), i < n → r[i]? = some x → x.1 ≤ p.1) → (∀ (x : Pk), r[n]? = some x → p.1 < x.1) → put r p = r.take n ++ [p] ++ r.drop n
  | [], p, n, hn, _, _ => by
    have : n = 0 := Nat.le_zero.mp hn
    subst this
    rfl
  | x :: r, p, 0, _, _, h2 => by
    unfold Sl.put
    rw [if_neg (by have := h2 x rfl; omega)]
    rfl
  | x :: r, p, n + 1, hn, h1, h2 => by
    unfold Sl.put
    rw [if_pos (h1 0 x (Nat.succ_pos _) rfl), put_split (r := r) (n := n) (by simpa using hn) (fun i y hi hy => h1 (i + 1) y (by omega) hy) fun y hy => h2 y hy]
    rfl
end
end Sl
namespace Sl
open PySem L2 Evl
/-- the rows as they are told: b lists, each one of its own -/
def RowsAt (H0 H : Hp) (p : Addr) (ys : List V) (ws : List Nat) (b : Nat) : Prop := ys.length = b ∧ (∀ i, i < b → ∃ (a : Addr) (zs : List V), ys[i]? = some (.ref a) ∧ a ≠ p ∧ H0 a = none ∧ H a = some (.lst zs) ∧ Pks H zs (rowP ws (i + 1))) ∧
  ∀ (i j : Nat) (a : Addr), ys[i]? = some (.ref a) → ys[j]? = some (.ref a) → i = j
def RetRows (ws : List Nat) (b : Nat) (H : Hp) (Q : VK) : Prop := ∀ p ys H2, H p = none → Ex H H2 → H2 p = some (.lst ys) → RowsAt H H2 p ys ws b → Q (.ref p) H2
end Sl

/-! ### min of a list of pairs of whole numbers -/
namespace Sl
open PySem PySem.Spec PyProof.Rows L2 Evl
def lexI (p q : Int × Int) : Prop := p.1 < q.1 ∨ (p.1 = q.1 ∧ p.2 < q.2)
instance (p q : Int × Int) : Decidable (lexI p q) := by unfold lexI; infer_instance
def dI2 (q : Int × Int) : PyData := .tuple [.int q.1, .int q.2]
theorem dI2_lt (p q : Int × Int) : PySem.W.dataLt (dI2 p) (dI2 q) = decide (lexI p q) := PySem.W.dataLt_ii _ _ _ _
def minP (x : Int × Int) (l : List (Int × Int)) : Int × Int := l.foldl (fun a y => if lexI y a then y else a) x
theorem minP_data : ∀ (l : List (Int × Int)) (x : Int × Int), PySem.W.minD (dI2 x) (l.map dI2) = dI2 (minP x l)
  | [], _ => rfl
  | y :: r, x => by
    show PySem.W.minD (if PySem.W.dataLt (dI2 y) (dI2 x) then dI2 y else dI2 x) (r.map dI2) = dI2 (minP (if lexI y x then y else x) r)
    rw [dI2_lt]
    by_cases h : lexI y x
    · rw [if_pos (decide_eq_true h), if_pos h]
      exact minP_data r y
    · rw [if_neg (by rw [decide_eq_false h]; decide), if_neg h]
      exact minP_data r x
theorem lexI_irr (p : Int × Int) : ¬ lexI p p := fun h => by
  unfold lexI at h
  omega
theorem lexI_tr {p q r : Int × Int} (h : lexI q p) (k : ¬ lexI r p) : lexI q r ∨ q = r ∨ lexI q r := by
  unfold lexI at *
  omega
theorem minP_le : ∀ (l : List (Int × Int)) (x : Int × Int), ∀ p ∈ x :: l, ¬ lexI p (minP x l)
  | [], x, p, hp => by
    rw [List.mem_singleton.mp hp]
    exact lexI_irr _
  | y :: r, x, p, hp => by
    show ¬ lexI p (minP (if lexI y x then y else x) r)
    by_cases h : lexI y x
    · rw [if_pos h]
      have ih := minP_le r y
      rcases List.mem_cons.mp hp with rfl | hp
      · have := ih y List.mem_cons_self
        unfold lexI at *
        omega
      · exact ih p hp
    · rw [if_neg h]
      have ih := minP_le r x
      rcases List.mem_cons.mp hp with rfl | hp
      · exact ih p List.mem_cons_self
      · rcases List.mem_cons.mp hp with rfl | hp
        · have := ih x List.mem_cons_self
          unfold lexI at *
          omega
        · exact ih p (List.mem_cons_of_mem _ hp)
def rMinP (K : PySem.W.Frag) : List V → Hp → VK → Prop := fun vs H Q => ∃ (a : Addr) (ys : List V) (qs : List (Int × Int)), vs = [V.ref a] ∧ SqL K H a ys ∧ Tups H ys qs ∧ qs ≠ [] ∧
  ∀ (i : Nat) (q : Int × Int) (t : Addr), qs[i]? = some q → ys[i]? = some (.ref t) → (∀ p ∈ qs, ¬ lexI p q) → Q (.ref t) H
theorem Tups.dps {K : PySem.W.Frag} {H : Hp} : ∀ {ys : List V} {qs : List (Int × Int)}, Tups H ys qs → DpAll K H ys (qs.map dI2)
  | [], [], _ => .nil
  | [], _ :: _, h => by have := h.1; simp at this
  | _ :: _, [], h => by have := h.1; simp at this
  | y :: ys, q :: qs, h => by
    obtain ⟨t, h1, h2⟩ := h.2 0 q rfl
    cases h1
    exact .cons (.tup (st_of h2) (.cons (.int _) (.cons (.int _) .nil))) (Tups.dps ⟨by simpa using h.1, fun i q hq => h.2 (i + 1) q hq⟩)
theorem alike_I2 (p q : Int × Int) : PySem.W.alike (dI2 p) (dI2 q) = true := by
  unfold dI2
  simp [PySem.W.alike, PySem.W.alikeAll]
theorem vals_at {xs : List V} {us : List Value} (r : Vals xs us) : ∀ {i : Nat} {u : Value}, us[i]? = some u → ∃ x, xs[i]? = some x ∧ RelV x u := by
  induction r with
  | nil => intro i u h; simp at h
  | cons h r ih =>
    intro i u hu
    cases i with
    | zero =>
      cases hu
      exact ⟨_, rfl, h⟩
    | succ i => exact ih hu
theorem cr_minP {X : Cx} (hc : X.calm = true) (hu : X.A.units + 64 < cLine) : CallR X (.builtin "min") (rMinP X.K) := by
  intro pins s σ H vs us Q I r h
  obtain ⟨a, ys, qs, rfl, hs, ht, hne, q⟩ := h
  obtain ⟨its, rv, hl, _⟩ := I.list hs
  rw [Vals.ref1 r]
  obtain ⟨as, hr⟩ := Dp.readsAll I (qs.map dI2) ys its ht.dps rv
  cases qs with
  | nil => exact absurd rfl hne
  | cons q0 qr =>
    have dep : PyData.depthAll ((q0 :: qr).map dI2) ≤ 2 := by
      refine (lay_all (n := 2) fun d hd => ?_).2
      obtain ⟨p, _, rfl⟩ := List.mem_map.mp hd
      unfold dI2
      refine ⟨rfl, ?_⟩
      show PyData.depthAll [PyData.int p.1, PyData.int p.2] + 1 ≤ 2
      have : PyData.depthAll [PyData.int p.1, PyData.int p.2] = 0 := rfl
      omega
    refine PySem.W.min_list_data (x := dI2 q0) (xs := qr.map dI2) (I.ok.hd hc) hl.isList (by simpa using hr) ⟨fun x hx y hy => ?_, fun x hx => ?_⟩ (by
      have : PyData.depthAll (dI2 q0 :: qr.map dI2) ≤ 2 := dep
      omega) fun i v h' tk bs hv hm hk => ?_
    · rw [← List.map_cons] at hx hy
      obtain ⟨p, _, rfl⟩ := List.mem_map.mp hx
      obtain ⟨p', _, rfl⟩ := List.mem_map.mp hy
      exact alike_I2 _ _
    · rw [← List.map_cons] at hx
      obtain ⟨p, _, rfl⟩ := List.mem_map.mp hx
      exact fun z => by cases z
    · have hv' : its[i]? = some v := by simpa using hv
      obtain ⟨x, hx, rx⟩ := vals_at rv hv'
      obtain ⟨cs, r1, hlt, _, _⟩ := PySem.W.readsAll_at hr i v hv'
      have hi : i < (q0 :: qr).length := by simpa using hlt
      obtain ⟨t, h1, h2⟩ := ht.2 i (q0 :: qr)[i] (List.getElem?_eq_getElem hi)
      rw [h1] at hx
      cases hx
      cases rx
      have eg : ((q0 :: qr).map dI2).getD i .none = dI2 (q0 :: qr)[i] := by
        rw [List.getD_eq_getElem?_getD, List.getElem?_map, List.getElem?_eq_getElem hi]
        rfl
      rw [eg] at r1
      rw [minP_data] at hm
      have e := PySem.W.alike_unique _ _ _ _ _ (alike_I2 _ _) hm (PySem.W.reads_keeps hk r1)
      have e2 : minP q0 qr = (q0 :: qr)[i] := by
        have e := e
        unfold dI2 at e
        injection e with e
        injection e with e3 e
        injection e with e4 _
        injection e3 with e3
        injection e4 with e4
        exact Prod.ext e3 e4
      refine ⟨V.ref t, H, I.kept hk, rfl, q i _ t (List.getElem?_eq_getElem hi) h1 ?_⟩
      rw [← e2]
      exact minP_le qr q0
end Sl

/-! ### comprehensions over any walk; the table in the heap -/
namespace Sl
open PySem L2 Evl
section
variable {K : PySem.W.Frag} {σ : L2.St} {H H' : Hp} {ta tb te tl td ty : TE} {x y z v : V} {D : Ends} {g : TG} {tu tz : TS} {wi : TI}
/-- gives some value of which R holds -/
def EvR (te : TE) (σ : L2.St) (H : Hp) (R : V → Hp → Prop) : Prop := ∀ H1, Ex H H1 → ∀ Q : VK, (∀ y H2, Ex H1 H2 → R y H2 → Q y H2) → te σ H1 Q
def TupIs (xs : List V) (y : V) (H : Hp) : Prop := ∃ t, y = .ref t ∧ H t = some (.tup xs)
theorem TupIs.mono {xs : List V} (e : Ex H H') (h : TupIs xs y H) : TupIs xs y H' := by
  obtain ⟨t, h1, h2⟩ := h
  exact ⟨t, h1, e _ _ h2⟩
theorem TupIs.upd {xs zs : List V} {b : Addr} {o : HO} (hb : H b = some (.lst zs)) (h : TupIs xs y H) : TupIs xs y (upd H b o) := by
  obtain ⟨t, h1, h2⟩ := h
  exact ⟨t, h1, by rw [upd_ne fun z => by rw [z, hb] at h2; cases h2]; exact h2⟩
theorem EvU.toR {xs : List V} (h : EvU te σ H xs) : EvR te σ H (TupIs xs) := fun H1 e Q q => h H1 e Q fun p H2 _ e2 h2 => q _ H2 e2 ⟨p, rfl, h2⟩
theorem Ev.toR (h : Ev te σ H v) : EvR te σ H fun y _ => y = v := fun H1 e Q q => h H1 e Q fun H2 e2 => q _ H2 e2 rfl
/-- what is walked -/
def EvI (wi : TI) (σ : L2.St) (H : Hp) (J : It) : Prop := ∀ H1, Ex H H1 → ∀ R : It → Hp → Prop, (∀ H2, Ex H1 H2 → R J H2) → wi σ H1 R
theorem ei_rng2 {t : TA} {i j : Int} (h : EvA t σ H [.int i, .int j]) (hi : -100000 ≤ i ∧ i ≤ 100000) (hj : -100000 ≤ j ∧ j ≤ 100000) : EvI (iRng2 t) σ H (Itr i (j - i).toNat) := fun H1 e R r =>
  h H1 e _ fun H2 e2 => ⟨i, j, rfl, ⟨by omega, by omega, by omega, by omega⟩, r H2 e2⟩
theorem ei_rng1 {t : TA} {j : Int} (h : EvA t σ H [.int j]) (hj : -100000 ≤ j ∧ j ≤ 100000) : EvI (iRng1 t) σ H (Itr 0 j.toNat) := fun H1 e R r =>
  h H1 e _ fun H2 e2 => ⟨j, rfl, by omega, by omega, r H2 e2⟩
theorem ei_list {a : Addr} {xs : List V} (h : Ev tl σ H (.ref a)) (hS : SqL K H a xs) : EvI (iList K tl) σ H (Itl K a) := fun H1 e R r =>
  h H1 e _ fun H2 e2 => ⟨a, rfl, ⟨xs, ex_l (e.trans e2) hS⟩, r H2 e2⟩
theorem ei_enum {t : TA} {a : Addr} {xs : List V} (h : EvA t σ H [.ref a]) (hS : SqL K H a xs) : EvI (iEnum K t) σ H (Ite K a) := fun H1 e R r =>
  h H1 e _ fun H2 e2 => ⟨a, xs, rfl, ex_l (e.trans e2) hS, r H2 e2⟩
/-- a comprehension that takes all, over any walk, from where it begins: R says what stands at each place -/
theorem lcAll_at {J : It} {n : Nat} {G : Hp → Prop} {Y : Nat → Hp → V → Hp → Prop} {vs : List Nat} {H1 : Hp} {Q : VK} (w : Walk J n G Y) (R : Nat → V → Hp → Prop) (mono : ∀ i y H H', Ex H H' → R i y H → R i y H') (updS : ∀ i y H b xs o, H b = some (.lst xs) → R i y H → R i y (upd H b o))
    (hG : ∀ H2, Ex H1 H2 → G H2) (hn : n ≤ 40000)
    (turn : ∀ i x H2 H3, i < n → Ex H1 H2 → Y i H2 x H3 → Ex H2 H3 ∧ ∃ σ2, (∀ q : L2.St → Hp → Prop, q σ2 H3 → g x (wipe σ vs) H3 q) ∧ wipe σ2 vs = wipe σ vs ∧ EvR te σ2 H3 (R i))
    (q : ∀ p ys H2, H1 p = none → Ex H1 H2 → H2 p = some (.lst ys) → ys.length = n → (∀ i y, ys[i]? = some y → R i y H2) → Q (.ref p) H2) :
    ∀ Dl, H1 Dl = none → ∃ W : Nat → Nat → Hp → Prop, (∃ m, W 0 m (upd H1 Dl (.lst []))) ∧ ∀ i m H, W i m H →
      (J.stop i H ∧ Q (.ref Dl) H) ∨ (J.go i H ∧ ∃ Nx : Hp → Prop, (∀ H', Nx H' → ∃ m', m' < m ∧ W (i + 1) m' H') ∧ ∀ x H', J.yld i H x H' → g x (wipe σ vs) H' fun σ2 H2 => wipe σ2 vs = wipe σ vs ∧ tYes σ2 H2 fun b H3 =>
        if b = true then te σ2 H3 fun y H4 => ∃ acc, H4 Dl = some (.lst acc) ∧ acc.length < sizeLine ∧ Nx (upd H4 Dl (.lst (acc ++ [y]))) else Nx H3) := fun Dl hD => by
  refine lc_it w (fun i H2 => Ex H1 H2 ∧ ∃ ys, H2 Dl = some (.lst ys) ∧ ys.length = i ∧ ∀ j y, ys[j]? = some y → R j y H2) ⟨Ex.new hD, [], upd_same, rfl, fun j y hj => by simp at hj⟩ (fun i H2 _ p => hG _ p.1) (fun i x H2 H3 hi p y => ?_) fun H2 p => ?_
  · obtain ⟨e2, ys, hd, hl, hr⟩ := p
    obtain ⟨e3, σ2, hg, hw, he⟩ := turn i x H2 H3 hi e2 y
    refine hg _ ⟨hw, ?_⟩
    refine he H3 (Ex.refl _) _ fun z H4 e4 hz => ?_
    have hd4 := e4 _ _ (e3 _ _ hd)
    refine ⟨ys, hd4, sz_lt (by omega), Ex.mut ((e2.trans e3).trans e4) hD, ys ++ [z], upd_same, by rw [List.length_append, hl]; rfl, fun j y' hj => ?_⟩
    by_cases hlt : j < ys.length
    · rw [List.getElem?_append_left hlt] at hj
      exact updS _ _ _ _ _ _ hd4 (mono _ _ _ _ (e3.trans e4) (hr j y' hj))
    · rw [List.getElem?_append_right (by omega)] at hj
      have ej : j = i := by
        have := (List.getElem?_eq_some_iff.mp hj).1
        simp at this
        omega
      subst ej
      rw [show j - ys.length = 0 by omega] at hj
      cases hj
      exact updS _ _ _ _ _ _ hd4 hz
  · obtain ⟨e2, ys, hd, hl, hr⟩ := p
    exact q Dl ys H2 hD e2 hd hl hr
theorem ex_lcAll {J : It} {n : Nat} {G : Hp → Prop} {Y : Nat → Hp → V → Hp → Prop} {vs : List Nat} (w : Walk J n G Y) (R : Nat → V → Hp → Prop) (mono : ∀ i y H H', Ex H H' → R i y H → R i y H') (updS : ∀ i y H b xs o, H b = some (.lst xs) → R i y H → R i y (upd H b o))
    (hI : EvI wi σ H J) (hG : ∀ H1, Ex H H1 → G H1) (hn : n ≤ 40000)
    (turn : ∀ i x H1 H2, i < n → Ex H H1 → Y i H1 x H2 → Ex H1 H2 ∧ ∃ σ2, (∀ q : L2.St → Hp → Prop, q σ2 H2 → g x (wipe σ vs) H2 q) ∧ wipe σ2 vs = wipe σ vs ∧ EvR te σ2 H2 (R i)) :
    EvX (tLc wi g tYes te vs) σ H fun ys H2 => ys.length = n ∧ ∀ i y, ys[i]? = some y → R i y H2 := fun H0 e0 Q q =>
  hI H0 e0 _ fun H1 e1 => lcAll_at w R mono updS (fun H2 e => hG _ ((e0.trans e1).trans e)) hn (fun i x H2 H3 hi e y => turn i x H2 H3 hi ((e0.trans e1).trans e) y) fun p ys H2 hp e2 h2 hl hr => q p ys H2 (fresh_back e1 hp) (e1.trans e2) h2 ⟨hl, hr⟩
/-- over zip of two new lists -/
theorem ex_lcZip {xs ys : List V} {n s l : Nat} {vs : List Nat} (ha : EvL ta σ H xs) (hb : EvL tb σ H ys) (hn : n = min xs.length ys.length) (h4 : n ≤ 40000) (R : Nat → V → Hp → Prop) (mono : ∀ i y H H', Ex H H' → R i y H → R i y H') (updS : ∀ i y H b xs o, H b = some (.lst xs) → R i y H → R i y (upd H b o))
    (hw : ∀ v w, wipe (((wipe σ vs).set s (some v)).set l (some w)) vs = wipe σ vs) (turn : ∀ (i : Nat) (x y : V) H1, i < n → Ex H H1 → xs[i]? = some x → ys[i]? = some y → EvR te (((wipe σ vs).set s (some x)).set l (some y)) H1 (R i)) :
    EvX (tLc (iZip K (tCons ta (tCons tb tNil))) (gTup K 2 (gCons (gName s) (gCons (gName l) gNil))) tYes te vs) σ H fun zs H2 => zs.length = n ∧ ∀ i y, zs[i]? = some y → R i y H2 := fun H0 e0 Q q =>
  ha H0 e0 _ fun pa H1 npa e1 h1 => hb H1 (e0.trans e1) _ fun pb H2 npb e2 h2 => by
    have e12 := e1.trans e2
    refine ⟨pa, pb, xs, ys, rfl, sq_of (e2 _ _ h1), sq_of h2, lcAll_at (walk_zip (K := K) (a := pa) (b := pb) hn) R mono updS (fun H3 e => ⟨sq_of (e _ _ (e2 _ _ h1)), sq_of (e _ _ h2)⟩) h4 (fun i v H3 H4 hi e y => ?_) fun p zs H3 hp e h3 hl hr => q p zs H3 (fresh_back e12 hp) (e12.trans e) h3 ⟨hl, hr⟩⟩
    obtain ⟨T, x, z, rfl, hT, rfl, hx, hz⟩ := y
    exact ⟨Ex.new hT, _, fun q hq => ⟨T, [x, z], rfl, .inl (.inl upd_same), rfl, x, [z], rfl, z, [], rfl, rfl, hq⟩, hw _ _, turn i x z _ hi ((e0.trans e12).trans (e.trans (Ex.new hT))) hx hz⟩
/-- over zip of two lists -/
theorem ex_lcZipV {a b : Addr} {xs ys : List V} {n s l : Nat} {vs : List Nat} (ha : Ev ta σ H (.ref a)) (hb : Ev tb σ H (.ref b)) (hA : SqL K H a xs) (hB : SqL K H b ys) (hn : n = min xs.length ys.length) (h4 : n ≤ 40000) (R : Nat → V → Hp → Prop) (mono : ∀ i y H H', Ex H H' → R i y H → R i y H') (updS : ∀ i y H b xs o, H b = some (.lst xs) → R i y H → R i y (upd H b o))
    (hw : ∀ v w, wipe (((wipe σ vs).set s (some v)).set l (some w)) vs = wipe σ vs) (turn : ∀ (i : Nat) (x y : V) H1, i < n → Ex H H1 → xs[i]? = some x → ys[i]? = some y → EvR te (((wipe σ vs).set s (some x)).set l (some y)) H1 (R i)) :
    EvX (tLc (iZip K (tCons ta (tCons tb tNil))) (gTup K 2 (gCons (gName s) (gCons (gName l) gNil))) tYes te vs) σ H fun zs H2 => zs.length = n ∧ ∀ i y, zs[i]? = some y → R i y H2 := fun H0 e0 Q q =>
  ha H0 e0 _ fun H1 e1 => hb H1 (e0.trans e1) _ fun H2 e2 => by
    have e02 := (e0.trans e1).trans e2
    refine ⟨a, b, xs, ys, rfl, ex_l e02 hA, ex_l e02 hB, lcAll_at (walk_zip (K := K) (a := a) (b := b) hn) R mono updS (fun H3 e => ⟨ex_l (e02.trans e) hA, ex_l (e02.trans e) hB⟩) h4 (fun i v H3 H4 hi e y => ?_) fun p zs H3 hp e h3 hl hr => q p zs H3 (fresh_back (e1.trans e2) hp) ((e1.trans e2).trans e) h3 ⟨hl, hr⟩⟩
    obtain ⟨T, x, z, rfl, hT, rfl, hx, hz⟩ := y
    exact ⟨Ex.new hT, _, fun q hq => ⟨T, [x, z], rfl, .inl (.inl upd_same), rfl, x, [z], rfl, z, [], rfl, rfl, hq⟩, hw _ _, turn i x z _ hi (e02.trans (e.trans (Ex.new hT))) hx hz⟩
/-- over enumerate of a list -/
theorem ex_lcEn {a : Addr} {xs : List V} {s l : Nat} {vs : List Nat} {t : TA} (ha : EvA t σ H [.ref a]) (hA : SqL K H a xs) (h4 : xs.length ≤ 40000) (R : Nat → V → Hp → Prop) (mono : ∀ i y H H', Ex H H' → R i y H → R i y H') (updS : ∀ i y H b xs o, H b = some (.lst xs) → R i y H → R i y (upd H b o))
    (hw : ∀ v w, wipe (((wipe σ vs).set s (some v)).set l (some w)) vs = wipe σ vs) (turn : ∀ (i : Nat) (x : V) H1, Ex H H1 → xs[i]? = some x → EvR te (((wipe σ vs).set s (some (.int (i : Nat)))).set l (some x)) H1 (R i)) :
    EvX (tLc (iEnum K t) (gTup K 2 (gCons (gName s) (gCons (gName l) gNil))) tYes te vs) σ H fun zs H2 => zs.length = xs.length ∧ ∀ i y, zs[i]? = some y → R i y H2 := fun H0 e0 Q q =>
  ha H0 e0 _ fun H1 e1 => by
    have e01 := e0.trans e1
    refine ⟨a, xs, rfl, ex_l e01 hA, lcAll_at (walk_enum (K := K) (a := a) (xs := xs)) R mono updS (fun H3 e => ex_l (e01.trans e) hA) h4 (fun i v H3 H4 hi e y => ?_) fun p zs H3 hp e h3 hl hr => q p zs H3 (fresh_back e1 hp) (e1.trans e) h3 ⟨hl, hr⟩⟩
    obtain ⟨T, x, z, rfl, hT, rfl, hx, hz⟩ := y
    have hx : V.int ((i : Nat) : Int) = x := Option.some.inj hx
    subst hx
    exact ⟨Ex.new hT, _, fun q hq => ⟨T, [_, z], rfl, .inl (.inl upd_same), rfl, _, [z], rfl, z, [], rfl, rfl, hq⟩, hw _ _, turn i z _ (e01.trans (e.trans (Ex.new hT))) hz⟩
theorem er_call {sp : Sp} {dvs vs : List V} {E : XK} {ta : TA} {R : V → Hp → Prop} (h : EvA ta σ H vs) (hs : ∀ H1, Ex H H1 → ∀ Q : VK, (∀ y H2, Ex H1 H2 → R y H2 → Q y H2) → sp (vs ++ dvs) H1 Q E) : EvR (tCall sp dvs E ta) σ H R := fun H1 e Q q =>
  h H1 e _ fun H2 e2 => hs H2 (e.trans e2) Q fun y H3 e3 r => q y H3 (e2.trans e3) r
theorem s_retX {R : List V → Hp → Prop} (h : EvX te σ H R) (k : ∀ p ys H1, H p = none → Ex H H1 → H1 p = some (.lst ys) → R ys H1 → D.rt (.ref p) H1) : tRet te D σ H := h H (Ex.refl H) _ fun p ys H1 hp e h1 r => k p ys H1 hp e h1 r
theorem s_asgX {i : Nat} {R : List V → Hp → Prop} (h : EvX te σ H R) (k : ∀ p ys H1, H p = none → Ex H H1 → H1 p = some (.lst ys) → R ys H1 → D.nx (σ.set i (some (.ref p))) H1) : tAsg te (gName i) D σ H := h H (Ex.refl H) _ fun p ys H1 hp e h1 r => k p ys H1 hp e h1 r
theorem q_asgX {i : Nat} {R : List V → Hp → Prop} (h : EvX te σ H R) (k : ∀ p ys H1, H p = none → Ex H H1 → H1 p = some (.lst ys) → R ys H1 → tz D (σ.set i (some (.ref p))) H1) : tSeq (tAsg te (gName i)) tz D σ H := s_asgX (D := { D with nx := tz D }) h k
/-- a built-in over a new list, given back -/
theorem s_retCB {r : List V → Hp → VK → Prop} {xs : List V} (h : EvL ta σ H xs) (k : ∀ p H1, H p = none → Ex H H1 → H1 p = some (.lst xs) → r [.ref p] H1 D.rt) : tRet (tCB r (tCons ta tNil)) D σ H := h H (Ex.refl H) _ k
/-- any target takes what a call gives -/
theorem q_callG {sp : Sp} {dvs vs : List V} {E : XK} {tr : TA} (h : EvA tr σ H vs) (k : ∀ H1, Ex H H1 → sp (vs ++ dvs) H1 (fun v H2 => g v σ H2 fun σ' H' => tz D σ' H') E) : tSeq (tAsg (tCall sp dvs E tr) g) tz D σ H := h H (Ex.refl H) _ k
/-- two lists joined -/
theorem el_cat2 {a b : Addr} {xs ys : List V} (ha : Ev ta σ H (.ref a)) (hb : Ev tb σ H (.ref b)) (h1 : H a = some (.lst xs)) (h2 : H b = some (.lst ys)) (hl : xs.length + ys.length ≤ 100000) : EvL (tOp rCat ta tb) σ H (xs ++ ys) := fun H1 e Q q =>
  ha H1 e _ fun H2 e2 => hb H2 (e.trans e2) _ fun H3 e3 => ⟨a, b, xs, ys, rfl, rfl, ((e.trans e2).trans e3) _ _ h1, ((e.trans e2).trans e3) _ _ h2, sz_of hl, fun l hl' => q l _ (fresh_back (e2.trans e3) hl') ((e2.trans e3).trans (Ex.new hl')) upd_same⟩
theorem s_retCall {sp : Sp} {dvs vs : List V} {E : XK} {tr : TA} (h : EvA tr σ H vs) (k : ∀ H1, Ex H H1 → sp (vs ++ dvs) H1 D.rt E) : tRet (tCall sp dvs E tr) D σ H := h H (Ex.refl H) _ k
/-- a list of one new tuple -/
theorem ex_lst1 {xs : List V} (h : EvU te σ H xs) : EvX (tLst (tCons te tNil)) σ H fun ys H2 => ∃ t, ys = [.ref t] ∧ H2 t = some (.tup xs) := fun H1 e Q q =>
  h H1 e _ fun t H2 ht e2 h2 => ⟨sz_of (by show 1 ≤ 100000; decide), fun l hl => q l _ _ (fresh_back e2 hl) (e2.trans (Ex.new hl)) upd_same ⟨t, rfl, Ex.new hl _ _ h2⟩⟩
/-- xs.pop(), what stands there -/
theorem ev_popAny {l : Addr} {xs : List V} {y : V} {Q : VK} (ha : Ev ta σ H (.ref l)) (h : H l = some (.lst xs)) (hy : xs[xs.length - 1]? = some y) (k : ∀ H1, Ex H H1 → Q y (upd H1 l (.lst xs.dropLast))) : tBM0 K "list" rPop ta σ H Q :=
  ha H (Ex.refl H) _ fun H1 e1 => ⟨Or.inl ⟨rfl, xs, sq_of (e1 _ _ h)⟩, l, xs, y, rfl, rfl, e1 _ _ h, hy, k H1 e1⟩
theorem q_popG {l : Addr} {xs : List V} {y : V} (ha : Ev ta σ H (.ref l)) (h : H l = some (.lst xs)) (hy : xs[xs.length - 1]? = some y) (k : ∀ H1, Ex H H1 → g y σ (upd H1 l (.lst xs.dropLast)) fun σ' H' => tz D σ' H') : tSeq (tAsg (tBM0 K "list" rPop ta) g) tz D σ H := ev_popAny ha h hy k
theorem rv_isN : RV (fun x y H Q => y = .non ∧ Q (.bl (decide (x = .non))) H) x .non H (.bl (decide (x = .non))) := fun H1 _ _ q => ⟨rfl, q H1 (Ex.refl H1)⟩
theorem rv_notN : RV (fun x y H Q => y = .non ∧ Q (.bl (!decide (x = .non))) H) x .non H (.bl (!decide (x = .non))) := fun H1 _ _ q => ⟨rfl, q H1 (Ex.refl H1)⟩
/-! the table -/
def oV : Option Nat → V
  | none => .non
  | some n => .int (n : Int)
def key3 (f l d : Nat) : List Key := [.inl (f : Int), .inl (l : Int), .inl (d : Int)]
theorem key3_inj {f l d f' l' d' : Nat} (h : key3 f l d = key3 f' l' d') : f = f' ∧ l = l' ∧ d = d' := by
  unfold key3 at h
  injection h with h1 h
  injection h with h2 h
  injection h with h3 _
  injection h1 with h1
  injection h2 with h2
  injection h3 with h3
  omega
theorem ev_dget {p : Addr} {kvs : List (List Key × V)} {k : List Key} (hd : Ev td σ H (.ref p)) (hk : H p = some (.dT kvs)) (hu : EvU ty σ H (k.map kV)) (hv : valV kvs k = some v) : Ev (tDGet td ty) σ H v := fun H1 e Q q =>
  hd H1 e _ fun H2 e2 => hu H2 (e.trans e2) _ fun t H3 _ e3 h3 => ⟨p, v, rfl, by rw [← hv]; exact DGet.t (((e.trans e2).trans e3) _ _ hk) h3, q H3 (e2.trans e3)⟩
/-- d[k] = v -/
theorem s_dput {p : Addr} {kvs : List (List Key × V)} {k : List Key} {tv : TE} (hp : H p = some (.dT kvs)) (hv : Ev tv σ H v) (hd : Ev td σ H (.ref p)) (hu : EvU ty σ H (k.map kV)) (hz : kvs.length < 100000)
    (k' : ∀ H1, Ex H H1 → D.nx σ (upd H1 p (.dT (putK kvs k v)))) : sDPut td ty tv D σ H :=
  hv H (Ex.refl H) _ fun H1 e1 => hd H1 e1 _ fun H2 e2 => hu H2 (e1.trans e2) _ fun t H3 _ e3 h3 => ⟨p, _, rfl, DPut.t (((e1.trans e2).trans e3) _ _ hp) h3 (sz_lt hz), k' H3 ((e1.trans e2).trans e3)⟩
end
/-- all runs and depths up to d are told -/
def TabUp (kvs : List (List Key × V)) (ws : List Nat) (d : Nat) : Prop := ∀ f l e, f < l → l ≤ ws.length → e ≤ d → valV kvs (key3 f l e) = some (oV (val ws e f l))
theorem TabUp.less {kvs : List (List Key × V)} {ws : List Nat} {d e : Nat} (h : TabUp kvs ws d) (he : e ≤ d) : TabUp kvs ws e := fun f l c h1 h2 h3 => h f l c h1 h2 (Nat.le_trans h3 he)
/-- the least pair tells the best way and the first place of it -/
theorem best_pick {W : List (Option Nat)} {c i v : Nat} (h : W[i]? = some (some v)) (hm : ∀ (j u : Nat), W[j]? = some (some u) → ¬ lexI ((u : Int), ((c + j : Nat) : Int)) ((v : Int), ((c + i : Nat) : Int))) : bestOf W = some v ∧ W.findIdx (fun o => o == bestOf W) = i := by
  obtain ⟨b, hb, hle⟩ := bestOf_le (List.mem_of_getElem? h)
  obtain ⟨hx⟩ : True := trivial
  have hx : ∃ x ∈ W, (x == bestOf W) = true := ⟨some b, bestOf_mem hb, by rw [hb]; simp⟩
  have hlt := List.findIdx_lt_length_of_exists hx
  have hg := List.findIdx_getElem (w := hlt)
  have hgb : W[W.findIdx (fun o => o == bestOf W)] = some b := (eq_of_beq hg).trans hb
  have no := hm (W.findIdx (fun o => o == bestOf W)) b (by rw [List.getElem?_eq_getElem hlt, hgb])
  have le : W.findIdx (fun o => o == bestOf W) ≤ i := by
    refine Nat.le_of_not_lt fun z => ?_
    by_cases hv : v = b
    · have nf := List.not_of_lt_findIdx z
      rw [show W[i] = some v from (List.getElem?_eq_some_iff.mp h).2, hb, hv] at nf
      simp at nf
    · exact no (by unfold lexI; left; show (b : Int) < (v : Int); omega)
  have ev : v = b := by
    refine Nat.le_antisymm (Nat.le_of_not_lt fun z => no (by unfold lexI; left; show (b : Int) < (v : Int); omega)) hle
  refine ⟨by rw [hb, ev], Nat.le_antisymm le (Nat.le_of_not_lt fun z => no ?_)⟩
  unfold lexI
  right
  refine ⟨by show (b : Int) = (v : Int); omega, ?_⟩
  show ((c + W.findIdx (fun o => o == bestOf W) : Nat) : Int) < ((c + i : Nat) : Int)
  omega
end Sl

/-! ### lists whose items are told one by one -/
namespace Sl
open PySem L2 Evl
def AtAll {β : Type} (R : β → V → Hp → Prop) (zs : List V) (bs : List β) (H : Hp) : Prop := zs.length = bs.length ∧ ∀ (i : Nat) (b : β), bs[i]? = some b → ∃ z, zs[i]? = some z ∧ R b z H
section
variable {β : Type} {R : β → V → Hp → Prop} {zs : List V} {bs : List β} {H H' : Hp}
theorem AtAll.nil : AtAll R [] [] H := ⟨rfl, fun i b h => by simp at h⟩
theorem AtAll.mono (hm : ∀ b z, R b z H → R b z H') (h : AtAll R zs bs H) : AtAll R zs bs H' := ⟨h.1, fun i b hb => by
  obtain ⟨z, h1, h2⟩ := h.2 i b hb
  exact ⟨z, h1, hm _ _ h2⟩⟩
theorem AtAll.snoc {b : β} {z : V} (h : AtAll R zs bs H) (k : R b z H) : AtAll R (zs ++ [z]) (bs ++ [b]) H := by
  refine ⟨by rw [List.length_append, List.length_append, h.1]; rfl, fun i c hc => ?_⟩
  by_cases hi : i < bs.length
  · rw [List.getElem?_append_left hi] at hc
    rw [List.getElem?_append_left (by rw [h.1]; exact hi)]
    exact h.2 i c hc
  · rw [List.getElem?_append_right (by omega)] at hc
    have e : i - bs.length = 0 := by
      have := (List.getElem?_eq_some_iff.mp hc).1
      simp at this
      omega
    rw [e] at hc
    cases hc
    exact ⟨z, by rw [List.getElem?_append_right (by rw [h.1]; omega), h.1, e]; rfl, k⟩
theorem AtAll.pop {b : β} (h : AtAll R zs (bs ++ [b]) H) : ∃ z, zs[zs.length - 1]? = some z ∧ R b z H ∧ AtAll R zs.dropLast bs H := by
  have hl : zs.length = bs.length + 1 := by rw [h.1, List.length_append]; rfl
  obtain ⟨z, h1, h2⟩ := h.2 bs.length b (by rw [List.getElem?_append_right (Nat.le_refl _), Nat.sub_self]; rfl)
  refine ⟨z, by rw [hl]; exact h1, h2, by rw [List.length_dropLast, hl]; rfl, fun i c hc => ?_⟩
  have hi := (List.getElem?_eq_some_iff.mp hc).1
  obtain ⟨y, k1, k2⟩ := h.2 i c (by rw [List.getElem?_append_left hi]; exact hc)
  exact ⟨y, by rw [List.getElem?_dropLast, if_pos (by omega)]; exact k1, k2⟩
end
/-! runs still to be parted -/
abbrev Rn := Nat × Nat × Nat
def RnIs (r : Rn) (z : V) (H : Hp) : Prop := TupIs [.int (r.1 : Int), .int (r.2.1 : Int), .int (r.2.2 : Int)] z H
def GoodR (ws : List Nat) (b : Nat) (r : Rn) : Prop := r.1 < r.2.1 ∧ r.2.1 ≤ ws.length ∧ r.2.2 ≤ b ∧ ∃ v, val ws r.2.2 r.1 r.2.1 = some v
def remO (ws : List Nat) (k : Nat) (r : Rn) : Nat := if r.1 ≤ k ∧ k < r.2.1 then (cut ws r.2.2 r.1 r.2.1).getD (k - r.1) 0 else 0
def remR (ws : List Nat) (rs : List Rn) (k : Nat) : Nat := (rs.map (remO ws k)).sum
def sizR (rs : List Rn) : Nat := (rs.map fun r => 2 * (r.2.1 - r.1) - 1).sum
theorem remR_app (ws : List Nat) (a b : List Rn) (k : Nat) : remR ws (a ++ b) k = remR ws a k + remR ws b k := by
  unfold remR
  rw [List.map_append, List.sum_append]
theorem sizR_app (a b : List Rn) : sizR (a ++ b) = sizR a + sizR b := by
  unfold sizR
  rw [List.map_append, List.sum_append]
theorem getD_app {a b : List Nat} {i : Nat} : (a ++ b).getD i 0 = if i < a.length then a.getD i 0 else b.getD (i - a.length) 0 := by
  rw [List.getD_eq_getElem?_getD]
  split
  · rename_i h
    rw [List.getElem?_append_left h, List.getD_eq_getElem?_getD]
  · rename_i h
    rw [List.getElem?_append_right (by omega), List.getD_eq_getElem?_getD]
theorem rem_one (ws : List Nat) {f l d : Nat} (h : f < l) (q : l ≤ f + 1) (k : Nat) : remO ws k (f, l, d) = 0 := by
  have ec : cut ws d f l = [0] := by
    have e : l - f = 1 := by omega
    cases d with
    | zero => show List.replicate (l - f) 0 = [0]; rw [e]; rfl
    | succ d => show (if l ≤ f + 1 then List.replicate (l - f) 0 else _) = [0]; rw [if_pos q, e]; rfl
  unfold remO
  split
  · rename_i c
    show (cut ws d f l).getD (k - f) 0 = 0
    rw [ec]
    have c' : f ≤ k ∧ k < l := c
    rw [show k - f = 0 by omega]
    rfl
  · rfl
theorem rem_step {ws : List Nat} {f l e v : Nat} (q : ¬ l ≤ f + 1) (hv : val ws (e + 1) f l = some v) (k : Nat) :
    remO ws k (f, l, e + 1) = (if f ≤ k ∧ k < l then 1 else 0) + (remO ws k (f, mid ws e f l, e) + remO ws k (mid ws e f l, l, e)) := by
  obtain ⟨x, y, m1, m2, vx, vy, _⟩ := mid_of q hv
  have la := (cut_all ws e f (mid ws e f l) x m1 vx).1
  have ec : cut ws (e + 1) f l = (cut ws e f (mid ws e f l) ++ cut ws e (mid ws e f l) l).map (· + 1) := by
    show (if l ≤ f + 1 then _ else _) = _
    rw [if_neg q]
  have lb := (cut_all ws e (mid ws e f l) l y m2 vy).1
  generalize mid ws e f l = m at *
  unfold remO
  show (if f ≤ k ∧ k < l then (cut ws (e + 1) f l).getD (k - f) 0 else 0) = (if f ≤ k ∧ k < l then 1 else 0) + ((if f ≤ k ∧ k < m then (cut ws e f m).getD (k - f) 0 else 0) + (if m ≤ k ∧ k < l then (cut ws e m l).getD (k - m) 0 else 0))
  by_cases c : f ≤ k ∧ k < l
  · rw [if_pos c, if_pos c, ec]
    have eg : ((cut ws e f m ++ cut ws e m l).map (· + 1)).getD (k - f) 0 = (cut ws e f m ++ cut ws e m l).getD (k - f) 0 + 1 := by
      have hk : k - f < (cut ws e f m ++ cut ws e m l).length := by rw [List.length_append]; omega
      rw [List.getD_eq_getElem?_getD, List.getElem?_map, List.getD_eq_getElem?_getD, List.getElem?_eq_getElem hk]
      rfl
    rw [eg, getD_app, la]
    by_cases c2 : k < m
    · rw [if_pos (by omega), if_pos (by omega), if_neg (by omega)]
      omega
    · rw [if_neg (by omega), if_neg (by omega), if_pos (by omega), show k - f - (m - f) = k - m by omega]
      omega
  · rw [if_neg c, if_neg c, if_neg (by omega), if_neg (by omega)]
theorem len_siz {ws : List Nat} {b : Nat} : ∀ {rs : List Rn}, (∀ r ∈ rs, GoodR ws b r) → rs.length ≤ sizR rs
  | [], _ => Nat.le_refl _
  | r :: rs, h => by
    have ih := len_siz (rs := rs) fun x hx => h x (List.mem_cons_of_mem _ hx)
    have := (h r List.mem_cons_self).1
    show rs.length + 1 ≤ (2 * (r.2.1 - r.1) - 1) + sizR rs
    omega
end Sl

/-! ### sorted(t) of a tuple of whole numbers -/
namespace Sl
open PySem PySem.Spec PyProof.Rows L2 Evl
section
variable {prog : Program} {w : World} {A : Around} {E : Value → Shared → Prop} {s : Shared}
theorem collect_tup {t : Addr} {vs : List Value} {Q : List Value → Shared → Prop} (ht : IsTup s.heap t vs.toArray) (hz : vs.length ≤ sizeLine) (h : Q vs { s with heap := (s.heap.push (seqObj "list" #[] 0)).update s.heap.objs.size (Obj.mapSeq (· ++ vs.toArray)) }) : wpAny (model prog w) A (collect (.ref t)) Q E s := by
  obtain ⟨o, ho, hc, n, hd⟩ := id ht
  have ho2 : (s.heap.push (seqObj "list" #[] 0)).get? t = some o := Heap.get?_push_of_some _ ho
  have h0 : (s.heap.push (seqObj "list" #[] 0)).get? s.heap.objs.size = some (seqObj "list" #[] 0) := Heap.get?_push_size _ rfl
  unfold collect; refine wpAny_bind (wpAny_runValue (codeAny_builtin entry_proto_collect' ?_))
  show wpAny _ _ (do again (.builtin "list.__iadd__" ⟨[← newList [], .ref t], []⟩)) _ _ s
  refine wpAny_bind (wpAny_newList (wpAny_pure ⟨Code.quiet_builtin _ (by decide +kernel), codeAny_builtin entry_list_iadd' ?_⟩)); show wpAny _ _ (Builtin.List.listExtendWith (.ref s.heap.objs.size) (.ref t) (.ref s.heap.objs.size)) _ _ { s with heap := s.heap.push (seqObj "list" #[] 0) }
  unfold Builtin.List.listExtendWith; refine wpAny_bind (wpAny_typeOf (T := "tuple") ⟨o, ho2, hc⟩ ?_)
  rw [if_pos (show (Builtin.List.listSameRef (.ref s.heap.objs.size) (.ref t) || Value.type "tuple" == Value.type "list" || Value.type "tuple" == Value.type "tuple") = true by rw [show (Value.type "tuple" == Value.type "tuple") = true from rfl, Bool.or_true])]
  refine wpAny_bind (listItems_at ho2 hd ?_); refine wpAny_bind (listItems_at (xs := #[]) (n := 0) h0 rfl ?_)
  rw [if_neg (by simp)]; refine wpAny_bind (listUpdate_at (xs := #[]) (n := 0) h0 rfl ?_ (Nat.zero_le _) (by show (#[] ++ vs.toArray).size ≤ sizeLine + 1; simp only [Array.size_append, List.size_toArray, List.length_nil]; omega))
  refine wpAny_pure ?_; show wpAny (model prog w) A (do
      let ob ← load s.heap.objs.size
      match ob.data with
      | .seq xs _ => pure xs.toList
      | _ => unsupported "internal:collect") Q E { s with heap := (s.heap.push (seqObj "list" #[] 0)).update s.heap.objs.size (Obj.mapSeq (· ++ vs.toArray)) }
  refine wpAny_bind (wpAny_load (get?_update_seq h0 _) ?_); show wpAny _ _ (pure ((#[] : Array Value) ++ vs.toArray).toList) Q E _
  rw [show ((#[] : Array Value) ++ vs.toArray).toList = vs by simp]; exact wpAny_pure h
theorem sorted_tup {t : Addr} {vs : List Value} {ltv : Value → Value → Bool} {Q : Value → Shared → Prop} (O : SrtO.Swo ltv) (ht : IsTup s.heap t vs.toArray) (hz : vs.length ≤ sizeLine)
    (hS : 2 ≤ vs.length → ∀ (h₁ : Heap) (a : Addr), SrtO.SortableO prog w A.in1.in1 { s with heap := h₁ } a vs ltv)
    (h : ∀ out : List Value, SrtO.Srtd ltv out → SrtO.Stb ltv out vs → Q (.ref (s.heap.objs.size + 1)) { s with heap := sortedAll s.heap vs out.toArray }) :
    wpAny (model prog w) A (call (.builtin "sorted") [.ref t]) Q E s := by
  have hsz : ((s.heap.push (seqObj "list" #[] 0)).update s.heap.objs.size (Obj.mapSeq (· ++ vs.toArray))).objs.size = s.heap.objs.size + 1 := by rw [Heap.size_update, size_push']
  have hoL : (((s.heap.push (seqObj "list" #[] 0)).update s.heap.objs.size (Obj.mapSeq (· ++ vs.toArray))).push (seqObj "list" vs.toArray 0)).get? (s.heap.objs.size + 1) = some (seqObj "list" vs.toArray 0) := by
    rw [← hsz]
    exact Heap.get?_push_size _ rfl
  refine Calls.call_function_entry kind_sorted plain_sorted entry_sorted (args_sorted1 _) ?_; unfold Builtin.«sorted»
  refine wpAny_bind (m := checkCount "sorted" 1 1 _) (wpAny_pure ?_); refine wpAny_bind (collect_tup ht hz ?_); refine wpAny_bind (wpAny_newList ?_ hz)
  show wpAny _ _ _ _ _ { s with heap := ((s.heap.push (seqObj "list" #[] 0)).update s.heap.objs.size (Obj.mapSeq (· ++ vs.toArray))).push (seqObj "list" vs.toArray 0) }; rw [hsz]
  refine wpAny_bind (wpAny_holding (wpAny_call_entry slot_list_sort ⟨_, hoL, rfl⟩ entry_list_sort (SrtO.list_sort_ord O hoL hz (fun h2 => hS h2 _ _) fun out hs hb => ⟨_, rfl, ?_⟩) (args_list_sort _))); exact wpAny_pure ⟨_, rfl, h out hs hb⟩
end
def rSortedIT (K : PySem.W.Frag) : List V → Hp → VK → Prop := fun vs H Q => ∃ (a : Addr) (ns : List Int), vs = [V.ref a] ∧ SqT K H a (ns.map V.int) ∧
  ∀ (ns' : List Int) (p : Addr), ns'.Perm ns → ns'.Pairwise (· ≤ ·) → H p = none → Q (.ref p) (upd H p (.lst (ns'.map V.int)))
theorem cr_sortedIT {X : Cx} : CallR X (.builtin "sorted") (rSortedIT X.K) := by
  intro pins s σ H vs us Q I r h
  obtain ⟨a, ns, rfl, hs, q⟩ := h
  obtain ⟨its, rv, hl, hz⟩ := I.tuple hs
  rw [Vals.ref1 r]
  have hi := rv.ints
  refine sorted_tup SrtO.swo_int hl (by rw [← rv.length]; exact hz) (fun h2 h₁ a' => SrtO.ints_sortable hi h2) fun out h1 h2 => ?_
  obtain ⟨k1, k2, k3⟩ := SrtO.ints_out hi h1 h2
  obtain ⟨ep, he'⟩ := PyProof.Rows.sortedAll_at s.heap its out.toArray
  have hlen : ((out.map SrtO.iv).map V.int).length ≤ sizeLine := by rw [List.length_map, k2.length_eq]; rw [List.length_map] at hz; exact hz
  refine ⟨.ref _, upd H (s.heap.objs.size + 1) (.lst ((out.map SrtO.iv).map V.int)), ?_, rfl, q _ _ k2 k3 (I.hok.fresh (Nat.le_succ _))⟩
  exact I.laid (t' := s.toks) (fun _ _ => PyProof.Rows.sortedAll_old) (Nat.le_succ _) ⟨hlen, out, ep, vals_of_ints k1, he'⟩
section
variable {K : PySem.W.Frag} {σ : L2.St} {H : Hp} {ta : TE}
/-- sorted of a new tuple: the numbers in order -/
theorem el_sortedIT {a : Addr} {ns ms : List Int} (h : Ev ta σ H (.ref a)) (hS : SqT K H a (ns.map V.int)) (hp : ms.Perm ns) (hm : ms.Pairwise (· ≤ ·)) : EvL (tCB (rSortedIT K) (tCons ta tNil)) σ H (ms.map V.int) := fun H1 e Q q =>
  h H1 e _ fun H2 e2 => ⟨a, ns, rfl, ex_t (e.trans e2) hS, fun ns' p k1 k2 hn => by
    have : ns' = ms := List.Perm.eq_of_pairwise (fun a b _ _ h1 h2 => Int.le_antisymm h1 h2) k2 hm (k1.trans hp.symm)
    rw [this]
    exact q p _ (fresh_back e2 hn) (e2.trans (Ex.new hn)) upd_same⟩
end
end Sl

/-! ### sorted(xs, key=lambda a: a[0]) -/
namespace Sl
open PySem PySem.Spec PyProof.Rows L2 Evl LamX
/-- nothing but a table may stand there -/
def NewN (H : Hp) (p : Addr) : Prop := ∀ o, H p = some o → ∃ ps, o = .tbl ps
theorem NewN.of {H : Hp} {p : Addr} (h : H p = none) : NewN H p := fun o e => by rw [h] at e; cases e
theorem NewN.back {H H' : Hp} {p : Addr} (x : ExtN H H') (h : NewN H' p) : NewN H p := fun o e => by
  cases o with
  | tbl ps => exact ⟨ps, rfl⟩
  | _ => exact h _ (x _ _ e fun ps z => by cases z)
theorem NewN.ne {H : Hp} {p q : Addr} {o : HO} (h : NewN H p) (e : H q = some o) (n : ∀ ps, o ≠ .tbl ps) : q ≠ p := fun z => by
  rw [z] at e
  obtain ⟨ps, hp⟩ := h o e
  exact n ps hp
theorem ExtN.mut {H H' : Hp} {p : Addr} {o : HO} (x : ExtN H H') (h : NewN H p) : ExtN H (upd H' p o) := fun b u e n => by
  rw [upd_ne (h.ne e n)]
  exact x b u e n
theorem xl {H H' : Hp} {a : Addr} {xs : List V} (x : ExtN H H') (h : H a = some (.lst xs)) : H' a = some (.lst xs) := x _ _ h fun _ z => by cases z
theorem xt {H H' : Hp} {a : Addr} {xs : List V} (x : ExtN H H') (h : H a = some (.tup xs)) : H' a = some (.tup xs) := x _ _ h fun _ z => by cases z
theorem xf {H H' : Hp} {a : Addr} {o : Obj} {u : HO} (x : ExtN H H') (h : H a = some (.frz o u)) : H' a = some (.frz o u) := x _ _ h fun _ z => by cases z
theorem xL {K : PySem.W.Frag} {H H' : Hp} {a : Addr} {xs : List V} (x : ExtN H H') (h : SqL K H a xs) : SqL K H' a xs := by
  rcases h with (h | ⟨o, h⟩) | h
  · exact .inl (.inl (xl x h))
  · exact .inl (.inr ⟨o, xf x h⟩)
  · exact .inr h
theorem xT {K : PySem.W.Frag} {H H' : Hp} {a : Addr} {xs : List V} (x : ExtN H H') (h : SqT K H a xs) : SqT K H' a xs := by
  rcases h with (h | ⟨o, h⟩) | h
  · exact .inl (.inl (xt x h))
  · exact .inl (.inr ⟨o, xf x h⟩)
  · exact .inr h
theorem ExN {H H' : Hp} (e : Ex H H') : ExtN H H' := ExtN.of e
theorem tab_ex {H H' : Hp} {P : Addr} {q : Str} (t : TabS H P q) (e : Ex H H') : TabS H' P q := t.ext e
theorem tab_upd {H : Hp} {P b : Addr} {q : Str} {xs : List V} {o : HO} (hb : H b = some (.lst xs)) (t : TabS H P q) : TabS (upd H b o) P q := by
  obtain ⟨ps, h1, h2, h3⟩ := t
  refine ⟨ps, by rw [upd_ne fun z => by rw [z, hb] at h1; cases h1]; exact h1, h2, fun pos cv hc => ?_⟩
  obtain ⟨c, e1, e2⟩ := h3 pos cv hc
  have ne : c ≠ b := fun z => by
    rw [z, hb] at e2
    unfold CodeO at e2
    cases e2
  exact ⟨c, e1, by rw [upd_ne ne]; exact e2⟩
/-- the whole number that leads a tuple -/
def leadOf (H : Hp) : V → Int
  | .ref t => match H t with
    | some (.tup (.int i :: _)) => i
    | _ => 0
  | _ => 0
theorem leadOf_ref {H : Hp} {t : Addr} {i : Int} {r : List V} (h : H t = some (.tup (.int i :: r))) : leadOf H (.ref t) = i := by
  show (match H t with | some (.tup (.int i :: _)) => i | _ => 0) = i
  rw [h]
def tSortKey (P : Addr) (q : Str) (K : PySem.W.Frag) (ta : TA) : TE := fun σ H Q => ta σ H fun vs H1 => TabS H1 P q ∧ ∃ (a : Addr) (ys : List V), vs = [.ref a] ∧ SqL K H1 a ys ∧ ys.length ≤ 1000 ∧ (∀ y ∈ ys, ∃ (t : Addr) (i : Int) (r : List V), y = .ref t ∧ H1 t = some (.tup (.int i :: r))) ∧
  ∀ p H2, NewN H1 p → ExtN H1 H2 → TabS H2 P q → H2 p = some (.lst (ys.mergeSort fun x y => decide (leadOf H1 x ≤ leadOf H1 y))) → Q (.ref p) H2
theorem each_vals {xs : List V} {us : List Value} (r : Vals xs us) : PySem.W.EachIs (fun v y => RelV y v) us xs := by
  induction r with
  | nil => exact .nil
  | cons h _ ih => exact .cons h ih
theorem vals_each {us : List Value} {xs : List V} (r : PySem.W.EachIs (fun v y => RelV y v) us xs) : Vals xs us := by
  induction r with
  | nil => exact .nil
  | cons h _ ih => exact .cons h ih
section
variable {X : Cx} {e : Expr} {ta : TA} {c P : Addr} {k j : Nat} {a : Str} {params : Arguments} {scope : Scope} {p p1 p2 p3 lpos kpos pos : Pos}
theorem pe_sortKey (hg : Gl X "sorted") (hm : X.mg "sorted" = none) (ha : PA X [e] ta) (TB : TabB X.base X.mg c P) (hcode : X.env.code = .ref c) (hr : Room k X.A) (hdef : defaultsOf params X.env = ([], []))
    (hbind : ∀ (q : Str) (cl : List (Str × Addr)) (pm cv ctv v : Value), bindArgs (PySem.W.kla_fn "<lambda>" q params (.Subscript (.Name a p1) (.Constant (.int 0) j p2) p3) scope cl pm cv ctv) ⟨[v], []⟩ = pure [(a, v)])
    (hk : scope.kind = .function) (hco : scope.isCoroutine = false) (hge : scope.isGenerator = false) (hn : ∀ y ∈ scope.names, y.2 ≠ .cell ∧ y.2 ≠ .free) (hl : scope.names.lookup a = some .local)
    (hd : (a == ("__debug__" : Str)) = false := by decide) (he : backTo pos (starEach [e] X.env) = (false, eval e X.env) :: backTo pos (starEach [] X.env) := by rfl) (hpl : (backTo pos (starEach [e] X.env)).any (·.1) = false := by rfl) :
    PE X (.Call (.Name "sorted" p) [e] [⟨some "key", .Lambda params (.Subscript (.Name a p1) (.Constant (.int 0) j p2) p3) scope lpos, kpos⟩] pos) (tSortKey P (X.env.qual ++ "<lambda>") X.K ta) := by
  refine ⟨fun pins s σ H Q I h => ?_⟩
  refine wpAny_Call_Name_kw (ld_blt I hg hm boot_sorted ?_ (by decide) (by decide))
  refine PyProof.Rows.callWith_kw (thn (ha.run pos pins s σ H _ I h) fun us s1 ⟨vs, H1, I1, r1, hT, b, ys, ev, hS, hz, hy, q1⟩ => ?_) he hpl (by rfl) (by rfl)
  subst ev
  rw [Vals.ref1 r1]
  show wpAny _ _ (evalAll ((do let v ← eval (.Lambda params (.Subscript (.Name a p1) (.Constant (.int 0) j p2) p3) scope lpos) X.env; standAt pos; pure v) :: [])) _ _ s1
  have hfree : ∀ y ∈ scope.names, y.2 = .free → ∃ c, X.env.cells.lookup y.1 = some c := fun y hy e => absurd e (hn y hy).2
  refine wpAny_evalAll_cons (wpAny_bind (lam_make2 (T := [(P, X.env.qual ++ "<lambda>")]) I1 TB hcode (List.mem_singleton.mpr rfl) (fun p hp _ => by rw [List.mem_singleton.mp hp]) (fun p hp => by rw [List.mem_singleton.mp hp]; exact hT) hdef hfree fun f c' pm ctv H2 s2 I2 eN T2 hf hfn hfr hcoo => wpAny_bind (wpAny_standAt (wpAny_pure (wpAny_evalAll_nil ?_)))))
  have hT2 : TabS H2 P (X.env.qual ++ "<lambda>") := T2 _ (List.mem_singleton.mpr rfl)
  obtain ⟨its, rv, hli, hlz⟩ := I2.list (xL eN hS)
  have hy2 : ∀ y ∈ ys, ∃ (t : Addr) (i : Int) (r : List V), y = .ref t ∧ H2 t = some (.tup (.int i :: r)) ∧ leadOf H1 y = i := fun y hm => by
    obtain ⟨t, i, r, rfl, ht⟩ := hy y hm
    exact ⟨t, i, r, rfl, xt eN ht, leadOf_ref ht⟩
  show wpAny (model X.prog X.w) X.A (call (.builtin "sorted") [.ref b] [(Str.ofString "key", .ref f)]) (EP X pins σ Q) X.xe s2
  refine PySem.W.sorted_key_data (b := false) (vs := its) (bs := ys) (R := fun v y => RelV y v) (fun y => .int (leadOf H1 y)) hli.isList (each_vals rv) (fun d hd d' hd' => ?_) (.inr fun d hd => ?_) (by rw [sizeLine_eq]; omega) (fun y _ => ?_) (ksk_s1 _ _) (fun x => ksk_l1 _ _) (fun x => ksk_t1 _ _) (fun v y hR hm h tk kp => ?_) fun out n h' tk kp fr go ol eo => ?_
  · obtain ⟨y, _, rfl⟩ := List.mem_map.mp hd
    obtain ⟨y', _, rfl⟩ := List.mem_map.mp hd'
    rfl
  · obtain ⟨y, _, rfl⟩ := List.mem_map.mp hd
    exact ⟨(fun z => by cases z), fun xs z => by cases z⟩
  · have := hr.units
    show X.A.units + 2 + 0 < cLine
    omega
  · -- the key of one
    obtain ⟨t, i, r, rfl, ht, hlead⟩ := hy2 y hm
    cases hR
    obtain ⟨⟨oc, vs, tk0, hoc, hdc, hvc⟩, _, _⟩ := I2.hok c' _ hcoo
    obtain ⟨its2, rv2, hti, _⟩ := I2.tuple (st_of (K := X.K) ht)
    refine wpAny_call ?_
    refine PySem.W.kla_callFunE (A := X.A.in1.in1) hr.depth (kp _ _ hf) rfl hco hge rfl ⟨c', oc, vs, tk0, rfl, kp _ _ hoc, hdc, hvc⟩ ?_
    rw [hbind]
    refine wpAny_pure (wpAny_newFunctionEnv (fun y hy => (hn y hy).1) (fun y hy => ?_) (fun h₁ hns hsb => ⟨(I2.nolimit.keeps kp).fresh _ hsb, ?_⟩) hk)
    · rw [List.mem_singleton.mp hy]
      exact hl
    have kp1 : ∀ b o, h.get? b = some o → h₁.get? b = some o := fun b o e => hsb.extBut b o (Nat.ne_of_lt (Heap.lt_size e)) (Heap.get?_push_of_some _ e)
    refine PySem.W.kla_codeExpr ?_
    refine Subscript_ (wpAny_Name (wpAny_loadName_local (v := .ref t) hk hl hns (by simp) (wpAny_Constant_int ?_)) hd)
    obtain ⟨w0, ws, ew, rw0, _⟩ : ∃ w0 ws, its2 = w0 :: ws ∧ RelV (.int i) w0 ∧ True := by
      cases rv2 with
      | cons h1 h2 => exact ⟨_, _, rfl, h1, trivial⟩
    subst ew
    obtain ⟨tk1, rfl⟩ := rw0
    obtain ⟨ot, h1, h2, h3⟩ := hti
    have hti' : IsTup h₁ t (Value.int i tk1 :: ws).toArray := ⟨ot, kp1 _ _ (kp _ _ h1), h2, h3⟩
    refine subscriptTail_builtinR (x := .int i tk1) ⟨ot, kp1 _ _ (kp _ _ h1), h2⟩ slot_tuple_getitem.lookup (getItem_tuple (j := 0) hti' (by decide) (by decide) (by simp [seqIndex?]) (by simp) ⟨rfl, ?_⟩) (by rfl)
    rw [hlead]
    exact ⟨h₁, _, rfl, kp1, Reads.int i tk1⟩
  · rw [PySem.W.dataLe_int] at eo
    have hv := vals_each eo
    have hf2 : H2 (s2.heap.objs.size + 1) = none := I2.hok.fresh (Nat.le_succ _)
    refine ⟨.ref (s2.heap.objs.size + 1), upd H2 (s2.heap.objs.size + 1) (.lst (ys.mergeSort fun x y => decide (leadOf H1 x ≤ leadOf H1 y))), I2.laid (t' := tk) kp (Nat.le_succ _) ⟨?_, out, n, hv, go⟩, rfl, q1 _ _ ((NewN.of hf2).back eN) (eN.trans (ExN (Ex.new hf2))) (tab_ex hT2 (Ex.new hf2)) upd_same⟩
    rw [List.length_mergeSort]
    exact Nat.le_trans hz (by decide)
end
end Sl

/-! ### rows sorted by a key, slices by two, tuples joined -/
namespace Sl
open PySem PySem.Spec PyProof.Rows L2 Evl
/-! put one by one is the stable sort -/
def leP (x y : Pk) : Bool := decide (x.1 ≤ y.1)
def insF (a : Pk) : List Pk → List Pk
  | [] => [a]
  | x :: r => if a.1 ≤ x.1 then a :: x :: r else x :: insF a r
theorem put_insF (a p : Pk) : ∀ r : List Pk, put (insF a r) p = insF a (put r p)
  | [] => by
    show put [a] p = insF a [p]
    unfold put insF
    by_cases h : a.1 ≤ p.1
    · rw [if_pos h, if_pos h]; rfl
    · rw [if_neg h, if_neg h]; rfl
  | x :: r => by
    have ih := put_insF a p r
    show put (if a.1 ≤ x.1 then a :: x :: r else x :: insF a r) p = insF a (if x.1 ≤ p.1 then x :: put r p else p :: x :: r)
    by_cases h : a.1 ≤ x.1
    · rw [if_pos h]
      show (if a.1 ≤ p.1 then a :: (if x.1 ≤ p.1 then x :: put r p else p :: x :: r) else p :: a :: x :: r) = _
      by_cases k : x.1 ≤ p.1
      · rw [if_pos k, if_pos (by omega)]
        show _ = if a.1 ≤ x.1 then a :: x :: put r p else _
        rw [if_pos h]
      · rw [if_neg k]
        show _ = if a.1 ≤ p.1 then a :: p :: x :: r else p :: (if a.1 ≤ x.1 then a :: x :: r else _)
        rw [if_pos h]
    · rw [if_neg h]
      show (if x.1 ≤ p.1 then x :: put (insF a r) p else p :: x :: insF a r) = _
      by_cases k : x.1 ≤ p.1
      · rw [if_pos k, if_pos k, ih]
        show _ = if a.1 ≤ x.1 then _ else x :: insF a (put r p)
        rw [if_neg h]
      · rw [if_neg k, if_neg k]
        show _ = if a.1 ≤ p.1 then _ else p :: (if a.1 ≤ x.1 then _ else x :: insF a r)
        rw [if_neg (by omega), if_neg h]
theorem puts_insF (a : Pk) : ∀ (ps r : List Pk), ps.foldl put (insF a r) = insF a (ps.foldl put r)
  | [], _ => rfl
  | p :: ps, r => by
    show ps.foldl put (put (insF a r) p) = _
    rw [put_insF, puts_insF a ps]
    rfl
theorem insF_split (a : Pk) : ∀ (l₁ l₂ : List Pk), (∀ b ∈ l₁, b.1 < a.1) → (∀ b ∈ l₂, a.1 ≤ b.1) → insF a (l₁ ++ l₂) = l₁ ++ a :: l₂
  | [], [], _, _ => rfl
  | [], y :: r, _, h => by
    show (if a.1 ≤ y.1 then a :: y :: r else _) = _
    rw [if_pos (h y List.mem_cons_self)]
    rfl
  | x :: l, l₂, h1, h2 => by
    show (if a.1 ≤ x.1 then _ else x :: insF a (l ++ l₂)) = _
    rw [if_neg (by have := h1 x List.mem_cons_self; omega), insF_split a l l₂ (fun b hb => h1 b (List.mem_cons_of_mem _ hb)) h2]
    rfl
theorem leP_tr (a b c : Pk) (h : leP a b = true) (k : leP b c = true) : leP a c = true := decide_eq_true (Nat.le_trans (of_decide_eq_true h) (of_decide_eq_true k))
theorem leP_to (a b : Pk) : (leP a b || leP b a) = true := by
  unfold leP
  rcases Nat.le_total a.1 b.1 with h | h
  · rw [decide_eq_true h]; rfl
  · rw [decide_eq_true h, Bool.or_true]
theorem puts_sort : ∀ l : List Pk, l.foldl put [] = l.mergeSort leP
  | [] => by simp
  | a :: l => by
    obtain ⟨l₁, l₂, e1, e2, h⟩ := List.mergeSort_cons leP_tr leP_to a l
    have ih := puts_sort l
    show l.foldl put (insF a []) = _
    rw [puts_insF, ih, e1, e2]
    have srt := List.pairwise_mergeSort leP_tr leP_to (a :: l)
    rw [e1] at srt
    have s2 := (List.pairwise_append.mp srt).2.1
    refine insF_split a l₁ l₂ (fun b hb => ?_) fun b hb => of_decide_eq_true ((List.pairwise_cons.mp s2).1 b hb)
    have := h b hb
    unfold leP at this
    simpa using this
/-! counted signs are the sorted ones -/
theorem reps_lt (f : Nat → Nat) : ∀ N : Nat, ∀ x ∈ (List.range N).flatMap (fun i => List.replicate (f i) i), x < N := fun N x hx => by
  obtain ⟨i, hi, hx⟩ := List.mem_flatMap.mp hx
  rw [List.eq_of_mem_replicate hx]
  exact List.mem_range.mp hi
theorem reps_srt (f : Nat → Nat) : ∀ N : Nat, ((List.range N).flatMap fun i => List.replicate (f i) i).Pairwise (· ≤ ·)
  | 0 => List.Pairwise.nil
  | N + 1 => by
    rw [List.range_succ, List.flatMap_append]
    refine List.pairwise_append.mpr ⟨reps_srt f N, ?_, fun a ha b hb => ?_⟩
    · simp only [List.flatMap_cons, List.flatMap_nil, List.append_nil]
      exact List.pairwise_replicate.mpr (.inr (Nat.le_refl _))
    · have := reps_lt f N a ha
      simp only [List.flatMap_cons, List.flatMap_nil, List.append_nil] at hb
      rw [List.eq_of_mem_replicate hb]
      omega
theorem mixed_srt (a b : List Nat) : (mixed a b).Pairwise (· ≤ ·) := reps_srt _ 24
/-! xs[::2], xs[1::2] -/
def pick2 {α : Type} (a : Nat) (xs : List α) : List α := (List.range ((xs.length - a + 1) / 2)).filterMap fun k => xs[a + 2 * k]?
theorem pick2_len {α : Type} (a : Nat) (xs : List α) : (pick2 a xs).length = (xs.length - a + 1) / 2 := by
  unfold pick2
  rw [List.length_filterMap_eq_countP, List.countP_eq_length.mpr, List.length_range]
  intro k hk
  have := List.mem_range.mp hk
  rw [List.getElem?_eq_getElem (by omega)]
  rfl
theorem pick2_at {α : Type} (a : Nat) (xs : List α) {k : Nat} (h : k < (xs.length - a + 1) / 2) : (pick2 a xs)[k]? = xs[a + 2 * k]? := by
  have gen : ∀ (n : Nat), n ≤ (xs.length - a + 1) / 2 → (List.range n).filterMap (fun k => xs[a + 2 * k]?) = (List.range n).map fun k => xs.getD (a + 2 * k) (xs[a + 2 * 0]'(by omega)) := by
    intro n
    induction n with
    | zero => intro _; rfl
    | succ n ih =>
      intro hn
      rw [List.range_succ, List.filterMap_append, List.map_append, ih (by omega), List.filterMap_cons, List.getElem?_eq_getElem (by omega)]
      simp only [List.filterMap_nil, List.map_cons, List.map_nil]
      rw [List.getD_eq_getElem?_getD, List.getElem?_eq_getElem (by omega)]
      rfl
  unfold pick2
  rw [gen _ (Nat.le_refl _), List.getElem?_map, List.getElem?_range h]
  show some (xs.getD (a + 2 * k) _) = _
  rw [List.getD_eq_getElem?_getD, List.getElem?_eq_getElem (by omega)]
  rfl
theorem vals_of_at : ∀ {xs : List V} {us : List Value}, xs.length = us.length → (∀ (i : Nat) (x : V) (u : Value), xs[i]? = some x → us[i]? = some u → RelV x u) → Vals xs us
  | [], [], _, _ => .nil
  | [], _ :: _, h, _ => by simp at h
  | _ :: _, [], h, _ => by simp at h
  | x :: xs, u :: us, h, r => .cons (r 0 x u rfl rfl) (vals_of_at (by simpa using h) fun i x u h1 h2 => r (i + 1) x u h1 h2)
theorem pick2_vals {a : Nat} {xs : List V} {us : List Value} (r : Vals xs us) : Vals (pick2 a xs) (pick2 a us) := by
  have hl := r.length
  refine vals_of_at (by rw [pick2_len, pick2_len, hl]) fun i x u h1 h2 => ?_
  have hi : i < (xs.length - a + 1) / 2 := by
    have := (List.getElem?_eq_some_iff.mp h1).1
    rw [pick2_len] at this
    exact this
  rw [pick2_at a xs hi] at h1
  rw [pick2_at a us (by rw [← hl]; exact hi)] at h2
  obtain ⟨y, e, k⟩ := vals_at r h2
  rw [h1] at e
  cases e
  exact k
def lo2 : Nat → Option Int
  | 0 => none
  | n + 1 => some ((n + 1 : Nat) : Int)
theorem slicePick_two (us : List Value) {a : Nat} (ha : a ≤ 1) : slicePick us.toArray (lo2 a) none (some 2) = (pick2 a us).toArray := by
  have hb : sliceBounds (lo2 a) none (some 2) us.toArray.size = (((min a us.length : Nat) : Int), (us.length : Int), 2) := by
    rw [List.size_toArray]
    have c : a = 0 ∨ a = 1 := by omega
    rcases c with rfl | rfl
    · show ((0 : Int), _, _) = _
      rw [Nat.zero_min]
      rfl
    · show (max 0 (min (if (1 : Int) < 0 then _ else 1) (us.length : Int)), _, _) = _
      rw [if_neg (by decide)]
      have : max 0 (min (1 : Int) (us.length : Int)) = ((min 1 us.length : Nat) : Int) := by omega
      rw [this]
      rfl
  unfold slicePick
  rw [hb]
  show ((sliceRange ((min a us.length : Nat) : Int) (us.length : Int) 2).filterMap (us.toArray[·]?)).toArray = _
  congr 1
  unfold sliceRange pick2
  rw [List.filterMap_map]
  by_cases h : a < us.length
  · rw [Nat.min_eq_left (by omega)]
    have ec : (if (2 : Int) > 0 then (if ((a : Nat) : Int) < (us.length : Int) then ((us.length : Int) - (a : Int) + 2 - 1) / 2 else 0) else (if ((a : Nat) : Int) > (us.length : Int) then (((a : Nat) : Int) - (us.length : Int) - 2 - 1) / (-2) else 0)).toNat = (us.length - a + 1) / 2 := by
      rw [if_pos (by decide), if_pos (by omega)]
      omega
    show List.filterMap _ (List.range (if (2 : Int) > 0 then (if ((a : Nat) : Int) < (us.length : Int) then ((us.length : Int) - (a : Int) + 2 - 1) / 2 else 0) else (if ((a : Nat) : Int) > (us.length : Int) then (((a : Nat) : Int) - (us.length : Int) - 2 - 1) / (-2) else 0)).toNat) = _
    rw [ec]
    congr 1
    funext k
    show us.toArray[(((a : Nat) : Int) + 2 * (k : Int)).toNat]? = us[a + 2 * k]?
    rw [show (((a : Nat) : Int) + 2 * (k : Int)).toNat = a + 2 * k by omega, List.getElem?_toArray]
  · have e0 : (us.length - a + 1) / 2 = 0 := by omega
    have ec : (if (2 : Int) > 0 then (if ((min a us.length : Nat) : Int) < (us.length : Int) then ((us.length : Int) - ((min a us.length : Nat) : Int) + 2 - 1) / 2 else 0) else (if ((min a us.length : Nat) : Int) > (us.length : Int) then (((min a us.length : Nat) : Int) - (us.length : Int) - 2 - 1) / (-2) else 0)).toNat = 0 := by
      rw [if_pos (by decide), if_neg (by omega)]
      rfl
    show List.filterMap _ (List.range (if (2 : Int) > 0 then (if ((min a us.length : Nat) : Int) < (us.length : Int) then ((us.length : Int) - ((min a us.length : Nat) : Int) + 2 - 1) / 2 else 0) else (if ((min a us.length : Nat) : Int) > (us.length : Int) then (((min a us.length : Nat) : Int) - (us.length : Int) - 2 - 1) / (-2) else 0)).toNat) = _
    rw [ec, e0]
    rfl
def tSl2 (K : PySem.W.Frag) (te : TE) (tl : TO) : TE := fun σ H Q => te σ H fun x H1 => tl σ H1 fun l H2 => ∃ (b : Addr) (xs : List V) (a : Nat), x = .ref b ∧ l = lo2 a ∧ a ≤ 1 ∧ SqL K H2 b xs ∧ ∀ p, H2 p = none → Q (.ref p) (upd H2 p (.lst (pick2 a xs)))
theorem pick2_le {α : Type} (a : Nat) (xs : List α) : (pick2 a xs).length ≤ xs.length := by
  rw [pick2_len]
  omega
theorem pe_slice2 {X : Cx} {e : Expr} {te : TE} {lo : Option Expr} {tl : TO} {j : Nat} {p1 p2 pos : Pos} (he : PE X e te) (hl : PO X lo tl) : PE X (.Subscript e (.Slice lo none (some (.Constant (.int 2) j p1)) p2) pos) (tSl2 X.K te tl) := by
  refine ⟨fun pins s σ H Q I h => ?_⟩
  refine Subscript_ (thn (he.run pins s σ H _ I h) fun v s1 ⟨x, H1, I1, r1, q1⟩ => ?_)
  refine wpAny_Slice (thn (hl.run pins s1 σ H1 _ I1 q1) fun vl s2 ⟨l, H2, I2, pl, b, xs, a, ex, el, ha, hS, q2⟩ => ?_)
  subst ex el
  rw [evalPart_none]
  refine wpAny_pure (wpAny_Constant_int (pos := p1) (k := j) ?_)
  cases r1
  have I4 : Inv X pins σ H2 { s2 with heap := s2.heap.push { cls := .type "slice", data := .fields #[vl, .none, .int 2 s2.toks] }, toks := s2.toks + 1 } := I2.kept (t' := s2.toks + 1) fun b ob q => Heap.get?_push_of_some _ q
  obtain ⟨its, r, ht, hz⟩ := I4.list hS
  have hlen := r.length
  have hsl : (s2.heap.push { cls := .type "slice", data := .fields #[vl, .none, .int 2 s2.toks] }).IsSliceOf s2.heap.objs.size vl .none (.int 2 s2.toks) := Heap.IsSliceOf.new ..
  refine tail_any (ops := [.ref b, .ref s2.heap.objs.size]) ht.isList.typeIs slot_list_getitem.lookup ?_ (by with_unfolding_all rfl)
  refine wpAny_getItem_list_slice ht.isList hsl pl .none (.int 2 _) (by decide) ?_ (by rw [List.size_toArray] <;> omega)
  rw [slicePick_two its ha]
  refine ⟨.ref _, _, I4.laid (t' := s2.toks + 1) (o := .lst (pick2 a xs)) (fun b ob q => Heap.get?_push_of_some _ q) (Nat.le_refl _) ?_, rfl, q2 _ (I4.hok.fresh (Nat.le_refl _))⟩
  exact ⟨Nat.le_trans (pick2_le a xs) hz, _, 0, pick2_vals r, Heap.get?_push_size _ rfl⟩
section
variable {K : PySem.W.Frag} {σ : L2.St} {H : Hp} {ta tb te : TE} {tl : TO}
theorem el_sl2 {b : Addr} {xs : List V} {a : Nat} (h : Ev te σ H (.ref b)) (hl : EvO tl σ H (lo2 a)) (ha : a ≤ 1) (hS : SqL K H b xs) : EvL (tSl2 K te tl) σ H (pick2 a xs) := fun H1 e Q q =>
  h H1 e _ fun H2 e2 => hl H2 (e.trans e2) _ fun H3 e3 => ⟨b, xs, a, rfl, rfl, ha, ex_l ((e.trans e2).trans e3) hS, fun p hp => q p _ (fresh_back (e2.trans e3) hp) ((e2.trans e3).trans (Ex.new hp)) upd_same⟩
/-- two tuples joined -/
theorem et_catA {a b : Addr} {xs ys : List V} (ha : Ev ta σ H (.ref a)) (hb : Ev tb σ H (.ref b)) (h1 : SqT K H a xs) (h2 : SqT K H b ys) (hl : xs.length + ys.length ≤ 100000) :
    ∀ H1, Ex H H1 → ∀ Q : VK, (∀ p H2, Ex H1 H2 → SqT K H2 p (xs ++ ys) → Q (.ref p) H2) → tOp (rCatA K) ta tb σ H1 Q := fun H1 e Q q =>
  ha H1 e _ fun H2 e2 => hb H2 (e.trans e2) _ fun H3 e3 => by
    have e13 := (e.trans e2).trans e3
    refine ⟨a, b, xs, ys, rfl, rfl, ex_t e13 h1, ex_t e13 h2, sz_of hl, fun hx => ?_, fun hx hy => ?_, fun hx hy p hp => ?_⟩
    · subst hx
      exact q b _ (e2.trans e3) (ex_t e13 h2)
    · subst hy
      refine q a _ (e2.trans e3) ?_
      rw [List.append_nil]
      exact ex_t e13 h1
    · exact q p _ ((e2.trans e3).trans (Ex.new hp)) (st_of upd_same)
end
end Sl

/-! ### packets where a lambda was made -/
namespace Sl
open PySem PySem.Spec PyProof.Rows L2 Evl LamX
def lamQ : Str := (("_by_weight" : Str) ++ ".<locals>.") ++ "<lambda>"
theorem TupF.monoN {H H' : Hp} {p : Addr} {xs : List V} (x : ExtN H H') (h : TupF H p xs) : TupF H' p xs := by
  obtain ⟨o, h1, h2⟩ := h
  exact ⟨o, xf x h1, h2⟩
theorem PkAt.monoN {H H' : Hp} {z : V} {p : Pk} (x : ExtN H H') (h : PkAt H z p) : PkAt H' z p := by
  obtain ⟨t, u, h1, h2, h3⟩ := h
  exact ⟨t, u, h1, xt x h2, h3.monoN x⟩
theorem Pks.monoN {H H' : Hp} {zs : List V} {r : List Pk} (x : ExtN H H') (h : Pks H zs r) : Pks H' zs r := ⟨h.1, fun i p hp => by
  obtain ⟨z, h1, h2⟩ := h.2 i p hp
  exact ⟨z, h1, h2.monoN x⟩⟩
theorem lead_pk {H : Hp} {z : V} {p : Pk} (h : PkAt H z p) : leadOf H z = (p.1 : Int) := by
  obtain ⟨t, u, rfl, h2, _⟩ := h
  exact leadOf_ref h2
theorem Pks.zip {H : Hp} {zs : List V} {r : List Pk} (h : Pks H zs r) : (∀ q ∈ zs.zip r, PkAt H q.1 q.2) ∧ (zs.zip r).map (·.1) = zs ∧ (zs.zip r).map (·.2) = r := by
  refine ⟨fun q hq => ?_, List.map_fst_zip (Nat.le_of_eq h.1), List.map_snd_zip (Nat.le_of_eq h.1.symm)⟩
  obtain ⟨i, hi, e⟩ := List.getElem_of_mem hq
  have e' : (zs.zip r)[i]? = some q := by rw [List.getElem?_eq_getElem hi, e]
  obtain ⟨h1, h2⟩ := List.getElem?_zip_eq_some.mp e'
  obtain ⟨z, k1, k2⟩ := h.2 i _ h2
  rw [h1] at k1
  cases k1
  exact k2
theorem pks_of {H : Hp} {l : List (V × Pk)} (h : ∀ q ∈ l, PkAt H q.1 q.2) : Pks H (l.map (·.1)) (l.map (·.2)) := by
  refine ⟨by rw [List.length_map, List.length_map], fun i p hp => ?_⟩
  rw [List.getElem?_map] at hp ⊢
  obtain ⟨q, hq, rfl⟩ := Option.map_eq_some_iff.mp hp
  exact ⟨q.1, by rw [hq]; rfl, h q (List.mem_of_getElem? hq)⟩
theorem Pks.sort {H H' : Hp} {zs : List V} {r : List Pk} (h : Pks H zs r) (x : ExtN H H') : Pks H' (zs.mergeSort fun a b => decide (leadOf H a ≤ leadOf H b)) (r.mergeSort leP) := by
  obtain ⟨hm, h1, h2⟩ := h.zip
  have e1 : ((zs.zip r).mergeSort fun a b => leP a.2 b.2).map (·.1) = zs.mergeSort fun a b => decide (leadOf H a ≤ leadOf H b) := by
    rw [List.map_mergeSort (s := fun a b => decide (leadOf H a ≤ leadOf H b)) fun a ha b hb => ?_, h1]
    rw [lead_pk (hm a ha), lead_pk (hm b hb)]
    exact decide_eq_decide.mpr Int.ofNat_le.symm
  have e2 : ((zs.zip r).mergeSort fun a b => leP a.2 b.2).map (·.2) = r.mergeSort leP := by
    rw [List.map_mergeSort (s := leP) fun a ha b hb => rfl, h2]
  rw [← e1, ← e2]
  exact pks_of fun q hq => (hm q ((List.mergeSort_perm _ _).mem_iff.mp hq)).monoN x
theorem Pks.lead {H : Hp} {zs : List V} {r : List Pk} (h : Pks H zs r) : ∀ z ∈ zs, ∃ (t : Addr) (i : Int) (q : List V), z = .ref t ∧ H t = some (.tup (.int i :: q)) := fun z hz => by
  obtain ⟨i, hi, e⟩ := List.getElem_of_mem hz
  have hr : i < r.length := by rw [← h.1]; exact hi
  obtain ⟨y, k1, t, u, rfl, k2, _⟩ := h.2 i _ (List.getElem?_eq_getElem hr)
  rw [List.getElem?_eq_getElem hi, e] at k1
  cases k1
  exact ⟨t, _, _, rfl, k2⟩
/-- rows behind a lambda -/
def RowsN (H0 H : Hp) (p : Addr) (ys : List V) (ws : List Nat) (b : Nat) : Prop := ys.length = b ∧ (∀ i, i < b → ∃ (a : Addr) (zs : List V), ys[i]? = some (.ref a) ∧ a ≠ p ∧ NewN H0 a ∧ H a = some (.lst zs) ∧ Pks H zs (rowP ws (i + 1))) ∧
  ∀ (i j : Nat) (a : Addr), ys[i]? = some (.ref a) → ys[j]? = some (.ref a) → i = j
def RetRowsN (PL : Addr) (ws : List Nat) (b : Nat) (H : Hp) (Q : VK) : Prop := ∀ p ys H2, NewN H p → ExtN H H2 → TabS H2 PL lamQ → H2 p = some (.lst ys) → RowsN H H2 p ys ws b → Q (.ref p) H2
def RetLN (PL : Addr) (xs : List V) (H : Hp) (Q : VK) : Prop := ∀ p H2, NewN H p → ExtN H H2 → TabS H2 PL lamQ → H2 p = some (.lst xs) → Q (.ref p) H2
/-- the def whose code is known -/
theorem okC {P : Program} {w : World} {K : PySem.W.Frag} {mg : Str → Option Value} {base : Heap} {x qual : Str} {st : Stmt} {f c : Addr} {fd : FuncData} {N ps : List Str} {k : Nat} {sp : Sp} (F : Fun K x qual st f fd) (hc : fd.code = .ref c) (S : FnScope N ps (defScope st)) (len : ∀ vs H Q E, sp vs H Q E → vs.length = ps.length)
    (hbody : ∀ (A : Around) (outer : List Env) (s : Shared) (H : Hp) (vs : List V) (Q : VK) (E : XK), Room k (A.deeper (envOfC qual (defScope st) s.heap.objs.size f (.ref c))) → sp vs H Q E →
      ∃ t, PSs (cxOf CX0 P w K mg base N qual (defScope st) f (.ref c) A outer s H E).nox (defBody st) t ∧ t { nx := fun _ H' => Q .non H', rt := Q } (L2.start N vs) H) : FnOk P w K mg base CX0 (k + 1) f fd ps sp := by
  obtain ⟨oc, od, kV, doc, pm, an, cdv, ct, osl, rfl, lk, hcd⟩ := F.ex
  have e : cdv = .ref c := hc
  subst e
  refine fn_of lk hcd S len fun A outer s H vs Q E hr hsp => ?_
  obtain ⟨t, h, q⟩ := hbody A outer s H vs Q E hr hsp
  exact ⟨t, h.nox, q⟩
section
variable {σ : L2.St} {H : Hp} {te tu : TE} {D : Ends} {K : PySem.W.Frag} {ta tb : TE}
/-- a number and a tuple made: a packet -/
theorem er_pk {n : Nat} {ss : List Nat} (h1 : Ev te σ H (.int (n : Int))) (h2 : EvF tu σ H (natsV ss)) : EvR (tTup (tCons te (tCons tu tNil))) σ H fun y H1 => PkAt H1 y (n, ss) := fun H0 e0 Q q =>
  h1 H0 e0 _ fun H1 e1 => h2 H1 (e0.trans e1) _ fun u H2 _ e2 hu => ⟨sz_of (by show 2 ≤ 100000; decide), fun t ht => q _ _ ((e1.trans e2).trans (Ex.new ht)) ⟨t, u, rfl, upd_same, hu.mono (Ex.new ht)⟩⟩
theorem s_retR {R : V → Hp → Prop} (h : EvR te σ H R) (k : ∀ y H1, Ex H H1 → R y H1 → D.rt y H1) : tRet te D σ H := h H (Ex.refl H) _ k
/-- sorted(t + u): the signs counted -/
theorem el_joined {u1 u2 : Addr} {a b : List Nat} (ha : Ev ta σ H (.ref u1)) (hb : Ev tb σ H (.ref u2)) (h1 : SqT K H u1 (natsV a)) (h2 : SqT K H u2 (natsV b)) (hl : a.length + b.length ≤ 100000) (b1 : ∀ s ∈ a, s < 24) (b2 : ∀ s ∈ b, s < 24) :
    EvL (tCB (rSortedIT K) (tCons (tOp (rCatA K) ta tb) tNil)) σ H (natsV (mixed a b)) := fun H1 e Q q =>
  et_catA ha hb h1 h2 (by rw [natsV_len, natsV_len]; exact hl) H1 e _ fun p H2 e2 hp => by
    have en : natsV a ++ natsV b = ((a ++ b).map fun (n : Nat) => (n : Int)).map V.int := by
      rw [← natsV_ints]
      unfold natsV
      rw [List.map_append]
    rw [en] at hp
    refine ⟨p, _, rfl, hp, fun ns' l k1 k2 hn => ?_⟩
    have hm : ns' = (mixed a b).map fun (n : Nat) => (n : Int) := by
      refine List.Perm.eq_of_pairwise (fun x y _ _ h1 h2 => Int.le_antisymm h1 h2) k2 (List.pairwise_map.mpr ((mixed_srt a b).imp fun h => Int.ofNat_le.mpr h)) (k1.trans ?_)
      exact ((mixed_perm b1 b2).symm.map _)
    rw [hm, ← natsV_ints]
    exact q l _ (fresh_back e2 hn) (e2.trans (Ex.new hn)) upd_same
end
/-! xs[i] += e -/
def rGetL : V → V → Hp → VK → Prop := fun o i H Q => ∃ (p : Addr) (xs : List V) (j : Nat) (v : V), o = .ref p ∧ i = .int (j : Int) ∧ H p = some (.lst xs) ∧ xs[j]? = some v ∧ Q v H
theorem get_list {X : Cx} : PGet X rGetL := by
  intro pins s σ H o i ov iv Q I ro ri h
  obtain ⟨p, xs, j, v, rfl, rfl, hp, hv, q⟩ := h
  cases ro
  obtain ⟨t, rfl⟩ := ri
  obtain ⟨its, n, r, ho, hz⟩ := I.lst hp
  obtain ⟨u, hu, ru⟩ := r.get hv
  have hl := r.length
  have hj := (List.getElem?_eq_some_iff.mp hv).1
  have hn := line63
  exact PySem.wpAny_getItem_list (items := its.toArray) ⟨_, ho, rfl, n, rfl⟩ (by omega) (by omega) (by simpa using hu) ⟨v, H, I, ru, q⟩
section
variable {σ : L2.St} {H : Hp} {te to ti tr : TE} {ta : TA} {D : Ends} {K : PySem.W.Frag} {tz : TS}
theorem s_augS {l : Addr} {xs : List V} {j : Nat} {a b : Int} (hl : H l = some (.lst xs)) (ho : Ev to σ H (.ref l)) (hi : Ev ti σ H (.int (j : Int))) (hx : xs[j]? = some (.int a)) (he : Ev te σ H (.int b)) (k : ∀ H1, Ex H H1 → D.nx σ (upd H1 l (.lst (xs.set j (.int (a + b)))))) : tAugS to ti te rGetL (ipI fun i j => i + j) rSetL D σ H :=
  ho H (Ex.refl H) _ fun H1 e1 => hi H1 e1 _ fun H2 e2 => ⟨l, xs, j, .int a, rfl, rfl, (e1.trans e2) _ _ hl, hx, he H2 (e1.trans e2) _ fun H3 e3 => ⟨a, b, rfl, rfl, l, xs, (j : Int), j, rfl, rfl, ((e1.trans e2).trans e3) _ _ hl, ixN_nat (List.getElem?_eq_some_iff.mp hx).1, k H3 ((e1.trans e2).trans e3)⟩⟩
theorem s_appRaw {l : Addr} {xs : List V} (hl : H l = some (.lst xs)) (ha : Ev to σ H (.ref l)) (h : ∀ H1, Ex H H1 → te σ H1 fun v H2 => ∃ (l' : Addr) (xs' : List V) (v' : V), V.ref l = .ref l' ∧ [v] = [v'] ∧ H2 l' = some (.lst xs') ∧ xs'.length < sizeLine ∧ D.nx σ (upd H2 l' (.lst (xs' ++ [v'])))) :
    tDrop (tBM K "list" rAppend to (tCons te tNil)) D σ H :=
  ha H (Ex.refl H) _ fun H1 e1 => ⟨Or.inl ⟨rfl, xs, sq_of (e1 l _ hl)⟩, h H1 e1⟩
/-- x = [f(..)] -/
theorem q_asgLst1 {sp : Sp} {dvs vs : List V} {E : XK} {i : Nat} (h : EvA ta σ H vs) (k : ∀ H1, Ex H H1 → sp (vs ++ dvs) H1 (fun v H2 => [v].length ≤ sizeLine ∧ ∀ l, H2 l = none → tz D (σ.set i (some (.ref l))) (upd H2 l (.lst [v]))) E) : tSeq (tAsg (tLst (tCons (tCall sp dvs E ta) tNil)) (gName i)) tz D σ H :=
  h H (Ex.refl H) _ k
theorem atI_neg1 {xs : List V} {v : V} (h : xs[xs.length - 1]? = some v) : atI xs (-1) = some v := by
  have hl := (List.getElem?_eq_some_iff.mp h).1
  have e : xs = xs.dropLast ++ [v] := by
    have hne : xs ≠ [] := fun z => by rw [z] at hl; simp at hl
    have := List.dropLast_concat_getLast hne
    rw [List.getLast_eq_getElem] at this
    have hv := (List.getElem?_eq_some_iff.mp h).2
    rw [hv] at this
    exact this.symm
  rw [e]
  exact atI_last _ _
end
theorem tab_exB {H H' : Hp} {P b : Addr} {q : Str} {xs : List V} (hb : H b = some (.lst xs)) (t : TabS H P q) (e : ExB b H H') : TabS H' P q := by
  obtain ⟨ps, h1, h2, h3⟩ := t
  refine ⟨ps, e _ _ h1 (fun z => by rw [z, hb] at h1; cases h1), h2, fun pos cv hc => ?_⟩
  obtain ⟨c, e1, e2⟩ := h3 pos cv hc
  have ne : c ≠ b := fun z => by
    rw [z, hb] at e2
    unfold CodeO at e2
    cases e2
  exact ⟨c, e1, e _ _ e2 ne⟩
theorem PkAt.exB {H H' : Hp} {b : Addr} {xs : List V} {z : V} {p : Pk} (hb : H b = some (.lst xs)) (e : ExB b H H') (h : PkAt H z p) : PkAt H' z p := by
  obtain ⟨t, u, h1, h2, o, h3, h4⟩ := h
  exact ⟨t, u, h1, e _ _ h2 (fun z => by rw [z, hb] at h2; cases h2), o, e _ _ h3 (fun z => by rw [z, hb] at h3; cases h3), h4⟩
theorem Pks.exB {H H' : Hp} {b : Addr} {xs : List V} {zs : List V} {r : List Pk} (hb : H b = some (.lst xs)) (e : ExB b H H') (h : Pks H zs r) : Pks H' zs r := ⟨h.1, fun i p hp => by
  obtain ⟨z, h1, h2⟩ := h.2 i p hp
  exact ⟨z, h1, h2.exB hb e⟩⟩
theorem ExB.trans {b : Addr} {H1 H2 H3 : Hp} (h : ExB b H1 H2) (k : ExB b H2 H3) : ExB b H1 H3 := fun c o hc hb => k c o (h c o hc hb) hb
theorem ExB.of {b : Addr} {H H' : Hp} (e : Ex H H') : ExB b H H' := fun c o hc _ => e c o hc
theorem extN_exB {b : Addr} {H H1 H2 : Hp} (x : ExtN H H1) (n : NewN H b) (e : ExB b H1 H2) : ExtN H H2 := fun c o h ht => e c o (x c o h ht) (n.ne h ht)
end Sl

/-! ### tests behind which the heap is known by a relation of its own only -/
namespace Sl
open PySem PySem.Spec PyProof.Rows L2 Evl
theorem given_yes (n : Nat) (v : Nat → V) : given n (fun _ => true) v = (List.range n).map v := by
  unfold given
  rw [List.filter_eq_self.mpr fun _ _ => rfl]
section
variable {K : PySem.W.Frag} {σ : L2.St} {H : Hp} {D : Ends}
/-- a test: b, and the heap behind stands in R to the one before -/
def EwT (R : Hp → Hp → Prop) (tt : TT) (σ : L2.St) (H : Hp) (b : Bool) : Prop := ∀ H1, Ex H H1 → ∀ Q : Bool → Hp → Prop, (∀ H2, R H1 H2 → Q b H2) → tt σ H1 Q
def EwV (R : Hp → Hp → Prop) (te : TE) (σ : L2.St) (H : Hp) (v : V) : Prop := ∀ H1, Ex H H1 → ∀ Q : VK, (∀ H2, R H1 H2 → Q v H2) → te σ H1 Q
theorem ew_of {R : Hp → Hp → Prop} (hR : ∀ H H', Ex H H' → R H H') {t : TT} {b : Bool} (h : EvT t σ H b) : EwT R t σ H b := fun H1 e Q q => h H1 e Q fun H2 e2 => q H2 (hR _ _ e2)
theorem ew_and {R : Hp → Hp → Prop} (h0 : ∀ H H', Ex H H' → R H H') (hR : ∀ H H' H'', Ex H H' → R H' H'' → R H H'') {t u : TT} {a b : Bool} (h1 : EvT t σ H a) (h2 : a = true → EwT R u σ H b) : EwT R (tAnd t u) σ H (a && b) := fun H1 e Q q => h1 H1 e _ fun H2 e2 => by
  cases a with
  | true =>
    show u σ H2 Q
    exact h2 rfl H2 (e.trans e2) Q fun H3 e3 => q H3 (hR _ _ _ e2 e3)
  | false =>
    show Q false H2
    exact q H2 (h0 _ _ e2)
theorem ew_B {R : Hp → Hp → Prop} {te : TE} {b : Bool} (h : EwV R te σ H (.bl b)) : EwT R (tB te) σ H b := fun H1 e _ q => h H1 e _ fun H2 e2 => ⟨b, rfl, q H2 e2⟩
theorem ew_whenQ {R : Hp → Hp → Prop} {t : TT} {tu tz : TS} {b : Bool} (h : EwT R t σ H b) (h1 : b = true → ∀ H1, R H H1 → tu { D with nx := tz D } σ H1) (h2 : b = false → ∀ H1, R H H1 → tz D σ H1) : tSeq (tIfS t tu tNext) tz D σ H := by
  refine h H (Ex.refl H) _ fun H2 e2 => ?_
  cases b with
  | true => exact h1 rfl H2 e2
  | false => exact h2 rfl H2 e2
theorem ew_callV {R : Hp → Hp → Prop} {sp : Sp} {ta : TA} {vs : List V} {v : V} (ha : EvA ta σ H vs) (hR : ∀ H H' H'', Ex H H' → R H' H'' → R H H'') (h : ∀ H1, Ex H H1 → ∀ (Q : VK) E, (∀ H2, R H1 H2 → Q v H2) → sp (vs ++ []) H1 Q E) : EwV R (tCall sp [] E0 ta) σ H v := fun H1 e Q q =>
  ha H1 e _ fun H2 e2 => h H2 (e.trans e2) Q _ fun H3 e3 => q H3 (hR _ _ _ e2 e3)
theorem ew_andV {R : Hp → Hp → Prop} (h0 : ∀ H H', Ex H H' → R H H') (hR : ∀ H H' H'', Ex H H' → R H' H'' → R H H'') {ta tb : TE} {a b : Bool} (h1 : Ev ta σ H (.bl a)) (h2 : a = true → EwV R tb σ H (.bl b)) : EwV R (tAndV ta tb) σ H (.bl (a && b)) := fun H1 e Q q => h1 H1 e _ fun H2 e2 => by
  refine ⟨a, rfl, ?_⟩
  cases a with
  | true => exact h2 rfl H2 (e.trans e2) Q fun H3 e3 => q H3 (hR _ _ _ e2 e3)
  | false => exact q H2 (h0 _ _ e2)
/-- a = (x, y, ..): the one behind is new -/
theorem ev_eqU {ta tb : TE} {x : V} {ys : List V} {d e : PyData} (ha : Ev ta σ H x) (hb : EvU tb σ H ys) (hd : Dp K H x d) (he : ∀ H' p, Ex H H' → H' p = some (.tup ys) → Dp K H' (.ref p) e) (sd : SeqAt.shaped d = true) (se : SeqAt.shaped e = true) : Ev (tOp (rEqD K) ta tb) σ H (.bl (PyData.eqv d e)) := fun H1 g Q q =>
  ha H1 g _ fun H2 g2 => hb H2 (g.trans g2) _ fun p H3 _ g3 h3 => ⟨d, e, dp_mono ((g.trans g2).trans g3) _ _ hd, he H3 p ((g.trans g2).trans g3) h3, sd, se, q H3 (g2.trans g3)⟩
/-- f(..), dropped, within a try's body -/
theorem s_dropCallS {sp : Sp} {E : L2.St → XK} {ta : TA} {vs : List V} (h : EvA ta σ H vs) (k : ∀ H1, Ex H H1 → sp vs H1 (fun _ H2 => D.nx σ H2) (E σ)) : tDrop (tCallS sp E ta) D σ H := h H (Ex.refl H) _ k
end
end Sl

/-! ### lengths as words of 12 bits -/
namespace Sl
open PySem PySem.Spec PyProof.Rows L2 Evl LamX
theorem szB_12 (l : Int) : szB 12 l = sz l := rfl
theorem endB_12 : ∀ (ls : List Int) (p : Nat), endB 12 p ls = endO p ls
  | [], _ => rfl
  | l :: r, p => endB_12 r _
theorem scale12 {b : Nat} (hb : b ≤ 12) : ∀ l : List Nat, (∀ x ∈ l, x ≤ b) → (l.map fun x => 2 ^ (12 - x)).sum = 2 ^ (12 - b) * (l.map fun x => 2 ^ (b - x)).sum
  | [], _ => rfl
  | x :: r, h => by
    have ih := scale12 hb r fun y hy => h y (List.mem_cons_of_mem _ hy)
    have hx := h x List.mem_cons_self
    rw [List.map_cons, List.map_cons, List.sum_cons, List.sum_cons, ih, Nat.mul_add, ← Nat.pow_add, show 12 - b + (b - x) = 12 - x by omega]
theorem sz_ints (l : List Nat) (h : ∀ x ∈ l, x ≤ 12) : ((intsOf l).map sz).sum = (l.map fun x => 2 ^ (12 - x)).sum := by
  unfold intsOf
  rw [List.map_map]
  congr 1
  refine List.map_congr_left fun x hx => ?_
  have := h x hx
  show 2 ^ ((12 : Int) - (x : Int)).toNat = 2 ^ (12 - x)
  congr 1
  omega
theorem free_12 {ws : List Nat} {b : Nat} (hn : ws.length ≤ 24) (hb : 1 ≤ b) (hb2 : b ≤ 12) (h : ws.length ≤ 2 ^ b) : ((intsOf (freeLens ws b)).map sz).sum ≤ 4096 := by
  have hin := freeLens_in hn hb h
  rw [sz_ints _ fun x hx => by have := hin x hx; omega, scale12 hb2 _ fun x hx => (hin x hx).2]
  have k := Nat.mul_le_mul_left (2 ^ (12 - b)) (freeLens_sum hn hb h).1
  rw [← Nat.pow_add, show 12 - b + b = 12 by omega] at k
  exact k
theorem ord_12 {ws : List Nat} {b : Nat} (hb : 1 ≤ b) (hb2 : b ≤ 12) (h : ws.length ≤ 2 ^ b) : endO 0 (intsOf (ordLens ws b)) ≤ 4096 := by
  rw [← endB_12]
  by_cases h2 : 2 ≤ ws.length
  · obtain ⟨_, _, _, _, k, hl⟩ := ord_two h2 h
    rw [leafs_end (b := 12) hl fun x hx => by
      obtain ⟨y, hy, rfl⟩ := List.mem_map.mp hx
      have := k y hy
      omega]
    decide
  · unfold ordLens
    rw [if_pos (by omega)]
    have c : ws.length = 0 ∨ ws.length = 1 := by omega
    rcases c with c | c <;> rw [c] <;> decide
theorem NewN.ofX {H H' : Hp} {p : Addr} (x : ExtN H H') (h : H' p = none) : NewN H p := (NewN.of h).back x
theorem Simple.monoN {H H' : Hp} {x : V} (e : ExtN H H') (h : Simple H x) : Simple H' x := by
  rcases h with h | h | h | h | ⟨a, ns, h, g⟩
  · exact .inl h
  · exact .inr (.inl h)
  · exact .inr (.inr (.inl h))
  · exact .inr (.inr (.inr (.inl h)))
  · exact .inr (.inr (.inr (.inr ⟨a, ns, h, g.elim (fun g => .inl (xl e g)) fun g => .inr (xt e g)⟩)))
/-- a new tuple, the heap behind like the one before but for tables -/
def RetUN (PL : Addr) (xs : List V) (H : Hp) (Q : VK) : Prop := ∀ p H2, NewN H p → ExtN H H2 → TabS H2 PL lamQ → H2 p = some (.tup xs) → Q (.ref p) H2
section
variable {σ : L2.St} {H : Hp} {te ti : TE} {D : Ends} {K : PySem.W.Frag}
/-- [x, y, ..][i] -/
theorem ev_pick {xs : List V} {j : Nat} {v : V} (h : EvL te σ H xs) (hi : Ev ti σ H (.int (j : Int))) (hx : xs[j]? = some v) : Ev (tOp (rIxL K) te ti) σ H v := fun H1 e Q q =>
  h H1 e _ fun p H2 _ e2 h2 => hi H2 (e.trans e2) _ fun H3 e3 => rv_ixL (K := K) (sq_of (e3 _ _ h2)) (atI_nat hx) H3 (Ex.refl _) Q fun H4 e4 => q H4 ((e2.trans e3).trans e4)
/-- xs + [..] -/
theorem el_catV {ta tb : TE} {a : Addr} {xs ys : List V} (ha : Ev ta σ H (.ref a)) (hb : EvL tb σ H ys) (h1 : H a = some (.lst xs)) (hl : xs.length + ys.length ≤ 100000) : EvL (tOp rCat ta tb) σ H (xs ++ ys) := fun H1 e Q q =>
  ha H1 e _ fun H2 e2 => hb H2 (e.trans e2) _ fun p H3 hp e3 h3 => ⟨a, p, xs, ys, rfl, rfl, ((e.trans e2).trans e3) _ _ h1, h3, sz_of hl, fun l hl' => q l _ (fresh_back (e2.trans e3) hl') ((e2.trans e3).trans (Ex.new hl')) upd_same⟩
theorem s_callA {sp : Sp} {dvs vs : List V} {E : XK} {ta : TA} {i : Nat} (h : EvA ta σ H vs) (k : ∀ H1, Ex H H1 → sp (vs ++ dvs) H1 (fun v H2 => D.nx (σ.set i (some v)) H2) E) : tAsg (tCall sp dvs E ta) (gName i) D σ H := h H (Ex.refl H) _ k
theorem q_whenOr {R : Hp → Hp → Prop} {t u : TT} {tu tz : TS} (h1 : ∀ Q : Bool → Hp → Prop, (∀ H1, R H H1 → Q false H1) → t σ H Q) (h2 : ∀ H1, R H H1 → EvT u σ H1 false) (k : ∀ H1 H2, R H H1 → Ex H1 H2 → tz D σ H2) : tSeq (tIfS (tOr t u) tu tNext) tz D σ H := by
  refine h1 _ fun H1 r => ?_
  exact h2 H1 r H1 (Ex.refl _) _ fun H2 e2 => k H1 H2 r e2
theorem s_insert {l : Addr} {xs : List V} {i : Nat} {ti ts : TE} (hl : H l = some (.lst xs)) (ha : Ev te σ H (.ref l)) (hi : Ev ti σ H (.int (i : Int))) (hs : ∀ H1, Ex H H1 → ∀ Q : VK, (∀ v H2, Ex H1 H2 → Simple H2 v → (∀ b, v = .ref b → H1 b = none) → Q v H2) → ts σ H1 Q)
    (hx : xs.length ≤ 1000) (hi2 : i ≤ 1000) (k : ∀ v H1, Ex H H1 → Simple H1 v → v ≠ .ref l → D.nx σ (upd H1 l (.lst (xs.take i ++ [v] ++ xs.drop i)))) :
    tDrop (tBM K "list" (fun x vs H Q => ∃ (l : Addr) (xs : List V) (i : Int) (y : V), x = .ref l ∧ vs = [.int i, y] ∧ H l = some (.lst xs) ∧ xs.length < sizeLine ∧ 0 ≤ i ∧ i < 2 ^ 63 ∧ Q .non (upd H l (.lst (xs.take i.toNat ++ [y] ++ xs.drop i.toNat)))) te (tCons ti (tCons ts tNil))) D σ H :=
  ha H (Ex.refl H) _ fun H1 e1 => ⟨Or.inl ⟨rfl, xs, sq_of (e1 l _ hl)⟩, hi H1 e1 _ fun H2 e2 => hs H2 (e1.trans e2) _ fun v H3 e3 h3 hf => ⟨l, xs, (i : Int), v, rfl, rfl, ((e1.trans e2).trans e3) _ _ hl, Nat.lt_of_le_of_lt hx (by decide), by omega, by omega, by
    rw [Int.toNat_natCast]
    refine k v H3 ((e1.trans e2).trans e3) h3 fun z => ?_
    have := hf l z
    rw [(e1.trans e2) _ _ hl] at this
    cases this⟩⟩
theorem ex_upd {H1 : Hp} {p : Addr} {o : HO} (e : Ex H H1) (hp : H p = none) : Ex H (upd H1 p o) := fun b u hb => by
  rw [upd_ne fun z => by rw [z, hp] at hb; cases hb]
  exact e b u hb
theorem Simple.upd {p : Addr} {o : HO} {v : V} (h : Simple H v) (hne : v ≠ .ref p) : Simple (upd H p o) v := by
  rcases h with h | h | h | h | ⟨a, ns, rfl, g⟩
  · exact .inl h
  · exact .inr (.inl h)
  · exact .inr (.inr (.inl h))
  · exact .inr (.inr (.inr (.inl h)))
  · have ne : a ≠ p := fun z => hne (by rw [z])
    exact .inr (.inr (.inr (.inr ⟨a, ns, rfl, by rw [upd_ne ne]; exact g⟩)))
theorem ev_intB {b : Bool} (h : Ev te σ H (.bl b)) : Ev (tCB (fun xs H Q => (∃ i, xs = [.int i] ∧ Q (.int i) H) ∨ ∃ k, xs = [.bl k] ∧ Q (.int (if k then 1 else 0)) H) (tCons te tNil)) σ H (.int (if b then 1 else 0)) := fun H1 e Q q =>
  h H1 e _ fun H2 e2 => .inr ⟨b, rfl, q H2 e2⟩
end
end Sl

/-! ### words of a code -/
namespace Sl
open PySem PySem.Spec PyProof.Rows L2 Evl LamX
def WordsFor (us : List (List Nat)) (fl : List Nat) : Prop := us.length = fl.length ∧ (∀ i u, us[i]? = some u → u.length = fl.getD i 0 ∧ ∀ c ∈ u, c = 48 ∨ c = 49) ∧ (∀ (i j : Nat) (u v : List Nat), i ≠ j → us[i]? = some u → us[j]? = some v → v.take u.length ≠ u)
theorem lensOk_ints {fl : List Nat} (h : ∀ x ∈ fl, 1 ≤ x ∧ x ≤ 12) : LensOk (intsOf fl) := fun l hl => by
  obtain ⟨n, hn, rfl⟩ := List.mem_map.mp hl
  have := h n hn
  omega
theorem ints_getD (fl : List Nat) (i : Nat) : (intsOf fl).getD i 0 = ((fl.getD i 0 : Nat) : Int) := by
  unfold intsOf
  rw [List.getD_eq_getElem?_getD, List.getD_eq_getElem?_getD, List.getElem?_map]
  cases fl[i]? <;> rfl
theorem ints_len (fl : List Nat) : (intsOf fl).length = fl.length := List.length_map _
theorem byLen_for {fl : List Nat} (h : ∀ x ∈ fl, 1 ≤ x ∧ x ≤ 12) (hs : ((intsOf fl).map sz).sum ≤ 4096) : WordsFor (byLen (intsOf fl)) fl := by
  have hk := lensOk_ints h
  refine ⟨by rw [byLen_len, ints_len], fun i u hu => ?_, fun i j u v hij hu hv => byLen_apart hk hs hij hu hv⟩
  have hi : i < (intsOf fl).length := by
    have := (List.getElem?_eq_some_iff.mp hu).1
    rw [byLen_len] at this
    exact this
  have mi : ((intsOf fl).getD i 0, i) ∈ lawSeq (intsOf fl) := (lawSeq_perm hk).mem_iff.mpr (mem_pairs.mpr ⟨hi, rfl⟩)
  obtain ⟨a, b, e⟩ := List.append_of_mem mi
  obtain ⟨wi, i1, i2, _, _⟩ := byLen_at e
  dsimp only at wi i1 i2
  rw [hu] at wi
  rw [Option.some.inj wi]
  refine ⟨?_, fun c hc => ?_⟩
  · rw [word_len (by omega) i2, ints_getD, Int.toNat_natCast]
  · unfold word at hc
    exact bits_mem (List.mem_of_mem_take hc)
theorem wordsO_for {fl : List Nat} (h : ∀ x ∈ fl, 1 ≤ x ∧ x ≤ 12) (hs : endO 0 (intsOf fl) ≤ 4096) : WordsFor (wordsO 0 (intsOf fl)) fl := by
  have hk := lensOk_ints h
  refine ⟨by rw [wordsO_len, ints_len], fun i u hu => ?_, fun i j u v hij hu hv => wordsO_apart hk hs hij hu hv⟩
  have hi : i < (intsOf fl).length := by
    have := (List.getElem?_eq_some_iff.mp hu).1
    rw [wordsO_len] at this
    exact this
  have gi := List.getElem?_eq_getElem hi
  have li := wordsO_at gi
  rw [hu] at li
  rw [Option.some.inj li]
  have hl := hk (intsOf fl)[i] (List.getElem_mem hi)
  refine ⟨?_, fun c hc => ?_⟩
  · rw [word_len (by omega) hl.2]
    have e : (intsOf fl)[i] = (intsOf fl).getD i 0 := by rw [List.getD_eq_getElem?_getD, gi]; rfl
    rw [e, ints_getD, Int.toNat_natCast]
  · unfold word at hc
    exact bits_mem (List.mem_of_mem_take hc)
/-- the weight of words -/
def wtW (ws : List Nat) (us : List (List Nat)) : Nat := sumN ws.length fun k => ws.getD k 0 * (us.getD k []).length
theorem wtW_for {ws fl : List Nat} {us : List (List Nat)} (h : WordsFor us fl) (hl : fl.length = ws.length) : wtW ws us = sumN ws.length fun k => ws.getD k 0 * fl.getD k 0 := by
  unfold wtW
  refine sumN_congr fun k hk => ?_
  have g := List.getElem?_eq_getElem (l := us) (i := k) (by rw [h.1]; omega)
  rw [List.getD_eq_getElem?_getD (l := us), g]
  rw [Option.getD_some, (h.2.1 k _ g).1]
theorem wtW_more {ws : List Nat} {us : List (List Nat)} (hl : us.length = ws.length) : wtW ws (us.map (· ++ [48])) = wtW ws us + ws.sum := by
  have e : ws.sum = sumN ws.length fun k => ws.getD k 0 := by
    rw [sumN_list ws fun x => x, List.map_id']
  rw [e]
  unfold wtW
  have gen : ∀ n, n ≤ ws.length → sumN n (fun k => ws.getD k 0 * ((us.map (· ++ [48])).getD k []).length) = sumN n (fun k => ws.getD k 0 * (us.getD k []).length) + sumN n fun k => ws.getD k 0 := fun n => by
    induction n with
    | zero => intro _; rfl
    | succ n ih =>
      intro hn
      rw [sumN_succ, sumN_succ, sumN_succ, ih (by omega)]
      have g := List.getElem?_eq_getElem (l := us) (i := n) (by omega)
      have e1 : ((us.map (· ++ [48])).getD n []).length = (us.getD n []).length + 1 := by
        rw [List.getD_eq_getElem?_getD, List.getD_eq_getElem?_getD, List.getElem?_map, g]
        simp
      rw [e1, Nat.mul_add, Nat.mul_one]
      omega
  exact gen _ (Nat.le_refl _)
theorem sumI (ws : List Nat) : (ws.map fun (n : Nat) => (n : Int)).sum = ((ws.sum : Nat) : Int) := by
  induction ws with
  | nil => rfl
  | cons x r ih => rw [List.map_cons, List.sum_cons, ih, List.sum_cons, Int.natCast_add]
theorem sumInt (n : Nat) (f : Nat → Nat) : ((List.range n).map fun k => ((f k : Nat) : Int)).sum = ((sumN n f : Nat) : Int) := by
  unfold sumN
  generalize List.range n = l
  induction l with
  | nil => rfl
  | cons x r ih => rw [List.map_cons, List.sum_cons, ih, List.map_cons, List.sum_cons, Int.natCast_add]
section
variable {σ : L2.St} {H : Hp} {te tl ta tb : TE} {D : Ends} {K : PySem.W.Frag} {t : TT}
theorem el_ofEx {n : Nat} {f : Nat → V} (h : EvX te σ H fun ys _ => ys.length = n ∧ ∀ i y, ys[i]? = some y → y = f i) : EvL te σ H ((List.range n).map f) := fun H1 e Q q =>
  h H1 e Q fun p ys H2 hp e2 h2 hr => by
    have : ys = (List.range n).map f := by
      refine List.ext_getElem? fun i => ?_
      rw [List.getElem?_map]
      by_cases hi : i < n
      · rw [List.getElem?_range hi]
        have g := List.getElem?_eq_getElem (l := ys) (i := i) (by omega)
        rw [g]
        exact congrArg some (hr.2 i _ g)
      · rw [List.getElem?_eq_none (by omega), List.getElem?_eq_none (by rw [List.length_range]; omega)]
        rfl
    rw [this] at h2
    exact q p H2 hp e2 h2
theorem ev_sumV {a : Addr} {ns : List Int} (h : Ev te σ H (.ref a)) (hS : SqL K H a (ns.map V.int)) : Ev (tCB (rSum K) (tCons te tNil)) σ H (.int ns.sum) := fun H1 e Q q =>
  h H1 e _ fun H2 e2 => ⟨a, ns, rfl, ex_l (e.trans e2) hS, q H2 e2⟩
theorem ev_callVL {sp : Sp} {E : XK} {x v : V} {xs : List V} (ha : Ev ta σ H x) (hb : EvL tb σ H xs) (hs : ∀ p H1, Ex H H1 → H1 p = some (.lst xs) → SpV sp ([x, .ref p] ++ []) H1 v) : Ev (tCall sp [] E (tCons ta (tCons tb tNil))) σ H v := fun H1 e Q q =>
  ha H1 e _ fun H2 e2 => hb H2 (e.trans e2) _ fun p H3 _ e3 h3 => hs p H3 ((e.trans e2).trans e3) h3 H3 (Ex.refl _) Q (fun H4 e4 => q H4 ((e2.trans e3).trans e4)) E
theorem ev_neSortW {j : Nat} {u : Addr} {ws : List (List Nat)} (hj : σ[j]? = some (some (V.ref u))) (hS : SqL K H u (ws.map vtx)) (hl : ws.length < 64) (h : ws.Pairwise (· < ·)) (hc : ∀ v ∈ ws, ∀ c ∈ v, c < 0x110000) :
    Ev (tOp (rNeD K) (tVar j) (tCB (rSortedS K) (tCons (tVar j) tNil))) σ H (.bl false) :=
  ev_is (ev_opL (ev_var hj) (el_sortedS (ev_var hj) hS hl h) fun p H1 h1 e1 => rv_val fun H2 e2 Q q => by
    refine ⟨_, _, dp_txs (ex_l (e1.trans e2) hS), dp_txs (sq_of (e2 _ _ h1)), shaped_txs hc, shaped_txs hc, q⟩) (by rw [eqv_same (shaped_txs hc)]; rfl)
theorem ev_catS {a b : List Nat} (ha : Ev ta σ H (.str (tx a))) (hb : Ev tb σ H (.str (tx b))) (hl : a.length + b.length ≤ 1000) : Ev (tOp (fun x y H Q => ∃ i j, x = .str i ∧ y = .str j ∧ i.length + j.length ≤ sizeLine ∧ Q (.str (i ++ j)) H) ta tb) σ H (.str (tx (a ++ b))) := fun H1 e Q q =>
  ha H1 e _ fun H2 e2 => hb H2 (e.trans e2) _ fun H3 e3 => ⟨tx a, tx b, rfl, rfl, by rw [tx_len, tx_len]; exact sz_of (by omega), by rw [tx_app]; exact q H3 (e2.trans e3)⟩
theorem er_of {v : V} {R : V → Hp → Prop} (h : Ev te σ H v) (hR : ∀ H1, R v H1) : EvR te σ H R := fun H1 e Q q => h H1 e Q fun H2 e2 => q v H2 e2 (hR H2)
/-- none of a text's signs is taken -/
theorem el_lcStrNone {z : Str} {j : Nat} {vs : List Nat} (h : Ev tl σ H (.str z)) (hw : ∀ x, wipe ((wipe σ vs).set j (some x)) vs = wipe σ vs)
    (ht : ∀ (i c : Nat) H1, Ex H H1 → z.cps[i]? = some c → EvT t ((wipe σ vs).set j (some (.str ⟨#[c]⟩))) H1 false) : EvL (tLc (iStr tl) (gName j) t te vs) σ H [] := fun H0 e0 Q q =>
  h H0 e0 _ fun H1 e1 => ⟨z, rfl, fun Dl hD => lc_it (walk_str (z := z)) (fun _ H2 => Ex H1 H2 ∧ H2 Dl = some (.lst [])) ⟨Ex.new hD, upd_same⟩ (fun _ _ _ _ => trivial) (fun i x H2 H3 hi p y => by
    obtain ⟨e2, hd⟩ := p
    obtain ⟨rfl, c, hc, rfl⟩ := y
    refine ⟨hw _, ?_⟩
    refine ht i c H3 ((e0.trans e1).trans e2) hc H3 (Ex.refl _) _ fun H4 e4 => ?_
    exact ⟨e2.trans e4, e4 _ _ hd⟩) fun H2 p => q Dl H2 (fresh_back e1 hD) (e1.trans p.1) p.2⟩
theorem ev_isStr {s : Str} (h : Ev te σ H (.str s)) : Ev (tCB (rIsi K) (tCons te (tCons (tC (.ty "str")) tNil))) σ H (.bl true) := fun H1 e Q q =>
  h H1 e _ fun H2 e2 => ⟨.str s, .ty "str", _, _, true, rfl, .ty _, .base (.str _), kit_ty (by decide +kernel), q H2 e2⟩
theorem rv_notInBits {c : Nat} (h : c = 48 ∨ c = 49) : RV (fun x y H Q => ∃ (c : Nat) (z : Str), x = .str ⟨#[c]⟩ ∧ y = .str z ∧ Q (.bl (!decide (c ∈ z.cps.toList))) H) (.str ⟨#[c]⟩) (.str "01") H (.bl false) := fun H1 e Q q => by
  refine ⟨c, "01", rfl, rfl, ?_⟩
  have : decide (c ∈ (("01" : Str)).cps.toList) = true := by
    rcases h with rfl | rfl <;> decide +kernel
  rw [this]
  exact q H1 (Ex.refl _)
end
end Sl

/-! ### bits, words handed in -/
namespace Sl
open PySem PySem.Spec PyProof.Rows L2 Evl
theorem starts_tx (v u : List Nat) : Txt.startswith (tx v) (tx u) = decide (v.take u.length = u) := by
  unfold Txt.startswith Builtin.Str.subAt
  rw [tx_len, tx_len, Nat.zero_add]
  have e : ((tx v).cps.extract 0 u.length == (tx u).cps) = decide (v.take u.length = u) := by
    rw [Bool.eq_iff_iff, beq_iff_eq, decide_eq_true_iff]
    constructor
    · intro h
      have := congrArg Array.toList h
      rw [Array.toList_extract] at this
      simpa [tx] using this
    · intro h
      refine Array.ext' ?_
      rw [Array.toList_extract]
      simpa [tx] using h
  rw [e]
  by_cases h : v.take u.length = u
  · have : u.length ≤ v.length := by
      have z := congrArg List.length h
      rw [List.length_take] at z
      omega
    rw [decide_eq_true h, decide_eq_true this]
    rfl
  · rw [decide_eq_false h, Bool.and_false]
def ApR (u v : List Nat) : Prop := v.take u.length ≠ u ∧ u.take v.length ≠ v
/-- however the words are put in order, none is begun by the one ahead -/
theorem apart_perm {us zs : List (List Nat)} (h : ∀ (i j : Nat) (u v : List Nat), i ≠ j → us[i]? = some u → us[j]? = some v → v.take u.length ≠ u) (hp : zs.Perm us) {i : Nat} {u v : List Nat} (h1 : zs[i]? = some u) (h2 : zs[i + 1]? = some v) : v.take u.length ≠ u := by
  have hU : us.Pairwise ApR := List.pairwise_iff_getElem.mpr fun i j hi hj hij => ⟨h i j _ _ (by omega) (List.getElem?_eq_getElem hi) (List.getElem?_eq_getElem hj), h j i _ _ (by omega) (List.getElem?_eq_getElem hj) (List.getElem?_eq_getElem hi)⟩
  have hZ : zs.Pairwise ApR := (hp.pairwise_iff fun {u v} z => ⟨z.2, z.1⟩).mpr hU
  obtain ⟨hi, rfl⟩ := List.getElem?_eq_some_iff.mp h1
  obtain ⟨hj, rfl⟩ := List.getElem?_eq_some_iff.mp h2
  exact (List.pairwise_iff_getElem.mp hZ i (i + 1) hi hj (by omega)).1
theorem tx_toList (s : Str) : tx s.cps.toList = s := rfl
def isBit (c : Nat) : Bool := decide (c ∈ (("01" : Str)).cps.toList)
theorem isBit_iff {c : Nat} : isBit c = true ↔ c = 48 ∨ c = 49 := by
  unfold isBit
  rw [decide_eq_true_iff, show (("01" : Str)).cps.toList = [48, 49] from rfl]
  simp
def isBitsV : V → Bool
  | .str s => s.cps.toList.all isBit
  | _ => false
def isStrV : V → Bool
  | .str _ => true
  | _ => false
theorem bits_vtx {u : List Nat} (h : ∀ c ∈ u, c = 48 ∨ c = 49) : isBitsV (vtx u) = true := List.all_eq_true.mpr fun c hc => isBit_iff.mpr (h c hc)
theorem bits_of {x : V} (h : isBitsV x = true) : ∃ u : List Nat, x = vtx u ∧ ∀ c ∈ u, c = 48 ∨ c = 49 := by
  cases x with
  | str s => exact ⟨s.cps.toList, rfl, fun c hc => isBit_iff.mp (List.all_eq_true.mp h c hc)⟩
  | _ => cases h
section
variable {K : PySem.W.Frag} {σ : L2.St} {H : Hp} {te tl ta tb : TE} {x : V} {D : Ends}
theorem ev_isStrG (h : Ev te σ H x) (k : Thing H x) : Ev (tCB (rIsi K) (tCons te (tCons (tC (.ty "str")) tNil))) σ H (.bl (isStrV x)) := fun H1 e Q q =>
  h H1 e _ fun H2 e2 => by
    rcases k.mono (e.trans e2) with rfl | ⟨b, rfl⟩ | ⟨i, rfl⟩ | ⟨s, rfl⟩ | ⟨a, xs, rfl, g | g⟩
    · exact ⟨.non, .ty "str", _, _, _, rfl, .ty _, .base .non, kit_ty (show kitB "NoneType" "str" = some false by decide +kernel), q H2 e2⟩
    · exact ⟨.bl b, .ty "str", _, _, _, rfl, .ty _, .base (.bl _), kit_ty (show kitB "bool" "str" = some false by decide +kernel), q H2 e2⟩
    · exact ⟨.int i, .ty "str", _, _, _, rfl, .ty _, .base (.int _), kit_ty (show kitB "int" "str" = some false by decide +kernel), q H2 e2⟩
    · exact ⟨.str s, .ty "str", _, _, _, rfl, .ty _, .base (.str _), kit_ty (show kitB "str" "str" = some true by decide +kernel), q H2 e2⟩
    · exact ⟨.ref a, .ty "str", _, _, _, rfl, .ty _, .base (.lst g), kit_ty (show kitB "list" "str" = some false by decide +kernel), q H2 e2⟩
    · exact ⟨.ref a, .ty "str", _, _, _, rfl, .ty _, .base (.tup g), kit_ty (show kitB "tuple" "str" = some false by decide +kernel), q H2 e2⟩
theorem ei_str {s : Str} (h : Ev tl σ H (.str s)) : EvI (iStr tl) σ H (Its s) := fun H1 e R r => h H1 e _ fun H2 e2 => ⟨s, rfl, r H2 e2⟩
theorem ev_all {bs : List Bool} (h : EvL te σ H (bs.map V.bl)) : Ev (tCB (rAll K) (tCons te tNil)) σ H (.bl (bs.all id)) := fun H1 e Q q =>
  h H1 e _ fun p H2 _ e2 h2 => ⟨p, bs, rfl, sq_of h2, q H2 e2⟩
theorem ev_any {bs : List Bool} (h : EvL te σ H (bs.map V.bl)) : Ev (tCB (rAny K) (tCons te tNil)) σ H (.bl (bs.any id)) := fun H1 e Q q =>
  h H1 e _ fun p H2 _ e2 h2 => ⟨p, bs, rfl, sq_of h2, q H2 e2⟩
/-- a comprehension over a text's signs that takes all -/
theorem el_lcStr {s : Str} {j : Nat} {vs : List Nat} (f : Nat → V) (h : Ev tl σ H (.str s)) (hn : s.cps.size ≤ 40000) (hw : ∀ x, wipe ((wipe σ vs).set j (some x)) vs = wipe σ vs)
    (he : ∀ (i c : Nat) H1, Ex H H1 → s.cps[i]? = some c → Ev te ((wipe σ vs).set j (some (.str ⟨#[c]⟩))) H1 (f c)) : EvL (tLc (iStr tl) (gName j) tYes te vs) σ H (s.cps.toList.map f) := by
  have c := ex_lcAll (H := H) (σ := σ) (wi := iStr tl) (g := gName j) (te := te) (vs := vs) (walk_str (z := s)) (fun i y _ => ∃ c, s.cps[i]? = some c ∧ y = f c) (fun _ _ _ _ _ h => h) (fun _ _ _ _ _ _ _ h => h) (ei_str h) (fun _ _ => trivial) hn (fun i x H1 H2 hi e y => by
    obtain ⟨rfl, c, hc, rfl⟩ := y
    exact ⟨Ex.refl _, _, fun q hq => hq, hw _, fun H3 e3 Q q => he i c H2 e hc H3 e3 Q fun H4 e4 => q _ H4 e4 ⟨c, hc, rfl⟩⟩)
  have c2 : EvX (tLc (iStr tl) (gName j) tYes te vs) σ H fun ys _ => ys.length = s.cps.size ∧ ∀ i y, ys[i]? = some y → y = f (s.cps.toList.getD i 0) := fun H1 e Q q =>
    c H1 e Q fun p ys H2 hp e2 h2 hr => q p ys H2 hp e2 h2 ⟨hr.1, fun i y hy => by
      obtain ⟨c, hc, rfl⟩ := hr.2 i y hy
      rw [List.getD_eq_getElem?_getD, Array.getElem?_toList, hc]
      rfl⟩
  have c3 := el_ofEx c2
  have e : (List.range s.cps.size).map (fun i => f (s.cps.toList.getD i 0)) = s.cps.toList.map f := by
    rw [show s.cps.size = s.cps.toList.length from Array.length_toList.symm]
    conv => rhs; rw [← list_range (l := s.cps.toList), List.map_map]
    rfl
  rw [e] at c3
  exact c3
theorem rv_inBits {c : Nat} : RV (fun x y H Q => ∃ (c : Nat) (z : Str), x = .str ⟨#[c]⟩ ∧ y = .str z ∧ Q (.bl (decide (c ∈ z.cps.toList))) H) (.str ⟨#[c]⟩) (.str "01") H (.bl (isBit c)) := fun H1 e Q q => ⟨c, "01", rfl, rfl, q H1 (Ex.refl _)⟩
theorem ev_starts {v u : List Nat} (ha : Ev ta σ H (.str (tx v))) (hb : Ev tb σ H (.str (tx u))) : Ev (tM1 (fun x xs H Q => ∃ a b, x = .str a ∧ xs = [.str b] ∧ Q (.bl (Txt.startswith a b)) H) ta tb) σ H (.bl (decide (v.take u.length = u))) := fun H1 e Q q =>
  ha H1 e _ fun H2 e2 => ⟨⟨_, rfl⟩, hb H2 (e.trans e2) _ fun H3 e3 => ⟨tx v, tx u, rfl, rfl, by rw [starts_tx]; exact q H3 (e2.trans e3)⟩⟩
/-- a for over zip of two lists -/
theorem s_forZip {a : Addr} {xs ys : List V} {n i1 i2 : Nat} {tu : TS} (ha : Ev ta σ H (.ref a)) (hb : EvL tb σ H ys) (hA : SqL K H a xs) (hn : n = min xs.length ys.length)
    (k : ∀ pb H2, H pb = none → Ex H H2 → H2 pb = some (.lst ys) → ∃ Pv : Nat → L2.St → Hp → Prop, Pv 0 σ H2 ∧ (∀ i σ' H', Pv i σ' H' → Ex H2 H') ∧
      (∀ i x y σ' H' H'', i < n → Pv i σ' H' → Ex H' H'' → xs[i]? = some x → ys[i]? = some y → tu { D with nx := Pv (i + 1), ct := Pv (i + 1), bk := D.nx } ((σ'.set i1 (some x)).set i2 (some y)) H'') ∧ ∀ σ' H', Pv n σ' H' → D.nx σ' H') :
    tFor (iZip K (tCons ta (tCons tb tNil))) (gTup K 2 (gCons (gName i1) (gCons (gName i2) gNil))) tu D σ H :=
  ha H (Ex.refl H) _ fun H1 e1 => hb H1 e1 _ fun pb H2 npb e2 h2 => by
    have e12 := e1.trans e2
    obtain ⟨Pv, h0, hG, hs, hd⟩ := k pb H2 (fresh_back e1 npb) e12 h2
    refine ⟨a, pb, xs, ys, rfl, ex_l e12 hA, sq_of h2, ?_⟩
    refine for_it (walk_zip (K := K) (a := a) (b := pb) hn) Pv h0 (fun i σ' H' _ hP => ⟨ex_l (e12.trans (hG _ _ _ hP)) hA, sq_of (hG _ _ _ hP _ _ h2)⟩) (fun i v σ' H' H'' hi hP y => ?_) hd
    obtain ⟨T, x, z, rfl, hT, rfl, hx, hz⟩ := y
    exact ⟨T, [x, z], rfl, .inl (.inl upd_same), rfl, x, [z], rfl, z, [], rfl, rfl, hs i x z σ' H' _ hi hP (Ex.new hT) hx hz⟩
end
end Sl

/-! ### the Reader: its fields, its table of words -/
namespace Sl
open PySem PySem.Spec PyProof.Rows L2 Evl
theorem dc_it {J : It} {n : Nat} {G : Hp → Prop} {Y : Nat → Hp → V → Hp → Prop} (w : Walk J n G Y) {g : TG} {tt : TT} {tk tv : TE} {vs : List Nat} {σ : L2.St} {H1 : Hp} {D : Addr} {Qd : Hp → Prop} (Pv : Nat → Hp → Prop) (h0 : Pv 0 (upd H1 D (.dK []))) (hG : ∀ i H, i ≤ n → Pv i H → G H)
    (hs : ∀ i x H H', i < n → Pv i H → Y i H x H' → g x (wipe σ vs) H' fun σ2 H2 => wipe σ2 vs = wipe σ vs ∧ tt σ2 H2 fun b H3 =>
      if b = true then tk σ2 H3 fun y H4 => tv σ2 H4 fun z H5 => ∃ kvs k, y = kV k ∧ H5 D = some (.dK kvs) ∧ kvs.length < sizeLine ∧ Pv (i + 1) (upd H5 D (.dK (putK kvs k z))) else Pv (i + 1) H3) (hd : ∀ H, Pv n H → Qd H) :
    ∃ W : Nat → Nat → Hp → Prop, (∃ m, W 0 m (upd H1 D (.dK []))) ∧ ∀ i m H, W i m H →
      (J.stop i H ∧ Qd H) ∨ (J.go i H ∧ ∃ Nx : Hp → Prop, (∀ H', Nx H' → ∃ m', m' < m ∧ W (i + 1) m' H') ∧ ∀ x H', J.yld i H x H' → g x (wipe σ vs) H' fun σ2 H2 => wipe σ2 vs = wipe σ vs ∧ tt σ2 H2 fun b H3 =>
        if b = true then tk σ2 H3 fun y H4 => tv σ2 H4 fun z H5 => ∃ kvs k, y = kV k ∧ H5 D = some (.dK kvs) ∧ kvs.length < sizeLine ∧ Nx (upd H5 D (.dK (putK kvs k z))) else Nx H3) := by
  refine ⟨fun i m H => m = n - i ∧ i ≤ n ∧ Pv i H, ⟨n, by simp, Nat.zero_le _, h0⟩, ?_⟩
  rintro i m H ⟨rfl, hi, p⟩
  have q := hG i H hi p
  by_cases hlt : i < n
  · exact .inr ⟨w.goes i H hlt q, Pv (i + 1), fun H' p' => ⟨n - (i + 1), by omega, rfl, hlt, p'⟩, fun x H' y => hs i x H H' hlt p (w.yields i H x H' hlt q y)⟩
  · have e : i = n := by omega
    subst e
    exact .inl ⟨w.stops H q, hd H p⟩
/-- the first n words with their numbers -/
def sgK (us : List (List Nat)) (n : Nat) : List (Key × V) := (List.range n).map fun i => (Sum.inr (tx (us.getD i [])), V.int (i : Int))
theorem sgK_succ (us : List (List Nat)) (n : Nat) : sgK us (n + 1) = sgK us n ++ [(Sum.inr (tx (us.getD n [])), V.int (n : Int))] := by
  unfold sgK
  rw [List.range_succ, List.map_append]
  rfl
theorem sgK_len (us : List (List Nat)) (n : Nat) : (sgK us n).length = n := by
  unfold sgK
  rw [List.length_map, List.length_range]
theorem sgK_none {us : List (List Nat)} {n : Nat} {w : List Nat} (h : ∀ i, i < n → us.getD i [] ≠ w) : valV (sgK us n) (Sum.inr (tx w)) = none := by
  unfold valV
  rw [List.find?_eq_none.mpr fun kv hkv => ?_]
  · rfl
  · obtain ⟨i, hi, rfl⟩ := List.mem_map.mp hkv
    have := h i (List.mem_range.mp hi)
    simp only [decide_eq_true_eq]
    intro z
    exact this (tx_inj (Sum.inr.inj z))
theorem sgK_some {us : List (List Nat)} {w : List Nat} {i : Nat} (hi : us.getD i [] = w) : ∀ n, i < n → (∀ j, j < n → j ≠ i → us.getD j [] ≠ w) → valV (sgK us n) (Sum.inr (tx w)) = some (.int (i : Int))
  | 0, h, _ => by omega
  | n + 1, h, hu => by
    rw [sgK_succ]
    unfold valV
    rw [List.find?_append]
    by_cases e : i = n
    · subst e
      have k := sgK_none (us := us) (n := i) (w := w) fun j hj => hu j (by omega) (by omega)
      unfold valV at k
      rw [Option.map_eq_none_iff] at k
      rw [k, Option.none_or, hi]
      simp
    · have k := sgK_some hi n (by omega) fun j hj hji => hu j (by omega) hji
      unfold valV at k
      obtain ⟨kv, h1, h2⟩ := Option.map_eq_some_iff.mp k
      rw [h1]
      exact congrArg some h2
def lenV : V → Nat
  | .str s => s.cps.size
  | _ => 0
def cpsV : V → List Nat
  | .str s => s.cps.toList
  | _ => []
def rdF (ds pd : Addr) (held : List Nat) : List (Str × V) := [("_signs", .ref ds), ("_held", .str (tx held)), ("_done", .ref pd)]
theorem rdF_signs (ds pd : Addr) (hd : List Nat) : (rdF ds pd hd).lookup ("_signs" : Str) = some (.ref ds) := by
  unfold rdF
  rfl
theorem rdF_held (ds pd : Addr) (hd : List Nat) : (rdF ds pd hd).lookup ("_held" : Str) = some (.str (tx hd)) := by
  unfold rdF
  rfl
theorem rdF_done (ds pd : Addr) (hd : List Nat) : (rdF ds pd hd).lookup ("_done" : Str) = some (.ref pd) := by
  unfold rdF
  rfl
theorem rdF_putH (ds pd : Addr) (hd h2 : List Nat) : putF "_held" (.str (tx h2)) (rdF ds pd hd) = rdF ds pd h2 := by
  unfold rdF
  rfl
theorem rdF_putD (ds pd p2 : Addr) (hd : List Nat) : putF "_done" (.ref p2) (rdF ds pd hd) = rdF ds p2 hd := by
  unfold rdF
  rfl
/-- a Reader of the words us at a: its table at ds, the bits held, what is done at pd -/
structure RdAt (C : Addr) (H : Hp) (a ds pd : Addr) (us : List (List Nat)) (held : List Nat) (done : List Nat) : Prop where
  ob : ∃ dx, H a = some (.ins C dx (rdF ds pd held))
  sg : H ds = some (.dK (sgK us us.length))
  dn : H pd = some (.lst (natsV done))
theorem RdAt.mono {C : Addr} {H H' : Hp} {a ds pd : Addr} {us : List (List Nat)} {held done : List Nat} (e : Ex H H') (h : RdAt C H a ds pd us held done) : RdAt C H' a ds pd us held done := by
  obtain ⟨⟨dx, h1⟩, h2, h3⟩ := h
  exact ⟨⟨dx, e _ _ h1⟩, e _ _ h2, e _ _ h3⟩
section
variable {K : PySem.W.Frag} {σ : L2.St} {H : Hp} {te tl ta tb : TE} {x v : V} {D : Ends}
theorem ev_fld {a C dx : Addr} {fs : List (Str × V)} {f : Str} (h : Ev te σ H (.ref a)) (ho : H a = some (.ins C dx fs)) (c : Cls K C) (n : NoAttr K C f) (hl : fs.lookup f = some v) : Ev (tFld K te f) σ H v := fun H1 e Q q =>
  h H1 e _ fun H2 e2 => ⟨a, C, dx, fs, v, rfl, (e.trans e2) _ _ ho, c, n, hl, q H2 e2⟩
theorem s_fld {a C dx : Addr} {fs : List (Str × V)} {f : Str} (hv : Ev tb σ H v) (h : Ev te σ H (.ref a)) (ho : H a = some (.ins C dx fs)) (c : Cls K C) (n : NoAttr K C f) (hl : fs.length < 1000) (k : ∀ H1, Ex H H1 → D.nx σ (upd H1 a (.ins C dx (putF f v fs)))) : sFld K te tb f D σ H :=
  hv H (Ex.refl H) _ fun H1 e1 => h H1 e1 _ fun H2 e2 => ⟨a, C, dx, fs, rfl, (e1.trans e2) _ _ ho, c, n, hl, k H2 (e1.trans e2)⟩
theorem s_fldL {a C dx : Addr} {fs : List (Str × V)} {f : Str} {xs : List V} (hv : EvL tb σ H xs) (h : Ev te σ H (.ref a)) (ho : H a = some (.ins C dx fs)) (c : Cls K C) (n : NoAttr K C f) (hl : fs.length < 1000)
    (k : ∀ p H1, H p = none → Ex H H1 → H1 p = some (.lst xs) → D.nx σ (upd H1 a (.ins C dx (putF f (.ref p) fs)))) : sFld K te tb f D σ H :=
  hv H (Ex.refl H) _ fun p H1 hp e1 h1 => h H1 e1 _ fun H2 e2 => ⟨a, C, dx, fs, rfl, (e1.trans e2) _ _ ho, c, n, hl, k p H2 hp (e1.trans e2) (e2 _ _ h1)⟩
def EvD (te : TE) (σ : L2.St) (H : Hp) (kvs : List (Key × V)) : Prop := ∀ H1, Ex H H1 → ∀ Q : VK, (∀ p H2, H1 p = none → Ex H1 H2 → H2 p = some (.dK kvs) → Q (.ref p) H2) → te σ H1 Q
theorem q_fld {tz : TS} {a C dx : Addr} {fs : List (Str × V)} {f : Str} (hv : Ev tb σ H v) (h : Ev te σ H (.ref a)) (ho : H a = some (.ins C dx fs)) (c : Cls K C) (n : NoAttr K C f) (hl : fs.length < 1000) (k : ∀ H1, Ex H H1 → tz D σ (upd H1 a (.ins C dx (putF f v fs)))) : tSeq (sFld K te tb f) tz D σ H :=
  s_fld (D := { D with nx := tz D }) hv h ho c n hl k
theorem q_fldD {tz : TS} {a C dx : Addr} {fs : List (Str × V)} {f : Str} {kvs : List (Key × V)} (hv : EvD tb σ H kvs) (h : Ev te σ H (.ref a)) (ho : H a = some (.ins C dx fs)) (c : Cls K C) (n : NoAttr K C f) (hl : fs.length < 1000)
    (k : ∀ p H1, H p = none → Ex H H1 → H1 p = some (.dK kvs) → tz D σ (upd H1 a (.ins C dx (putF f (.ref p) fs)))) : tSeq (sFld K te tb f) tz D σ H :=
  hv H (Ex.refl H) _ fun p H1 hp e1 h1 => h H1 e1 _ fun H2 e2 => ⟨a, C, dx, fs, rfl, (e1.trans e2) _ _ ho, c, n, hl, k p H2 hp (e1.trans e2) (e2 _ _ h1)⟩
/-- {word: sign for sign, word in enumerate(words)} -/
theorem ed_enum {a : Addr} {us : List (List Nat)} {s l : Nat} {vs : List Nat} {t : TA} (ha : EvA t σ H [.ref a]) (hA : SqL K H a (us.map vtx)) (h4 : us.length ≤ 1000) (hd : ∀ i j, i < us.length → j < us.length → i ≠ j → us.getD i [] ≠ us.getD j [])
    (hw : ∀ v w, wipe (((wipe σ vs).set s (some v)).set l (some w)) vs = wipe σ vs) (hsl : ∀ v w : V, (((wipe σ vs).set s (some v)).set l (some w))[l]? = some (some w) ∧ (((wipe σ vs).set s (some v)).set l (some w))[s]? = some (some v)) :
    EvD (tDc (iEnum K t) (gTup K 2 (gCons (gName s) (gCons (gName l) gNil))) tYes (tVar l) (tVar s) vs) σ H (sgK us us.length) := fun H0 e0 Q q =>
  ha H0 e0 _ fun H1 e1 => by
    replace hA := ex_l e0 hA
    refine ⟨a, us.map vtx, rfl, ex_l e1 hA, fun Dd hD => ?_⟩
    refine dc_it (walk_enum (K := K) (a := a) (xs := us.map vtx)) (fun i H2 => Ex H1 H2 ∧ H2 Dd = some (.dK (sgK us i))) ⟨Ex.new hD, upd_same⟩ (fun i H2 _ p => ex_l (e1.trans p.1) hA) (fun i v H3 H4 hi p y => ?_) fun H2 p => q Dd H2 (fresh_back e1 hD) (e1.trans p.1) (by rw [← List.length_map (f := vtx)]; exact p.2)
    obtain ⟨e3, h3⟩ := p
    obtain ⟨T, x, z, rfl, hT, rfl, hx, hz⟩ := y
    have hx : V.int ((i : Nat) : Int) = x := Option.some.inj hx
    subst hx
    rw [List.length_map] at hi
    have hz : vtx (us.getD i []) = z := by
      have hz : (us.map vtx)[i]? = some z := hz
      rw [List.getElem?_map, List.getElem?_eq_getElem hi] at hz
      rw [List.getD_eq_getElem?_getD, List.getElem?_eq_getElem hi]
      exact Option.some.inj hz
    subst hz
    have eT : Ex H3 (upd H3 T (.tup [V.int (i : Int), vtx (us.getD i [])])) := Ex.new hT
    refine ⟨T, [_, _], rfl, .inl (.inl upd_same), rfl, _, [_], rfl, _, [], rfl, rfl, hw _ _, ?_⟩
    refine ⟨_, (hsl _ _).1, _, (hsl _ _).2, sgK us i, Sum.inr (tx (us.getD i [])), rfl, eT _ _ h3, ?_, Ex.mut (e3.trans eT) hD, ?_⟩
    · rw [sgK_len]
      exact sz_lt (by omega)
    · rw [upd_same, putK_new _ (sgK_none fun j hj => hd j i (by omega) hi (by omega)), sgK_succ]
theorem ev_din {d : Addr} {kvs : List (Key × V)} {k : Key} (hy : Ev te σ H (kV k)) (h : Ev ta σ H (.ref d)) (ho : H d = some (.dK kvs)) : Ev (tDIn te ta) σ H (.bl (valV kvs k).isSome) := fun H1 e Q q =>
  hy H1 e _ fun H2 e2 => h H2 (e.trans e2) _ fun H3 e3 => ⟨d, _, rfl, DGet.k (((e.trans e2).trans e3) _ _ ho), q H3 (e2.trans e3)⟩
theorem ev_dgetK {d : Addr} {kvs : List (Key × V)} {k : Key} (hy : Ev te σ H (kV k)) (h : Ev ta σ H (.ref d)) (ho : H d = some (.dK kvs)) (hv : valV kvs k = some v) : Ev (tDGet ta te) σ H v := fun H1 e Q q =>
  h H1 e _ fun H2 e2 => hy H2 (e.trans e2) _ fun H3 e3 => ⟨d, v, rfl, by rw [← hv]; exact DGet.k (((e.trans e2).trans e3) _ _ ho), q H3 (e2.trans e3)⟩
/-- [.. for word in d], d locked within -/
theorem el_lockKeys {ds : Addr} {us : List (List Nat)} {j : Nat} {vs : List Nat} (f : List Nat → V) (ho : H ds = some (.dK (sgK us us.length))) (h4 : us.length ≤ 1000) (hd : ∀ H', (∀ b o, H b = some o → b ≠ ds → H' b = some o) → Ev te σ H' (.ref ds)) (hw : ∀ x, wipe ((wipe σ vs).set j (some x)) vs = wipe σ vs)
    (he : ∀ (u : List Nat) H', Ev tb ((wipe σ vs).set j (some (.str (tx u)))) H' (f u)) : EvL (tLockE (tLc (iKeys te) (gName j) tYes tb vs)) σ H (us.map f) := fun H1 e Q q => by
  refine ⟨ds, .dK (sgK us us.length), e _ _ ho, trivial, fun od => ?_⟩
  have hI : EvI (iKeys te) σ (upd H1 ds (.frz od (.dK (sgK us us.length)))) (Itk ds od (sgK us us.length)) := fun H2 e2 R r =>
    hd H2 (fun b o hb hne => e2 b o (by rw [upd_ne hne]; exact e b o hb)) H2 (Ex.refl _) _ fun H3 e3 => ⟨ds, od, rfl, .inl ⟨sgK us us.length, e3 _ _ (e2 _ _ upd_same), r H3 (e2.trans e3 |> fun _ => e3)⟩⟩
  have c := ex_lcAll (g := gName j) (te := tb) (vs := vs) (walk_keys (d := ds) (o := od) (kvs := sgK us us.length)) (fun i y _ => y = f (us.getD i [])) (fun _ _ _ _ _ h => h) (fun _ _ _ _ _ _ _ h => h) hI (fun H2 e2 => e2 _ _ upd_same) (by rw [sgK_len]; omega) (fun i x H2 H3 hi e2 y => by
    obtain ⟨rfl, k, v, hk, rfl⟩ := y
    rw [sgK_len] at hi
    have hk' : (sgK us us.length)[i]? = some (Sum.inr (tx (us.getD i [])), V.int (i : Int)) := by
      unfold sgK
      rw [List.getElem?_map, List.getElem?_range hi]
      rfl
    rw [hk'] at hk
    cases hk
    exact ⟨Ex.refl _, _, fun q hq => hq, hw _, fun H4 e4 Q q => he _ H4 H4 (Ex.refl _) Q fun H5 e5 => q _ H5 e5 rfl⟩)
  have c2 := el_ofEx c
  rw [sgK_len] at c2
  have em : (List.range us.length).map (fun i => f (us.getD i [])) = us.map f := by
    refine List.ext_getElem? fun i => ?_
    rw [List.getElem?_map, List.getElem?_map]
    by_cases hi : i < us.length
    · rw [List.getElem?_range hi, List.getElem?_eq_getElem hi]
      show some (f (us.getD i [])) = _
      rw [List.getD_eq_getElem?_getD, List.getElem?_eq_getElem hi]
      rfl
    · rw [List.getElem?_eq_none (by rw [List.length_range]; omega), List.getElem?_eq_none (by omega)]
      rfl
  rw [em] at c2
  refine c2 _ (Ex.refl _) _ fun p H2 hp e2 h2 => ⟨e2 _ _ upd_same, ?_⟩
  have npd : p ≠ ds := fun z => by rw [z, upd_same] at hp; cases hp
  rw [upd_ne npd] at hp
  refine q p _ hp (fun b o hb => ?_) (by rw [upd_ne npd]; exact h2)
  by_cases hbd : b = ds
  · subst hbd
    rw [e _ _ ho] at hb
    rw [upd_same]
    exact hb
  · rw [upd_ne hbd]
    exact e2 b o (by rw [upd_ne hbd]; exact hb)
end
/-- o.m(e, ..) within a try: what it raises is wished for at the slots as they stand (the guide's example of a method's call within a try) -/
def tMethT (C : Addr) (m : Str) (sp : Sp) (E : L2.St → XK) (ta : TE) (t : TA) : TE := fun σ H Q => ta σ H fun x H1 => ∃ a dx fs, x = .ref a ∧ H1 a = some (.ins C dx fs) ∧ fs.lookup m = none ∧ t σ H1 fun vs H2 => sp (x :: vs) H2 Q (E σ)
theorem pe_methT {X : Cx} {CX : CXT} {k : Nat} {f C : Addr} {fd : FuncData} {ps : List Str} {sp : Sp} {E : L2.St → XK} {m : Str} {pos apos : Pos} {e o : Expr} {es : List Expr} {ta : TE} {t : TA} {pl : Sem Bool} (he : PE X o ta) (c : Cls X.K C) (hm : Meth X.K C m f)
    (F : FnOk X.prog X.w X.K X.mg X.base CX k f fd ps sp) (hr : Room k X.A) (hb : Binds X.K fd ps []) (hx : ∀ σ, PassesAt CX X σ (E σ)) (ha : PA X (e :: es) t)
    (hst : starEach (e :: es) X.env = (false, eval e X.env) :: starEach es X.env := by rfl) (hpl : (backTo pos (starEach es X.env)).any (·.1) = false := by rfl)
    (ht : eval (.Call (.Attribute o m apos) (e :: es) [] pos) X.env = (do
      let ov ← eval o X.env
      standAt apos.atName
      let (f, first) ← holding [ov] (getMethod ov m pl)
      callWith pos f first (backTo pos (starEach (e :: es) X.env)) (backToKw pos (keywordEach [] X.env))) := by rfl) :
    PE X (.Call (.Attribute o m apos) (e :: es) [] pos) (tMethT C m sp E ta t) := by
  refine ⟨fun pins s σ H Q I h => ?_⟩
  refine PySem.W.methodCall_KW (pl := pl) (thn (he.run pins s σ H _ I h) fun u s1 ⟨x, H1, I1, rx, a, dx, fs, ex, ea, l, q⟩ => ?_) ht
  subst ex
  obtain rfl : u = Value.ref a := rx
  refine getmeth_ok I1 ea c hm l ?_
  refine PySem.W.callWith_K (first := [.ref a]) (h₀ := X.base) I.ok.mod.kin hm.kp (thn (ha.run pos pins s1 σ H1 _ I1 q) fun us s2 ⟨vs, H2, I2, r, q2⟩ => ⟨I2.kIn, ?_⟩) hst hpl
  exact run_fnS (us := .ref a :: us) (vs := .ref a :: vs) F hr hb (hx σ) I2 (.cons rfl r) q2
end Sl

/-! ### leaves of a tree of bits, as words -/
namespace Sl
/-- the leaves below the word p, from the left -/
inductive LW : List Nat → List (List Nat) → Prop
  | leaf (p : List Nat) : LW p [p]
  | node {p : List Nat} {l r : List (List Nat)} : LW (p ++ [48]) l → LW (p ++ [49]) r → LW p (l ++ r)
theorem LW.pre {p : List Nat} {xs : List (List Nat)} (h : LW p xs) : ∀ w ∈ xs, ∃ s, w = p ++ s ∧ ∀ c ∈ s, c = 48 ∨ c = 49 := by
  induction h with
  | leaf p => exact fun w hw => ⟨[], by rw [List.mem_singleton.mp hw, List.append_nil], fun c hc => by cases hc⟩
  | node _ _ i1 i2 =>
    intro w hw
    rcases List.mem_append.mp hw with h | h
    · obtain ⟨s, rfl, hs⟩ := i1 w h
      exact ⟨48 :: s, by rw [List.append_assoc]; rfl, fun c hc => by
        rcases List.mem_cons.mp hc with rfl | hc
        · exact .inl rfl
        · exact hs c hc⟩
    · obtain ⟨s, rfl, hs⟩ := i2 w h
      exact ⟨49 :: s, by rw [List.append_assoc]; rfl, fun c hc => by
        rcases List.mem_cons.mp hc with rfl | hc
        · exact .inr rfl
        · exact hs c hc⟩
theorem LW.ne {p : List Nat} {xs : List (List Nat)} (h : LW p xs) : xs ≠ [] := by
  induction h with
  | leaf p => exact fun z => by cases z
  | node _ _ i1 _ => exact fun z => i1 (List.append_eq_nil_iff.mp z).1
theorem take_pre {p s : List Nat} {x : Nat} : (p ++ x :: s).take (p.length + 1) = p ++ [x] := by
  rw [List.take_append, List.take_of_length_le (by omega), show p.length + 1 - p.length = 1 by omega]
  rfl
theorem LW.apart {p : List Nat} {xs : List (List Nat)} (h : LW p xs) : xs.Pairwise ApR := by
  induction h with
  | leaf p => exact List.pairwise_singleton _ _
  | @node p l r h1 h2 i1 i2 =>
    refine List.pairwise_append.mpr ⟨i1, i2, fun u hu v hv => ?_⟩
    obtain ⟨s, rfl, _⟩ := h1.pre u hu
    obtain ⟨s2, rfl, _⟩ := h2.pre v hv
    have e1 : p ++ [48] ++ s = p ++ 48 :: s := by rw [List.append_assoc]; rfl
    have e2 : p ++ [49] ++ s2 = p ++ 49 :: s2 := by rw [List.append_assoc]; rfl
    rw [e1, e2]
    have key : ∀ {a b : Nat} {x y : List Nat}, a ≠ b → (p ++ b :: y).take (p ++ a :: x).length ≠ p ++ a :: x := fun {a b x y} hab z => by
      have z2 := congrArg (List.take (p.length + 1)) z
      rw [take_pre, List.take_take, List.length_append, List.length_cons, Nat.min_eq_left (by omega), take_pre] at z2
      have := List.append_cancel_left z2
      exact hab (List.cons.inj this).1.symm
    exact ⟨key (by decide), key (by decide)⟩
theorem LW.split {p : List Nat} {xs : List (List Nat)} (h : LW p xs) : ∀ (a b : List (List Nat)) (w : List Nat), xs = a ++ w :: b → LW p (a ++ [w ++ [48], w ++ [49]] ++ b) := by
  induction h with
  | leaf p =>
    intro a b w e
    cases a with
    | nil =>
      cases e
      exact LW.node (l := [p ++ [48]]) (r := [p ++ [49]]) (.leaf _) (.leaf _)
    | cons x a =>
      have := (List.cons.inj e).2
      simp at this
  | @node p l r h1 h2 i1 i2 =>
    intro a b w e
    rcases List.append_eq_append_iff.mp e with ⟨c, h3, h4⟩ | ⟨c, h3, h4⟩
    · subst h3
      have := i2 c b w h4
      have k := LW.node h1 this
      rw [List.append_assoc, List.append_assoc]
      rw [List.append_assoc] at k
      exact k
    · cases c with
      | nil =>
        rw [List.nil_append] at h4
        rw [List.append_nil] at h3
        subst h3
        have := i2 [] b w h4.symm
        have k := LW.node h1 this
        rw [List.append_assoc]
        exact k
      | cons x c =>
        obtain ⟨rfl, rfl⟩ := List.cons.inj h4
        have := i1 a c w h3
        have k := LW.node this h2
        rw [List.append_assoc] at k
        exact k
/-- all of them long: there are many -/
theorem LW.many {p : List Nat} {xs : List (List Nat)} (h : LW p xs) (hl : ∀ w ∈ xs, w.length = 12) (hp : p.length ≤ 12) : xs.length = 2 ^ (12 - p.length) := by
  induction h with
  | leaf p =>
    have := hl p List.mem_cons_self
    rw [this]
    rfl
  | @node p l r h1 h2 i1 i2 =>
    have hp' : p.length + 1 ≤ 12 := by
      obtain ⟨w, hw⟩ := List.exists_mem_of_ne_nil _ h1.ne
      obtain ⟨s, e, _⟩ := h1.pre w hw
      have := hl w (List.mem_append_left _ hw)
      rw [e] at this
      simp at this
      omega
    have k1 := i1 (fun w hw => hl w (List.mem_append_left _ hw)) (by rw [List.length_append]; exact hp')
    have k2 := i2 (fun w hw => hl w (List.mem_append_right _ hw)) (by rw [List.length_append]; exact hp')
    rw [List.length_append, k1, k2, List.length_append, List.length_append]
    show 2 ^ (12 - (p.length + 1)) + 2 ^ (12 - (p.length + 1)) = 2 ^ (12 - p.length)
    rw [show 12 - p.length = 12 - (p.length + 1) + 1 by omega, Nat.pow_succ]
    omega
end Sl

/-! ### lists of words: filtered, found -/
namespace Sl
open PySem PySem.Spec PyProof.Rows L2 Evl
theorem given_filterW {xs : List (List Nat)} {n : Nat} (hn : n = xs.length) (f : List Nat → Bool) : given n (fun i => f (xs.getD i [])) (fun i => vtx (xs.getD i [])) = (xs.filter f).map vtx := by
  subst hn
  unfold given
  have e : (List.range xs.length).map (fun i => xs.getD i []) = xs := by
    refine List.ext_getElem? fun i => ?_
    rw [List.getElem?_map]
    by_cases hi : i < xs.length
    · rw [List.getElem?_range hi, List.getElem?_eq_getElem hi]
      show some (xs.getD i []) = _
      rw [List.getD_eq_getElem?_getD, List.getElem?_eq_getElem hi]
      rfl
    · rw [List.getElem?_eq_none (by rw [List.length_range]; omega), List.getElem?_eq_none (by omega)]
      rfl
  conv => rhs; rw [← e, List.filter_map, List.map_map]
  rfl
theorem seqIndexW {j n : Nat} (h : j < n) : seqIndex? (j : Int) n = some j := by
  unfold seqIndex?
  simp [show ¬ ((j : Int) < 0) by omega, h]
theorem map_eraseW {α β : Type} (f : α → β) : ∀ (l : List α) (j : Nat), (l.map f).eraseIdx j = (l.eraseIdx j).map f
  | [], _ => rfl
  | _ :: _, 0 => rfl
  | x :: l, j + 1 => by
    show f x :: (l.map f).eraseIdx j = f x :: (l.eraseIdx j).map f
    rw [map_eraseW f l j]
theorem perm_eraseW {α : Type} : ∀ {l : List α} {j : Nat} (h : j < l.length), (l[j] :: l.eraseIdx j).Perm l
  | [], j, h => absurd h (Nat.not_lt_zero _)
  | x :: l, 0, _ => List.Perm.refl _
  | x :: l, j + 1, h => by
    have hj : j < l.length := Nat.lt_of_succ_lt_succ h
    have ih := perm_eraseW hj
    show (l[j] :: x :: l.eraseIdx j).Perm (x :: l)
    exact (List.Perm.swap _ _ _).trans (List.Perm.cons _ ih)
theorem LW.long {xs : List (List Nat)} (h : LW [] xs) (hn : xs ≠ [[]]) : ∀ w ∈ xs, 1 ≤ w.length := by
  generalize e : ([] : List Nat) = p at h
  cases h with
  | leaf => subst e; exact absurd rfl hn
  | node h1 h2 =>
    subst e
    intro w hw
    rcases List.mem_append.mp hw with hw | hw
    · obtain ⟨s, rfl, _⟩ := h1.pre w hw
      simp
    · obtain ⟨s, rfl, _⟩ := h2.pre w hw
      simp
section
variable {K : PySem.W.Frag} {σ : L2.St} {H : Hp} {ta tb : TE} {D : Ends}
/-- a list of words compared with a new one -/
theorem ev_eqVW {a : Addr} {xs ys : List (List Nat)} (ha : Ev ta σ H (.ref a)) (hb : EvL tb σ H (ys.map vtx)) (hS : SqL K H a (xs.map vtx)) (h1 : ∀ u ∈ xs, ∀ c ∈ u, c < 0x110000) (h2 : ∀ u ∈ ys, ∀ c ∈ u, c < 0x110000) : Ev (tOp (rEqD K) ta tb) σ H (.bl (PyData.eqv (.list (xs.map dtx)) (.list (ys.map dtx)))) := fun H1 e Q q =>
  ha H1 e _ fun H2 e2 => hb H2 (e.trans e2) _ fun p H3 _ e3 h3 => ⟨_, _, dp_txs (ex_l ((e.trans e2).trans e3) hS), dp_txs (sq_of h3), shaped_txs h1, shaped_txs h2, q H3 (e2.trans e3)⟩
theorem inV_words {w : List Nat} {us : List (List Nat)} : inV (vtx w) (us.map vtx) = (us.any fun u => decide (u = w)) := by
  unfold inV
  rw [List.any_map]
  congr 1
  funext u
  show (tx u == tx w) = _
  rw [Bool.eq_iff_iff, beq_iff_eq, decide_eq_true_iff]
  exact ⟨tx_inj, fun z => by rw [z]⟩
theorem flat_words (us : List (List Nat)) : (us.map vtx).all flatV = true := List.all_eq_true.mpr fun x hx => by
  obtain ⟨u, _, rfl⟩ := List.mem_map.mp hx
  rfl
theorem ev_inW {a : Addr} {w : List Nat} {us : List (List Nat)} (ha : Ev ta σ H (vtx w)) (hb : Ev tb σ H (.ref a)) (hS : SqL K H a (us.map vtx)) : Ev (tOp (rIn K false) ta tb) σ H (.bl (us.any fun u => decide (u = w))) := fun H1 e Q q =>
  ha H1 e _ fun H2 e2 => hb H2 (e.trans e2) _ fun H3 e3 => ⟨a, _, rfl, .inl (ex_l ((e.trans e2).trans e3) hS), rfl, flat_words us, by
    show Q (.bl (inV (vtx w) (us.map vtx))) H3
    rw [inV_words]
    exact q H3 (e2.trans e3)⟩
theorem ev_notInL {w : List Nat} {us : List (List Nat)} (ha : Ev ta σ H (vtx w)) (hb : EvL tb σ H (us.map vtx)) : Ev (tOp (rIn K true) ta tb) σ H (.bl (!us.any fun u => decide (u = w))) := fun H1 e Q q =>
  ha H1 e _ fun H2 e2 => hb H2 (e.trans e2) _ fun p H3 _ e3 h3 => ⟨p, _, rfl, .inl (sq_of h3), rfl, flat_words us, by
    show Q (.bl (!inV (vtx w) (us.map vtx))) H3
    rw [inV_words]
    exact q H3 (e2.trans e3)⟩
theorem ev_eqNilW {ws : List (List Nat)} (ha : EvL ta σ H (ws.map vtx)) (hb : EvL tb σ H []) (hc : ∀ u ∈ ws, ∀ c ∈ u, c < 0x110000) : Ev (tOp (rEqD K) ta tb) σ H (.bl ws.isEmpty) := by
  refine ev_is (ev_eqLL ha hb (fun p H1 h => dp_txs (sq_of h)) (fun p H1 h => .lst (sq_of h) .nil) (shaped_txs hc) (by decide +kernel)) ?_
  cases ws with
  | nil => rfl
  | cons u r => rfl
/-- xs.index(w) of words -/
theorem ev_indexW {a : Addr} {xs : List (List Nat)} {w : List Nat} (ha : Ev ta σ H (.ref a)) (hb : Ev tb σ H (vtx w)) (hS : SqL K H a (xs.map vtx)) (hw : w ∈ xs) : Ev (tBM K "list" (rIndex K) ta (tCons tb tNil)) σ H (.int ((xs.idxOf w : Nat) : Int)) := fun H1 e Q q =>
  ha H1 e _ fun H2 e2 => ⟨.inl ⟨rfl, xs.map vtx, ex_l (e.trans e2) hS⟩, hb H2 (e.trans e2) _ fun H3 e3 => by
    have hi := List.idxOf_lt_length_iff.mpr hw
    refine ⟨a, xs.map vtx, vtx w, xs.idxOf w, vtx w, rfl, rfl, ex_l ((e.trans e2).trans e3) hS, rfl, List.all_eq_true.mpr fun x hx => ?_, ?_, ?_, fun m z' hm hz => ?_, q H3 (e2.trans e3)⟩
    · obtain ⟨u, _, rfl⟩ := List.mem_map.mp hx
      rfl
    · rw [List.getElem?_map, List.getElem?_eq_getElem hi]
      exact congrArg (fun u => some (vtx u)) (List.getElem_idxOf hi)
    · show ((tx w) == (tx w)) = true
      exact beq_self_eq_true _
    · rw [List.getElem?_map, List.getElem?_eq_getElem (by omega)] at hz
      cases hz
      show ((tx xs[m]) == (tx w)) = false
      have ne : xs[m] ≠ w := fun z => by
        have k := List.not_of_lt_findIdx (p := (· == w)) (xs := xs) hm
        simp [z] at k
      exact beq_eq_false_iff_ne.mpr fun z => ne (tx_inj z)⟩
end
end Sl

/-! ### a Reader amid a loop: what is held beside it stays -/
namespace Sl
open PySem PySem.Spec PyProof.Rows L2 Evl
theorem goodw_apart {us : List (List Nat)} (h : us.Pairwise ApR) : ∀ (i j : Nat) (u v : List Nat), i ≠ j → us[i]? = some u → us[j]? = some v → v.take u.length ≠ u := fun i j u v hij h1 h2 => by
  obtain ⟨hi, rfl⟩ := List.getElem?_eq_some_iff.mp h1
  obtain ⟨hj, rfl⟩ := List.getElem?_eq_some_iff.mp h2
  rcases Nat.lt_or_gt_of_ne hij with h' | h'
  · exact (List.pairwise_iff_getElem.mp h i j hi hj h').1
  · exact (List.pairwise_iff_getElem.mp h j i hj hi h').2
theorem goodw_ne {us : List (List Nat)} (h : us.Pairwise ApR) : ∀ i j, i < us.length → j < us.length → i ≠ j → us.getD i [] ≠ us.getD j [] := fun i j hi hj hij z => by
  have g1 := List.getElem?_eq_getElem hi
  have g2 := List.getElem?_eq_getElem hj
  have := goodw_apart h i j _ _ hij g1 g2
  rw [List.getD_eq_getElem?_getD, List.getD_eq_getElem?_getD, g1, g2] at z
  have z : us[i] = us[j] := z
  rw [z, List.take_length] at this
  exact this rfl
def HeldOk (H : Hp) (pd pl : Addr) (hv : List V) : Prop := ∀ x ∈ hv, ∃ (t p q : Addr) (ns : List Nat), x = .ref t ∧ H t = some (.tup [.ref p, .ref q]) ∧ H p = some (.lst (natsV ns)) ∧ H q = some (.lst (natsV ns)) ∧ p ≠ pd ∧ q ≠ pd ∧ p ≠ pl ∧ q ≠ pl
section
variable {H H' : Hp} {C r pd pd' pl pd0 ds ps dx p2 : Addr} {hv : List V} {us : List (List Nat)} {hd dn hd' dn' : List Nat} {m : Nat} {f : List (Str × V)} {xs ys : List V} {H0 : Hp}
theorem HeldOk.keep (h : HeldOk H pd pl hv) (hr : H r = some (.ins C dx f)) (hpd : H pd = some (.lst xs)) (hpl : H pl = some (.lst ys)) (e : ∀ b o, H b = some o → b ≠ r → b ≠ pd → b ≠ pl → H' b = some o) (hp' : pd' = pd ∨ H pd' = none) : HeldOk H' pd' pl hv := fun x hx => by
  obtain ⟨t, p, q, ns, rfl, ht, hp, hq, n1, n2, n3, n4⟩ := h x hx
  have t1 : t ≠ r := fun z => by rw [z, hr] at ht; cases ht
  have t2 : t ≠ pd := fun z => by rw [z, hpd] at ht; cases ht
  have t3 : t ≠ pl := fun z => by rw [z, hpl] at ht; cases ht
  have p1 : p ≠ r := fun z => by rw [z, hr] at hp; cases hp
  have q1 : q ≠ r := fun z => by rw [z, hr] at hq; cases hq
  refine ⟨t, p, q, ns, rfl, e _ _ ht t1 t2 t3, e _ _ hp p1 n1 n3, e _ _ hq q1 n2 n4, ?_, ?_, n3, n4⟩
  · rcases hp' with rfl | hn
    · exact n1
    · exact fun z => by rw [z, hn] at hp; cases hp
  · rcases hp' with rfl | hn
    · exact n2
    · exact fun z => by rw [z, hn] at hq; cases hq
/-- H0: the heap ahead of the loop; r the Reader, pd0 its first list, pl the list of what is held -/
structure LpR (C : Addr) (H0 : Hp) (r pd0 pl : Addr) (us : List (List Nat)) (hd dn : List Nat) (ds pd : Addr) (m : Nat) (H' : Hp) : Prop where
  ch : ∀ b o, H0 b = some o → b ≠ r → b ≠ pd0 → b ≠ pl → H' b = some o
  rd : RdAt C H' r ds pd us hd dn
  np : pd = pd0 ∨ H0 pd = none
  ne : pd ≠ pl
  hv : ∃ hv, H' pl = some (.lst hv) ∧ hv.length ≤ m ∧ HeldOk H' pd pl hv
theorem LpR.ex (h : LpR C H0 r pd0 pl us hd dn ds pd m H) (e : Ex H H') : LpR C H0 r pd0 pl us hd dn ds pd m H' := by
  obtain ⟨⟨dx, h1⟩, _, h3⟩ := h.rd
  obtain ⟨hv, g1, g2, g3⟩ := h.hv
  exact ⟨fun b o hb x y z => e _ _ (h.ch b o hb x y z), h.rd.mono e, h.np, h.ne, hv, e _ _ g1, g2, g3.keep h1 h3 g1 (fun b o hb _ _ _ => e b o hb) (.inl rfl)⟩
theorem LpR.again (h : LpR C H0 r pd0 pl us hd dn ds pd m H) (hR : RdAt C H' r ds p2 us [] []) (e : ∀ b o, H b = some o → b ≠ r → H' b = some o) (np : H p2 = none) : LpR C H0 r pd0 pl us [] [] ds p2 m H' := by
  obtain ⟨⟨dx, h1⟩, _, h3⟩ := h.rd
  obtain ⟨hv, g1, g2, g3⟩ := h.hv
  have nr : p2 ≠ r := fun z => by rw [z, h1] at np; cases np
  have nl : p2 ≠ pl := fun z => by rw [z, g1] at np; cases np
  refine ⟨fun b o hb x y z => e _ _ (h.ch b o hb x y z) x, hR, ?_, nl, hv, e _ _ g1 fun z => ?_, g2, g3.keep h1 h3 g1 (fun b o hb x _ _ => e b o hb x) (.inr np)⟩
  · by_cases z : p2 = pd0
    · exact .inl z
    · refine .inr ?_
      cases k : H0 p2 with
      | none => rfl
      | some o =>
        have := h.ch p2 o k nr z nl
        rw [np] at this
        cases this
  · rw [z, h1] at g1
    cases g1
theorem LpR.took (h : LpR C H0 r pd0 pl us hd dn ds pd m H) (hR : RdAt C H' r ds pd us hd' dn') (e : ∀ b o, H b = some o → b ≠ r → b ≠ pd → H' b = some o) : LpR C H0 r pd0 pl us hd' dn' ds pd m H' := by
  obtain ⟨⟨dx, h1⟩, _, h3⟩ := h.rd
  obtain ⟨hv, g1, g2, g3⟩ := h.hv
  refine ⟨fun b o hb x y z => e _ _ (h.ch b o hb x y z) x fun k => ?_, hR, h.np, h.ne, hv, e _ _ g1 (fun z => ?_) h.ne.symm, g2, g3.keep h1 h3 g1 (fun b o hb x y _ => e b o hb x y) (.inl rfl)⟩
  · rcases h.np with hp | hp
    · exact y (k.trans hp)
    · rw [k, hp] at hb
      cases hb
  · rw [z, h1] at g1
    cases g1
theorem LpR.stood (h : LpR C H0 r pd0 pl us hd dn ds pd m H) {hv hv' : List V} (hl : H pl = some (.lst hv)) (hl' : H' pl = some (.lst hv')) (e : ∀ b o, H b = some o → b ≠ pl → H' b = some o)
    (k : hv' = hv ∨ ∃ t p q, hv' = hv ++ [.ref t] ∧ H' t = some (.tup [.ref p, .ref q]) ∧ H' p = some (.lst (natsV dn)) ∧ H' q = some (.lst (natsV dn)) ∧ H p = none ∧ H q = none) : LpR C H0 r pd0 pl us hd dn ds pd (m + 1) H' := by
  obtain ⟨⟨dx, h1⟩, h2, h3⟩ := h.rd
  obtain ⟨hv0, g1, g2, g3⟩ := h.hv
  rw [hl] at g1
  cases g1
  have n1 : r ≠ pl := fun z => by rw [← z, h1] at hl; cases hl
  have n2 : ds ≠ pl := fun z => by rw [← z, h2] at hl; cases hl
  have g4 : HeldOk H' pd pl hv := g3.keep h1 h3 hl (fun b o hb _ _ z => e b o hb z) (.inl rfl)
  refine ⟨fun b o hb x y z => e _ _ (h.ch b o hb x y z) z, ⟨⟨dx, e _ _ h1 n1⟩, e _ _ h2 n2, e _ _ h3 h.ne⟩, h.np, h.ne, hv', hl', ?_, ?_⟩
  · rcases k with rfl | ⟨t, p, q, rfl, _⟩
    · omega
    · rw [List.length_append]
      show hv.length + 1 ≤ m + 1
      omega
  · rcases k with rfl | ⟨t, p, q, rfl, k1, k2, k3, k4, k5⟩
    · exact g4
    · intro x hx
      rcases List.mem_append.mp hx with hx | hx
      · exact g4 x hx
      · rw [List.mem_singleton.mp hx]
        exact ⟨t, p, q, dn, rfl, k1, k2, k3, fun z => (by rw [z, h3] at k4; cases k4), fun z => (by rw [z, h3] at k5; cases k5), fun z => (by rw [z, hl] at k4; cases k4), fun z => (by rw [z, hl] at k5; cases k5)⟩
end
section
variable {K : PySem.W.Frag} {σ : L2.St} {H H' : Hp} {te tl ta tb : TE} {x v : V} {D : Ends} {t : TT} {tz tu : TS}
theorem q_reverse {l : Addr} {xs : List V} (hl : H l = some (.lst xs)) (ha : Ev te σ H (.ref l)) (k : ∀ H1, Ex H H1 → tz D σ (upd H1 l (.lst xs.reverse))) : tSeq (tDrop (tBM0 K "list" rReverse te)) tz D σ H := ha H (Ex.refl H) _ fun H1 e1 => ⟨Or.inl ⟨rfl, xs, sq_of (e1 l _ hl)⟩, l, xs, rfl, rfl, e1 _ _ hl, k H1 e1⟩
/-- an if that isn't taken, its test leaving R behind -/
theorem q_whenR {R : Hp → Prop} (h : ∀ Q : Bool → Hp → Prop, (∀ H2, R H2 → Q false H2) → t σ H Q) (k : ∀ H2, R H2 → tz D σ H2) : tSeq (tIfS t tu tNext) tz D σ H := h _ fun H2 r => k H2 r
theorem s_whenR {R : Hp → Prop} (h : ∀ Q : Bool → Hp → Prop, (∀ H2, R H2 → Q false H2) → t σ H Q) (k : ∀ H2, R H2 → D.nx σ H2) : tIfS t tu tNext D σ H := h _ fun H2 r => k H2 r
/-- of the pairs held none differs -/
theorem el_held {ph pd pl : Addr} {hv : List V} {i j : Nat} {vs : List Nat} (hh : Ev tl σ H (.ref ph)) (hS : H ph = some (.lst hv)) (hk : HeldOk H pd pl hv) (hij : ∀ v w : V, (((wipe σ vs).set i (some v)).set j (some w))[i]? = some (some v) ∧ (((wipe σ vs).set i (some v)).set j (some w))[j]? = some (some w)) (hw : ∀ v w, wipe (((wipe σ vs).set i (some v)).set j (some w)) vs = wipe σ vs) :
    EvL (tLc (iList K tl) (gTup K 2 (gCons (gName i) (gCons (gName j) gNil))) (tTest (tOp (rNeD K) (tVar i) (tVar j))) te vs) σ H [] := fun H0 e0 Q q =>
  hh H0 e0 _ fun H1 e1 => ⟨ph, rfl, ⟨hv, sq_of (e1 _ _ (e0 _ _ hS))⟩, fun Dl hD => lc_list (xs := hv) (fun _ H2 => Ex H1 H2 ∧ H2 Dl = some (.lst [])) ⟨Ex.new hD, upd_same⟩ (fun _ H2 _ p => sq_of ((e0.trans (e1.trans p.1)) _ _ hS)) (fun n x H2 hx p => by
    obtain ⟨e2, h2⟩ := p
    obtain ⟨t0, p, q', ns, rfl, ht, hp, hq, _⟩ := hk x (List.mem_of_getElem? hx)
    have e02 := e0.trans (e1.trans e2)
    have g1 := e02 _ _ hp
    have g2 := e02 _ _ hq
    rw [natsV_ints] at g1 g2
    refine ⟨t0, _, rfl, st_of (e02 _ _ ht), rfl, _, _, rfl, _, _, rfl, rfl, hw _ _, ?_⟩
    refine ⟨_, (hij _ _).1, _, (hij _ _).2, _, _, dp_ints (sq_of g1), dp_ints (sq_of g2), shaped_ints _, shaped_ints _, ?_⟩
    rw [eqv_same (shaped_ints _)]
    exact ⟨false, rfl, e2, h2⟩) fun H2 p => q Dl H2 (fresh_back e1 hD) (e1.trans p.1) p.2⟩
end
end Sl

/-! ### rows read: along the words, one bit after the other -/
namespace Sl
open PySem PySem.Spec PyProof.Rows L2 Evl
def GoodW (us : List (List Nat)) : Prop := us.length ≤ 24 ∧ (∀ u ∈ us, 1 ≤ u.length ∧ u.length ≤ 12 ∧ ∀ c ∈ u, c = 48 ∨ c = 49) ∧ us.Pairwise ApR
/-- what the bits m tell: a sign, or that more is to come, or nothing -/
def stepOf (us : List (List Nat)) (m : List Nat) : Option (Option Nat) :=
  if (us.any fun u => decide (u = m)) = true then some (some (us.idxOf m)) else if (us.any fun u => decide (u.take m.length = m)) = true then some none else none
def readGo (us : List (List Nat)) : List Nat → List Nat → List Nat → Option (List Nat)
  | [], hd, dn => if hd = [] then some dn else none
  | c :: cs, hd, dn => match stepOf us (hd ++ [c]) with
    | none => none
    | some none => readGo us cs (hd ++ [c]) dn
    | some (some i) => readGo us cs [] (dn ++ [i])
theorem readGo_none {us : List (List Nat)} {c : Nat} {cs hd dn : List Nat} (h : stepOf us (hd ++ [c]) = none) : readGo us (c :: cs) hd dn = none := by
  unfold readGo
  rw [h]
theorem readGo_more {us : List (List Nat)} {c : Nat} {cs hd dn : List Nat} (h : stepOf us (hd ++ [c]) = some none) : readGo us (c :: cs) hd dn = readGo us cs (hd ++ [c]) dn := by
  conv => lhs; unfold readGo
  rw [h]
theorem readGo_sign {us : List (List Nat)} {c i : Nat} {cs hd dn : List Nat} (h : stepOf us (hd ++ [c]) = some (some i)) : readGo us (c :: cs) hd dn = readGo us cs [] (dn ++ [i]) := by
  conv => lhs; unfold readGo
  rw [h]
theorem step_bits {us : List (List Nat)} {m : List Nat} (hu : ∀ u ∈ us, ∀ c ∈ u, c = 48 ∨ c = 49) (h : stepOf us m ≠ none) : ∀ c ∈ m, c = 48 ∨ c = 49 := fun c hc => by
  unfold stepOf at h
  by_cases h1 : (us.any fun u => decide (u = m)) = true
  · obtain ⟨u, k1, k2⟩ := List.any_eq_true.mp h1
    have k2 := of_decide_eq_true k2
    subst k2
    exact hu u k1 c hc
  · rw [if_neg h1] at h
    by_cases h2 : (us.any fun u => decide (u.take m.length = m)) = true
    · obtain ⟨u, k1, k2⟩ := List.any_eq_true.mp h2
      have k2 := of_decide_eq_true k2
      rw [← k2] at hc
      exact hu u k1 c (List.mem_of_mem_take hc)
    · rw [if_neg h2] at h
      exact absurd rfl h
theorem readGo_bad {us : List (List Nat)} (hu : ∀ u ∈ us, ∀ c ∈ u, c = 48 ∨ c = 49) : ∀ (cs hd dn : List Nat), (∃ c ∈ cs, ¬ (c = 48 ∨ c = 49)) → readGo us cs hd dn = none
  | [], _, _, h => by obtain ⟨c, hc, _⟩ := h; cases hc
  | c :: cs, hd, dn, h => by
    cases k : stepOf us (hd ++ [c]) with
    | none => exact readGo_none k
    | some z =>
      have hc := step_bits hu (m := hd ++ [c]) (by rw [k]; simp) c (List.mem_append_right _ List.mem_cons_self)
      have h' : ∃ c ∈ cs, ¬ (c = 48 ∨ c = 49) := by
        obtain ⟨x, hx, nx⟩ := h
        rcases List.mem_cons.mp hx with rfl | hx
        · exact absurd hc nx
        · exact ⟨x, hx, nx⟩
      cases z with
      | none => rw [readGo_more k]; exact readGo_bad hu cs _ _ h'
      | some i => rw [readGo_sign k]; exact readGo_bad hu cs _ _ h'
theorem readGo_word {us : List (List Nat)} (hap : us.Pairwise ApR) {k : Nat} : ∀ (s p rest dn : List Nat), s ≠ [] → us[k]? = some (p ++ s) → readGo us (s ++ rest) p dn = readGo us rest [] (dn ++ [k])
  | [], _, _, _, h, _ => absurd rfl h
  | c :: s, p, rest, dn, _, hk => by
    have hpa := goodw_apart hap
    cases s with
    | nil =>
      have hm := List.mem_of_getElem? hk
      have e : us.idxOf (p ++ [c]) = k := by
        have k1 := List.idxOf_lt_length_iff.mpr hm
        have k2 : us[us.idxOf (p ++ [c])] = p ++ [c] := List.getElem_idxOf k1
        by_cases z : us.idxOf (p ++ [c]) = k
        · exact z
        · have g := List.getElem?_eq_getElem k1
          rw [k2] at g
          exact absurd List.take_length (hpa _ _ _ _ z g hk)
      refine readGo_sign (hd := p) ?_
      unfold stepOf
      rw [if_pos (List.any_eq_true.mpr ⟨_, hm, decide_eq_true rfl⟩), e]
    | cons d s =>
      have hm := List.mem_of_getElem? hk
      have ht : (p ++ c :: d :: s).take (p ++ [c]).length = p ++ [c] := by
        rw [List.length_append, show p ++ c :: d :: s = (p ++ [c]) ++ d :: s by simp, show p.length + [c].length = (p ++ [c]).length by simp, List.take_left']
        rfl
      have n1 : ¬ (us.any fun u => decide (u = p ++ [c])) = true := fun z => by
        obtain ⟨v, k1, k2⟩ := List.any_eq_true.mp z
        have k2 := of_decide_eq_true k2
        subst k2
        obtain ⟨j, hj, hv⟩ := List.getElem_of_mem k1
        have g := List.getElem?_eq_getElem hj
        rw [hv] at g
        have njk : j ≠ k := fun z => by
          subst z
          rw [hk] at g
          have := congrArg List.length (Option.some.inj g)
          simp at this
        exact hpa j k _ _ njk g hk ht
      have n2 : (us.any fun u => decide (u.take (p ++ [c]).length = p ++ [c])) = true := List.any_eq_true.mpr ⟨_, hm, decide_eq_true ht⟩
      have st : stepOf us (p ++ [c]) = some none := by
        unfold stepOf
        rw [if_neg n1, if_pos n2]
      show readGo us (c :: (d :: s ++ rest)) p dn = _
      rw [readGo_more st]
      exact readGo_word hap (d :: s) (p ++ [c]) rest dn (by simp) (by rw [hk]; simp)
/-- the bits of a row -/
def bitsOf (us : List (List Nat)) (ss : List Nat) : List Nat := ss.flatMap fun s => us.getD s []
theorem readGo_row {us : List (List Nat)} (hG : GoodW us) : ∀ (ss dn : List Nat), (∀ s ∈ ss, s < us.length) → readGo us (bitsOf us ss) [] dn = some (dn ++ ss)
  | [], dn, _ => by
    rw [List.append_nil]
    rfl
  | s :: ss, dn, h => by
    have hs := h s List.mem_cons_self
    have g := List.getElem?_eq_getElem hs
    have e : us.getD s [] = us[s] := by rw [List.getD_eq_getElem?_getD, g]; rfl
    have l1 := (hG.2.1 us[s] (List.getElem_mem hs)).1
    show readGo us (us.getD s [] ++ bitsOf us ss) [] dn = _
    rw [e, readGo_word hG.2.2 us[s] [] (bitsOf us ss) dn (fun z => by rw [z] at l1; exact absurd l1 (by decide)) g, readGo_row hG ss _ fun x hx => h x (List.mem_cons_of_mem _ hx), List.append_assoc]
    rfl
theorem bitsOf_len {us : List (List Nat)} (h : ∀ u ∈ us, u.length ≤ 12) : ∀ ss : List Nat, (bitsOf us ss).length ≤ 12 * ss.length
  | [] => Nat.le_refl _
  | s :: ss => by
    have k := bitsOf_len h ss
    show (us.getD s [] ++ bitsOf us ss).length ≤ 12 * (ss.length + 1)
    rw [List.length_append]
    have : (us.getD s []).length ≤ 12 := by
      rw [List.getD_eq_getElem?_getD]
      cases g : us[s]? with
      | none => exact Nat.zero_le _
      | some u => exact h u (List.mem_of_getElem? g)
    omega
theorem bitsOf_bits {us : List (List Nat)} (h : ∀ u ∈ us, ∀ c ∈ u, c = 48 ∨ c = 49) (ss : List Nat) : ∀ c ∈ bitsOf us ss, c = 48 ∨ c = 49 := fun c hc => by
  obtain ⟨s, _, k⟩ := List.mem_flatMap.mp hc
  rw [List.getD_eq_getElem?_getD] at k
  cases g : us[s]? with
  | none => rw [g] at k; cases k
  | some u => rw [g] at k; exact h u (List.mem_of_getElem? g) c k
theorem readGo_lt {us : List (List Nat)} : ∀ (cs hd dn ss : List Nat), readGo us cs hd dn = some ss → (∀ s ∈ dn, s < us.length) → ∀ s ∈ ss, s < us.length
  | [], hd, dn, ss, h, k => by
    unfold readGo at h
    split at h
    · cases h; exact k
    · cases h
  | c :: cs, hd, dn, ss, h, k => by
    cases z : stepOf us (hd ++ [c]) with
    | none => rw [readGo_none z] at h; cases h
    | some y =>
      cases y with
      | none => rw [readGo_more z] at h; exact readGo_lt cs _ _ ss h k
      | some i =>
        rw [readGo_sign z] at h
        refine readGo_lt cs _ _ ss h fun s hs => ?_
        rcases List.mem_append.mp hs with hs | hs
        · exact k s hs
        · rw [List.mem_singleton.mp hs]
          unfold stepOf at z
          by_cases h1 : (us.any fun u => decide (u = hd ++ [c])) = true
          · rw [if_pos h1] at z
            cases z
            obtain ⟨u, k1, k2⟩ := List.any_eq_true.mp h1
            have k2 := of_decide_eq_true k2
            rw [← k2]
            exact List.idxOf_lt_length_iff.mpr k1
          · rw [if_neg h1] at z
            split at z <;> cases z
theorem readGo_many {us : List (List Nat)} : ∀ (cs hd dn ss : List Nat), readGo us cs hd dn = some ss → ss.length ≤ dn.length + cs.length
  | [], hd, dn, ss, h => by
    unfold readGo at h
    split at h
    · cases h; exact Nat.le_refl _
    · cases h
  | c :: cs, hd, dn, ss, h => by
    cases z : stepOf us (hd ++ [c]) with
    | none => rw [readGo_none z] at h; cases h
    | some y =>
      cases y with
      | none => rw [readGo_more z] at h; have := readGo_many cs _ _ ss h; rw [List.length_cons]; omega
      | some i => rw [readGo_sign z] at h; have := readGo_many cs _ _ ss h; rw [List.length_append] at this; rw [List.length_cons]; simp at this; omega
/-! ### in rising order neighbours are enough -/
theorem pre_between : ∀ {u w v : List Nat}, ¬ w < u → ¬ v < w → v.take u.length = u → w.take u.length = u
  | [], w, v, _, _, _ => rfl
  | x :: u, w, [], _, _, h => by cases h
  | x :: u, [], y :: v, h1, _, _ => absurd List.Lex.nil h1
  | x :: u, z :: w, y :: v, h1, h2, h3 => by
    have h4 : y :: v.take u.length = x :: u := h3
    obtain ⟨e1, e2⟩ := List.cons.inj h4
    clear h3 h4
    subst e1
    have g1 : ¬ z < y := fun k => h1 (List.Lex.rel k)
    have g2 : ¬ y < z := fun k => h2 (List.Lex.rel k)
    have e : z = y := by omega
    subst e
    have k := pre_between (u := u) (w := w) (v := v) (fun k => h1 (List.Lex.cons k)) (fun k => h2 (List.Lex.cons k)) e2
    show z :: w.take u.length = z :: u
    rw [k]
theorem pre_lt : ∀ {u v : List Nat}, u.take v.length = v → v = u ∨ v < u
  | [], [], _ => .inl rfl
  | [], y :: v, h => by cases h
  | x :: u, [], _ => .inr List.Lex.nil
  | x :: u, y :: v, h => by
    have h4 : x :: u.take v.length = y :: v := h
    obtain ⟨e1, e2⟩ := List.cons.inj h4
    clear h h4
    subst e1
    rcases pre_lt e2 with e | k
    · exact .inl (by rw [e])
    · exact .inr (List.Lex.cons k)
theorem apart_sorted : ∀ {zs : List (List Nat)}, zs.Pairwise (fun a b => ¬ b < a) → (∀ (i : Nat) (u v : List Nat), zs[i]? = some u → zs[i + 1]? = some v → v.take u.length ≠ u) → zs.Pairwise ApR
  | [], _, _ => .nil
  | [u], _, _ => List.pairwise_singleton _ _
  | u :: w :: r, hs, hn => by
    obtain ⟨h1, h2⟩ := List.pairwise_cons.mp hs
    have ih := apart_sorted h2 fun i a b ha hb => hn (i + 1) a b ha hb
    have h0 : w.take u.length ≠ u := hn 0 u w rfl rfl
    have key : ∀ v ∈ w :: r, v.take u.length ≠ u := fun v hv z => by
      have hwv : ¬ v < w := by
        rcases List.mem_cons.mp hv with rfl | hv
        · exact List.lt_irrefl _
        · exact (List.pairwise_cons.mp h2).1 v hv
      exact h0 (pre_between (h1 w List.mem_cons_self) hwv z)
    refine List.pairwise_cons.mpr ⟨fun v hv => ⟨key v hv, fun z => ?_⟩, ih⟩
    rcases pre_lt z with e | k
    · exact key v hv (by rw [e, List.take_length])
    · exact h1 v hv k
/-! ### words that may be no words -/
def GoodX (xs : List V) : Prop := ∃ us, xs = us.map vtx ∧ GoodW us
def ThW (H : Hp) (xs : List V) : Prop := ∀ x ∈ xs, Thing H x ∧ ∀ s, x = .str s → s.cps.size ≤ 1000
theorem ThW.mono {H H' : Hp} {xs : List V} (e : Ex H H') (h : ThW H xs) : ThW H' xs := fun x hx => ⟨(h x hx).1.mono e, (h x hx).2⟩
theorem vtx_map_inj : ∀ {us vs : List (List Nat)}, us.map vtx = vs.map vtx → us = vs
  | [], [], _ => rfl
  | [], v :: vs, h => by cases h
  | u :: us, [], h => by cases h
  | u :: us, v :: vs, h => by
    have h : vtx u :: us.map vtx = vtx v :: vs.map vtx := h
    obtain ⟨h1, h2⟩ := List.cons.inj h
    rw [tx_inj (V.str.inj h1), vtx_map_inj h2]
/-- one word by itself -/
def oneOk (x : V) : Prop := ∃ u : List Nat, x = vtx u ∧ 1 ≤ u.length ∧ u.length ≤ 12 ∧ ∀ c ∈ u, c = 48 ∨ c = 49
theorem GoodX.one {xs : List V} (h : GoodX xs) : xs.length ≤ 24 ∧ ∀ x ∈ xs, oneOk x := by
  obtain ⟨us, rfl, h1, h2, _⟩ := h
  refine ⟨by rw [List.length_map]; exact h1, fun x hx => ?_⟩
  obtain ⟨u, hu, rfl⟩ := List.mem_map.mp hx
  exact ⟨u, rfl, h2 u hu⟩
theorem ones_words : ∀ {xs : List V}, (∀ x ∈ xs, oneOk x) → ∃ us : List (List Nat), xs = us.map vtx ∧ ∀ u ∈ us, 1 ≤ u.length ∧ u.length ≤ 12 ∧ ∀ c ∈ u, c = 48 ∨ c = 49
  | [], _ => ⟨[], rfl, fun _ h => by cases h⟩
  | x :: r, h => by
    obtain ⟨u, rfl, hu⟩ := h x List.mem_cons_self
    obtain ⟨us, rfl, k⟩ := ones_words fun z hz => h z (List.mem_cons_of_mem _ hz)
    exact ⟨u :: us, rfl, fun v hv => (List.mem_cons.mp hv).elim (fun e => e ▸ hu) (k v)⟩
end Sl

/-! ### the text by places -/
namespace Sl
open PySem PySem.Spec PyProof.Rows L2 Evl
def topS (i : Nat) : Stmt := PySem.Challenge.pw_shortlimit_k13_a_reader.main.body.getD i (.Pass ⟨0, 0, 0, 0⟩)
abbrev s_is_bits : Stmt := topS 13
abbrev N_is_bits : List Str := ["thing", "bit"]
theorem sc_is_bits : FnScope N_is_bits ["thing"] (defScope s_is_bits) := ⟨rfl, rfl, rfl, by decide +kernel, rfl, by decide +kernel, by decide +kernel⟩
abbrev s_check_words : Stmt := topS 14
abbrev N_check_words : List Str := ["words", "word", "risen", "ahead"]
theorem sc_check_words : FnScope N_check_words ["words"] (defScope s_check_words) := ⟨rfl, rfl, rfl, by decide +kernel, rfl, by decide +kernel, by decide +kernel⟩
abbrev s_reader_init : Stmt := inClass (topS 16) 0
abbrev N_reader_init : List Str := ["self", "words", "sign", "word"]
theorem sc_reader_init : FnScope N_reader_init ["self", "words"] (defScope s_reader_init) := ⟨rfl, rfl, rfl, by decide +kernel, rfl, by decide +kernel, by decide +kernel⟩
abbrev s_reader_take : Stmt := inClass (topS 16) 1
abbrev N_reader_take : List Str := ["self", "bit", "held", "sign", "word"]
theorem sc_reader_take : FnScope N_reader_take ["self", "bit"] (defScope s_reader_take) := ⟨rfl, rfl, rfl, by decide +kernel, rfl, by decide +kernel, by decide +kernel⟩
abbrev s_reader_held : Stmt := inClass (topS 16) 2
abbrev N_reader_held : List Str := ["self"]
theorem sc_reader_held : FnScope N_reader_held ["self"] (defScope s_reader_held) := ⟨rfl, rfl, rfl, by decide +kernel, rfl, by decide +kernel, by decide +kernel⟩
abbrev s_reader_done : Stmt := inClass (topS 16) 3
abbrev N_reader_done : List Str := ["self"]
theorem sc_reader_done : FnScope N_reader_done ["self"] (defScope s_reader_done) := ⟨rfl, rfl, rfl, by decide +kernel, rfl, by decide +kernel, by decide +kernel⟩
abbrev s_reader_again : Stmt := inClass (topS 16) 4
abbrev N_reader_again : List Str := ["self"]
theorem sc_reader_again : FnScope N_reader_again ["self"] (defScope s_reader_again) := ⟨rfl, rfl, rfl, by decide +kernel, rfl, by decide +kernel, by decide +kernel⟩
abbrev s_lw_cell : Stmt := topS 18
abbrev N_lw_cell : List Str := ["_law_script", "_law_k", "_law_number"]
theorem sc_lw_cell : FnScope N_lw_cell ["_law_script", "_law_k"] (defScope s_lw_cell) := ⟨rfl, rfl, rfl, by decide +kernel, rfl, by decide +kernel, by decide +kernel⟩
abbrev s_lw_word_of : Stmt := topS 19
abbrev N_lw_word_of : List Str := ["_law_error", "_law_found"]
theorem sc_lw_word_of : FnScope N_lw_word_of ["_law_error"] (defScope s_lw_word_of) := ⟨rfl, rfl, rfl, by decide +kernel, rfl, by decide +kernel, by decide +kernel⟩
abbrev s_lw_words : Stmt := topS 20
abbrev N_lw_words : List Str := ["_law_script", "_law_first", "_law_many", "_law_words_here", "_law_k", "_law_word", "_law_shallow", "_law_at", "_law_found"]
theorem sc_lw_words : FnScope N_lw_words ["_law_script", "_law_first"] (defScope s_lw_words) := ⟨rfl, rfl, rfl, by decide +kernel, rfl, by decide +kernel, by decide +kernel⟩
abbrev s_lw_due : Stmt := topS 21
abbrev N_lw_due : List Str := ["_law_words_here", "_law_bits", "_law_bit_here", "_law_more", "_law_word"]
theorem sc_lw_due : FnScope N_lw_due ["_law_words_here", "_law_bits", "_law_bit_here"] (defScope s_lw_due) := ⟨rfl, rfl, rfl, by decide +kernel, rfl, by decide +kernel, by decide +kernel⟩
abbrev s_lw_told : Stmt := topS 22
abbrev N_lw_told : List Str := ["_law_reader", "_law_bit_here", "_law_error"]
theorem sc_lw_told : FnScope N_lw_told ["_law_reader", "_law_bit_here"] (defScope s_lw_told) := ⟨rfl, rfl, rfl, by decide +kernel, rfl, by decide +kernel, by decide +kernel⟩
abbrev s_lw_alike : Stmt := topS 23
abbrev N_lw_alike : List Str := ["_law_found", "_law_due_here"]
theorem sc_lw_alike : FnScope N_lw_alike ["_law_found", "_law_due_here"] (defScope s_lw_alike) := ⟨rfl, rfl, rfl, by decide +kernel, rfl, by decide +kernel, by decide +kernel⟩
abbrev s_lw_bit : Stmt := topS 24
abbrev N_lw_bit : List Str := ["_law_words_here", "_law_bits", "_law_cell_here", "_law_word", "_law_on"]
theorem sc_lw_bit : FnScope N_lw_bit ["_law_words_here", "_law_bits", "_law_cell_here"] (defScope s_lw_bit) := ⟨rfl, rfl, rfl, by decide +kernel, rfl, by decide +kernel, by decide +kernel⟩
abbrev s_lw_stands : Stmt := topS 25
abbrev N_lw_stands : List Str := ["_law_reader", "_law_bits", "_law_signs", "_law_cell_here", "_law_held", "_law_told_here", "_law_sign"]
theorem sc_lw_stands : FnScope N_lw_stands ["_law_reader", "_law_bits", "_law_signs", "_law_cell_here", "_law_held"] (defScope s_lw_stands) := ⟨rfl, rfl, rfl, by decide +kernel, rfl, by decide +kernel, by decide +kernel⟩
abbrev s_law : Stmt := topS 26
abbrev N_law : List Str := ["_law_script", "_law_words_here", "_law_handed", "_law_reader", "_law_beside", "_law_bits", "_law_signs", "_law_held", "_law_cell_here", "_law_bit_here", "_law_due_here", "_law_told_here", "_law_copy"]
theorem sc_law : FnScope N_law ["_law_script"] (defScope s_law) := ⟨rfl, rfl, rfl, by decide +kernel, rfl, by decide +kernel, by decide +kernel⟩
/-- a def behind the top -/
structure Def (K : PySem.W.Frag) (mg : Str → Option Value) (x : Str) (st : Stmt) (f : Addr) (fd : FuncData) (ps : List Str) : Prop where
  F : Fun K x x st f fd
  g : mg x = some (.ref f)
  b : Binds K fd ps []
/-- an own class of errors -/
structure XCls (K : PySem.W.Frag) (mg : Str → Option Value) (x : Str) (C : Addr) : Prop where
  gC : mg x = some (.ref C)
  xC : PySem.W.excIn K C [.type "ValueError", .type "Exception", .type "BaseException", .type "object"] "ValueError.__new__" = true
  kC : PySem.W.keepIn K (.ref C) = true
  bC : PySem.W.subIn K (.ref C) (.type "BaseException") = some true
  tC : PySem.W.typeIn K (.ref C) = some (.type "type")
/-- a method's def; an own class -/
structure DefM (K : PySem.W.Frag) (x q : Str) (st : Stmt) (f : Addr) (fd : FuncData) (ps : List Str) : Prop where
  F : Fun K x q st f fd
  b : Binds K fd ps []
structure OwnC (K : PySem.W.Frag) (mg : Str → Option Value) (x : Str) (C : Addr) : Prop where
  cl : Cls K C
  gC : mg x = some (.ref C)
structure Blt (mg : Str → Option Value) : Prop where
  b_ValueError : mg "ValueError" = none
  b_all : mg "all" = none
  b_any : mg "any" = none
  b_bool : mg "bool" = none
  b_enumerate : mg "enumerate" = none
  b_int : mg "int" = none
  b_isinstance : mg "isinstance" = none
  b_len : mg "len" = none
  b_list : mg "list" = none
  b_min : mg "min" = none
  b_range : mg "range" = none
  b_sorted : mg "sorted" = none
  b_str : mg "str" = none
  b_tuple : mg "tuple" = none
  b_zip : mg "zip" = none
structure Adr where
  f_is_bits : Addr
  d_is_bits : FuncData
  f_check_words : Addr
  d_check_words : FuncData
  f_reader_init : Addr
  d_reader_init : FuncData
  f_reader_take : Addr
  d_reader_take : FuncData
  f_reader_held : Addr
  d_reader_held : FuncData
  f_reader_done : Addr
  d_reader_done : FuncData
  f_reader_again : Addr
  d_reader_again : FuncData
  f_lw_cell : Addr
  d_lw_cell : FuncData
  f_lw_word_of : Addr
  d_lw_word_of : FuncData
  f_lw_words : Addr
  d_lw_words : FuncData
  f_lw_due : Addr
  d_lw_due : FuncData
  f_lw_told : Addr
  d_lw_told : FuncData
  f_lw_alike : Addr
  d_lw_alike : FuncData
  f_lw_bit : Addr
  d_lw_bit : FuncData
  f_lw_stands : Addr
  d_lw_stands : FuncData
  f_law : Addr
  d_law : FuncData
  C_CodeError : Addr
  C_NoWeights : Addr
  C_BadWeight : Addr
  C_BadBound : Addr
  C_NoRoom : Addr
  C_BadLengths : Addr
  C_BadWords : Addr
  C_BadBits : Addr
  C_NoSign : Addr
  C_Reader : Addr
def errNames : List Str := ["NoWeights", "BadWeight", "BadBound", "NoRoom", "BadLengths", "BadWords", "BadBits", "NoSign"]
/-- what is asked of a class of errors, nm its name -/
structure Err (K : PySem.W.Frag) (t : Adr) (D : Addr) (nm : Str) : Prop where
  C : ExcC K D
  one : nm ∈ errNames
  k1 : PySem.W.kitOne K (.ref D) (.ref t.C_NoWeights) = some (decide (nm = ("NoWeights" : Str)))
  k2 : PySem.W.kitOne K (.ref D) (.ref t.C_BadWeight) = some (decide (nm = ("BadWeight" : Str)))
  k3 : PySem.W.kitOne K (.ref D) (.ref t.C_BadBound) = some (decide (nm = ("BadBound" : Str)))
  k4 : PySem.W.kitOne K (.ref D) (.ref t.C_NoRoom) = some (decide (nm = ("NoRoom" : Str)))
  k5 : PySem.W.kitOne K (.ref D) (.ref t.C_BadLengths) = some (decide (nm = ("BadLengths" : Str)))
  k6 : PySem.W.kitOne K (.ref D) (.ref t.C_BadWords) = some (decide (nm = ("BadWords" : Str)))
  k7 : PySem.W.kitOne K (.ref D) (.ref t.C_BadBits) = some (decide (nm = ("BadBits" : Str)))
  k8 : PySem.W.kitOne K (.ref D) (.ref t.C_NoSign) = some (decide (nm = ("NoSign" : Str)))
  kV : PySem.W.kitOne K (.ref D) (.type "ValueError") = some true
  sub : PySem.W.exmOne K (.ref D) (.ref t.C_CodeError) = some true
structure Top (K : PySem.W.Frag) (mg : Str → Option Value) (t : Adr) : Prop where
  b : Blt mg
  is_bits : Def K mg "is_bits" s_is_bits t.f_is_bits t.d_is_bits ["thing"]
  check_words : Def K mg "check_words" s_check_words t.f_check_words t.d_check_words ["words"]
  reader_init : DefM K "__init__" "Reader.__init__" s_reader_init t.f_reader_init t.d_reader_init ["self", "words"]
  mk_Reader : Mk K t.C_Reader t.f_reader_init
  reader_take : DefM K "take" "Reader.take" s_reader_take t.f_reader_take t.d_reader_take ["self", "bit"]
  me_reader_take : Meth K t.C_Reader "take" t.f_reader_take
  reader_held : DefM K "held" "Reader.held" s_reader_held t.f_reader_held t.d_reader_held ["self"]
  me_reader_held : Meth K t.C_Reader "held" t.f_reader_held
  reader_done : DefM K "done" "Reader.done" s_reader_done t.f_reader_done t.d_reader_done ["self"]
  me_reader_done : Meth K t.C_Reader "done" t.f_reader_done
  reader_again : DefM K "again" "Reader.again" s_reader_again t.f_reader_again t.d_reader_again ["self"]
  me_reader_again : Meth K t.C_Reader "again" t.f_reader_again
  lw_cell : Def K mg "_law_cell" s_lw_cell t.f_lw_cell t.d_lw_cell ["_law_script", "_law_k"]
  lw_word_of : Def K mg "_law_word_of" s_lw_word_of t.f_lw_word_of t.d_lw_word_of ["_law_error"]
  lw_words : Def K mg "_law_words" s_lw_words t.f_lw_words t.d_lw_words ["_law_script", "_law_first"]
  lw_due : Def K mg "_law_due" s_lw_due t.f_lw_due t.d_lw_due ["_law_words_here", "_law_bits", "_law_bit_here"]
  lw_told : Def K mg "_law_told" s_lw_told t.f_lw_told t.d_lw_told ["_law_reader", "_law_bit_here"]
  lw_alike : Def K mg "_law_alike" s_lw_alike t.f_lw_alike t.d_lw_alike ["_law_found", "_law_due_here"]
  lw_bit : Def K mg "_law_bit" s_lw_bit t.f_lw_bit t.d_lw_bit ["_law_words_here", "_law_bits", "_law_cell_here"]
  lw_stands : Def K mg "_law_stands" s_lw_stands t.f_lw_stands t.d_lw_stands ["_law_reader", "_law_bits", "_law_signs", "_law_cell_here", "_law_held"]
  law : Def K mg "law" s_law t.f_law t.d_law ["_law_script"]
  oc_Reader : OwnC K mg "Reader" t.C_Reader
  na_Reader__signs : NoAttr K t.C_Reader "_signs"
  na_Reader__held : NoAttr K t.C_Reader "_held"
  na_Reader__done : NoAttr K t.C_Reader "_done"
  C_CodeError : XCls K mg "CodeError" t.C_CodeError
  C_NoWeights : XCls K mg "NoWeights" t.C_NoWeights
  C_BadWeight : XCls K mg "BadWeight" t.C_BadWeight
  C_BadBound : XCls K mg "BadBound" t.C_BadBound
  C_NoRoom : XCls K mg "NoRoom" t.C_NoRoom
  C_BadLengths : XCls K mg "BadLengths" t.C_BadLengths
  C_BadWords : XCls K mg "BadWords" t.C_BadWords
  C_BadBits : XCls K mg "BadBits" t.C_BadBits
  C_NoSign : XCls K mg "NoSign" t.C_NoSign
  c_MOST_SIGNS : ∃ u, mg "MOST_SIGNS" = some u ∧ RelV (.int 24) u
  c_MOST_BITS : ∃ u, mg "MOST_BITS" = some u ∧ RelV (.int 12) u
  E_BadBits : Err K t t.C_BadBits "BadBits"
variable {P : Program} {w : World} {K : PySem.W.Frag} {mg : Str → Option Value} {base : Heap} {t : Adr}
end Sl
namespace Sl
open PySem PySem.Spec PyProof.Rows L2 Evl
section
variable {P : Program} {w : World} {K : PySem.W.Frag} {mg : Str → Option Value} {base : Heap} {t : Adr}
/-! is_bits -/
def spIsBits : Sp := fun vs H Q _ => ∃ x : V, vs = [x] ∧ Thing H x ∧ (∀ s, x = .str s → s.cps.size ≤ 40000) ∧ RetV (.bl (isBitsV x)) H Q
theorem sv_isBits {H : Hp} {x : V} (k : Thing H x) (hl : ∀ s, x = .str s → s.cps.size ≤ 40000) : SpV spIsBits ([x] ++ []) H (.bl (isBitsV x)) := fun H1 e Q q E => ⟨x, rfl, k.mono e, hl, q⟩
theorem ok_is_bits (T : Top K mg t) : FnOk P w K mg base CX0 1 t.f_is_bits t.d_is_bits ["thing"] spIsBits := by
  refine T.is_bits.F.ok sc_is_bits (fun vs H Q E h => ?_) (fun cdv A outer s H vs Q E hr h => ?_)
  · obtain ⟨x, rfl, _⟩ := h
    rfl
  · obtain ⟨x, rfl, hx, hl, q⟩ := h
    refine ⟨_, (pss_one (ps_ret (pe_and (pe_callB (r := rIsi K) call_isi (by rfl) T.b.b_isinstance (by decide +kernel) (pa_cons (pv 0) (pa_cons (pe_bltn (v := .ty "str") (by rfl) T.b.b_str (by decide +kernel) rfl) pa_nil))) (pe_one (pe_callB (r := rAll K) (cr_all rfl) (by rfl) T.b.b_all (by decide +kernel) (pa_cons (pe_lc (own := [("bit", 1)]) (g := gName 1) (tt := tYes) rfl sc_is_bits.nd (pi_str (pv 0)) (blkOk_by (own := [("bit", 1)]) (N := N_is_bits) (sc := defScope s_is_bits) (by decide +kernel)) (fun _ _ _ _ _ => (pg_name (i := 1) sc_is_bits.nd rfl (.inl rfl))) (fun _ _ _ _ _ => pts_nil) (fun _ _ _ _ _ => (pe_cmpR op_in_sign (pv 1) pe_str rfl))) pa_nil)))))), ?_⟩
    by_cases h : ∃ s, x = .str s
    · obtain ⟨s, rfl⟩ := h
      have c := el_lcStr (σ := [some (.str s), none]) (H := H) (tl := tVar 0) (j := 1) (vs := [1]) (te := tOp (fun x y H Q => ∃ (c : Nat) (z : Str), x = .str ⟨#[c]⟩ ∧ y = .str z ∧ Q (.bl (decide (c ∈ z.cps.toList))) H) (tVar 1) (tC (.str "01")))
        (fun c => .bl (isBit c)) (ev_var rfl) (hl s rfl) (fun x => rfl) (fun i c H1 e hc => ev_op (ev_var rfl) ev_c rv_inBits)
      have e : s.cps.toList.map (fun c => V.bl (isBit c)) = (s.cps.toList.map isBit).map V.bl := by rw [List.map_map]; rfl
      rw [e] at c
      refine s_ret (ev_andV (ev_isStrG (ev_var rfl) hx) fun _ => ev_all c) fun H1 e1 => ?_
      have z : (isStrV (.str s) && (s.cps.toList.map isBit).all id) = isBitsV (.str s) := by
        rw [List.all_map]
        rfl
      rw [z]
      exact q H1 e1
    · have hs : isStrV x = false := by
        cases x <;> first | rfl | exact absurd ⟨_, rfl⟩ h
      have hb : isBitsV x = false := by
        cases x <;> first | rfl | exact absurd ⟨_, rfl⟩ h
      refine s_ret (ev_andV (b := false) (ev_isStrG (ev_var rfl) hx) fun z => by rw [hs] at z; cases z) fun H1 e1 => ?_
      rw [hs]
      rw [hb] at q
      exact q H1 e1
end
end Sl
namespace Sl
open PySem PySem.Spec PyProof.Rows L2 Evl
section
variable {P : Program} {w : World} {K : PySem.W.Frag} {mg : Str → Option Value} {base : Heap} {t : Adr}
/-! check_words -/
/-- good words only: what is refused is no part of this promise -/
def spGoodWords (K : PySem.W.Frag) : Sp := fun vs H Q _ => ∃ (a : Addr) (us : List (List Nat)), vs = [.ref a] ∧ SqL K H a (us.map vtx) ∧ us.length ≤ 24 ∧ (∀ u ∈ us, 1 ≤ u.length ∧ u.length ≤ 12 ∧ ∀ c ∈ u, c = 48 ∨ c = 49) ∧
  (∀ (i j : Nat) (u v : List Nat), i ≠ j → us[i]? = some u → us[j]? = some v → v.take u.length ≠ u) ∧ RetV .non H Q
theorem ok_check_words (T : Top K mg t) : FnOk P w K mg base (L2.CX P w) 2 t.f_check_words t.d_check_words ["words"] (spGoodWords K) := by
  refine T.check_words.F.okX sc_check_words (fun vs H Q E h => ?_) (fun cdv A outer s H vs Q E hr h => ?_)
  · obtain ⟨a, us, rfl, _⟩ := h
    rfl
  · obtain ⟨a, us, rfl, hS, hn, hu, hap, q⟩ := h
    refine ⟨_, (pss_cons (ps_if (pt_cmpR op_gt (pe_callB (r := rLenS K) call_len_seq (by rfl) T.b.b_len (by decide +kernel) (pa_cons (pv 0) pa_nil)) (pe_glob (v := .int 24) rfl T.c_MOST_SIGNS.choose_spec.1 T.c_MOST_SIGNS.choose_spec.2) (nomark _)) (pss_one (ps_raise rfl (takes_of rfl rfl rfl rfl) (SkE.pmk_own1 PySem.F.excBase_ValueError T.C_BadWords.xC T.C_BadWords.gC T.C_BadWords.kC (raises_own T.C_BadWords.bC T.C_BadWords.tC) rfl (pe_joined (.cons pe_str (.cons (pe_fmt (pe_glob (v := .int 24) rfl T.c_MOST_SIGNS.choose_spec.1 T.c_MOST_SIGNS.choose_spec.2)) (.cons pe_str .nil))))))) pss_nil)
      (pss_cons (ps_for (passes_of rfl) rfl (pi_list (pv 0)) (pg_name (i := 1) sc_check_words.nd rfl (.inl rfl)) (pss_one (ps_if (PW.pt (pw_or (pt_not (pt_val (pe_call (ok_is_bits T) (hr.mono (by decide)) (by rfl) T.is_bits.g T.is_bits.F.kp T.is_bits.b .nil pass0 (pa_cons (pv 1) pa_nil)))) (pw_or1 (pt_not (pt_chain op_le op_le pe_int (pe_callB (r := rLenTx) call_len_str (by rfl) T.b.b_len (by decide +kernel) (pa_cons (pv 1) pa_nil)) (pe_glob (v := .int 12) rfl T.c_MOST_BITS.choose_spec.1 T.c_MOST_BITS.choose_spec.2)))))) (pss_one (ps_raise rfl (takes_of rfl rfl rfl rfl) (SkE.pmk_own1 PySem.F.excBase_ValueError T.C_BadWords.xC T.C_BadWords.gC T.C_BadWords.kC (raises_own T.C_BadWords.bC T.C_BadWords.tC) rfl (pe_joined (.cons pe_str (.cons (pe_fmt (pe_glob (v := .int 12) rfl T.c_MOST_BITS.choose_spec.1 T.c_MOST_BITS.choose_spec.2)) (.cons pe_str .nil))))))) pss_nil)))
      (pss_cons (ps_set (i := 2) sc_check_words.nd rfl (.inl rfl) (pe_callB (r := rSortedS K) cr_sortedS (by rfl) T.b.b_sorted (by decide +kernel) (pa_cons (pv 0) pa_nil)))
      (pss_one (ps_for (passes_of rfl) rfl (pi_zip (by rfl) T.b.b_zip (pa_cons (pv 2) (pa_cons (pe_slice (r := rSlL K) sl_list (pv 2) (po_some pe_int) po_none) pa_nil))) (pg_tup rfl (pgs_cons (pg_name (i := 3) sc_check_words.nd rfl (.inl rfl)) (pgs_cons (pg_name (i := 1) sc_check_words.nd rfl (.inl rfl)) pgs_nil))) (pss_one (ps_if (pt_val (pe_m1 PySem.F.slot_str_startswith PySem.F.type_str_startswith mt_startswith (pv 1) (pv 3))) (pss_one (ps_raise rfl (takes_of rfl rfl rfl rfl) (SkE.pmk_own1 PySem.F.excBase_ValueError T.C_BadWords.xC T.C_BadWords.gC T.C_BadWords.kC (raises_own T.C_BadWords.bC T.C_BadWords.tC) rfl pe_str))) pss_nil))))))), ?_⟩
    refine q_when (et_test (ev_op (ev_len (ev_var rfl) hS) ev_c rv_I0)) (fun hx _ _ => ?_) (fun _ H1 e1 => ?_)
    · rw [List.length_map, decide_eq_false (by omega)] at hx
      cases hx
    refine q_forLn (xs := us.map vtx) (ev_var rfl) (ex_l e1 hS) (fun i σ' H' => Ex H H' ∧ ∃ v1, σ' = [some (V.ref a), v1, none, none]) (fun H2 e2 => ⟨e1.trans e2, none, rfl⟩) (fun i σ' H' _ hP => ex_l hP.1 hS) (fun i x σ' H' hx hP => ?_) fun σ' H' hP => ?_
    · obtain ⟨e2, v1, rfl⟩ := hP
      rw [List.getElem?_map] at hx
      obtain ⟨u, h1, rfl⟩ := Option.map_eq_some_iff.mp hx
      obtain ⟨u1, u2, uc⟩ := hu u (List.mem_of_getElem? h1)
      refine s_when (et_or (et_not (et_B (ev_call (ea_cons (ev_var rfl) ea_nil) (sv_isBits (.inr (.inr (.inr (.inl ⟨_, rfl⟩)))) fun s hs => by cases hs; show u.toArray.size ≤ 40000; simp; omega)))) fun _ => et_not (et_test (ev_chain (g := fun i j => decide (i ≤ j)) (g' := fun i j => decide (i ≤ j)) ev_c (ev_lenTx (l := u) (ev_var rfl) (by omega)) ev_c))) (fun hx _ _ => ?_) (fun _ H3 e3 => ⟨e2.trans e3, _, rfl⟩)
      rw [bits_vtx uc, decide_eq_true (show (1 : Int) ≤ (u.length : Int) by omega), decide_eq_true (show (u.length : Int) ≤ 12 by omega)] at hx
      cases hx
    obtain ⟨e2, v1, rfl⟩ := hP
    have em : us.map vtx = (us.map tx).map V.str := by rw [List.map_map]; rfl
    refine ⟨.ref a, rfl, a, us.map tx, rfl, by rw [← em]; exact ex_l e2 hS, by rw [List.length_map]; omega, fun ys p hp _ hnew => ?_⟩
    obtain ⟨zs, rfl, hz⟩ : ∃ zs : List (List Nat), ys = zs.map tx ∧ zs.Perm us := by
      refine ⟨ys.map fun s => s.cps.toList, by rw [List.map_map]; exact (List.map_id' ys).symm, ?_⟩
      have := hp.map fun s : Str => s.cps.toList
      rw [List.map_map] at this
      have e : us.map ((fun s : Str => s.cps.toList) ∘ tx) = us := List.map_id' us
      rw [e] at this
      exact this
    have ez : (zs.map tx).map V.str = zs.map vtx := by rw [List.map_map]; rfl
    rw [ez]
    have e3 : Ex H (upd H' p (.lst (zs.map vtx))) := e2.trans (Ex.new hnew)
    have hz3 : (upd H' p (.lst (zs.map vtx))) p = some (.lst (zs.map vtx)) := upd_same
    have zl : zs.length = us.length := hz.length_eq
    have cS := el_sl (K := K) (σ := [some (V.ref a), v1, some (V.ref p), none]) (H := upd H' p (.lst (zs.map vtx))) (te := tVar 2) (tl := tPart (tC (.int 1))) (th := tNoPart) (ev_var rfl) (eo_some ev_c) eo_none (sq_of hz3)
    rw [cutV_from1] at cS
    refine s_forZip (n := zs.length - 1) (ev_var rfl) cS (sq_of hz3) (by rw [List.length_drop, List.length_map]; omega) fun pb H4 _ e4 h4 => ?_
    refine ⟨fun i σ' H'' => Ex H4 H'' ∧ ∃ v1 v3, σ' = [some (V.ref a), v1, some (V.ref p), v3], ⟨Ex.refl _, _, _, rfl⟩, fun _ _ _ h => h.1, fun i x y σ' H5 H6 hi hP e6 hx hy => ?_, fun σ' H5 hP => ?_⟩
    · obtain ⟨e5, w1, w3, rfl⟩ := hP
      rw [List.getElem?_map] at hx
      rw [List.getElem?_drop, List.getElem?_map] at hy
      obtain ⟨u, h1, rfl⟩ := Option.map_eq_some_iff.mp hx
      obtain ⟨v, h2, rfl⟩ := Option.map_eq_some_iff.mp hy
      rw [Nat.add_comm] at h2
      refine s_when (et_B (ev_starts (v := v) (u := u) (ev_var rfl) (ev_var rfl))) (fun hx _ _ => ?_) (fun _ H7 e7 => ⟨(e5.trans e6).trans e7, _, _, rfl⟩)
      exact absurd (of_decide_eq_true hx) (apart_perm hap hz h1 h2)
    · exact q H5 (e3.trans (e4.trans hP.1))
end
end Sl
namespace Sl
open PySem PySem.Spec PyProof.Rows L2 Evl
section
variable {P : Program} {w : World} {K : PySem.W.Frag} {mg : Str → Option Value} {base : Heap} {t : Adr}
/-! Reader.__init__ -/
def spRInit (K : PySem.W.Frag) (C : Addr) : Sp := fun vs H Q _ => ∃ (p a dx : Addr) (us : List (List Nat)), vs = [.ref p, .ref a] ∧ H p = some (.ins C dx []) ∧ SqL K H a (us.map vtx) ∧ us.length ≤ 24 ∧ (∀ u ∈ us, 1 ≤ u.length ∧ u.length ≤ 12 ∧ ∀ c ∈ u, c = 48 ∨ c = 49) ∧
  (∀ (i j : Nat) (u v : List Nat), i ≠ j → us[i]? = some u → us[j]? = some v → v.take u.length ≠ u) ∧
  ∀ H' ds pd, RdAt C H' p ds pd us [] [] → (∀ b o, H b = some o → b ≠ p → H' b = some o) → H ds = none → H pd = none → Q .non H'
theorem apart_ne {us : List (List Nat)} (h : ∀ (i j : Nat) (u v : List Nat), i ≠ j → us[i]? = some u → us[j]? = some v → v.take u.length ≠ u) : ∀ i j, i < us.length → j < us.length → i ≠ j → us.getD i [] ≠ us.getD j [] := fun i j hi hj hij z => by
  have g1 := List.getElem?_eq_getElem hi
  have g2 := List.getElem?_eq_getElem hj
  have := h i j _ _ hij g1 g2
  rw [List.getD_eq_getElem?_getD, List.getD_eq_getElem?_getD, g1, g2] at z
  have z : us[i] = us[j] := z
  rw [z, List.take_length] at this
  exact this rfl
theorem ok_reader_init (T : Top K mg t) : FnOk P w K mg base (L2.CX P w) 3 t.f_reader_init t.d_reader_init ["self", "words"] (spRInit K t.C_Reader) := by
  refine T.reader_init.F.okX sc_reader_init (fun vs H Q E h => ?_) (fun cdv A outer s H vs Q E hr h => ?_)
  · obtain ⟨p, a, dx, us, rfl, _⟩ := h
    rfl
  · obtain ⟨p, a, dx, us, rfl, hp, hS, hn, hu, hap, q⟩ := h
    refine ⟨_, (pss_cons (ps_expr (pe_call (ok_check_words T) (hr.mono (by decide)) (by rfl) T.check_words.g T.check_words.F.kp T.check_words.b .nil (passes_call (takes_of rfl rfl rfl rfl) fun _ _ _ _ h => h) (pa_cons (pv 1) pa_nil)))
      (pss_cons (ps_fld (pv 0) (pe_dc (own := [("sign", 2), ("word", 3)]) (g := gTup K 2 (gCons (gName 2) (gCons (gName 3) gNil))) (tt := tYes) rfl sc_reader_init.nd (pi_enum (by rfl) T.b.b_enumerate (pa_cons (pv 1) pa_nil)) (blkOk_by (own := [("sign", 2), ("word", 3)]) (N := N_reader_init) (sc := defScope s_reader_init) (by decide +kernel)) (fun _ _ _ _ _ => (pg_tup rfl (pgs_cons (pg_name (i := 2) sc_reader_init.nd rfl (.inl rfl)) (pgs_cons (pg_name (i := 3) sc_reader_init.nd rfl (.inl rfl)) pgs_nil)))) (fun _ _ _ _ _ => pts_nil) (fun _ _ _ _ _ => (pv 3)) (fun _ _ _ _ _ => (pv 2))) rfl)
      (pss_cons (ps_fld (pv 0) pe_str rfl)
      (pss_one (ps_fld (pv 0) (pe_lst pa_nil) rfl))))), ?_⟩
    refine ⟨.ref a, rfl, a, us, rfl, hS, hn, hu, hap, fun H1 e1 => ?_⟩
    have npa : ∀ {H' : Hp} {b : Addr}, Ex H H' → H' b = none → b ≠ p := fun e hb z => by rw [z, e _ _ hp] at hb; cases hb
    show tSeq _ _ _ [some (V.ref p), some (V.ref a), none, none] H1
    refine q_fldD (ed_enum (s := 2) (l := 3) (vs := [2, 3]) (t := tCons (tVar 1) tNil) (a := a) (us := us) (ea_cons (ev_var rfl) ea_nil) (ex_l e1 hS) (by omega) (apart_ne hap) (fun _ _ => rfl) (fun _ _ => ⟨rfl, rfl⟩)) (ev_var rfl) (e1 _ _ hp) T.oc_Reader.cl T.na_Reader__signs (by show 0 < 1000; decide) fun ds H2 hds e2 h2 => ?_
    have e12 := e1.trans e2
    have nds : H ds = none := fresh_back e1 hds
    have ndp : ds ≠ p := npa e1 hds
    refine q_fld (v := .str (tx [])) ev_c (ev_var rfl) upd_same T.oc_Reader.cl T.na_Reader__held (by show 1 < 1000; decide) fun H3 e3 => ?_
    refine s_fldL (el_lst ea_nil (by decide)) (ev_var rfl) upd_same T.oc_Reader.cl T.na_Reader__done (by show 2 < 1000; decide) fun pd H4 hpd e4 h4 => ?_
    have hp3 : H3 p = some (.ins t.C_Reader dx (putF "_signs" (.ref ds) [])) := e3 _ _ upd_same
    have npd : pd ≠ p := fun z => by rw [z, upd_same] at hpd; cases hpd
    have ff : putF "_done" (.ref pd) (putF "_held" (.str (tx [])) (putF "_signs" (.ref ds) [])) = rdF ds pd [] := by
      unfold rdF
      rfl
    have chain : ∀ b o, H2 b = some o → b ≠ p → H4 b = some o := fun b o hb hbp => e4 b o (by
      rw [upd_ne hbp]
      exact e3 b o (by rw [upd_ne hbp]; exact hb))
    have npd0 : H pd = none := by
      cases h : H pd with
      | none => rfl
      | some o =>
        have z := e3 pd o (by rw [upd_ne npd]; exact e12 _ _ h)
        rw [upd_ne npd, z] at hpd
        cases hpd
    refine q _ ds pd ⟨⟨dx, ?_⟩, ?_, ?_⟩ (fun b o hb hbp => ?_) nds npd0
    · rw [upd_same]
      exact congrArg (fun f => some (HO.ins t.C_Reader dx f)) ff
    · rw [upd_ne ndp]
      exact chain _ _ h2 ndp
    · rw [upd_ne npd]
      exact h4
    · rw [upd_ne hbp]
      exact chain _ _ (e12 _ _ hb) hbp
end
end Sl
namespace Sl
open PySem PySem.Spec PyProof.Rows L2 Evl
section
variable {P : Program} {w : World} {K : PySem.W.Frag} {mg : Str → Option Value} {base : Heap} {t : Adr}
/-! Reader.take -/
/-- what take tells: refused, or the sign, or None -/
def takeOf (us : List (List Nat)) (hd : List Nat) (x : V) : Option (Option Nat) :=
  if isBitsV x = true ∧ lenV x = 1 then
    (if (us.any fun u => decide (u = hd ++ cpsV x)) = true then some (some (us.idxOf (hd ++ cpsV x)))
     else if (us.any fun u => decide (u.take (hd ++ cpsV x).length = hd ++ cpsV x)) = true then some none else none)
  else none
def spRTake (K : PySem.W.Frag) (C CB : Addr) : Sp := fun vs H Q E => ∃ (a ds pd : Addr) (us : List (List Nat)) (hd dn : List Nat) (x : V), vs = [.ref a, x] ∧ RdAt C H a ds pd us hd dn ∧ Thing H x ∧ (∀ s, x = .str s → s.cps.size ≤ 1000) ∧ hd.length ≤ 900 ∧ us.length ≤ 24 ∧ (∀ u ∈ us, u.length ≤ 12) ∧ dn.length ≤ 1000 ∧
  (∀ i j, i < us.length → j < us.length → i ≠ j → us.getD i [] ≠ us.getD j []) ∧
  (takeOf us hd x = none → ∀ H1, Ex H H1 → E (.ref CB) none H1) ∧
  (takeOf us hd x = some none → ∀ H', RdAt C H' a ds pd us (hd ++ cpsV x) dn → (∀ b o, H b = some o → b ≠ a → H' b = some o) → Q .non H') ∧
  (∀ i, takeOf us hd x = some (some i) → ∀ H', RdAt C H' a ds pd us [] (dn ++ [i]) → (∀ b o, H b = some o → b ≠ a → b ≠ pd → H' b = some o) → Q (.int (i : Int)) H')
theorem ok_reader_take (T : Top K mg t) : FnOk P w K mg base (L2.CX P w) 2 t.f_reader_take t.d_reader_take ["self", "bit"] (spRTake K t.C_Reader t.C_BadBits) := by
  refine T.reader_take.F.okX sc_reader_take (fun vs H Q E h => ?_) (fun cdv A outer s H vs Q E hr h => ?_)
  · obtain ⟨a, ds, pd, us, hd, dn, x, rfl, _⟩ := h
    rfl
  · obtain ⟨a, ds, pd, us, hd, dn, x, rfl, hR, hx, hxl, hhl, hul, hu12, hdl, hne, qE, qN, qS⟩ := h
    obtain ⟨⟨dx, h1⟩, h2, h3⟩ := hR
    refine ⟨_, (pss_cons (ps_if (PW.pt (pw_or (pt_not (pt_val (pe_call (ok_is_bits T) (hr.mono (by decide)) (by rfl) T.is_bits.g T.is_bits.F.kp T.is_bits.b .nil pass0 (pa_cons (pv 1) pa_nil)))) (pw_or1 (pt_cmpR op_ne (pe_callB (r := rLenTx) call_len_str (by rfl) T.b.b_len (by decide +kernel) (pa_cons (pv 1) pa_nil)) pe_int (nomark _))))) (pss_one (ps_raise rfl (takes_of rfl rfl rfl rfl) (SkE.pmk_own1 PySem.F.excBase_ValueError T.C_BadBits.xC T.C_BadBits.gC T.C_BadBits.kC (raises_own T.C_BadBits.bC T.C_BadBits.tC) rfl pe_str))) pss_nil)
      (pss_cons (ps_set (i := 2) sc_reader_take.nd rfl (.inr rfl) (pe_op op_add_str (pe_fld (pv 0) rfl) (pv 1)))
      (pss_cons (ps_if (pt_cmp (pc_din (hu_of hr) (pv 2) (pe_fld (pv 0) rfl))) (pss_cons (ps_set (i := 3) sc_reader_take.nd rfl (.inl rfl) (pe_dget (hu_of hr) (pe_fld (pv 0) rfl) (pv 2) (fun _ _ => rfl)))
      (pss_cons (ps_fld (pv 0) pe_str rfl)
      (pss_cons (ps_expr (pe_bm PySem.F.plainAttrs_list PySem.F.slot_list_append PySem.F.type_list_append mt_append (pe_fld (pv 0) rfl) (pa_cons (pv 3) pa_nil)))
      (pss_one (ps_ret (pv 3)))))) pss_nil)
      (pss_cons (ps_if (pt_not (pt_val (pe_callB (r := rAny K) (cr_any rfl) (by rfl) T.b.b_any (by decide +kernel) (pa_cons (pe_lock (pe_lc (own := [("word", 4)]) (g := gName 4) (tt := tYes) rfl sc_reader_take.nd (pi_keys (pe_fld (pv 0) rfl)) (blkOk_by (own := [("word", 4)]) (N := N_reader_take) (sc := defScope s_reader_take) (by decide +kernel)) (fun _ _ _ _ _ => (pg_name (i := 4) sc_reader_take.nd rfl (.inl rfl))) (fun _ _ _ _ _ => pts_nil) (fun _ _ _ _ _ => (pe_m1 PySem.F.slot_str_startswith PySem.F.type_str_startswith mt_startswith (pv 4) (pv 2))))) pa_nil)))) (pss_one (ps_raise rfl (takes_of rfl rfl rfl rfl) (SkE.pmk_own1 PySem.F.excBase_ValueError T.C_BadBits.xC T.C_BadBits.gC T.C_BadBits.kC (raises_own T.C_BadBits.bC T.C_BadBits.tC) rfl pe_str))) pss_nil)
      (pss_cons (ps_fld (pv 0) (pv 2) rfl)
      (pss_one (ps_ret pe_non))))))), ?_⟩
    have nda : ds ≠ a := fun z => by rw [z, h1] at h2; cases h2
    have npa : pd ≠ a := fun z => by rw [z, h1] at h3; cases h3
    have ndp : ds ≠ pd := fun z => by rw [z, h3] at h2; cases h2
    have svB := sv_isBits hx fun s hs => Nat.le_trans (hxl s hs) (by decide)
    by_cases hb : isBitsV x = true ∧ lenV x = 1
    · obtain ⟨hb1, hb2⟩ := hb
      obtain ⟨u, rfl, hu⟩ := bits_of hb1
      obtain ⟨c, rfl⟩ : ∃ c, u = [c] := by
        have z : u.length = 1 := by
          have : (tx u).cps.size = 1 := hb2
          rw [← tx_len u]
          exact this
        exact List.length_eq_one_iff.mp z
      have ec : cpsV (vtx [c]) = [c] := rfl
      refine q_when (et_or (et_not (et_B (ev_call (ea_cons (ev_var rfl) ea_nil) svB))) fun _ => et_test (ev_op (ev_lenTx (l := [c]) (ev_var rfl) (by show 1 ≤ 100000; decide)) ev_c (rv_ne rfl))) (fun hz _ _ => ?_) (fun _ H1 e1 => ?_)
      · rw [hb1] at hz
        cases hz
      refine q_asg (v := .str (tx (hd ++ [c]))) (ev_catS (ev_fld (ev_var rfl) (e1 _ _ h1) T.oc_Reader.cl T.na_Reader__held (rdF_held _ _ _)) (ev_var rfl) (by show hd.length + 1 ≤ 1000; omega)) fun H2 e2 => ?_
      have e12 := e1.trans e2
      have kk : kV (Sum.inr (tx (hd ++ [c]))) = .str (tx (hd ++ [c])) := rfl
      have hw : ∀ H', Ex H H' → Ev (tFld K (tVar 0) "_signs") [some (V.ref a), some (vtx [c]), some (V.str (tx (hd ++ [c]))), none, none] H' (.ref ds) := fun H' e => ev_fld (ev_var rfl) (e _ _ h1) T.oc_Reader.cl T.na_Reader__signs (rdF_signs _ _ _)
      by_cases hin : ∃ i, i < us.length ∧ us.getD i [] = hd ++ [c]
      · obtain ⟨i, hi, hiw⟩ := hin
        have hv := sgK_some hiw us.length hi fun j hj hji => fun z => hne j i hj hi hji (by rw [z, hiw])
        have gi : us[i]? = some (hd ++ [c]) := by
          rw [List.getElem?_eq_getElem hi]
          rw [List.getD_eq_getElem?_getD, List.getElem?_eq_getElem hi] at hiw
          exact congrArg some hiw
        have hmem : (hd ++ [c]) ∈ us := List.mem_of_getElem? gi
        have hidx : us.idxOf (hd ++ [c]) = i := by
          have k1 := List.idxOf_lt_length_iff.mpr hmem
          have k2 : us[us.idxOf (hd ++ [c])] = hd ++ [c] := List.getElem_idxOf k1
          by_cases z : us.idxOf (hd ++ [c]) = i
          · exact z
          · refine absurd ?_ (hne _ i k1 hi z)
            rw [List.getD_eq_getElem?_getD, List.getElem?_eq_getElem k1, hiw]
            exact k2
        have ht : takeOf us hd (vtx [c]) = some (some i) := by
          unfold takeOf
          rw [if_pos ⟨hb1, hb2⟩, ec, if_pos (List.any_eq_true.mpr ⟨_, hmem, decide_eq_true rfl⟩), hidx]
        refine q_when (et_B (ev_din (k := Sum.inr (tx (hd ++ [c]))) (ev_var rfl) (hw H2 e12) (e12 _ _ h2))) (fun _ H3 e3 => ?_) (fun hz _ _ => by rw [hv] at hz; cases hz)
        have e13 := e12.trans e3
        refine q_asg (ev_dgetK (k := Sum.inr (tx (hd ++ [c]))) (ev_var rfl) (hw H3 e13) (e13 _ _ h2) hv) fun H4 e4 => ?_
        have e14 := e13.trans e4
        refine q_fld (v := .str (tx [])) ev_c (ev_var rfl) (e14 _ _ h1) T.oc_Reader.cl T.na_Reader__held (by show 3 < 1000; decide) fun H5 e5 => ?_
        rw [rdF_putH]
        have e15 := e14.trans e5
        refine q_app (l := pd) (xs := natsV dn) (v := .int (i : Int)) (by rw [upd_ne npa]; exact e15 _ _ h3) (ev_fld (ev_var rfl) upd_same T.oc_Reader.cl T.na_Reader__done (rdF_done _ _ _)) (ev_var rfl) (by rw [natsV_len]; omega) fun H6 e6 => ?_
        refine s_ret (ev_var rfl) fun H7 e7 => ?_
        have chain : ∀ b o, H b = some o → b ≠ a → b ≠ pd → H7 b = some o := fun b o hbo hba hbp => e7 b o (by
          rw [upd_ne hbp]
          exact e6 b o (by rw [upd_ne hba]; exact e15 b o hbo))
        refine qS i ht H7 ⟨⟨dx, e7 _ _ ?_⟩, chain _ _ h2 nda ndp, e7 _ _ ?_⟩ chain
        · rw [upd_ne (Ne.symm npa)]
          exact e6 _ _ upd_same
        · rw [upd_same]
          unfold natsV
          rw [List.map_append]
          rfl
      · have hno : ∀ i, i < us.length → us.getD i [] ≠ hd ++ [c] := fun i hi z => hin ⟨i, hi, z⟩
        have hv := sgK_none hno
        have hany : (us.any fun u => decide (u = hd ++ [c])) = false := by
          rw [List.any_eq_false]
          intro u hu' z
          have z := of_decide_eq_true z
          obtain ⟨i, hi, rfl⟩ := List.getElem_of_mem hu'
          refine hno i hi ?_
          rw [List.getD_eq_getElem?_getD, List.getElem?_eq_getElem hi]
          exact z
        refine q_when (et_B (ev_din (k := Sum.inr (tx (hd ++ [c]))) (ev_var rfl) (hw H2 e12) (e12 _ _ h2))) (fun hz _ _ => by rw [hv] at hz; cases hz) (fun _ H3 e3 => ?_)
        have e13 := e12.trans e3
        have cL := el_lockKeys (H := H3) (σ := [some (V.ref a), some (vtx [c]), some (V.str (tx (hd ++ [c]))), none, none]) (te := tFld K (tVar 0) "_signs") (tb := tM1 (fun x xs H Q => ∃ a b, x = .str a ∧ xs = [.str b] ∧ Q (.bl (Txt.startswith a b)) H) (tVar 4) (tVar 2)) (ds := ds) (us := us) (j := 4) (vs := [4])
          (fun u => .bl (decide (u.take (hd ++ [c]).length = hd ++ [c]))) (e13 _ _ h2) (by omega) (fun H' ch => ev_fld (ev_var rfl) (ch _ _ (e13 _ _ h1) (Ne.symm nda)) T.oc_Reader.cl T.na_Reader__signs (rdF_signs _ _ _)) (fun x => rfl) (fun u H' => ev_starts (v := u) (u := hd ++ [c]) (ev_var rfl) (ev_var rfl))
        have em : us.map (fun u => V.bl (decide (u.take (hd ++ [c]).length = hd ++ [c]))) = (us.map fun u => decide (u.take (hd ++ [c]).length = hd ++ [c])).map V.bl := by rw [List.map_map]; rfl
        rw [em] at cL
        have ean : (us.map fun u => decide (u.take (hd ++ [c]).length = hd ++ [c])).any id = us.any fun u => decide (u.take (hd ++ [c]).length = hd ++ [c]) := by
          rw [List.any_map]
          rfl
        refine q_when (et_not (et_B (ev_any cL))) (fun hz H4 e4 => ?_) (fun hz H4 e4 => ?_)
        · rw [ean] at hz
          refine qE ?_ H4 (e13.trans e4)
          unfold takeOf
          rw [if_pos ⟨hb1, hb2⟩, ec, hany, if_neg (by decide), if_neg (fun z => by rw [z] at hz; cases hz)]
        · rw [ean] at hz
          have e14 := e13.trans e4
          have ht : takeOf us hd (vtx [c]) = some none := by
            unfold takeOf
            rw [if_pos ⟨hb1, hb2⟩, ec, hany, if_neg (by decide), if_pos (by simpa using hz)]
          refine q_fld (v := .str (tx (hd ++ [c]))) (ev_var rfl) (ev_var rfl) (e14 _ _ h1) T.oc_Reader.cl T.na_Reader__held (by show 3 < 1000; decide) fun H5 e5 => ?_
          rw [rdF_putH]
          refine s_ret ev_c fun H6 e6 => ?_
          have e15 := e14.trans e5
          have chain : ∀ b o, H b = some o → b ≠ a → H6 b = some o := fun b o hbo hba => e6 b o (by rw [upd_ne hba]; exact e15 b o hbo)
          exact qN ht H6 ⟨⟨dx, e6 _ _ upd_same⟩, chain _ _ h2 nda, chain _ _ h3 npa⟩ chain
    · have hn : takeOf us hd x = none := by
        unfold takeOf
        rw [if_neg hb]
      by_cases hb1 : isBitsV x = true
      · obtain ⟨u, rfl, hu⟩ := bits_of hb1
        have hl : u.length ≤ 1000 := by
          have := hxl (tx u) rfl
          rw [show (tx u).cps.size = (tx u).length from rfl, tx_len] at this
          exact this
        have hl1 : u.length ≠ 1 := fun z => hb ⟨hb1, by show (tx u).length = 1; rw [tx_len]; exact z⟩
        refine q_when (et_or (et_not (et_B (ev_call (ea_cons (ev_var rfl) ea_nil) svB))) fun _ => et_test (ev_op (ev_lenTx (l := u) (ev_var rfl) (by omega)) ev_c (rv_ne rfl))) (fun _ H1 e1 => qE hn H1 e1) (fun hz _ _ => ?_)
        rw [hb1, decide_eq_false (show ¬ V.int (u.length : Int) = V.int 1 from fun z => hl1 (by have := V.int.inj z; omega))] at hz
        cases hz
      · have hb1 : isBitsV x = false := by simpa using hb1
        refine q_when (b := true) (et_is (et_or (b := true) (et_not (et_B (ev_call (ea_cons (ev_var rfl) ea_nil) svB))) fun z => by rw [hb1] at z; cases z) (by rw [hb1]; rfl)) (fun _ H1 e1 => qE hn H1 e1) (fun hz _ _ => by cases hz)
end
end Sl
namespace Sl
open PySem PySem.Spec PyProof.Rows L2 Evl
section
variable {P : Program} {w : World} {K : PySem.W.Frag} {mg : Str → Option Value} {base : Heap} {t : Adr}
/-! Reader.held -/
def spRHeld (C : Addr) : Sp := fun vs H Q _ => ∃ (a ds pd : Addr) (us : List (List Nat)) (hd dn : List Nat), vs = [.ref a] ∧ RdAt C H a ds pd us hd dn ∧ RetV (.str (tx hd)) H Q
theorem ok_reader_held (T : Top K mg t) : FnOk P w K mg base CX0 1 t.f_reader_held t.d_reader_held ["self"] (spRHeld t.C_Reader) := by
  refine T.reader_held.F.ok sc_reader_held (fun vs H Q E h => ?_) (fun cdv A outer s H vs Q E hr h => ?_)
  · obtain ⟨a, ds, pd, us, hd, dn, rfl, _⟩ := h
    rfl
  · obtain ⟨a, ds, pd, us, hd, dn, rfl, ⟨⟨dx, h1⟩, h2, h3⟩, q⟩ := h
    refine ⟨_, (pss_one (ps_ret (pe_fld (pv 0) rfl))), ?_⟩
    exact s_ret (ev_fld (ev_var rfl) h1 T.oc_Reader.cl T.na_Reader__held (rdF_held _ _ _)) fun H1 e1 => q H1 e1
end
end Sl
namespace Sl
open PySem PySem.Spec PyProof.Rows L2 Evl
section
variable {P : Program} {w : World} {K : PySem.W.Frag} {mg : Str → Option Value} {base : Heap} {t : Adr}
/-! Reader.done -/
def spRDone (C : Addr) : Sp := fun vs H Q _ => ∃ (a ds pd : Addr) (us : List (List Nat)) (hd dn : List Nat), vs = [.ref a] ∧ RdAt C H a ds pd us hd dn ∧ RetL (natsV dn) H Q
theorem ok_reader_done (T : Top K mg t) : FnOk P w K mg base CX0 1 t.f_reader_done t.d_reader_done ["self"] (spRDone t.C_Reader) := by
  refine T.reader_done.F.ok sc_reader_done (fun vs H Q E h => ?_) (fun cdv A outer s H vs Q E hr h => ?_)
  · obtain ⟨a, ds, pd, us, hd, dn, rfl, _⟩ := h
    rfl
  · obtain ⟨a, ds, pd, us, hd, dn, rfl, ⟨⟨dx, h1⟩, h2, h3⟩, q⟩ := h
    refine ⟨_, (pss_one (ps_ret (pe_callTy (r := rListS K) call_list_of (by rfl) T.b.b_list (by decide +kernel) (pa_cons (pe_fld (pv 0) rfl) pa_nil)))), ?_⟩
    exact s_retL (el_list (ev_fld (ev_var rfl) h1 T.oc_Reader.cl T.na_Reader__done (rdF_done _ _ _)) (sq_of h3)) fun p H1 hp e1 h4 => q p H1 hp e1 h4
end
end Sl
namespace Sl
open PySem PySem.Spec PyProof.Rows L2 Evl
section
variable {P : Program} {w : World} {K : PySem.W.Frag} {mg : Str → Option Value} {base : Heap} {t : Adr}
/-! Reader.again -/
def spRAgain (C : Addr) : Sp := fun vs H Q _ => ∃ (a ds pd : Addr) (us : List (List Nat)) (hd dn : List Nat), vs = [.ref a] ∧ RdAt C H a ds pd us hd dn ∧
  ∀ H' p2, RdAt C H' a ds p2 us [] [] → (∀ b o, H b = some o → b ≠ a → H' b = some o) → H p2 = none → Q .non H'
theorem ok_reader_again (T : Top K mg t) : FnOk P w K mg base CX0 1 t.f_reader_again t.d_reader_again ["self"] (spRAgain t.C_Reader) := by
  refine T.reader_again.F.ok sc_reader_again (fun vs H Q E h => ?_) (fun cdv A outer s H vs Q E hr h => ?_)
  · obtain ⟨a, ds, pd, us, hd, dn, rfl, _⟩ := h
    rfl
  · obtain ⟨a, ds, pd, us, hd, dn, rfl, ⟨⟨dx, h1⟩, h2, h3⟩, q⟩ := h
    refine ⟨_, (pss_cons (ps_fld (pv 0) pe_str rfl)
      (pss_one (ps_fld (pv 0) (pe_lst pa_nil) rfl))), ?_⟩
    have nda : ds ≠ a := fun z => by rw [z, h1] at h2; cases h2
    refine q_fld (v := .str (tx [])) ev_c (ev_var rfl) h1 T.oc_Reader.cl T.na_Reader__held (by show 3 < 1000; decide) fun H1 e1 => ?_
    refine s_fldL (el_lst ea_nil (by decide)) (ev_var rfl) upd_same T.oc_Reader.cl T.na_Reader__done (by rw [rdF_putH]; show 3 < 1000; decide) fun p2 H2 hp2 e2 hp => ?_
    have npa : p2 ≠ a := fun z => by rw [z, upd_same] at hp2; cases hp2
    have chain : ∀ b o, H b = some o → b ≠ a → H2 b = some o := fun b o hb hba => e2 b o (by rw [upd_ne hba]; exact e1 b o hb)
    have np0 : H p2 = none := by
      cases h : H p2 with
      | none => rfl
      | some o =>
        have z := e1 p2 o h
        rw [upd_ne npa, z] at hp2
        cases hp2
    refine q _ p2 ⟨⟨dx, ?_⟩, ?_, ?_⟩ (fun b o hb hba => ?_) np0
    · rw [upd_same, rdF_putH, rdF_putD]
    · rw [upd_ne nda]
      exact chain _ _ h2 nda
    · rw [upd_ne npa]
      exact hp
    · rw [upd_ne hba]
      exact chain _ _ hb hba
end
end Sl
namespace Sl
open PySem PySem.Spec PyProof.Rows L2 Evl
section
variable {P : Program} {w : World} {K : PySem.W.Frag} {mg : Str → Option Value} {base : Heap} {t : Adr}
/-! _law_cell -/
def lwSeed (ns : List Int) (k : Int) : Int := if 0 < ns.length then (ns.getD (k * 7 % (ns.length : Int)).toNat 0 * 48271 + k * 7919) % 2147483647 else k * 7919 + 5
def lwCell (ns : List Int) (k : Int) : Int := if k < (ns.length : Int) then ns.getD k.toNat 0 else lwSeed ns k * lwSeed ns k % 2147483629
def spLwCell (K : PySem.W.Frag) : Sp := fun vs H Q _ => ∃ (a : Addr) (ns : List Int) (k : Int), vs = [.ref a, .int k] ∧ SqL K H a (ns.map V.int) ∧ 0 ≤ k ∧ k ≤ 1000000 ∧ RetV (.int (lwCell ns k)) H Q
theorem sv_cell {H : Hp} {a : Addr} {ns : List Int} {k : Int} (hS : SqL K H a (ns.map V.int)) (h0 : 0 ≤ k) (h1 : k ≤ 1000000) : SpV (spLwCell K) ([.ref a, .int k] ++ []) H (.int (lwCell ns k)) := fun H1 e Q q E =>
  ⟨a, ns, k, rfl, ex_l e hS, h0, h1, q⟩
theorem at_getD {ns : List Int} {j : Int} (h0 : 0 ≤ j) (h : j < (ns.length : Int)) : atI (ns.map V.int) j = some (.int (ns.getD j.toNat 0)) := by
  obtain ⟨n, rfl⟩ := Int.eq_ofNat_of_zero_le h0
  have hn : n < ns.length := by omega
  refine atI_nat ?_
  rw [List.getElem?_map, Int.toNat_natCast, List.getD_eq_getElem?_getD, List.getElem?_eq_getElem hn]
  rfl
theorem ok_lw_cell (T : Top K mg t) : FnOk P w K mg base CX0 1 t.f_lw_cell t.d_lw_cell ["_law_script", "_law_k"] (spLwCell K) := by
  refine T.lw_cell.F.ok sc_lw_cell (fun vs H Q E h => ?_) (fun cdv A outer s H vs Q E hr h => ?_)
  · obtain ⟨a, ns, k, rfl, _⟩ := h
    rfl
  · obtain ⟨a, ns, k, rfl, hS, h0, h1, q⟩ := h
    refine ⟨_, (pss_cons (ps_if (pt_cmpR op_lt (pv 1) (pe_callB (r := rLenS K) call_len_seq (by rfl) T.b.b_len (by decide +kernel) (pa_cons (pv 0) pa_nil)) (nomark _)) (pss_one (ps_ret (pe_ix (r := rIxL K) ix_list (pv 0) (pv 1) (fun _ _ => rfl)))) pss_nil)
      (pss_cons (ps_set (i := 2) sc_lw_cell.nd rfl (.inl rfl) (pe_op op_add (pe_op op_mul (pv 1) pe_int) pe_int))
      (pss_cons (ps_if (pt_cmpR op_gt (pe_callB (r := rLenS K) call_len_seq (by rfl) T.b.b_len (by decide +kernel) (pa_cons (pv 0) pa_nil)) pe_int (nomark _)) (pss_one (ps_set (i := 2) sc_lw_cell.nd rfl (.inl rfl) (pe_op op_mod (pe_op op_add (pe_op op_mul (pe_ix (r := rIxL K) ix_list (pv 0) (pe_op op_mod (pe_op op_mul (pv 1) pe_int) (pe_callB (r := rLenS K) call_len_seq (by rfl) T.b.b_len (by decide +kernel) (pa_cons (pv 0) pa_nil))) (fun _ _ => rfl)) pe_int) (pe_op op_mul (pv 1) pe_int)) pe_int))) pss_nil)
      (pss_one (ps_ret (pe_op op_mod (pe_op op_mul (pv 2) (pv 2)) pe_int)))))), ?_⟩
    have el : ((ns.map V.int).length : Int) = (ns.length : Int) := by rw [List.length_map]
    refine q_when (et_test (ev_op (ev_var rfl) (ev_len (ev_var rfl) hS) rv_I0)) (fun hb H1 e1 => ?_) (fun hb H1 e1 => ?_)
    · have hk : k < (ns.length : Int) := by
        have := of_decide_eq_true hb
        omega
      refine s_ret (ev_op (ev_var rfl) (ev_var rfl) (rv_ixL (ex_l e1 hS) (at_getD h0 hk))) fun H2 e2 => ?_
      have z := q H2 (e1.trans e2)
      unfold lwCell at z
      rw [if_pos hk] at z
      exact z
    · have hk : ¬ k < (ns.length : Int) := by
        have := of_decide_eq_false hb
        omega
      refine q_asg (ev_op (ev_op (ev_var rfl) ev_c (rv_I (.inr ⟨by decide, by decide⟩))) ev_c rv_I0) fun H2 e2 => ?_
      have e12 := e1.trans e2
      have fin : ∀ H3, Ex H H3 → ∀ n : Int, n = lwSeed ns k → -(2 ^ 64) < n ∧ n < 2 ^ 64 → tRet (tOp (rI (fun _ j => 0 < j) fun i j => .int (i % j)) (tOp (rI CMul fun i j => .int (i * j)) (tVar 2) (tVar 2)) (tC (.int 2147483629))) { nx := fun _ H' => Q .non H', rt := Q } [some (V.ref a), some (V.int k), some (V.int n)] H3 := by
        intro H3 e3 n hn hb
        refine s_ret (ev_op (ev_op (ev_var rfl) (ev_var rfl) (rv_I (.inl hb))) ev_c (rv_I (by decide))) fun H4 e4 => ?_
        have z := q H4 (e3.trans e4)
        unfold lwCell at z
        rw [if_neg hk, ← hn] at z
        exact z
      refine q_when (et_test (ev_op (ev_len (ev_var rfl) (ex_l e12 hS)) ev_c rv_I0)) (fun hb H3 e3 => ?_) (fun hb H3 e3 => ?_)
      · have hp : 0 < ns.length := by
          have := of_decide_eq_true hb
          omega
        have hm0 : 0 ≤ k * 7 % (ns.length : Int) := Int.emod_nonneg _ (by omega)
        have hm1 : k * 7 % (ns.length : Int) < (ns.length : Int) := Int.emod_lt_of_pos _ (by omega)
        refine s_asg (ev_op (ev_op (ev_op (ev_op (ev_var rfl) (ev_op (ev_op (ev_var rfl) ev_c (rv_I (.inr ⟨by decide, by decide⟩))) (ev_len (ev_var rfl) (ex_l (e12.trans e3) hS)) (rv_I (by rw [el]; omega))) (rv_ixL (ex_l (e12.trans e3) hS) (by rw [el]; exact at_getD hm0 hm1))) ev_c (rv_I (.inr ⟨by decide, by decide⟩)))
          (ev_op (ev_var rfl) ev_c (rv_I (.inr ⟨by decide, by decide⟩))) rv_I0) ev_c (rv_I (by decide))) fun H4 e4 => ?_
        have hs : lwSeed ns k = (ns.getD (k * 7 % (ns.length : Int)).toNat 0 * 48271 + k * 7919) % 2147483647 := if_pos hp
        have b0 := Int.emod_nonneg (ns.getD (k * 7 % (ns.length : Int)).toNat 0 * 48271 + k * 7919) (show (2147483647 : Int) ≠ 0 by decide)
        have b1 := Int.emod_lt_of_pos (ns.getD (k * 7 % (ns.length : Int)).toNat 0 * 48271 + k * 7919) (show (0 : Int) < 2147483647 by decide)
        exact fin H4 ((e12.trans e3).trans e4) _ hs.symm ⟨by omega, by omega⟩
      · have hp : ¬ 0 < ns.length := by
          have := of_decide_eq_false hb
          omega
        have hs : lwSeed ns k = k * 7919 + 5 := if_neg hp
        exact fin H3 (e12.trans e3) _ hs.symm ⟨by omega, by omega⟩
end
end Sl
namespace Sl
open PySem PySem.Spec PyProof.Rows L2 Evl
section
variable {P : Program} {w : World} {K : PySem.W.Frag} {mg : Str → Option Value} {base : Heap} {t : Adr}
/-! _law_word_of -/
def spWordOf (K : PySem.W.Frag) (t : Adr) : SpE := fun a c vs H Q _ => ∃ (D : Addr) (nm : Str), c = .ref D ∧ vs = [.ref a] ∧ Err K t D nm ∧ RetU [.str "refused", .str nm] H Q
def told (nm : Str) (n : Str) : List V := if decide (nm = n) = true then [.str n] else []
theorem told_all {nm : Str} (h : nm ∈ errNames) : ((((((([] ++ told nm "NoWeights") ++ told nm "BadWeight") ++ told nm "BadBound") ++ told nm "NoRoom") ++ told nm "BadLengths") ++ told nm "BadWords") ++ told nm "BadBits") ++ told nm "NoSign" = [.str nm] := by
  unfold errNames at h
  simp only [List.mem_cons, List.not_mem_nil, or_false] at h
  rcases h with rfl | rfl | rfl | rfl | rfl | rfl | rfl | rfl <;> rfl
theorem told_len (nm n : Str) : (told nm n).length ≤ 1 := by
  unfold told
  split
  · exact Nat.le_refl _
  · exact Nat.zero_le _
theorem ok_lw_word_of (T : Top K mg t) : FnE P w K mg base 1 t.f_lw_word_of t.d_lw_word_of ["_law_error"] (spWordOf K t) := by
  refine fnE_of T.lw_word_of.F sc_lw_word_of (fun a c vs H Q E h => ?_) (fun cdv A outer s H vs Q E p c hz hf hr h => ?_)
  · obtain ⟨D, nm, rfl, rfl, _⟩ := h
    rfl
  · obtain ⟨D, nm, rfl, rfl, W, q⟩ := h
    refine ⟨_, (pss_cons (ps_set (i := 1) sc_lw_word_of.nd rfl (.inl rfl) (pe_lst pa_nil))
      (pss_cons (ps_if (pt_val (pe_callB (call_isP (List.mem_singleton.mpr rfl) hz hf) (by rfl) T.b.b_isinstance (by decide +kernel) (pa_cons (pv 0) (pa_cons (pe_glob (v := .ref t.C_NoWeights) rfl T.C_NoWeights.gC rfl) pa_nil)))) (pss_one (ps_expr (pe_bm PySem.F.plainAttrs_list PySem.F.slot_list_append PySem.F.type_list_append mt_append (pv 1) (pa_cons pe_str pa_nil)))) pss_nil)
      (pss_cons (ps_if (pt_val (pe_callB (call_isP (List.mem_singleton.mpr rfl) hz hf) (by rfl) T.b.b_isinstance (by decide +kernel) (pa_cons (pv 0) (pa_cons (pe_glob (v := .ref t.C_BadWeight) rfl T.C_BadWeight.gC rfl) pa_nil)))) (pss_one (ps_expr (pe_bm PySem.F.plainAttrs_list PySem.F.slot_list_append PySem.F.type_list_append mt_append (pv 1) (pa_cons pe_str pa_nil)))) pss_nil)
      (pss_cons (ps_if (pt_val (pe_callB (call_isP (List.mem_singleton.mpr rfl) hz hf) (by rfl) T.b.b_isinstance (by decide +kernel) (pa_cons (pv 0) (pa_cons (pe_glob (v := .ref t.C_BadBound) rfl T.C_BadBound.gC rfl) pa_nil)))) (pss_one (ps_expr (pe_bm PySem.F.plainAttrs_list PySem.F.slot_list_append PySem.F.type_list_append mt_append (pv 1) (pa_cons pe_str pa_nil)))) pss_nil)
      (pss_cons (ps_if (pt_val (pe_callB (call_isP (List.mem_singleton.mpr rfl) hz hf) (by rfl) T.b.b_isinstance (by decide +kernel) (pa_cons (pv 0) (pa_cons (pe_glob (v := .ref t.C_NoRoom) rfl T.C_NoRoom.gC rfl) pa_nil)))) (pss_one (ps_expr (pe_bm PySem.F.plainAttrs_list PySem.F.slot_list_append PySem.F.type_list_append mt_append (pv 1) (pa_cons pe_str pa_nil)))) pss_nil)
      (pss_cons (ps_if (pt_val (pe_callB (call_isP (List.mem_singleton.mpr rfl) hz hf) (by rfl) T.b.b_isinstance (by decide +kernel) (pa_cons (pv 0) (pa_cons (pe_glob (v := .ref t.C_BadLengths) rfl T.C_BadLengths.gC rfl) pa_nil)))) (pss_one (ps_expr (pe_bm PySem.F.plainAttrs_list PySem.F.slot_list_append PySem.F.type_list_append mt_append (pv 1) (pa_cons pe_str pa_nil)))) pss_nil)
      (pss_cons (ps_if (pt_val (pe_callB (call_isP (List.mem_singleton.mpr rfl) hz hf) (by rfl) T.b.b_isinstance (by decide +kernel) (pa_cons (pv 0) (pa_cons (pe_glob (v := .ref t.C_BadWords) rfl T.C_BadWords.gC rfl) pa_nil)))) (pss_one (ps_expr (pe_bm PySem.F.plainAttrs_list PySem.F.slot_list_append PySem.F.type_list_append mt_append (pv 1) (pa_cons pe_str pa_nil)))) pss_nil)
      (pss_cons (ps_if (pt_val (pe_callB (call_isP (List.mem_singleton.mpr rfl) hz hf) (by rfl) T.b.b_isinstance (by decide +kernel) (pa_cons (pv 0) (pa_cons (pe_glob (v := .ref t.C_BadBits) rfl T.C_BadBits.gC rfl) pa_nil)))) (pss_one (ps_expr (pe_bm PySem.F.plainAttrs_list PySem.F.slot_list_append PySem.F.type_list_append mt_append (pv 1) (pa_cons pe_str pa_nil)))) pss_nil)
      (pss_cons (ps_if (pt_val (pe_callB (call_isP (List.mem_singleton.mpr rfl) hz hf) (by rfl) T.b.b_isinstance (by decide +kernel) (pa_cons (pv 0) (pa_cons (pe_glob (v := .ref t.C_NoSign) rfl T.C_NoSign.gC rfl) pa_nil)))) (pss_one (ps_expr (pe_bm PySem.F.plainAttrs_list PySem.F.slot_list_append PySem.F.type_list_append mt_append (pv 1) (pa_cons pe_str pa_nil)))) pss_nil)
      (pss_cons (ps_if (PW.pt (pw_or (pt_cmpR op_ne (pe_callB (r := rLenS K) call_len_seq (by rfl) T.b.b_len (by decide +kernel) (pa_cons (pv 1) pa_nil)) pe_int (nomark _)) (pw_or1 (pt_not (pt_val (pe_callB (call_isP (List.mem_singleton.mpr rfl) hz hf) (by rfl) T.b.b_isinstance (by decide +kernel) (pa_cons (pv 0) (pa_cons (pe_bltn (v := .ty "ValueError") (by rfl) T.b.b_ValueError (by decide +kernel) rfl) pa_nil)))))))) (pss_one (ps_ret (pe_tup (pa_cons pe_str (pa_cons (pv 1) pa_nil))))) pss_nil)
      (pss_one (ps_ret (pe_tup (pa_cons pe_str (pa_cons (pe_ix (r := rIxL K) ix_list (pv 1) pe_int (fun _ _ => rfl)) pa_nil))))))))))))))), ?_⟩
    refine q_asgL (el_lst ea_nil (by decide)) fun l H1 hl e1 h1 => ?_
    have l1 := fun n => told_len nm n
    refine q_ifApp h1 (et_B (ev_isP W.C (ev_var rfl) ev_c (fun _ z => z) W.k1)) (ev_var rfl) ev_c (by simp) fun H2 b2 h2 => ?_
    refine q_ifApp h2 (et_B (ev_isP W.C (ev_var rfl) ev_c (fun _ z => z) W.k2)) (ev_var rfl) ev_c (by have := l1 "NoWeights"; unfold told at this; simp only [List.length_append, List.length_nil]; omega) fun H3 b3 h3 => ?_
    refine q_ifApp h3 (et_B (ev_isP W.C (ev_var rfl) ev_c (fun _ z => z) W.k3)) (ev_var rfl) ev_c (by have := l1 "NoWeights"; have := l1 "BadWeight"; unfold told at *; simp only [List.length_append, List.length_nil]; omega) fun H4 b4 h4 => ?_
    refine q_ifApp h4 (et_B (ev_isP W.C (ev_var rfl) ev_c (fun _ z => z) W.k4)) (ev_var rfl) ev_c (by have := l1 "NoWeights"; have := l1 "BadWeight"; have := l1 "BadBound"; unfold told at *; simp only [List.length_append, List.length_nil]; omega) fun H5 b5 h5 => ?_
    refine q_ifApp h5 (et_B (ev_isP W.C (ev_var rfl) ev_c (fun _ z => z) W.k5)) (ev_var rfl) ev_c (by have := l1 "NoWeights"; have := l1 "BadWeight"; have := l1 "BadBound"; have := l1 "NoRoom"; unfold told at *; simp only [List.length_append, List.length_nil]; omega) fun H6 b6 h6 => ?_
    refine q_ifApp h6 (et_B (ev_isP W.C (ev_var rfl) ev_c (fun _ z => z) W.k6)) (ev_var rfl) ev_c (by have := l1 "NoWeights"; have := l1 "BadWeight"; have := l1 "BadBound"; have := l1 "NoRoom"; have := l1 "BadLengths"; unfold told at *; simp only [List.length_append, List.length_nil]; omega) fun H7 b7 h7 => ?_
    refine q_ifApp h7 (et_B (ev_isP W.C (ev_var rfl) ev_c (fun _ z => z) W.k7)) (ev_var rfl) ev_c (by have := l1 "NoWeights"; have := l1 "BadWeight"; have := l1 "BadBound"; have := l1 "NoRoom"; have := l1 "BadLengths"; have := l1 "BadWords"; unfold told at *; simp only [List.length_append, List.length_nil]; omega) fun H8 b8 h8 => ?_
    refine q_ifApp h8 (et_B (ev_isP W.C (ev_var rfl) ev_c (fun _ z => z) W.k8)) (ev_var rfl) ev_c (by have := l1 "NoWeights"; have := l1 "BadWeight"; have := l1 "BadBound"; have := l1 "NoRoom"; have := l1 "BadLengths"; have := l1 "BadWords"; have := l1 "BadBits"; unfold told at *; simp only [List.length_append, List.length_nil]; omega) fun H9 b9 h9 => ?_
    have hx : H9 l = some (.lst [.str nm]) := h9.trans (congrArg (fun z => some (HO.lst z)) (told_all W.one))
    have step : ∀ {Ha Hb : Hp}, ExB l Ha Hb → Ex H Ha → Ex H Hb := fun {Ha Hb} eb ea c o hc => eb c o (ea c o hc) fun z => by rw [z, hl] at hc; cases hc
    have e9 : Ex H H9 := step b9 (step b8 (step b7 (step b6 (step b5 (step b4 (step b3 (step b2 e1)))))))
    refine q_when (et_or (et_test (ev_op (ev_len (ev_var rfl) (sq_of hx)) ev_c (rv_ne rfl))) fun _ => et_not (et_B (ev_isP W.C (ev_var rfl) ev_c (fun _ z => z) W.kV))) (fun hb _ _ => ?_) (fun hb H10 e10 => ?_)
    · exact absurd (show false = true from hb) (by decide)
    · refine s_retU (eu_tup (ea_cons ev_c (ea_cons (ev_op (ev_var rfl) ev_c (rv_ixL (sq_of (e10 _ _ hx)) rfl)) ea_nil)) (by show 2 ≤ 100000; decide)) fun r H11 hr e11 h11 => ?_
      exact q r H11 (fresh_back (e9.trans e10) hr) ((e9.trans e10).trans e11) h11
end
end Sl
namespace Sl
open PySem PySem.Spec PyProof.Rows L2 Evl
section
variable {P : Program} {w : World} {K : PySem.W.Frag} {mg : Str → Option Value} {base : Heap} {t : Adr}
/-! _law_words -/
def spWords (K : PySem.W.Frag) : Sp := fun vs H Q _ => ∃ (a : Addr) (ns : List Int) (first : Int), vs = [.ref a, .int first] ∧ SqL K H a (ns.map V.int) ∧ 0 ≤ first ∧ first ≤ 1000 ∧ ∀ us, GoodW us → RetL (us.map vtx) H Q
theorem ok_lw_words (T : Top K mg t) : FnOk P w K mg base CX0 2 t.f_lw_words t.d_lw_words ["_law_script", "_law_first"] (spWords K) := by
  refine T.lw_words.F.ok sc_lw_words (fun vs H Q E h => ?_) (fun cdv A outer s H vs Q E hr h => ?_)
  · obtain ⟨a, ns, first, rfl, _⟩ := h
    rfl
  · obtain ⟨a, ns, first, rfl, hS, f0, f1, q⟩ := h
    refine ⟨_, (pss_cons (ps_set (i := 2) sc_lw_words.nd rfl (.inl rfl) (pe_op op_mod (pe_call (ok_lw_cell T) (hr.mono (by decide)) (by rfl) T.lw_cell.g T.lw_cell.F.kp T.lw_cell.b .nil pass0 (pa_cons (pv 0) (pa_cons (pv 1) pa_nil))) pe_int))
      (pss_cons (ps_if (pt_cmpR op_eq (pe_op op_mod (pe_op op_fdiv (pe_call (ok_lw_cell T) (hr.mono (by decide)) (by rfl) T.lw_cell.g T.lw_cell.F.kp T.lw_cell.b .nil pass0 (pa_cons (pv 0) (pa_cons (pv 1) pa_nil))) pe_int) pe_int) pe_int (nomark _)) (pss_one (ps_set (i := 2) sc_lw_words.nd rfl (.inl rfl) (pe_op op_mod (pe_op op_fdiv (pe_call (ok_lw_cell T) (hr.mono (by decide)) (by rfl) T.lw_cell.g T.lw_cell.F.kp T.lw_cell.b .nil pass0 (pa_cons (pv 0) (pa_cons (pv 1) pa_nil))) pe_int) pe_int))) pss_nil)
      (pss_cons (ps_if (pt_cmpR op_eq (pv 2) pe_int (nomark _)) (pss_one (ps_ret (pe_lst pa_nil))) pss_nil)
      (pss_cons (ps_set (i := 3) sc_lw_words.nd rfl (.inl rfl) (pe_lst (pa_cons pe_str pa_nil)))
      (pss_cons (ps_for PassesOwn.never rfl (pi_range1 (by rfl) T.b.b_range (pa_cons (pe_op op_add (pe_op op_sub (pv 2) pe_int) (pe_op op_mod (pe_call (ok_lw_cell T) (hr.mono (by decide)) (by rfl) T.lw_cell.g T.lw_cell.F.kp T.lw_cell.b .nil pass0 (pa_cons (pv 0) (pa_cons (pe_op op_add (pv 1) pe_int) pa_nil))) pe_int)) pa_nil)) (pg_name (i := 4) sc_lw_words.nd rfl (.inl rfl)) (pss_cons (ps_setLc (i := 6) (own := [("_law_word", 5)]) (g := gName 5)  rfl sc_lw_words.nd rfl rfl (sw_true rfl rfl rfl (by decide +kernel)) (pi_list (pv 3)) (blkOk_by (own := [("_law_word", 5)]) (N := N_lw_words) (sc := defScope s_lw_words) (by decide +kernel)) (fun _ _ _ _ _ => (pg_name (i := 5) sc_lw_words.nd rfl (.inl rfl))) (fun _ _ _ _ _ => (pts_one (pt_cmpR op_lt (pe_callB (r := rLenTx) call_len_str (by rfl) T.b.b_len (by decide +kernel) (pa_cons (pv 5) pa_nil)) pe_int (nomark _)))) (fun _ _ _ _ _ => (pv 5)))
      (pss_cons (ps_set (i := 5) sc_lw_words.nd rfl (.inl rfl) (pe_ix (r := rIxL K) ix_list (pv 6) (pe_op op_mod (pe_call (ok_lw_cell T) (hr.mono (by decide)) (by rfl) T.lw_cell.g T.lw_cell.F.kp T.lw_cell.b .nil pass0 (pa_cons (pv 0) (pa_cons (pe_op op_add (pe_op op_add (pv 1) pe_int) (pv 4)) pa_nil))) (pe_callB (r := rLenS K) call_len_seq (by rfl) T.b.b_len (by decide +kernel) (pa_cons (pv 6) pa_nil))) (fun _ _ => rfl)))
      (pss_cons (ps_set (i := 7) sc_lw_words.nd rfl (.inl rfl) (pe_bm PySem.F.plainAttrs_list PySem.F.slot_list_index PySem.F.type_list_index mt_index (pv 3) (pa_cons (pv 5) pa_nil)))
      (pss_one (ps_set (i := 3) sc_lw_words.nd rfl (.inl rfl) (pe_op op_cat (pe_op op_cat (pe_slice (r := rSlL K) sl_list (pv 3) po_none (po_some (pv 7))) (pe_lst (pa_cons (pe_op op_add_str (pv 5) pe_str) (pa_cons (pe_op op_add_str (pv 5) pe_str) pa_nil)))) (pe_slice (r := rSlL K) sl_list (pv 3) (po_some (pe_op op_add (pv 7) pe_int)) po_none))))))))
      (pss_cut (ps_if (pt_cmpR (r := rEqD K) (op_eqD hr.units) (pv 3) (pe_lst (pa_cons pe_str pa_nil)) (nomark _)) (pss_one (ps_set (i := 3) sc_lw_words.nd rfl (.inl rfl) (pe_lst (pa_cons pe_str (pa_cons pe_str pa_nil))))) pss_nil)
      (pss_cons (ps_set (i := 8) sc_lw_words.nd rfl (.inl rfl) (pe_lst pa_nil))
      (pss_cons (ps_for PassesOwn.never rfl (pi_range1 (by rfl) T.b.b_range (pa_cons (pe_callB (r := rMin2) (call_min2 rfl) (by rfl) T.b.b_min (by decide +kernel) (pa_cons (pv 2) (pa_cons (pe_callB (r := rLenS K) call_len_seq (by rfl) T.b.b_len (by decide +kernel) (pa_cons (pv 3) pa_nil)) pa_nil))) pa_nil)) (pg_name (i := 4) sc_lw_words.nd rfl (.inl rfl)) (pss_one (ps_expr (pe_bm PySem.F.plainAttrs_list PySem.F.slot_list_append PySem.F.type_list_append mt_append (pv 8) (pa_cons (pe_bm PySem.F.plainAttrs_list PySem.F.slot_list_pop PySem.F.type_list_pop mt_popAt (pv 3) (pa_cons (pe_op op_mod (pe_call (ok_lw_cell T) (hr.mono (by decide)) (by rfl) T.lw_cell.g T.lw_cell.F.kp T.lw_cell.b .nil pass0 (pa_cons (pv 0) (pa_cons (pe_op op_add (pe_op op_add (pv 1) pe_int) (pv 4)) pa_nil))) (pe_callB (r := rLenS K) call_len_seq (by rfl) T.b.b_len (by decide +kernel) (pa_cons (pv 3) pa_nil))) pa_nil)) pa_nil)))))
      (pss_one (ps_ret (pv 8))))))))))), ?_⟩
    have cell : ∀ (σ : L2.St) (H1 : Hp), σ[0]? = some (some (V.ref a)) → σ[1]? = some (some (V.int first)) → Ex H H1 → Ev (tCall (spLwCell K) [] E0 (tCons (tVar 0) (tCons (tVar 1) tNil))) σ H1 (.int (lwCell ns first)) := fun σ H1 h0 h1 e => ev_call (ea_cons (ev_var h0) (ea_cons (ev_var h1) ea_nil)) (sv_cell (ex_l e hS) f0 (by omega))
    obtain ⟨n0, c0, d0⟩ := mod_nat (lwCell ns first) (show 0 < 9 by decide)
    obtain ⟨n1, c1, d1⟩ := mod_nat (lwCell ns first / 72) (show 0 < 25 by decide)
    refine q_asg (v := .int (n0 : Int)) (ev_is (ev_op (cell _ _ rfl rfl (Ex.refl _)) ev_c (rv_I (by decide))) (congrArg V.int c0)) fun H1 e1 => ?_
    obtain ⟨m, hm2, hm⟩ : ∃ m : Nat, m ≤ 24 ∧ (if decide (V.int (lwCell ns first / 9 % 8) = V.int 1) = true then V.int (n1 : Int) else V.int (n0 : Int)) = V.int (m : Int) := by
      split
      · exact ⟨n1, by omega, rfl⟩
      · exact ⟨n0, by omega, rfl⟩
    refine q_ifAsg (i := 2) (v := .int (m : Int)) (et_test (ev_op (ev_op (ev_op (cell _ _ rfl rfl e1) ev_c (rv_I ⟨by decide, by decide⟩)) ev_c (rv_I (by decide))) ev_c (rv_eq rfl))) (fun hd => ?_) (fun hd => ?_) fun H2 e2 => ?_
    · rw [if_pos hd] at hm
      rw [← hm]
      exact ev_is (ev_op (ev_op (cell _ _ rfl rfl e1) ev_c (rv_I ⟨by decide, by decide⟩)) ev_c (rv_I (by decide))) (congrArg V.int c1)
    · rw [if_neg (by rw [hd]; decide)] at hm
      rw [← hm]
      rfl
    clear hm
    have e12 := e1.trans e2
    refine q_when (et_test (ev_op (ev_var rfl) ev_c (rv_eq rfl))) (fun _ H3 e3 => ?_) (fun hm0 H3 e3 => ?_)
    · exact s_retL (el_lst ea_nil (by decide)) fun p H4 hp e4 h4 => q [] ⟨Nat.zero_le _, (fun _ h => by cases h), List.Pairwise.nil⟩ p H4 (fresh_back (e12.trans e3) hp) ((e12.trans e3).trans e4) h4
    have hm1 : 1 ≤ m := Nat.pos_of_ne_zero fun z => by
      rw [z] at hm0
      exact absurd hm0 (by decide)
    have e13 := e12.trans e3
    refine q_asgL (xs := [[]].map vtx) (el_lst (ea_cons ev_c ea_nil) (by decide)) fun ph H4 hph e4 h4 => ?_
    have e14 := e13.trans e4
    obtain ⟨n2, c2, d2⟩ := mod_nat (lwCell ns (first + 1)) (show 0 < 3 by decide)
    refine q_forR1 (n := ((m - 1 + n2 : Nat) : Int)) (ea_cons (ev_is (ev_op (ev_op (ev_var rfl) ev_c rv_I0) (ev_op (ev_call (ea_cons (ev_var rfl) (ea_cons (ev_op (ev_var rfl) ev_c rv_I0) ea_nil)) (sv_cell (ex_l e14 hS) (by omega) (by omega))) ev_c (rv_I (by decide))) rv_I0) (congrArg V.int (by rw [show lwCell ns (first + 1) % 3 = (n2 : Int) from c2]; omega))) ea_nil) ⟨by omega, by omega⟩
      (fun i σ' H' => Ex H H' ∧ ∃ (p : Addr) (xs : List (List Nat)) (v4 v5 v6 v7 : Option V), σ' = [some (V.ref a), some (V.int first), some (V.int (m : Int)), some (V.ref p), v4, v5, v6, v7, none] ∧ H p = none ∧ H' p = some (.lst (xs.map vtx)) ∧ LW [] xs ∧ (∀ w ∈ xs, w.length ≤ 12) ∧ xs.length = i + 1)
      (fun H5 e5 => ⟨e14.trans e5, ph, [[]], none, none, none, none, rfl, fresh_back e13 hph, e5 _ _ h4, .leaf [], fun w hw => by rw [List.mem_singleton.mp hw]; exact Nat.zero_le _, rfl⟩) (fun i σ' H' hi hP => ?_) fun σ' H' hP => ?_
    · obtain ⟨e5, p, xs, v4, v5, v6, v7, rfl, np, hp, hL, hw, hl⟩ := hP
      have xl : xs.length ≤ 30 := by omega
      have cS := el_lcL (K := K) (σ := [some (V.ref a), some (V.int first), some (V.int (m : Int)), some (V.ref p), some (V.int (i : Int)), v5, v6, v7, none]) (H := H') (a := p) (xs := xs.map vtx) (tl := tVar 3) (j := 5) (vs := [5]) (te := tVar 5)
        (t := tTest (tOp (rI0 fun i j => .bl (decide (i < j))) (tCB rLenTx (tCons (tVar 5) tNil)) (tC (.int 12)))) (fun i => decide ((xs.getD i []).length < 12)) (fun i => vtx (xs.getD i [])) (ev_var rfl) (sq_of hp) (by rw [List.length_map]; omega) (fun x => rfl)
        (fun i x H3 e3 hx => by
          rw [List.getElem?_map] at hx
          obtain ⟨u, h1, rfl⟩ := Option.map_eq_some_iff.mp hx
          have := hw u (List.mem_of_getElem? h1)
          rw [List.getD_eq_getElem?_getD, h1]
          refine et_is (et_test (ev_op (ev_lenTx (l := u) (ev_var rfl) (by omega)) ev_c rv_I0)) ?_
          exact decide_eq_decide.mpr (by show ((u.length : Int) < 12 ↔ u.length < 12); omega))
        (fun i x H3 e3 hx _ => by
          rw [List.getElem?_map] at hx
          obtain ⟨u, h1, rfl⟩ := Option.map_eq_some_iff.mp hx
          rw [List.getD_eq_getElem?_getD, h1]
          exact ev_var rfl)
      rw [given_filterW (by rw [List.length_map]) fun w => decide (w.length < 12)] at cS
      obtain ⟨ks, hks⟩ : ∃ ks, ks = xs.filter fun w => decide (w.length < 12) := ⟨_, rfl⟩
      rw [← hks] at cS
      have kmem : ∀ w ∈ ks, w ∈ xs ∧ w.length < 12 := fun w h => by
        rw [hks] at h
        obtain ⟨h1, h2⟩ := List.mem_filter.mp h
        exact ⟨h1, of_decide_eq_true h2⟩
      have kpos : 0 < ks.length := by
        refine List.length_pos_iff.mpr fun z => ?_
        rw [hks, List.filter_eq_nil_iff] at z
        have k := hL.many (fun w h => by
          have k1 := hw w h
          have k2 := z w h
          simp only [decide_eq_true_eq] at k2
          omega) (Nat.zero_le _)
        rw [k] at xl
        exact absurd xl (by decide)
      have kl : ks.length ≤ 30 := by
        rw [hks]
        exact Nat.le_trans (List.length_filter_le _ _) xl
      refine q_asgL cS fun r H6 hr e6 h6 => ?_
      have e56 := e5.trans e6
      obtain ⟨j, cj, dj⟩ := mod_nat (lwCell ns (first + 2 + (i : Int))) kpos
      obtain ⟨w, hwe⟩ : ∃ w, w = ks[j] := ⟨_, rfl⟩
      have gj : ks[j]? = some w := by rw [hwe]; exact List.getElem?_eq_getElem dj
      obtain ⟨wm, wl⟩ := kmem w (List.mem_of_getElem? gj)
      refine q_asg (v := vtx w) (ev_op (ev_var rfl) (ev_is (ev_op (ev_call (ea_cons (ev_var rfl) (ea_cons (ev_op (ev_op (ev_var rfl) ev_c rv_I0) (ev_var rfl) rv_I0) ea_nil)) (sv_cell (ex_l e56 hS) (by omega) (by omega))) (ev_is (ev_len (ev_var rfl) (sq_of h6)) (by rw [List.length_map])) (rv_I (show (0 : Int) < (ks.length : Int) by omega))) (congrArg V.int cj)) (rv_ixL (sq_of h6) (atI_nat (by rw [List.getElem?_map, gj]; rfl)))) fun H7 e7 => ?_
      have e57 := e56.trans e7
      have h7 := (e6.trans e7) _ _ hp
      refine q_asg (ev_indexW (ev_var rfl) (ev_var rfl) (sq_of h7) wm) fun H8 e8 => ?_
      have e58 := e57.trans e8
      have h8 := e8 _ _ h7
      obtain ⟨at_, hat⟩ : ∃ at_, at_ = xs.idxOf w := ⟨_, rfl⟩
      have hai : at_ < xs.length := by rw [hat]; exact List.idxOf_lt_length_iff.mpr wm
      have gat : xs[at_] = w := by subst hat; exact List.getElem_idxOf hai
      rw [← hat]
      have xe : xs = xs.take at_ ++ w :: xs.drop (at_ + 1) := by
        conv => lhs; rw [← List.take_append_drop at_ xs, List.drop_eq_getElem_cons hai, gat]
      have cA := el_sl (K := K) (σ := [some (V.ref a), some (V.int first), some (V.int (m : Int)), some (V.ref p), some (V.int (i : Int)), some (vtx w), some (V.ref r), some (V.int (at_ : Int)), none]) (H := H8) (te := tVar 3) (tl := tNoPart) (th := tPart (tVar 7)) (ev_var rfl) eo_none (eo_some (ev_var rfl)) (sq_of h8)
      have cB := el_sl (K := K) (σ := [some (V.ref a), some (V.int first), some (V.int (m : Int)), some (V.ref p), some (V.int (i : Int)), some (vtx w), some (V.ref r), some (V.int (at_ : Int)), none]) (H := H8) (te := tVar 3) (tl := tPart (tOp (rI0 fun i j => .int (i + j)) (tVar 7) (tC (.int 1)))) (th := tNoPart) (ev_var rfl) (eo_some (ev_op (ev_var rfl) ev_c rv_I0)) eo_none (sq_of h8)
      rw [cutV_to] at cA
      rw [show (at_ : Int) + 1 = ((at_ + 1 : Nat) : Int) by omega, cutV_from] at cB
      refine s_asgL (el_cat (el_cat cA (el_lst (ea_cons (ev_catS (b := [48]) (ev_var rfl) ev_c (by show w.length + 1 ≤ 1000; omega)) (ea_cons (ev_catS (b := [49]) (ev_var rfl) ev_c (by show w.length + 1 ≤ 1000; omega)) ea_nil)) (by show 2 ≤ 100000; decide)) (by simp; omega)) cB (by simp; omega)) fun u H9 hu e9 h9 => ?_
      refine ⟨e58.trans e9, u, xs.take at_ ++ [w ++ [48], w ++ [49]] ++ xs.drop (at_ + 1), _, _, _, _, rfl, fresh_back e58 hu, ?_, hL.split _ _ w xe, fun v hv => ?_, ?_⟩
      · rw [h9, List.map_append, List.map_append, List.map_take, List.map_drop]
        rfl
      · rcases List.mem_append.mp hv with hv | hv
        · rcases List.mem_append.mp hv with hv | hv
          · exact hw v (List.mem_of_mem_take hv)
          · simp only [List.mem_cons, List.not_mem_nil, or_false] at hv
            rcases hv with rfl | rfl <;> (rw [List.length_append]; show w.length + 1 ≤ 12; omega)
        · exact hw v (List.mem_of_mem_drop hv)
      · rw [List.length_append, List.length_append, List.length_take, List.length_drop]
        simp only [List.length_cons, List.length_nil]
        omega
    obtain ⟨e5, p, xs, v4, v5, v6, v7, rfl, np, hp, hL, hw, hl⟩ := hP
    rw [Int.toNat_natCast] at hl
    have hbits : ∀ w ∈ xs, ∀ c ∈ w, c = 48 ∨ c = 49 := fun w h c hc => by
      obtain ⟨s, rfl, hs⟩ := hL.pre w h
      exact hs c hc
    have small : ∀ u ∈ xs, ∀ c ∈ u, c < 0x110000 := fun u h c hc => by rcases hbits u h c hc with e | e <;> omega
    refine q_cut (M := fun σ'' H'' => Ex H H'' ∧ ∃ (p : Addr) (xs : List (List Nat)) (v4 v5 v6 v7 : Option V), σ'' = [some (V.ref a), some (V.int first), some (V.int (m : Int)), some (V.ref p), v4, v5, v6, v7, none] ∧ H p = none ∧ H'' p = some (.lst (xs.map vtx)) ∧
      (∀ u ∈ xs, 1 ≤ u.length ∧ u.length ≤ 12 ∧ ∀ c ∈ u, c = 48 ∨ c = 49) ∧ xs.Pairwise ApR ∧ xs.length ≤ 30) ?_ fun σ'' H'' hM => ?_
    · refine s_when (et_test (ev_eqVW (ys := [[]]) (ev_var rfl) (el_lst (ea_cons ev_c ea_nil) (by show 1 ≤ 100000; decide)) (sq_of hp) small (fun u h c hc => by rw [List.mem_singleton.mp h] at hc; cases hc))) (fun _ H6 e6 => ?_) (fun hb H6 e6 => ?_)
      · refine s_asgL (xs := [[48], [49]].map vtx) (el_lst (ea_cons ev_c (ea_cons ev_c ea_nil)) (by show 2 ≤ 100000; decide)) fun u H7 hu e7 h7 => ?_
        refine ⟨(e5.trans e6).trans e7, u, [[48], [49]], _, _, _, _, rfl, fresh_back (e5.trans e6) hu, h7, fun w hw => ?_, ?_, by show 2 ≤ 30; decide⟩
        · simp only [List.mem_cons, List.not_mem_nil, or_false] at hw
          rcases hw with rfl | rfl <;> simp
        · exact List.pairwise_pair.mpr ⟨by decide, by decide⟩
      · have hne : xs ≠ [[]] := fun z => by
          rw [z, eqv_same (shaped_txs (ws := [[]]) fun u h c hc => by rw [List.mem_singleton.mp h] at hc; cases hc)] at hb
          cases hb
        exact ⟨e5.trans e6, p, xs, _, _, _, _, rfl, np, e6 _ _ hp, fun u h => ⟨hL.long hne u h, hw u h, hbits u h⟩, hL.apart, by omega⟩
    clear hp hL hw hl hbits small np e5
    obtain ⟨e6, p, xs, v4, v5, v6, v7, rfl, np, hp, hG, hA, hl⟩ := hM
    refine q_asgL (xs := ([] : List (List Nat)).map vtx) (el_lst ea_nil (by decide)) fun pf H7 npf e7 h7 => ?_
    have e67 := e6.trans e7
    have hne : p ≠ pf := fun z => by rw [z, npf] at hp; cases hp
    have npf0 : H pf = none := fresh_back e6 npf
    obtain ⟨n, hn, hn1, hn2⟩ : ∃ n : Nat, (if ((xs.map vtx).length : Int) < (m : Int) then ((xs.map vtx).length : Int) else (m : Int)) = (n : Int) ∧ n ≤ 24 ∧ n ≤ xs.length := by
      rw [List.length_map]
      split
      · exact ⟨xs.length, rfl, by omega, Nat.le_refl _⟩
      · exact ⟨m, rfl, hm2, by omega⟩
    refine q_forR1 (n := (n : Int)) (ea_cons (ev_is (ev_min2 (ev_var rfl) (ev_len (ev_var rfl) (sq_of (e7 _ _ hp)))) (congrArg V.int hn)) ea_nil) ⟨by omega, by omega⟩
      (fun i σ' H' => Ex H H' ∧ ∃ (L F : List (List Nat)) (v : Option V), σ' = [some (V.ref a), some (V.int first), some (V.int (m : Int)), some (V.ref p), v, v5, v6, v7, some (V.ref pf)] ∧ H' p = some (.lst (L.map vtx)) ∧ H' pf = some (.lst (F.map vtx)) ∧ (F ++ L).Perm xs ∧ F.length = i)
      (fun H8 e8 => ⟨e67.trans e8, xs, [], v4, rfl, (e7.trans e8) _ _ hp, e8 _ _ h7, List.Perm.refl _, rfl⟩) (fun i σ' H' hi hP => ?_) (fun σ' H' hP => ?_)
    · obtain ⟨e3, L, F, v, rfl, hL, hF, hpm, hlF⟩ := hP
      have hlen : F.length + L.length = xs.length := by
        have := hpm.length_eq
        rw [List.length_append] at this
        exact this
      have hLp : 0 < L.length := by omega
      obtain ⟨j, cj, hjl⟩ := mod_nat (lwCell ns (first + 30 + (i : Int))) hLp
      have hix := ev_op (r := rI (fun _ j => 0 < j) fun i j => .int (i % j)) (σ := [some (V.ref a), some (V.int first), some (V.int (m : Int)), some (V.ref p), some (V.int (i : Int)), v5, v6, v7, some (V.ref pf)]) (H := H')
        (ev_call (E := E0) (sp := spLwCell K) (dvs := []) (ea_cons (ev_var (i := 0) rfl) (ea_cons (ev_op (r := rI0 fun i j => .int (i + j)) (ev_op (r := rI0 fun i j => .int (i + j)) (ev_var (i := 1) rfl) (ev_c (v := .int 30)) rv_I0) (ev_var (i := 4) rfl) rv_I0) ea_nil)) (sv_cell (ex_l e3 hS) (by omega) (by omega)))
        (ev_is (ev_len (K := K) (ev_var (i := 3) rfl) (sq_of hL)) (by rw [List.length_map])) (rv_I (show (0 : Int) < (L.length : Int) by omega))
      rw [cj] at hix
      refine ⟨.ref pf, rfl, .inl ⟨rfl, _, sq_of hF⟩, .ref p, rfl, .inl ⟨rfl, _, sq_of hL⟩, ?_⟩
      refine hix H' (Ex.refl _) _ fun H4 e4 => ?_
      have hL4 := e4 _ _ hL
      have hF4 := e4 _ _ hF
      refine ⟨p, _, (j : Int), j, vtx L[j], rfl, rfl, hL4, by omega, by omega, ?_, ?_, ?_⟩
      · rw [List.length_map]
        exact seqIndexW hjl
      · rw [List.getElem?_map, List.getElem?_eq_getElem hjl]
        rfl
      · refine ⟨pf, _, _, rfl, rfl, by rw [upd_ne (Ne.symm hne)]; exact hF4, sz_lt (by rw [List.length_map]; omega), ?_⟩
        refine ⟨Ex.mut (Ex.mut (e3.trans e4) np) npf0, L.eraseIdx j, F ++ [L[j]], some (V.int (i : Int)), rfl, ?_, ?_, ?_, ?_⟩
        · rw [upd_ne hne, upd_same, map_eraseW]
        · rw [upd_same, List.map_append]
          rfl
        · refine List.Perm.trans ?_ hpm
          rw [List.append_assoc]
          refine List.Perm.append_left F ?_
          show (L[j] :: L.eraseIdx j).Perm L
          exact perm_eraseW hjl
        · rw [List.length_append, hlF]
          rfl
    · obtain ⟨e3, L, F, v, rfl, hL, hF, hpm, hlF⟩ := hP
      refine s_ret (ev_var rfl) fun H4 e4 => ?_
      rw [Int.toNat_natCast] at hlF
      have hG' : GoodW F := ⟨by omega, fun u h => hG u (hpm.mem_iff.mp (List.mem_append_left _ h)), (List.pairwise_append.mp ((hpm.pairwise_iff fun {u v} z => ⟨z.2, z.1⟩).mpr hA)).1⟩
      exact q F hG' pf H4 npf0 (e3.trans e4) (e4 _ _ hF)
end
end Sl
namespace Sl
open PySem PySem.Spec PyProof.Rows L2 Evl
section
variable {P : Program} {w : World} {K : PySem.W.Frag} {mg : Str → Option Value} {base : Heap} {t : Adr}
/-! _law_due -/
def spDue (K : PySem.W.Frag) : Sp := fun vs H Q _ => ∃ (a : Addr) (us : List (List Nat)) (hd : List Nat) (x : V), vs = [.ref a, .str (tx hd), x] ∧ SqL K H a (us.map vtx) ∧ us.length ≤ 24 ∧ (∀ u ∈ us, u.length ≤ 12 ∧ ∀ c ∈ u, c < 0x110000) ∧ hd.length ≤ 900 ∧ Thing H x ∧ (∀ s, x = .str s → s.cps.size ≤ 1000) ∧
  (takeOf us hd x = none → ∀ p q H', H p = none → Ex H H' → H' p = some (.tup [.ref q, .str (tx hd)]) → H' q = some (.tup [.str "refused", .str "BadBits"]) → Q (.ref p) H') ∧
  (takeOf us hd x = some none → RetU [.non, .str (tx (hd ++ cpsV x))] H Q) ∧ (∀ i, takeOf us hd x = some (some i) → RetU [.int (i : Int), .str (tx [])] H Q)
theorem bit_in {u : List Nat} : ([[48], [49]].any fun v => decide (v = u)) = decide (isBitsV (vtx u) = true ∧ lenV (vtx u) = 1) := by
  rw [Bool.eq_iff_iff, decide_eq_true_iff, List.any_eq_true]
  have hl : lenV (vtx u) = u.length := tx_len u
  rw [hl]
  constructor
  · rintro ⟨v, hv, hvu⟩
    have e := of_decide_eq_true hvu
    subst e
    simp only [List.mem_cons, List.not_mem_nil, or_false] at hv
    rcases hv with rfl | rfl <;> exact ⟨by decide +kernel, rfl⟩
  · rintro ⟨h1, h2⟩
    obtain ⟨c, rfl⟩ := List.length_eq_one_iff.mp h2
    have := isBit_iff.mp (List.all_eq_true.mp h1 c List.mem_cons_self)
    rcases this with rfl | rfl
    · exact ⟨[48], List.mem_cons_self, decide_eq_true rfl⟩
    · exact ⟨[49], List.mem_cons_of_mem _ List.mem_cons_self, decide_eq_true rfl⟩
theorem ok_lw_due (T : Top K mg t) : FnOk P w K mg base CX0 1 t.f_lw_due t.d_lw_due ["_law_words_here", "_law_bits", "_law_bit_here"] (spDue K) := by
  refine T.lw_due.F.ok sc_lw_due (fun vs H Q E h => ?_) (fun cdv A outer s H vs Q E hr h => ?_)
  · obtain ⟨a, us, hd, x, rfl, _⟩ := h
    rfl
  · obtain ⟨a, us, hd, x, rfl, hS, hn, hu, hhl, hx, hxl, qE, qN, qS⟩ := h
    refine ⟨_, (pss_cons (ps_if (PW.pt (pw_or (pt_not (pt_val (pe_callB (r := rIsi K) call_isi (by rfl) T.b.b_isinstance (by decide +kernel) (pa_cons (pv 2) (pa_cons (pe_bltn (v := .ty "str") (by rfl) T.b.b_str (by decide +kernel) rfl) pa_nil))))) (pw_or1 (pt_cmpR op_notIn_seq (pv 2) (pe_lst (pa_cons pe_str (pa_cons pe_str pa_nil))) rfl)))) (pss_one (ps_ret (pe_tup (pa_cons (pe_tup (pa_cons pe_str (pa_cons pe_str pa_nil))) (pa_cons (pv 1) pa_nil))))) pss_nil)
      (pss_cons (ps_set (i := 3) sc_lw_due.nd rfl (.inr rfl) (pe_op op_add_str (pv 1) (pv 2)))
      (pss_cons (ps_if (pt_cmpR op_in_seq (pv 3) (pv 0) rfl) (pss_one (ps_ret (pe_tup (pa_cons (pe_bm PySem.F.plainAttrs_list PySem.F.slot_list_index PySem.F.type_list_index mt_index (pv 0) (pa_cons (pv 3) pa_nil)) (pa_cons pe_str pa_nil))))) pss_nil)
      (pss_cons (ps_if (pt_cmpR (r := rEqD K) (op_eqD hr.units) (pe_lc (own := [("_law_word", 4)]) (g := gName 4)  rfl sc_lw_due.nd (pi_list (pv 0)) (blkOk_by (own := [("_law_word", 4)]) (N := N_lw_due) (sc := defScope s_lw_due) (by decide +kernel)) (fun _ _ _ _ _ => (pg_name (i := 4) sc_lw_due.nd rfl (.inl rfl))) (fun _ _ _ _ _ => (pts_one (pt_cmpR op_eq (pe_slice sl_str (pv 4) po_none (po_some (pe_callB (r := rLenTx) call_len_str (by rfl) T.b.b_len (by decide +kernel) (pa_cons (pv 3) pa_nil)))) (pv 3) (nomark _)))) (fun _ _ _ _ _ => (pv 4))) (pe_lst pa_nil) (nomark _)) (pss_one (ps_ret (pe_tup (pa_cons (pe_tup (pa_cons pe_str (pa_cons pe_str pa_nil))) (pa_cons (pv 1) pa_nil))))) pss_nil)
      (pss_one (ps_ret (pe_tup (pa_cons pe_non (pa_cons (pv 3) pa_nil))))))))), ?_⟩
    have refuse : ∀ (D : Ends) (σ : L2.St) (H1 : Hp), D.rt = Q → σ[1]? = some (some (.str (tx hd))) → Ex H H1 → takeOf us hd x = none → tRet (tTup (tCons (tTup (tCons (tC (.str "refused")) (tCons (tC (.str "BadBits")) tNil))) (tCons (tVar 1) tNil))) D σ H1 := fun D σ H1 hD s1 e1 hn => by
      refine ⟨sz_of (by show 2 ≤ 100000; decide), fun q0 hq => ⟨_, s1, sz_of (by show 2 ≤ 100000; decide), fun p hp => ?_⟩⟩
      rw [hD]
      have e2 := e1.trans (Ex.new (o := .tup [.str "refused", .str "BadBits"]) hq)
      have ne : q0 ≠ p := fun z => by rw [z, upd_same] at hp; cases hp
      exact qE hn p q0 _ (fresh_back e2 hp) (e2.trans (Ex.new hp)) upd_same (by rw [upd_ne ne]; exact upd_same)
    by_cases hs : ∃ u, x = vtx u
    · obtain ⟨u, rfl⟩ := hs
      have hul : u.length ≤ 1000 := by
        have := hxl (tx u) rfl
        rw [show (tx u).cps.size = (tx u).length from rfl, tx_len] at this
        exact this
      have cB : ∀ H1, Ex H H1 → Ev (tOp (rIn K true) (tVar 2) (tLst (tCons (tC (.str "0")) (tCons (tC (.str "1")) tNil)))) (L2.start N_lw_due [.ref a, .str (tx hd), vtx u]) H1 (.bl (!decide (isBitsV (vtx u) = true ∧ lenV (vtx u) = 1))) := fun H1 e => by
        rw [← bit_in]
        exact ev_notInL (us := [[48], [49]]) (ev_var rfl) (el_lst (ea_cons ev_c (ea_cons ev_c ea_nil)) (by show 2 ≤ 100000; decide))
      refine q_when (et_or (et_not (et_B (ev_isStrG (ev_var rfl) hx))) fun _ => et_test (cB H (Ex.refl H))) (fun hz H1 e1 => ?_) (fun hz H1 e1 => ?_)
      · refine refuse _ _ H1 rfl rfl e1 ?_
        unfold takeOf
        rw [if_neg fun z => ?_]
        rw [decide_eq_true z] at hz
        cases hz
      · have hg : isBitsV (vtx u) = true ∧ lenV (vtx u) = 1 := by
          by_cases z : isBitsV (vtx u) = true ∧ lenV (vtx u) = 1
          · exact z
          · rw [decide_eq_false z] at hz
            cases hz
        have ec : cpsV (vtx u) = u := rfl
        refine q_asg (v := .str (tx (hd ++ u))) (ev_catS (ev_var rfl) (ev_var rfl) (by
          have : u.length = 1 := by have := hg.2; rw [show lenV (vtx u) = u.length from tx_len u] at this; exact this
          omega)) fun H2 e2 => ?_
        have e12 := e1.trans e2
        refine q_when (et_test (ev_inW (w := hd ++ u) (ev_var rfl) (ev_var rfl) (ex_l e12 hS))) (fun hin H3 e3 => ?_) (fun hin H3 e3 => ?_)
        · have hmem : (hd ++ u) ∈ us := by
            obtain ⟨v, h1, h2⟩ := List.any_eq_true.mp hin
            rw [← of_decide_eq_true h2]
            exact h1
          refine s_retU (eu_tup (ea_cons (ev_indexW (ev_var rfl) (ev_var rfl) (ex_l (e12.trans e3) hS) hmem) (ea_cons ev_c ea_nil)) (by show 2 ≤ 100000; decide)) fun p H4 hp e4 h4 => ?_
          refine qS (us.idxOf (hd ++ u)) ?_ p H4 (fresh_back (e12.trans e3) hp) ((e12.trans e3).trans e4) h4
          unfold takeOf
          rw [if_pos hg, ec, if_pos hin]
        · have e13 := e12.trans e3
          have cL := el_lcL (K := K) (σ := [some (V.ref a), some (V.str (tx hd)), some (vtx u), some (V.str (tx (hd ++ u))), none]) (H := H3) (a := a) (xs := us.map vtx) (tl := tVar 0) (j := 4) (vs := [4]) (te := tVar 4)
            (t := tTest (tOp rEq (tSl rSlS (tVar 4) tNoPart (tPart (tCB rLenTx (tCons (tVar 3) tNil)))) (tVar 3))) (fun i => decide ((us.getD i []).take (hd ++ u).length = hd ++ u)) (fun i => vtx (us.getD i [])) (ev_var rfl) (ex_l e13 hS) (by rw [List.length_map]; omega) (fun x => rfl)
            (fun i x H4 e4 hx => by
              rw [List.getElem?_map] at hx
              obtain ⟨v, h1, rfl⟩ := Option.map_eq_some_iff.mp hx
              have := (hu v (List.mem_of_getElem? h1)).1
              rw [List.getD_eq_getElem?_getD, h1]
              refine et_is (et_test (ev_op (ev_slTo (l := v) (ev_var rfl) (eo_some (ev_lenTx (l := hd ++ u) (ev_var rfl) (by rw [List.length_append]; omega))) (by omega)) (ev_var rfl) (rv_eq rfl))) ?_
              exact decide_eq_decide.mpr ⟨fun z => tx_inj (V.str.inj z), fun z => by rw [show v.take (hd ++ u).length = hd ++ u from z]⟩)
            (fun i x H4 e4 hx _ => by
              rw [List.getElem?_map] at hx
              obtain ⟨v, h1, rfl⟩ := Option.map_eq_some_iff.mp hx
              rw [List.getD_eq_getElem?_getD, h1]
              exact ev_var rfl)
          rw [given_filterW (by rw [List.length_map]) fun v => decide (v.take (hd ++ u).length = hd ++ u)] at cL
          have fe : (us.filter fun v => decide (v.take (hd ++ u).length = hd ++ u)).isEmpty = !(us.any fun v => decide (v.take (hd ++ u).length = hd ++ u)) := by
            rw [Bool.eq_iff_iff, List.isEmpty_iff, List.filter_eq_nil_iff, Bool.not_eq_true', List.any_eq_false]
          refine q_when (et_test (ev_eqNilW cL (el_lst ea_nil (by decide)) fun v hv => (hu v (List.mem_filter.mp hv).1).2)) (fun hz2 H4 e4 => ?_) (fun hz2 H4 e4 => ?_)
          · rw [fe] at hz2
            refine refuse _ _ H4 rfl rfl (e13.trans e4) ?_
            unfold takeOf
            rw [if_pos hg, ec, hin, if_neg (by decide), if_neg (fun z => by rw [z] at hz2; cases hz2)]
          · rw [fe] at hz2
            refine s_retU (eu_tup (ea_cons ev_c (ea_cons (ev_var rfl) ea_nil)) (by show 2 ≤ 100000; decide)) fun p H5 hp e5 h5 => ?_
            refine qN ?_ p H5 (fresh_back (e13.trans e4) hp) ((e13.trans e4).trans e5) h5
            unfold takeOf
            rw [if_pos hg, ec, hin, if_neg (by decide), if_pos (by simpa using hz2)]
    · have hsx : isStrV x = false := by
        cases x <;> first | rfl | exact absurd ⟨_, rfl⟩ hs
      have hbx : isBitsV x = false := by
        cases x <;> first | rfl | exact absurd ⟨_, rfl⟩ hs
      refine q_when (b := true) (et_is (et_or (b := true) (et_not (et_B (ev_isStrG (ev_var rfl) hx))) fun z => by rw [hsx] at z; cases z) (by rw [hsx]; rfl)) (fun _ H1 e1 => ?_) (fun hz _ _ => by cases hz)
      refine refuse _ _ H1 rfl rfl e1 ?_
      unfold takeOf
      rw [if_neg fun z => by rw [hbx] at z; cases z.1]
end
end Sl
namespace Sl
open PySem PySem.Spec PyProof.Rows L2 Evl
section
variable {P : Program} {w : World} {K : PySem.W.Frag} {mg : Str → Option Value} {base : Heap} {t : Adr}
/-! _law_told -/
def spTold (K : PySem.W.Frag) (C : Addr) : Sp := fun vs H Q _ => ∃ (a ds pd : Addr) (us : List (List Nat)) (hd dn : List Nat) (x : V), vs = [.ref a, x] ∧ RdAt C H a ds pd us hd dn ∧ Thing H x ∧ (∀ s, x = .str s → s.cps.size ≤ 1000) ∧ hd.length ≤ 900 ∧ us.length ≤ 24 ∧ (∀ u ∈ us, u.length ≤ 12) ∧ dn.length ≤ 1000 ∧
  (∀ i j, i < us.length → j < us.length → i ≠ j → us.getD i [] ≠ us.getD j []) ∧
  (takeOf us hd x = none → RetU [.str "refused", .str "BadBits"] H Q) ∧
  (takeOf us hd x = some none → ∀ H', RdAt C H' a ds pd us (hd ++ cpsV x) dn → (∀ b o, H b = some o → b ≠ a → H' b = some o) → Q .non H') ∧
  (∀ i, takeOf us hd x = some (some i) → ∀ H', RdAt C H' a ds pd us [] (dn ++ [i]) → (∀ b o, H b = some o → b ≠ a → b ≠ pd → H' b = some o) → Q (.int (i : Int)) H')
theorem roomS {j k : Nat} {A : Around} {h : Option Value} (r : Room k A) (e : j ≤ k) : L2H.RoomH j (A.mark h) := ⟨(r.mono e).dp, (r.mono e).un⟩
theorem rdF_take (ds pd : Addr) (hd : List Nat) : (rdF ds pd hd).lookup ("take" : Str) = none := by
  unfold rdF
  rfl
theorem ok_lw_told (T : Top K mg t) : FnOk P w K mg base CX0 3 t.f_lw_told t.d_lw_told ["_law_reader", "_law_bit_here"] (spTold K t.C_Reader) := by
  refine T.lw_told.F.ok sc_lw_told (fun vs H Q E h => ?_) (fun cdv A outer s H vs Q E hr h => ?_)
  · obtain ⟨a, ds, pd, us, hd, dn, x, rfl, _⟩ := h
    rfl
  · obtain ⟨a, ds, pd, us, hd, dn, x, rfl, hR, hx, hxl, hhl, hul, hu12, hdl, hne, qE, qN, qS⟩ := h
    refine ⟨_, pss_one (ps_try_as (i := 2) (tb := fun W => tRet (tMethT t.C_Reader "take" (spRTake K t.C_Reader t.C_BadBits) (WE W) (tVar 0) (tCons (tVar 1) tNil))) (ts := fun a c d => fun D σ H => d = none ∧ tRet (tCall (spWordOf K t a c) [] E0 (tCons (tVar 2) tNil)) D σ H) (Wout := fun _ _ _ _ => False) rfl rfl sc_lw_told.nd rfl rfl ⟨rfl, by decide, .inl T.C_CodeError.gC⟩ takes0
      (fun W pn xe tk _ => pss_one (ps_ret (pe_methT (pv 0) T.oc_Reader.cl T.me_reader_take (ok_reader_take T) (hr.mono (by decide)) T.reader_take.b (fun σ => passAt tk σ) (pa_cons (pv 1) pa_nil))))
      (fun a oe c d pn hz hf => pss_given fun hd => pss_one (ps_ret (pe_callE (p := (a, oe)) (c := c) (ok_lw_word_of T) (roomS hr (by decide)) List.mem_cons_self (hd ▸ hz) hf (by rfl) T.lw_word_of.g T.lw_word_of.F.kp T.lw_word_of.b (pa_cons (pv 2) pa_nil))))), ?_⟩
    obtain ⟨⟨dx, h1⟩, h2, h3⟩ := hR
    refine ⟨.ref a, rfl, a, dx, _, rfl, h1, rdF_take _ _ _, x, rfl, a, ds, pd, us, hd, dn, x, rfl, ⟨⟨dx, h1⟩, h2, h3⟩, hx, hxl, hhl, hul, hu12, hdl, hne, fun hn H1 e1 => ?_, qN, qS⟩
    refine ⟨true, T.E_BadBits.sub, fun _ b hb => ⟨rfl, .ref b, rfl, _, _, rfl, rfl, T.E_BadBits, fun p H2 hp e2 h4 => ?_⟩, fun z => nomatch z⟩
    exact qE hn p H2 (fresh_back e1 hp) (e1.trans e2) h4
end
end Sl
namespace Sl
open PySem PySem.Spec PyProof.Rows L2 Evl
section
variable {P : Program} {w : World} {K : PySem.W.Frag} {mg : Str → Option Value} {base : Heap} {t : Adr}
/-! _law_alike -/
def Alike (H : Hp) (x y : V) : Prop := (x = .non ∧ y = .non) ∨ (∃ i : Int, x = .int i ∧ y = .int i) ∨ ∃ (p q : Addr) (u v : Str), x = .ref p ∧ y = .ref q ∧ H p = some (.tup [.str u, .str v]) ∧ H q = some (.tup [.str u, .str v]) ∧ SeqAt.shaped (.tuple [.str u, .str v]) = true
theorem Alike.mono {H H' : Hp} {x y : V} (e : Ex H H') (h : Alike H x y) : Alike H' x y := by
  rcases h with h | h | ⟨p, q, u, v, h1, h2, h3, h4, h5⟩
  · exact .inl h
  · exact .inr (.inl h)
  · exact .inr (.inr ⟨p, q, u, v, h1, h2, e _ _ h3, e _ _ h4, h5⟩)
def spAlike : Sp := fun vs H Q _ => ∃ x y : V, vs = [x, y] ∧ Alike H x y ∧ RetV (.bl true) H Q
theorem sv_alike {H : Hp} {x y : V} (k : Alike H x y) : SpV spAlike ([x, y] ++ []) H (.bl true) := fun H1 e Q q E => ⟨x, y, rfl, k.mono e, q⟩
theorem ev_isTupG {K : PySem.W.Frag} {σ : L2.St} {H : Hp} {te : TE} {i : Int} (h : Ev te σ H (.int i)) : Ev (tCB (rIsi K) (tCons te (tCons (tC (.ty "tuple")) tNil))) σ H (.bl false) := fun H1 e Q q =>
  h H1 e _ fun H2 e2 => ⟨.int i, .ty "tuple", _, _, _, rfl, .ty _, .base (.int _), kit_ty (show kitB "int" "tuple" = some false by decide +kernel), q H2 e2⟩
theorem ok_lw_alike (T : Top K mg t) : FnOk P w K mg base CX0 1 t.f_lw_alike t.d_lw_alike ["_law_found", "_law_due_here"] spAlike := by
  refine T.lw_alike.F.ok sc_lw_alike (fun vs H Q E h => ?_) (fun cdv A outer s H vs Q E hr h => ?_)
  · obtain ⟨x, y, rfl, _⟩ := h
    rfl
  · obtain ⟨x, y, rfl, hA, q⟩ := h
    refine ⟨_, (pss_cons (ps_if (pt_cmpR op_isN (pv 1) pe_non (nomark _)) (pss_one (ps_ret (pe_cmpR op_isN (pv 0) pe_non (nomark _)))) pss_nil)
      (pss_cons (ps_if (pt_val (pe_callB (r := rIsi K) call_isi (by rfl) T.b.b_isinstance (by decide +kernel) (pa_cons (pv 1) (pa_cons (pe_bltn (v := .ty "tuple") (by rfl) T.b.b_tuple (by decide +kernel) rfl) pa_nil)))) (pss_one (ps_ret (pe_and (pe_callB (r := rIsi K) call_isi (by rfl) T.b.b_isinstance (by decide +kernel) (pa_cons (pv 0) (pa_cons (pe_bltn (v := .ty "tuple") (by rfl) T.b.b_tuple (by decide +kernel) rfl) pa_nil))) (pe_one (pe_cmpR (r := rEqD K) (op_eqD hr.units) (pv 0) (pv 1) (nomark _)))))) pss_nil)
      (pss_one (ps_ret (pe_and (pe_callB (r := rIsi K) call_isi (by rfl) T.b.b_isinstance (by decide +kernel) (pa_cons (pv 0) (pa_cons (pe_bltn (v := .ty "int") (by rfl) T.b.b_int (by decide +kernel) rfl) pa_nil))) (pe_and (pe_not (pe_callB (r := rIsi K) call_isi (by rfl) T.b.b_isinstance (by decide +kernel) (pa_cons (pv 0) (pa_cons (pe_bltn (v := .ty "bool") (by rfl) T.b.b_bool (by decide +kernel) rfl) pa_nil)))) (pe_one (pe_cmpR (r := rEqD K) (op_eqD hr.units) (pv 0) (pv 1) (nomark _))))))))), ?_⟩
    rcases hA with ⟨rfl, rfl⟩ | ⟨i, rfl, rfl⟩ | ⟨p, r, u, v, rfl, rfl, hp, hq, sh⟩
    · refine q_when (et_test (ev_op (ev_var rfl) ev_c rv_isN)) (fun _ H1 e1 => ?_) (fun hz _ _ => absurd hz (by decide))
      exact s_ret (ev_op (ev_var rfl) ev_c rv_isN) fun H2 e2 => q H2 (e1.trans e2)
    · refine q_when (et_test (ev_op (ev_var rfl) ev_c rv_isN)) (fun hz _ _ => absurd hz (by simp)) (fun _ H1 e1 => ?_)
      refine q_when (et_B (ev_isTupG (ev_var rfl))) (fun hz _ _ => by cases hz) (fun _ H2 e2 => ?_)
      refine s_ret (v := .bl true) (ev_is (ev_andV (ev_isInt (ev_var rfl) (.int _)) fun _ => ev_andV (ev_notV (ev_isBool (ev_var rfl) (.int _))) fun _ => ev_eqD (ev_var rfl) (ev_var rfl) (.int i) (.int i) rfl rfl) ?_) fun H3 e3 => q H3 ((e1.trans e2).trans e3)
      rw [eqv_same (d := .int i) rfl]
      rfl
    · refine q_when (et_test (ev_op (ev_var rfl) ev_c rv_isN)) (fun hz _ _ => absurd hz (by simp)) (fun _ H1 e1 => ?_)
      refine q_when (et_B (ev_isTup (ev_var rfl) (e1 _ _ hq))) (fun _ H2 e2 => ?_) (fun hz _ _ => by cases hz)
      have e12 := e1.trans e2
      refine s_ret (v := .bl true) (ev_is (ev_andV (ev_isTup (ev_var rfl) (e12 _ _ hp)) fun _ => ev_eqD (ev_var rfl) (ev_var rfl) (.tup (st_of (e12 _ _ hp)) (.cons (.str _) (.cons (.str _) .nil))) (.tup (st_of (e12 _ _ hq)) (.cons (.str _) (.cons (.str _) .nil))) sh sh) ?_) fun H3 e3 => q H3 (e12.trans e3)
      rw [eqv_same sh]
      rfl
end
end Sl
namespace Sl
open PySem PySem.Spec PyProof.Rows L2 Evl
section
variable {P : Program} {w : World} {K : PySem.W.Frag} {mg : Str → Option Value} {base : Heap} {t : Adr}
/-! _law_bit -/
def spBit (K : PySem.W.Frag) : Sp := fun vs H Q _ => ∃ (a : Addr) (us : List (List Nat)) (hd : List Nat) (c : Int), vs = [.ref a, .str (tx hd), .int c] ∧ SqL K H a (us.map vtx) ∧ us.length ≤ 24 ∧ (∀ u ∈ us, u.length ≤ 12 ∧ ∀ c ∈ u, c < 0x110000) ∧ hd.length ≤ 900 ∧
  ∀ v H2, Ex H H2 → Thing H2 v → (∀ s, v = .str s → s.cps.size ≤ 1000) → Q v H2
theorem ok_lw_bit (T : Top K mg t) : FnOk P w K mg base CX0 1 t.f_lw_bit t.d_lw_bit ["_law_words_here", "_law_bits", "_law_cell_here"] (spBit K) := by
  refine T.lw_bit.F.ok sc_lw_bit (fun vs H Q E h => ?_) (fun cdv A outer s H vs Q E hr h => ?_)
  · obtain ⟨a, us, hd, c, rfl, _⟩ := h
    rfl
  · obtain ⟨a, us, hd, c, rfl, hS, hn, hu, hhl, q⟩ := h
    refine ⟨_, (pss_cons (ps_if (pt_cmpR op_eq (pe_op op_mod (pv 2) pe_int) pe_int (nomark _)) (pss_one (ps_ret (pe_ix (r := rIxL K) ix_list (pe_lst (pa_cons pe_str (pa_cons pe_str (pa_cons pe_str (pa_cons pe_int (pa_cons pe_int (pa_cons pe_non (pa_cons pe_bl (pa_cons (pe_lst (pa_cons pe_str pa_nil)) (pa_cons pe_str pa_nil)))))))))) (pe_op op_mod (pe_op op_fdiv (pv 2) pe_int) pe_int) (fun _ _ => rfl)))) pss_nil)
      (pss_cons (ps_if (pt_cmpR op_lt (pe_op op_mod (pv 2) pe_int) pe_int (nomark _)) (pss_cons (ps_setLc (i := 4) (own := [("_law_word", 3)]) (g := gName 3)  rfl sc_lw_bit.nd rfl rfl (sw_true rfl rfl rfl (by decide +kernel)) (pi_list (pv 0)) (blkOk_by (own := [("_law_word", 3)]) (N := N_lw_bit) (sc := defScope s_lw_bit) (by decide +kernel)) (fun _ _ _ _ _ => (pg_name (i := 3) sc_lw_bit.nd rfl (.inl rfl))) (fun _ _ _ _ _ => (pts_one (PW.pt (pw_and (pt_cmpR op_eq (pe_slice sl_str (pv 3) po_none (po_some (pe_callB (r := rLenTx) call_len_str (by rfl) T.b.b_len (by decide +kernel) (pa_cons (pv 1) pa_nil)))) (pv 1) (nomark _)) (pw_and1 (pt_cmpR op_gt (pe_callB (r := rLenTx) call_len_str (by rfl) T.b.b_len (by decide +kernel) (pa_cons (pv 3) pa_nil)) (pe_callB (r := rLenTx) call_len_str (by rfl) T.b.b_len (by decide +kernel) (pa_cons (pv 1) pa_nil)) (nomark _))))))) (fun _ _ _ _ _ => (pv 3)))
      (pss_one (ps_if (pt_cmpR (r := rNeD K) (op_neD hr.units) (pv 4) (pe_lst pa_nil) (nomark _)) (pss_cons (ps_set (i := 3) sc_lw_bit.nd rfl (.inl rfl) (pe_ix (r := rIxL K) ix_list (pv 4) (pe_op op_mod (pe_op op_fdiv (pv 2) pe_int) (pe_callB (r := rLenS K) call_len_seq (by rfl) T.b.b_len (by decide +kernel) (pa_cons (pv 4) pa_nil))) (fun _ _ => rfl)))
      (pss_one (ps_ret (pe_ix ix_str (pv 3) (pe_callB (r := rLenTx) call_len_str (by rfl) T.b.b_len (by decide +kernel) (pa_cons (pv 1) pa_nil)) (fun _ _ => rfl))))) pss_nil))) pss_nil)
      (pss_one (ps_ret (pe_ix ix_str pe_str (pe_op op_mod (pe_op op_fdiv (pv 2) pe_int) pe_int) (fun _ _ => rfl)))))), ?_⟩
    have one : ∀ (z : Str) (H1 : Hp), z.cps.size ≤ 1000 → Ex H H1 → Q (.str z) H1 := fun z H1 hz e => q _ H1 e (.inr (.inr (.inr (.inl ⟨z, rfl⟩)))) fun s hs => by cases hs; exact hz
    refine q_when (et_test (ev_op (ev_op (ev_var rfl) ev_c (rv_I (by decide))) ev_c (rv_eq rfl))) (fun _ H1 e1 => ?_) (fun _ H1 e1 => ?_)
    · obtain ⟨j, cj, dj⟩ := mod_nat (c / 9) (show 0 < 9 by decide)
      refine ⟨sz_of (by show 1 ≤ 100000; decide), fun q0 hq => ⟨sz_of (by show 9 ≤ 100000; decide), fun p hp => ?_⟩⟩
      have eq0 : Ex H1 (upd H1 q0 (.lst [.str "1"])) := Ex.new hq
      have e2 := eq0.trans (Ex.new (o := .lst [.str "2", .str "", .str "01", .int 0, .int 1, .non, .bl true, .ref q0, .str "o"]) hp)
      have ne : q0 ≠ p := fun z => by rw [z, upd_same] at hp; cases hp
      have hi : Ev (tOp (rI (fun _ j => 0 < j) fun i j => .int (i % j)) (tOp (rI CDiv fun i j => .int (i / j)) (tVar 2) (tC (.int 9))) (tC (.int 9))) (L2.start N_lw_bit [.ref a, .str (tx hd), .int c]) (upd (upd H1 q0 (.lst [.str "1"])) p (.lst [.str "2", .str "", .str "01", .int 0, .int 1, .non, .bl true, .ref q0, .str "o"])) (.int (j : Int)) :=
        ev_is (ev_op (ev_op (ev_var rfl) ev_c (rv_I ⟨by decide, by decide⟩)) ev_c (rv_I (by decide))) (congrArg V.int cj)
      refine hi _ (Ex.refl _) _ fun H2 e3 => ?_
      have e13 := (e1.trans e2).trans e3
      have hp2 : H2 p = some (.lst [.str "2", .str "", .str "01", .int 0, .int 1, .non, .bl true, .ref q0, .str "o"]) := e3 _ _ upd_same
      have hq2 : H2 q0 = some (.lst [.str "1"]) := e3 _ _ (by rw [upd_ne ne]; exact upd_same)
      have pick : ∀ v : V, ([.str "2", .str "", .str "01", .int 0, .int 1, .non, .bl true, .ref q0, .str "o"] : List V)[j]? = some v → Q v H2 → rIxL K (.ref p) (.int (j : Int)) H2 Q := fun v hv hQ => ⟨p, _, (j : Int), v, rfl, rfl, sq_of hp2, atI_nat hv, hQ⟩
      have cases9 : j = 0 ∨ j = 1 ∨ j = 2 ∨ j = 3 ∨ j = 4 ∨ j = 5 ∨ j = 6 ∨ j = 7 ∨ j = 8 := by omega
      rcases cases9 with rfl | rfl | rfl | rfl | rfl | rfl | rfl | rfl | rfl
      · exact pick _ rfl (one _ H2 (by decide +kernel) e13)
      · exact pick _ rfl (one _ H2 (by decide +kernel) e13)
      · exact pick _ rfl (one _ H2 (by decide +kernel) e13)
      · exact pick _ rfl (q _ H2 e13 (.int 0) fun s hs => by cases hs)
      · exact pick _ rfl (q _ H2 e13 (.int 1) fun s hs => by cases hs)
      · exact pick _ rfl (q _ H2 e13 (.inl rfl) fun s hs => by cases hs)
      · exact pick _ rfl (q _ H2 e13 (.inr (.inl ⟨true, rfl⟩)) fun s hs => by cases hs)
      · exact pick _ rfl (q _ H2 e13 (.inr (.inr (.inr (.inr ⟨q0, _, rfl, .inl hq2⟩)))) fun s hs => by cases hs)
      · exact pick _ rfl (one _ H2 (by decide +kernel) e13)
    -- one sign
    have sign : ∀ (z : Nat) (H1 : Hp), Ex H H1 → Q (.str ⟨#[z]⟩) H1 := fun z H1 e => one _ H1 (by show 1 ≤ 1000; decide) e
    have last : ∀ (D : Ends) (σ : L2.St) (H2 : Hp), D.rt = Q → σ[2]? = some (some (.int c)) → Ex H H2 → tRet (tOp rIxS (tC (.str "01")) (tOp (rI (fun _ j => 0 < j) fun i j => .int (i % j)) (tOp (rI CDiv fun i j => .int (i / j)) (tVar 2) (tC (.int 9))) (tC (.int 2)))) D σ H2 := fun D σ H2 hD s2 e2 => by
      obtain ⟨j, cj, dj⟩ := mod_nat (c / 9) (show 0 < 2 by decide)
      refine (ev_is (ev_op (ev_op (ev_var s2) ev_c (rv_I ⟨by decide, by decide⟩)) ev_c (rv_I (by decide))) (congrArg V.int cj) : Ev (tOp (rI (fun _ j => 0 < j) fun i j => .int (i % j)) (tOp (rI CDiv fun i j => .int (i / j)) (tVar 2) (tC (.int 9))) (tC (.int 2))) σ H2 (.int (j : Int))) H2 (Ex.refl _) _ fun H3 e3 => ?_
      have cases2 : j = 0 ∨ j = 1 := by omega
      rcases cases2 with rfl | rfl
      · exact ⟨"01", 0, 48, rfl, rfl, by decide +kernel, rfl, by rw [hD]; exact sign 48 H3 (e2.trans e3)⟩
      · exact ⟨"01", 1, 49, rfl, rfl, by decide +kernel, rfl, by rw [hD]; exact sign 49 H3 (e2.trans e3)⟩
    refine q_when (et_test (ev_op (ev_op (ev_var rfl) ev_c (rv_I (by decide))) ev_c rv_I0)) (fun _ H2 e2 => ?_) (fun _ H2 e2 => last _ _ H2 rfl rfl (e1.trans e2))
    have e12 := e1.trans e2
    have cL := el_lcL (K := K) (σ := [some (V.ref a), some (V.str (tx hd)), some (V.int c), none, none]) (H := H2) (a := a) (xs := us.map vtx) (tl := tVar 0) (j := 3) (vs := [3]) (te := tVar 3)
      (t := tAnd (tTest (tOp rEq (tSl rSlS (tVar 3) tNoPart (tPart (tCB rLenTx (tCons (tVar 1) tNil)))) (tVar 1))) (tTest (tOp (rI0 fun i j => .bl (decide (j < i))) (tCB rLenTx (tCons (tVar 3) tNil)) (tCB rLenTx (tCons (tVar 1) tNil)))))
      (fun i => decide ((us.getD i []).take hd.length = hd) && decide (hd.length < (us.getD i []).length)) (fun i => vtx (us.getD i [])) (ev_var rfl) (ex_l e12 hS) (by rw [List.length_map]; omega) (fun x => rfl)
      (fun i x H4 e4 hx => by
        rw [List.getElem?_map] at hx
        obtain ⟨v, h1, rfl⟩ := Option.map_eq_some_iff.mp hx
        have := (hu v (List.mem_of_getElem? h1)).1
        rw [List.getD_eq_getElem?_getD, h1]
        refine et_is (et_and (et_test (ev_op (ev_slTo (l := v) (ev_var rfl) (eo_some (ev_lenTx (l := hd) (ev_var rfl) (by omega))) (by omega)) (ev_var rfl) (rv_eq rfl))) fun _ => et_test (ev_op (ev_lenTx (l := v) (ev_var rfl) (by omega)) (ev_lenTx (l := hd) (ev_var rfl) (by omega)) rv_I0)) ?_
        show (_ && _) = (decide (v.take hd.length = hd) && decide (hd.length < v.length))
        congr 1
        · exact decide_eq_decide.mpr ⟨fun z => tx_inj (V.str.inj z), fun z => by rw [z]⟩
        · exact decide_eq_decide.mpr Int.ofNat_lt)
      (fun i x H4 e4 hx _ => by
        rw [List.getElem?_map] at hx
        obtain ⟨v, h1, rfl⟩ := Option.map_eq_some_iff.mp hx
        rw [List.getD_eq_getElem?_getD, h1]
        exact ev_var rfl)
    rw [given_filterW (by rw [List.length_map]) fun v => decide (v.take hd.length = hd) && decide (hd.length < v.length)] at cL
    obtain ⟨ks, hks⟩ : ∃ ks, ks = us.filter fun v => decide (v.take hd.length = hd) && decide (hd.length < v.length) := ⟨_, rfl⟩
    rw [← hks] at cL
    have kmem : ∀ v ∈ ks, v.length ≤ 12 ∧ hd.length < v.length := fun v h => by
      rw [hks] at h
      obtain ⟨h1, h2⟩ := List.mem_filter.mp h
      rw [Bool.and_eq_true] at h2
      exact ⟨(hu v h1).1, of_decide_eq_true h2.2⟩
    refine q_asgL cL fun r H3 hr e3 h3 => ?_
    have e13 := e12.trans e3
    have neN : Ev (tOp (rNeD K) (tVar 4) (tLst tNil)) [some (V.ref a), some (V.str (tx hd)), some (V.int c), none, some (V.ref r)] H3 (.bl (!ks.isEmpty)) := fun H4 e4 Q' q' => by
      refine (ev_var (i := 4) rfl : Ev (tVar 4) [some (V.ref a), some (V.str (tx hd)), some (V.int c), none, some (V.ref r)] H3 (.ref r)) H4 e4 _ fun H5 e5 => ?_
      refine (el_lst ea_nil (by decide) : EvL (tLst tNil) [some (V.ref a), some (V.str (tx hd)), some (V.int c), none, some (V.ref r)] H5 []) H5 (Ex.refl _) _ fun p H6 hp e6 h6 => ?_
      have ksm : ∀ u ∈ ks, ∀ c ∈ u, c < 0x110000 := fun u h => by
        rw [hks] at h
        exact (hu u (List.mem_filter.mp h).1).2
      refine ⟨_, .list [], dp_txs (sq_of ((e4.trans (e5.trans e6)) _ _ h3)), .lst (sq_of h6) .nil, shaped_txs ksm, by decide +kernel, ?_⟩
      have ee : PyData.eqv (.list (ks.map dtx)) (.list []) = ks.isEmpty := by
        cases ks <;> rfl
      rw [ee]
      exact q' H6 (e5.trans e6)
    refine s_when (et_test neN) (fun hz H4 e4 => ?_) (fun _ H4 e4 => last _ _ H4 rfl rfl (e13.trans e4))
    have kpos : 0 < ks.length := by
      refine List.length_pos_iff.mpr fun z => ?_
      rw [z] at hz
      cases hz
    have e14 := e13.trans e4
    obtain ⟨j, cj, dj⟩ := mod_nat (c / 9) kpos
    obtain ⟨w, hwe⟩ : ∃ w, w = ks[j] := ⟨_, rfl⟩
    have gj : ks[j]? = some w := by rw [hwe]; exact List.getElem?_eq_getElem dj
    obtain ⟨wl, wh⟩ := kmem w (List.mem_of_getElem? gj)
    refine q_asg (v := vtx w) (ev_op (ev_var rfl) (ev_is (ev_op (ev_op (ev_var rfl) ev_c (rv_I ⟨by decide, by decide⟩)) (ev_is (ev_len (ev_var rfl) (sq_of (e4 _ _ h3))) (by rw [List.length_map])) (rv_I (show (0 : Int) < (ks.length : Int) by omega))) (congrArg V.int cj)) (rv_ixL (sq_of (e4 _ _ h3)) (atI_nat (by rw [List.getElem?_map, gj]; rfl)))) fun H5 e5 => ?_
    refine s_ret (v := .str ⟨#[w[hd.length]]⟩) (ev_op (ev_var rfl) (ev_lenTx (l := hd) (ev_var rfl) (by omega)) fun H6 e6 Q' q' => ⟨tx w, (hd.length : Int), w[hd.length], rfl, rfl, by rw [tx_len]; exact sz_of (by omega), atI_nat (List.getElem?_eq_getElem wh), q' H6 (Ex.refl _)⟩) fun H6 e6 => ?_
    exact sign _ H6 (e14.trans (e5.trans e6))
end
end Sl
namespace Sl
open PySem PySem.Spec PyProof.Rows L2 Evl
section
variable {P : Program} {w : World} {K : PySem.W.Frag} {mg : Str → Option Value} {base : Heap} {t : Adr}
/-! _law_stands -/
theorem rdF_mh (ds pd : Addr) (hd : List Nat) : (rdF ds pd hd).lookup ("held" : Str) = none := by
  unfold rdF
  rfl
theorem rdF_md (ds pd : Addr) (hd : List Nat) : (rdF ds pd hd).lookup ("done" : Str) = none := by
  unfold rdF
  rfl
def spStands (K : PySem.W.Frag) (C : Addr) : Sp := fun vs H Q _ => ∃ (a ds pd ps ph : Addr) (us : List (List Nat)) (hd dn : List Nat) (c : Int) (hv : List V), vs = [.ref a, .str (tx hd), .ref ps, .int c, .ref ph] ∧ RdAt C H a ds pd us hd dn ∧ H ps = some (.lst (natsV dn)) ∧ H ph = some (.lst hv) ∧ hv.length ≤ 1000 ∧ dn.length ≤ 1000 ∧
  ∀ H' hv', H' ph = some (.lst hv') → (∀ b o, H b = some o → b ≠ ph → H' b = some o) → (hv' = hv ∨ ∃ t p q, hv' = hv ++ [.ref t] ∧ H' t = some (.tup [.ref p, .ref q]) ∧ H' p = some (.lst (natsV dn)) ∧ H' q = some (.lst (natsV dn)) ∧ H p = none ∧ H q = none) → Q (.bl true) H'
theorem ok_lw_stands (T : Top K mg t) : FnOk P w K mg base CX0 2 t.f_lw_stands t.d_lw_stands ["_law_reader", "_law_bits", "_law_signs", "_law_cell_here", "_law_held"] (spStands K t.C_Reader) := by
  refine T.lw_stands.F.ok sc_lw_stands (fun vs H Q E h => ?_) (fun cdv A outer s H vs Q E hr h => ?_)
  · obtain ⟨a, ds, pd, ps, ph, us, hd, dn, c, hv, rfl, _⟩ := h
    rfl
  · obtain ⟨a, ds, pd, ps, ph, us, hd, dn, c, hv, rfl, hR, hps, hph, hvl, hdl, q⟩ := h
    refine ⟨_, (pss_cons (ps_if (PW.pt (pw_and (pt_cmpR op_eq (pe_op op_mod (pe_op op_fdiv (pv 3) pe_int) pe_int) pe_int (nomark _)) (pw_and1 (pt_cmpR op_ne (pe_meth0 (pv 0) T.oc_Reader.cl T.me_reader_held (ok_reader_held T) (hr.mono (by decide)) T.reader_held.b .nil pass0) (pv 1) (nomark _))))) (pss_one (ps_ret pe_bl)) pss_nil)
      (pss_cons (ps_set (i := 5) sc_lw_stands.nd rfl (.inl rfl) (pe_meth0 (pv 0) T.oc_Reader.cl T.me_reader_done (ok_reader_done T) (hr.mono (by decide)) T.reader_done.b .nil pass0))
      (pss_cons (ps_if (PW.pt (pw_or (pt_not (pt_val (pe_callB (r := rIsi K) call_isi (by rfl) T.b.b_isinstance (by decide +kernel) (pa_cons (pv 5) (pa_cons (pe_bltn (v := .ty "list") (by rfl) T.b.b_list (by decide +kernel) rfl) pa_nil))))) (pw_or1 (pt_cmpR (r := rNeD K) (op_neD hr.units) (pe_lc (own := [("_law_sign", 6)]) (g := gName 6)  rfl sc_lw_stands.nd (pi_list (pv 5)) (blkOk_by (own := [("_law_sign", 6)]) (N := N_lw_stands) (sc := defScope s_lw_stands) (by decide +kernel)) (fun _ _ _ _ _ => (pg_name (i := 6) sc_lw_stands.nd rfl (.inl rfl))) (fun _ _ _ _ _ => (pts_one (pt_not (pt_val (pe_call (ok_lw_alike T) (hr.mono (by decide)) (by rfl) T.lw_alike.g T.lw_alike.F.kp T.lw_alike.b .nil pass0 (pa_cons (pv 6) (pa_cons (pv 6) pa_nil))))))) (fun _ _ _ _ _ => (pv 6))) (pe_lst pa_nil) (nomark _))))) (pss_one (ps_ret pe_bl)) pss_nil)
      (pss_cons (ps_if (PW.pt (pw_or (pt_cmpR (r := rNeD K) (op_neD hr.units) (pv 5) (pv 2) (nomark _)) (pw_or (pt_cmpR op_ne (pe_meth0 (pv 0) T.oc_Reader.cl T.me_reader_held (ok_reader_held T) (hr.mono (by decide)) T.reader_held.b .nil pass0) (pv 1) (nomark _)) (pw_or1 (pt_not (pt_val (pe_callB (r := rIsi K) call_isi (by rfl) T.b.b_isinstance (by decide +kernel) (pa_cons (pe_meth0 (pv 0) T.oc_Reader.cl T.me_reader_held (ok_reader_held T) (hr.mono (by decide)) T.reader_held.b .nil pass0) (pa_cons (pe_bltn (v := .ty "str") (by rfl) T.b.b_str (by decide +kernel) rfl) pa_nil))))))))) (pss_one (ps_ret pe_bl)) pss_nil)
      (pss_cons (ps_if (pt_cmpR op_eq (pe_op op_mod (pe_op op_fdiv (pv 3) pe_int) pe_int) pe_int (nomark _)) (pss_one (ps_expr (pe_bm PySem.F.plainAttrs_list PySem.F.slot_list_append PySem.F.type_list_append mt_append (pv 4) (pa_cons (pe_tup (pa_cons (pv 5) (pa_cons (pe_callTy (r := rListS K) call_list_of (by rfl) T.b.b_list (by decide +kernel) (pa_cons (pv 5) pa_nil)) pa_nil))) pa_nil)))) (pss_one (ps_expr (pe_bm PySem.F.plainAttrs_list PySem.F.slot_list_append PySem.F.type_list_append mt_append (pv 5) (pa_cons pe_int pa_nil)))))
      (pss_one (ps_ret pe_bl))))))), ?_⟩
    have heldE : ∀ (σ : L2.St) (H1 : Hp), σ[0]? = some (some (.ref a)) → Ex H H1 → Ev (tMeth t.C_Reader "held" (spRHeld t.C_Reader) [] E0 (tVar 0) tNil) σ H1 (.str (tx hd)) := fun σ H1 s0 e H2 e2 Q' q' => by
      obtain ⟨dx, h1⟩ := hR.ob
      exact ⟨_, s0, a, dx, _, rfl, (e.trans e2) _ _ h1, rdF_mh _ _ _, a, ds, pd, us, hd, dn, rfl, hR.mono (e.trans e2), q'⟩
    have doneE : ∀ (σ : L2.St) (H1 : Hp), σ[0]? = some (some (.ref a)) → Ex H H1 → EvL (tMeth t.C_Reader "done" (spRDone t.C_Reader) [] E0 (tVar 0) tNil) σ H1 (natsV dn) := fun σ H1 s0 e H2 e2 Q' q' => by
      obtain ⟨dx, h1⟩ := hR.ob
      exact ⟨_, s0, a, dx, _, rfl, (e.trans e2) _ _ h1, rdF_md _ _ _, a, ds, pd, us, hd, dn, rfl, hR.mono (e.trans e2), q'⟩
    refine q_when (et_and (et_test (ev_op (ev_op (ev_op (ev_var rfl) ev_c (rv_I ⟨by decide, by decide⟩)) ev_c (rv_I (by decide))) ev_c (rv_eq rfl))) fun _ => et_test (ev_op (heldE _ H rfl (Ex.refl H)) (ev_var rfl) (rv_ne rfl))) (fun hz _ _ => by simp at hz) (fun _ H1 e1 => ?_)
    refine q_asgL (doneE _ H1 rfl e1) fun pt H2 hpt e2 h2 => ?_
    have e12 := e1.trans e2
    have npt : H pt = none := fresh_back e1 hpt
    have cN := el_lcL (K := K) (σ := [some (V.ref a), some (V.str (tx hd)), some (V.ref ps), some (V.int c), some (V.ref ph), some (V.ref pt), none]) (H := H2) (a := pt) (xs := natsV dn) (tl := tVar 5) (j := 6) (vs := [6]) (te := tVar 6) (t := tNot (tB (tCall spAlike [] E0 (tCons (tVar 6) (tCons (tVar 6) tNil)))))
      (fun _ => false) (fun _ => .non) (ev_var rfl) (sq_of h2) (by rw [natsV_len]; omega) (fun x => rfl)
      (fun i x H4 e4 hx => by
        obtain ⟨n, hn, rfl⟩ := List.mem_map.mp (List.mem_of_getElem? hx)
        exact et_is (et_not (et_B (ev_call (ea_cons (ev_var rfl) (ea_cons (ev_var rfl) ea_nil)) (sv_alike (.inr (.inl ⟨_, rfl, rfl⟩)))))) rfl)
      (fun i x H4 e4 hi hf => by cases hf)
    rw [given_never] at cN
    refine q_when (et_or (et_not (et_B (ev_isList (ev_var rfl) h2))) fun _ => et_test (ev_neNilI cN fun H4 _ => el_lst ea_nil (by decide))) (fun hz _ _ => absurd hz (by decide)) (fun _ H3 e3 => ?_)
    have e13 := e12.trans e3
    have h3 := e3 _ _ h2
    have hps3 := e13 _ _ hps
    have neS : Ev (tOp (rNeD K) (tVar 5) (tVar 2)) [some (V.ref a), some (V.str (tx hd)), some (V.ref ps), some (V.int c), some (V.ref ph), some (V.ref pt), none] H3 (.bl false) := by
      have g1 := h3
      have g2 := hps3
      rw [natsV_ints] at g1 g2
      exact ev_is (ev_neD (ev_var rfl) (ev_var rfl) (dp_ints (sq_of g1)) (dp_ints (sq_of g2)) (shaped_ints _) (shaped_ints _)) (by rw [eqv_same (shaped_ints _)]; rfl)
    refine q_when (et_or (et_test neS) fun _ => et_or (et_test (ev_op (heldE _ H3 rfl e13) (ev_var rfl) (rv_ne rfl))) fun _ => et_not (et_B (ev_isStr (heldE _ H3 rfl e13)))) (fun hz _ _ => by simp at hz) (fun _ H4 e4 => ?_)
    have e14 := e13.trans e4
    have h4 := e4 _ _ h3
    have npp : pt ≠ ph := fun z => by rw [z, hph] at npt; cases npt
    refine q_if (et_test (ev_op (ev_op (ev_op (ev_var rfl) ev_c (rv_I ⟨by decide, by decide⟩)) ev_c (rv_I (by decide))) ev_c (rv_eq rfl))) (fun _ H5 e5 => ?_) (fun _ H5 e5 => ?_)
    · have e15 := e14.trans e5
      have h5 := e5 _ _ h4
      refine ⟨.ref ph, rfl, .inl ⟨rfl, _, sq_of (e15 _ _ hph)⟩, ?_⟩
      refine ⟨.ref pt, rfl, ?_⟩
      refine (el_list (ev_var (i := 5) rfl) (sq_of h5) : EvL (tCB (rListS K) (tCons (tVar 5) tNil)) [some (V.ref a), some (V.str (tx hd)), some (V.ref ps), some (V.int c), some (V.ref ph), some (V.ref pt), none] H5 (natsV dn)) H5 (Ex.refl _) _ fun pq H6 npq e6 h6 => ?_
      refine ⟨sz_of (by show 2 ≤ 100000; decide), fun t2 ht2 => ?_⟩
      have e16 := e15.trans e6
      have eT : Ex H6 (upd H6 t2 (.tup [.ref pt, .ref pq])) := Ex.new ht2
      have hph6 := (e16.trans eT) _ _ hph
      have npq0 : pq ≠ ph := fun z => by rw [z, e15 _ _ hph] at npq; cases npq
      have nt2 : t2 ≠ ph := fun z => by rw [z, e16 _ _ hph] at ht2; cases ht2
      refine ⟨ph, hv, .ref t2, rfl, rfl, hph6, sz_lt (by omega), ?_⟩
      refine q _ (hv ++ [.ref t2]) upd_same (fun b o hb hbp => ?_) (.inr ⟨t2, pt, pq, rfl, ?_, ?_, ?_, npt, fresh_back e15 npq⟩)
      · rw [upd_ne hbp]
        exact (e16.trans eT) b o hb
      · rw [upd_ne nt2]
        exact upd_same
      · rw [upd_ne npp]
        exact eT _ _ (e6 _ _ h5)
      · rw [upd_ne npq0]
        exact eT _ _ h6
    · have e15 := e14.trans e5
      refine s_app (l := pt) (xs := natsV dn) (e5 _ _ h4) (ev_var rfl) ev_c (by rw [natsV_len]; omega) fun H6 e6 => ?_
      have e16 := e15.trans e6
      have chain : ∀ b o, H b = some o → (upd H6 pt (.lst (natsV dn ++ [.int 0]))) b = some o := fun b o hb => by
        rw [upd_ne fun z => by rw [z, npt] at hb; cases hb]
        exact e16 b o hb
      exact q _ hv (chain _ _ hph) (fun b o hb _ => chain b o hb) (.inl rfl)
end
end Sl
namespace Sl
open PySem PySem.Spec PyProof.Rows L2 Evl
section
variable {P : Program} {w : World} {K : PySem.W.Frag} {mg : Str → Option Value} {base : Heap} {t : Adr}
/-! law -/
def spLaw (K : PySem.W.Frag) : Sp := fun vs H Q _ => ∃ (a : Addr) (ns : List Int), vs = [.ref a] ∧ SqL K H a (ns.map V.int) ∧ ns.length ≤ 63 ∧ ∀ H', Q (.bl true) H'
theorem rdF_ma (ds pd : Addr) (hd : List Nat) : (rdF ds pd hd).lookup ("again" : Str) = none := by
  unfold rdF
  rfl
theorem reader_made {H1 : Hp} {C a : Addr} {us : List (List Nat)} {Q : VK} {E : XK} (hS : SqL K H1 a (us.map vtx)) (hG : GoodW us) (q : ∀ x ds pd H', RdAt C H' x ds pd us [] [] → Ex H1 H' → H1 x = none → H1 ds = none → H1 pd = none → Q (.ref x) H') :
    ∀ x dx, H1 x = none → H1 dx = none → dx ≠ x → spRInit K C [.ref x, .ref a] (upd (upd H1 dx (.own x)) x (.ins C dx [])) (fun v H2 => v = .non ∧ Q (.ref x) H2) E := fun x dx nx ndx hne => by
  have e0 : Ex H1 (upd H1 dx (.own x)) := Ex.new ndx
  have nx2 : (upd H1 dx (.own x)) x = none := by rw [upd_ne hne.symm]; exact nx
  have e1 := e0.trans (Ex.new (o := .ins C dx []) nx2)
  refine ⟨x, a, dx, us, rfl, upd_same, ex_l e1 hS, hG.1, hG.2.1, goodw_apart hG.2.2, fun H' ds pd hR ch nds npd => ⟨rfl, q x ds pd H' hR (fun b o hb => ch b o (e1 b o hb) fun z => ?_) nx (fresh_back e1 nds) (fresh_back e1 npd)⟩⟩
  rw [z, nx] at hb
  cases hb
section
variable {σ : L2.St} {H : Hp} {te : TE} {D : Ends} {tz tu : TS} {E : XK} {C : Addr}
theorem q_mk {i : Nat} {a : Addr} {us : List (List Nat)} {ta : TA} (h : EvA ta σ H [.ref a]) (hS : SqL K H a (us.map vtx)) (hG : GoodW us) (k : ∀ x ds pd H', RdAt C H' x ds pd us [] [] → Ex H H' → H x = none → H ds = none → H pd = none → tz D (σ.set i (some (.ref x))) H') :
    tSeq (tAsg (tMake C (spRInit K C) [] E ta) (gName i)) tz D σ H :=
  h H (Ex.refl H) _ fun H1 e1 => reader_made (K := K) (Q := fun v H' => tz D (σ.set i (some v)) H') (E := E) (ex_l e1 hS) hG fun x ds pd H' hR e2 n1 n2 n3 => k x ds pd H' hR (e1.trans e2) (fresh_back e1 n1) (fresh_back e1 n2) (fresh_back e1 n3)
theorem q_mkL {i : Nat} {us : List (List Nat)} (h : EvL te σ H (us.map vtx)) (hG : GoodW us) (k : ∀ x ds pd H', RdAt C H' x ds pd us [] [] → Ex H H' → H x = none → H ds = none → H pd = none → tz D (σ.set i (some (.ref x))) H') :
    tSeq (tAsg (tMake C (spRInit K C) [] E (tCons te tNil)) (gName i)) tz D σ H :=
  h H (Ex.refl H) _ fun p H1 _ e1 h1 => reader_made (K := K) (Q := fun v H' => tz D (σ.set i (some v)) H') (E := E) (sq_of h1) hG fun x ds pd H' hR e2 n1 n2 n3 => k x ds pd H' hR (e1.trans e2) (fresh_back e1 n1) (fresh_back e1 n2) (fresh_back e1 n3)
theorem q_forNLx {xs : List V} {tl : TE} {j : Nat} (h : EvL tl σ H xs) (k : ∀ p H1, H p = none → Ex H H1 → H1 p = some (.lst xs) → ∃ Pv : Nat → L2.St → Hp → Prop, Pv 0 σ H1 ∧ (∀ i σ' H', i ≤ xs.length → Pv i σ' H' → SqL K H' p xs) ∧
      (∀ i x σ' H', xs[i]? = some x → Pv i σ' H' → tu { D with nx := Pv (i + 1), ct := Pv (i + 1), bk := tz D } (σ'.set j (some x)) H') ∧ ∀ σ' H', Pv xs.length σ' H' → tz D σ' H') : tSeq (tFor (iList K tl) (gName j) tu) tz D σ H :=
  h H (Ex.refl H) _ fun p H1 hp e h1 => by
    obtain ⟨Pv, h0, hl, hs, hd⟩ := k p H1 hp e h1
    exact ⟨p, rfl, ⟨xs, sq_of h1⟩, for_list Pv h0 hl hs hd⟩
theorem ev_rheld {i : Nat} {a ds pd : Addr} {us : List (List Nat)} {hd dn : List Nat} (s0 : σ[i]? = some (some (.ref a))) (hR : RdAt C H a ds pd us hd dn) : Ev (tMeth C "held" (spRHeld C) [] E0 (tVar i) tNil) σ H (.str (tx hd)) := fun H2 e2 Q' q' => by
  obtain ⟨dx, h1⟩ := hR.ob
  exact ⟨_, s0, a, dx, _, rfl, e2 _ _ h1, rdF_mh _ _ _, a, ds, pd, us, hd, dn, rfl, hR.mono e2, q'⟩
theorem el_rdone {i : Nat} {a ds pd : Addr} {us : List (List Nat)} {hd dn : List Nat} (s0 : σ[i]? = some (some (.ref a))) (hR : RdAt C H a ds pd us hd dn) : EvL (tMeth C "done" (spRDone C) [] E0 (tVar i) tNil) σ H (natsV dn) := fun H2 e2 Q' q' => by
  obtain ⟨dx, h1⟩ := hR.ob
  exact ⟨_, s0, a, dx, _, rfl, e2 _ _ h1, rdF_md _ _ _, a, ds, pd, us, hd, dn, rfl, hR.mono e2, q'⟩
end
theorem goodB : GoodW [[48], [49, 48]] := ⟨by decide, by decide, List.pairwise_pair.mpr ⟨by decide, by decide⟩⟩
theorem take_one {us : List (List Nat)} {hd : List Nat} {x : V} (h : takeOf us hd x = some none) : (cpsV x).length = 1 := by
  unfold takeOf at h
  split at h
  · rename_i k
    obtain ⟨k1, k2⟩ := k
    obtain ⟨u, rfl, _⟩ := bits_of k1
    rw [show lenV (vtx u) = u.length from tx_len u] at k2
    exact k2
  · cases h
theorem ok_law (T : Top K mg t) : FnOk P w K mg base CX0 5 t.f_law t.d_law ["_law_script"] (spLaw K) := by
  refine T.law.F.ok sc_law (fun vs H Q E h => ?_) (fun cdv A outer s H vs Q E hr h => ?_)
  · obtain ⟨a, ns, rfl, _⟩ := h
    rfl
  · obtain ⟨a, ns, rfl, hS, hlen, q⟩ := h
    refine ⟨_, (pss_cons (ps_set (i := 1) sc_law.nd rfl (.inl rfl) (pe_call (ok_lw_words T) (hr.mono (by decide)) (by rfl) T.lw_words.g T.lw_words.F.kp T.lw_words.b .nil pass0 (pa_cons (pv 0) (pa_cons pe_int pa_nil))))
      (pss_cons (ps_set (i := 2) sc_law.nd rfl (.inl rfl) (pe_callTy (r := rListS K) call_list_of (by rfl) T.b.b_list (by decide +kernel) (pa_cons (pv 1) pa_nil)))
      (pss_cons (ps_set (i := 3) sc_law.nd rfl (.inl rfl) (pe_make T.mk_Reader (ok_reader_init T) (hr.mono (by decide)) (by rfl) T.oc_Reader.gC T.reader_init.b .nil passL (pa_cons (pv 2) pa_nil)))
      (pss_cons (ps_set (i := 4) sc_law.nd rfl (.inl rfl) (pe_make T.mk_Reader (ok_reader_init T) (hr.mono (by decide)) (by rfl) T.oc_Reader.gC T.reader_init.b .nil passL (pa_cons (pe_lst (pa_cons pe_str (pa_cons pe_str pa_nil))) pa_nil)))
      (pss_cons (ps_expr (pe_meth (pv 4) T.oc_Reader.cl T.me_reader_take (ok_reader_take T) (hr.mono (by decide)) T.reader_take.b .nil passL (pa_cons pe_str pa_nil)))
      (pss_cons (ps_expr (pe_meth (pv 4) T.oc_Reader.cl T.me_reader_take (ok_reader_take T) (hr.mono (by decide)) T.reader_take.b .nil passL (pa_cons pe_str pa_nil)))
      (pss_cons (ps_expr (pe_bm PySem.F.plainAttrs_list PySem.F.slot_list_append PySem.F.type_list_append mt_append (pv 2) (pa_cons pe_str pa_nil)))
      (pss_cons (ps_expr (pe_bm0 PySem.F.plainAttrs_list PySem.F.slot_list_reverse PySem.F.type_list_reverse mt_reverse (pv 2)))
      (pss_cons (ps_set (i := 5) sc_law.nd rfl (.inl rfl) pe_str)
      (pss_cons (ps_set (i := 6) sc_law.nd rfl (.inl rfl) (pe_lst pa_nil))
      (pss_cons (ps_set (i := 7) sc_law.nd rfl (.inl rfl) (pe_lst pa_nil))
      (pss_cons (ps_for PassesOwn.never rfl (pi_list (pe_slice (r := rSlL K) sl_list (pv 0) (po_some pe_int) po_none)) (pg_name (i := 8) sc_law.nd rfl (.inl rfl)) (pss_cut (ps_if (pt_cmpR op_eq (pe_op op_mod (pv 8) pe_int) pe_int (nomark _)) (pss_cons (ps_if (pt_cmpR op_notN (pe_meth0 (pv 3) T.oc_Reader.cl T.me_reader_again (ok_reader_again T) (hr.mono (by decide)) T.reader_again.b .nil pass0) pe_non (nomark _)) (pss_one (ps_ret pe_bl)) pss_nil)
      (pss_cons (ps_set (i := 5) sc_law.nd rfl (.inl rfl) pe_str)
      (pss_one (ps_set (i := 6) sc_law.nd rfl (.inl rfl) (pe_lst pa_nil))))) (pss_cons (ps_set (i := 9) sc_law.nd rfl (.inl rfl) (pe_call (ok_lw_bit T) (hr.mono (by decide)) (by rfl) T.lw_bit.g T.lw_bit.F.kp T.lw_bit.b .nil pass0 (pa_cons (pv 1) (pa_cons (pv 5) (pa_cons (pv 8) pa_nil)))))
      (pss_cut (ps_set (i := 10) sc_law.nd rfl (.inl rfl) (pe_call (ok_lw_due T) (hr.mono (by decide)) (by rfl) T.lw_due.g T.lw_due.F.kp T.lw_due.b .nil pass0 (pa_cons (pv 1) (pa_cons (pv 5) (pa_cons (pv 9) pa_nil)))))
      (pss_cons (ps_if (pt_not (pt_val (pe_call (ok_lw_alike T) (hr.mono (by decide)) (by rfl) T.lw_alike.g T.lw_alike.F.kp T.lw_alike.b .nil pass0 (pa_cons (pe_call (ok_lw_told T) (hr.mono (by decide)) (by rfl) T.lw_told.g T.lw_told.F.kp T.lw_told.b .nil pass0 (pa_cons (pv 3) (pa_cons (pv 9) pa_nil))) (pa_cons (pe_ix (r := rIxT K) ix_tup (pv 10) pe_int (fun _ _ => rfl)) pa_nil))))) (pss_one (ps_ret pe_bl)) pss_nil)
      (pss_cons (ps_set (i := 5) sc_law.nd rfl (.inl rfl) (pe_ix (r := rIxT K) ix_tup (pv 10) pe_int (fun _ _ => rfl)))
      (pss_one (ps_if (pt_val (pe_callB (r := rIsi K) call_isi (by rfl) T.b.b_isinstance (by decide +kernel) (pa_cons (pe_ix (r := rIxT K) ix_tup (pv 10) pe_int (fun _ _ => rfl)) (pa_cons (pe_bltn (v := .ty "int") (by rfl) T.b.b_int (by decide +kernel) rfl) pa_nil)))) (pss_one (ps_set (i := 6) sc_law.nd rfl (.inl rfl) (pe_op op_cat (pv 6) (pe_lst (pa_cons (pe_ix (r := rIxT K) ix_tup (pv 10) pe_int (fun _ _ => rfl)) pa_nil))))) pss_nil)))))))
      (pss_one (ps_if (pt_not (pt_val (pe_call (ok_lw_stands T) (hr.mono (by decide)) (by rfl) T.lw_stands.g T.lw_stands.F.kp T.lw_stands.b .nil pass0 (pa_cons (pv 3) (pa_cons (pv 5) (pa_cons (pv 6) (pa_cons (pv 8) (pa_cons (pv 7) pa_nil)))))))) (pss_one (ps_ret pe_bl)) pss_nil))))
      (pss_cons (ps_if (pt_cmpR (r := rNeD K) (op_neD hr.units) (pe_lc (own := [("_law_told_here", 11), ("_law_copy", 12)]) (g := gTup K 2 (gCons (gName 11) (gCons (gName 12) gNil)))  rfl sc_law.nd (pi_list (pv 7)) (blkOk_by (own := [("_law_told_here", 11), ("_law_copy", 12)]) (N := N_law) (sc := defScope s_law) (by decide +kernel)) (fun _ _ _ _ _ => (pg_tup rfl (pgs_cons (pg_name (i := 11) sc_law.nd rfl (.inl rfl)) (pgs_cons (pg_name (i := 12) sc_law.nd rfl (.inl rfl)) pgs_nil)))) (fun _ _ _ _ _ => (pts_one (pt_cmpR (r := rNeD K) (op_neD hr.units) (pv 11) (pv 12) (nomark _)))) (fun _ _ _ _ _ => pe_int)) (pe_lst pa_nil) (nomark _)) (pss_one (ps_ret pe_bl)) pss_nil)
      (pss_one (ps_ret (pe_and (pe_cmpR op_eq (pe_meth0 (pv 4) T.oc_Reader.cl T.me_reader_held (ok_reader_held T) (hr.mono (by decide)) T.reader_held.b .nil pass0) pe_str (nomark _)) (pe_and (pe_cmpR (r := rEqD K) (op_eqD hr.units) (pe_meth0 (pv 4) T.oc_Reader.cl T.me_reader_done (ok_reader_done T) (hr.mono (by decide)) T.reader_done.b .nil pass0) (pe_lst (pa_cons pe_int pa_nil)) (nomark _)) (pe_and (pe_cmpR (r := rEqD K) (op_eqD hr.units) (pe_meth0 (pv 3) T.oc_Reader.cl T.me_reader_done (ok_reader_done T) (hr.mono (by decide)) T.reader_done.b .nil pass0) (pv 6) (nomark _)) (pe_one (pe_cmpR op_eq (pe_meth0 (pv 3) T.oc_Reader.cl T.me_reader_held (ok_reader_held T) (hr.mono (by decide)) T.reader_held.b .nil pass0) (pv 5) (nomark _))))))))))))))))))))), ?_⟩
    refine q_call (ea_cons (ev_var rfl) (ea_cons ev_c ea_nil)) fun H1 e1 => ⟨a, ns, 0, rfl, ex_l e1 hS, by decide, by decide, fun us hG pw H2 npw e2 h2 => ?_⟩
    have e12 := e1.trans e2
    refine q_asgL (el_list (ev_var rfl) (sq_of h2)) fun ph H3 nph e3 h3 => ?_
    refine q_mk (ea_cons (ev_var rfl) ea_nil) (sq_of h3) hG fun r ds pd H4 hR4 e4 nr nds npd => ?_
    refine q_mkL (us := [[48], [49, 48]]) (el_lst (ea_cons ev_c (ea_cons ev_c ea_nil)) (by show 2 ≤ 100000; decide)) goodB fun b ds2 pd2 H5 hB5 e5 nb nds2 npd2 => ?_
    have hneB := goodw_ne goodB.2.2
    have t0 : takeOf [[48], [49, 48]] [] (V.str "0") = some (some 0) := by decide +kernel
    have t1 : takeOf [[48], [49, 48]] [] (V.str "1") = some none := by decide +kernel
    have u12 : ∀ u ∈ ([[48], [49, 48]] : List (List Nat)), u.length ≤ 12 := fun u hu => (goodB.2.1 u hu).2.1
    obtain ⟨dx5, hb5⟩ := hB5.ob
    refine ⟨.ref b, rfl, b, dx5, _, rfl, hb5, rdF_take _ _ _, b, ds2, pd2, [[48], [49, 48]], [], [], .str "0", rfl, hB5, .inr (.inr (.inr (.inl ⟨_, rfl⟩))), (fun s hs => by cases hs; decide +kernel), by decide, by decide, u12, by decide, hneB, fun z => absurd (z.symm.trans t0) (by simp), fun z => absurd (z.symm.trans t0) (by simp), fun i hi H6 hB6 ch6 => ?_⟩
    obtain rfl : i = 0 := Option.some.inj (Option.some.inj (hi.symm.trans t0))
    obtain ⟨dx6, hb6⟩ := hB6.ob
    refine ⟨.ref b, rfl, b, dx6, _, rfl, hb6, rdF_take _ _ _, b, ds2, pd2, [[48], [49, 48]], [], [] ++ [0], .str "1", rfl, hB6, .inr (.inr (.inr (.inl ⟨_, rfl⟩))), (fun s hs => by cases hs; decide +kernel), by decide, by decide, u12, by decide, hneB, fun z => absurd (z.symm.trans t1) (by simp), fun _ H7 hB7 ch7 => ?_, fun i hi => absurd (hi.symm.trans t1) (by simp)⟩
    have hB7 : RdAt t.C_Reader H7 b ds2 pd2 [[48], [49, 48]] [49] [0] := hB7
    have e47 : Ex H4 H7 := fun c o hc => by
      have n1 : c ≠ b := fun z => by rw [z, nb] at hc; cases hc
      have n2 : c ≠ pd2 := fun z => by rw [z, npd2] at hc; cases hc
      exact ch7 c o (ch6 c o (e5 c o hc) n1 n2) n1
    have hp7 := e47 _ _ (e4 _ _ h3)
    have l24 := hG.1
    refine q_app (l := ph) hp7 (ev_var rfl) ev_c (by rw [List.length_map]; omega) fun H8 e8 => ?_
    refine q_reverse upd_same (ev_var rfl) fun H9 e9 => ?_
    have ch710 : ∀ c o, H7 c = some o → c ≠ ph → (upd H9 ph (.lst (us.map vtx ++ [V.str "0"]).reverse)) c = some o := fun c o hc hn => by
      rw [upd_ne hn]
      exact e9 c o (by rw [upd_ne hn]; exact e8 c o hc)
    have eH10 : Ex H (upd H9 ph (.lst (us.map vtx ++ [V.str "0"]).reverse)) := fun c o hc => by
      have h2c := e12 c o hc
      exact ch710 c o (e47 _ _ (e4 _ _ (e3 _ _ h2c))) fun z => by rw [z, nph] at h2c; cases h2c
    generalize upd H9 ph (.lst (us.map vtx ++ [V.str "0"]).reverse) = H10 at ch710 eH10 ⊢
    obtain ⟨⟨dx4, r4⟩, s4, d4⟩ := hR4
    obtain ⟨⟨dx7, r7⟩, s7, d7⟩ := hB7
    have p4 := e4 _ _ h3
    have w4 := e4 _ _ (e3 _ _ h2)
    have hR10 : RdAt t.C_Reader H10 r ds pd us [] [] := ⟨⟨dx4, ch710 _ _ (e47 _ _ r4) fun z => by rw [z, p4] at r4; cases r4⟩, ch710 _ _ (e47 _ _ s4) fun z => (by rw [z, p4] at s4; cases s4), ch710 _ _ (e47 _ _ d4) fun z => by rw [z, h3] at npd; cases npd⟩
    have hB10 : RdAt t.C_Reader H10 b ds2 pd2 [[48], [49, 48]] [49] [0] := ⟨⟨dx7, ch710 _ _ r7 fun z => by rw [z, hp7] at r7; cases r7⟩, ch710 _ _ s7 fun z => (by rw [z, hp7] at s7; cases s7), ch710 _ _ d7 fun z => by rw [z, p4] at npd2; cases npd2⟩
    have hw10 : H10 pw = some (.lst (us.map vtx)) := ch710 _ _ (e47 _ _ w4) fun z => by rw [z, nph] at h2; cases h2
    have wpd : pw ≠ pd := fun z => by rw [← z, e3 _ _ h2] at npd; cases npd
    have npb : pd2 ≠ pd := fun z => by rw [z, d4] at npd2; cases npd2
    have nrb : b ≠ r := fun z => by rw [z, r4] at nb; cases nb
    clear ch710 e47 hp7 ch7 ch6 hB6 hb6 hB5 hb5 e5 e8 e9 p4 w4 nb nds2 npd2 r4 s4 d4 r7 s7 d7 h3 nph nds npd nr
    refine q_asg (v := .str (tx [])) ev_c fun H11 e11 => ?_
    refine q_asgL (xs := natsV []) (el_lst ea_nil (by decide)) fun ps H12 nps e12' h12 => ?_
    refine q_asgL (xs := []) (el_lst ea_nil (by decide)) fun pl H13 npl e13 h13 => ?_
    have e1012 := e11.trans e12'
    have e1013 := e1012.trans e13
    have cS : EvL (tSl (rSlL K) (tVar 0) (tPart (tC (.int 6))) tNoPart) [some (V.ref a), some (V.ref pw), some (V.ref ph), some (V.ref r), some (V.ref b), some (V.str (tx [])), some (V.ref ps), some (V.ref pl), none, none, none, none, none] H13 ((ns.map V.int).drop 6) := by
      have c := el_sl (K := K) (σ := [some (V.ref a), some (V.ref pw), some (V.ref ph), some (V.ref r), some (V.ref b), some (V.str (tx [])), some (V.ref ps), some (V.ref pl), none, none, none, none, none]) (H := H13) (te := tVar 0) (tl := tPart (tC (.int 6))) (th := tNoPart) (ev_var rfl) (eo_some ev_c) eo_none (ex_l (eH10.trans e1013) hS)
      rw [show cutV (ns.map V.int) (some 6) none = (ns.map V.int).drop 6 from cutV_from _ 6] at c
      exact c
    refine q_forNLx cS fun p H14 np e14 h14 => ?_
    have e1014 := e1013.trans e14
    have hR14 := hR10.mono e1014
    have hB14 := hB10.mono e1014
    have hw14 := e1014 _ _ hw10
    have hps14 : H14 ps = some (.lst (natsV [])) := (e13.trans e14) _ _ h12
    have hpl14 := e14 _ _ h13
    obtain ⟨⟨dx0, r14⟩, s14, d14⟩ := id hR14
    obtain ⟨⟨dx1, r1⟩, s1, d1⟩ := id hB14
    have d12 := (hR10.mono e1012).dn
    have npd : pd ≠ pl := fun z => by rw [← z, d12] at npl; cases npl
    have nsd : ps ≠ pd := fun z => by rw [z, (hR10.mono e11).dn] at nps; cases nps
    have nsl : ps ≠ pl := fun z => by rw [← z, h12] at npl; cases npl
    have nwl : pw ≠ pl := fun z => by rw [← z, e1012 _ _ hw10] at npl; cases npl
    have nbl : pd2 ≠ pl := fun z => by rw [← z, (hB10.mono e1012).dn] at npl; cases npl
    have p1 : p ≠ r := fun z => by rw [z, r14] at h14; cases h14
    have p2 : p ≠ pd := fun z => by rw [z, (hR10.mono e1013).dn] at np; cases np
    have p3 : p ≠ pl := fun z => by rw [z, h13] at np; cases np
    have hG0 := hG
    obtain ⟨_, hu, hap⟩ := hG
    have hsmall : ∀ u ∈ us, u.length ≤ 12 ∧ ∀ c ∈ u, c < 0x110000 := fun u h => ⟨(hu u h).2.1, fun c hc => by rcases (hu u h).2.2 c hc with e | e <;> omega⟩
    have hne := goodw_ne hap
    have hL0 : LpR t.C_Reader H14 r pd pl us [] [] ds pd 0 H14 := ⟨fun _ _ h _ _ _ => h, hR14, .inl rfl, npd, [], hpl14, Nat.zero_le _, fun x hx => by cases hx⟩
    -- what stays throughout
    have words : ∀ {hd dn : List Nat} {ds' pd' : Addr} {m : Nat} {H' : Hp}, LpR t.C_Reader H14 r pd pl us hd dn ds' pd' m H' → H' pw = some (.lst (us.map vtx)) := fun hL => hL.ch _ _ hw14 (fun z => by rw [z, r14] at hw14; cases hw14) wpd nwl
    have beside : ∀ {hd dn : List Nat} {ds' pd' : Addr} {m : Nat} {H' : Hp}, LpR t.C_Reader H14 r pd pl us hd dn ds' pd' m H' → RdAt t.C_Reader H' b ds2 pd2 [[48], [49, 48]] [49] [0] := fun hL =>
      ⟨⟨dx1, hL.ch _ _ r1 nrb (fun z => by rw [z, d14] at r1; cases r1) (fun z => by rw [z, hpl14] at r1; cases r1)⟩, hL.ch _ _ s1 (fun z => by rw [z, r14] at s1; cases s1) (fun z => by rw [z, d14] at s1; cases s1) (fun z => by rw [z, hpl14] at s1; cases s1), hL.ch _ _ d1 (fun z => by rw [z, r14] at d1; cases d1) npb nbl⟩
    refine ⟨fun i σ' H' => ∃ (hd dn : List Nat) (ds' pd' ps' : Addr) (v8 v9 v10 : Option V), σ' = [some (V.ref a), some (V.ref pw), some (V.ref ph), some (V.ref r), some (V.ref b), some (V.str (tx hd)), some (V.ref ps'), some (V.ref pl), v8, v9, v10, none, none] ∧ LpR t.C_Reader H14 r pd pl us hd dn ds' pd' i H' ∧
        H' ps' = some (.lst (natsV dn)) ∧ ps' ≠ pd' ∧ ps' ≠ pl ∧ hd.length ≤ i ∧ dn.length ≤ i, ⟨[], [], ds, pd, ps, none, none, none, rfl, hL0, hps14, nsd, nsl, Nat.le_refl _, Nat.le_refl _⟩, fun i σ' H' _ hP => ?_, fun i x σ' H' hx hP => ?_, fun σ' H' hP => ?_⟩
    · obtain ⟨hd, dn, ds', pd', ps', v8, v9, v10, rfl, hL, _⟩ := hP
      exact sq_of (hL.ch _ _ h14 p1 p2 p3)
    · obtain ⟨hd, dn, ds', pd', ps', v8, v9, v10, rfl, hL, hps, n1, n2, l1, l2⟩ := hP
      have hi : i < 63 := by
        have k := (List.getElem?_eq_some_iff.mp hx).1
        rw [List.length_drop, List.length_map] at k
        omega
      rw [List.getElem?_drop, List.getElem?_map] at hx
      obtain ⟨c, _, rfl⟩ := Option.map_eq_some_iff.mp hx
      refine q_cut (M := fun σ'' H'' => ∃ (hd dn : List Nat) (ds' pd' ps' : Addr) (v9 v10 : Option V), σ'' = [some (V.ref a), some (V.ref pw), some (V.ref ph), some (V.ref r), some (V.ref b), some (V.str (tx hd)), some (V.ref ps'), some (V.ref pl), some (V.int c), v9, v10, none, none] ∧ LpR t.C_Reader H14 r pd pl us hd dn ds' pd' i H'' ∧
          H'' ps' = some (.lst (natsV dn)) ∧ ps' ≠ pd' ∧ ps' ≠ pl ∧ hd.length ≤ i + 1 ∧ dn.length ≤ i + 1) ?_ fun σ'' H'' hM => ?_
      · refine s_if (et_test (ev_op (ev_op (ev_var rfl) ev_c (rv_I (by decide))) ev_c (rv_eq rfl))) (fun _ H15 e15 => ?_) (fun _ H15 e15 => ?_)
        · have hL15 := hL.ex e15
          refine q_whenR (R := fun H16 => ∃ q2, RdAt t.C_Reader H16 r ds' q2 us [] [] ∧ (∀ b o, H15 b = some o → b ≠ r → H16 b = some o) ∧ H15 q2 = none) (fun Q' q' => ?_) (fun H16 hR => ?_)
          · obtain ⟨dx, h1⟩ := hL15.rd.ob
            exact ⟨.ref r, rfl, r, dx, _, rfl, h1, rdF_ma _ _ _, r, ds', pd', us, hd, dn, rfl, hL15.rd, fun H16 q2 hR ch np => ⟨rfl, false, rfl, q' H16 ⟨q2, hR, ch, np⟩⟩⟩
          · obtain ⟨q2, hR, ch, np2⟩ := hR
            have hL16 := hL15.again hR ch np2
            refine q_asg (v := .str (tx [])) ev_c fun H17 e17 => ?_
            have hL17 := hL16.ex e17
            refine s_asgL (xs := natsV []) (el_lst ea_nil (by decide)) fun ps2 H18 nps2 e18 h18 => ?_
            obtain ⟨hv, g1, _⟩ := hL17.hv
            exact ⟨[], [], ds', q2, ps2, v9, v10, rfl, hL17.ex e18, h18, fun z => (by rw [z, hL17.rd.dn] at nps2; cases nps2), fun z => (by rw [z, g1] at nps2; cases nps2), Nat.zero_le _, Nat.zero_le _⟩
        · have hL15 := hL.ex e15
          refine q_call (ea_cons (ev_var rfl) (ea_cons (ev_var rfl) (ea_cons (ev_var rfl) ea_nil))) fun H16 e16 => ⟨pw, us, hd, c, rfl, sq_of (e16 _ _ (words hL15)), l24, hsmall, by omega, fun x H17 e17 hx hxl => ?_⟩
          have e1517 := e16.trans e17
          refine q_cut (M := fun σ'' H'' => ∃ (y : V) (hd' dn' : List Nat) (pt : Addr), σ'' = [some (V.ref a), some (V.ref pw), some (V.ref ph), some (V.ref r), some (V.ref b), some (V.str (tx hd)), some (V.ref ps'), some (V.ref pl), some (V.int c), some x, some (V.ref pt), none, none] ∧ LpR t.C_Reader H14 r pd pl us hd dn ds' pd' i H'' ∧ H'' ps' = some (.lst (natsV dn)) ∧
              H'' pt = some (.tup [y, .str (tx hd')]) ∧ Thing H'' y ∧ ((isNum y = false ∧ dn' = dn) ∨ ∃ k : Nat, y = .int (k : Int) ∧ dn' = dn ++ [k]) ∧ hd'.length ≤ i + 1 ∧
              ∀ (Q' : VK) (E' : XK), (∀ v H20, RdAt t.C_Reader H20 r ds' pd' us hd' dn' → (∀ b o, H'' b = some o → b ≠ r → b ≠ pd' → H20 b = some o) → Alike H20 v y → Q' v H20) → spTold K t.C_Reader [.ref r, x] H'' Q' E') ?_ fun σ'' H'' hM => ?_
          · have hL17 := hL15.ex e1517
            refine s_callA (ea_cons (ev_var rfl) (ea_cons (ev_var rfl) (ea_cons (ev_var rfl) ea_nil))) fun H18 e18 => ⟨pw, us, hd, x, rfl, sq_of (e18 _ _ (words hL17)), l24, hsmall, by omega, hx.mono e18, hxl, fun hn pt q0 H19 _ e19 ht hq => ?_, fun hn pt H19 _ e19 ht => ?_, fun k hk pt H19 _ e19 ht => ?_⟩
            · have hL19 := hL17.ex (e18.trans e19)
              refine ⟨.ref q0, hd, dn, pt, rfl, hL19, (e15.trans (e1517.trans (e18.trans e19))) _ _ hps, ht, .inr (.inr (.inr (.inr ⟨q0, _, rfl, .inr hq⟩))), .inl ⟨rfl, rfl⟩, by omega, fun Q' E' k => ?_⟩
              refine ⟨r, ds', pd', us, hd, dn, x, rfl, hL19.rd, hx.mono (e18.trans e19), hxl, by omega, l24, fun u h => (hsmall u h).1, by omega, hne, fun _ p' H20 _ e20 hp' => ?_, fun z => absurd (z.symm.trans hn) (by simp), fun j z => absurd (z.symm.trans hn) (by simp)⟩
              exact k _ _ (hL19.rd.mono e20) (fun b o hb _ _ => e20 b o hb) (.inr (.inr ⟨p', q0, "refused", "BadBits", rfl, rfl, hp', e20 _ _ hq, by decide +kernel⟩))
            · have hL19 := hL17.ex (e18.trans e19)
              have t1' := take_one hn
              refine ⟨.non, hd ++ cpsV x, dn, pt, rfl, hL19, (e15.trans (e1517.trans (e18.trans e19))) _ _ hps, ht, .inl rfl, .inl ⟨rfl, rfl⟩, by rw [List.length_append]; omega, fun Q' E' k => ?_⟩
              exact ⟨r, ds', pd', us, hd, dn, x, rfl, hL19.rd, hx.mono (e18.trans e19), hxl, by omega, l24, fun u h => (hsmall u h).1, by omega, hne, fun z => absurd (z.symm.trans hn) (by simp), fun _ H20 hR20 ch20 => k _ _ hR20 (fun b o hb n _ => ch20 b o hb n) (.inl ⟨rfl, rfl⟩), fun j z => absurd (z.symm.trans hn) (by simp)⟩
            · have hL19 := hL17.ex (e18.trans e19)
              refine ⟨.int (k : Int), [], dn ++ [k], pt, rfl, hL19, (e15.trans (e1517.trans (e18.trans e19))) _ _ hps, ht, .int _, .inr ⟨k, rfl, rfl⟩, Nat.zero_le _, fun Q' E' q' => ?_⟩
              refine ⟨r, ds', pd', us, hd, dn, x, rfl, hL19.rd, hx.mono (e18.trans e19), hxl, by omega, l24, fun u h => (hsmall u h).1, by omega, hne, fun z => absurd (z.symm.trans hk) (by simp), fun z => absurd (z.symm.trans hk) (by simp), fun j z H20 hR20 ch20 => ?_⟩
              obtain rfl : j = k := Option.some.inj (Option.some.inj (z.symm.trans hk))
              exact q' _ _ hR20 ch20 (.inr (.inl ⟨_, rfl, rfl⟩))
          · obtain ⟨y, hd', dn', pt, rfl, hL18, hps18, ht, hy, hdn, hl', htold⟩ := hM
            obtain ⟨⟨dxr, rr⟩, _, dd⟩ := id hL18.rd
            have tr : pt ≠ r := fun z => by rw [z, rr] at ht; cases ht
            have td : pt ≠ pd' := fun z => by rw [z, dd] at ht; cases ht
            refine q_whenR (R := fun H20 => RdAt t.C_Reader H20 r ds' pd' us hd' dn' ∧ (∀ b o, H'' b = some o → b ≠ r → b ≠ pd' → H20 b = some o) ∧ Thing H20 y) (fun Q' q' => ?_) (fun H20 hR => ?_)
            · refine ⟨.ref r, rfl, x, rfl, htold _ E0 fun v H20 hR ch hA => ?_⟩
              have hy20 : Thing H20 y := by
                rcases hA with ⟨_, h⟩ | ⟨j, _, h⟩ | ⟨p', q', u, v, _, h, _, h2, _⟩
                · exact .inl h
                · exact .inr (.inr (.inl ⟨j, h⟩))
                · exact .inr (.inr (.inr (.inr ⟨q', _, h, .inr h2⟩)))
              exact ⟨.ref pt, rfl, pt, _, 0, y, rfl, rfl, st_of (ch _ _ ht tr td), rfl, v, y, rfl, hA, fun H21 e21 => ⟨true, rfl, q' H21 ⟨hR.mono e21, fun b o hb n1 n2 => e21 _ _ (ch b o hb n1 n2), hy20.mono e21⟩⟩⟩
            · obtain ⟨hR20, ch20, hy20⟩ := hR
              have hL20 := hL18.took hR20 ch20
              have ht20 := ch20 _ _ ht tr td
              have hps20 := ch20 _ _ hps18 (fun z => by rw [z, rr] at hps18; cases hps18) n1
              refine q_asg (v := .str (tx hd')) (ev_op (ev_var rfl) ev_c (rv_ixT (st_of ht20) rfl)) fun H21 e21 => ?_
              have ht21 := e21 _ _ ht20
              refine s_when (et_B (ev_isInt (ev_op (ev_var rfl) ev_c (rv_ixT (st_of ht21) rfl)) (hy20.mono e21))) (fun hb H22 e22 => ?_) (fun hb H22 e22 => ?_)
              · rcases hdn with ⟨z, _⟩ | ⟨k, rfl, rfl⟩
                · rw [z] at hb
                  cases hb
                · have hps22 := (e21.trans e22) _ _ hps20
                  have hL22 := hL20.ex (e21.trans e22)
                  refine s_asgL (el_catV (ev_var rfl) (el_lst (ea_cons (ev_op (ev_var rfl) ev_c (rv_ixT (st_of (e22 _ _ ht21)) rfl)) ea_nil) (by show 1 ≤ 100000; decide)) hps22 (by rw [natsV_len]; show _ + 1 ≤ _; omega)) fun ps2 H23 nps2 e23 h23 => ?_
                  obtain ⟨hv, g1, _⟩ := hL22.hv
                  refine ⟨hd', dn ++ [k], ds', pd', ps2, _, _, rfl, hL22.ex e23, ?_, fun z => (by rw [z, hL22.rd.dn] at nps2; cases nps2), fun z => (by rw [z, g1] at nps2; cases nps2), hl', by rw [List.length_append]; show _ + 1 ≤ _; omega⟩
                  rw [h23]
                  unfold natsV
                  rw [List.map_append]
                  rfl
              · rcases hdn with ⟨_, rfl⟩ | ⟨k, rfl, _⟩
                · exact ⟨hd', dn', ds', pd', ps', _, _, rfl, hL20.ex (e21.trans e22), (e21.trans e22) _ _ hps20, n1, n2, hl', by omega⟩
                · cases hb
      · clear hps n1 n2 l1 l2 hL
        obtain ⟨hd, dn, ds', pd', ps', v9, v10, rfl, hL, hps, n1, n2, l1, l2⟩ := hM
        refine s_whenR (R := fun H16 => LpR t.C_Reader H14 r pd pl us hd dn ds' pd' (i + 1) H16 ∧ H16 ps' = some (.lst (natsV dn))) (fun Q' q' => ?_) (fun H16 hR => ⟨hd, dn, ds', pd', ps', some (.int c), v9, v10, rfl, hR.1, hR.2, n1, n2, l1, l2⟩)
        obtain ⟨hv, g1, g2, g3⟩ := hL.hv
        exact ⟨.ref r, rfl, .str (tx hd), rfl, .ref ps', rfl, .int c, rfl, .ref pl, rfl, r, ds', pd', ps', pl, us, hd, dn, c, hv, rfl, hL.rd, hps, g1, by omega, by omega, fun H16 hv' k1 k2 k3 => ⟨true, rfl, q' H16 ⟨hL.stood g1 k1 k2 k3, k2 _ _ hps n2⟩⟩⟩
    · obtain ⟨hd, dn, ds', pd', ps', v8, v9, v10, rfl, hL, hps, n1, n2, l1, l2⟩ := hP
      obtain ⟨hv, g1, g2, g3⟩ := hL.hv
      refine q_when (et_test (ev_neNilI (el_held (ev_var rfl) g1 g3 (fun v w => ⟨rfl, rfl⟩) (fun v w => rfl)) fun H1 _ => el_lst ea_nil (by decide))) (fun hz _ _ => by cases hz) (fun _ H16 e16 => ?_)
      have hL16 := hL.ex e16
      have hB16 := beside hL16
      have hps16 := e16 _ _ hps
      rw [natsV_ints] at hps16
      refine s_ret (v := .bl true) (ev_is (ev_andV (ev_op (ev_rheld rfl hB16) (ev_c (v := .str (tx [49]))) (rv_eq rfl)) fun _ => ev_andV (ev_eqLL (d := .list ([0].map PyData.int)) (e := .list ([0].map PyData.int)) (xs := natsV [0]) (ys := [V.int 0]) (el_rdone rfl hB16) (el_lst (ea_cons ev_c ea_nil) (by show 1 ≤ 100000; decide)) (fun p H1 h => dp_ints (ns := [0]) (sq_of h)) (fun p H1 h => dp_ints (ns := [0]) (sq_of h)) (shaped_ints _) (shaped_ints _)) fun _ =>
        ev_andV (ev_opL1 (z := .bl true) (el_rdone rfl hL16.rd) (fun H1 _ => ev_var rfl) fun p H1 h e => rv_val fun H2 e2 Q' q' => ?_) fun _ => ev_op (ev_rheld rfl hL16.rd) (ev_var rfl) (rv_eq rfl)) ?_) fun H17 _ => q H17
      · have g := e2 _ _ h
        rw [natsV_ints] at g
        refine ⟨_, _, dp_ints (sq_of g), dp_ints (sq_of ((e.trans e2) _ _ hps16)), shaped_ints _, shaped_ints _, ?_⟩
        rw [eqv_same (shaped_ints _)]
        exact q'
      · rw [decide_eq_true rfl, eqv_same (shaped_ints _), decide_eq_true rfl]
        rfl
end
end Sl
/-! ### what the top has written, and the end -/
namespace Sl
open PySem PySem.Spec PyProof.Rows L2 Evl
theorem all_mk {P : Program} {w : World} {K : PySem.W.Frag} {h : Heap} {mg : Str → Option Value} {fa C_CodeError C_NoWeights C_BadWeight C_BadBound C_NoRoom C_BadLengths C_BadWords C_BadBits C_NoSign C_Reader f_is_bits f_check_words f_reader_init f_reader_take f_reader_held f_reader_done f_reader_again f_lw_cell f_lw_word_of f_lw_words f_lw_due f_lw_told f_lw_alike f_lw_bit f_lw_stands f_law : Addr} (X : K.In h) (G : h.Ns mainGlobals mg) (hfa : mg "law" = some (.ref fa))
    (a_CodeError : PySem.W.nsIn K mainGlobals "CodeError" = some (some (.ref C_CodeError)))
    (x_CodeError : PySem.W.excIn K C_CodeError [.type "ValueError", .type "Exception", .type "BaseException", .type "object"] "ValueError.__new__" = true)
    (k_CodeError : PySem.W.keepIn K (.ref C_CodeError) = true)
    (b_CodeError : PySem.W.subIn K (.ref C_CodeError) (.type "BaseException") = some true)
    (t_CodeError : PySem.W.typeIn K (.ref C_CodeError) = some (.type "type"))
    (a_NoWeights : PySem.W.nsIn K mainGlobals "NoWeights" = some (some (.ref C_NoWeights)))
    (x_NoWeights : PySem.W.excIn K C_NoWeights [.type "ValueError", .type "Exception", .type "BaseException", .type "object"] "ValueError.__new__" = true)
    (k_NoWeights : PySem.W.keepIn K (.ref C_NoWeights) = true)
    (b_NoWeights : PySem.W.subIn K (.ref C_NoWeights) (.type "BaseException") = some true)
    (t_NoWeights : PySem.W.typeIn K (.ref C_NoWeights) = some (.type "type"))
    (a_BadWeight : PySem.W.nsIn K mainGlobals "BadWeight" = some (some (.ref C_BadWeight)))
    (x_BadWeight : PySem.W.excIn K C_BadWeight [.type "ValueError", .type "Exception", .type "BaseException", .type "object"] "ValueError.__new__" = true)
    (k_BadWeight : PySem.W.keepIn K (.ref C_BadWeight) = true)
    (b_BadWeight : PySem.W.subIn K (.ref C_BadWeight) (.type "BaseException") = some true)
    (t_BadWeight : PySem.W.typeIn K (.ref C_BadWeight) = some (.type "type"))
    (a_BadBound : PySem.W.nsIn K mainGlobals "BadBound" = some (some (.ref C_BadBound)))
    (x_BadBound : PySem.W.excIn K C_BadBound [.type "ValueError", .type "Exception", .type "BaseException", .type "object"] "ValueError.__new__" = true)
    (k_BadBound : PySem.W.keepIn K (.ref C_BadBound) = true)
    (b_BadBound : PySem.W.subIn K (.ref C_BadBound) (.type "BaseException") = some true)
    (t_BadBound : PySem.W.typeIn K (.ref C_BadBound) = some (.type "type"))
    (a_NoRoom : PySem.W.nsIn K mainGlobals "NoRoom" = some (some (.ref C_NoRoom)))
    (x_NoRoom : PySem.W.excIn K C_NoRoom [.type "ValueError", .type "Exception", .type "BaseException", .type "object"] "ValueError.__new__" = true)
    (k_NoRoom : PySem.W.keepIn K (.ref C_NoRoom) = true)
    (b_NoRoom : PySem.W.subIn K (.ref C_NoRoom) (.type "BaseException") = some true)
    (t_NoRoom : PySem.W.typeIn K (.ref C_NoRoom) = some (.type "type"))
    (a_BadLengths : PySem.W.nsIn K mainGlobals "BadLengths" = some (some (.ref C_BadLengths)))
    (x_BadLengths : PySem.W.excIn K C_BadLengths [.type "ValueError", .type "Exception", .type "BaseException", .type "object"] "ValueError.__new__" = true)
    (k_BadLengths : PySem.W.keepIn K (.ref C_BadLengths) = true)
    (b_BadLengths : PySem.W.subIn K (.ref C_BadLengths) (.type "BaseException") = some true)
    (t_BadLengths : PySem.W.typeIn K (.ref C_BadLengths) = some (.type "type"))
    (a_BadWords : PySem.W.nsIn K mainGlobals "BadWords" = some (some (.ref C_BadWords)))
    (x_BadWords : PySem.W.excIn K C_BadWords [.type "ValueError", .type "Exception", .type "BaseException", .type "object"] "ValueError.__new__" = true)
    (k_BadWords : PySem.W.keepIn K (.ref C_BadWords) = true)
    (b_BadWords : PySem.W.subIn K (.ref C_BadWords) (.type "BaseException") = some true)
    (t_BadWords : PySem.W.typeIn K (.ref C_BadWords) = some (.type "type"))
    (a_BadBits : PySem.W.nsIn K mainGlobals "BadBits" = some (some (.ref C_BadBits)))
    (x_BadBits : PySem.W.excIn K C_BadBits [.type "ValueError", .type "Exception", .type "BaseException", .type "object"] "ValueError.__new__" = true)
    (k_BadBits : PySem.W.keepIn K (.ref C_BadBits) = true)
    (b_BadBits : PySem.W.subIn K (.ref C_BadBits) (.type "BaseException") = some true)
    (t_BadBits : PySem.W.typeIn K (.ref C_BadBits) = some (.type "type"))
    (a_NoSign : PySem.W.nsIn K mainGlobals "NoSign" = some (some (.ref C_NoSign)))
    (x_NoSign : PySem.W.excIn K C_NoSign [.type "ValueError", .type "Exception", .type "BaseException", .type "object"] "ValueError.__new__" = true)
    (k_NoSign : PySem.W.keepIn K (.ref C_NoSign) = true)
    (b_NoSign : PySem.W.subIn K (.ref C_NoSign) (.type "BaseException") = some true)
    (t_NoSign : PySem.W.typeIn K (.ref C_NoSign) = some (.type "type"))
    (a_Reader : PySem.W.nsIn K mainGlobals "Reader" = some (some (.ref C_Reader)))
    (pg_Reader : PySem.W.plainGet K C_Reader Str.empty = true)
    (hd_Reader : PySem.W.hasDictIn K C_Reader = true)
    (po_Reader : PySem.W.plainOver K C_Reader = true)
    (sa_Reader : PySem.W.findIn K (.ref C_Reader) "__setattr__" = some (some (.builtin "object.__setattr__")))
    (mk_Reader : PySem.W.makesIn K C_Reader = true)
    (kc_Reader : PySem.W.keepIn K (.ref C_Reader) = true)
    (na_Reader__signs : PySem.W.findIn K (.ref C_Reader) "_signs" = some none)
    (na_Reader__held : PySem.W.findIn K (.ref C_Reader) "_held" = some none)
    (na_Reader__done : PySem.W.findIn K (.ref C_Reader) "_done" = some none)
    {oc_is_bits kV_is_bits dc_is_bits pm_is_bits cd_is_bits ct_is_bits : Value} {od_is_bits an_is_bits : Option Addr} {sl_is_bits : Array (Option Value)}
    (a_is_bits : PySem.W.nsIn K mainGlobals "is_bits" = some (some (.ref f_is_bits)))
    (l_is_bits : K.lookup f_is_bits = some ⟨oc_is_bits, od_is_bits, .func (PySem.W.fnOf "is_bits" "is_bits" (defArgs s_is_bits) (defBody s_is_bits) (defScope s_is_bits) .none kV_is_bits dc_is_bits pm_is_bits an_is_bits cd_is_bits ct_is_bits), sl_is_bits⟩)
    (c_is_bits : PySem.W.codeIn K cd_is_bits "is_bits" = true)
    (k_is_bits : PySem.W.keepIn K (.ref f_is_bits) = true)
    {oc_check_words kV_check_words dc_check_words pm_check_words cd_check_words ct_check_words : Value} {od_check_words an_check_words : Option Addr} {sl_check_words : Array (Option Value)}
    (a_check_words : PySem.W.nsIn K mainGlobals "check_words" = some (some (.ref f_check_words)))
    (l_check_words : K.lookup f_check_words = some ⟨oc_check_words, od_check_words, .func (PySem.W.fnOf "check_words" "check_words" (defArgs s_check_words) (defBody s_check_words) (defScope s_check_words) .none kV_check_words dc_check_words pm_check_words an_check_words cd_check_words ct_check_words), sl_check_words⟩)
    (c_check_words : PySem.W.codeIn K cd_check_words "check_words" = true)
    (k_check_words : PySem.W.keepIn K (.ref f_check_words) = true)
    {oc_reader_init kV_reader_init dc_reader_init pm_reader_init cd_reader_init ct_reader_init : Value} {od_reader_init an_reader_init : Option Addr} {sl_reader_init : Array (Option Value)}
    (a_reader_init : PySem.W.findIn K (.ref C_Reader) "__init__" = some (some (.ref f_reader_init)))
    (i_reader_init : PySem.W.isFn K (.ref f_reader_init) = true)
    (l_reader_init : K.lookup f_reader_init = some ⟨oc_reader_init, od_reader_init, .func (PySem.W.fnOf "__init__" "Reader.__init__" (defArgs s_reader_init) (defBody s_reader_init) (defScope s_reader_init) .none kV_reader_init dc_reader_init pm_reader_init an_reader_init cd_reader_init ct_reader_init), sl_reader_init⟩)
    (c_reader_init : PySem.W.codeIn K cd_reader_init "Reader.__init__" = true)
    (k_reader_init : PySem.W.keepIn K (.ref f_reader_init) = true)
    {oc_reader_take kV_reader_take dc_reader_take pm_reader_take cd_reader_take ct_reader_take : Value} {od_reader_take an_reader_take : Option Addr} {sl_reader_take : Array (Option Value)}
    (a_reader_take : PySem.W.findIn K (.ref C_Reader) "take" = some (some (.ref f_reader_take)))
    (i_reader_take : PySem.W.isFn K (.ref f_reader_take) = true)
    (l_reader_take : K.lookup f_reader_take = some ⟨oc_reader_take, od_reader_take, .func (PySem.W.fnOf "take" "Reader.take" (defArgs s_reader_take) (defBody s_reader_take) (defScope s_reader_take) .none kV_reader_take dc_reader_take pm_reader_take an_reader_take cd_reader_take ct_reader_take), sl_reader_take⟩)
    (c_reader_take : PySem.W.codeIn K cd_reader_take "Reader.take" = true)
    (k_reader_take : PySem.W.keepIn K (.ref f_reader_take) = true)
    {oc_reader_held kV_reader_held dc_reader_held pm_reader_held cd_reader_held ct_reader_held : Value} {od_reader_held an_reader_held : Option Addr} {sl_reader_held : Array (Option Value)}
    (a_reader_held : PySem.W.findIn K (.ref C_Reader) "held" = some (some (.ref f_reader_held)))
    (i_reader_held : PySem.W.isFn K (.ref f_reader_held) = true)
    (l_reader_held : K.lookup f_reader_held = some ⟨oc_reader_held, od_reader_held, .func (PySem.W.fnOf "held" "Reader.held" (defArgs s_reader_held) (defBody s_reader_held) (defScope s_reader_held) .none kV_reader_held dc_reader_held pm_reader_held an_reader_held cd_reader_held ct_reader_held), sl_reader_held⟩)
    (c_reader_held : PySem.W.codeIn K cd_reader_held "Reader.held" = true)
    (k_reader_held : PySem.W.keepIn K (.ref f_reader_held) = true)
    {oc_reader_done kV_reader_done dc_reader_done pm_reader_done cd_reader_done ct_reader_done : Value} {od_reader_done an_reader_done : Option Addr} {sl_reader_done : Array (Option Value)}
    (a_reader_done : PySem.W.findIn K (.ref C_Reader) "done" = some (some (.ref f_reader_done)))
    (i_reader_done : PySem.W.isFn K (.ref f_reader_done) = true)
    (l_reader_done : K.lookup f_reader_done = some ⟨oc_reader_done, od_reader_done, .func (PySem.W.fnOf "done" "Reader.done" (defArgs s_reader_done) (defBody s_reader_done) (defScope s_reader_done) .none kV_reader_done dc_reader_done pm_reader_done an_reader_done cd_reader_done ct_reader_done), sl_reader_done⟩)
    (c_reader_done : PySem.W.codeIn K cd_reader_done "Reader.done" = true)
    (k_reader_done : PySem.W.keepIn K (.ref f_reader_done) = true)
    {oc_reader_again kV_reader_again dc_reader_again pm_reader_again cd_reader_again ct_reader_again : Value} {od_reader_again an_reader_again : Option Addr} {sl_reader_again : Array (Option Value)}
    (a_reader_again : PySem.W.findIn K (.ref C_Reader) "again" = some (some (.ref f_reader_again)))
    (i_reader_again : PySem.W.isFn K (.ref f_reader_again) = true)
    (l_reader_again : K.lookup f_reader_again = some ⟨oc_reader_again, od_reader_again, .func (PySem.W.fnOf "again" "Reader.again" (defArgs s_reader_again) (defBody s_reader_again) (defScope s_reader_again) .none kV_reader_again dc_reader_again pm_reader_again an_reader_again cd_reader_again ct_reader_again), sl_reader_again⟩)
    (c_reader_again : PySem.W.codeIn K cd_reader_again "Reader.again" = true)
    (k_reader_again : PySem.W.keepIn K (.ref f_reader_again) = true)
    {oc_lw_cell kV_lw_cell dc_lw_cell pm_lw_cell cd_lw_cell ct_lw_cell : Value} {od_lw_cell an_lw_cell : Option Addr} {sl_lw_cell : Array (Option Value)}
    (a_lw_cell : PySem.W.nsIn K mainGlobals "_law_cell" = some (some (.ref f_lw_cell)))
    (l_lw_cell : K.lookup f_lw_cell = some ⟨oc_lw_cell, od_lw_cell, .func (PySem.W.fnOf "_law_cell" "_law_cell" (defArgs s_lw_cell) (defBody s_lw_cell) (defScope s_lw_cell) .none kV_lw_cell dc_lw_cell pm_lw_cell an_lw_cell cd_lw_cell ct_lw_cell), sl_lw_cell⟩)
    (c_lw_cell : PySem.W.codeIn K cd_lw_cell "_law_cell" = true)
    (k_lw_cell : PySem.W.keepIn K (.ref f_lw_cell) = true)
    {oc_lw_word_of kV_lw_word_of dc_lw_word_of pm_lw_word_of cd_lw_word_of ct_lw_word_of : Value} {od_lw_word_of an_lw_word_of : Option Addr} {sl_lw_word_of : Array (Option Value)}
    (a_lw_word_of : PySem.W.nsIn K mainGlobals "_law_word_of" = some (some (.ref f_lw_word_of)))
    (l_lw_word_of : K.lookup f_lw_word_of = some ⟨oc_lw_word_of, od_lw_word_of, .func (PySem.W.fnOf "_law_word_of" "_law_word_of" (defArgs s_lw_word_of) (defBody s_lw_word_of) (defScope s_lw_word_of) .none kV_lw_word_of dc_lw_word_of pm_lw_word_of an_lw_word_of cd_lw_word_of ct_lw_word_of), sl_lw_word_of⟩)
    (c_lw_word_of : PySem.W.codeIn K cd_lw_word_of "_law_word_of" = true)
    (k_lw_word_of : PySem.W.keepIn K (.ref f_lw_word_of) = true)
    {oc_lw_words kV_lw_words dc_lw_words pm_lw_words cd_lw_words ct_lw_words : Value} {od_lw_words an_lw_words : Option Addr} {sl_lw_words : Array (Option Value)}
    (a_lw_words : PySem.W.nsIn K mainGlobals "_law_words" = some (some (.ref f_lw_words)))
    (l_lw_words : K.lookup f_lw_words = some ⟨oc_lw_words, od_lw_words, .func (PySem.W.fnOf "_law_words" "_law_words" (defArgs s_lw_words) (defBody s_lw_words) (defScope s_lw_words) .none kV_lw_words dc_lw_words pm_lw_words an_lw_words cd_lw_words ct_lw_words), sl_lw_words⟩)
    (c_lw_words : PySem.W.codeIn K cd_lw_words "_law_words" = true)
    (k_lw_words : PySem.W.keepIn K (.ref f_lw_words) = true)
    {oc_lw_due kV_lw_due dc_lw_due pm_lw_due cd_lw_due ct_lw_due : Value} {od_lw_due an_lw_due : Option Addr} {sl_lw_due : Array (Option Value)}
    (a_lw_due : PySem.W.nsIn K mainGlobals "_law_due" = some (some (.ref f_lw_due)))
    (l_lw_due : K.lookup f_lw_due = some ⟨oc_lw_due, od_lw_due, .func (PySem.W.fnOf "_law_due" "_law_due" (defArgs s_lw_due) (defBody s_lw_due) (defScope s_lw_due) .none kV_lw_due dc_lw_due pm_lw_due an_lw_due cd_lw_due ct_lw_due), sl_lw_due⟩)
    (c_lw_due : PySem.W.codeIn K cd_lw_due "_law_due" = true)
    (k_lw_due : PySem.W.keepIn K (.ref f_lw_due) = true)
    {oc_lw_told kV_lw_told dc_lw_told pm_lw_told cd_lw_told ct_lw_told : Value} {od_lw_told an_lw_told : Option Addr} {sl_lw_told : Array (Option Value)}
    (a_lw_told : PySem.W.nsIn K mainGlobals "_law_told" = some (some (.ref f_lw_told)))
    (l_lw_told : K.lookup f_lw_told = some ⟨oc_lw_told, od_lw_told, .func (PySem.W.fnOf "_law_told" "_law_told" (defArgs s_lw_told) (defBody s_lw_told) (defScope s_lw_told) .none kV_lw_told dc_lw_told pm_lw_told an_lw_told cd_lw_told ct_lw_told), sl_lw_told⟩)
    (c_lw_told : PySem.W.codeIn K cd_lw_told "_law_told" = true)
    (k_lw_told : PySem.W.keepIn K (.ref f_lw_told) = true)
    {oc_lw_alike kV_lw_alike dc_lw_alike pm_lw_alike cd_lw_alike ct_lw_alike : Value} {od_lw_alike an_lw_alike : Option Addr} {sl_lw_alike : Array (Option Value)}
    (a_lw_alike : PySem.W.nsIn K mainGlobals "_law_alike" = some (some (.ref f_lw_alike)))
    (l_lw_alike : K.lookup f_lw_alike = some ⟨oc_lw_alike, od_lw_alike, .func (PySem.W.fnOf "_law_alike" "_law_alike" (defArgs s_lw_alike) (defBody s_lw_alike) (defScope s_lw_alike) .none kV_lw_alike dc_lw_alike pm_lw_alike an_lw_alike cd_lw_alike ct_lw_alike), sl_lw_alike⟩)
    (c_lw_alike : PySem.W.codeIn K cd_lw_alike "_law_alike" = true)
    (k_lw_alike : PySem.W.keepIn K (.ref f_lw_alike) = true)
    {oc_lw_bit kV_lw_bit dc_lw_bit pm_lw_bit cd_lw_bit ct_lw_bit : Value} {od_lw_bit an_lw_bit : Option Addr} {sl_lw_bit : Array (Option Value)}
    (a_lw_bit : PySem.W.nsIn K mainGlobals "_law_bit" = some (some (.ref f_lw_bit)))
    (l_lw_bit : K.lookup f_lw_bit = some ⟨oc_lw_bit, od_lw_bit, .func (PySem.W.fnOf "_law_bit" "_law_bit" (defArgs s_lw_bit) (defBody s_lw_bit) (defScope s_lw_bit) .none kV_lw_bit dc_lw_bit pm_lw_bit an_lw_bit cd_lw_bit ct_lw_bit), sl_lw_bit⟩)
    (c_lw_bit : PySem.W.codeIn K cd_lw_bit "_law_bit" = true)
    (k_lw_bit : PySem.W.keepIn K (.ref f_lw_bit) = true)
    {oc_lw_stands kV_lw_stands dc_lw_stands pm_lw_stands cd_lw_stands ct_lw_stands : Value} {od_lw_stands an_lw_stands : Option Addr} {sl_lw_stands : Array (Option Value)}
    (a_lw_stands : PySem.W.nsIn K mainGlobals "_law_stands" = some (some (.ref f_lw_stands)))
    (l_lw_stands : K.lookup f_lw_stands = some ⟨oc_lw_stands, od_lw_stands, .func (PySem.W.fnOf "_law_stands" "_law_stands" (defArgs s_lw_stands) (defBody s_lw_stands) (defScope s_lw_stands) .none kV_lw_stands dc_lw_stands pm_lw_stands an_lw_stands cd_lw_stands ct_lw_stands), sl_lw_stands⟩)
    (c_lw_stands : PySem.W.codeIn K cd_lw_stands "_law_stands" = true)
    (k_lw_stands : PySem.W.keepIn K (.ref f_lw_stands) = true)
    {oc_law kV_law dc_law pm_law cd_law ct_law : Value} {od_law an_law : Option Addr} {sl_law : Array (Option Value)}
    (a_law : PySem.W.nsIn K mainGlobals "law" = some (some (.ref f_law)))
    (l_law : K.lookup f_law = some ⟨oc_law, od_law, .func (PySem.W.fnOf "law" "law" (defArgs s_law) (defBody s_law) (defScope s_law) .none kV_law dc_law pm_law an_law cd_law ct_law), sl_law⟩)
    (c_law : PySem.W.codeIn K cd_law "law" = true)
    (k_law : PySem.W.keepIn K (.ref f_law) = true)
    {tk_MOST_SIGNS : Tok} (n_MOST_SIGNS : PySem.W.nsIn K mainGlobals "MOST_SIGNS" = some (some (.int 24 tk_MOST_SIGNS)))
    {tk_MOST_BITS : Tok} (n_MOST_BITS : PySem.W.nsIn K mainGlobals "MOST_BITS" = some (some (.int 12 tk_MOST_BITS)))
    (z_ValueError : PySem.W.nsIn K mainGlobals "ValueError" = some none)
    (z_all : PySem.W.nsIn K mainGlobals "all" = some none)
    (z_any : PySem.W.nsIn K mainGlobals "any" = some none)
    (z_bool : PySem.W.nsIn K mainGlobals "bool" = some none)
    (z_enumerate : PySem.W.nsIn K mainGlobals "enumerate" = some none)
    (z_int : PySem.W.nsIn K mainGlobals "int" = some none)
    (z_isinstance : PySem.W.nsIn K mainGlobals "isinstance" = some none)
    (z_len : PySem.W.nsIn K mainGlobals "len" = some none)
    (z_list : PySem.W.nsIn K mainGlobals "list" = some none)
    (z_min : PySem.W.nsIn K mainGlobals "min" = some none)
    (z_range : PySem.W.nsIn K mainGlobals "range" = some none)
    (z_sorted : PySem.W.nsIn K mainGlobals "sorted" = some none)
    (z_str : PySem.W.nsIn K mainGlobals "str" = some none)
    (z_tuple : PySem.W.nsIn K mainGlobals "tuple" = some none)
    (z_zip : PySem.W.nsIn K mainGlobals "zip" = some none)
    (x_hn : PySem.W.specialIn K (.builtin "object.__class__") "__get__" = some (some (.builtin "getset_descriptor.__get__")))
    (x_ht : PySem.W.takesIn K (.builtin "object.__class__") = some true)
    (hd_CodeError : PySem.W.hasDictIn K C_CodeError = true)
    (i_NoSign : PySem.W.isClsIn K C_NoSign = true)
    (i_BadBits : PySem.W.isClsIn K C_BadBits = true)
    (i_BadWords : PySem.W.isClsIn K C_BadWords = true)
    (i_BadLengths : PySem.W.isClsIn K C_BadLengths = true)
    (i_NoRoom : PySem.W.isClsIn K C_NoRoom = true)
    (i_BadBound : PySem.W.isClsIn K C_BadBound = true)
    (i_BadWeight : PySem.W.isClsIn K C_BadWeight = true)
    (i_NoWeights : PySem.W.isClsIn K C_NoWeights = true)
    (e_BadBits_hg : PySem.W.findIn K (.ref C_BadBits) "__getattribute__" = some (some (.builtin "BaseException.__getattribute__")))
    (e_BadBits_hk : PySem.W.findIn K (.ref C_BadBits) "__getattr__" = some none)
    (e_BadBits_hs : PySem.W.subIn K (.ref C_BadBits) (.type "BaseException") = some true)
    (e_BadBits_hd : PySem.W.hasDictIn K C_BadBits = true)
    (e_BadBits_ha : PySem.W.findIn K (.ref C_BadBits) "__class__" = some (some (.builtin "object.__class__")))
    (e_BadBits_hm : PySem.W.mroIn K C_BadBits (.type "object") = some true)
    (e_BadBits_k1 : PySem.W.subIn K (.ref C_BadBits) (.ref C_NoWeights) = some false)
    (e_BadBits_k2 : PySem.W.subIn K (.ref C_BadBits) (.ref C_BadWeight) = some false)
    (e_BadBits_k3 : PySem.W.subIn K (.ref C_BadBits) (.ref C_BadBound) = some false)
    (e_BadBits_k4 : PySem.W.subIn K (.ref C_BadBits) (.ref C_NoRoom) = some false)
    (e_BadBits_k5 : PySem.W.subIn K (.ref C_BadBits) (.ref C_BadLengths) = some false)
    (e_BadBits_k6 : PySem.W.subIn K (.ref C_BadBits) (.ref C_BadWords) = some false)
    (e_BadBits_k7 : PySem.W.subIn K (.ref C_BadBits) (.ref C_BadBits) = some true)
    (e_BadBits_k8 : PySem.W.subIn K (.ref C_BadBits) (.ref C_NoSign) = some false)
    (e_BadBits_kV : PySem.W.subIn K (.ref C_BadBits) (.type "ValueError") = some true)
    (e_BadBits_sub : PySem.W.subIn K (.ref C_BadBits) (.ref C_CodeError) = some true)
    : ∃ fd : FuncData, (∀ (s : Shared) (u : Value), BindsTo s fd ⟨[u], []⟩ [("_law_script", u)]) ∧ ∀ base : Heap, K.In base → base.Ns mainGlobals mg → FnOk P w K mg base CX0 5 fa fd ["_law_script"] (spLaw K) := by
  have e := hfa.symm.trans (PySem.W.mg_of X G a_law)
  cases e
  have F_is_bits := fun_mk (st := s_is_bits) l_is_bits c_is_bits k_is_bits
  have F_check_words := fun_mk (st := s_check_words) l_check_words c_check_words k_check_words
  have F_reader_init := fun_mk (st := s_reader_init) l_reader_init c_reader_init k_reader_init
  have F_reader_take := fun_mk (st := s_reader_take) l_reader_take c_reader_take k_reader_take
  have F_reader_held := fun_mk (st := s_reader_held) l_reader_held c_reader_held k_reader_held
  have F_reader_done := fun_mk (st := s_reader_done) l_reader_done c_reader_done k_reader_done
  have F_reader_again := fun_mk (st := s_reader_again) l_reader_again c_reader_again k_reader_again
  have F_lw_cell := fun_mk (st := s_lw_cell) l_lw_cell c_lw_cell k_lw_cell
  have F_lw_word_of := fun_mk (st := s_lw_word_of) l_lw_word_of c_lw_word_of k_lw_word_of
  have F_lw_words := fun_mk (st := s_lw_words) l_lw_words c_lw_words k_lw_words
  have F_lw_due := fun_mk (st := s_lw_due) l_lw_due c_lw_due k_lw_due
  have F_lw_told := fun_mk (st := s_lw_told) l_lw_told c_lw_told k_lw_told
  have F_lw_alike := fun_mk (st := s_lw_alike) l_lw_alike c_lw_alike k_lw_alike
  have F_lw_bit := fun_mk (st := s_lw_bit) l_lw_bit c_lw_bit k_lw_bit
  have F_lw_stands := fun_mk (st := s_lw_stands) l_lw_stands c_lw_stands k_lw_stands
  have F_law := fun_mk (st := s_law) l_law c_law k_law
  have T : Top K mg ⟨f_is_bits, _, f_check_words, _, f_reader_init, _, f_reader_take, _, f_reader_held, _, f_reader_done, _, f_reader_again, _, f_lw_cell, _, f_lw_word_of, _, f_lw_words, _, f_lw_due, _, f_lw_told, _, f_lw_alike, _, f_lw_bit, _, f_lw_stands, _, fa, _, C_CodeError, C_NoWeights, C_BadWeight, C_BadBound, C_NoRoom, C_BadLengths, C_BadWords, C_BadBits, C_NoSign, C_Reader⟩ := ⟨⟨PySem.W.mg_none_of X G z_ValueError, PySem.W.mg_none_of X G z_all, PySem.W.mg_none_of X G z_any, PySem.W.mg_none_of X G z_bool, PySem.W.mg_none_of X G z_enumerate, PySem.W.mg_none_of X G z_int, PySem.W.mg_none_of X G z_isinstance, PySem.W.mg_none_of X G z_len, PySem.W.mg_none_of X G z_list, PySem.W.mg_none_of X G z_min, PySem.W.mg_none_of X G z_range, PySem.W.mg_none_of X G z_sorted, PySem.W.mg_none_of X G z_str, PySem.W.mg_none_of X G z_tuple, PySem.W.mg_none_of X G z_zip⟩,
    ⟨F_is_bits, PySem.W.mg_of X G a_is_bits, F_is_bits.binds (ps := ["thing"]) fun _ _ _ _ _ _ us hl => match us, hl with | [_], _ => rfl⟩,
    ⟨F_check_words, PySem.W.mg_of X G a_check_words, F_check_words.binds (ps := ["words"]) fun _ _ _ _ _ _ us hl => match us, hl with | [_], _ => rfl⟩,
    ⟨F_reader_init, F_reader_init.binds (ps := ["self", "words"]) fun _ _ _ _ _ _ us hl => match us, hl with | [_, _], _ => rfl⟩,
    ⟨mk_Reader, a_reader_init, i_reader_init, kc_Reader⟩,
    ⟨F_reader_take, F_reader_take.binds (ps := ["self", "bit"]) fun _ _ _ _ _ _ us hl => match us, hl with | [_, _], _ => rfl⟩,
    ⟨a_reader_take, i_reader_take, k_reader_take⟩,
    ⟨F_reader_held, F_reader_held.binds (ps := ["self"]) fun _ _ _ _ _ _ us hl => match us, hl with | [_], _ => rfl⟩,
    ⟨a_reader_held, i_reader_held, k_reader_held⟩,
    ⟨F_reader_done, F_reader_done.binds (ps := ["self"]) fun _ _ _ _ _ _ us hl => match us, hl with | [_], _ => rfl⟩,
    ⟨a_reader_done, i_reader_done, k_reader_done⟩,
    ⟨F_reader_again, F_reader_again.binds (ps := ["self"]) fun _ _ _ _ _ _ us hl => match us, hl with | [_], _ => rfl⟩,
    ⟨a_reader_again, i_reader_again, k_reader_again⟩,
    ⟨F_lw_cell, PySem.W.mg_of X G a_lw_cell, F_lw_cell.binds (ps := ["_law_script", "_law_k"]) fun _ _ _ _ _ _ us hl => match us, hl with | [_, _], _ => rfl⟩,
    ⟨F_lw_word_of, PySem.W.mg_of X G a_lw_word_of, F_lw_word_of.binds (ps := ["_law_error"]) fun _ _ _ _ _ _ us hl => match us, hl with | [_], _ => rfl⟩,
    ⟨F_lw_words, PySem.W.mg_of X G a_lw_words, F_lw_words.binds (ps := ["_law_script", "_law_first"]) fun _ _ _ _ _ _ us hl => match us, hl with | [_, _], _ => rfl⟩,
    ⟨F_lw_due, PySem.W.mg_of X G a_lw_due, F_lw_due.binds (ps := ["_law_words_here", "_law_bits", "_law_bit_here"]) fun _ _ _ _ _ _ us hl => match us, hl with | [_, _, _], _ => rfl⟩,
    ⟨F_lw_told, PySem.W.mg_of X G a_lw_told, F_lw_told.binds (ps := ["_law_reader", "_law_bit_here"]) fun _ _ _ _ _ _ us hl => match us, hl with | [_, _], _ => rfl⟩,
    ⟨F_lw_alike, PySem.W.mg_of X G a_lw_alike, F_lw_alike.binds (ps := ["_law_found", "_law_due_here"]) fun _ _ _ _ _ _ us hl => match us, hl with | [_, _], _ => rfl⟩,
    ⟨F_lw_bit, PySem.W.mg_of X G a_lw_bit, F_lw_bit.binds (ps := ["_law_words_here", "_law_bits", "_law_cell_here"]) fun _ _ _ _ _ _ us hl => match us, hl with | [_, _, _], _ => rfl⟩,
    ⟨F_lw_stands, PySem.W.mg_of X G a_lw_stands, F_lw_stands.binds (ps := ["_law_reader", "_law_bits", "_law_signs", "_law_cell_here", "_law_held"]) fun _ _ _ _ _ _ us hl => match us, hl with | [_, _, _, _, _], _ => rfl⟩,
    ⟨F_law, PySem.W.mg_of X G a_law, F_law.binds (ps := ["_law_script"]) fun _ _ _ _ _ _ us hl => match us, hl with | [_], _ => rfl⟩,
    ⟨⟨pg_Reader, hd_Reader, po_Reader, sa_Reader⟩, PySem.W.mg_of X G a_Reader⟩,
    na_Reader__signs,
    na_Reader__held,
    na_Reader__done,
    ⟨PySem.W.mg_of X G a_CodeError, x_CodeError, k_CodeError, b_CodeError, t_CodeError⟩,
    ⟨PySem.W.mg_of X G a_NoWeights, x_NoWeights, k_NoWeights, b_NoWeights, t_NoWeights⟩,
    ⟨PySem.W.mg_of X G a_BadWeight, x_BadWeight, k_BadWeight, b_BadWeight, t_BadWeight⟩,
    ⟨PySem.W.mg_of X G a_BadBound, x_BadBound, k_BadBound, b_BadBound, t_BadBound⟩,
    ⟨PySem.W.mg_of X G a_NoRoom, x_NoRoom, k_NoRoom, b_NoRoom, t_NoRoom⟩,
    ⟨PySem.W.mg_of X G a_BadLengths, x_BadLengths, k_BadLengths, b_BadLengths, t_BadLengths⟩,
    ⟨PySem.W.mg_of X G a_BadWords, x_BadWords, k_BadWords, b_BadWords, t_BadWords⟩,
    ⟨PySem.W.mg_of X G a_BadBits, x_BadBits, k_BadBits, b_BadBits, t_BadBits⟩,
    ⟨PySem.W.mg_of X G a_NoSign, x_NoSign, k_NoSign, b_NoSign, t_NoSign⟩,
    ⟨_, PySem.W.mg_of X G n_MOST_SIGNS, ⟨_, rfl⟩⟩,
    ⟨_, PySem.W.mg_of X G n_MOST_BITS, ⟨_, rfl⟩⟩,
    ⟨⟨e_BadBits_hg, e_BadBits_hk, e_BadBits_hs, e_BadBits_hd, e_BadBits_ha, x_hn, x_ht, e_BadBits_hm⟩, by decide +kernel, (kit_no i_NoWeights t_NoWeights e_BadBits_k1 e_BadBits_k7).trans (by decide +kernel), (kit_no i_BadWeight t_BadWeight e_BadBits_k2 e_BadBits_k7).trans (by decide +kernel), (kit_no i_BadBound t_BadBound e_BadBits_k3 e_BadBits_k7).trans (by decide +kernel), (kit_no i_NoRoom t_NoRoom e_BadBits_k4 e_BadBits_k7).trans (by decide +kernel), (kit_no i_BadLengths t_BadLengths e_BadBits_k5 e_BadBits_k7).trans (by decide +kernel), (kit_no i_BadWords t_BadWords e_BadBits_k6 e_BadBits_k7).trans (by decide +kernel), kit_self.trans (by decide +kernel), (kit_no i_NoSign t_NoSign e_BadBits_k8 e_BadBits_k7).trans (by decide +kernel), kit_VE e_BadBits_kV, PySem.W.exm_ref b_CodeError hd_CodeError t_CodeError e_BadBits_sub⟩⟩
  exact ⟨_, fun s u => .of_eq rfl, fun base _ _ => ok_law T⟩
end Sl
open PySem PySem.W PyProof.Rows
set_option maxRecDepth 100000 in
set_option maxHeartbeats 0 in
theorem PySem.Challenge.cw_shortlimit_k13_a_reader_holds : PySem.Challenge.rw_shortlimit_k13_a_reader.Holds := by
  w_on; o_law; k_head; (case hw => w_witness2)
  k_fill
  refine L2.walk_of (l := PySem.Challenge.rw_shortlimit_k13_a_reader) (n := 63) (k := 5) (x := "_law_script") (CX := fun _ => L2.CX0) (sp := fun w => Sl.spLaw _) rfl (by decide) rfl ⟨rfl, by decide, by decide⟩ (fun w h Y => by first | exact PySem.W.kIn_of Y | exact PySem.W.km_in_of Y) ?F (fun _ _ a ns hl _ hS => ⟨a, ns, rfl, hS, hl, fun _ => rfl⟩) (fun _ _ _ _ _ h => h)
  case F =>
    intro w mg fa h KX G hmg
    refine' Sl.all_mk KX G hmg ?a_CodeError ?x_CodeError ?k_CodeError ?b_CodeError ?t_CodeError ?a_NoWeights ?x_NoWeights ?k_NoWeights ?b_NoWeights ?t_NoWeights ?a_BadWeight ?x_BadWeight ?k_BadWeight ?b_BadWeight ?t_BadWeight ?a_BadBound ?x_BadBound ?k_BadBound ?b_BadBound ?t_BadBound ?a_NoRoom ?x_NoRoom ?k_NoRoom ?b_NoRoom ?t_NoRoom ?a_BadLengths ?x_BadLengths ?k_BadLengths ?b_BadLengths ?t_BadLengths ?a_BadWords ?x_BadWords ?k_BadWords ?b_BadWords ?t_BadWords ?a_BadBits ?x_BadBits ?k_BadBits ?b_BadBits ?t_BadBits ?a_NoSign ?x_NoSign ?k_NoSign ?b_NoSign ?t_NoSign ?a_Reader ?pg_Reader ?hd_Reader ?po_Reader ?sa_Reader ?mk_Reader ?kc_Reader ?na_Reader__signs ?na_Reader__held ?na_Reader__done ?a_is_bits ?l_is_bits ?c_is_bits ?k_is_bits ?a_check_words ?l_check_words ?c_check_words ?k_check_words ?a_reader_init ?i_reader_init ?l_reader_init ?c_reader_init ?k_reader_init ?a_reader_take ?i_reader_take ?l_reader_take ?c_reader_take ?k_reader_take ?a_reader_held ?i_reader_held ?l_reader_held ?c_reader_held ?k_reader_held ?a_reader_done ?i_reader_done ?l_reader_done ?c_reader_done ?k_reader_done ?a_reader_again ?i_reader_again ?l_reader_again ?c_reader_again ?k_reader_again ?a_lw_cell ?l_lw_cell ?c_lw_cell ?k_lw_cell ?a_lw_word_of ?l_lw_word_of ?c_lw_word_of ?k_lw_word_of ?a_lw_words ?l_lw_words ?c_lw_words ?k_lw_words ?a_lw_due ?l_lw_due ?c_lw_due ?k_lw_due ?a_lw_told ?l_lw_told ?c_lw_told ?k_lw_told ?a_lw_alike ?l_lw_alike ?c_lw_alike ?k_lw_alike ?a_lw_bit ?l_lw_bit ?c_lw_bit ?k_lw_bit ?a_lw_stands ?l_lw_stands ?c_lw_stands ?k_lw_stands ?a_law ?l_law ?c_law ?k_law ?n_MOST_SIGNS ?n_MOST_BITS ?z_ValueError ?z_all ?z_any ?z_bool ?z_enumerate ?z_int ?z_isinstance ?z_len ?z_list ?z_min ?z_range ?z_sorted ?z_str ?z_tuple ?z_zip ?x_hn ?x_ht ?hd_CodeError ?i_NoSign ?i_BadBits ?i_BadWords ?i_BadLengths ?i_NoRoom ?i_BadBound ?i_BadWeight ?i_NoWeights ?e_BadBits_hg ?e_BadBits_hk ?e_BadBits_hs ?e_BadBits_hd ?e_BadBits_ha ?e_BadBits_hm ?e_BadBits_k1 ?e_BadBits_k2 ?e_BadBits_k3 ?e_BadBits_k4 ?e_BadBits_k5 ?e_BadBits_k6 ?e_BadBits_k7 ?e_BadBits_k8 ?e_BadBits_kV ?e_BadBits_sub
    (case a_CodeError => k_is)
    (case x_CodeError => k_exc)
    (case k_CodeError => k_is)
    (case b_CodeError => k_is)
    (case t_CodeError => k_is)
    (case a_NoWeights => k_is)
    (case x_NoWeights => k_exc)
    (case k_NoWeights => k_is)
    (case b_NoWeights => k_is)
    (case t_NoWeights => k_is)
    (case a_BadWeight => k_is)
    (case x_BadWeight => k_exc)
    (case k_BadWeight => k_is)
    (case b_BadWeight => k_is)
    (case t_BadWeight => k_is)
    (case a_BadBound => k_is)
    (case x_BadBound => k_exc)
    (case k_BadBound => k_is)
    (case b_BadBound => k_is)
    (case t_BadBound => k_is)
    (case a_NoRoom => k_is)
    (case x_NoRoom => k_exc)
    (case k_NoRoom => k_is)
    (case b_NoRoom => k_is)
    (case t_NoRoom => k_is)
    (case a_BadLengths => k_is)
    (case x_BadLengths => k_exc)
    (case k_BadLengths => k_is)
    (case b_BadLengths => k_is)
    (case t_BadLengths => k_is)
    (case a_BadWords => k_is)
    (case x_BadWords => k_exc)
    (case k_BadWords => k_is)
    (case b_BadWords => k_is)
    (case t_BadWords => k_is)
    (case a_BadBits => k_is)
    (case x_BadBits => k_exc)
    (case k_BadBits => k_is)
    (case b_BadBits => k_is)
    (case t_BadBits => k_is)
    (case a_NoSign => k_is)
    (case x_NoSign => k_exc)
    (case k_NoSign => k_is)
    (case b_NoSign => k_is)
    (case t_NoSign => k_is)
    (case a_Reader => k_is)
    (case pg_Reader => k_is)
    (case hd_Reader => k_is)
    (case po_Reader => k_is)
    (case sa_Reader => k_is)
    (case mk_Reader => k_is)
    (case kc_Reader => k_is)
    (case na_Reader__signs => k_is)
    (case na_Reader__held => k_is)
    (case na_Reader__done => k_is)
    (case a_is_bits => k_is)
    (case l_is_bits => k_is)
    (case c_is_bits => k_is)
    (case k_is_bits => k_is)
    (case a_check_words => k_is)
    (case l_check_words => k_is)
    (case c_check_words => k_is)
    (case k_check_words => k_is)
    (case a_reader_init => k_is)
    (case i_reader_init => k_is)
    (case l_reader_init => k_is)
    (case c_reader_init => k_is)
    (case k_reader_init => k_is)
    (case a_reader_take => k_is)
    (case i_reader_take => k_is)
    (case l_reader_take => k_is)
    (case c_reader_take => k_is)
    (case k_reader_take => k_is)
    (case a_reader_held => k_is)
    (case i_reader_held => k_is)
    (case l_reader_held => k_is)
    (case c_reader_held => k_is)
    (case k_reader_held => k_is)
    (case a_reader_done => k_is)
    (case i_reader_done => k_is)
    (case l_reader_done => k_is)
    (case c_reader_done => k_is)
    (case k_reader_done => k_is)
    (case a_reader_again => k_is)
    (case i_reader_again => k_is)
    (case l_reader_again => k_is)
    (case c_reader_again => k_is)
    (case k_reader_again => k_is)
    (case a_lw_cell => k_is)
    (case l_lw_cell => k_is)
    (case c_lw_cell => k_is)
    (case k_lw_cell => k_is)
    (case a_lw_word_of => k_is)
    (case l_lw_word_of => k_is)
    (case c_lw_word_of => k_is)
    (case k_lw_word_of => k_is)
    (case a_lw_words => k_is)
    (case l_lw_words => k_is)
    (case c_lw_words => k_is)
    (case k_lw_words => k_is)
    (case a_lw_due => k_is)
    (case l_lw_due => k_is)
    (case c_lw_due => k_is)
    (case k_lw_due => k_is)
    (case a_lw_told => k_is)
    (case l_lw_told => k_is)
    (case c_lw_told => k_is)
    (case k_lw_told => k_is)
    (case a_lw_alike => k_is)
    (case l_lw_alike => k_is)
    (case c_lw_alike => k_is)
    (case k_lw_alike => k_is)
    (case a_lw_bit => k_is)
    (case l_lw_bit => k_is)
    (case c_lw_bit => k_is)
    (case k_lw_bit => k_is)
    (case a_lw_stands => k_is)
    (case l_lw_stands => k_is)
    (case c_lw_stands => k_is)
    (case k_lw_stands => k_is)
    (case a_law => k_is)
    (case l_law => k_is)
    (case c_law => k_is)
    (case k_law => k_is)
    (case n_MOST_SIGNS => k_is)
    (case n_MOST_BITS => k_is)
    (case z_ValueError => k_is)
    (case z_all => k_is)
    (case z_any => k_is)
    (case z_bool => k_is)
    (case z_enumerate => k_is)
    (case z_int => k_is)
    (case z_isinstance => k_is)
    (case z_len => k_is)
    (case z_list => k_is)
    (case z_min => k_is)
    (case z_range => k_is)
    (case z_sorted => k_is)
    (case z_str => k_is)
    (case z_tuple => k_is)
    (case z_zip => k_is)
    (case x_hn => k_is)
    (case x_ht => k_is)
    (case hd_CodeError => k_is)
    (case i_NoSign => k_is)
    (case i_BadBits => k_is)
    (case i_BadWords => k_is)
    (case i_BadLengths => k_is)
    (case i_NoRoom => k_is)
    (case i_BadBound => k_is)
    (case i_BadWeight => k_is)
    (case i_NoWeights => k_is)
    (case e_BadBits_hg => k_is)
    (case e_BadBits_hk => k_is)
    (case e_BadBits_hs => k_is)
    (case e_BadBits_hd => k_is)
    (case e_BadBits_ha => k_is)
    (case e_BadBits_hm => k_is)
    (case e_BadBits_k1 => first | rfl | k_is)
    (case e_BadBits_k2 => first | rfl | k_is)
    (case e_BadBits_k3 => first | rfl | k_is)
    (case e_BadBits_k4 => first | rfl | k_is)
    (case e_BadBits_k5 => first | rfl | k_is)
    (case e_BadBits_k6 => first | rfl | k_is)
    (case e_BadBits_k7 => first | rfl | k_is)
    (case e_BadBits_k8 => first | rfl | k_is)
    (case e_BadBits_kV => k_is)
    (case e_BadBits_sub => k_is)

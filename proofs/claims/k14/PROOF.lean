import PyProof.Rows.All
import Wide.All
import OpenK.AllK
import Wide.FinOn
import HandS.ForMost
import HandS.ForExc
import HandS.Evl
import HandS.IsInst
import HandS.FStr
import HandS.RaiseMore
import HandS.More
import HandS.Conv
import HandS.HotCalls
import HandS.ExcIs
import HandS.StrMore
import HandS.SortRule
import HandS.SortInts
import HandS.TupAny
import HandS.SetFor
import HandS.TupLen
import HandS.Walk
import HandS.Zip
import HandS.DictComp
import HandS.Lambda
import HandS.EndTab
import KE.DataMinMax
import KE.SortKeyHeap
import PySem.Challenge.RW_shortlimit_k14_whole_bits_read
set_option Elab.async false
set_option linter.all false
set_option maxRecDepth 100000
set_option maxHeartbeats 4000000
/-! ### own words over the hand layer: what more evaluates, and a search along a reading -/
namespace Sl
open PySem L2 Evl
theorem et_yes {σ : L2.St} {H : Hp} : EvT tYes σ H true := fun H1 _ _ q => q H1 (Ex.refl H1)
theorem ex_of {H H' : Hp} (e : Same H H') : Ex H H' := e
section
variable {K : PySem.W.Frag} {σ : L2.St} {H H' : Hp} {ta tb te tx tc : TE} {t u : TT} {x y z v : V}
/-- two lists joined: both operands new -/
theorem el_cat {xs ys : List V} (ha : EvL ta σ H xs) (hb : EvL tb σ H ys) (hl : xs.length + ys.length ≤ 100000) : EvL (tOp rCat ta tb) σ H (xs ++ ys) := fun H1 e Q q =>
  ha H1 e _ fun p H2 hp e2 h2 => hb H2 (e.trans e2) _ fun r H3 hr e3 h3 =>
    ⟨p, r, xs, ys, rfl, rfl, e3 p _ h2, h3, sz_of hl, fun l hl' => q l _ (fresh_back e2 (fresh_back e3 hl')) ((e2.trans e3).trans (Ex.new hl')) upd_same⟩
/-- a list of one repeated -/
theorem el_rep {xs : List V} {n : Nat} (ha : EvL ta σ H xs) (hb : Ev tb σ H (.int (n : Int))) (hl : xs.length * n ≤ 100000) (hn : n ≤ 100000) : EvL (tOp rRep ta tb) σ H (List.replicate n xs).flatten := fun H1 e Q q =>
  ha H1 e _ fun p H2 hp e2 h2 => hb H2 (e.trans e2) _ fun H3 e3 =>
    ⟨p, (n : Int), xs, rfl, rfl, e3 p _ h2, by omega, by omega, sz_of (by simpa using hl), fun l hl' => q l _ (fresh_back e2 (fresh_back e3 hl')) ((e2.trans e3).trans (Ex.new hl')) (by rw [upd_same]; simp)⟩
/-- a slice of a new list -/
theorem el_slN {xs : List V} {tl th : TO} {lo hi : Option Int} (h : EvL te σ H xs) (h1 : EvO tl σ H lo) (h2 : EvO th σ H hi) : EvL (tSl (rSlL K) te tl th) σ H (cutV xs lo hi) := fun H1 e Q q =>
  h H1 e _ fun a H2 ha e2 hx => h1 H2 (e.trans e2) _ fun H3 e3 => h2 H3 ((e.trans e2).trans e3) _ fun H4 e4 =>
    ⟨a, xs, rfl, sq_of (e4 a _ (e3 a _ hx)), fun p hp => q p _ (fresh_back ((e2.trans e3).trans e4) hp) (((e2.trans e3).trans e4).trans (Ex.new hp)) upd_same⟩
/-- a chain of two comparisons of whole numbers -/
theorem ev_chain {g g' : Int → Int → Bool} {i j k : Int} (ha : Ev ta σ H (.int i)) (hb : Ev tb σ H (.int j)) (hc : Ev tc σ H (.int k)) :
    Ev (tChain (rI0 fun i j => .bl (g i j)) (rI0 fun i j => .bl (g' i j)) ta tb tc) σ H (.bl (g i j && g' j k)) := fun H1 e Q q =>
  ha H1 e _ fun H2 e2 => hb H2 (e.trans e2) _ fun H3 e3 => ⟨i, j, rfl, rfl, g i j, rfl, by
    cases hg : g i j with
    | true =>
      rw [hg, Bool.true_and] at q
      show tc σ H3 _
      exact hc H3 ((e.trans e2).trans e3) _ fun H4 e4 => ⟨j, k, rfl, rfl, q H4 ((e2.trans e3).trans e4)⟩
    | false =>
      rw [hg, Bool.false_and] at q
      show Q (.bl false) H3
      exact q H3 (e2.trans e3)⟩
theorem ev_sum {ns : List Int} (h : EvL ta σ H (ns.map V.int)) : Ev (tCB (rSum K) (tCons ta tNil)) σ H (.int ns.sum) := fun H1 e Q q =>
  h H1 e _ fun a H2 _ e2 hx => ⟨a, ns, rfl, sq_of hx, q H2 e2⟩
theorem cutV_from1 (xs : List V) : cutV xs (some 1) none = xs.drop 1 := by
  unfold cutV
  rw [show HT.sIx xs.length 0 (some 1) = min 1 xs.length from HT.sIx_nat xs.length 0 1, HT.sIx_none]
  cases xs with
  | nil => rfl
  | cons x r =>
    simp
theorem cutV_to (xs : List V) (n : Nat) : cutV xs none (some (n : Int)) = xs.take n := by
  unfold cutV
  rw [HT.sIx_none, show HT.sIx xs.length xs.length (some (n : Int)) = min n xs.length from HT.sIx_nat xs.length _ n]
  simp
end
/-! ### what a thing handed in may be -/
def Thing (H : Hp) (x : V) : Prop := x = .non ∨ (∃ b, x = .bl b) ∨ (∃ i, x = .int i) ∨ (∃ s, x = .str s) ∨ ∃ a xs, x = .ref a ∧ (H a = some (.lst xs) ∨ H a = some (.tup xs))
theorem Thing.mono {H H' : Hp} {x : V} (e : Ex H H') (h : Thing H x) : Thing H' x := by
  rcases h with h | h | h | h | ⟨a, xs, h, g⟩
  · exact .inl h
  · exact .inr (.inl h)
  · exact .inr (.inr (.inl h))
  · exact .inr (.inr (.inr (.inl h)))
  · exact .inr (.inr (.inr (.inr ⟨a, xs, h, g.elim (fun g => .inl (e _ _ g)) fun g => .inr (e _ _ g)⟩)))
theorem Thing.int {H : Hp} (i : Int) : Thing H (.int i) := .inr (.inr (.inl ⟨i, rfl⟩))
def isBl : V → Bool
  | .bl _ => true
  | _ => false
def isNum : V → Bool
  | .bl _ => true
  | .int _ => true
  | _ => false
/-- a whole number from lo to hi -/
def within (lo hi : Int) : V → Bool
  | .int i => decide (lo ≤ i) && decide (i ≤ hi)
  | _ => false
theorem Thing.isi_bool {K : PySem.W.Frag} {H : Hp} {x : V} (h : Thing H x) : ∃ t, TyX K H x (.type t) ∧ PySem.W.kitOne K (.type t) (.type "bool") = some (isBl x) ∧ PySem.W.kitOne K (.type t) (.type "int") = some (isNum x) := by
  rcases h with rfl | ⟨b, rfl⟩ | ⟨i, rfl⟩ | ⟨s, rfl⟩ | ⟨a, xs, rfl, g | g⟩
  · exact ⟨_, .base .non, kit_ty (show kitB "NoneType" "bool" = some false by decide +kernel), kit_ty (show kitB "NoneType" "int" = some false by decide +kernel)⟩
  · exact ⟨_, .base (.bl _), kit_ty (show kitB "bool" "bool" = some true by decide +kernel), kit_ty (show kitB "bool" "int" = some true by decide +kernel)⟩
  · exact ⟨_, .base (.int _), kit_ty (show kitB "int" "bool" = some false by decide +kernel), kit_ty (show kitB "int" "int" = some true by decide +kernel)⟩
  · exact ⟨_, .base (.str _), kit_ty (show kitB "str" "bool" = some false by decide +kernel), kit_ty (show kitB "str" "int" = some false by decide +kernel)⟩
  · exact ⟨_, .base (.lst g), kit_ty (show kitB "list" "bool" = some false by decide +kernel), kit_ty (show kitB "list" "int" = some false by decide +kernel)⟩
  · exact ⟨_, .base (.tup g), kit_ty (show kitB "tuple" "bool" = some false by decide +kernel), kit_ty (show kitB "tuple" "int" = some false by decide +kernel)⟩
section
variable {K : PySem.W.Frag} {σ : L2.St} {H H' : Hp} {te : TE} {x : V}
theorem ev_isBool (h : Ev te σ H x) (k : Thing H x) : Ev (tCB (rIsi K) (tCons te (tCons (tC (.ty "bool")) tNil))) σ H (.bl (isBl x)) := fun H1 e Q q =>
  h H1 e _ fun H2 e2 => by
    obtain ⟨t, h1, h2, _⟩ := (k.mono (e.trans e2)).isi_bool (K := K)
    exact ⟨x, .ty "bool", _, _, _, rfl, .ty _, h1, h2, q H2 e2⟩
theorem ev_isInt (h : Ev te σ H x) (k : Thing H x) : Ev (tCB (rIsi K) (tCons te (tCons (tC (.ty "int")) tNil))) σ H (.bl (isNum x)) := fun H1 e Q q =>
  h H1 e _ fun H2 e2 => by
    obtain ⟨t, h1, _, h2⟩ := (k.mono (e.trans e2)).isi_bool (K := K)
    exact ⟨x, .ty "int", _, _, _, rfl, .ty _, h1, h2, q H2 e2⟩
end
/-! ### data compared -/
section
variable {K : PySem.W.Frag} {σ : L2.St} {H H' : Hp} {ta tb : TE} {x y : V}
theorem lay_all {n : Nat} : ∀ {xs : List PyData}, (∀ d ∈ xs, d.canLay0 = true ∧ d.depth ≤ n) → PyData.canLayAll0 xs = true ∧ PyData.depthAll xs ≤ n
  | [], _ => ⟨rfl, Nat.zero_le _⟩
  | d :: r, h => by
    have h1 := h d List.mem_cons_self
    have h2 := lay_all fun z hz => h z (List.mem_cons_of_mem _ hz)
    refine ⟨?_, ?_⟩
    · unfold PyData.canLayAll0
      rw [h1.1, h2.1]
      rfl
    · unfold PyData.depthAll
      exact Nat.max_le.mpr ⟨h1.2, h2.2⟩
theorem shaped_list {xs : List PyData} (h : ∀ d ∈ xs, d.canLay0 = true ∧ d.depth ≤ 60) : SeqAt.shaped (.list xs) = true := by
  have k := lay_all h
  unfold SeqAt.shaped PyData.canLay0 PyData.depth
  rw [k.1, decide_eq_true (show PyData.depthAll xs + 1 ≤ 64 by have := k.2; omega)]
  rfl
theorem shaped_tuple {xs : List PyData} (h : ∀ d ∈ xs, d.canLay0 = true ∧ d.depth ≤ 60) : SeqAt.shaped (.tuple xs) = true := by
  have k := lay_all h
  unfold SeqAt.shaped PyData.canLay0 PyData.depth
  rw [k.1, decide_eq_true (show PyData.depthAll xs + 1 ≤ 64 by have := k.2; omega)]
  rfl
theorem dpAll_map {α : Type} {f : α → V} {g : α → PyData} : ∀ {xs : List α}, (∀ z ∈ xs, Dp K H (f z) (g z)) → DpAll K H (xs.map f) (xs.map g)
  | [], _ => .nil
  | z :: r, h => .cons (h z List.mem_cons_self) (dpAll_map fun w hw => h w (List.mem_cons_of_mem _ hw))
mutual
theorem dp_mono (e : Ex H H') : ∀ (d : PyData) (v : V), Dp K H v d → Dp K H' v d
  | .none, _, h => by cases h; exact .non
  | .bool _, _, h => by cases h; exact .bl _
  | .int _, _, h => by cases h; exact .int _
  | .str _, _, h => by cases h; exact .str _
  | .list ds, _, h => by
    cases h with
    | lst hs ha => exact .lst (ex_l e hs) (dp_monoAll e ds _ ha)
  | .tuple ds, _, h => by
    cases h with
    | tup hs ha => exact .tup (ex_t e hs) (dp_monoAll e ds _ ha)
  | .dict _, _, h => by cases h
theorem dp_monoAll (e : Ex H H') : ∀ (ds : List PyData) (vs : List V), DpAll K H vs ds → DpAll K H' vs ds
  | [], _, h => by cases h; exact .nil
  | d :: ds, _, h => by
    cases h with
    | cons h1 h2 => exact .cons (dp_mono e d _ h1) (dp_monoAll e ds _ h2)
end
theorem dp_ints {a : Addr} {ns : List Int} (h : SqL K H a (ns.map V.int)) : Dp K H (.ref a) (.list (ns.map PyData.int)) := .lst h (dpAll_map fun _ _ => .int _)
theorem shaped_ints (ns : List Int) : SeqAt.shaped (.list (ns.map PyData.int)) = true := shaped_list fun d hd => by
  obtain ⟨i, _, rfl⟩ := List.mem_map.mp hd
  exact ⟨rfl, Nat.zero_le _⟩
theorem eqv_same {d : PyData} (h : SeqAt.shaped d = true) : PyData.eqv d d = true := SeqAt.eqv_refl d (Bool.and_eq_true_iff.mp h).1
theorem ev_eqD {d e : PyData} (ha : Ev ta σ H x) (hb : Ev tb σ H y) (hd : Dp K H x d) (he : Dp K H y e) (sd : SeqAt.shaped d = true) (se : SeqAt.shaped e = true) : Ev (tOp (rEqD K) ta tb) σ H (.bl (PyData.eqv d e)) := fun H1 g Q q =>
  ha H1 g _ fun H2 e2 => hb H2 (g.trans e2) _ fun H3 e3 => ⟨d, e, dp_mono ((g.trans e2).trans e3) d _ hd, dp_mono ((g.trans e2).trans e3) e _ he, sd, se, q H3 (e2.trans e3)⟩
theorem ev_neD {d e : PyData} (ha : Ev ta σ H x) (hb : Ev tb σ H y) (hd : Dp K H x d) (he : Dp K H y e) (sd : SeqAt.shaped d = true) (se : SeqAt.shaped e = true) : Ev (tOp (rNeD K) ta tb) σ H (.bl (!PyData.eqv d e)) := fun H1 g Q q =>
  ha H1 g _ fun H2 e2 => hb H2 (g.trans e2) _ fun H3 e3 => ⟨d, e, dp_mono ((g.trans e2).trans e3) d _ hd, dp_mono ((g.trans e2).trans e3) e _ he, sd, se, q H3 (e2.trans e3)⟩
end
end Sl

/-! ### a whole number's binary text: f'{n:b}' -/
namespace Sl
open PySem PySem.W PySem.Calls PyProof.Rows Builtin Builtin.Str Builtin.Int Builtin.Float
/-- the signs of a number's binary text -/
def binCps (n : Nat) : List Nat := (Nat.toDigits 2 n).map Char.toNat
def binText (n : Nat) : PySem.Str := ⟨(binCps n).toArray⟩
theorem spec_b : parseFormatSpec (PySem.Str.ofString "b").cps.toList "int" 62 = .ok { align := 62, type := some 98 } := by rfl
section
variable {prog : Program} {w : World} {A : Around} {E : Value → Shared → Prop} {s : Shared} {t : Tok} {a : Int}
theorem txt_of {M : Model} {A : Around} {E : Value → Shared → Prop} {s : Shared} {X T : PySem.Str} {Q : Value → Shared → Prop} (e : X = T) (hL : T.length ≤ sizeLine) (h : ∀ t k, Q (.str T t) { s with toks := k }) : wpAny M A (mkStr X) Q E s := by
  subst e
  exact wpAny_mkStr (h _ _) hL
theorem field_b {Q : Value → Shared → Prop} (hd : decide (a < 0) = false) (c : Nat) (cs : List Nat) (hl : binCps a.natAbs = c :: cs) (hz : (binText a.natAbs).length ≤ sizeLine) (h : ∀ t' k, Q (.str (binText a.natAbs) t') { s with toks := k }) : wpAny (model prog w) A (formatField (.int a t) (PySem.Str.ofString "b")) Q E s := by
  refine KXf.field_int (spec' := PySem.Str.ofString "b") rfl (by decide +kernel) (by decide +kernel) ?g h
  intro _
  apply KPc.meets_of
  intro _ _ _ _ _ _ hq
  unfold Builtin.«int.__format__»
  refine wpAny_bind (wpAny_of_eq (a := (_, _)) rfl ?_)
  refine wpAny_bind (wpAny_of_eq (a := _) rfl ?_)
  refine wpAny_ite (KPc.ite_no Bool.false_ne_true ?_)
  refine wpAny_bind (wpAny_typeNameOf (T := "str") (typeIs_str _ _ _) (by decide) fun _ => ?_)
  refine wpAny_bind (wpAny_of_eq (a := some _) rfl ?_)
  refine wpAny_ite (KPc.ite_no (by decide +kernel) ?_)
  refine wpAny_ite (KPc.ite_no (by decide +kernel) ?_)
  refine wpAny_bind (wpAny_typeNameOfCut_int ?_)
  rw [spec_b]
  refine wpAny_ite (KPc.ite_yes (by decide +kernel) ?_)
  conv => arg 3; whnf
  rw [hd]
  generalize hds : List.map _ (Nat.toDigits 2 a.natAbs) = ds
  have e : ds = c :: cs := by rw [← hds, ← hl]; rfl
  subst e
  refine wpAny_bind (txt_of (T := binText a.natAbs) ?e hz fun t' k => wpAny_pure (hq t' k))
  unfold binText
  rw [hl]
  conv => lhs; whnf
  simp
  omega
end
end Sl
namespace Sl
open PySem PySem.Spec PyProof.Rows L2 Evl
theorem digit_code {d : Nat} (h : d < 2) : (Nat.digitChar d).toNat = 48 + d := by
  have k : d = 0 ∨ d = 1 := by omega
  rcases k with rfl | rfl <;> rfl
theorem binCps_small {n : Nat} (h : n < 2) : binCps n = [48 + n] := by
  unfold binCps
  rw [Nat.toDigits_of_lt_base h]
  show [(Nat.digitChar n).toNat] = _
  rw [digit_code h]
theorem binCps_step {n : Nat} (h : 2 ≤ n) : binCps n = binCps (n / 2) ++ [48 + n % 2] := by
  unfold binCps
  rw [Nat.toDigits_of_base_le (by decide) h, List.map_append]
  show _ ++ [(Nat.digitChar (n % 2)).toNat] = _
  rw [digit_code (Nat.mod_lt _ (by decide))]
theorem binCps_ne (n : Nat) : ∃ c cs, binCps n = c :: cs := by
  cases e : binCps n with
  | nil =>
    have z : Nat.toDigits 2 n = [] := List.map_eq_nil_iff.mp e
    exact absurd z Nat.toDigits_ne_nil
  | cons c cs => exact ⟨c, cs, rfl⟩
section
variable {X : Cx}
def tFmtB (te : TE) : TE := fun σ H Q => te σ H fun x H1 => ∃ n : Nat, x = .int (n : Int) ∧ (binCps n).length ≤ 100000 ∧ Q (.str (binText n)) H1
theorem pe_fmtb {e : Expr} {te : TE} {k : Nat} {p1 p2 pos : Pos} (he : PE X e te) : PE X (.FormattedValue e (-1) (some (.JoinedStr [.Constant (.str (Str.ofString "b")) k p1] p2)) pos) (tFmtB te) := by
  refine ⟨fun pins s σ H Q I h => ?_⟩
  refine wpAny_FormattedValue_spec (thn (he.run pins s σ H _ I h) fun v s1 hv => ?_)
  obtain ⟨x, H1, I1, r1, n, rfl, hz, q⟩ := hv
  obtain ⟨tk, rfl⟩ := r1
  have hs : PE X (.JoinedStr [.Constant (.str (Str.ofString "b")) k p1] p2) (tC (.str (Str.ofString "b"))) := pe_joined1 pe_str
  refine thn (hs.run pins s1 σ H1 (fun y H2 => y = .str (Str.ofString "b") ∧ H2 = H1) I1 ⟨rfl, rfl⟩) fun r s2 hr => ?_
  obtain ⟨y, H2, I2, r2, rfl, rfl⟩ := hr
  obtain ⟨t2, rfl⟩ := r2
  obtain ⟨c, cs, hc⟩ := binCps_ne n
  refine ⟨_, _, rfl, field_b (a := (n : Int)) (decide_eq_false (by omega)) c cs hc ?_ fun t' k' => ?_⟩
  · show (binCps n).toArray.size ≤ sizeLine
    rw [List.size_toArray]
    exact sz_of hz
  · exact ⟨.str (binText n), H2, I2.tok _, ⟨_, rfl⟩, q⟩
end
end Sl

/-! ### bits of a number, most significant first -/
namespace Sl
open PySem
/-- k signs 0, 1 (as codes) of n's last k bits -/
def bits (n : Nat) : Nat → List Nat
  | 0 => []
  | k + 1 => bits (n / 2) k ++ [48 + n % 2]
theorem bits_len (k : Nat) : ∀ n, (bits n k).length = k := by
  induction k with
  | zero => intro n; rfl
  | succ k ih => intro n; unfold bits; rw [List.length_append, ih]; rfl
theorem bits_zero (k : Nat) : bits 0 k = List.replicate k 48 := by
  induction k with
  | zero => rfl
  | succ k ih =>
    unfold bits
    rw [show 0 / 2 = 0 from rfl, ih, List.replicate_succ']
theorem bits_take (a : Nat) : ∀ (b n : Nat), (bits n (a + b)).take a = bits (n / 2 ^ b) a := by
  intro b
  induction b with
  | zero =>
    intro n
    rw [Nat.add_zero, Nat.pow_zero, Nat.div_one, List.take_of_length_le (Nat.le_of_eq (bits_len a n))]
  | succ b ih =>
    intro n
    show (bits (n / 2) (a + b) ++ [48 + n % 2]).take a = _
    rw [List.take_append_of_le_length (by rw [bits_len]; omega), ih, Nat.div_div_eq_div_mul, Nat.pow_succ, Nat.mul_comm]
theorem bits_inj (k : Nat) : ∀ {n m : Nat}, n < 2 ^ k → m < 2 ^ k → bits n k = bits m k → n = m := by
  induction k with
  | zero => intro n m hn hm _; rw [Nat.pow_zero] at hn hm; omega
  | succ k ih =>
    intro n m hn hm h
    unfold bits at h
    have h1 := List.append_inj' h rfl
    have h2 : n % 2 = m % 2 := by
      have := List.cons.inj h1.2
      omega
    have h3 := ih (n := n / 2) (m := m / 2) (by rw [Nat.pow_succ] at hn; omega) (by rw [Nat.pow_succ] at hm; omega) h1.1
    omega
theorem bits_mod (k : Nat) : ∀ n, bits n k = bits (n % 2 ^ k) k := by
  induction k with
  | zero => intro n; rfl
  | succ k ih =>
    intro n
    unfold bits
    have e1 : n % 2 ^ (k + 1) % 2 = n % 2 := by
      rw [Nat.pow_succ, Nat.mul_comm, Nat.mod_mul_right_mod]
    have e2 : n % 2 ^ (k + 1) / 2 = n / 2 % 2 ^ k := by
      rw [Nat.pow_succ, Nat.mul_comm, Nat.mod_mul_right_div_self]
    rw [e1, e2, ← ih]
theorem bits_mem {c : Nat} : ∀ {k n : Nat}, c ∈ bits n k → c = 48 ∨ c = 49 := by
  intro k
  induction k with
  | zero => intro n h; cases h
  | succ k ih =>
    intro n h
    unfold bits at h
    rcases List.mem_append.mp h with h | h
    · exact ih h
    · have := List.mem_singleton.mp h
      omega
end Sl

/-! ### f'{n:b}'.zfill(12) -/
namespace Sl
open PySem PySem.Spec PyProof.Rows L2 Evl
theorem pad_bits (k : Nat) : ∀ n, 1 ≤ k → n < 2 ^ k → (binCps n).length ≤ k ∧ List.replicate (k - (binCps n).length) 48 ++ binCps n = bits n k := by
  induction k with
  | zero => intro n h; omega
  | succ k ih =>
    intro n _ hn
    by_cases h : n < 2
    · rw [binCps_small h]
      refine ⟨by show 1 ≤ k + 1; omega, ?_⟩
      show List.replicate (k + 1 - 1) 48 ++ [48 + n] = bits (n / 2) k ++ [48 + n % 2]
      rw [show n / 2 = 0 by omega, show n % 2 = n by omega, bits_zero, Nat.add_sub_cancel]
    · have hk : 1 ≤ k := by
        rcases Nat.eq_zero_or_pos k with e | e
        · subst e; rw [Nat.pow_succ, Nat.pow_zero] at hn; omega
        · exact e
      obtain ⟨h1, h2⟩ := ih (n / 2) hk (by rw [Nat.pow_succ] at hn; omega)
      rw [binCps_step (by omega), List.length_append]
      refine ⟨by show _ + 1 ≤ k + 1; omega, ?_⟩
      show List.replicate (k + 1 - ((binCps (n / 2)).length + 1)) 48 ++ (binCps (n / 2) ++ [48 + n % 2]) = bits (n / 2) k ++ [48 + n % 2]
      rw [← List.append_assoc, show k + 1 - ((binCps (n / 2)).length + 1) = k - (binCps (n / 2)).length by omega, h2]
theorem binCps_head {n c : Nat} {cs : List Nat} (h : binCps n = c :: cs) : c = 48 ∨ c = 49 := by
  have k : ∀ m : Nat, ∀ d ∈ binCps m, d = 48 ∨ d = 49 := by
    intro m
    induction m using Nat.strongRecOn with
    | ind m ih =>
      intro d hd
      by_cases hm : m < 2
      · rw [binCps_small hm] at hd
        have := List.mem_singleton.mp hd
        omega
      · rw [binCps_step (by omega)] at hd
        rcases List.mem_append.mp hd with hd | hd
        · exact ih (m / 2) (by omega) d hd
        · have := List.mem_singleton.mp hd
          omega
  exact k n c (by rw [h]; exact List.mem_cons_self)
/-- a text by its codes -/
def tx (l : List Nat) : Str := ⟨l.toArray⟩
theorem tx_len (l : List Nat) : (tx l).length = l.length := by
  show l.toArray.size = _
  rw [List.size_toArray]
theorem tx_cps (l : List Nat) : (tx l).cps.toList = l := rfl
theorem zfill_bin {n : Nat} (h : n < 2 ^ 12) : Txt.zfill (binText n) 12 = tx (bits n 12) := by
  obtain ⟨h1, h2⟩ := pad_bits 12 n (by decide) h
  have el : (binText n).length = (binCps n).length := tx_len _
  unfold Txt.zfill
  by_cases hle : (12 : Int) ≤ ((binText n).length : Nat)
  · rw [if_pos hle]
    have e0 : 12 - (binCps n).length = 0 := by
      rw [el] at hle
      omega
    rw [e0] at h2
    show tx (binCps n) = _
    rw [← h2]
    rfl
  · rw [if_neg hle]
    obtain ⟨c, cs, hc⟩ := binCps_ne n
    have ec : (binText n).cps[0]? = some c := by
      show (binCps n).toArray[0]? = _
      rw [hc]
      rfl
    have hz : zfilled (binText n) ((12 : Int).toNat - (binText n).length) = Builtin.Str.padded (binText n) ((12 : Int).toNat - (binText n).length) 0 48 := by
      unfold zfilled
      rw [ec]
      rcases binCps_head hc with e | e <;> rw [e] <;> rfl
    rw [hz, el]
    show Builtin.Str.padded (binText n) (12 - (binCps n).length) 0 48 = _
    unfold Builtin.Str.padded
    rw [← h2]
    unfold tx binText
    simp
end Sl

/-! ### a def that is called within an except suite and looks at the error that is held there -/
namespace Sl
open PySem PySem.Spec PyProof.Rows L2 Evl L2H
/-- a promise that may hang on the held error: its address and its class -/
abbrev SpE := Addr → Value → Sp
structure FnE (P : Program) (w : World) (K : PySem.W.Frag) (mg : Str → Option Value) (base : Heap) (k : Nat) (f : Addr) (fd : FuncData) (ps : List Str) (sp : SpE) : Prop where
  len : ∀ a c vs H Q E, sp a c vs H Q E → vs.length = ps.length
  run : ∀ (A : Around) (outer : List Env) (s : Shared) (H : Hp) (args : Args) (us : List Value) (vs : List V) (Q : VK) (E : XK) (p : Addr × Obj) (c : Value), RoomH k A → PinOk outer H s p → Zc c none p.2 → (∃ fs, p.2.data = .fields fs) →
    Env0 P w K mg base A outer s H → BindsTo s fd args (ps.zip us) → Vals vs us → sp p.1 c vs H Q E → codeAny (model P w) A (.call (.ref f) args) (CR CX0 outer P w H s Q E) s
theorem kind_of {h : Heap} {scope : Scope} {N ps : List Str} {us : List Value} (S : FnScope N ps scope) : ∀ y ∈ ps.zip us, scope.names.lookup y.1 = some .local ∨ (scope.names.lookup y.1 = some .cell ∧ ((cellsFrom (h.objs.size + 1) scope.names []).lookup y.1).isSome = true) := by
  rintro ⟨n, v⟩ hy
  rcases S.par n (List.of_mem_zip hy).1 with q | q
  · exact .inl q
  · exact .inr ⟨q, PySem.W.cellsFrom_some _ _ _ (.inl q)⟩
section
variable {P : Program} {w : World} {K : PySem.W.Frag} {mg : Str → Option Value} {base : Heap}
/-- such a def, by its body -/
theorem fnE_of {x qual : Str} {st : Stmt} {f : Addr} {fd : FuncData} {N ps : List Str} {k : Nat} {sp : SpE} (F : Fun K x qual st f fd) (S : FnScope N ps (defScope st)) (len : ∀ a c vs H Q E, sp a c vs H Q E → vs.length = ps.length)
    (hbody : ∀ (cdv : Value) (A : Around) (outer : List Env) (s : Shared) (H : Hp) (vs : List V) (Q : VK) (E : XK) (p : Addr × Obj) (c : Value), Zc c none p.2 → (∃ fs, p.2.data = .fields fs) → RoomH k (A.deeper (envOfC qual (defScope st) s.heap.objs.size f cdv)) → sp p.1 c vs H Q E →
      ∃ t, PSs (cxH CX0 P w K mg base N qual (defScope st) f cdv A outer s H E p) (defBody st) t ∧ t { nx := fun _ H' => Q .non H', rt := Q } (L2.start N vs) H) : FnE P w K mg base (k + 1) f fd ps sp := by
  obtain ⟨oc, od, kV, doc, pm, an, cdv, ct, osl, rfl, lk, hcd⟩ := F.ex
  refine ⟨len, fun A outer s H args us vs Q E p c hr hpin hz hf e0 hb r hsp => ?_⟩
  have KX : K.In s.heap := e0.mod.kin.keeps fun b o e => (e0.bs b o e).1
  have lim := e0.mod.nolimit.keeps fun b o e => (e0.bs b o e).1
  refine codeAny_call_function hr.depth (KX _ _ lk) rfl S.co S.gen rfl (PySem.W.codeRec_of KX hcd) (hb _ _ _ _ ?_)
  refine wpAny_newFunctionEnv_cells S.kind (kind_of S) fun env he s1 i1 => ?_
  subst he
  refine ⟨lim.keeps i1.toInCall.keep, codeAny_func ?_⟩
  obtain ⟨t, ht, hq⟩ := hbody cdv A outer s H vs Q E p c hz hf (hr.deeper _) hsp
  have I := inv_startH (CX := CX0) (f := f) (cd := cdv) (E := E) S hpin e0 (len _ _ _ _ _ _ hsp) r i1
  refine wpAny_mono (ht.run [] s1 _ H _ I hq) (fun fl s' hs => ?_) fun e s' hs => hs
  cases fl with
  | ret u =>
    obtain ⟨v, σ', H', J, rv, q⟩ := hs
    exact (⟨v, H', J.os, J.bare, J.base, J.hok, rv, q⟩ : CE outer P w H s Q u s')
  | next =>
    obtain ⟨σ', H', J, q⟩ := hs
    exact (⟨.non, H', J.os, J.bare, J.base, J.hok, rfl, q⟩ : CE outer P w H s Q .none s')
  | brk => exact hs.elim fun _ z => z.elim fun _ z => z.2.elim
  | cont => exact hs.elim fun _ z => z.elim fun _ z => z.2.elim
end
section
variable {X : Cx} {k : Nat} {f : Addr} {fd : FuncData} {ps : List Str} {sp : SpE} {E : L2.St → XK} {x : Str} {q pos : Pos} {e : Expr} {es : List Expr} {ta : TE} {t : TA}
/-- its call, within the suite that holds p -/
theorem pe_callE (F : FnE X.prog X.w X.K X.mg X.base k f fd ps sp) (hr : RoomH k X.A) {p : Addr × Obj} {c : Value} (hp : p ∈ X.pn) (hz : Zc c none p.2) (hf : ∃ fs, p.2.data = .fields fs) (hg : Gl X x) (hm : X.mg x = some (.ref f)) (hk : PySem.W.keepIn X.K (.ref f) = true)
    (hb : Binds X.K fd ps []) (ha : PA X (e :: es) t) (hdb : (x == ("__debug__" : Str)) = false := by decide) (he : starEach (e :: es) X.env = (false, eval e X.env) :: starEach es X.env := by rfl) (hpl : (backTo pos (starEach es X.env)).any (·.1) = false := by rfl) :
    PE X (.Call (.Name x q) (e :: es) [] pos) (tCall (sp p.1 c) [] E0 t) := by
  refine ⟨fun pins s σ H Q I h => ?_⟩
  refine wpAny_Call_Name_kw (ld_glob I hg hm ?_ hdb)
  refine PySem.W.callWith_K (h₀ := X.base) I.ok.mod.kin hk (thn (ha.run pos pins s σ H _ I h) fun us s1 hu => ?_) he hpl
  obtain ⟨vs, H1, I1, r, qq⟩ := hu
  refine ⟨I1.kIn, ?_⟩
  have qq' : sp p.1 c vs H1 Q E0 := by rw [List.append_nil] at qq; exact qq
  have hl : us.length = ps.length := by rw [← r.length]; exact F.len _ _ _ _ _ _ qq'
  have b := hb s1 us I1.kIn (by rw [List.append_nil]; exact hl)
  rw [List.append_nil] at b
  have P1 := I1.pin p (List.mem_append_left _ hp)
  have hpin : PinOk X.stack H1 s1 p := ⟨P1.1, P1.2.1, fun hm => (List.mem_cons.mp (I1.stkSub p.1 hm)).elim P1.2.2.1 P1.2.2.2.1, P1.2.2.2.2⟩
  refine wpAny_call (codeAny_mono (F.run X.A X.stack s1 H1 ⟨us, []⟩ us vs Q E0 p c hr hpin hz hf I1.env0 b r qq') fun r s' hq => ?_)
  cases r with
  | error e => exact hq.elim
  | ok fl =>
    cases fl with
    | ret u => exact I1.after hq
    | next => exact False.elim hq
    | brk => exact False.elim hq
    | cont => exact False.elim hq
/-- isinstance(e, c), e the error that the context bears -/
def rIsP (K : PySem.W.Frag) (a : Addr) (d : Value) : List V → Hp → VK → Prop := fun xs H Q => ∃ (D : Addr) (c : V) (cv : Value) (b : Bool), d = .ref D ∧ ExcC K D ∧ xs = [.ref a, c] ∧ (∀ u, RelV c u → u = cv) ∧ PySem.W.kitOne K (.ref D) cv = some b ∧ Q (.bl b) H
theorem call_isP {p : Addr × Obj} {c : Value} (hp : p ∈ X.pn) (hz : Zc c none p.2) (hf : ∃ fs, p.2.data = .fields fs) : CallR X (.builtin "isinstance") (rIsP X.K p.1 c) := by
  intro pins s σ H xs us Q I r h
  obtain ⟨D, cc, cv, b, hD, C, rfl, hcv, e, q⟩ := h
  subst hD
  obtain ⟨u1, u2, rfl, rx, rt⟩ := vals2 r
  cases rx
  have ec := hcv _ rt
  subst ec
  have hget := (I.pin p (List.mem_append_left _ hp)).1
  obtain ⟨fs, hv⟩ := hf
  have J : PySem.W.InstAt s.heap p.1 p.2 D none := by
    obtain ⟨pa, oc, od, oda, osl⟩ := p
    obtain ⟨h1, h2⟩ := hz
    dsimp only at h1 h2 hv hget
    subst h1 h2 hv
    exact ⟨hget, rfl, rfl, trivial⟩
  exact PySem.W.kia_one (PySem.W.handS_kitx_exc C.hg C.hk C.hs C.hd C.ha C.hn C.ht C.hm) I.kIn J e (fun z => nomatch z) fun tk => ⟨.bl b, H, I.kept (t' := tk) fun _ _ z => z, rfl, q⟩
/-- a block under a premise -/
theorem pss_given {sts : List Stmt} {t : TS} {p : Prop} (h : p → PSs X sts t) : PSs X sts (fun D σ H => p ∧ t D σ H) := ⟨fun pins s σ H D I ht => (h ht.1).run pins s σ H D I ht.2⟩
end
theorem kit_self {K : PySem.W.Frag} {D : Addr} : PySem.W.kitOne K (.ref D) (.ref D) = some true := if_pos (beq_self_eq_true _)
theorem kit_no {K : PySem.W.Frag} {D C : Addr} (i : PySem.W.isClsIn K C = true) (t : PySem.W.typeIn K (.ref C) = some (.type "type")) (n : PySem.W.subIn K (.ref D) (.ref C) = some false) (y : PySem.W.subIn K (.ref D) (.ref D) = some true) : PySem.W.kitOne K (.ref D) (.ref C) = some false := by
  have ne : D ≠ C := fun e => by
    rw [← e, y] at n
    cases n
  have nb : (Value.ref D == Value.ref C) = false := Bool.eq_false_iff.mpr fun z => ne (Value.ref.inj (beq_iff_eq.mp z))
  have ci : ((PySem.W.clsIn K C).isSome && PySem.W.typeIn K (.ref C) == some (.type "type")) = true := by
    have i' : (PySem.W.clsIn K C).isSome = true := i
    rw [i', t]
    decide +kernel
  unfold PySem.W.kitOne
  rw [nb, if_neg Bool.false_ne_true]
  show (if ((PySem.W.clsIn K C).isSome && PySem.W.typeIn K (.ref C) == some (.type "type")) = true then PySem.W.subIn K (.ref D) (.ref C) else none) = some false
  rw [if_pos ci]
  exact n
theorem kit_VE {K : PySem.W.Frag} {D : Addr} (n : PySem.W.subIn K (.ref D) (.type "ValueError") = some true) : PySem.W.kitOne K (.ref D) (.type "ValueError") = some true := by
  have nb : (Value.ref D == Value.type "ValueError") = false := rfl
  unfold PySem.W.kitOne
  rw [nb, if_neg Bool.false_ne_true]
  show (if PySem.W.kitMeta "ValueError" = true then PySem.W.subIn K (.ref D) (.type "ValueError") else none) = some true
  rw [if_pos (by decide +kernel)]
  exact n
end Sl

/-! ### words by lengths: places one behind the other -/
namespace Sl
open PySem
def sz (l : Int) : Nat := 2 ^ (12 - l).toNat
/-- a word of length l that begins at place p of the room of 12 bits, by its codes -/
def word (p : Nat) (l : Int) : List Nat := (bits p 12).take l.toNat
def LensOk (ls : List Int) : Prop := ∀ l ∈ ls, 1 ≤ l ∧ l ≤ 12
def pairs (ls : List Int) : List (Int × Nat) := (List.range ls.length).map fun i => (ls.getD i 0, i)
def atLen (ls : List Int) (L : Int) : List (Int × Nat) := ((List.range ls.length).filter fun k => decide (ls.getD k 0 = L)).map fun k => (L, k)
def lawSeq (ls : List Int) : List (Int × Nat) := (List.range 12).flatMap fun (j : Nat) => atLen ls ((j : Int) + 1)
def stepW (st : List (List Nat) × Nat) (q : Int × Nat) : List (List Nat) × Nat := (st.1.set q.2 (word st.2 q.1), st.2 + sz q.1)
def runW (st : List (List Nat) × Nat) (qs : List (Int × Nat)) : List (List Nat) × Nat := qs.foldl stepW st
def startW (n : Nat) : List (List Nat) × Nat := (List.replicate n [], 0)
def byLen (ls : List Int) : List (List Nat) := (runW (startW ls.length) (lawSeq ls)).1
def lexP (a b : Int × Nat) : Prop := a.1 < b.1 ∨ (a.1 = b.1 ∧ a.2 < b.2)
theorem mem_atLen {ls : List Int} {L : Int} {q : Int × Nat} : q ∈ atLen ls L ↔ q.1 = L ∧ q.2 < ls.length ∧ ls.getD q.2 0 = L := by
  unfold atLen
  rw [List.mem_map]
  constructor
  · rintro ⟨k, hk, rfl⟩
    obtain ⟨h1, h2⟩ := List.mem_filter.mp hk
    exact ⟨rfl, List.mem_range.mp h1, of_decide_eq_true h2⟩
  · rintro ⟨h1, h2, h3⟩
    exact ⟨q.2, List.mem_filter.mpr ⟨List.mem_range.mpr h2, decide_eq_true h3⟩, by rw [← h1]⟩
theorem mem_lawSeq {ls : List Int} {q : Int × Nat} : q ∈ lawSeq ls ↔ 1 ≤ q.1 ∧ q.1 ≤ 12 ∧ q.2 < ls.length ∧ ls.getD q.2 0 = q.1 := by
  unfold lawSeq
  rw [List.mem_flatMap]
  constructor
  · rintro ⟨j, hj, h⟩
    have hj' := List.mem_range.mp hj
    obtain ⟨h1, h2, h3⟩ := mem_atLen.mp h
    exact ⟨by omega, by omega, h2, by rw [h3, h1]⟩
  · rintro ⟨h1, h2, h3, h4⟩
    refine ⟨(q.1 - 1).toNat, List.mem_range.mpr (by omega), mem_atLen.mpr ⟨?_, h3, ?_⟩⟩
    · omega
    · rw [h4]; omega
theorem atLen_sorted (ls : List Int) (L : Int) : (atLen ls L).Pairwise lexP := by
  unfold atLen
  rw [List.pairwise_map]
  refine List.Pairwise.imp (R := fun a b => a < b) (fun h => .inr ⟨rfl, h⟩) ?_
  exact List.Pairwise.filter _ List.pairwise_lt_range
theorem lawSeq_sorted (ls : List Int) : (lawSeq ls).Pairwise lexP := by
  unfold lawSeq
  have gen : ∀ js : List Nat, js.Pairwise (· < ·) → (js.flatMap fun (j : Nat) => atLen ls ((j : Int) + 1)).Pairwise lexP := by
    intro js
    induction js with
    | nil => intro _; exact List.Pairwise.nil
    | cons j r ih =>
      intro h
      rw [List.flatMap_cons, List.pairwise_append]
      refine ⟨atLen_sorted _ _, ih (List.pairwise_cons.mp h).2, fun a ha b hb => ?_⟩
      obtain ⟨k, hk, hb⟩ := List.mem_flatMap.mp hb
      have hlt := (List.pairwise_cons.mp h).1 k hk
      have e1 := (mem_atLen.mp ha).1
      have e2 := (mem_atLen.mp hb).1
      exact .inl (by omega)
  exact gen _ List.pairwise_lt_range
theorem lawSeq_nodup (ls : List Int) : (lawSeq ls).Nodup := List.Pairwise.imp (fun {a b} h e => by
  subst e
  rcases h with h | h
  · exact absurd h (Int.lt_irrefl _)
  · exact absurd h.2 (Nat.lt_irrefl _)) (lawSeq_sorted ls)
theorem pairs_nodup (ls : List Int) : (pairs ls).Nodup := by
  unfold pairs
  refine List.pairwise_map.mpr (List.Pairwise.imp (fun {a b} h e => ?_) List.pairwise_lt_range)
  have := congrArg Prod.snd e
  simp at this
  omega
theorem mem_pairs {ls : List Int} {q : Int × Nat} : q ∈ pairs ls ↔ q.2 < ls.length ∧ ls.getD q.2 0 = q.1 := by
  unfold pairs
  rw [List.mem_map]
  constructor
  · rintro ⟨k, hk, rfl⟩
    exact ⟨List.mem_range.mp hk, rfl⟩
  · rintro ⟨h1, h2⟩
    exact ⟨q.2, List.mem_range.mpr h1, by rw [h2]⟩
theorem getD_mem {ls : List Int} {k : Nat} (h : k < ls.length) : ls.getD k 0 ∈ ls := by
  rw [List.getD_eq_getElem?_getD, List.getElem?_eq_getElem h]
  exact List.getElem_mem h
theorem lawSeq_perm {ls : List Int} (h : LensOk ls) : (lawSeq ls).Perm (pairs ls) := by
  refine (List.perm_ext_iff_of_nodup (lawSeq_nodup ls) (pairs_nodup ls)).mpr fun q => ?_
  rw [mem_lawSeq, mem_pairs]
  constructor
  · rintro ⟨_, _, h3, h4⟩
    exact ⟨h3, h4⟩
  · rintro ⟨h3, h4⟩
    have := h _ (getD_mem h3)
    rw [h4] at this
    exact ⟨this.1, this.2, h3, h4⟩
theorem runW_snd : ∀ (qs : List (Int × Nat)) (st : List (List Nat) × Nat), (runW st qs).2 = st.2 + (qs.map fun q => sz q.1).sum
  | [], st => by simp [runW]
  | q :: r, st => by
    show (runW (stepW st q) r).2 = _
    rw [runW_snd r]
    show st.2 + sz q.1 + _ = _
    rw [List.map_cons, List.sum_cons]
    omega
theorem runW_len : ∀ (qs : List (Int × Nat)) (st : List (List Nat) × Nat), (runW st qs).1.length = st.1.length
  | [], st => rfl
  | q :: r, st => by
    show (runW (stepW st q) r).1.length = _
    rw [runW_len r]
    exact List.length_set
theorem runW_app (a b : List (Int × Nat)) (st : List (List Nat) × Nat) : runW st (a ++ b) = runW (runW st a) b := List.foldl_append
theorem runW_off : ∀ (qs : List (Int × Nat)) (st : List (List Nat) × Nat) (k : Nat), (∀ q ∈ qs, q.2 ≠ k) → (runW st qs).1[k]? = st.1[k]?
  | [], st, k, _ => rfl
  | q :: r, st, k, h => by
    show (runW (stepW st q) r).1[k]? = _
    rw [runW_off r _ k fun z hz => h z (List.mem_cons_of_mem _ hz)]
    exact List.getElem?_set_ne (h q List.mem_cons_self)
theorem runW_at (a b : List (Int × Nat)) (q : Int × Nat) (st : List (List Nat) × Nat) (hq : q.2 < st.1.length) (hb : ∀ z ∈ b, z.2 ≠ q.2) : (runW st (a ++ q :: b)).1[q.2]? = some (word (st.2 + (a.map fun z => sz z.1).sum) q.1) := by
  rw [runW_app]
  show (runW (stepW (runW st a) q) b).1[q.2]? = _
  rw [runW_off b _ _ hb]
  show ((runW st a).1.set q.2 _)[q.2]? = _
  rw [List.getElem?_set_self (by rw [runW_len]; exact hq), runW_snd]
theorem sum_pairs (ls : List Int) : ((pairs ls).map fun q => sz q.1).sum = (ls.map sz).sum := by
  congr 1
  unfold pairs
  rw [List.map_map]
  refine List.ext_getElem? fun i => ?_
  rw [List.getElem?_map, List.getElem?_map]
  by_cases hi : i < ls.length
  · rw [List.getElem?_range hi, List.getElem?_eq_getElem hi]
    show some (sz (ls.getD i 0)) = some (sz ls[i])
    rw [List.getD_eq_getElem?_getD, List.getElem?_eq_getElem hi]
    rfl
  · rw [List.getElem?_eq_none (by simpa using hi), List.getElem?_eq_none (by simpa using hi)]
    rfl
theorem sum_lawSeq {ls : List Int} (h : LensOk ls) : ((lawSeq ls).map fun q => sz q.1).sum = (ls.map sz).sum := by
  rw [← sum_pairs]
  exact ((lawSeq_perm h).map _).sum_nat
theorem byLen_len (ls : List Int) : (byLen ls).length = ls.length := by
  unfold byLen
  rw [runW_len]
  exact List.length_replicate
/-- what the k-th word is -/
theorem byLen_at {ls : List Int} {a b : List (Int × Nat)} {q : Int × Nat} (e : lawSeq ls = a ++ q :: b) : (byLen ls)[q.2]? = some (word (a.map fun z => sz z.1).sum q.1) ∧ 1 ≤ q.1 ∧ q.1 ≤ 12 ∧ q.2 < ls.length ∧ ls.getD q.2 0 = q.1 := by
  have hm := mem_lawSeq.mp (show q ∈ lawSeq ls by rw [e]; exact List.mem_append_right _ List.mem_cons_self)
  refine ⟨?_, hm⟩
  unfold byLen
  rw [e, runW_at a b q (startW ls.length) (by show q.2 < (List.replicate ls.length []).length; rw [List.length_replicate]; exact hm.2.2.1) fun z hz ez => ?_]
  · show some (word (0 + _) _) = _
    rw [Nat.zero_add]
  · have s := lawSeq_sorted ls
    rw [e, List.pairwise_append] at s
    have hz' := (List.pairwise_cons.mp s.2.1).1 z hz
    have m2 := mem_lawSeq.mp (show z ∈ lawSeq ls by rw [e]; exact List.mem_append_right _ (List.mem_cons_of_mem _ hz))
    rcases hz' with h | h
    · rw [ez, hm.2.2.2] at m2
      omega
    · omega
theorem word_len {p : Nat} {l : Int} (h1 : 0 ≤ l) (h2 : l ≤ 12) : (word p l).length = l.toNat := by
  unfold word
  rw [List.length_take, bits_len]
  omega
theorem word_eq {p : Nat} {l : Int} (h1 : 0 ≤ l) (h2 : l ≤ 12) : word p l = bits (p / sz l) l.toNat := by
  unfold word sz
  have e : (12 : Nat) = l.toNat + (12 - l).toNat := by omega
  have k := bits_take l.toNat (12 - l).toNat p
  rw [← e] at k
  exact k
/-- two words at places that are apart: the one whose places lie ahead, then the other -/
theorem word_apart {p r : Nat} {l m : Int} (hl : 1 ≤ l) (hm : m ≤ 12) (hlm : l ≤ m) (hp : p < 4096) (hr : r < 4096) (h : p + sz l ≤ r ∨ (r + sz l ≤ p)) : (word r m).take l.toNat ≠ word p l := by
  intro e
  have l2 : l ≤ 12 := by omega
  have e1 : (word r m).take l.toNat = word r l := by
    unfold word
    rw [List.take_take, Nat.min_eq_left (by omega)]
  rw [e1, word_eq (by omega) l2, word_eq (by omega) l2] at e
  have pos : 0 < sz l := Nat.pow_pos (by decide)
  have e4096 : sz l * 2 ^ l.toNat = 4096 := by
    unfold sz
    rw [← Nat.pow_add]
    have : (12 - l).toNat + l.toNat = 12 := by omega
    rw [this]
  have b1 : p / sz l < 2 ^ l.toNat := Nat.div_lt_of_lt_mul (by rw [e4096]; exact hp)
  have b2 : r / sz l < 2 ^ l.toNat := Nat.div_lt_of_lt_mul (by rw [e4096]; exact hr)
  have k := bits_inj _ b2 b1 e
  rcases h with h | h
  · have : (p + sz l) / sz l ≤ r / sz l := Nat.div_le_div_right h
    rw [Nat.add_div_right _ pos] at this
    omega
  · have : (r + sz l) / sz l ≤ p / sz l := Nat.div_le_div_right h
    rw [Nat.add_div_right _ pos] at this
    omega
theorem sz_mono {l m : Int} (h : l ≤ m) : sz m ≤ sz l := Nat.pow_le_pow_right (by decide) (by omega)
theorem sz_pos (l : Int) : 0 < sz l := Nat.pow_pos (by decide)
/-- the j-th word does not begin with the i-th -/
theorem byLen_apart {ls : List Int} (h : LensOk ls) (hs : (ls.map sz).sum ≤ 4096) {i j : Nat} {u v : List Nat} (hij : i ≠ j) (hu : (byLen ls)[i]? = some u) (hv : (byLen ls)[j]? = some v) : v.take u.length ≠ u := by
  have hi : i < ls.length := by
    have := (List.getElem?_eq_some_iff.mp hu).1
    rw [byLen_len] at this
    exact this
  have hj : j < ls.length := by
    have := (List.getElem?_eq_some_iff.mp hv).1
    rw [byLen_len] at this
    exact this
  have mi : (ls.getD i 0, i) ∈ lawSeq ls := (lawSeq_perm h).mem_iff.mpr (mem_pairs.mpr ⟨hi, rfl⟩)
  have mj : (ls.getD j 0, j) ∈ lawSeq ls := (lawSeq_perm h).mem_iff.mpr (mem_pairs.mpr ⟨hj, rfl⟩)
  have tot := sum_lawSeq h
  obtain ⟨a, b, e⟩ := List.append_of_mem mi
  obtain ⟨wi, i1, i2, _, _⟩ := byLen_at e
  obtain ⟨c, d, e'⟩ := List.append_of_mem mj
  obtain ⟨wj, j1, j2, _, _⟩ := byLen_at e'
  dsimp only at wi wj i1 i2 j1 j2
  have eu : u = word (a.map fun z => sz z.1).sum (ls.getD i 0) := Option.some.inj (hu.symm.trans wi)
  have ev : v = word (c.map fun z => sz z.1).sum (ls.getD j 0) := Option.some.inj (hv.symm.trans wj)
  have ta : (a.map fun z => sz z.1).sum + sz (ls.getD i 0) ≤ 4096 := by
    rw [e, List.map_append, List.sum_append, List.map_cons, List.sum_cons] at tot
    dsimp only at tot ⊢
    omega
  have tc : (c.map fun z => sz z.1).sum + sz (ls.getD j 0) ≤ 4096 := by
    rw [e', List.map_append, List.sum_append, List.map_cons, List.sum_cons] at tot
    dsimp only at tot ⊢
    omega
  have pi := sz_pos (ls.getD i 0)
  have pj := sz_pos (ls.getD j 0)
  have lu : u.length = (ls.getD i 0).toNat := by rw [eu]; exact word_len (by omega) i2
  have lv : v.length = (ls.getD j 0).toNat := by rw [ev]; exact word_len (by omega) j2
  by_cases hlm : ls.getD i 0 ≤ ls.getD j 0
  · rw [lu, ev, eu]
    refine word_apart i1 j2 hlm (by omega) (by omega) ?_
    -- which stands ahead
    have srt := lawSeq_sorted ls
    have mj' := mj
    rw [e] at mj'
    rcases List.mem_append.mp mj' with hm | hm
    · -- j ahead of i: then of equal lengths
      right
      have lt : lexP (ls.getD j 0, j) (ls.getD i 0, i) := by
        rw [e, List.pairwise_append] at srt
        exact srt.2.2 _ hm _ List.mem_cons_self
      have eq : ls.getD j 0 = ls.getD i 0 := by
        rcases lt with z | z
        · have z' : ls.getD j 0 < ls.getD i 0 := z
          omega
        · exact z.1
      obtain ⟨a1, a2, ea⟩ := List.append_of_mem hm
      have ec : a1 = c := by
        have nd := lawSeq_nodup ls
        have e2 : lawSeq ls = a1 ++ (ls.getD j 0, j) :: (a2 ++ (ls.getD i 0, i) :: b) := by rw [e, ea]; simp
        rw [e2] at nd
        exact split_uniq nd (e2.symm.trans e')
      rw [ea, List.map_append, List.sum_append, List.map_cons, List.sum_cons, ec]
      dsimp only
      rw [eq]
      omega
    · left
      rcases List.mem_cons.mp hm with hm | hm
      · exact absurd (congrArg Prod.snd hm).symm hij
      · obtain ⟨b1, b2, eb⟩ := List.append_of_mem hm
        have ec : a ++ (ls.getD i 0, i) :: b1 = c := by
          have nd := lawSeq_nodup ls
          have e2 : lawSeq ls = (a ++ (ls.getD i 0, i) :: b1) ++ (ls.getD j 0, j) :: b2 := by rw [e, eb]; simp
          rw [e2] at nd
          exact split_uniq nd (e2.symm.trans e')
        rw [← ec, List.map_append, List.sum_append, List.map_cons, List.sum_cons]
        dsimp only
        omega
  · intro z
    have := congrArg List.length z
    rw [List.length_take, lu, lv] at this
    omega
where
  split_uniq {α : Type} {x : α} : ∀ {a b c d : List α}, (a ++ x :: b).Nodup → a ++ x :: b = c ++ x :: d → a = c
    | [], b, [], d, _, _ => rfl
    | [], b, y :: c, d, nd, e => by
      have h := List.cons.inj e
      have nd' := (List.nodup_cons.mp nd).1
      rw [h.2] at nd'
      exact absurd (List.mem_append_right _ List.mem_cons_self) nd'
    | y :: a, b, [], d, nd, e => by
      have h := List.cons.inj e
      have nd' := (List.nodup_cons.mp nd).1
      rw [h.1] at nd'
      exact absurd (List.mem_append_right _ List.mem_cons_self) nd'
    | y :: a, b, z :: c, d, nd, e => by
      have h := List.cons.inj e
      rw [h.1, split_uniq (List.nodup_cons.mp nd).2 h.2]
/-- a sorted rearrangement of the pairs is that sequence -/
theorem sorted_is_law {ls : List Int} (h : LensOk ls) {zs : List (Int × Int)} (hs : zs.Pairwise fun x y => ¬ (y.1 < x.1 ∨ (y.1 = x.1 ∧ y.2 < x.2))) (hp : zs.Perm ((pairs ls).map fun q => (q.1, (q.2 : Int)))) : zs = (lawSeq ls).map fun q => (q.1, (q.2 : Int)) := by
  refine List.Perm.eq_of_pairwise (le := fun x y => ¬ (y.1 < x.1 ∨ (y.1 = x.1 ∧ y.2 < x.2))) (fun x y _ _ h1 h2 => ?_) hs ?_ (hp.trans ((lawSeq_perm h).map _).symm)
  · obtain ⟨x1, x2⟩ := x
    obtain ⟨y1, y2⟩ := y
    simp only at h1 h2
    have : x1 = y1 ∧ x2 = y2 := by omega
    rw [this.1, this.2]
  · rw [List.pairwise_map]
    refine List.Pairwise.imp (fun {a b} z => ?_) (lawSeq_sorted ls)
    unfold lexP at z
    show ¬ (b.1 < a.1 ∨ (b.1 = a.1 ∧ (b.2 : Int) < (a.2 : Int)))
    omega
theorem bits_small {k n c : Nat} (h : c ∈ bits n k) : c < 0x110000 := by
  rcases bits_mem h with e | e <;> omega
/-- the words are texts of 0 and 1 -/
theorem byLen_small {ls : List Int} (h : LensOk ls) : ∀ u ∈ byLen ls, (∀ c ∈ u, c < 0x110000) ∧ u.length ≤ 12 := by
  intro u hu
  obtain ⟨i, hi, rfl⟩ := List.getElem_of_mem hu
  have hi' : i < ls.length := by rw [byLen_len] at hi; exact hi
  have mi : (ls.getD i 0, i) ∈ lawSeq ls := (lawSeq_perm h).mem_iff.mpr (mem_pairs.mpr ⟨hi', rfl⟩)
  obtain ⟨a, b, e⟩ := List.append_of_mem mi
  obtain ⟨wi, i1, i2, _, _⟩ := byLen_at e
  dsimp only at wi i1 i2
  rw [List.getElem?_eq_getElem hi] at wi
  rw [Option.some.inj wi]
  refine ⟨fun c hc => ?_, ?_⟩
  · unfold word at hc
    exact bits_small (List.mem_of_mem_take hc)
  · rw [word_len (by omega) i2]
    omega
end Sl

/-! ### lists of tuples made, sorted, walked -/
namespace Sl
open PySem L2 Evl
section
variable {K : PySem.W.Frag} {σ : L2.St} {H H' : Hp} {ta tb te tl : TE} {x y z v : V} {D : Ends} {g : TG} {tu : TS}
/-- gives a new list of which R holds -/
def EvX (te : TE) (σ : L2.St) (H : Hp) (R : List V → Hp → Prop) : Prop := ∀ H1, Ex H H1 → ∀ Q : VK, (∀ p xs H2, H1 p = none → Ex H1 H2 → H2 p = some (.lst xs) → R xs H2 → Q (.ref p) H2) → te σ H1 Q
theorem EvL.toX {xs : List V} (h : EvL te σ H xs) : EvX te σ H fun ys _ => ys = xs := fun H1 e Q q => h H1 e Q fun p H2 hp e2 h2 => q p xs H2 hp e2 h2 rfl
/-- the pairs of whole numbers that a list's tuples hold -/
def Tups (H : Hp) (zs : List V) (qs : List (Int × Int)) : Prop := zs.length = qs.length ∧ ∀ (i : Nat) (q : Int × Int), qs[i]? = some q → ∃ t, zs[i]? = some (.ref t) ∧ H t = some (.tup [.int q.1, .int q.2])
theorem Tups.mono {zs : List V} {qs : List (Int × Int)} (e : Ex H H') (h : Tups H zs qs) : Tups H' zs qs := ⟨h.1, fun i q hq => by
  obtain ⟨t, h1, h2⟩ := h.2 i q hq
  exact ⟨t, h1, e _ _ h2⟩⟩
def keyOf (H : Hp) : V → Int × Int
  | .ref t => match H t with
    | some (.tup [.int i, .int j]) => (i, j)
    | _ => (0, 0)
  | _ => (0, 0)
theorem keyOf_ref {t : Addr} {i j : Int} (h : H t = some (.tup [.int i, .int j])) : keyOf H (.ref t) = (i, j) := by
  show (match H t with | some (.tup [.int i, .int j]) => (i, j) | _ => (0, 0)) = (i, j)
  rw [h]
theorem Tups.keys {zs : List V} {qs : List (Int × Int)} (h : Tups H zs qs) : zs.map (keyOf H) = qs := by
  refine List.ext_getElem? fun i => ?_
  rw [List.getElem?_map]
  cases e : qs[i]? with
  | none =>
    rw [List.getElem?_eq_none (by rw [h.1]; exact List.getElem?_eq_none_iff.mp e)]
    rfl
  | some q =>
    obtain ⟨t, h1, h2⟩ := h.2 i q e
    rw [h1]
    show some (keyOf H (.ref t)) = some q
    rw [keyOf_ref h2]
theorem Tups.mem {zs : List V} {qs : List (Int × Int)} (h : Tups H zs qs) : ∀ z ∈ zs, ∃ t, z = .ref t ∧ H t = some (.tup [.int (keyOf H z).1, .int (keyOf H z).2]) := fun z hz => by
  obtain ⟨i, hi, e⟩ := List.getElem_of_mem hz
  have hq : i < qs.length := by rw [← h.1]; exact hi
  obtain ⟨t, h1, h2⟩ := h.2 i _ (List.getElem?_eq_getElem hq)
  rw [List.getElem?_eq_getElem hi] at h1
  have ez : z = .ref t := e.symm.trans (Option.some.inj h1)
  refine ⟨t, ez, ?_⟩
  rw [ez]
  have : keyOf H (.ref t) = qs[i] := keyOf_ref h2
  rw [this]
  exact h2
theorem tups_of {zs : List V} (h : ∀ z ∈ zs, ∃ t, z = .ref t ∧ H t = some (.tup [.int (keyOf H z).1, .int (keyOf H z).2])) : Tups H zs (zs.map (keyOf H)) := by
  refine ⟨(List.length_map _).symm, fun i q hq => ?_⟩
  rw [List.getElem?_map] at hq
  obtain ⟨z, hz, rfl⟩ := Option.map_eq_some_iff.mp hq
  obtain ⟨t, rfl, h2⟩ := h z (List.mem_of_getElem? hz)
  exact ⟨t, hz, h2⟩
/-- [.. for s, l in enumerate(xs)], a new pair each turn -/
theorem ex_lcEnum {ta : TA} {a : Addr} {xs : List V} {s l : Nat} {vs : List Nat} (gv : Nat → V → Int × Int) (h : EvA ta σ H [.ref a]) (hS : SqL K H a xs) (hz : xs.length ≤ 40000) (hw : ∀ v w, wipe (((wipe σ vs).set s (some v)).set l (some w)) vs = wipe σ vs)
    (he : ∀ (i : Nat) (x : V) H1, Ex H H1 → xs[i]? = some x → EvU te (((wipe σ vs).set s (some (.int (i : Int)))).set l (some x)) H1 [.int (gv i x).1, .int (gv i x).2]) :
    EvX (tLc (iEnum K ta) (gTup K 2 (gCons (gName s) (gCons (gName l) gNil))) tYes te vs) σ H fun ys H2 => ∃ qs : List (Int × Int), Tups H2 ys qs ∧ qs.length = xs.length ∧ ∀ (i : Nat) (x : V), xs[i]? = some x → qs[i]? = some (gv i x) := fun H0 e0 Q q =>
  h H0 e0 _ fun H1 e1 => by
    have e01 := e0.trans e1
    refine ⟨a, xs, rfl, ex_l e01 hS, fun Dl hD => ?_⟩
    refine ⟨fun i m H' => m = xs.length - i ∧ i ≤ xs.length ∧ Ex H1 H' ∧ ∃ ys qs, H' Dl = some (.lst ys) ∧ Tups H' ys qs ∧ qs.length = i ∧ ∀ (j : Nat) (x : V), j < i → xs[j]? = some x → qs[j]? = some (gv j x),
      ⟨xs.length, rfl, Nat.zero_le _, Ex.new hD, [], [], upd_same, ⟨rfl, fun i q hq => by simp at hq⟩, rfl, fun j x hj => absurd hj (Nat.not_lt_zero _)⟩, ?_⟩
    rintro i m H' ⟨rfl, hi, e', ys, qs, hd, ht, hl', hq⟩
    have hS' := ex_l (e01.trans e') hS
    by_cases hlt : i < xs.length
    · refine .inr ⟨⟨xs, xs[i], hS', List.getElem?_eq_getElem hlt⟩, _, fun H'' w => ⟨xs.length - (i + 1), by omega, rfl, hlt, w⟩, ?_⟩
      rintro w H'' ⟨T, x, rfl, hT, rfl, hx⟩
      have hx' := hx xs hS'
      have e'' : Ex H' (upd H' T (.tup [.int (i : Nat), x])) := Ex.new hT
      refine ⟨T, [.int (i : Nat), x], rfl, .inl (.inl upd_same), rfl, .int (i : Nat), [x], rfl, x, [], rfl, rfl, hw _ _, ?_⟩
      show te _ _ _
      refine he i x _ ((e01.trans e').trans e'') hx' _ (Ex.refl _) _ fun t H3 hn e3 h3 => ?_
      have h3d := e3 _ _ (e'' _ _ hd)
      have hyl : ys.length = i := ht.1.trans hl'
      have tD : t ≠ Dl := fun z => by rw [z] at hn; rw [e'' _ _ hd] at hn; cases hn
      have keep : ∀ b o, b ≠ Dl → H3 b = some o → (upd H3 Dl (.lst (ys ++ [.ref t]))) b = some o := fun b o hb ho => by rw [upd_ne hb]; exact ho
      refine ⟨ys, h3d, sz_lt (by omega), ?_, ys ++ [.ref t], qs ++ [gv i x], upd_same, ⟨by rw [List.length_append, List.length_append, ht.1]; rfl, fun j q hj => ?_⟩, by rw [List.length_append, hl']; rfl, fun j y hj hy => ?_⟩
      · exact Ex.mut ((e'.trans e'').trans e3) hD
      · by_cases hji : j < qs.length
        · rw [List.getElem?_append_left hji] at hj
          obtain ⟨u, h1, h2⟩ := ht.2 j q hj
          refine ⟨u, by rw [List.getElem?_append_left (by omega)]; exact h1, keep _ _ (fun z => ?_) (e3 _ _ (e'' _ _ h2))⟩
          rw [z, hd] at h2
          cases h2
        · rw [List.getElem?_append_right (by omega)] at hj
          have ej : j - qs.length = 0 := by
            have := (List.getElem?_eq_some_iff.mp hj).1
            simp at this
            omega
          rw [ej] at hj
          cases hj
          refine ⟨t, ?_, keep _ _ tD h3⟩
          rw [List.getElem?_append_right (by omega), show j - ys.length = 0 by omega]
          rfl
      · by_cases hji : j < i
        · rw [List.getElem?_append_left (by omega)]
          exact hq j y hji hy
        · have ej : j = i := by omega
          subst ej
          rw [List.getElem?_append_right (by omega), show j - qs.length = 0 by omega]
          rw [hx'] at hy
          cases hy
          rfl
    · have ei : i = xs.length := by omega
      refine .inl ⟨⟨xs, hS', by omega⟩, q Dl ys H' (fresh_back e1 hD) (e1.trans e') hd ⟨qs, ht, by omega, fun j x hx => hq j x (by rw [ei]; exact (List.getElem?_eq_some_iff.mp hx).1) hx⟩⟩
/-- sorted of a new list of pairs of whole numbers -/
theorem ex_sortedP {R : List V → Hp → Prop} {P : List (Int × Int) → Prop} (h : EvX te σ H R) (hR : ∀ ys H2, R ys H2 → ∃ qs, Tups H2 ys qs ∧ P qs) :
    EvX (tCB (rSortedPO K) (tCons te tNil)) σ H fun zs H3 => ∃ qs ps, Tups H3 zs qs ∧ P ps ∧ qs.Perm ps ∧ qs.Pairwise fun x y => ¬ (y.1 < x.1 ∨ (y.1 = x.1 ∧ y.2 < x.2)) := fun H1 e Q q =>
  h H1 e _ fun p ys H2 hp e2 h2 r => by
    obtain ⟨ps, ht, hP⟩ := hR ys H2 r
    refine ⟨p, ys, keyOf H2, rfl, sq_of h2, ht.mem, fun zs p' hs hb hn => ?_⟩
    have hz : Tups H2 zs (zs.map (keyOf H2)) := tups_of fun z hz => ht.mem z (hb.perm.mem_iff.mp hz)
    refine q p' zs _ (fresh_back e2 hn) (e2.trans (Ex.new hn)) upd_same ⟨zs.map (keyOf H2), ps, hz.mono (Ex.new hn), hP, ?_, ?_⟩
    · rw [← ht.keys]
      exact hb.perm.map _
    · rw [List.pairwise_map]
      exact List.Pairwise.imp (fun {a b} z => SrtO.lexB_no.mp z) hs
/-- a loop over a new list -/
theorem s_forX {R : List V → Hp → Prop} (h : EvX tl σ H R) (Pv : Addr → List V → Nat → L2.St → Hp → Prop) (h0 : ∀ p xs H1, H p = none → Ex H H1 → H1 p = some (.lst xs) → R xs H1 → Pv p xs 0 σ H1) (hl : ∀ p xs i σ' H', i ≤ xs.length → Pv p xs i σ' H' → SqL K H' p xs)
    (hs : ∀ p xs i x σ' H', xs[i]? = some x → Pv p xs i σ' H' → g x σ' H' fun σ2 H2 => tu { D with nx := Pv p xs (i + 1), ct := Pv p xs (i + 1), bk := D.nx } σ2 H2) (hd : ∀ p xs σ' H', Pv p xs xs.length σ' H' → D.nx σ' H') : tFor (iList K tl) g tu D σ H :=
  h H (Ex.refl H) _ fun p xs H1 hp e h1 r => ⟨p, rfl, ⟨xs, sq_of h1⟩, for_list (Pv p xs) (h0 p xs H1 hp e h1 r) (hl p xs) (hs p xs) (hd p xs)⟩
theorem q_forX {tz : TS} {R : List V → Hp → Prop} (h : EvX tl σ H R) (Pv : Addr → List V → Nat → L2.St → Hp → Prop) (h0 : ∀ p xs H1, H p = none → Ex H H1 → H1 p = some (.lst xs) → R xs H1 → Pv p xs 0 σ H1) (hl : ∀ p xs i σ' H', i ≤ xs.length → Pv p xs i σ' H' → SqL K H' p xs)
    (hs : ∀ p xs i x σ' H', xs[i]? = some x → Pv p xs i σ' H' → g x σ' H' fun σ2 H2 => tu { D with nx := Pv p xs (i + 1), ct := Pv p xs (i + 1), bk := tz D } σ2 H2) (hd : ∀ p xs σ' H', Pv p xs xs.length σ' H' → tz D σ' H') : tSeq (tFor (iList K tl) g tu) tz D σ H :=
  s_forX (D := { D with nx := tz D }) h Pv h0 hl hs hd
/-- all but one object as it was -/
def ExB (b : Addr) (H H' : Hp) : Prop := ∀ c o, H c = some o → c ≠ b → H' c = some o
theorem ExB.then {b : Addr} {H1 H2 : Hp} (h : ExB b H H1) (e : Ex H1 H2) : ExB b H H2 := fun c o hc hb => e _ _ (h c o hc hb)
theorem ExB.set {b : Addr} {o : HO} (h : ExB b H H') : ExB b H (upd H' b o) := fun c u hc hb => by rw [upd_ne hb]; exact h c u hc hb
theorem ExB.back {b : Addr} {H0 : Hp} (e : Ex H0 H) (hn : H0 b = none) (h : ExB b H H') : Ex H0 H' := fun c o hc => h c o (e _ _ hc) fun z => by rw [z, hn] at hc; cases hc
theorem ExB.refl (b : Addr) (H : Hp) : ExB b H H := fun _ _ h _ => h
end
end Sl

/-! ### things handed in: plain ones, or lists and tuples of whole numbers -/
namespace Sl
open PySem L2 Evl
def Simple (H : Hp) (x : V) : Prop := x = .non ∨ (∃ b, x = .bl b) ∨ (∃ i, x = .int i) ∨ (∃ s, x = .str s ∧ PyData.canLay0 (.str s) = true) ∨ ∃ (a : Addr) (ns : List Int), x = .ref a ∧ (H a = some (.lst (ns.map V.int)) ∨ H a = some (.tup (ns.map V.int)))
section
variable {K : PySem.W.Frag} {σ : L2.St} {H H' : Hp} {ta tb te tl : TE} {x y z v : V} {D : Ends} {g : TG} {tu tz : TS} {t : TT}
theorem Simple.thing (h : Simple H x) : Thing H x := by
  rcases h with h | h | h | ⟨s, h, _⟩ | ⟨a, ns, h, g | g⟩
  · exact .inl h
  · exact .inr (.inl h)
  · exact .inr (.inr (.inl h))
  · exact .inr (.inr (.inr (.inl ⟨s, h⟩)))
  · exact .inr (.inr (.inr (.inr ⟨a, _, h, .inl g⟩)))
  · exact .inr (.inr (.inr (.inr ⟨a, _, h, .inr g⟩)))
theorem Simple.mono (e : Ex H H') (h : Simple H x) : Simple H' x := by
  rcases h with h | h | h | h | ⟨a, ns, h, g⟩
  · exact .inl h
  · exact .inr (.inl h)
  · exact .inr (.inr (.inl h))
  · exact .inr (.inr (.inr (.inl h)))
  · exact .inr (.inr (.inr (.inr ⟨a, ns, h, g.elim (fun g => .inl (e _ _ g)) fun g => .inr (e _ _ g)⟩)))
theorem Simple.int (i : Int) : Simple H (.int i) := .inr (.inr (.inl ⟨i, rfl⟩))
theorem Simple.bl (b : Bool) : Simple H (.bl b) := .inr (.inl ⟨b, rfl⟩)
theorem Simple.non : Simple H .non := .inl rfl
theorem Simple.str (s : Str) (h : PyData.canLay0 (.str s) = true) : Simple H (.str s) := .inr (.inr (.inr (.inl ⟨s, rfl, h⟩)))
theorem Simple.lst {a : Addr} {ns : List Int} (h : H a = some (.lst (ns.map V.int))) : Simple H (.ref a) := .inr (.inr (.inr (.inr ⟨a, ns, rfl, .inl h⟩)))
theorem Simple.tup {a : Addr} {ns : List Int} (h : H a = some (.tup (ns.map V.int))) : Simple H (.ref a) := .inr (.inr (.inr (.inr ⟨a, ns, rfl, .inr h⟩)))
theorem flat_ints (ns : List Int) : ∀ d ∈ ns.map PyData.int, d.canLay0 = true ∧ d.depth ≤ 0 := fun d hd => by
  obtain ⟨i, _, rfl⟩ := List.mem_map.mp hd
  exact ⟨rfl, Nat.le_refl _⟩
theorem Simple.data (h : Simple H x) : ∃ d, Dp K H x d ∧ d.canLay0 = true ∧ d.depth ≤ 60 := by
  rcases h with rfl | ⟨b, rfl⟩ | ⟨i, rfl⟩ | ⟨s, rfl, k⟩ | ⟨a, ns, rfl, g | g⟩
  · exact ⟨_, .non, rfl, Nat.zero_le _⟩
  · exact ⟨_, .bl _, rfl, Nat.zero_le _⟩
  · exact ⟨_, .int _, rfl, Nat.zero_le _⟩
  · exact ⟨_, .str _, k, Nat.zero_le _⟩
  · have z := lay_all (flat_ints ns)
    refine ⟨.list (ns.map PyData.int), dp_ints (sq_of g), ?_, ?_⟩
    · unfold PyData.canLay0
      exact z.1
    · unfold PyData.depth
      have := z.2
      omega
  · have z := lay_all (flat_ints ns)
    refine ⟨.tuple (ns.map PyData.int), .tup (st_of g) (dpAll_map fun _ _ => .int _), ?_, ?_⟩
    · unfold PyData.canLay0
      exact z.1
    · unfold PyData.depth
      have := z.2
      omega
/-- the data of a list of such things -/
theorem simple_list {a : Addr} : ∀ {xs : List V}, (∀ x ∈ xs, Simple H x) → ∃ ds : List PyData, DpAll K H xs ds ∧ ds.length = xs.length ∧ ∀ d ∈ ds, d.canLay0 = true ∧ d.depth ≤ 60
  | [], _ => ⟨[], .nil, rfl, fun _ h => by cases h⟩
  | x :: r, h => by
    obtain ⟨d, h1, h2, h3⟩ := (h x List.mem_cons_self).data (K := K)
    obtain ⟨ds, k1, k2, k3⟩ := simple_list (a := a) fun z hz => h z (List.mem_cons_of_mem _ hz)
    refine ⟨d :: ds, .cons h1 k1, by simp [k2], fun e he => ?_⟩
    rcases List.mem_cons.mp he with rfl | he
    · exact ⟨h2, h3⟩
    · exact k3 e he
/-- two lists of the same things are equal -/
theorem ev_neSame {a b : Addr} {xs : List V} (ha : Ev ta σ H (.ref a)) (hb : Ev tb σ H (.ref b)) (hA : SqL K H a xs) (hB : SqL K H b xs) (hx : ∀ x ∈ xs, Simple H x) : Ev (tOp (rNeD K) ta tb) σ H (.bl false) := by
  obtain ⟨ds, h1, _, h3⟩ := simple_list (K := K) (a := a) hx
  have s := shaped_list h3
  exact ev_is (ev_neD ha hb (.lst hA h1) (.lst hB h1) s s) (by rw [eqv_same s]; rfl)
/-- a list compared with a new empty one -/
theorem ev_eqNil {xs : List V} (ha : EvX ta σ H fun ys H2 => ys = xs ∧ ∀ x ∈ xs, Simple H2 x) (hb : ∀ H1, Ex H H1 → EvL tb σ H1 []) : Ev (tOp (rEqD K) ta tb) σ H (.bl xs.isEmpty) := fun H1 e Q q =>
  ha H1 e _ fun p ys H2 hp e2 h2 r => by
    obtain ⟨rfl, hs⟩ := r
    refine hb H2 (e.trans e2) H2 (Ex.refl _) _ fun b H3 hb' e3 h3 => ?_
    obtain ⟨ds, k1, k2, k3⟩ := simple_list (K := K) (a := p) hs
    refine ⟨.list ds, .list [], .lst (sq_of (e3 _ _ h2)) (dp_monoAll e3 _ _ k1), .lst (sq_of h3) .nil, shaped_list k3, rfl, ?_⟩
    have z : PyData.eqv (.list ds) (.list []) = ys.isEmpty := by
      cases ys with
      | nil =>
        have : ds = [] := List.length_eq_zero_iff.mp k2
        rw [this]
        rfl
      | cons y r =>
        cases ds with
        | nil => simp at k2
        | cons d r2 => rfl
    rw [z]
    exact q H3 (e2.trans e3)
theorem ev_eqNilI {r : Addr} {ks : List Int} (ha : Ev ta σ H (.ref r)) (h : SqL K H r (ks.map V.int)) (hb : ∀ H1, Ex H H1 → EvL tb σ H1 []) : Ev (tOp (rEqD K) ta tb) σ H (.bl ks.isEmpty) := fun H1 e Q q =>
  ha H1 e _ fun H2 e2 => hb H2 (e.trans e2) H2 (Ex.refl _) _ fun b H3 hb' e3 h3 => by
    refine ⟨.list (ks.map PyData.int), .list [], dp_ints (ex_l ((e.trans e2).trans e3) h), .lst (sq_of h3) .nil, shaped_ints ks, rfl, ?_⟩
    have z : PyData.eqv (.list (ks.map PyData.int)) (.list []) = ks.isEmpty := by cases ks <;> rfl
    rw [z]
    exact q H3 (e2.trans e3)
theorem cutV_from (xs : List V) (n : Nat) : cutV xs (some (n : Int)) none = xs.drop n := by
  unfold cutV
  rw [show HT.sIx xs.length 0 (some (n : Int)) = min n xs.length from HT.sIx_nat xs.length 0 n, HT.sIx_none]
  by_cases h : n ≤ xs.length
  · rw [Nat.min_eq_left h, List.take_of_length_le (by rw [List.length_drop]; omega)]
  · rw [Nat.min_eq_right (by omega), List.drop_of_length_le (Nat.le_refl _), List.drop_of_length_le (by omega)]
    exact List.take_nil
/-! ### argument lists whose items are things -/
def EvS (ta : TA) (σ : L2.St) (H : Hp) (R : List V → Hp → Prop) : Prop := ∀ H1, Ex H H1 → ∀ Q : List V → Hp → Prop, (∀ vs H2, Ex H1 H2 → R vs H2 → Q vs H2) → ta σ H1 Q
theorem es_nil : EvS tNil σ H fun vs _ => vs = [] := fun H1 _ Q q => q [] H1 (Ex.refl _) rfl
/-- n things, none an object of H -/
def AllS (H0 : Hp) (n : Nat) (vs : List V) (H : Hp) : Prop := vs.length = n ∧ ∀ v ∈ vs, Simple H v ∧ ∀ b, v = .ref b → H0 b = none
theorem es0 : EvS tNil σ H (AllS H 0) := fun H1 _ Q q => q [] H1 (Ex.refl _) ⟨rfl, fun _ h => by cases h⟩
theorem AllS.cons {H0 : Hp} {n : Nat} {vs : List V} (h : Simple H v) (f : ∀ b, v = .ref b → H0 b = none) (k : AllS H0 n vs H) : AllS H0 (n + 1) (v :: vs) H := ⟨by rw [List.length_cons, k.1], fun w hw => (List.mem_cons.mp hw).elim (fun e => e ▸ ⟨h, f⟩) (k.2 w)⟩
theorem es_v {tr : TA} {n : Nat} (h : Ev te σ H v) (hs : Simple H v) (k : EvS tr σ H (AllS H n)) (f : ∀ b, v = .ref b → H b = none := by intro _ z; cases z) : EvS (tCons te tr) σ H (AllS H (n + 1)) := fun H1 e Q q =>
  h H1 e _ fun H2 e2 => k H2 (e.trans e2) _ fun vs H3 e3 r => q _ H3 (e2.trans e3) (AllS.cons (hs.mono ((e.trans e2).trans e3)) f r)
theorem es_l {tr : TA} {n : Nat} {ns : List Int} (h : EvL te σ H (ns.map V.int)) (k : EvS tr σ H (AllS H n)) : EvS (tCons te tr) σ H (AllS H (n + 1)) := fun H1 e Q q =>
  h H1 e _ fun p H2 hp e2 h2 => k H2 (e.trans e2) _ fun vs H3 e3 r => q _ H3 (e2.trans e3) (AllS.cons (Simple.lst (e3 _ _ h2)) (fun b z => by cases z; exact fresh_back e hp) r)
theorem es_u {tr : TA} {n : Nat} {ns : List Int} (h : EvU te σ H (ns.map V.int)) (k : EvS tr σ H (AllS H n)) : EvS (tCons te tr) σ H (AllS H (n + 1)) := fun H1 e Q q =>
  h H1 e _ fun p H2 hp e2 h2 => k H2 (e.trans e2) _ fun vs H3 e3 r => q _ H3 (e2.trans e3) (AllS.cons (Simple.tup (e3 _ _ h2)) (fun b z => by cases z; exact fresh_back e hp) r)
/-- a thing is told, none of the objects that were there -/
def RetS (H : Hp) (Q : VK) : Prop := ∀ v H2, Ex H H2 → Simple H2 v → (∀ b, v = .ref b → H b = none) → Q v H2
/-- an item of a list of things written there -/
theorem s_retItem {ts : TA} {n : Nat} {j : Nat} (h : EvS ts σ H (AllS H n)) (hi : Ev te σ H (.int (j : Int))) (hj : j < n) (hn : n ≤ 1000) (q : RetS H D.rt) : tRet (tOp (rIxL K) (tLst ts) te) D σ H :=
  h H (Ex.refl _) _ fun vs H2 e2 r => ⟨sz_of (by rw [r.1]; omega), fun p hp => hi (upd H2 p (.lst vs)) (e2.trans (Ex.new hp)) _ fun H3 e3 => by
    have hjl : j < vs.length := by rw [r.1]; exact hj
    refine ⟨p, vs, (j : Int), vs[j], rfl, rfl, sq_of (e3 _ _ upd_same), ?_, ?_⟩
    · unfold atI
      rw [ixN_nat hjl]
      exact List.getElem?_eq_getElem hjl
    · exact q _ H3 ((e2.trans (Ex.new hp)).trans e3) ((r.2 _ (List.getElem_mem hjl)).1.mono ((Ex.new hp).trans e3)) (r.2 _ (List.getElem_mem hjl)).2⟩
/-! ### more of the same, small -/
theorem el_range {n : Nat} {ta : TE} (h : Ev ta σ H (.int (n : Int))) (hn : n ≤ 10000) : EvL (tLstRg (tRg1 ta)) σ H ((List.range n).map fun (i : Nat) => V.int (i : Int)) := fun H1 e Q q =>
  h H1 e _ fun H2 e2 => ⟨(n : Int), rfl, ⟨by omega, by omega, by omega, by omega, by omega⟩, fun p hp => by
    refine q p _ (fresh_back e2 hp) (e2.trans (Ex.new hp)) ?_
    rw [upd_same]
    unfold rgV
    rw [show ((n : Int) - 0).toNat = n by omega]
    congr 2
    refine List.map_congr_left fun i _ => ?_
    rw [Int.zero_add]⟩
/-- if b: xs.append(v) -/
theorem q_ifApp {b : Bool} {l : Addr} {xs : List V} (hl : H l = some (.lst xs)) (ht : EvT t σ H b) (ha : Ev ta σ H (.ref l)) (hv : Ev te σ H v) (hz : xs.length < 1000) (k : ∀ H1, ExB l H H1 → H1 l = some (.lst (xs ++ if b = true then [v] else [])) → tz D σ H1) :
    tSeq (tIfS t (tDrop (tBM K "list" rAppend ta (tCons te tNil))) tNext) tz D σ H := by
  refine q_when ht (fun hb H1 e1 => ?_) (fun hb H1 e1 => ?_)
  · refine s_app (D := { D with nx := tz D }) (e1 _ _ hl) (fun H2 e => ha H2 (e1.trans e)) (fun H2 e => hv H2 (e1.trans e)) (by omega) fun H2 e2 => ?_
    refine k _ (fun c o hc hb => ?_) ?_
    · rw [upd_ne hb]
      exact e2 _ _ (e1 _ _ hc)
    · rw [upd_same, if_pos hb]
  · refine k H1 (fun c o hc _ => e1 _ _ hc) ?_
    rw [e1 _ _ hl, hb]
    simp
theorem ev_isP {a : Addr} {D : Addr} {c : V} {cv : Value} {b : Bool} (C : ExcC K D) (ha : Ev ta σ H (.ref a)) (hc : Ev tb σ H c) (hr : ∀ u, RelV c u → u = cv) (hk : PySem.W.kitOne K (.ref D) cv = some b) : Ev (tCB (rIsP K a (.ref D)) (tCons ta (tCons tb tNil))) σ H (.bl b) := fun H1 e Q q =>
  ha H1 e _ fun H2 e2 => hc H2 (e.trans e2) _ fun H3 e3 => ⟨D, c, cv, b, rfl, C, rfl, hr, hk, q H3 (e2.trans e3)⟩
/-- a new tuple is told -/
def RetU (xs : List V) (H : Hp) (Q : VK) : Prop := ∀ p H2, H p = none → Ex H H2 → H2 p = some (.tup xs) → Q (.ref p) H2
theorem RetU.go {xs : List V} {Q : VK} (k : RetU xs H Q) (e : Ex H H') {p : Addr} {H2 : Hp} (hp : H' p = none) (e2 : Ex H' H2) (h : H2 p = some (.tup xs)) : Q (.ref p) H2 := k p H2 (fresh_back e hp) (e.trans e2) h
theorem ev_isList {a : Addr} {xs : List V} (h : Ev te σ H (.ref a)) (k : H a = some (.lst xs)) : Ev (tCB (rIsi K) (tCons te (tCons (tC (.ty "list")) tNil))) σ H (.bl true) := fun H1 e Q q =>
  h H1 e _ fun H2 e2 => ⟨.ref a, .ty "list", _, _, true, rfl, .ty _, .base (.lst ((e.trans e2) _ _ k)), kit_ty (by decide +kernel), q H2 e2⟩
theorem ev_isListU {a : Addr} {xs : List V} (h : Ev te σ H (.ref a)) (k : H a = some (.tup xs)) : Ev (tCB (rIsi K) (tCons te (tCons (tC (.ty "list")) tNil))) σ H (.bl false) := fun H1 e Q q =>
  h H1 e _ fun H2 e2 => ⟨.ref a, .ty "list", _, _, false, rfl, .ty _, .base (.tup ((e.trans e2) _ _ k)), kit_ty (by decide +kernel), q H2 e2⟩
def rMin2 : List V → Hp → VK → Prop := fun xs H Q => ∃ i j, xs = [.int i, .int j] ∧ Q (.int (if j < i then j else i)) H
theorem ev_min2 {i j : Int} (ha : Ev ta σ H (.int i)) (hb : Ev tb σ H (.int j)) : Ev (tCB rMin2 (tCons ta (tCons tb tNil))) σ H (.int (if j < i then j else i)) := fun H1 e Q q =>
  ha H1 e _ fun H2 e2 => hb H2 (e.trans e2) _ fun H3 e3 => ⟨i, j, rfl, q H3 (e2.trans e3)⟩
def rLenTx : List V → Hp → VK → Prop := fun xs H Q => ∃ z, xs = [.str z] ∧ z.length ≤ sizeLine ∧ Q (.int z.length) H
theorem ev_lenTx {l : List Nat} (ha : Ev ta σ H (.str (tx l))) (hl : l.length ≤ 100000) : Ev (tCB rLenTx (tCons ta tNil)) σ H (.int (l.length : Int)) := fun H1 e Q q =>
  ha H1 e _ fun H2 e2 => ⟨tx l, rfl, by rw [tx_len]; exact sz_of hl, by rw [tx_len]; exact q H2 e2⟩
theorem cutS_to (l : List Nat) (n : Nat) : cutS (tx l) none (some (n : Int)) = tx (l.take n) := by
  unfold cutS
  rw [HT.sIx_none, show HT.sIx (tx l).length (tx l).length (some (n : Int)) = min n (tx l).length from HT.sIx_nat _ _ n, tx_len]
  show tx ((l.drop 0).take (min n l.length - 0)) = _
  rw [List.drop_zero, Nat.sub_zero]
  congr 1
  by_cases h : n ≤ l.length
  · rw [Nat.min_eq_left h]
  · rw [Nat.min_eq_right (by omega), List.take_length, List.take_of_length_le (by omega)]
theorem ev_slTo {l : List Nat} {n : Nat} {th : TO} (ha : Ev ta σ H (.str (tx l))) (hh : EvO th σ H (some (n : Int))) (hl : l.length ≤ 100000) : Ev (tSl rSlS ta tNoPart th) σ H (.str (tx (l.take n))) := fun H1 e Q q =>
  ha H1 e _ fun H2 e2 => hh H2 (e.trans e2) _ fun H3 e3 => ⟨tx l, rfl, by rw [tx_len]; exact sz_of hl, by rw [cutS_to]; exact q H3 (e2.trans e3)⟩
theorem tx_app (a b : List Nat) : tx a ++ tx b = tx (a ++ b) := by
  show (⟨a.toArray ++ b.toArray⟩ : Str) = ⟨(a ++ b).toArray⟩
  rw [List.append_toArray]
theorem tx_inj {a b : List Nat} (h : tx a = tx b) : a = b := by
  have := congrArg (fun z : Str => z.cps.toList) h
  exact this
theorem rv_addTx {a b : List Nat} (h : a.length + b.length ≤ 100000) : RV (fun x y H Q => ∃ i j, x = .str i ∧ y = .str j ∧ i.length + j.length ≤ sizeLine ∧ Q (.str (i ++ j)) H) (.str (tx a)) (.str (tx b)) H (.str (tx (a ++ b))) := fun H1 _ _ q =>
  ⟨tx a, tx b, rfl, rfl, by rw [tx_len, tx_len]; exact sz_of h, by rw [tx_app]; exact q H1 (Ex.refl _)⟩
theorem canLay_tx {l : List Nat} (h : ∀ c ∈ l, c < 0x110000) : PyData.canLay0 (.str (tx l)) = true := by
  unfold PyData.canLay0
  unfold PyData.strOk
  rw [Array.all_eq_true]
  intro i hi
  exact decide_eq_true (h _ (List.getElem_mem (by simpa [tx] using hi)))
theorem ev_eqLL {xs ys : List V} {d e : PyData} (ha : EvL ta σ H xs) (hb : EvL tb σ H ys) (hd : ∀ p H1, H1 p = some (.lst xs) → Dp K H1 (.ref p) d) (he : ∀ p H1, H1 p = some (.lst ys) → Dp K H1 (.ref p) e) (sd : SeqAt.shaped d = true) (se : SeqAt.shaped e = true) : Ev (tOp (rEqD K) ta tb) σ H (.bl (PyData.eqv d e)) :=
  ev_opLL ha hb fun p q H1 h1 h2 _ H2 e2 Q k => ⟨d, e, dp_mono e2 d _ (hd p H1 h1), dp_mono e2 e _ (he q H1 h2), sd, se, k H2 (Ex.refl _)⟩
def vtx (l : List Nat) : V := .str (tx l)
def dtx (l : List Nat) : PyData := .str (tx l)
theorem dp_txs {a : Addr} {ws : List (List Nat)} (h : SqL K H a (ws.map vtx)) : Dp K H (.ref a) (.list (ws.map dtx)) := .lst h (dpAll_map fun _ _ => .str _)
theorem shaped_txs {ws : List (List Nat)} (h : ∀ u ∈ ws, ∀ c ∈ u, c < 0x110000) : SeqAt.shaped (.list (ws.map dtx)) = true := shaped_list fun d hd => by
  obtain ⟨u, hu, rfl⟩ := List.mem_map.mp hd
  exact ⟨canLay_tx (h u hu), Nat.zero_le _⟩
end
end Sl

/-! ### the depths of a tree's leaves, in their order -/
namespace Sl
inductive Leafs : Int → List Int → Prop where
  | leaf (d : Int) : Leafs d [d]
  | node {d : Int} {a b : List Int} : Leafs (d + 1) a → Leafs (d + 1) b → Leafs d (a ++ b)
theorem Leafs.ne {d : Int} {a : List Int} (h : Leafs d a) : a ≠ [] := by
  induction h with
  | leaf d => exact List.cons_ne_nil _ _
  | node _ _ ih1 ih2 => exact fun e => ih1 (List.append_eq_nil_iff.mp e).1
theorem Leafs.le {d : Int} {a : List Int} (h : Leafs d a) : ∀ x ∈ a, d ≤ x := by
  induction h with
  | leaf d => intro x hx; rw [List.mem_singleton.mp hx]; exact Int.le_refl _
  | node _ _ ih1 ih2 =>
    intro x hx
    rcases List.mem_append.mp hx with hx | hx
    · have := ih1 x hx; omega
    · have := ih2 x hx; omega
/-- a leaf becomes a fork -/
theorem Leafs.split {d : Int} {xs : List Int} (h : Leafs d xs) : ∀ {l r : List Int} {e : Int}, xs = l ++ e :: r → Leafs d (l ++ (e + 1) :: (e + 1) :: r) := by
  induction h with
  | leaf d =>
    intro l r e he
    cases l with
    | nil =>
      have := List.cons.inj he
      rw [← this.1, ← this.2]
      show Leafs d ([d + 1] ++ [d + 1])
      exact .node (.leaf _) (.leaf _)
    | cons y l =>
      have := (List.cons.inj he).2
      exact absurd this.symm (by simp)
  | @node d a b ha hb ih1 ih2 =>
    intro l r e he
    rcases List.append_eq_append_iff.mp he with ⟨m, h1, h2⟩ | ⟨m, h1, h2⟩
    · -- l = a ++ m
      rw [h1]
      have := Leafs.node ha (ih2 h2)
      rw [List.append_assoc]
      exact this
    · cases m with
      | nil =>
        rw [List.append_nil] at h1
        have h2' : e :: r = b := h2
        rw [← h1]
        have := Leafs.node ha (ih2 (l := []) h2'.symm)
        exact this
      | cons y m =>
        have hy := List.cons.inj h2
        rw [← hy.1] at h1
        have := Leafs.node (ih1 h1) hb
        rw [hy.2]
        rw [List.append_assoc] at this
        exact this
/-- what all leaves weigh -/
theorem Leafs.kraft {B : Nat} {d : Int} {xs : List Int} (h : Leafs d xs) (hd : 0 ≤ d) (hx : ∀ x ∈ xs, x ≤ (B : Int)) : (xs.map fun x => 2 ^ ((B : Int) - x).toNat).sum = 2 ^ ((B : Int) - d).toNat := by
  induction h with
  | leaf d => simp
  | @node d a b ha hb ih1 ih2 =>
    rw [List.map_append, List.sum_append, ih1 (by omega) fun x h => hx x (List.mem_append_left _ h), ih2 (by omega) fun x h => hx x (List.mem_append_right _ h)]
    obtain ⟨x, r, e⟩ : ∃ x r, a = x :: r := by
      cases a with
      | nil => exact absurd rfl ha.ne
      | cons x r => exact ⟨x, r, rfl⟩
    have h1 : d + 1 ≤ x := ha.le x (by rw [e]; exact List.mem_cons_self)
    have h2 : x ≤ (B : Int) := hx x (List.mem_append_left _ (by rw [e]; exact List.mem_cons_self))
    rw [show ((B : Int) - d).toNat = ((B : Int) - (d + 1)).toNat + 1 by omega, Nat.pow_succ]
    omega
end Sl

/-! ### words in order: each at the first place behind that its length allows -/
namespace Sl
open PySem L2 Evl
/-- the first multiple of s from p on -/
def up (p s : Nat) : Nat := (p + s - 1) / s * s
def endO (p : Nat) : List Int → Nat
  | [] => p
  | l :: r => endO (up p (sz l) + sz l) r
def wordsO (p : Nat) : List Int → List (List Nat)
  | [] => []
  | l :: r => word (up p (sz l)) l :: wordsO (up p (sz l) + sz l) r
theorem up_le {p s : Nat} (h : 0 < s) : p ≤ up p s := by
  unfold up
  have h1 := Nat.div_add_mod (p + s - 1) s
  have h2 := Nat.mod_lt (p + s - 1) h
  rw [Nat.mul_comm] at h1
  omega
theorem up_mod (p s : Nat) : up p s = up p s / s * s := by
  unfold up
  rcases Nat.eq_zero_or_pos s with h | h
  · subst h; simp
  · rw [Nat.mul_div_cancel _ h]
/-- the same by the remainder -/
theorem up_eq {p s : Nat} (h : 0 < s) : up p s = if 0 < p % s then p + s - p % s else p := by
  unfold up
  have h1 := Nat.div_add_mod p s
  have h2 := Nat.mod_lt p h
  split
  · rename_i hp
    have e : (p + s - 1) / s = p / s + 1 := by
      rw [show p + s - 1 = (p % s - 1) + s * (p / s + 1) by rw [Nat.mul_add, Nat.mul_one]; omega, Nat.add_mul_div_left _ _ h, Nat.div_eq_of_lt (by omega)]
      omega
    rw [e, Nat.add_mul, Nat.one_mul, Nat.mul_comm]
    omega
  · rename_i hp
    have e : (p + s - 1) / s = p / s := by
      rw [show p + s - 1 = (s - 1) + s * (p / s) by omega, Nat.add_mul_div_left _ _ h, Nat.div_eq_of_lt (by omega)]
      omega
    rw [e, Nat.mul_comm]
    omega
theorem endO_le : ∀ (ls : List Int) (p : Nat), p ≤ endO p ls
  | [], p => Nat.le_refl p
  | l :: r, p => Nat.le_trans (Nat.le_trans (up_le (sz_pos l)) (Nat.le_add_right _ _)) (endO_le r _)
theorem endO_sum : ∀ (ls : List Int) (p : Nat), p + (ls.map sz).sum ≤ endO p ls
  | [], p => Nat.le_refl p
  | l :: r, p => by
    have h := endO_sum r (up p (sz l) + sz l)
    have k := up_le (p := p) (sz_pos l)
    show p + (sz l :: r.map sz).sum ≤ endO (up p (sz l) + sz l) r
    rw [List.sum_cons]
    omega
theorem endO_app : ∀ (a b : List Int) (p : Nat), endO p (a ++ b) = endO (endO p a) b
  | [], _, _ => rfl
  | l :: r, b, p => endO_app r b _
theorem wordsO_app : ∀ (a b : List Int) (p : Nat), wordsO p (a ++ b) = wordsO p a ++ wordsO (endO p a) b
  | [], _, _ => rfl
  | l :: r, b, p => by
    show word _ l :: wordsO _ (r ++ b) = word _ l :: (wordsO _ r ++ wordsO (endO _ r) b)
    rw [wordsO_app r b]
theorem wordsO_len : ∀ (ls : List Int) (p : Nat), (wordsO p ls).length = ls.length
  | [], _ => rfl
  | l :: r, p => congrArg (· + 1) (wordsO_len r _)
theorem endO_take (ls : List Int) (i : Nat) : endO 0 (ls.take i) ≤ endO 0 ls := by
  conv => rhs; rw [← List.take_append_drop i ls, endO_app]
  exact endO_le _ _
theorem endO_step {ls : List Int} {i : Nat} {l : Int} (h : ls[i]? = some l) : endO 0 (ls.take (i + 1)) = up (endO 0 (ls.take i)) (sz l) + sz l := by
  rw [List.take_add_one, h, endO_app]
  rfl
theorem wordsO_step {ls : List Int} {i : Nat} {l : Int} (h : ls[i]? = some l) : wordsO 0 (ls.take (i + 1)) = wordsO 0 (ls.take i) ++ [word (up (endO 0 (ls.take i)) (sz l)) l] := by
  rw [List.take_add_one, h, wordsO_app]
  rfl
theorem wordsO_at {ls : List Int} {i : Nat} {l : Int} (h : ls[i]? = some l) : (wordsO 0 ls)[i]? = some (word (up (endO 0 (ls.take i)) (sz l)) l) := by
  have hi := (List.getElem?_eq_some_iff.mp h).1
  have e : ls = ls.take i ++ l :: ls.drop (i + 1) := by
    have := (List.getElem?_eq_some_iff.mp h).2
    rw [← this, ← List.drop_eq_getElem_cons hi, List.take_append_drop]
  conv => lhs; rw [e, wordsO_app]
  rw [List.getElem?_append_right (by rw [wordsO_len, List.length_take]; omega), wordsO_len, List.length_take, show i - min i ls.length = 0 by omega]
  rfl
/-- places of an earlier sign lie ahead of a later one's -/
theorem placesO_lt {ls : List Int} {i j : Nat} {l m : Int} (hij : i < j) (hi : ls[i]? = some l) (hj : ls[j]? = some m) : up (endO 0 (ls.take i)) (sz l) + sz l ≤ up (endO 0 (ls.take j)) (sz m) := by
  have h1 := endO_step hi
  have h2 : endO 0 (ls.take (i + 1)) ≤ endO 0 (ls.take j) := by
    have := endO_take (ls.take j) (i + 1)
    rw [List.take_take, Nat.min_eq_left (by omega)] at this
    exact this
  have h3 := up_le (p := endO 0 (ls.take j)) (sz_pos m)
  omega
/-- two words at places whose quotients differ -/
theorem word_apartQ {p r : Nat} {l m : Int} (hl : 1 ≤ l) (hm : m ≤ 12) (hlm : l ≤ m) (hp : p < 4096) (hr : r < 4096) (h : p / sz l ≠ r / sz l) : (word r m).take l.toNat ≠ word p l := by
  intro e
  have l2 : l ≤ 12 := by omega
  have e1 : (word r m).take l.toNat = word r l := by
    unfold word
    rw [List.take_take, Nat.min_eq_left (by omega)]
  rw [e1, word_eq (by omega) l2, word_eq (by omega) l2] at e
  have e4096 : sz l * 2 ^ l.toNat = 4096 := by
    unfold sz
    rw [← Nat.pow_add]
    have : (12 - l).toNat + l.toNat = 12 := by omega
    rw [this]
  have b1 : p / sz l < 2 ^ l.toNat := Nat.div_lt_of_lt_mul (by rw [e4096]; exact hp)
  have b2 : r / sz l < 2 ^ l.toNat := Nat.div_lt_of_lt_mul (by rw [e4096]; exact hr)
  exact h (bits_inj _ b2 b1 e).symm
theorem wordsO_apart {ls : List Int} (h : LensOk ls) (hs : endO 0 ls ≤ 4096) {i j : Nat} {u v : List Nat} (hij : i ≠ j) (hu : (wordsO 0 ls)[i]? = some u) (hv : (wordsO 0 ls)[j]? = some v) : v.take u.length ≠ u := by
  have hi : i < ls.length := by
    have := (List.getElem?_eq_some_iff.mp hu).1
    rw [wordsO_len] at this
    exact this
  have hj : j < ls.length := by
    have := (List.getElem?_eq_some_iff.mp hv).1
    rw [wordsO_len] at this
    exact this
  have gi := List.getElem?_eq_getElem hi
  have gj := List.getElem?_eq_getElem hj
  obtain ⟨l, hl⟩ : ∃ l, l = ls[i] := ⟨_, rfl⟩
  obtain ⟨m, hm⟩ : ∃ m, m = ls[j] := ⟨_, rfl⟩
  rw [← hl] at gi
  rw [← hm] at gj
  have li := h l (List.mem_of_getElem? gi)
  have mj := h m (List.mem_of_getElem? gj)
  have eu : u = _ := Option.some.inj (hu.symm.trans (wordsO_at gi))
  have ev : v = _ := Option.some.inj (hv.symm.trans (wordsO_at gj))
  have bi : up (endO 0 (ls.take i)) (sz l) + sz l ≤ 4096 := by
    rw [← endO_step gi]
    exact Nat.le_trans (endO_take ls _) hs
  have bj : up (endO 0 (ls.take j)) (sz m) + sz m ≤ 4096 := by
    rw [← endO_step gj]
    exact Nat.le_trans (endO_take ls _) hs
  have pl := sz_pos l
  have pm := sz_pos m
  have lu : u.length = l.toNat := by rw [eu]; exact word_len (by omega) li.2
  have lv : v.length = m.toNat := by rw [ev]; exact word_len (by omega) mj.2
  by_cases hlm : l ≤ m
  · rw [lu, ev, eu]
    refine word_apartQ li.1 mj.2 hlm (by omega) (by omega) ?_
    rcases Nat.lt_or_gt_of_ne hij with q | q
    · have := placesO_lt q gi gj
      have : (up (endO 0 (ls.take i)) (sz l) + sz l) / sz l ≤ up (endO 0 (ls.take j)) (sz m) / sz l := Nat.div_le_div_right this
      rw [Nat.add_div_right _ pl] at this
      omega
    · have k := placesO_lt q gj gi
      have e := up_mod (endO 0 (ls.take i)) (sz l)
      have : up (endO 0 (ls.take j)) (sz m) / sz l < up (endO 0 (ls.take i)) (sz l) / sz l := by
        rw [Nat.div_lt_iff_lt_mul pl, ← e]
        omega
      omega
  · intro z
    have := congrArg List.length z
    rw [List.length_take, lu, lv] at this
    omega
/-! ### words rise as texts do -/
theorem bits_headO (i : Nat) : ∀ n, bits n (i + 1) = (48 + n / 2 ^ i % 2) :: bits n i := by
  induction i with
  | zero => intro n; show [] ++ [48 + n % 2] = _; rw [Nat.pow_zero, Nat.div_one]; rfl
  | succ i ih =>
    intro n
    show bits (n / 2) (i + 1) ++ [48 + n % 2] = _
    rw [ih, Nat.div_div_eq_div_mul, Nat.pow_succ, Nat.mul_comm (2 ^ i) 2]
    rfl
theorem bits_modO : ∀ (k n : Nat), bits (n % 2 ^ k) k = bits n k
  | 0, _ => rfl
  | k + 1, n => by
    show bits (n % 2 ^ (k + 1) / 2) k ++ [48 + n % 2 ^ (k + 1) % 2] = bits (n / 2) k ++ [48 + n % 2]
    have e1 : n % 2 ^ (k + 1) / 2 = n / 2 % 2 ^ k := by
      rw [Nat.pow_succ, Nat.mul_comm (2 ^ k) 2]
      exact Nat.mod_mul_right_div_self n 2 (2 ^ k)
    have e2 : n % 2 ^ (k + 1) % 2 = n % 2 := Nat.mod_mod_of_dvd n (by rw [Nat.pow_succ]; exact Nat.dvd_mul_left 2 _)
    rw [e1, e2, bits_modO k]
theorem bits_lt : ∀ (k n m : Nat), n < m → m < 2 ^ k → bits n k < bits m k
  | 0, n, m, h1, h2 => by rw [Nat.pow_zero] at h2; omega
  | k + 1, n, m, h1, h2 => by
    rw [bits_headO, bits_headO]
    have pk : 0 < 2 ^ k := Nat.pow_pos (by decide)
    have tn : n / 2 ^ k < 2 := Nat.div_lt_of_lt_mul (by rw [Nat.pow_succ] at h2; omega)
    have tm : m / 2 ^ k < 2 := Nat.div_lt_of_lt_mul (by rw [Nat.pow_succ] at h2; omega)
    have le : n / 2 ^ k ≤ m / 2 ^ k := Nat.div_le_div_right (Nat.le_of_lt h1)
    rw [Nat.mod_eq_of_lt tn, Nat.mod_eq_of_lt tm]
    rcases Nat.lt_or_eq_of_le le with q | q
    · exact List.Lex.rel (by omega)
    · rw [q, ← bits_modO k n, ← bits_modO k m]
      refine List.Lex.cons (bits_lt k _ _ ?_ (Nat.mod_lt _ pk))
      have e1 := Nat.div_add_mod n (2 ^ k)
      have e2 := Nat.div_add_mod m (2 ^ k)
      rw [q] at e1
      omega
/-- of two lists that differ, one less: so are beginnings of them that are no beginnings of each other -/
theorem take_lt : ∀ {A B : List Nat} {a b : Nat}, A < B → (B.take b).take (A.take a).length ≠ A.take a → (A.take a).take (B.take b).length ≠ B.take b → A.take a < B.take b
  | [], B, a, b, h, h1, _ => by
    exact absurd (by simp) h1
  | x :: A, [], a, b, h, _, _ => by cases h
  | x :: A, y :: B, 0, b, h, h1, _ => absurd (by simp) h1
  | x :: A, y :: B, a + 1, 0, h, _, h2 => absurd (by simp) h2
  | x :: A, y :: B, a + 1, b + 1, h, h1, h2 => by
    show x :: A.take a < y :: B.take b
    cases h with
    | rel h => exact List.Lex.rel h
    | cons h =>
      refine List.Lex.cons (take_lt h (fun z => h1 ?_) (fun z => h2 ?_))
      · show x :: (B.take b).take (A.take a).length = x :: A.take a
        rw [z]
      · show x :: (A.take a).take (B.take b).length = x :: B.take b
        rw [z]
theorem wordsO_rise {ls : List Int} (h : LensOk ls) (hs : endO 0 ls ≤ 4096) : (wordsO 0 ls).Pairwise (· < ·) := by
  rw [List.pairwise_iff_getElem]
  intro i j hi hj hij
  have gi := List.getElem?_eq_getElem hi
  have gj := List.getElem?_eq_getElem hj
  have a1 := wordsO_apart h hs (Nat.ne_of_lt hij) gi gj
  have a2 := wordsO_apart h hs (Nat.ne_of_gt hij) gj gi
  rw [wordsO_len] at hi hj
  have li := wordsO_at (List.getElem?_eq_getElem hi)
  have lj := wordsO_at (List.getElem?_eq_getElem hj)
  rw [gi] at li
  rw [gj] at lj
  have ei := Option.some.inj li
  have ej := Option.some.inj lj
  rw [ei, ej] at a1 a2 ⊢
  unfold word at a1 a2 ⊢
  refine take_lt (bits_lt 12 _ _ ?_ ?_) a1 a2
  · have := placesO_lt hij (List.getElem?_eq_getElem hi) (List.getElem?_eq_getElem hj)
    have := sz_pos ls[i]
    omega
  · have b := endO_step (List.getElem?_eq_getElem hj)
    have c := endO_take ls (j + 1)
    have := sz_pos ls[j]
    show _ < 4096
    omega
theorem wordsO_small {ls : List Int} (h : LensOk ls) : ∀ u ∈ wordsO 0 ls, (∀ c ∈ u, c < 0x110000) ∧ u.length ≤ 12 := by
  intro u hu
  obtain ⟨i, hi, rfl⟩ := List.getElem_of_mem hu
  have gi := List.getElem?_eq_getElem hi
  rw [wordsO_len] at hi
  have li := wordsO_at (List.getElem?_eq_getElem hi)
  rw [gi] at li
  rw [Option.some.inj li]
  have hl := h ls[i] (List.getElem_mem hi)
  refine ⟨fun c hc => ?_, ?_⟩
  · unfold word at hc
    exact bits_small (List.mem_of_mem_take hc)
  · rw [word_len (by omega) hl.2]
    omega
/-! ### sorted of texts that rise -/
theorem rising_pairs : ∀ (p : Str) (l : List Str), PyProof.Rows.sortedS (p :: l) = true → (p :: l).Pairwise fun a b => ¬ b.cps.toList < a.cps.toList
  | p, [], _ => List.pairwise_singleton _ _
  | p, x :: r, h => by
    have h' : (!PySem.Spec.ltCps x.cps.toList p.cps.toList && PyProof.Rows.sortedS (x :: r)) = true := h
    rw [Bool.and_eq_true] at h'
    have ih := rising_pairs x r h'.2
    have h1 : ¬ x.cps.toList < p.cps.toList := by
      have := h'.1
      rw [PyProof.Rows.ltCps_eq] at this
      simpa using this
    refine List.pairwise_cons.mpr ⟨fun y hy => ?_, ih⟩
    rcases List.mem_cons.mp hy with rfl | hy
    · exact h1
    · have h2 := (List.pairwise_cons.mp ih).1 y hy
      exact List.le_trans (l₁ := p.cps.toList) (l₂ := x.cps.toList) (l₃ := y.cps.toList) h1 h2
theorem sorted_same {ws : List (List Nat)} (h : ws.Pairwise (· < ·)) {ys : List Str} (hp : ys.Perm (ws.map tx)) (hs : PyProof.Rows.sortedS ys = true) : ys = ws.map tx := by
  refine List.Perm.eq_of_pairwise (le := fun a b : Str => ¬ b.cps.toList < a.cps.toList) (fun a b ha hb h1 h2 => ?_) ?_ ?_ hp
  · have e : a.cps.toList = b.cps.toList := List.le_antisymm h1 h2
    obtain ⟨u, _, rfl⟩ := List.mem_map.mp (hp.mem_iff.mp ha)
    obtain ⟨v, _, rfl⟩ := List.mem_map.mp hb
    have e' : u = v := e
    rw [e']
  · cases ys with
    | nil => exact List.Pairwise.nil
    | cons p l => exact rising_pairs p l hs
  · rw [List.pairwise_map]
    refine List.Pairwise.imp (fun {a b} k => ?_) h
    show ¬ b < a
    exact fun z => List.lt_irrefl a (List.lt_trans k z)
theorem el_sortedS {K : PySem.W.Frag} {σ : L2.St} {H : Hp} {ta : TE} {a : Addr} {ws : List (List Nat)} (ha : Ev ta σ H (.ref a)) (hS : SqL K H a (ws.map vtx)) (hl : ws.length < 64) (h : ws.Pairwise (· < ·)) : EvL (tCB (rSortedS K) (tCons ta tNil)) σ H (ws.map vtx) := fun H1 e Q q =>
  ha H1 e _ fun H2 e2 => ⟨a, ws.map tx, rfl, by
    rw [List.map_map]
    exact ex_l (e.trans e2) hS, by rw [List.length_map]; exact hl, fun ys p hp hs hn => by
    rw [sorted_same h hp hs, List.map_map]
    exact q p _ (fresh_back e2 hn) (e2.trans (Ex.new hn)) upd_same⟩

end Sl

/-! ### the table of weights in order: least sums of runs, and how runs are parted -/
namespace Sl
/-- the run's weights together -/
def sumR (ws : List Nat) (f l : Nat) : Nat := ((ws.take l).drop f).sum
def bestOf : List (Option Nat) → Option Nat
  | [] => none
  | none :: r => bestOf r
  | some a :: r => match bestOf r with
    | none => some a
    | some b => some (min a b)
def both : Option Nat → Option Nat → Option Nat
  | some a, some b => some (a + b)
  | _, _ => none
def val (ws : List Nat) : Nat → Nat → Nat → Option Nat
  | 0, f, l => if l ≤ f + 1 then some 0 else none
  | d + 1, f, l => if l ≤ f + 1 then some 0 else (bestOf ((List.range (l - f - 1)).map fun i => both (val ws d f (f + 1 + i)) (val ws d (f + 1 + i) l))).map (sumR ws f l + ·)
def ways (ws : List Nat) (d f l : Nat) : List (Option Nat) := (List.range (l - f - 1)).map fun i => both (val ws d f (f + 1 + i)) (val ws d (f + 1 + i) l)
theorem val_more (ws : List Nat) {d f l : Nat} (h : ¬ l ≤ f + 1) : val ws (d + 1) f l = (bestOf (ways ws d f l)).map (sumR ws f l + ·) := by
  show (if l ≤ f + 1 then some 0 else _) = _
  rw [if_neg h]
  rfl
theorem val_one (ws : List Nat) {f l : Nat} (h : l ≤ f + 1) : ∀ d, val ws d f l = some 0
  | 0 => by show (if l ≤ f + 1 then some 0 else none) = _; rw [if_pos h]
  | d + 1 => by show (if l ≤ f + 1 then some 0 else _) = _; rw [if_pos h]
theorem bestOf_mem : ∀ {l : List (Option Nat)} {b : Nat}, bestOf l = some b → some b ∈ l
  | none :: r, b, h => List.mem_cons_of_mem _ (bestOf_mem (l := r) h)
  | some a :: r, b, h => by
    unfold bestOf at h
    cases e : bestOf r with
    | none =>
      rw [e] at h
      rw [← h]
      exact List.mem_cons_self
    | some c =>
      rw [e] at h
      have h' : min a c = b := Option.some.inj h
      by_cases q : a ≤ c
      · rw [Nat.min_eq_left q] at h'
        rw [h']
        exact List.mem_cons_self
      · rw [Nat.min_eq_right (by omega)] at h'
        rw [← h']
        exact List.mem_cons_of_mem _ (bestOf_mem e)
theorem bestOf_le : ∀ {l : List (Option Nat)} {a : Nat}, some a ∈ l → ∃ b, bestOf l = some b ∧ b ≤ a
  | none :: r, a, h => by
    rcases List.mem_cons.mp h with h | h
    · cases h
    · exact bestOf_le (l := r) h
  | some c :: r, a, h => by
    unfold bestOf
    rcases List.mem_cons.mp h with h | h
    · cases h
      cases e : bestOf r with
      | none => exact ⟨c, rfl, Nat.le_refl _⟩
      | some b => exact ⟨min c b, rfl, Nat.min_le_left _ _⟩
    · obtain ⟨b, hb, hle⟩ := bestOf_le (l := r) h
      rw [hb]
      exact ⟨min c b, rfl, Nat.le_trans (Nat.min_le_right _ _) hle⟩
theorem bestOf_none {l : List (Option Nat)} (h : ∀ o ∈ l, o = none) : bestOf l = none := by
  cases e : bestOf l with
  | none => rfl
  | some b => exact absurd (h _ (bestOf_mem e)) (by simp)
theorem both_some {x y : Option Nat} {c : Nat} (h : both x y = some c) : ∃ a b, x = some a ∧ y = some b ∧ c = a + b := by
  cases x with
  | none => cases h
  | some a =>
    cases y with
    | none => cases h
    | some b => exact ⟨a, b, rfl, rfl, (Option.some.inj h).symm⟩
/-- there is a value just where the depth's room has a place for each sign -/
theorem val_some (ws : List Nat) : ∀ (d f l : Nat), f < l → ((∃ v, val ws d f l = some v) ↔ l - f ≤ 2 ^ d)
  | 0, f, l, h => by
    show (∃ v, (if l ≤ f + 1 then some 0 else none) = some v) ↔ _
    by_cases q : l ≤ f + 1
    · rw [if_pos q]
      exact ⟨fun _ => by rw [Nat.pow_zero]; omega, fun _ => ⟨0, rfl⟩⟩
    · rw [if_neg q]
      exact ⟨fun h => (by obtain ⟨v, h⟩ := h; cases h), fun h => (by rw [Nat.pow_zero] at h; omega)⟩
  | d + 1, f, l, h => by
    by_cases q : l ≤ f + 1
    · rw [val_one ws q]
      exact ⟨fun _ => by have := Nat.pow_pos (n := d + 1) (show 0 < 2 by decide); omega, fun _ => ⟨0, rfl⟩⟩
    · rw [val_more ws q, Nat.pow_succ]
      constructor
      · rintro ⟨v, hv⟩
        obtain ⟨b, hb, _⟩ := Option.map_eq_some_iff.mp hv
        obtain ⟨i, hi, e⟩ := List.mem_map.mp (bestOf_mem hb)
        have hi := List.mem_range.mp hi
        obtain ⟨x, y, h1, h2, _⟩ := both_some e
        have k1 := (val_some ws d f (f + 1 + i) (by omega)).mp ⟨x, h1⟩
        have k2 := (val_some ws d (f + 1 + i) l (by omega)).mp ⟨y, h2⟩
        omega
      · intro hl
        have pos := Nat.pow_pos (n := d) (show 0 < 2 by decide)
        obtain ⟨i, hi, k1, k2⟩ : ∃ i, i < l - f - 1 ∧ f + 1 + i - f ≤ 2 ^ d ∧ l - (f + 1 + i) ≤ 2 ^ d := by
          by_cases z : l - f - 1 ≤ 2 ^ d
          · exact ⟨l - f - 2, by omega, by omega, by omega⟩
          · exact ⟨2 ^ d - 1, by omega, by omega, by omega⟩
        obtain ⟨x, hx⟩ := (val_some ws d f (f + 1 + i) (by omega)).mpr k1
        obtain ⟨y, hy⟩ := (val_some ws d (f + 1 + i) l (by omega)).mpr k2
        obtain ⟨b, hb, _⟩ := bestOf_le (l := ways ws d f l) (a := x + y) (List.mem_map.mpr ⟨i, List.mem_range.mpr hi, by rw [hx, hy]; rfl⟩)
        exact ⟨_, by rw [hb]; rfl⟩
/-! where a run is parted -/
def mid (ws : List Nat) (d f l : Nat) : Nat := f + 1 + (ways ws d f l).findIdx fun o => o == bestOf (ways ws d f l)
theorem mid_of {ws : List Nat} {d f l v : Nat} (q : ¬ l ≤ f + 1) (h : val ws (d + 1) f l = some v) : ∃ a b, f < mid ws d f l ∧ mid ws d f l < l ∧ val ws d f (mid ws d f l) = some a ∧ val ws d (mid ws d f l) l = some b ∧ v = sumR ws f l + (a + b) ∧
    ∀ m, f < m → m < mid ws d f l → ∀ x y, val ws d f m = some x → val ws d m l = some y → sumR ws f l + (x + y) ≠ v := by
  rw [val_more ws q] at h
  obtain ⟨b, hb, rfl⟩ := Option.map_eq_some_iff.mp h
  have hx : ∃ x ∈ ways ws d f l, (x == bestOf (ways ws d f l)) = true := ⟨some b, bestOf_mem hb, by rw [hb]; simp⟩
  have hlt := List.findIdx_lt_length_of_exists hx
  have hg := List.findIdx_getElem (w := hlt)
  have wl : (ways ws d f l).length = l - f - 1 := by unfold ways; rw [List.length_map, List.length_range]
  have at_ : ∀ (i : Nat) (hi : i < (ways ws d f l).length), (ways ws d f l)[i] = both (val ws d f (f + 1 + i)) (val ws d (f + 1 + i) l) := fun i hi => by
    have k : (ways ws d f l)[i]? = some (both (val ws d f (f + 1 + i)) (val ws d (f + 1 + i) l)) := by
      unfold ways
      rw [List.getElem?_map, List.getElem?_range (by omega)]
      rfl
    rw [List.getElem?_eq_getElem hi] at k
    exact Option.some.inj k
  have hge : (ways ws d f l)[(ways ws d f l).findIdx fun o => o == bestOf (ways ws d f l)] = some b := by
    rw [← hb]
    exact eq_of_beq hg
  rw [at_ _ hlt] at hge
  obtain ⟨x, y, h1, h2, h3⟩ := both_some hge
  refine ⟨x, y, by unfold mid; omega, by unfold mid; omega, h1, h2, by rw [h3], fun m m1 m2 x' y' g1 g2 e => ?_⟩
  have hi : m - f - 1 < (ways ws d f l).findIdx fun o => o == bestOf (ways ws d f l) := by
    unfold mid at m2
    omega
  have no := List.not_of_lt_findIdx hi
  rw [at_ _ (by omega), show f + 1 + (m - f - 1) = m by omega, g1, g2, hb] at no
  have t : (some (x' + y') == some b) = false := no
  have : x' + y' = b := by omega
  rw [this] at t
  simp at t
def cut (ws : List Nat) : Nat → Nat → Nat → List Nat
  | 0, f, l => List.replicate (l - f) 0
  | d + 1, f, l => if l ≤ f + 1 then List.replicate (l - f) 0 else (cut ws d f (mid ws d f l) ++ cut ws d (mid ws d f l) l).map (· + 1)
def dot : List Nat → List Nat → Nat
  | w :: ws, d :: ds => w * d + dot ws ds
  | _, _ => 0
theorem dot_app : ∀ (a : List Nat) (ws b : List Nat), dot ws (a ++ b) = dot ws a + dot (ws.drop a.length) b
  | [], ws, b => by
    show dot ws b = dot ws [] + dot ws b
    cases ws <;> simp [dot]
  | x :: a, [], b => by simp [dot]
  | x :: a, w :: ws, b => by
    show w * x + dot ws (a ++ b) = w * x + dot ws a + dot (ws.drop a.length) b
    rw [dot_app a ws b]
    omega
theorem dot_up : ∀ (a ws : List Nat), dot ws (a.map (· + 1)) = dot ws a + (ws.take a.length).sum
  | [], ws => by cases ws <;> rfl
  | x :: a, [] => rfl
  | x :: a, w :: ws => by
    show w * (x + 1) + dot ws (a.map (· + 1)) = w * x + dot ws a + (w :: ws.take a.length).sum
    rw [dot_up a ws, List.sum_cons, Nat.mul_add]
    omega
theorem dot_zero : ∀ (n : Nat) (ws : List Nat), dot ws (List.replicate n 0) = 0
  | 0, ws => by cases ws <;> rfl
  | n + 1, [] => rfl
  | n + 1, w :: ws => by
    show w * 0 + dot ws (List.replicate n 0) = 0
    rw [dot_zero n ws]
    rfl
theorem sumR_eq (ws : List Nat) (f l : Nat) : sumR ws f l = ((ws.drop f).take (l - f)).sum := by
  unfold sumR
  rw [List.drop_take]
/-- what the lengths by parting weigh, and that they are the depths of a tree's leaves -/
theorem cut_all (ws : List Nat) : ∀ (d f l v : Nat), f < l → val ws d f l = some v → (cut ws d f l).length = l - f ∧ dot (ws.drop f) (cut ws d f l) = v ∧ (∀ x ∈ cut ws d f l, x ≤ d) ∧ ∀ e : Int, Leafs e ((cut ws d f l).map fun x : Nat => e + (x : Int))
  | 0, f, l, v, h, hv => by
    have q : l ≤ f + 1 := by
      by_cases q : l ≤ f + 1
      · exact q
      · have : (if l ≤ f + 1 then some 0 else none) = some v := hv
        rw [if_neg q] at this
        cases this
    rw [val_one ws q] at hv
    cases hv
    have e1 : l - f = 1 := by omega
    show (List.replicate (l - f) 0).length = _ ∧ _ ∧ (∀ x ∈ List.replicate (l - f) 0, x ≤ 0) ∧ ∀ e : Int, Leafs e ((List.replicate (l - f) 0).map _)
    rw [e1]
    refine ⟨rfl, ?_, fun x hx => by rw [List.eq_of_mem_replicate hx]; exact Nat.le_refl _, fun e => ?_⟩
    · show dot (ws.drop f) (List.replicate (l - f) 0) = 0
      exact dot_zero _ _
    · have := Leafs.leaf e
      rw [← Int.add_zero e] at this
      simpa using this
  | d + 1, f, l, v, h, hv => by
    by_cases q : l ≤ f + 1
    · rw [val_one ws q] at hv
      cases hv
      have e1 : l - f = 1 := by omega
      have ec : cut ws (d + 1) f l = List.replicate (l - f) 0 := by
        show (if l ≤ f + 1 then List.replicate (l - f) 0 else _) = _
        rw [if_pos q]
      rw [ec]
      refine ⟨by simp, dot_zero _ _, fun x hx => by rw [List.eq_of_mem_replicate hx]; exact Nat.zero_le _, fun e => ?_⟩
      rw [e1]
      have := Leafs.leaf e
      rw [← Int.add_zero e] at this
      simpa using this
    · obtain ⟨a, b, m1, m2, v1, v2, hvv, _⟩ := mid_of q hv
      have ec : cut ws (d + 1) f l = (cut ws d f (mid ws d f l) ++ cut ws d (mid ws d f l) l).map (· + 1) := by
        show (if l ≤ f + 1 then _ else _) = _
        rw [if_neg q]
      rw [ec]
      generalize mid ws d f l = m at *
      obtain ⟨l1, w1, b1, t1⟩ := cut_all ws d f m a m1 v1
      obtain ⟨l2, w2, b2, t2⟩ := cut_all ws d m l b m2 v2
      refine ⟨by rw [List.length_map, List.length_append, l1, l2]; omega, ?_, fun x hx => ?_, fun e => ?_⟩
      · rw [dot_up, dot_app, w1, l1, List.drop_drop, show f + (m - f) = m by omega, w2, List.length_append, l1, l2, hvv, sumR_eq, show m - f + (l - m) = l - f by omega]
        omega
      · obtain ⟨y, hy, rfl⟩ := List.mem_map.mp hx
        rcases List.mem_append.mp hy with hy | hy
        · have := b1 y hy; omega
        · have := b2 y hy; omega
      · have k1 := t1 (e + 1)
        have k2 := t2 (e + 1)
        have := Leafs.node k1 k2
        rw [← List.map_append] at this
        rw [List.map_map]
        have ef : ((fun x : Nat => e + (x : Int)) ∘ fun x => x + 1) = fun x : Nat => e + 1 + (x : Int) := by
          funext x
          show e + ((x + 1 : Nat) : Int) = _
          omega
        rw [ef]
        exact this
/-- no tree's leaves weigh less -/
theorem val_least (ws : List Nat) {B : Nat} {e : Int} {ds : List Int} (h : Leafs e ds) : ∀ (d f : Nat), e + (d : Int) = (B : Int) → 0 ≤ e → (∀ x ∈ ds, x ≤ (B : Int)) → f + ds.length ≤ ws.length →
    ∃ v, val ws d f (f + ds.length) = some v ∧ v + e.toNat * sumR ws f (f + ds.length) ≤ dot (ws.drop f) (ds.map Int.toNat) := by
  induction h with
  | leaf e =>
    intro d f hd he _ hl
    refine ⟨0, val_one ws (by simp) d, ?_⟩
    obtain ⟨w, hw⟩ : ∃ w, ws[f]? = some w := ⟨_, List.getElem?_eq_getElem (by simp at hl; omega)⟩
    have hd : ws.drop f = w :: ws.drop (f + 1) := by
      rw [← (List.getElem?_eq_some_iff.mp hw).2]
      exact List.drop_eq_getElem_cons _
    have es : sumR ws f (f + [e].length) = w := by
      rw [sumR_eq, hd, show f + [e].length - f = 1 by simp]
      simp
    rw [es, hd]
    show 0 + e.toNat * w ≤ w * e.toNat + dot _ []
    rw [Nat.mul_comm]
    omega
  | @node e a b ha hb ih1 ih2 =>
    intro d f hd he hx hl
    rw [List.length_append] at hl
    obtain ⟨x, r, ea⟩ : ∃ x r, a = x :: r := by
      cases a with
      | nil => exact absurd rfl ha.ne
      | cons x r => exact ⟨x, r, rfl⟩
    have g1 : e + 1 ≤ x := ha.le x (by rw [ea]; exact List.mem_cons_self)
    have g2 : x ≤ (B : Int) := hx x (List.mem_append_left _ (by rw [ea]; exact List.mem_cons_self))
    obtain ⟨d', rfl⟩ : ∃ d', d = d' + 1 := ⟨d - 1, by omega⟩
    obtain ⟨v1, k1, k2⟩ := ih1 d' f (by omega) (by omega) (fun x h => hx x (List.mem_append_left _ h)) (by omega)
    obtain ⟨v2, j1, j2⟩ := ih2 d' (f + a.length) (by omega) (by omega) (fun x h => hx x (List.mem_append_right _ h)) (by omega)
    have na : 0 < a.length := by rw [ea]; exact Nat.succ_pos _
    have nb : 0 < b.length := by
      cases b with
      | nil => exact absurd rfl hb.ne
      | cons x r => exact Nat.succ_pos _
    rw [List.length_append]
    have q : ¬ f + (a.length + b.length) ≤ f + 1 := by omega
    rw [Nat.add_assoc] at j1 j2
    obtain ⟨c, hc, hle⟩ := bestOf_le (l := ways ws d' f (f + (a.length + b.length))) (a := v1 + v2) (List.mem_map.mpr ⟨a.length - 1, List.mem_range.mpr (by omega), by rw [show f + 1 + (a.length - 1) = f + a.length by omega, k1, j1]; rfl⟩)
    refine ⟨sumR ws f (f + (a.length + b.length)) + c, by rw [val_more ws q, hc]; rfl, ?_⟩
    rw [List.map_append, dot_app, List.length_map, List.drop_drop]
    have es : sumR ws f (f + (a.length + b.length)) = sumR ws f (f + a.length) + sumR ws (f + a.length) (f + (a.length + b.length)) := by
      rw [sumR_eq, sumR_eq, sumR_eq, show f + (a.length + b.length) - f = a.length + b.length by omega, show f + a.length - f = a.length by omega, show f + (a.length + b.length) - (f + a.length) = b.length by omega, List.take_add, List.sum_append, List.drop_drop]
    have et : (e + 1).toNat = e.toNat + 1 := by omega
    rw [et, Nat.add_mul] at k2 j2
    rw [es, Nat.mul_add]
    omega
/-! leaves in their order take the places of a room one behind the other -/
def szB (B : Nat) (l : Int) : Nat := 2 ^ ((B : Int) - l).toNat
def endB (B : Nat) (p : Nat) : List Int → Nat
  | [] => p
  | l :: r => endB B (up p (szB B l) + szB B l) r
theorem endB_app (B : Nat) : ∀ (a b : List Int) (p : Nat), endB B p (a ++ b) = endB B (endB B p a) b
  | [], _, _ => rfl
  | l :: r, b, p => endB_app B r b _
theorem up_mul {s : Nat} (h : 0 < s) (k : Nat) : up (k * s) s = k * s := by
  rw [up_eq h, if_neg (by rw [Nat.mul_mod_left]; exact Nat.lt_irrefl _)]
theorem endB_leafs {B : Nat} {e : Int} {ds : List Int} (h : Leafs e ds) : ∀ k : Nat, (∀ x ∈ ds, x ≤ (B : Int)) → endB B (k * szB B e) ds = k * szB B e + szB B e := by
  induction h with
  | leaf e =>
    intro k _
    show up _ _ + _ = _
    rw [up_mul (s := szB B e) (Nat.pow_pos (by decide))]
  | @node e a b ha hb ih1 ih2 =>
    intro k hx
    obtain ⟨x, r, ea⟩ : ∃ x r, a = x :: r := by
      cases a with
      | nil => exact absurd rfl ha.ne
      | cons x r => exact ⟨x, r, rfl⟩
    have g1 : e + 1 ≤ x := ha.le x (by rw [ea]; exact List.mem_cons_self)
    have g2 : x ≤ (B : Int) := hx x (List.mem_append_left _ (by rw [ea]; exact List.mem_cons_self))
    have es : szB B e = 2 * szB B (e + 1) := by
      unfold szB
      rw [show ((B : Int) - e).toNat = ((B : Int) - (e + 1)).toNat + 1 by omega, Nat.pow_succ]
      omega
    have e1 : k * szB B e = (2 * k) * szB B (e + 1) := by
      rw [es, ← Nat.mul_assoc, Nat.mul_comm k 2]
    have e2 : (2 * k) * szB B (e + 1) + szB B (e + 1) = (2 * k + 1) * szB B (e + 1) := by rw [Nat.add_mul, Nat.one_mul]
    rw [endB_app, e1, ih1 (2 * k) fun x h => hx x (List.mem_append_left _ h), e2, ih2 (2 * k + 1) fun x h => hx x (List.mem_append_right _ h), es]
    rw [Nat.add_mul]
    omega
end Sl

/-! ### rows of packets: what they are, and that the first of the last row weigh least -/
namespace Sl
abbrev Pk := Nat × List Nat
/-- one packet put in place: behind all that weigh no more -/
def put : List Pk → Pk → List Pk
  | [], p => [p]
  | x :: r, p => if x.1 ≤ p.1 then x :: put r p else p :: x :: r
def mixed (a b : List Nat) : List Nat := (List.range 24).flatMap fun s => List.replicate (a.count s + b.count s) s
def pairsOf : List Pk → List Pk
  | x :: y :: r => (x.1 + y.1, mixed x.2 y.2) :: pairsOf r
  | _ => []
def alone (ws : List Nat) : List Pk := (List.range ws.length).map fun s => (ws.getD s 0, [s])
def firstRow (ws : List Nat) : List Pk := (alone ws).foldl put []
def rowOf (ws : List Nat) (ahead : List Pk) : List Pk := (pairsOf ahead).foldl put (firstRow ws)
/-- the k-th row, none for 0 -/
def rowP (ws : List Nat) : Nat → List Pk
  | 0 => []
  | k + 1 => rowOf ws (rowP ws k)
def SrtP (r : List Pk) : Prop := r.Pairwise fun x y => x.1 ≤ y.1
theorem put_perm : ∀ (r : List Pk) (p : Pk), (put r p).Perm (p :: r)
  | [], p => .refl _
  | x :: r, p => by
    unfold put
    split
    · exact ((put_perm r p).cons x).trans (.swap p x r)
    · exact .refl _
theorem put_srt : ∀ {r : List Pk} (p : Pk), SrtP r → SrtP (put r p)
  | [], p, _ => List.pairwise_singleton _ _
  | x :: r, p, h => by
    have h' := List.pairwise_cons.mp h
    unfold put
    split
    · rename_i hx
      refine List.pairwise_cons.mpr ⟨fun y hy => ?_, put_srt p h'.2⟩
      rcases List.mem_cons.mp ((put_perm r p).mem_iff.mp hy) with rfl | hy
      · exact hx
      · exact h'.1 y hy
    · rename_i hx
      refine List.pairwise_cons.mpr ⟨fun y hy => ?_, h⟩
      rcases List.mem_cons.mp hy with rfl | hy
      · omega
      · have := h'.1 y hy
        omega
theorem puts_srt : ∀ (ps : List Pk) {r : List Pk}, SrtP r → SrtP (ps.foldl put r)
  | [], _, h => h
  | p :: ps, _, h => puts_srt ps (put_srt p h)
theorem puts_perm : ∀ (ps r : List Pk), (ps.foldl put r).Perm (r ++ ps)
  | [], r => by rw [List.append_nil]; exact .refl _
  | p :: ps, r => by
    refine (puts_perm ps (put r p)).trans ?_
    refine ((put_perm r p).append_right ps).trans ?_
    exact List.perm_middle.symm
theorem firstRow_srt (ws : List Nat) : SrtP (firstRow ws) := puts_srt _ List.Pairwise.nil
theorem firstRow_perm (ws : List Nat) : (firstRow ws).Perm (alone ws) := puts_perm _ _
theorem firstRow_len (ws : List Nat) : (firstRow ws).length = ws.length := by
  rw [(firstRow_perm ws).length_eq]
  unfold alone
  rw [List.length_map, List.length_range]
theorem rowOf_srt (ws : List Nat) (r : List Pk) : SrtP (rowOf ws r) := puts_srt _ (firstRow_srt ws)
theorem rowP_srt (ws : List Nat) : ∀ k, SrtP (rowP ws k)
  | 0 => List.Pairwise.nil
  | _ + 1 => rowOf_srt ws _
theorem pairsOf_len : ∀ r : List Pk, (pairsOf r).length = r.length / 2
  | [] => rfl
  | [_] => by simp [pairsOf]
  | x :: y :: r => by
    show (pairsOf r).length + 1 = (r.length + 1 + 1) / 2
    rw [pairsOf_len r]
    omega
theorem pairsOf_take : ∀ (p : Nat) (r : List Pk), (pairsOf r).take p = pairsOf (r.take (2 * p))
  | 0, r => by rw [List.take_zero, Nat.mul_zero, List.take_zero]; rfl
  | p + 1, [] => by rw [List.take_nil]; rfl
  | p + 1, [x] => by
    show ([] : List Pk).take (p + 1) = pairsOf ([x].take (2 * p + 1 + 1))
    rfl
  | p + 1, x :: y :: r => by
    show (_ :: (pairsOf r).take p) = pairsOf ((x :: y :: r).take (2 * p + 1 + 1))
    rw [pairsOf_take p r]
    rfl
theorem pairsOf_srt : ∀ {r : List Pk}, SrtP r → SrtP (pairsOf r) := by
  have key : ∀ (n : Nat) (r : List Pk), r.length ≤ n → SrtP r → SrtP (pairsOf r) ∧ ∀ z ∈ pairsOf r, ∀ m : Nat, (∀ u ∈ r, m ≤ u.1) → m + m ≤ z.1 := by
    intro n
    induction n with
    | zero =>
      intro r hr _
      have : r = [] := List.length_eq_zero_iff.mp (by omega)
      subst this
      exact ⟨List.Pairwise.nil, fun z hz => by cases hz⟩
    | succ n ih =>
      intro r hr hs
      match r, hr, hs with
      | [], _, _ => exact ⟨List.Pairwise.nil, fun z hz => by cases hz⟩
      | [_], _, _ => exact ⟨List.Pairwise.nil, fun z hz => by cases hz⟩
      | x :: y :: r, hr, hs =>
        have h1 := List.pairwise_cons.mp hs
        have h2 := List.pairwise_cons.mp h1.2
        obtain ⟨k1, k2⟩ := ih r (by simp at hr; omega) h2.2
        refine ⟨List.pairwise_cons.mpr ⟨fun z hz => ?_, k1⟩, fun z hz m hm => ?_⟩
        · have a := k2 z hz y.1 h2.1
          have b := h1.1 y List.mem_cons_self
          show x.1 + y.1 ≤ z.1
          omega
        · rcases List.mem_cons.mp hz with rfl | hz
          · have a := hm x List.mem_cons_self
            have b := hm y (List.mem_cons_of_mem _ List.mem_cons_self)
            show m + m ≤ x.1 + y.1
            omega
          · exact k2 z hz m fun u hu => hm u (List.mem_cons_of_mem _ (List.mem_cons_of_mem _ hu))
  intro r h
  exact (key r.length r (Nat.le_refl _) h).1
/-! one row laid into another, on equal weights the first's packets first -/
inductive Mg : List Pk → List Pk → List Pk → Prop
  | nil : Mg [] [] []
  | left {a as ps r} : (∀ p ∈ ps, a.1 ≤ p.1) → Mg as ps r → Mg (a :: as) ps (a :: r)
  | right {p as ps r} : (∀ a ∈ as, p.1 < a.1) → Mg as ps r → Mg as (p :: ps) (p :: r)
theorem Mg.self : ∀ A : List Pk, Mg A [] A
  | [] => .nil
  | _ :: r => .left (fun _ h => by cases h) (Mg.self r)
theorem Mg.put {A ps R : List Pk} (h : Mg A ps R) (hA : SrtP A) (p : Pk) (hp : ∀ q ∈ ps, q.1 ≤ p.1) : Mg A (ps ++ [p]) (put R p) := by
  induction h with
  | nil => exact .right (fun _ h => by cases h) .nil
  | @left a as ps r h1 h2 ih =>
    have hA' := List.pairwise_cons.mp hA
    unfold Sl.put
    split
    · rename_i ha
      refine .left (fun q hq => ?_) (ih hA'.2 hp)
      rcases List.mem_append.mp hq with hq | hq
      · exact h1 q hq
      · rw [List.mem_singleton.mp hq]
        exact ha
    · rename_i ha
      cases ps with
      | nil =>
        refine .right (fun x hx => ?_) (.left h1 h2)
        rcases List.mem_cons.mp hx with rfl | hx
        · omega
        · have := hA'.1 x hx
          omega
      | cons q qs =>
        have a1 := h1 q List.mem_cons_self
        have a2 := hp q List.mem_cons_self
        omega
  | @right q as ps r h1 h2 ih =>
    unfold Sl.put
    rw [if_pos (hp q List.mem_cons_self)]
    exact .right h1 (ih hA fun z hz => hp z (List.mem_cons_of_mem _ hz))
theorem Mg.puts {A : List Pk} (hA : SrtP A) : ∀ (qs ps R : List Pk), Mg A ps R → SrtP (ps ++ qs) → Mg A (ps ++ qs) (qs.foldl Sl.put R)
  | [], ps, R, h, _ => by rw [List.append_nil]; exact h
  | q :: qs, ps, R, h, hs => by
    have e : ps ++ q :: qs = (ps ++ [q]) ++ qs := by rw [List.append_assoc]; rfl
    have k := (List.pairwise_append.mp hs).2.2
    rw [e] at hs ⊢
    exact Mg.puts hA qs (ps ++ [q]) (Sl.put R q) (h.put hA q fun z hz => k z hz q List.mem_cons_self) hs
theorem Mg.split {A ps R : List Pk} (h : Mg A ps R) : ∀ t, t ≤ R.length → ∃ a p, a + p = t ∧ a ≤ A.length ∧ p ≤ ps.length ∧ (R.take t).Perm (A.take a ++ ps.take p) ∧ ∀ q, 0 < p → ps[p - 1]? = some q → ∀ x ∈ A.drop a, q.1 < x.1 := by
  induction h with
  | nil => exact fun t ht => ⟨0, 0, by simp at ht; omega, Nat.le_refl _, Nat.le_refl _, by simp, fun q h => absurd h (by decide)⟩
  | @left a as ps r h1 h2 ih =>
    intro t ht
    cases t with
    | zero => exact ⟨0, 0, rfl, Nat.zero_le _, Nat.zero_le _, .refl _, fun q h => absurd h (by decide)⟩
    | succ t =>
      obtain ⟨i, j, e, k1, k2, k3, k4⟩ := ih t (by simp at ht; omega)
      exact ⟨i + 1, j, by omega, by simp; omega, k2, k3.cons a, k4⟩
  | @right p as ps r h1 h2 ih =>
    intro t ht
    cases t with
    | zero => exact ⟨0, 0, rfl, Nat.zero_le _, Nat.zero_le _, .refl _, fun q h => absurd h (by decide)⟩
    | succ t =>
      obtain ⟨i, j, e, k1, k2, k3, k4⟩ := ih t (by simp at ht; omega)
      refine ⟨i, j + 1, by omega, k1, by simp; omega, (k3.cons p).trans List.perm_middle.symm, fun q _ hq x hx => ?_⟩
      cases j with
      | zero =>
        cases hq
        exact h1 x (List.mem_of_mem_drop hx)
      | succ j => exact k4 q (by omega) hq x hx
theorem Mg.len {A ps R : List Pk} (h : Mg A ps R) : R.length = A.length + ps.length := by
  induction h with
  | nil => rfl
  | left _ _ ih => simp; omega
  | right _ _ ih => simp; omega
theorem row_mg (ws : List Nat) {r : List Pk} (h : SrtP r) : Mg (firstRow ws) (pairsOf r) (rowOf ws r) := Mg.puts (firstRow_srt ws) _ [] _ (Mg.self _) (pairsOf_srt h)
theorem rowP_len (ws : List Nat) (k : Nat) : (rowP ws (k + 1)).length = ws.length + (rowP ws k).length / 2 := by
  show (rowOf ws (rowP ws k)).length = _
  rw [(row_mg ws (rowP_srt ws k)).len, firstRow_len, pairsOf_len]
/-- as many packets as can be needed -/
theorem rowP_many (ws : List Nat) : ∀ k, 2 * (ws.length * 2 ^ k) < ((rowP ws k).length + 1) * 2 ^ k + 2 * ws.length
  | 0 => by
    show 2 * (ws.length * 1) < (0 + 1) * 1 + 2 * ws.length
    omega
  | k + 1 => by
    have ih := rowP_many ws k
    rw [rowP_len, Nat.pow_succ]
    generalize (rowP ws k).length = r at *
    generalize 2 ^ k = x at *
    generalize ws.length = n at *
    have e1 : n * (x * 2) = 2 * (n * x) := by rw [← Nat.mul_assoc, Nat.mul_comm]
    have e2 : (n + r / 2 + 1) * (x * 2) = 2 * (n * x) + (2 * (r / 2) + 2) * x := by
      rw [show n + r / 2 + 1 = n + (r / 2 + 1) from Nat.add_assoc _ _ _, Nat.add_mul, e1, show 2 * (r / 2) + 2 = (r / 2 + 1) * 2 by omega, Nat.mul_assoc, Nat.mul_comm x 2]
    have e3 : (r + 1) * x ≤ (2 * (r / 2) + 2) * x := Nat.mul_le_mul_right x (by omega)
    rw [e1, e2]
    omega
/-! ### the signs in packets, and their weights -/
def sgP (r : List Pk) : List Nat := r.flatMap (·.2)
def wtP (r : List Pk) : Nat := (r.map (·.1)).sum
def GoodP (ws : List Nat) (p : Pk) : Prop := p.1 = (p.2.map fun s => ws.getD s 0).sum ∧ ∀ s ∈ p.2, s < ws.length
theorem count_reps (f : Nat → Nat) (s : Nat) : ∀ N : Nat, ((List.range N).flatMap fun i => List.replicate (f i) i).count s = if s < N then f s else 0
  | 0 => by simp
  | N + 1 => by
    rw [List.range_succ, List.flatMap_append, List.count_append, count_reps f s N, List.flatMap_cons, List.flatMap_nil, List.append_nil, List.count_replicate]
    by_cases h : s < N
    · rw [if_pos h, if_neg (by simp; omega), if_pos (by omega)]
      omega
    · rw [if_neg h]
      by_cases e : N = s
      · rw [if_pos (by simp [e]), if_pos (by omega), e]
        omega
      · rw [if_neg (by simp [e]), if_neg (by omega)]
theorem mixed_perm {a b : List Nat} (ha : ∀ s ∈ a, s < 24) (hb : ∀ s ∈ b, s < 24) : (mixed a b).Perm (a ++ b) := by
  rw [List.perm_iff_count]
  intro s
  unfold mixed
  rw [count_reps, List.count_append]
  split
  · rfl
  · rename_i h
    rw [List.count_eq_zero.mpr fun z => h (ha s z), List.count_eq_zero.mpr fun z => h (hb s z)]
theorem sgP_app (a b : List Pk) : sgP (a ++ b) = sgP a ++ sgP b := List.flatMap_append
theorem wtP_app (a b : List Pk) : wtP (a ++ b) = wtP a + wtP b := by
  unfold wtP
  rw [List.map_append, List.sum_append]
theorem sgP_perm {a b : List Pk} (h : a.Perm b) : (sgP a).Perm (sgP b) := h.flatMap_right _
theorem wtP_perm {a b : List Pk} (h : a.Perm b) : wtP a = wtP b := (h.map _).sum_nat
theorem good_pairsOf {ws : List Nat} (hn : ws.length ≤ 24) : ∀ {r : List Pk}, (∀ p ∈ r, GoodP ws p) → ∀ p ∈ pairsOf r, GoodP ws p
  | [], _, p, hp => by cases hp
  | [_], _, p, hp => by cases hp
  | x :: y :: r, h, p, hp => by
    rcases List.mem_cons.mp hp with rfl | hp
    · have gx := h x List.mem_cons_self
      have gy := h y (List.mem_cons_of_mem _ List.mem_cons_self)
      have pm := mixed_perm (a := x.2) (b := y.2) (fun s hs => Nat.lt_of_lt_of_le (gx.2 s hs) hn) (fun s hs => Nat.lt_of_lt_of_le (gy.2 s hs) hn)
      refine ⟨?_, fun s hs => ?_⟩
      · show x.1 + y.1 = ((mixed x.2 y.2).map _).sum
        rw [(pm.map _).sum_nat, List.map_append, List.sum_append, gx.1, gy.1]
      · rcases List.mem_append.mp (pm.mem_iff.mp hs) with hs | hs
        · exact gx.2 s hs
        · exact gy.2 s hs
    · exact good_pairsOf hn (fun z hz => h z (List.mem_cons_of_mem _ (List.mem_cons_of_mem _ hz))) p hp
theorem good_alone (ws : List Nat) : ∀ p ∈ alone ws, GoodP ws p := fun p hp => by
  obtain ⟨s, hs, rfl⟩ := List.mem_map.mp hp
  refine ⟨by simp, fun z hz => ?_⟩
  rw [List.mem_singleton.mp hz]
  exact List.mem_range.mp hs
theorem good_row {ws : List Nat} (hn : ws.length ≤ 24) : ∀ k, ∀ p ∈ rowP ws k, GoodP ws p
  | 0, p, hp => by cases hp
  | k + 1, p, hp => by
    have h := (puts_perm (pairsOf (rowP ws k)) (firstRow ws)).mem_iff.mp hp
    rcases List.mem_append.mp h with h | h
    · exact good_alone ws p ((firstRow_perm ws).mem_iff.mp h)
    · exact good_pairsOf hn (good_row hn k) p h
/-- what an even number of packets hold, their pairs hold -/
theorem sgP_pairs {ws : List Nat} (hn : ws.length ≤ 24) : ∀ {r : List Pk}, (∀ p ∈ r, GoodP ws p) → r.length % 2 = 0 → (sgP (pairsOf r)).Perm (sgP r) ∧ wtP (pairsOf r) = wtP r
  | [], _, _ => ⟨.refl _, rfl⟩
  | [_], _, h => absurd h (by simp)
  | x :: y :: r, h, he => by
    have gx := h x List.mem_cons_self
    have gy := h y (List.mem_cons_of_mem _ List.mem_cons_self)
    have pm := mixed_perm (a := x.2) (b := y.2) (fun s hs => Nat.lt_of_lt_of_le (gx.2 s hs) hn) (fun s hs => Nat.lt_of_lt_of_le (gy.2 s hs) hn)
    obtain ⟨k1, k2⟩ := sgP_pairs hn (r := r) (fun z hz => h z (List.mem_cons_of_mem _ (List.mem_cons_of_mem _ hz))) (by simp at he; omega)
    refine ⟨?_, ?_⟩
    · show (mixed x.2 y.2 ++ sgP (pairsOf r)).Perm (x.2 ++ (y.2 ++ sgP r))
      rw [← List.append_assoc]
      exact pm.append k1
    · show x.1 + y.1 + wtP (pairsOf r) = x.1 + (y.1 + wtP r)
      rw [k2]
      omega
theorem alone_sg (ws : List Nat) : sgP (alone ws) = List.range ws.length := by
  unfold sgP alone
  rw [List.flatMap_map]
  show (List.range ws.length).flatMap (fun s => [s]) = _
  induction List.range ws.length with
  | nil => rfl
  | cons a r ih => rw [List.flatMap_cons, ih]; rfl
theorem sg_first (ws : List Nat) : (sgP (firstRow ws)).Perm (List.range ws.length) := by
  rw [← alone_sg ws]
  exact sgP_perm (firstRow_perm ws)
theorem first_one {ws : List Nat} {x : Pk} (h : x ∈ firstRow ws) : ∃ s, s < ws.length ∧ x = (ws.getD s 0, [s]) := by
  obtain ⟨s, hs, e⟩ := List.mem_map.mp ((firstRow_perm ws).mem_iff.mp h)
  exact ⟨s, List.mem_range.mp hs, e.symm⟩
theorem sg_len {ws : List Nat} : ∀ {l : List Pk}, (∀ x ∈ l, x ∈ firstRow ws) → (sgP l).length = l.length
  | [], _ => rfl
  | x :: r, h => by
    obtain ⟨s, _, rfl⟩ := first_one (h x List.mem_cons_self)
    show (s :: sgP r).length = _
    rw [List.length_cons, sg_len fun z hz => h z (List.mem_cons_of_mem _ hz)]
    rfl
/-- a sign weighs no more than a packet with it -/
theorem le_sum_mem {f : Nat → Nat} : ∀ {l : List Nat} {s : Nat}, s ∈ l → f s ≤ (l.map f).sum
  | x :: r, s, h => by
    rw [List.map_cons, List.sum_cons]
    rcases List.mem_cons.mp h with rfl | h
    · omega
    · have := le_sum_mem (f := f) h
      omega
theorem srt_get {r : List Pk} (h : SrtP r) {i j : Nat} {x y : Pk} (hij : i ≤ j) (hx : r[i]? = some x) (hy : r[j]? = some y) : x.1 ≤ y.1 := by
  rcases Nat.lt_or_eq_of_le hij with q | q
  · obtain ⟨a, ea⟩ := List.getElem?_eq_some_iff.mp hx
    obtain ⟨b, eb⟩ := List.getElem?_eq_some_iff.mp hy
    have := List.pairwise_iff_getElem.mp h i j a b q
    rw [ea, eb] at this
    exact this
  · subst q
    rw [hx] at hy
    cases hy
    exact Nat.le_refl _
theorem pairs_at : ∀ {r : List Pk} {p : Nat} {q : Pk}, (pairsOf r)[p]? = some q → ∃ x y, r[2 * p]? = some x ∧ r[2 * p + 1]? = some y ∧ q.1 = x.1 + y.1
  | [], p, q, h => by cases h
  | [_], p, q, h => by cases h
  | x :: y :: r, 0, q, h => by
    cases h
    exact ⟨x, y, rfl, rfl, rfl⟩
  | x :: y :: r, p + 1, q, h => by
    obtain ⟨a, b, h1, h2, h3⟩ := pairs_at (r := r) (p := p) h
    exact ⟨a, b, h1, h2, h3⟩
/-- the first packets of a next row: some of the signs' own, and the first packets of the row ahead in twos; no sign whose own isn't among them stands in these -/
theorem row_step {ws : List Nat} (hn : ws.length ≤ 24) {k t : Nat} (ht : t ≤ (rowP ws (k + 1)).length) : ∃ a p, a + p = t ∧ a ≤ ws.length ∧ 2 * p ≤ (rowP ws k).length ∧
    wtP ((rowP ws (k + 1)).take t) = wtP ((firstRow ws).take a) + wtP ((rowP ws k).take (2 * p)) ∧
    (∀ s, (sgP ((rowP ws (k + 1)).take t)).count s = (sgP ((firstRow ws).take a)).count s + (sgP ((rowP ws k).take (2 * p))).count s) ∧
    ∀ s ∈ sgP ((firstRow ws).drop a), (sgP ((rowP ws k).take (2 * p))).count s = 0 := by
  obtain ⟨a, p, e, h1, h2, h3, h4⟩ := (row_mg ws (rowP_srt ws k)).split t ht
  rw [firstRow_len] at h1
  rw [pairsOf_len] at h2
  have hp : 2 * p ≤ (rowP ws k).length := by omega
  have hl : ((rowP ws k).take (2 * p)).length = 2 * p := by rw [List.length_take]; omega
  have hg : ∀ q ∈ (rowP ws k).take (2 * p), GoodP ws q := fun q hq => good_row hn k q (List.mem_of_mem_take hq)
  obtain ⟨k1, k2⟩ := sgP_pairs hn hg (by rw [hl]; omega)
  rw [pairsOf_take] at h3
  refine ⟨a, p, e, h1, hp, ?_, fun s => ?_, fun s hs => ?_⟩
  · have := wtP_perm h3
    rw [wtP_app, k2] at this
    exact this
  · have := (List.perm_iff_count.mp (sgP_perm h3)) s
    rw [sgP_app, List.count_append, List.perm_iff_count.mp k1 s] at this
    exact this
  · refine List.count_eq_zero.mpr fun hc => ?_
    obtain ⟨q, hq, hsq⟩ := List.mem_flatMap.mp hc
    obtain ⟨x, hx, hsx⟩ := List.mem_flatMap.mp hs
    obtain ⟨z, hz, rfl⟩ := first_one (List.mem_of_mem_drop hx)
    have es : s = z := List.mem_singleton.mp hsx
    subst es
    have gq := hg q hq
    have w1 : ws.getD s 0 ≤ q.1 := by
      rw [gq.1]
      exact le_sum_mem (f := fun s => ws.getD s 0) hsq
    obtain ⟨i, hi, eq⟩ := List.getElem_of_mem hq
    rw [hl] at hi
    cases p with
    | zero => omega
    | succ p =>
      have hpl : p < (pairsOf (rowP ws k)).length := by rw [pairsOf_len]; omega
      obtain ⟨q', hq'⟩ : ∃ q', (pairsOf (rowP ws k))[p]? = some q' := ⟨_, List.getElem?_eq_getElem hpl⟩
      have tie := h4 q' (Nat.succ_pos p) hq' _ hx
      obtain ⟨u, v, g1, g2, g3⟩ := pairs_at hq'
      have gi : (rowP ws k)[i]? = some q := by
        have := List.getElem?_eq_getElem (l := (rowP ws k).take (2 * (p + 1))) (by rw [hl]; exact hi)
        rw [eq, List.getElem?_take, if_pos hi] at this
        exact this
      have := srt_get (rowP_srt ws k) (show i ≤ 2 * p + 1 by omega) gi g2
      have t' : q'.1 < ws.getD s 0 := tie
      omega
/-! ### how often signs stand in the first packets: lengths of words -/
def oft (ws : List Nat) (k t s : Nat) : Nat := (sgP ((rowP ws k).take t)).count s
def sumN (n : Nat) (f : Nat → Nat) : Nat := ((List.range n).map f).sum
theorem sumN_first (ws : List Nat) (a : Nat) (f : Nat → Nat) : sumN ws.length f = ((sgP ((firstRow ws).take a)).map f).sum + ((sgP ((firstRow ws).drop a)).map f).sum := by
  unfold sumN
  rw [← ((sg_first ws).map f).sum_nat, ← List.sum_append, ← List.map_append, ← sgP_app, List.take_append_drop]
theorem sum_map_congr {l : List Nat} {f g : Nat → Nat} (h : ∀ s ∈ l, f s = g s) : (l.map f).sum = (l.map g).sum := by
  rw [List.map_congr_left h]
theorem sum_map_add {l : List Nat} {f g : Nat → Nat} : (l.map fun s => f s + g s).sum = (l.map f).sum + (l.map g).sum := by
  induction l with
  | nil => rfl
  | cons a r ih => simp only [List.map_cons, List.sum_cons, ih]; omega
theorem sum_map_const {l : List Nat} {c : Nat} : (l.map fun _ => c).sum = l.length * c := by
  induction l with
  | nil => simp
  | cons a r ih => rw [List.map_cons, List.sum_cons, ih, List.length_cons, Nat.add_mul]; omega
theorem first_nodup (ws : List Nat) : (sgP (firstRow ws)).Nodup := (sg_first ws).nodup_iff.mpr List.nodup_range
theorem take_once (ws : List Nat) (a s : Nat) : (sgP ((firstRow ws).take a)).count s ≤ 1 := by
  have h := List.nodup_iff_count.mp (first_nodup ws) s
  rw [← List.take_append_drop a (firstRow ws), sgP_app, List.count_append] at h
  omega
theorem take_in {ws : List Nat} {a s : Nat} (h : s ∈ sgP ((firstRow ws).take a)) : (sgP ((firstRow ws).take a)).count s = 1 := by
  have := take_once ws a s
  have := List.count_pos_iff.mpr h
  omega
theorem drop_out {ws : List Nat} {a s : Nat} (h : s ∈ sgP ((firstRow ws).drop a)) : (sgP ((firstRow ws).take a)).count s = 0 := by
  have k := List.nodup_iff_count.mp (first_nodup ws) s
  rw [← List.take_append_drop a (firstRow ws), sgP_app, List.count_append] at k
  have := List.count_pos_iff.mpr h
  omega
theorem oft_le {ws : List Nat} (hn : ws.length ≤ 24) (s : Nat) : ∀ (k t : Nat), t ≤ (rowP ws k).length → oft ws k t s ≤ k
  | 0, t, _ => by
    unfold oft
    show (sgP (([] : List Pk).take t)).count s ≤ 0
    rw [List.take_nil]
    exact Nat.le_refl _
  | k + 1, t, ht => by
    obtain ⟨a, p, _, _, h2, _, h4, _⟩ := row_step hn ht
    have := oft_le hn s k (2 * p) h2
    have := take_once ws a s
    unfold oft at *
    rw [h4 s]
    omega
/-- the places that are left -/
theorem oft_kraft {ws : List Nat} (hn : ws.length ≤ 24) : ∀ (k t : Nat), t ≤ (rowP ws k).length → 2 * sumN ws.length (fun s => 2 ^ (k - oft ws k t s)) + t * 2 ^ k = 2 * (ws.length * 2 ^ k)
  | 0, t, ht => by
    have e : t = 0 := Nat.le_zero.mp ht
    subst e
    unfold sumN
    rw [sum_map_congr (g := fun _ => 1) (fun s _ => by rw [Nat.zero_sub]), sum_map_const, List.length_range]
    omega
  | k + 1, t, ht => by
    obtain ⟨a, p, e, h1, h2, _, h4, h5⟩ := row_step hn ht
    have ih := oft_kraft hn k (2 * p) h2
    have lt : (sgP ((firstRow ws).take a)).length = a := by
      rw [sg_len fun x hx => List.mem_of_mem_take hx, List.length_take, firstRow_len]
      omega
    have ld : (sgP ((firstRow ws).drop a)).length = ws.length - a := by
      rw [sg_len fun x hx => List.mem_of_mem_drop hx, List.length_drop, firstRow_len]
    rw [sumN_first ws a] at ih ⊢
    have c1 : ((sgP ((firstRow ws).take a)).map fun s => 2 ^ (k + 1 - oft ws (k + 1) t s)).sum = ((sgP ((firstRow ws).take a)).map fun s => 2 ^ (k - oft ws k (2 * p) s)).sum := by
      refine sum_map_congr fun s hs => ?_
      have : oft ws (k + 1) t s = 1 + oft ws k (2 * p) s := by
        unfold oft
        rw [h4 s, take_in hs]
      rw [this]
      congr 1
      omega
    have c2 : ((sgP ((firstRow ws).drop a)).map fun s => 2 ^ (k + 1 - oft ws (k + 1) t s)).sum = ((sgP ((firstRow ws).drop a)).map fun s => 2 ^ (k - oft ws k (2 * p) s)).sum + (ws.length - a) * 2 ^ k := by
      rw [← ld, ← sum_map_const, ← sum_map_add]
      refine sum_map_congr fun s hs => ?_
      have z : oft ws k (2 * p) s = 0 := h5 s hs
      have : oft ws (k + 1) t s = 0 := by
        have := h4 s
        rw [drop_out hs] at this
        unfold oft at z ⊢
        omega
      rw [this, z, Nat.sub_zero, Nat.sub_zero, Nat.pow_succ]
      omega
    rw [c1, c2]
    generalize ((sgP ((firstRow ws).take a)).map fun s => 2 ^ (k - oft ws k (2 * p) s)).sum = u at *
    generalize ((sgP ((firstRow ws).drop a)).map fun s => 2 ^ (k - oft ws k (2 * p) s)).sum = v at *
    rw [Nat.pow_succ, ← e]
    obtain ⟨b, hb⟩ : ∃ b, ws.length = a + b := ⟨ws.length - a, by omega⟩
    rw [hb] at ih ⊢
    generalize 2 ^ k = x at *
    rw [show a + b - a = b by omega]
    have e1 : (a + p) * (x * 2) = 2 * (a * x) + 2 * (p * x) := by
      rw [← Nat.mul_assoc, Nat.add_mul]
      omega
    have e2 : (a + b) * (x * 2) = 2 * (a * x) + 2 * (b * x) := by
      rw [← Nat.mul_assoc, Nat.add_mul]
      omega
    have e3 : (a + b) * x = a * x + b * x := Nat.add_mul _ _ _
    have e4 : 2 * p * x = 2 * (p * x) := Nat.mul_assoc _ _ _
    omega
/-- the packets' weight is the signs' -/
theorem oft_weight {ws : List Nat} (hn : ws.length ≤ 24) (k t : Nat) : wtP ((rowP ws k).take t) = sumN ws.length fun s => ws.getD s 0 * oft ws k t s := by
  have gen : ∀ l : List Pk, (∀ q ∈ l, GoodP ws q) → wtP l = ((sgP l).map fun s => ws.getD s 0).sum ∧ ∀ s ∈ sgP l, s < ws.length := by
    intro l
    induction l with
    | nil => intro _; exact ⟨rfl, fun s h => by cases h⟩
    | cons q r ih =>
      intro h
      obtain ⟨k1, k2⟩ := ih fun z hz => h z (List.mem_cons_of_mem _ hz)
      have g := h q List.mem_cons_self
      refine ⟨?_, fun s hs => ?_⟩
      · show q.1 + wtP r = ((q.2 ++ sgP r).map _).sum
        rw [List.map_append, List.sum_append, ← k1, g.1]
      · rcases List.mem_append.mp (show s ∈ q.2 ++ sgP r from hs) with hs | hs
        · exact g.2 s hs
        · exact k2 s hs
  obtain ⟨k1, k2⟩ := gen ((rowP ws k).take t) fun q hq => good_row hn k q (List.mem_of_mem_take hq)
  rw [k1]
  unfold sumN oft
  generalize sgP ((rowP ws k).take t) = l at *
  -- a sum over a list is the sum over the numbers, each as often as it stands there
  have key : ∀ (l : List Nat) (N : Nat), (∀ s ∈ l, s < N) → (l.map fun s => ws.getD s 0).sum = ((List.range N).map fun s => ws.getD s 0 * l.count s).sum := by
    intro l
    induction l with
    | nil =>
      intro N _
      have : ((List.range N).map fun s => ws.getD s 0 * ([] : List Nat).count s).sum = ((List.range N).map fun _ => 0).sum := sum_map_congr fun s _ => Nat.mul_zero _
      rw [this, sum_map_const, Nat.mul_zero]
      rfl
    | cons a r ih =>
      intro N h
      rw [List.map_cons, List.sum_cons, ih N fun s hs => h s (List.mem_cons_of_mem _ hs)]
      have e : ((List.range N).map fun s => ws.getD s 0 * (a :: r).count s).sum = ((List.range N).map fun s => (if s = a then ws.getD a 0 else 0) + ws.getD s 0 * r.count s).sum := by
        refine sum_map_congr fun s _ => ?_
        rw [List.count_cons]
        by_cases z : a = s
        · subst z
          rw [if_pos (by simp), if_pos rfl, Nat.mul_add]
          omega
        · rw [if_neg (by simpa using z), if_neg (fun y => z y.symm), Nat.add_zero, Nat.zero_add]
      rw [e, sum_map_add]
      congr 1
      have hN := h a List.mem_cons_self
      have single : ∀ M : Nat, ((List.range M).map fun s => if s = a then ws.getD a 0 else 0).sum = if a < M then ws.getD a 0 else 0 := by
        intro M
        induction M with
        | zero => simp
        | succ M ihM =>
          rw [List.range_succ, List.map_append, List.sum_append, ihM]
          show _ + ((if M = a then ws.getD a 0 else 0) + 0) = _
          by_cases y : a < M
          · rw [if_pos y, if_neg (by omega), if_pos (by omega)]
            omega
          · by_cases y2 : M = a
            · rw [if_neg y, if_pos y2, if_pos (by omega)]
              omega
            · rw [if_neg y, if_neg y2, if_neg (by omega)]
      rw [single N, if_pos hN]
  exact key l ws.length k2
/-! ### no other lengths weigh less -/
theorem least_le : ∀ {M X Z : List Nat}, M.Pairwise (· ≤ ·) → (X ++ Z).Perm M → (M.take X.length).sum ≤ X.sum
  | [], X, Z, _, h => by
    have : X = [] := (List.append_eq_nil_iff.mp h.eq_nil).1
    subst this
    exact Nat.le_refl _
  | m :: M, X, Z, hs, h => by
    have hs' := List.pairwise_cons.mp hs
    cases X with
    | nil => exact Nat.zero_le _
    | cons x X =>
      by_cases hm : m ∈ x :: X
      · obtain ⟨X', hX⟩ : ∃ X', (x :: X).Perm (m :: X') := ⟨_, (List.perm_cons_erase hm)⟩
        have h2 : (X' ++ Z).Perm M := by
          have := (hX.append_right Z).symm.trans h
          exact this.cons_inv
        have ih := least_le hs'.2 h2
        rw [hX.sum_nat, hX.length_eq, List.length_cons, List.take_succ_cons, List.sum_cons, List.sum_cons]
        omega
      · have hz : m ∈ Z := by
          have := h.symm.mem_iff.mp (List.mem_cons_self (a := m) (l := M))
          rcases List.mem_append.mp this with q | q
          · exact absurd q hm
          · exact q
        obtain ⟨Z', hZ⟩ : ∃ Z', Z.Perm (m :: Z') := ⟨_, List.perm_cons_erase hz⟩
        have hx : x ∈ M := by
          rcases List.mem_cons.mp (h.mem_iff.mp (List.mem_append_left Z (List.mem_cons_self (a := x) (l := X)))) with q | q
          · exact absurd (q ▸ List.mem_cons_self) hm
          · exact q
        have h2 : (X ++ (x :: Z')).Perm M := by
          have a1 : ((x :: X) ++ Z).Perm (m :: (X ++ x :: Z')) := by
            refine ((List.Perm.refl (x :: X)).append hZ).trans ?_
            refine List.perm_middle.trans ?_
            exact (List.perm_middle.symm).cons m
          exact (a1.symm.trans h).cons_inv
        have ih := least_le hs'.2 h2
        have := hs'.1 x hx
        rw [List.length_cons, List.take_succ_cons, List.sum_cons, List.sum_cons]
        omega
theorem split_w (w c : Nat → Nat) : ∀ l : List Nat, (l.map fun s => w s * c s).sum = ((l.filter fun s => decide (1 ≤ c s)).map w).sum + (l.map fun s => w s * (c s - 1)).sum
  | [] => rfl
  | a :: r => by
    have ih := split_w w c r
    by_cases h : 1 ≤ c a
    · rw [List.filter_cons_of_pos (by simpa using h), List.map_cons, List.map_cons, List.map_cons, List.sum_cons, List.sum_cons, List.sum_cons, ih]
      have : w a * c a = w a + w a * (c a - 1) := by
        obtain ⟨d, hd⟩ : ∃ d, c a = d + 1 := ⟨c a - 1, by omega⟩
        rw [hd, Nat.mul_add, Nat.add_sub_cancel]
        omega
      omega
    · rw [List.filter_cons_of_neg (by simpa using h), List.map_cons, List.map_cons, List.sum_cons, List.sum_cons, ih]
      have z : c a = 0 := by omega
      rw [z]
      omega
theorem split_k (k : Nat) (c : Nat → Nat) : ∀ l : List Nat, (∀ s ∈ l, c s ≤ k + 1) → (l.map fun s => 2 ^ (k + 1 - c s)).sum + (l.filter fun s => decide (1 ≤ c s)).length * 2 ^ k = (l.map fun s => 2 ^ (k - (c s - 1))).sum + l.length * 2 ^ k
  | [], _ => rfl
  | a :: r, hc => by
    have ih := split_k k c r fun s hs => hc s (List.mem_cons_of_mem _ hs)
    have ha := hc a List.mem_cons_self
    by_cases h : 1 ≤ c a
    · rw [List.filter_cons_of_pos (by simpa using h), List.map_cons, List.map_cons, List.sum_cons, List.sum_cons, List.length_cons, List.length_cons, Nat.add_mul, Nat.add_mul, show k - (c a - 1) = k + 1 - c a by omega]
      omega
    · rw [List.filter_cons_of_neg (by simpa using h), List.map_cons, List.map_cons, List.sum_cons, List.sum_cons, List.length_cons, Nat.add_mul]
      have z : c a = 0 := by omega
      rw [z, Nat.sub_zero, Nat.zero_sub, Nat.sub_zero, Nat.pow_succ]
      omega
theorem ge_len {f : Nat → Nat} (h : ∀ s, 1 ≤ f s) : ∀ l : List Nat, l.length ≤ (l.map f).sum
  | [] => Nat.le_refl _
  | a :: r => by
    have := ge_len h r
    have := h a
    rw [List.map_cons, List.sum_cons, List.length_cons]
    omega
theorem alone_filter (ws : List Nat) (P : Nat → Bool) : (((List.range ws.length).filter P).map (fun s => ((ws.getD s 0, [s]) : Pk)) ++ ((List.range ws.length).filter fun s => !P s).map fun s => ((ws.getD s 0, [s]) : Pk)).Perm (alone ws) := by
  rw [← List.map_append]
  exact (List.filter_append_perm P _).map _
/-- whatever each sign's number of levels: if they leave no more places than t packets do, they weigh no less -/
theorem least_packets {ws : List Nat} : ∀ (k t : Nat) (c : Nat → Nat), (∀ s, s < ws.length → c s ≤ k) → 2 * sumN ws.length (fun s => 2 ^ (k - c s)) + t * 2 ^ k ≤ 2 * (ws.length * 2 ^ k) → wtP ((rowP ws k).take t) ≤ sumN ws.length fun s => ws.getD s 0 * c s
  | 0, t, c, _, _ => by
    show wtP (([] : List Pk).take t) ≤ _
    rw [List.take_nil]
    exact Nat.zero_le _
  | k + 1, t, c, hc, hk => by
    have hn : ∀ s ∈ List.range ws.length, c s ≤ k + 1 := fun s hs => hc s (List.mem_range.mp hs)
    obtain ⟨Y, hY⟩ : ∃ Y, Y = (List.range ws.length).filter fun s => decide (1 ≤ c s) := ⟨_, rfl⟩
    obtain ⟨N, hN⟩ : ∃ N, N = (List.range ws.length).filter fun s => !decide (1 ≤ c s) := ⟨_, rfl⟩
    have sk := split_k k c (List.range ws.length) hn
    have sw := split_w (fun s => ws.getD s 0) c (List.range ws.length)
    have pa := alone_filter ws fun s => decide (1 ≤ c s)
    rw [← hY] at sk sw pa
    rw [← hN] at pa
    rw [List.length_range] at sk
    unfold sumN at hk ⊢
    rw [sw]
    have row : (rowP ws (k + 1)).Perm (alone ws ++ pairsOf (rowP ws k)) := (puts_perm (pairsOf (rowP ws k)) (firstRow ws)).trans ((firstRow_perm ws).append_right _)
    have srt : ((rowP ws (k + 1)).map (·.1)).Pairwise (· ≤ ·) := List.pairwise_map.mpr (rowP_srt ws (k + 1))
    have yl : Y.length ≤ ws.length := by
      rw [hY]
      have := List.length_filter_le (fun s => decide (1 ≤ c s)) (List.range ws.length)
      rw [List.length_range] at this
      exact this
    -- the row's weights, taken so
    have way : ∀ X Z : List Pk, (X ++ Z).Perm (rowP ws (k + 1)) → wtP ((rowP ws (k + 1)).take X.length) ≤ wtP X := fun X Z h => by
      have := least_le srt (X := X.map (·.1)) (Z := Z.map (·.1)) (by rw [← List.map_append]; exact h.map _)
      rw [List.length_map, ← List.map_take] at this
      exact this
    have wY : ∀ l : List Nat, wtP (l.map fun s => ((ws.getD s 0, [s]) : Pk)) = (l.map fun s => ws.getD s 0).sum := fun l => by
      unfold wtP
      rw [List.map_map]
      rfl
    by_cases hty : t ≤ Y.length
    · have h := way ((Y.take t).map fun s => (ws.getD s 0, [s])) ((Y.drop t).map (fun s => ((ws.getD s 0, [s]) : Pk)) ++ (N.map (fun s => ((ws.getD s 0, [s]) : Pk)) ++ pairsOf (rowP ws k))) (by
        rw [← List.append_assoc, ← List.map_append, List.take_append_drop, ← List.append_assoc]
        exact (pa.append_right _).trans row.symm)
      rw [List.length_map, List.length_take, Nat.min_eq_left hty, wY] at h
      have e : (Y.map fun s => ws.getD s 0).sum = ((Y.take t).map fun s => ws.getD s 0).sum + ((Y.drop t).map fun s => ws.getD s 0).sum := by
        rw [← List.sum_append, ← List.map_append, List.take_append_drop]
      omega
    · obtain ⟨d, hd⟩ : ∃ d, t = Y.length + d := ⟨t - Y.length, by omega⟩
      have pos := Nat.pow_pos (n := k) (show 0 < 2 by decide)
      have hk2 : 2 * ((List.range ws.length).map fun s => 2 ^ (k - (c s - 1))).sum + (2 * d) * 2 ^ k ≤ 2 * (ws.length * 2 ^ k) := by
        rw [hd, Nat.pow_succ] at hk
        have e1 : (Y.length + d) * (2 ^ k * 2) = 2 * (Y.length * 2 ^ k) + 2 * (d * 2 ^ k) := by
          rw [← Nat.mul_assoc, Nat.add_mul]
          omega
        have e2 : ws.length * (2 ^ k * 2) = 2 * (ws.length * 2 ^ k) := by
          rw [← Nat.mul_assoc]
          omega
        have e3 : 2 * d * 2 ^ k = 2 * (d * 2 ^ k) := Nat.mul_assoc _ _ _
        omega
      have ih := least_packets k (2 * d) (fun s => c s - 1) (fun s hs => by have := hc s hs; omega) hk2
      have many := rowP_many ws k
      have ge := ge_len (f := fun s => 2 ^ (k - (c s - 1))) (fun s => Nat.pow_pos (by decide)) (List.range ws.length)
      rw [List.length_range] at ge
      have hd2 : 2 * d ≤ (rowP ws k).length := by
        refine Nat.le_of_lt_succ (Nat.lt_of_mul_lt_mul_right (a := 2 ^ k) ?_)
        rw [Nat.succ_eq_add_one]
        omega
      have h := way (Y.map (fun s => (ws.getD s 0, [s])) ++ (pairsOf (rowP ws k)).take d) (N.map (fun s => ((ws.getD s 0, [s]) : Pk)) ++ (pairsOf (rowP ws k)).drop d) (by
        refine List.Perm.trans ?_ row.symm
        refine List.Perm.trans ?_ (pa.append_right _)
        conv => rhs; rw [← List.take_append_drop d (pairsOf (rowP ws k))]
        rw [List.append_assoc, List.append_assoc]
        refine List.Perm.append_left _ ?_
        rw [← List.append_assoc, ← List.append_assoc]
        exact List.perm_append_comm.append_right _)
      rw [List.length_append, List.length_map, List.length_take, pairsOf_len, Nat.min_eq_left (by omega), ← hd, wtP_app, wY] at h
      have ev : wtP ((pairsOf (rowP ws k)).take d) = wtP ((rowP ws k).take (2 * d)) := by
        rw [pairsOf_take]
        have gen : ∀ (n : Nat) (r : List Pk), r.length ≤ n → r.length % 2 = 0 → wtP (pairsOf r) = wtP r := by
          intro n
          induction n with
          | zero =>
            intro r hr _
            have : r = [] := List.length_eq_zero_iff.mp (by omega)
            subst this
            rfl
          | succ n ih =>
            intro r hr he
            match r, hr, he with
            | [], _, _ => rfl
            | [_], _, he => exact absurd he (by simp)
            | x :: y :: r, hr, he =>
              show x.1 + y.1 + wtP (pairsOf r) = x.1 + (y.1 + wtP r)
              rw [ih r (by simp at hr; omega) (by simp at he; omega)]
              omega
        exact gen _ _ (Nat.le_refl _) (by rw [List.length_take]; omega)
      rw [ev] at h
      unfold sumN at ih
      omega
/-! ### the free lengths -/
def freeLens (ws : List Nat) (B : Nat) : List Nat := if ws.length < 2 then List.replicate ws.length 1 else (List.range ws.length).map (oft ws B (2 * ws.length - 2))
theorem row_enough {ws : List Nat} {B : Nat} (h : ws.length ≤ 2 ^ B) : 2 * ws.length - 2 ≤ (rowP ws B).length := by
  have := rowP_many ws B
  have pos := Nat.pow_pos (n := B) (show 0 < 2 by decide)
  have : (2 * ws.length) * 2 ^ B < ((rowP ws B).length + 3) * 2 ^ B := by
    rw [show (rowP ws B).length + 3 = ((rowP ws B).length + 1) + 2 by omega, Nat.add_mul (_ + 1), Nat.mul_assoc]
    omega
  have := Nat.lt_of_mul_lt_mul_right this
  omega
theorem free_room {ws : List Nat} {B : Nat} (hn : ws.length ≤ 24) (h2 : 2 ≤ ws.length) (h : ws.length ≤ 2 ^ B) : sumN ws.length (fun s => 2 ^ (B - oft ws B (2 * ws.length - 2) s)) = 2 ^ B := by
  have k := oft_kraft hn B _ (row_enough h)
  obtain ⟨m, hm⟩ : ∃ m, ws.length = m + 1 := ⟨ws.length - 1, by omega⟩
  have e1 : (2 * ws.length - 2) * 2 ^ B = 2 * (m * 2 ^ B) := by
    rw [show 2 * ws.length - 2 = 2 * m by omega, Nat.mul_assoc]
  have e2 : ws.length * 2 ^ B = m * 2 ^ B + 2 ^ B := by rw [hm, Nat.add_mul, Nat.one_mul]
  omega
theorem sum_ge_two {f : Nat → Nat} (hf : ∀ s, 1 ≤ f s) : ∀ {l : List Nat} {s : Nat}, s ∈ l → f s + (l.length - 1) ≤ (l.map f).sum
  | a :: r, s, h => by
    rw [List.map_cons, List.sum_cons, List.length_cons]
    rcases List.mem_cons.mp h with rfl | h
    · have := ge_len hf r
      omega
    · have := sum_ge_two hf h
      have := hf a
      have : 0 < r.length := List.length_pos_of_mem h
      omega
theorem free_within {ws : List Nat} {B : Nat} (hn : ws.length ≤ 24) (h2 : 2 ≤ ws.length) (h : ws.length ≤ 2 ^ B) {s : Nat} (hs : s < ws.length) : 1 ≤ oft ws B (2 * ws.length - 2) s ∧ oft ws B (2 * ws.length - 2) s ≤ B := by
  refine ⟨?_, oft_le hn s B _ (row_enough h)⟩
  refine Nat.pos_of_ne_zero fun z => ?_
  have k := free_room hn h2 h
  have g := sum_ge_two (f := fun s => 2 ^ (B - oft ws B (2 * ws.length - 2) s)) (fun s => Nat.pow_pos (by decide)) (List.mem_range.mpr hs)
  unfold sumN at k
  rw [k, List.length_range] at g
  have : 2 ^ (B - oft ws B (2 * ws.length - 2) s) = 2 ^ B := by rw [z, Nat.sub_zero]
  have g' : 2 ^ (B - oft ws B (2 * ws.length - 2) s) + (ws.length - 1) ≤ 2 ^ B := g
  omega
theorem free_least {ws : List Nat} {B : Nat} (hn : ws.length ≤ 24) (h2 : 2 ≤ ws.length) {m : Nat → Nat} (hm : ∀ s, s < ws.length → m s ≤ B) (hk : sumN ws.length (fun s => 2 ^ (B - m s)) ≤ 2 ^ B) :
    sumN ws.length (fun s => ws.getD s 0 * oft ws B (2 * ws.length - 2) s) ≤ sumN ws.length fun s => ws.getD s 0 * m s := by
  rw [← oft_weight hn]
  refine least_packets B _ m hm ?_
  obtain ⟨k, hk'⟩ : ∃ k, ws.length = k + 1 := ⟨ws.length - 1, by omega⟩
  have e1 : (2 * ws.length - 2) * 2 ^ B = 2 * (k * 2 ^ B) := by
    rw [show 2 * ws.length - 2 = 2 * k by omega, Nat.mul_assoc]
  have e2 : ws.length * 2 ^ B = k * 2 ^ B + 2 ^ B := by rw [hk', Nat.add_mul, Nat.one_mul]
  omega
end Sl
namespace Sl
theorem pairsOf_get : ∀ {r : List Pk} {k : Nat} {x y : Pk}, r[2 * k]? = some x → r[2 * k + 1]? = some y → (pairsOf r)[k]? = some (x.1 + y.1, mixed x.2 y.2)
  | [], k, x, y, h, _ => by simp at h
  | [_], 0, x, y, _, h => by simp at h
  | [_], k + 1, x, y, h, _ => by simp at h
  | a :: b :: r, 0, x, y, h1, h2 => by
    cases h1
    cases h2
    rfl
  | a :: b :: r, k + 1, x, y, h1, h2 => pairsOf_get (r := r) (k := k) h1 h2
theorem mixed_len {a b : List Nat} {n : Nat} (ha : a.length ≤ n) (hb : b.length ≤ n) : ∀ N : Nat, ((List.range N).flatMap fun s => List.replicate (a.count s + b.count s) s).length ≤ N * (2 * n)
  | 0 => by simp
  | N + 1 => by
    have ih := mixed_len ha hb N
    have c1 := List.count_le_length (a := N) (l := a)
    have c2 := List.count_le_length (a := N) (l := b)
    rw [List.range_succ, List.flatMap_append, List.length_append, List.flatMap_cons, List.flatMap_nil, List.append_nil, List.length_replicate, Nat.add_mul]
    omega
end Sl
namespace Sl
theorem rowP_len_le (ws : List Nat) : ∀ k, (rowP ws k).length ≤ 2 * ws.length
  | 0 => Nat.zero_le _
  | k + 1 => by
    have := rowP_len_le ws k
    rw [rowP_len]
    omega
theorem pairs_len {ws : List Nat} (hn : ws.length ≤ 24) {n : Nat} : ∀ {r : List Pk}, (∀ p ∈ r, GoodP ws p) → (∀ p ∈ r, p.2.length ≤ n) → ∀ p ∈ pairsOf r, p.2.length ≤ 2 * n
  | [], _, _, p, hp => by cases hp
  | [_], _, _, p, hp => by cases hp
  | x :: y :: r, h, hl, p, hp => by
    rcases List.mem_cons.mp hp with rfl | hp
    · have gx := h x List.mem_cons_self
      have gy := h y (List.mem_cons_of_mem _ List.mem_cons_self)
      have pm := mixed_perm (a := x.2) (b := y.2) (fun s hs => Nat.lt_of_lt_of_le (gx.2 s hs) hn) (fun s hs => Nat.lt_of_lt_of_le (gy.2 s hs) hn)
      have lx := hl x List.mem_cons_self
      have ly := hl y (List.mem_cons_of_mem _ List.mem_cons_self)
      show (mixed x.2 y.2).length ≤ _
      rw [pm.length_eq, List.length_append]
      omega
    · exact pairs_len hn (fun z hz => h z (List.mem_cons_of_mem _ (List.mem_cons_of_mem _ hz))) (fun z hz => hl z (List.mem_cons_of_mem _ (List.mem_cons_of_mem _ hz))) p hp
/-- a packet of the k-th row has no more signs than this -/
theorem pk_len {ws : List Nat} (hn : ws.length ≤ 24) : ∀ k, ∀ q ∈ rowP ws (k + 1), q.2.length ≤ 2 ^ k := by
  have one : ∀ q ∈ firstRow ws, q.2.length = 1 := fun q hq => by
    obtain ⟨s, _, rfl⟩ := first_one hq
    rfl
  intro k
  induction k with
  | zero =>
    intro q hq
    rw [one q hq]
    exact Nat.le_refl _
  | succ k ih =>
    intro q hq
    rcases List.mem_append.mp ((puts_perm (pairsOf (rowP ws (k + 1))) (firstRow ws)).mem_iff.mp hq) with h | h
    · rw [one q h]
      exact Nat.pow_pos (by decide)
    · have := pairs_len hn (good_row hn (k + 1)) ih q h
      rw [Nat.pow_succ]
      omega
theorem pk_small {ws : List Nat} (hn : ws.length ≤ 24) {k : Nat} (hk : k ≤ 12) : ∀ q ∈ rowP ws k, q.2.length ≤ 2048 := by
  cases k with
  | zero => intro q hq; cases hq
  | succ k =>
    intro q hq
    have a := pk_len hn k q hq
    have b : 2 ^ k ≤ 2 ^ 11 := Nat.pow_le_pow_right (by decide) (by omega)
    omega
end Sl

/-! ### free lengths beside another choice, dealt out in any order -/
namespace Sl
theorem sumN_succ (n : Nat) (f : Nat → Nat) : sumN (n + 1) f = sumN n f + f n := by
  unfold sumN
  rw [List.range_succ, List.map_append, List.sum_append]
  simp
theorem sumN_congr {n : Nat} {f g : Nat → Nat} (h : ∀ k, k < n → f k = g k) : sumN n f = sumN n g := sum_map_congr fun s hs => h s (List.mem_range.mp hs)
theorem list_range {l : List Nat} : (List.range l.length).map (fun k => l.getD k 0) = l := by
  refine List.ext_getElem? fun i => ?_
  rw [List.getElem?_map]
  by_cases hi : i < l.length
  · rw [List.getElem?_range hi, List.getElem?_eq_getElem hi]
    show some (l.getD i 0) = _
    rw [List.getD_eq_getElem?_getD, List.getElem?_eq_getElem hi]
    rfl
  · rw [List.getElem?_eq_none (by simpa using hi), List.getElem?_eq_none (by simpa using hi)]
    rfl
theorem sumN_list (l : List Nat) (f : Nat → Nat) : sumN l.length (fun k => f (l.getD k 0)) = (l.map f).sum := by
  have : ((List.range l.length).map fun k => f (l.getD k 0)) = l.map f := by
    conv => rhs; rw [← list_range (l := l), List.map_map]
    rfl
  unfold sumN
  rw [this]
theorem freeLens_len (ws : List Nat) (b : Nat) : (freeLens ws b).length = ws.length := by
  unfold freeLens
  split <;> simp
theorem freeLens_get {ws : List Nat} {b k : Nat} (h2 : 2 ≤ ws.length) (hk : k < ws.length) : (freeLens ws b).getD k 0 = oft ws b (2 * ws.length - 2) k := by
  unfold freeLens
  rw [if_neg (by omega), List.getD_eq_getElem?_getD, List.getElem?_map, List.getElem?_range hk]
  rfl
theorem freeLens_in {ws : List Nat} {b : Nat} (hn : ws.length ≤ 24) (hb : 1 ≤ b) (h : ws.length ≤ 2 ^ b) : ∀ x ∈ freeLens ws b, 1 ≤ x ∧ x ≤ b := fun x hx => by
  unfold freeLens at hx
  split at hx
  · rw [List.eq_of_mem_replicate hx]
    exact ⟨Nat.le_refl _, hb⟩
  · obtain ⟨s, hs, rfl⟩ := List.mem_map.mp hx
    exact free_within hn (by omega) h (List.mem_range.mp hs)
theorem freeLens_sum {ws : List Nat} {b : Nat} (hn : ws.length ≤ 24) (hb : 1 ≤ b) (h : ws.length ≤ 2 ^ b) : ((freeLens ws b).map fun x => 2 ^ (b - x)).sum ≤ 2 ^ b ∧ (2 ≤ ws.length → ((freeLens ws b).map fun x => 2 ^ (b - x)).sum = 2 ^ b) := by
  by_cases h2 : 2 ≤ ws.length
  · have e : ((freeLens ws b).map fun x => 2 ^ (b - x)).sum = 2 ^ b := by
      rw [← free_room hn h2 h, ← sumN_list, freeLens_len]
      exact sumN_congr fun k hk => by rw [freeLens_get h2 hk]
    exact ⟨by omega, fun _ => e⟩
  · refine ⟨?_, fun z => absurd z h2⟩
    unfold freeLens
    rw [if_pos (by omega), List.map_replicate]
    have p : 2 ^ (b - 1) ≤ 2 ^ b := Nat.pow_le_pow_right (by decide) (by omega)
    have c : ws.length = 0 ∨ ws.length = 1 := by omega
    rcases c with c | c
    · rw [c]
      exact Nat.zero_le _
    · rw [c]
      show 2 ^ (b - 1) + 0 ≤ 2 ^ b
      omega
/-- another choice: lengths dealt out in the order os -/
theorem free_any {ws os dn : List Nat} {b : Nat} (hn : ws.length ≤ 24) (h1 : 1 ≤ ws.length) (ho : os.Perm (List.range ws.length)) (hd : dn.length = ws.length) (hb : ∀ x ∈ dn, 1 ≤ x ∧ x ≤ b) (hk : (dn.map fun x => 2 ^ (b - x)).sum ≤ 2 ^ b) :
    sumN ws.length (fun k => ws.getD k 0 * (freeLens ws b).getD k 0) ≤ sumN ws.length fun k => ws.getD (os.getD k 0) 0 * dn.getD k 0 := by
  have ol : os.length = ws.length := by rw [ho.length_eq, List.length_range]
  have nd : os.Nodup := ho.nodup_iff.mpr List.nodup_range
  by_cases h2 : 2 ≤ ws.length
  · -- each sign's length
    have idx : ∀ k, k < ws.length → dn.getD (os.idxOf (os.getD k 0)) 0 = dn.getD k 0 := fun k hk => by
      have e : os.getD k 0 = os[k]'(by omega) := by rw [List.getD_eq_getElem?_getD, List.getElem?_eq_getElem (by omega)]; rfl
      rw [e, List.Nodup.idxOf_getElem nd k (by omega)]
    have turn : ∀ G : Nat → Nat → Nat, sumN ws.length (fun k => G (os.getD k 0) (dn.getD k 0)) = sumN ws.length fun s => G s (dn.getD (os.idxOf s) 0) := fun G => by
      have e1 : sumN ws.length (fun k => G (os.getD k 0) (dn.getD k 0)) = sumN os.length fun k => (fun s => G s (dn.getD (os.idxOf s) 0)) (os.getD k 0) := by
        rw [ol]
        exact sumN_congr fun k hk => by
          show _ = G (os.getD k 0) (dn.getD (os.idxOf (os.getD k 0)) 0)
          rw [idx k hk]
      rw [e1, sumN_list os fun s => G s (dn.getD (os.idxOf s) 0)]
      exact (ho.map _).sum_nat
    rw [turn fun s d => ws.getD s 0 * d, sumN_congr (g := fun s => ws.getD s 0 * oft ws b (2 * ws.length - 2) s) fun k hk => by rw [freeLens_get h2 hk]]
    refine free_least hn h2 (m := fun s => dn.getD (os.idxOf s) 0) (fun s hs => ?_) ?_
    · have hi : os.idxOf s < dn.length := by
        rw [hd, ← ol]
        exact List.idxOf_lt_length_of_mem (ho.mem_iff.mpr (List.mem_range.mpr hs))
      show dn.getD (os.idxOf s) 0 ≤ b
      rw [List.getD_eq_getElem?_getD, List.getElem?_eq_getElem hi]
      exact (hb _ (List.getElem_mem hi)).2
    · rw [← turn fun _ d => 2 ^ (b - d), ← hd, sumN_list dn fun d => 2 ^ (b - d)]
      exact hk
  · have c : ws.length = 1 := by omega
    rw [c] at ho hd ⊢
    have eo : os = [0] := by
      have := ho.length_eq
      simp at this
      obtain ⟨o, rfl⟩ := List.length_eq_one_iff.mp this
      have := ho.mem_iff.mp List.mem_cons_self
      rw [List.mem_range] at this
      have : o = 0 := by omega
      rw [this]
    obtain ⟨d, rfl⟩ := List.length_eq_one_iff.mp hd
    have ef : freeLens ws b = [1] := by
      unfold freeLens
      rw [if_pos (by omega), c]
      rfl
    rw [eo, ef]
    show ws.getD 0 0 * 1 + 0 ≤ ws.getD 0 0 * d + 0
    exact Nat.add_le_add_right (Nat.mul_le_mul_left _ (hb d List.mem_cons_self).1) 0
end Sl

/-! ### comprehensions that take all or none; calls whose answer is one of several -/
namespace Sl
open PySem L2 Evl
theorem given_every (n : Nat) (v : Nat → V) : given n (fun _ => true) v = (List.range n).map v := by
  unfold given
  rw [List.filter_eq_self.mpr fun _ _ => rfl]
theorem given_never (n : Nat) (v : Nat → V) : given n (fun _ => false) v = [] := by
  unfold given
  rw [List.filter_eq_nil_iff.mpr fun _ _ h => by cases h]
  rfl
section
variable {K : PySem.W.Frag} {σ : L2.St} {H : Hp} {ta tb : TE} {D : Ends} {tz : TS} {sp : Sp} {vs dvs xs : List V} {E : XK} {te : TE} {tr : TA} {i : Nat}
theorem ev_neNilI (ha : EvL ta σ H []) (hb : ∀ H1, Ex H H1 → EvL tb σ H1 []) : Ev (tOp (rNeD K) ta tb) σ H (.bl false) := fun H1 e Q q =>
  ha H1 e _ fun a H2 ha' e2 h2 => hb H2 (e.trans e2) H2 (Ex.refl _) _ fun b H3 hb' e3 h3 => ⟨.list [], .list [], .lst (sq_of (e3 _ _ h2)) .nil, .lst (sq_of h3) .nil, rfl, rfl, q H3 (e2.trans e3)⟩
theorem q_call (h : EvA tr σ H vs) (k : ∀ H1, Ex H H1 → sp (vs ++ dvs) H1 (fun v H2 => tz D (σ.set i (some v)) H2) E) : tSeq (tAsg (tCall sp dvs E tr) (gName i)) tz D σ H :=
  h H (Ex.refl H) _ fun H1 e1 => k H1 e1
theorem q_callL (h : EvL te σ H xs) (k : ∀ p H1, H p = none → Ex H H1 → H1 p = some (.lst xs) → tr σ H1 fun vs H2 => sp (.ref p :: vs ++ dvs) H2 (fun v H3 => tz D (σ.set i (some v)) H3) E) : tSeq (tAsg (tCall sp dvs E (tCons te tr)) (gName i)) tz D σ H :=
  h H (Ex.refl H) _ k
end
def natsV (ns : List Nat) : List V := ns.map fun (n : Nat) => V.int (n : Int)
theorem natsV_len (ns : List Nat) : (natsV ns).length = ns.length := by
  unfold natsV
  rw [List.length_map]
theorem natsV_ints (ns : List Nat) : natsV ns = (ns.map fun (n : Nat) => (n : Int)).map V.int := by
  unfold natsV
  rw [List.map_map]
  rfl
theorem at_natsV {ns : List Nat} {k : Nat} (h : k < ns.length) : atI (natsV ns) (k : Int) = some (.int ((ns.getD k 0 : Nat) : Int)) := by
  refine atI_nat ?_
  unfold natsV
  rw [List.getElem?_map, List.getD_eq_getElem?_getD, List.getElem?_eq_getElem h]
  rfl
theorem natsV_inj {ws ws' : List Nat} (h : natsV ws = natsV ws') : ws' = ws := by
  have h' : (ws.map fun (n : Nat) => V.int (n : Int)) = ws'.map fun (n : Nat) => V.int (n : Int) := h
  have := congrArg (List.map fun v : V => match v with | .int i => i.toNat | _ => 0) h'
  rw [List.map_map, List.map_map] at this
  have e : ∀ l : List Nat, l.map ((fun v : V => match v with | .int i => i.toNat | _ => 0) ∘ fun (n : Nat) => V.int (n : Int)) = l := fun l => by
    conv => rhs; rw [← List.map_id l]
    refine List.map_congr_left fun n _ => ?_
    exact Int.toNat_natCast n
  rw [e, e] at this
  exact this.symm
theorem natsV_set (ns : List Nat) (k x : Nat) : (natsV ns).set k (.int (x : Int)) = natsV (ns.set k x) := by
  unfold natsV
  rw [List.map_set]
theorem natsV_thing {H : Hp} {ns : List Nat} : ∀ x ∈ natsV ns, Thing H x := fun x hx => by
  obtain ⟨n, _, rfl⟩ := List.mem_map.mp hx
  exact .int _
theorem mod_nat (i : Int) {m : Nat} (h : 0 < m) : ∃ n : Nat, i % (m : Int) = (n : Int) ∧ n < m := by
  have h0 := Int.emod_nonneg i (show (m : Int) ≠ 0 by omega)
  have h1 := Int.emod_lt_of_pos i (show (0 : Int) < (m : Int) by omega)
  exact ⟨(i % (m : Int)).toNat, by omega, by omega⟩
theorem pow_int (b : Nat) : (2 : Int) ^ b = ((2 ^ b : Nat) : Int) := by
  rw [Int.natCast_pow]
  rfl
theorem sum_pows (b : Nat) : ∀ fl : List Nat, (∀ x ∈ fl, x ≤ b) → (fl.map fun x : Nat => (2 : Int) ^ ((b : Int) - (x : Int)).toNat).sum = (((fl.map fun x => 2 ^ (b - x)).sum : Nat) : Int)
  | [], _ => rfl
  | x :: r, h => by
    have := h x List.mem_cons_self
    rw [List.map_cons, List.sum_cons, List.map_cons, List.sum_cons, sum_pows b r fun y hy => h y (List.mem_cons_of_mem _ hy), Int.natCast_add, Int.natCast_pow, show ((b : Int) - (x : Int)).toNat = b - x by omega]
    rfl
theorem rep_one {α : Type} (n : Nat) (x : α) : (List.replicate n [x]).flatten = List.replicate n x := by
  induction n with
  | zero => rfl
  | succ n ih => rw [List.replicate_succ, List.flatten_cons, ih, List.replicate_succ]; rfl
/-- one item changed to what counts no more -/
theorem sum_set_le {f : Nat → Nat} {y : Nat} : ∀ {l : List Nat} {j : Nat}, f y ≤ f (l.getD j 0) → ((l.set j y).map f).sum ≤ (l.map f).sum
  | [], _, _ => Nat.le_refl _
  | x :: r, 0, h => by
    have h' : f y ≤ f x := h
    show f y + (r.map f).sum ≤ f x + (r.map f).sum
    omega
  | x :: r, j + 1, h => by
    have := sum_set_le (f := f) (y := y) (l := r) (j := j) h
    show f x + ((r.set j y).map f).sum ≤ f x + (r.map f).sum
    omega
end Sl

/-! ### ordered lengths -/
namespace Sl
def ordLens (ws : List Nat) (b : Nat) : List Nat := if ws.length < 2 then List.replicate ws.length 1 else cut ws b 0 ws.length
def intsOf (ns : List Nat) : List Int := ns.map fun (n : Nat) => (n : Int)
theorem leafs_pos {ds : List Int} (h : Leafs 0 ds) (h2 : 2 ≤ ds.length) : ∀ x ∈ ds, (1 : Int) ≤ x := by
  generalize ed : (0 : Int) = d0 at h
  cases h with
  | leaf => simp at h2
  | @node _ u v hu hv =>
    intro x hx
    rcases List.mem_append.mp hx with hx | hx
    · have := hu.le x hx; omega
    · have := hv.le x hx; omega
/-- what is known of them for two signs or more -/
theorem ord_two {ws : List Nat} {b : Nat} (h2 : 2 ≤ ws.length) (h : ws.length ≤ 2 ^ b) : ∃ v, val ws b 0 ws.length = some v ∧ (ordLens ws b).length = ws.length ∧ dot ws (ordLens ws b) = v ∧ (∀ x ∈ ordLens ws b, 1 ≤ x ∧ x ≤ b) ∧ Leafs 0 (intsOf (ordLens ws b)) := by
  obtain ⟨v, hv⟩ := (val_some ws b 0 ws.length (by omega)).mpr (by omega)
  obtain ⟨k1, k2, k3, k4⟩ := cut_all ws b 0 ws.length v (by omega) hv
  have e : ordLens ws b = cut ws b 0 ws.length := if_neg (by omega)
  rw [e]
  have hl := k4 0
  have e0 : ((cut ws b 0 ws.length).map fun x : Nat => (0 : Int) + (x : Int)) = intsOf (cut ws b 0 ws.length) := List.map_congr_left fun x _ => Int.zero_add _
  rw [e0] at hl
  have pos := leafs_pos hl (by unfold intsOf; rw [List.length_map, k1]; omega)
  refine ⟨v, hv, by rw [k1]; omega, by rw [← k2]; rfl, fun x hx => ⟨?_, k3 x hx⟩, hl⟩
  have := pos (x : Int) (List.mem_map.mpr ⟨x, hx, rfl⟩)
  omega
theorem ordLens_len {ws : List Nat} {b : Nat} (h : ws.length ≤ 2 ^ b) : (ordLens ws b).length = ws.length := by
  by_cases h2 : 2 ≤ ws.length
  · obtain ⟨_, _, k, _⟩ := ord_two h2 h
    exact k
  · unfold ordLens
    rw [if_pos (by omega), List.length_replicate]
theorem ordLens_in {ws : List Nat} {b : Nat} (hb : 1 ≤ b) (h : ws.length ≤ 2 ^ b) : ∀ x ∈ ordLens ws b, 1 ≤ x ∧ x ≤ b := fun x hx => by
  by_cases h2 : 2 ≤ ws.length
  · obtain ⟨_, _, _, _, k, _⟩ := ord_two h2 h
    exact k x hx
  · unfold ordLens at hx
    rw [if_pos (by omega)] at hx
    rw [List.eq_of_mem_replicate hx]
    exact ⟨Nat.le_refl _, hb⟩
theorem szB_zero (b : Nat) : szB b 0 = 2 ^ b := by
  unfold szB
  rw [Int.sub_zero, Int.toNat_natCast]
theorem leafs_end {b : Nat} {ds : List Int} (h : Leafs 0 ds) (hb : ∀ x ∈ ds, x ≤ (b : Int)) : endB b 0 ds = 2 ^ b := by
  have := endB_leafs h 0 hb
  rw [Nat.zero_mul, Nat.zero_add, szB_zero] at this
  exact this
theorem ordLens_end {ws : List Nat} {b : Nat} (hb : 1 ≤ b) (h : ws.length ≤ 2 ^ b) : endB b 0 (intsOf (ordLens ws b)) ≤ 2 ^ b := by
  by_cases h2 : 2 ≤ ws.length
  · obtain ⟨_, _, _, _, k, hl⟩ := ord_two h2 h
    rw [leafs_end hl fun x hx => by
      obtain ⟨y, hy, rfl⟩ := List.mem_map.mp hx
      have := k y hy
      omega]
    exact Nat.le_refl _
  · unfold ordLens
    rw [if_pos (by omega)]
    have c : ws.length = 0 ∨ ws.length = 1 := by omega
    rcases c with c | c
    · rw [c]
      exact Nat.zero_le _
    · rw [c]
      show up 0 (szB b 1) + szB b 1 ≤ 2 ^ b
      have e : up 0 (szB b 1) = 0 := by
        have := up_mul (s := szB b 1) (Nat.pow_pos (by decide)) 0
        rw [Nat.zero_mul] at this
        exact this
      rw [e, Nat.zero_add]
      unfold szB
      exact Nat.pow_le_pow_right (by decide) (by omega)
/-- no tree's leaves in this order weigh less -/
theorem ord_least {ws dn : List Nat} {b : Nat} (h1 : 1 ≤ ws.length) (h : ws.length ≤ 2 ^ b) (hd : dn.length = ws.length) (hb : ∀ x ∈ dn, 1 ≤ x ∧ x ≤ b) (hl : 2 ≤ ws.length → Leafs 0 (intsOf dn)) : dot ws (ordLens ws b) ≤ dot ws dn := by
  by_cases h2 : 2 ≤ ws.length
  · obtain ⟨v, hv, _, hw, _, _⟩ := ord_two h2 h
    rw [hw]
    have il : (intsOf dn).length = ws.length := by unfold intsOf; rw [List.length_map, hd]
    obtain ⟨v', k1, k2⟩ := val_least ws (B := b) (hl h2) b 0 (by omega) (by decide) (fun x hx => by
      obtain ⟨y, hy, rfl⟩ := List.mem_map.mp hx
      have := hb y hy
      omega) (by omega)
    rw [il, Nat.zero_add] at k1 k2
    rw [hv] at k1
    cases k1
    have e : (intsOf dn).map Int.toNat = dn := by
      unfold intsOf
      rw [List.map_map]
      conv => rhs; rw [← List.map_id dn]
      exact List.map_congr_left fun x _ => Int.toNat_natCast x
    rw [e] at k2
    have : Int.toNat 0 * sumR ws 0 ws.length = 0 := Nat.zero_mul _
    have k3 : v + Int.toNat 0 * sumR ws 0 ws.length ≤ dot ws dn := k2
    omega
  · have c : ws.length = 1 := by omega
    obtain ⟨w, rfl⟩ := List.length_eq_one_iff.mp c
    obtain ⟨d, rfl⟩ := List.length_eq_one_iff.mp (hd.trans c)
    have := hb d List.mem_cons_self
    show w * 1 + 0 ≤ w * d + 0
    exact Nat.add_le_add_right (Nat.mul_le_mul_left _ this.1) 0
/-- the weights by the lengths, as a sum over the signs' numbers -/
theorem dot_sum : ∀ (ws ds : List Nat), ds.length = ws.length → dot ws ds = sumN ws.length fun k => ws.getD k 0 * ds.getD k 0
  | [], [], _ => rfl
  | w :: ws, d :: ds, h => by
    show w * d + dot ws ds = ((List.range (ws.length + 1)).map _).sum
    rw [List.range_succ_eq_map, List.map_cons, List.sum_cons, List.map_map, dot_sum ws ds (by simpa using h)]
    rfl
theorem endB_all (b : Nat) (x : Int) (r : List Int) (p : Nat) : endB b p (x :: r) = endB b (up p (szB b x) + szB b x) r := rfl
theorem endB_step {b : Nat} {ls : List Int} {i : Nat} {l : Int} (h : ls[i]? = some l) : endB b 0 (ls.take (i + 1)) = up (endB b 0 (ls.take i)) (szB b l) + szB b l := by
  rw [List.take_add_one, h, endB_app]
  rfl
theorem endB_le (b : Nat) : ∀ (ls : List Int) (p : Nat), (∀ l ∈ ls, 0 ≤ l) → endB b p ls ≤ p + ls.length * (2 * 2 ^ b)
  | [], p, _ => by show p ≤ _; omega
  | l :: r, p, h => by
    have ih := endB_le b r (up p (szB b l) + szB b l) fun x hx => h x (List.mem_cons_of_mem _ hx)
    have h0 := h l List.mem_cons_self
    have s1 : szB b l ≤ 2 ^ b := Nat.pow_le_pow_right (by decide) (by omega)
    have s0 : 0 < szB b l := Nat.pow_pos (by decide)
    have u : up p (szB b l) ≤ p + szB b l := by
      rw [up_eq s0]
      split
      · omega
      · omega
    show endB b (up p (szB b l) + szB b l) r ≤ _
    rw [List.length_cons, Nat.add_mul]
    omega
end Sl

/-! ### t.count(k) of a tuple of whole numbers -/
namespace Sl
open PySem PySem.Spec PyProof.Rows L2
def rCntT (K : PySem.W.Frag) : V → List V → Hp → VK → Prop := fun x xs H Q => ∃ (p : Addr) (ns : List Int) (k : Int), x = .ref p ∧ xs = [.int k] ∧ SqT K H p (ns.map V.int) ∧ Q (.int (ns.count k : Nat)) H
theorem mt_tcount {X : Cx} : MtR X "tuple.count" (rCntT X.K) := by
  intro pins s σ H x xs v us Q I rx rxs h
  obtain ⟨p, ns, k, rfl, rfl, hs, q⟩ := h
  cases rx
  obtain ⟨u, rfl, ru⟩ := rxs.one
  obtain ⟨t, rfl⟩ := ru
  obtain ⟨its, rv, ⟨⟨cls, dd, data, sl⟩, ho, hc, n, hd⟩, hlen⟩ := I.tuple hs
  simp only at hc hd
  subst hc hd
  have hi := ints_of_vals rv
  refine call_meets PySem.F.slot_tuple_count ⟨_, ho, rfl⟩ PySem.F.entry_tuple_count (PySem.F.args_tuple_count_2 _ _)
    (SeqAt.tuple_countAt p its.toArray n dd sl (.int k t) (eqk k)) ⟨ho, fun y hy => (eqk_gives hi y (by simpa using hy)).at _ _, ?_⟩
  have ec : its.toArray.toList.countP (eqk k) = ns.count k := eqk_count hi
  refine ⟨.int (ns.count k : Nat), H, I.tok _, ⟨s.toks, ?_⟩, q⟩
  show Value.int ((its.toArray.toList.countP (eqk k) : Nat) : Int) s.toks = Value.int ((ns.count k : Nat) : Int) s.toks
  rw [ec]
end Sl

/-! ### tuples whose object is known: new ones, and their methods -/
namespace Sl
open PySem PySem.Spec PyProof.Rows L2 Evl
section
variable {X : Cx} {es : List Expr} {t : TA} {pos : Pos}
def TupF (H : Hp) (p : Addr) (xs : List V) : Prop := ∃ o : Obj, H p = some (.frz o (.tup xs)) ∧ o.cls = .type "tuple" ∧ o.dict = none
theorem TupF.mono {H H' : Hp} {p : Addr} {xs : List V} (e : Ex H H') (h : TupF H p xs) : TupF H' p xs := by
  obtain ⟨o, h1, h2⟩ := h
  exact ⟨o, e _ _ h1, h2⟩
theorem TupF.sq {K : PySem.W.Frag} {H : Hp} {p : Addr} {xs : List V} (h : TupF H p xs) : SqT K H p xs := by
  obtain ⟨o, h1, _⟩ := h
  exact .inl (.inr ⟨o, h1⟩)
def tTupF (t : TA) : TE := fun σ H Q => t σ H fun xs H1 => xs.length ≤ sizeLine ∧ ∀ p H2, H1 p = none → Ex H1 H2 → TupF H2 p xs → Q (.ref p) H2
theorem pe_tupF {x1} (h : PA X es t) : PE X (.Tuple es x1 pos) (tTupF t) := by
  refine ⟨fun pins s σ H Q I hq => ?_⟩
  refine wpAny_Tuple_spliced (thn (h.run pos pins s σ H _ I hq) fun us s1 ⟨xs, H1, I1, r, z, q⟩ => ⟨by rw [← r.length]; exact z, ?_⟩)
  have hf : H1 s1.heap.objs.size = none := I1.hok.fresh (Nat.le_refl _)
  refine ⟨.ref s1.heap.objs.size, upd H1 s1.heap.objs.size (.frz { cls := .type "tuple", data := .seq us.toArray } (.tup xs)), I1.laid (t' := s1.toks) (fun b u e => Heap.get?_push_of_some _ e) (Nat.le_refl _) ?_, rfl, q _ _ hf (Ex.new hf) ⟨_, upd_same, rfl, rfl⟩⟩
  exact ⟨Heap.get?_push_size _ rfl, z, us, r, ⟨_, Heap.get?_push_size _ rfl, rfl, _, rfl⟩⟩
def rTupleF (K : PySem.W.Frag) : List V → Hp → VK → Prop := fun xs H Q => ∃ p ys, xs = [.ref p] ∧ SqL K H p ys ∧ ∀ l H2, H l = none → Ex H H2 → TupF H2 l ys → Q (.ref l) H2
theorem call_tupleF : CallR X (.type "tuple") (rTupleF X.K) := by
  intro pins s σ H xs us Q I r h
  obtain ⟨p, ys, rfl, hq, q⟩ := h
  obtain ⟨u, rfl, rx⟩ := vals1 r
  cases rx
  obtain ⟨its, r', pl, hz⟩ := I.list hq
  have hlen := r'.length
  refine call_tuple_list pl.isList (fun h' kp => ?_) (by simp only [List.size_toArray] <;> omega)
  have I1 : Inv X pins σ H { s with heap := h' } := I.kept (t' := s.toks) kp
  have hf : H h'.objs.size = none := I1.hok.fresh (Nat.le_refl _)
  have I2 : Inv X pins σ (upd H h'.objs.size (.frz { cls := .type "tuple", data := .seq its.toArray } (.tup ys))) { s with heap := h'.push { cls := .type "tuple", data := .seq its.toArray } } :=
    I1.laid (t' := s.toks) (fun b o e => Heap.get?_push_of_some _ e) (Nat.le_refl _) (show ObjOk X.prog X.w _ _ _ (.frz _ (.tup ys)) from ⟨Heap.get?_push_size _ rfl, hz, its, r', IsTup.new _ _⟩)
  exact ⟨.ref h'.objs.size, _, I2, rfl, q _ _ hf (Ex.new hf) ⟨_, upd_same, rfl, rfl⟩⟩
def tBMT (r : V → List V → Hp → VK → Prop) (to : TE) (t : TA) : TE := fun σ H Q => to σ H fun x H1 => (∃ p xs, x = .ref p ∧ TupF H1 p xs) ∧ t σ H1 fun xs H2 => r x xs H2 Q
variable {o e : Expr} {to : TE} {name : Str} {apos cpos : Pos} {id : String} {r : V → List V → Hp → VK → Prop}
theorem pe_bmT (slot : Slot "tuple" name id) (hty : typeOf (.builtin id) = pure (.type "method_descriptor")) (hm : MtR X id r) (ho : PE X o to) (ha : PA X (e :: es) t)
    (hbase : attributeBase o name X.env (eval o X.env) = eval o X.env := by rfl)
    (hfew : ((backTo cpos (starEach (e :: es) X.env)).all (fun x => !x.1) && (backToKw cpos (keywordEach [] X.env)).all (fun x => x.1.isSome)
      && decide ((e :: es).length + ([] : List Keyword).length + (if ([] : List Keyword).isEmpty then 0 else 1) < 30)) = true := by rfl)
    (hline : (apos.endLine == cpos.line) = true := by rfl) (hs : starEach (e :: es) X.env = (false, eval e X.env) :: starEach es X.env := by rfl) (hplain : (backTo cpos (starEach es X.env)).any (·.1) = false := by rfl) :
    PE X (.Call (.Attribute o name apos) (e :: es) [] cpos) (tBMT r to t) := by
  refine ⟨fun pins s σ H Q I h => ?_⟩
  refine wpAny_Call_method_late hbase hfew hline rfl (thn (ho.run pins s σ H _ I h) fun v s1 ⟨x, H1, I1, r1, ty, q1⟩ => ?_)
  obtain ⟨p, xs, rfl, ob, h1, h2, h3⟩ := ty
  cases r1
  have hob := (I1.hok p _ h1).1
  refine ⟨"tuple", id, PySem.F.plainAttrs_tuple, slot, hty, ⟨ob, hob, h2⟩, fun a e => by cases e; exact ⟨ob, hob, h3⟩, ?_⟩
  have hA := ha.run cpos pins s1 σ H1 _ I1 q1
  rw [hs] at hA ⊢
  refine Calls.callWith_builtin (by show (false || (backTo cpos (starEach es X.env)).any (·.1)) = false; rw [hplain] <;> rfl) (Calls.evalArgs_plain ?_)
  exact thn hA fun us s2 ⟨vs, H2, I2, r2, q2⟩ => hm pins s2 σ H2 (.ref p) vs (.ref p) us Q I2 rfl r2 q2
end
section
variable {K : PySem.W.Frag} {σ : L2.St} {H : Hp} {ta tb te to : TE}
/-- gives a new tuple whose object is known -/
def EvF (te : TE) (σ : L2.St) (H : Hp) (xs : List V) : Prop := ∀ H1, Ex H H1 → ∀ Q : VK, (∀ p H2, H1 p = none → Ex H1 H2 → TupF H2 p xs → Q (.ref p) H2) → te σ H1 Q
theorem ef_tup {t : TA} {vs : List V} (h : EvA t σ H vs) (hl : vs.length ≤ 100000) : EvF (tTupF t) σ H vs := fun H1 e Q q =>
  h H1 e _ fun H2 e2 => ⟨sz_of hl, fun p H3 hp e3 h3 => q p H3 (fresh_back e2 hp) (e2.trans e3) h3⟩
theorem ef_tuple {xs : List V} (h : EvL ta σ H xs) : EvF (tCB (rTupleF K) (tCons ta tNil)) σ H xs := fun H1 e Q q =>
  h H1 e _ fun p H2 hp e2 h2 => ⟨p, xs, rfl, sq_of h2, fun l H3 hl e3 h3 => q l H3 (fresh_back e2 hl) (e2.trans e3) h3⟩
theorem ef_tupleV {a : Addr} {xs : List V} (h : Ev ta σ H (.ref a)) (hS : SqL K H a xs) : EvF (tCB (rTupleF K) (tCons ta tNil)) σ H xs := fun H1 e Q q =>
  h H1 e _ fun H2 e2 => ⟨a, xs, rfl, ex_l (e.trans e2) hS, fun l H3 hl e3 h3 => q l H3 (fresh_back e2 hl) (e2.trans e3) h3⟩
theorem ev_tcount {p : Addr} {ns : List Int} {k : Int} (h : Ev to σ H (.ref p)) (hp : TupF H p (ns.map V.int)) (hk : Ev te σ H (.int k)) : Ev (tBMT (rCntT K) to (tCons te tNil)) σ H (.int (ns.count k : Nat)) := fun H1 e Q q =>
  h H1 e _ fun H2 e2 => ⟨⟨p, _, rfl, hp.mono (e.trans e2)⟩, hk H2 (e.trans e2) _ fun H3 e3 => ⟨p, ns, k, rfl, rfl, (hp.mono ((e.trans e2).trans e3)).sq, q H3 (e2.trans e3)⟩⟩
theorem ev_isTup {p : Addr} {xs : List V} (h : Ev te σ H (.ref p)) (k : H p = some (.tup xs)) : Ev (tCB (rIsi K) (tCons te (tCons (tC (.ty "tuple")) tNil))) σ H (.bl true) := fun H1 e Q q =>
  h H1 e _ fun H2 e2 => ⟨.ref p, .ty "tuple", _, _, true, rfl, .ty _, .base (.tup ((e.trans e2) _ _ k)), kit_ty (by decide +kernel), q H2 e2⟩
theorem ev_isTupF {p : Addr} {xs : List V} (h : Ev te σ H (.ref p)) (k : TupF H p xs) : Ev (tCB (rIsi K) (tCons te (tCons (tC (.ty "tuple")) tNil))) σ H (.bl true) := fun H1 e Q q =>
  h H1 e _ fun H2 e2 => by
    obtain ⟨o, k1, _⟩ := k
    exact ⟨.ref p, .ty "tuple", _, _, true, rfl, .ty _, .fTuple ((e.trans e2) _ _ k1), kit_ty (by decide +kernel), q H2 e2⟩
theorem ev_lenT {p : Addr} {xs : List V} (ha : Ev ta σ H (.ref p)) (h : SqT K H p xs) : Ev (tCB (rLenS K) (tCons ta tNil)) σ H (.int (xs.length : Int)) := fun H1 e Q q =>
  ha H1 e _ fun H2 e2 => ⟨p, xs, rfl, .inr (ex_t (e.trans e2) h), q H2 e2⟩
theorem el_lcT {a : Addr} {xs : List V} {tl : TE} {t : TT} {j : Nat} {vs : List Nat} (f : Nat → Bool) (v : Nat → V) (h : Ev tl σ H (.ref a)) (hx : SqT K H a xs) (hz : xs.length ≤ 40000) (hw : ∀ x, wipe ((wipe σ vs).set j (some x)) vs = wipe σ vs)
    (ht : ∀ (i : Nat) (x : V) H1, Ex H H1 → xs[i]? = some x → EvT t ((wipe σ vs).set j (some x)) H1 (f i)) (he : ∀ (i : Nat) (x : V) H1, Ex H H1 → xs[i]? = some x → f i = true → Ev te ((wipe σ vs).set j (some x)) H1 (v i)) :
    EvL (tLc (iTup K tl) (gName j) t te vs) σ H (given xs.length f v) := fun H0 e Q q => h H0 e _ fun H1 e1 => ⟨a, rfl, ⟨xs, ex_t (e.trans e1) hx⟩, fun Dl hD =>
  lc_tup (xs := xs) (Cw H1 f v Dl) ⟨hD, Ex.new hD, upd_same⟩ (fun i H' _ p => ex_t ((e.trans e1).trans p.2.1) hx) (fun i x H' hi p => ⟨hw x, cw_turn p (by have := (List.getElem?_eq_some_iff.mp hi).1; omega) (ht i x H1 (e.trans e1) hi) (fun hf => he i x H1 (e.trans e1) hi hf)⟩)
    (fun H' p => q Dl H' (fresh_back e1 p.1) (e1.trans p.2.1) p.2.2)⟩
end
end Sl

/-! ### packets in the heap -/
namespace Sl
open PySem L2 Evl
def PkAt (H : Hp) (z : V) (p : Pk) : Prop := ∃ t u : Addr, z = .ref t ∧ H t = some (.tup [.int (p.1 : Int), .ref u]) ∧ TupF H u (natsV p.2)
def Pks (H : Hp) (zs : List V) (r : List Pk) : Prop := zs.length = r.length ∧ ∀ (i : Nat) (p : Pk), r[i]? = some p → ∃ z, zs[i]? = some z ∧ PkAt H z p
def dPk (p : Pk) : PyData := .tuple [.int (p.1 : Int), .tuple ((p.2.map fun (n : Nat) => (n : Int)).map PyData.int)]
section
variable {K : PySem.W.Frag} {H H' : Hp}
theorem PkAt.mono {z : V} {p : Pk} (e : Ex H H') (h : PkAt H z p) : PkAt H' z p := by
  obtain ⟨t, u, h1, h2, h3⟩ := h
  exact ⟨t, u, h1, e _ _ h2, h3.mono e⟩
theorem PkAt.upd {z : V} {p : Pk} {b : Addr} {xs : List V} {o : HO} (hb : H b = some (.lst xs)) (h : PkAt H z p) : PkAt (upd H b o) z p := by
  obtain ⟨t, u, h1, h2, h3⟩ := h
  refine ⟨t, u, h1, ?_, ?_⟩
  · rw [upd_ne fun z => by rw [z, hb] at h2; cases h2]; exact h2
  · obtain ⟨ob, k1, k2⟩ := h3
    exact ⟨ob, by rw [upd_ne fun z => by rw [z, hb] at k1; cases k1]; exact k1, k2⟩
theorem Pks.mono {zs : List V} {r : List Pk} (e : Ex H H') (h : Pks H zs r) : Pks H' zs r := ⟨h.1, fun i p hp => by
  obtain ⟨z, h1, h2⟩ := h.2 i p hp
  exact ⟨z, h1, h2.mono e⟩⟩
theorem Pks.upd {zs : List V} {r : List Pk} {b : Addr} {xs : List V} {o : HO} (hb : H b = some (.lst xs)) (h : Pks H zs r) : Pks (upd H b o) zs r := ⟨h.1, fun i p hp => by
  obtain ⟨z, h1, h2⟩ := h.2 i p hp
  exact ⟨z, h1, h2.upd hb⟩⟩
theorem Pks.nil : Pks H [] [] := ⟨rfl, fun i p h => by simp at h⟩
theorem Pks.at {zs : List V} {r : List Pk} {i : Nat} (h : Pks H zs r) (hi : i < r.length) : ∃ z, zs[i]? = some z ∧ PkAt H z r[i] := h.2 i _ (List.getElem?_eq_getElem hi)
theorem Pks.app {zs ys : List V} {r q : List Pk} (h : Pks H zs r) (k : Pks H ys q) : Pks H (zs ++ ys) (r ++ q) := by
  refine ⟨by rw [List.length_append, List.length_append, h.1, k.1], fun i p hp => ?_⟩
  by_cases hi : i < r.length
  · rw [List.getElem?_append_left hi] at hp
    rw [List.getElem?_append_left (by rw [h.1]; exact hi)]
    exact h.2 i p hp
  · rw [List.getElem?_append_right (by omega)] at hp
    rw [List.getElem?_append_right (by rw [h.1]; omega), h.1]
    exact k.2 _ p hp
theorem Pks.one {z : V} {p : Pk} (h : PkAt H z p) : Pks H [z] [p] := ⟨rfl, fun i q hq => by
  cases i with
  | zero => cases hq; exact ⟨z, rfl, h⟩
  | succ i => simp at hq⟩
theorem Pks.take {zs : List V} {r : List Pk} (h : Pks H zs r) (n : Nat) : Pks H (zs.take n) (r.take n) := by
  refine ⟨by rw [List.length_take, List.length_take, h.1], fun i p hp => ?_⟩
  rw [List.getElem?_take] at hp ⊢
  split at hp
  · rename_i hi
    rw [if_pos hi]
    exact h.2 i p hp
  · cases hp
theorem Pks.drop {zs : List V} {r : List Pk} (h : Pks H zs r) (n : Nat) : Pks H (zs.drop n) (r.drop n) := by
  refine ⟨by rw [List.length_drop, List.length_drop, h.1], fun i p hp => ?_⟩
  rw [List.getElem?_drop] at hp ⊢
  exact h.2 _ p hp
theorem PkAt.dp {z : V} {p : Pk} (h : PkAt H z p) : Dp K H z (dPk p) := by
  obtain ⟨t, u, rfl, h2, h3⟩ := h
  rw [natsV_ints] at h3
  exact .tup (st_of h2) (.cons (.int _) (.cons (.tup h3.sq (dpAll_map fun _ _ => .int _)) .nil))
theorem Pks.dp : ∀ {zs : List V} {r : List Pk}, Pks H zs r → DpAll K H zs (r.map dPk)
  | [], [], _ => .nil
  | [], _ :: _, h => by have := h.1; simp at this
  | _ :: _, [], h => by have := h.1; simp at this
  | z :: zs, p :: r, h => by
    obtain ⟨z', h1, h2⟩ := h.2 0 p rfl
    cases h1
    exact .cons h2.dp (Pks.dp ⟨by simpa using h.1, fun i q hq => h.2 (i + 1) q hq⟩)
theorem shaped_pks (r : List Pk) : SeqAt.shaped (.list (r.map dPk)) = true := shaped_list fun d hd => by
  obtain ⟨p, _, rfl⟩ := List.mem_map.mp hd
  have z := lay_all (flat_ints (p.2.map fun (n : Nat) => (n : Int)))
  have zz : ∀ e ∈ [PyData.int (p.1 : Int), .tuple ((p.2.map fun (n : Nat) => (n : Int)).map PyData.int)], e.canLay0 = true ∧ e.depth ≤ 1 := fun e he => by
    rcases List.mem_cons.mp he with rfl | he
    · exact ⟨rfl, Nat.zero_le _⟩
    · rw [List.mem_singleton.mp he]
      refine ⟨?_, ?_⟩
      · unfold PyData.canLay0
        exact z.1
      · unfold PyData.depth
        have := z.2
        omega
  have y := lay_all zz
  refine ⟨?_, ?_⟩
  · unfold dPk PyData.canLay0
    exact y.1
  · unfold dPk PyData.depth
    have := y.2
    omega
/-- where a packet is put: behind those that weigh no more -/
theorem put_split : ∀ {r : List Pk} {p : Pk} {n : Nat}, n ≤ r.length → (∀ (i : Nat) (x : Pk), i < n → r[i]? = some x → x.1 ≤ p.1) → (∀ (x : Pk), r[n]? = some x → p.1 < x.1) → put r p = r.take n ++ [p] ++ r.drop n
  | [], p, n, hn, _, _ => by
    have : n = 0 := Nat.le_zero.mp hn
    subst this
    rfl
  | x :: r, p, 0, _, _, h2 => by
    unfold Sl.put
    rw [if_neg (by have := h2 x rfl; omega)]
    rfl
  | x :: r, p, n + 1, hn, h1, h2 => by
    unfold Sl.put
    rw [if_pos (h1 0 x (Nat.succ_pos _) rfl), put_split (r := r) (n := n) (by simpa using hn) (fun i y hi hy => h1 (i + 1) y (by omega) hy) fun y hy => h2 y hy]
    rfl
end
end Sl
namespace Sl
open PySem L2 Evl
/-- the rows as they are told: b lists, each one of its own -/
def RowsAt (H0 H : Hp) (p : Addr) (ys : List V) (ws : List Nat) (b : Nat) : Prop := ys.length = b ∧ (∀ i, i < b → ∃ (a : Addr) (zs : List V), ys[i]? = some (.ref a) ∧ a ≠ p ∧ H0 a = none ∧ H a = some (.lst zs) ∧ Pks H zs (rowP ws (i + 1))) ∧
  ∀ (i j : Nat) (a : Addr), ys[i]? = some (.ref a) → ys[j]? = some (.ref a) → i = j
def RetRows (ws : List Nat) (b : Nat) (H : Hp) (Q : VK) : Prop := ∀ p ys H2, H p = none → Ex H H2 → H2 p = some (.lst ys) → RowsAt H H2 p ys ws b → Q (.ref p) H2
end Sl

/-! ### min of a list of pairs of whole numbers -/
namespace Sl
open PySem PySem.Spec PyProof.Rows L2 Evl
def lexI (p q : Int × Int) : Prop := p.1 < q.1 ∨ (p.1 = q.1 ∧ p.2 < q.2)
instance (p q : Int × Int) : Decidable (lexI p q) := by unfold lexI; infer_instance
def dI2 (q : Int × Int) : PyData := .tuple [.int q.1, .int q.2]
theorem dI2_lt (p q : Int × Int) : PySem.W.dataLt (dI2 p) (dI2 q) = decide (lexI p q) := PySem.W.dataLt_ii _ _ _ _
def minP (x : Int × Int) (l : List (Int × Int)) : Int × Int := l.foldl (fun a y => if lexI y a then y else a) x
theorem minP_data : ∀ (l : List (Int × Int)) (x : Int × Int), PySem.W.minD (dI2 x) (l.map dI2) = dI2 (minP x l)
  | [], _ => rfl
  | y :: r, x => by
    show PySem.W.minD (if PySem.W.dataLt (dI2 y) (dI2 x) then dI2 y else dI2 x) (r.map dI2) = dI2 (minP (if lexI y x then y else x) r)
    rw [dI2_lt]
    by_cases h : lexI y x
    · rw [if_pos (decide_eq_true h), if_pos h]
      exact minP_data r y
    · rw [if_neg (by rw [decide_eq_false h]; decide), if_neg h]
      exact minP_data r x
theorem lexI_irr (p : Int × Int) : ¬ lexI p p := fun h => by
  unfold lexI at h
  omega
theorem lexI_tr {p q r : Int × Int} (h : lexI q p) (k : ¬ lexI r p) : lexI q r ∨ q = r ∨ lexI q r := by
  unfold lexI at *
  omega
theorem minP_le : ∀ (l : List (Int × Int)) (x : Int × Int), ∀ p ∈ x :: l, ¬ lexI p (minP x l)
  | [], x, p, hp => by
    rw [List.mem_singleton.mp hp]
    exact lexI_irr _
  | y :: r, x, p, hp => by
    show ¬ lexI p (minP (if lexI y x then y else x) r)
    by_cases h : lexI y x
    · rw [if_pos h]
      have ih := minP_le r y
      rcases List.mem_cons.mp hp with rfl | hp
      · have := ih y List.mem_cons_self
        unfold lexI at *
        omega
      · exact ih p hp
    · rw [if_neg h]
      have ih := minP_le r x
      rcases List.mem_cons.mp hp with rfl | hp
      · exact ih p List.mem_cons_self
      · rcases List.mem_cons.mp hp with rfl | hp
        · have := ih x List.mem_cons_self
          unfold lexI at *
          omega
        · exact ih p (List.mem_cons_of_mem _ hp)
def rMinP (K : PySem.W.Frag) : List V → Hp → VK → Prop := fun vs H Q => ∃ (a : Addr) (ys : List V) (qs : List (Int × Int)), vs = [V.ref a] ∧ SqL K H a ys ∧ Tups H ys qs ∧ qs ≠ [] ∧
  ∀ (i : Nat) (q : Int × Int) (t : Addr), qs[i]? = some q → ys[i]? = some (.ref t) → (∀ p ∈ qs, ¬ lexI p q) → Q (.ref t) H
theorem Tups.dps {K : PySem.W.Frag} {H : Hp} : ∀ {ys : List V} {qs : List (Int × Int)}, Tups H ys qs → DpAll K H ys (qs.map dI2)
  | [], [], _ => .nil
  | [], _ :: _, h => by have := h.1; simp at this
  | _ :: _, [], h => by have := h.1; simp at this
  | y :: ys, q :: qs, h => by
    obtain ⟨t, h1, h2⟩ := h.2 0 q rfl
    cases h1
    exact .cons (.tup (st_of h2) (.cons (.int _) (.cons (.int _) .nil))) (Tups.dps ⟨by simpa using h.1, fun i q hq => h.2 (i + 1) q hq⟩)
theorem alike_I2 (p q : Int × Int) : PySem.W.alike (dI2 p) (dI2 q) = true := by
  unfold dI2
  simp [PySem.W.alike, PySem.W.alikeAll]
theorem vals_at {xs : List V} {us : List Value} (r : Vals xs us) : ∀ {i : Nat} {u : Value}, us[i]? = some u → ∃ x, xs[i]? = some x ∧ RelV x u := by
  induction r with
  | nil => intro i u h; simp at h
  | cons h r ih =>
    intro i u hu
    cases i with
    | zero =>
      cases hu
      exact ⟨_, rfl, h⟩
    | succ i => exact ih hu
theorem cr_minP {X : Cx} (hc : X.calm = true) (hu : X.A.units + 64 < cLine) : CallR X (.builtin "min") (rMinP X.K) := by
  intro pins s σ H vs us Q I r h
  obtain ⟨a, ys, qs, rfl, hs, ht, hne, q⟩ := h
  obtain ⟨its, rv, hl, _⟩ := I.list hs
  rw [Vals.ref1 r]
  obtain ⟨as, hr⟩ := Dp.readsAll I (qs.map dI2) ys its ht.dps rv
  cases qs with
  | nil => exact absurd rfl hne
  | cons q0 qr =>
    have dep : PyData.depthAll ((q0 :: qr).map dI2) ≤ 2 := by
      refine (lay_all (n := 2) fun d hd => ?_).2
      obtain ⟨p, _, rfl⟩ := List.mem_map.mp hd
      unfold dI2
      refine ⟨rfl, ?_⟩
      show PyData.depthAll [PyData.int p.1, PyData.int p.2] + 1 ≤ 2
      have : PyData.depthAll [PyData.int p.1, PyData.int p.2] = 0 := rfl
      omega
    refine PySem.W.min_list_data (x := dI2 q0) (xs := qr.map dI2) (I.ok.hd hc) hl.isList (by simpa using hr) ⟨fun x hx y hy => ?_, fun x hx => ?_⟩ (by
      have : PyData.depthAll (dI2 q0 :: qr.map dI2) ≤ 2 := dep
      omega) fun i v h' tk bs hv hm hk => ?_
    · rw [← List.map_cons] at hx hy
      obtain ⟨p, _, rfl⟩ := List.mem_map.mp hx
      obtain ⟨p', _, rfl⟩ := List.mem_map.mp hy
      exact alike_I2 _ _
    · rw [← List.map_cons] at hx
      obtain ⟨p, _, rfl⟩ := List.mem_map.mp hx
      exact fun z => by cases z
    · have hv' : its[i]? = some v := by simpa using hv
      obtain ⟨x, hx, rx⟩ := vals_at rv hv'
      obtain ⟨cs, r1, hlt, _, _⟩ := PySem.W.readsAll_at hr i v hv'
      have hi : i < (q0 :: qr).length := by simpa using hlt
      obtain ⟨t, h1, h2⟩ := ht.2 i (q0 :: qr)[i] (List.getElem?_eq_getElem hi)
      rw [h1] at hx
      cases hx
      cases rx
      have eg : ((q0 :: qr).map dI2).getD i .none = dI2 (q0 :: qr)[i] := by
        rw [List.getD_eq_getElem?_getD, List.getElem?_map, List.getElem?_eq_getElem hi]
        rfl
      rw [eg] at r1
      rw [minP_data] at hm
      have e := PySem.W.alike_unique _ _ _ _ _ (alike_I2 _ _) hm (PySem.W.reads_keeps hk r1)
      have e2 : minP q0 qr = (q0 :: qr)[i] := by
        have e := e
        unfold dI2 at e
        injection e with e
        injection e with e3 e
        injection e with e4 _
        injection e3 with e3
        injection e4 with e4
        exact Prod.ext e3 e4
      refine ⟨V.ref t, H, I.kept hk, rfl, q i _ t (List.getElem?_eq_getElem hi) h1 ?_⟩
      rw [← e2]
      exact minP_le qr q0
end Sl

/-! ### comprehensions over any walk; the table in the heap -/
namespace Sl
open PySem L2 Evl
section
variable {K : PySem.W.Frag} {σ : L2.St} {H H' : Hp} {ta tb te tl td ty : TE} {x y z v : V} {D : Ends} {g : TG} {tu tz : TS} {wi : TI}
/-- gives some value of which R holds -/
def EvR (te : TE) (σ : L2.St) (H : Hp) (R : V → Hp → Prop) : Prop := ∀ H1, Ex H H1 → ∀ Q : VK, (∀ y H2, Ex H1 H2 → R y H2 → Q y H2) → te σ H1 Q
def TupIs (xs : List V) (y : V) (H : Hp) : Prop := ∃ t, y = .ref t ∧ H t = some (.tup xs)
theorem TupIs.mono {xs : List V} (e : Ex H H') (h : TupIs xs y H) : TupIs xs y H' := by
  obtain ⟨t, h1, h2⟩ := h
  exact ⟨t, h1, e _ _ h2⟩
theorem TupIs.upd {xs zs : List V} {b : Addr} {o : HO} (hb : H b = some (.lst zs)) (h : TupIs xs y H) : TupIs xs y (upd H b o) := by
  obtain ⟨t, h1, h2⟩ := h
  exact ⟨t, h1, by rw [upd_ne fun z => by rw [z, hb] at h2; cases h2]; exact h2⟩
theorem EvU.toR {xs : List V} (h : EvU te σ H xs) : EvR te σ H (TupIs xs) := fun H1 e Q q => h H1 e Q fun p H2 _ e2 h2 => q _ H2 e2 ⟨p, rfl, h2⟩
theorem Ev.toR (h : Ev te σ H v) : EvR te σ H fun y _ => y = v := fun H1 e Q q => h H1 e Q fun H2 e2 => q _ H2 e2 rfl
/-- what is walked -/
def EvI (wi : TI) (σ : L2.St) (H : Hp) (J : It) : Prop := ∀ H1, Ex H H1 → ∀ R : It → Hp → Prop, (∀ H2, Ex H1 H2 → R J H2) → wi σ H1 R
theorem ei_rng2 {t : TA} {i j : Int} (h : EvA t σ H [.int i, .int j]) (hi : -100000 ≤ i ∧ i ≤ 100000) (hj : -100000 ≤ j ∧ j ≤ 100000) : EvI (iRng2 t) σ H (Itr i (j - i).toNat) := fun H1 e R r =>
  h H1 e _ fun H2 e2 => ⟨i, j, rfl, ⟨by omega, by omega, by omega, by omega⟩, r H2 e2⟩
theorem ei_rng1 {t : TA} {j : Int} (h : EvA t σ H [.int j]) (hj : -100000 ≤ j ∧ j ≤ 100000) : EvI (iRng1 t) σ H (Itr 0 j.toNat) := fun H1 e R r =>
  h H1 e _ fun H2 e2 => ⟨j, rfl, by omega, by omega, r H2 e2⟩
theorem ei_list {a : Addr} {xs : List V} (h : Ev tl σ H (.ref a)) (hS : SqL K H a xs) : EvI (iList K tl) σ H (Itl K a) := fun H1 e R r =>
  h H1 e _ fun H2 e2 => ⟨a, rfl, ⟨xs, ex_l (e.trans e2) hS⟩, r H2 e2⟩
theorem ei_enum {t : TA} {a : Addr} {xs : List V} (h : EvA t σ H [.ref a]) (hS : SqL K H a xs) : EvI (iEnum K t) σ H (Ite K a) := fun H1 e R r =>
  h H1 e _ fun H2 e2 => ⟨a, xs, rfl, ex_l (e.trans e2) hS, r H2 e2⟩
/-- a comprehension that takes all, over any walk, from where it begins: R says what stands at each place -/
theorem lcAll_at {J : It} {n : Nat} {G : Hp → Prop} {Y : Nat → Hp → V → Hp → Prop} {vs : List Nat} {H1 : Hp} {Q : VK} (w : Walk J n G Y) (R : Nat → V → Hp → Prop) (mono : ∀ i y H H', Ex H H' → R i y H → R i y H') (updS : ∀ i y H b xs o, H b = some (.lst xs) → R i y H → R i y (upd H b o))
    (hG : ∀ H2, Ex H1 H2 → G H2) (hn : n ≤ 40000)
    (turn : ∀ i x H2 H3, i < n → Ex H1 H2 → Y i H2 x H3 → Ex H2 H3 ∧ ∃ σ2, (∀ q : L2.St → Hp → Prop, q σ2 H3 → g x (wipe σ vs) H3 q) ∧ wipe σ2 vs = wipe σ vs ∧ EvR te σ2 H3 (R i))
    (q : ∀ p ys H2, H1 p = none → Ex H1 H2 → H2 p = some (.lst ys) → ys.length = n → (∀ i y, ys[i]? = some y → R i y H2) → Q (.ref p) H2) :
    ∀ Dl, H1 Dl = none → ∃ W : Nat → Nat → Hp → Prop, (∃ m, W 0 m (upd H1 Dl (.lst []))) ∧ ∀ i m H, W i m H →
      (J.stop i H ∧ Q (.ref Dl) H) ∨ (J.go i H ∧ ∃ Nx : Hp → Prop, (∀ H', Nx H' → ∃ m', m' < m ∧ W (i + 1) m' H') ∧ ∀ x H', J.yld i H x H' → g x (wipe σ vs) H' fun σ2 H2 => wipe σ2 vs = wipe σ vs ∧ tYes σ2 H2 fun b H3 =>
        if b = true then te σ2 H3 fun y H4 => ∃ acc, H4 Dl = some (.lst acc) ∧ acc.length < sizeLine ∧ Nx (upd H4 Dl (.lst (acc ++ [y]))) else Nx H3) := fun Dl hD => by
  refine lc_it w (fun i H2 => Ex H1 H2 ∧ ∃ ys, H2 Dl = some (.lst ys) ∧ ys.length = i ∧ ∀ j y, ys[j]? = some y → R j y H2) ⟨Ex.new hD, [], upd_same, rfl, fun j y hj => by simp at hj⟩ (fun i H2 _ p => hG _ p.1) (fun i x H2 H3 hi p y => ?_) fun H2 p => ?_
  · obtain ⟨e2, ys, hd, hl, hr⟩ := p
    obtain ⟨e3, σ2, hg, hw, he⟩ := turn i x H2 H3 hi e2 y
    refine hg _ ⟨hw, ?_⟩
    refine he H3 (Ex.refl _) _ fun z H4 e4 hz => ?_
    have hd4 := e4 _ _ (e3 _ _ hd)
    refine ⟨ys, hd4, sz_lt (by omega), Ex.mut ((e2.trans e3).trans e4) hD, ys ++ [z], upd_same, by rw [List.length_append, hl]; rfl, fun j y' hj => ?_⟩
    by_cases hlt : j < ys.length
    · rw [List.getElem?_append_left hlt] at hj
      exact updS _ _ _ _ _ _ hd4 (mono _ _ _ _ (e3.trans e4) (hr j y' hj))
    · rw [List.getElem?_append_right (by omega)] at hj
      have ej : j = i := by
        have := (List.getElem?_eq_some_iff.mp hj).1
        simp at this
        omega
      subst ej
      rw [show j - ys.length = 0 by omega] at hj
      cases hj
      exact updS _ _ _ _ _ _ hd4 hz
  · obtain ⟨e2, ys, hd, hl, hr⟩ := p
    exact q Dl ys H2 hD e2 hd hl hr
theorem ex_lcAll {J : It} {n : Nat} {G : Hp → Prop} {Y : Nat → Hp → V → Hp → Prop} {vs : List Nat} (w : Walk J n G Y) (R : Nat → V → Hp → Prop) (mono : ∀ i y H H', Ex H H' → R i y H → R i y H') (updS : ∀ i y H b xs o, H b = some (.lst xs) → R i y H → R i y (upd H b o))
    (hI : EvI wi σ H J) (hG : ∀ H1, Ex H H1 → G H1) (hn : n ≤ 40000)
    (turn : ∀ i x H1 H2, i < n → Ex H H1 → Y i H1 x H2 → Ex H1 H2 ∧ ∃ σ2, (∀ q : L2.St → Hp → Prop, q σ2 H2 → g x (wipe σ vs) H2 q) ∧ wipe σ2 vs = wipe σ vs ∧ EvR te σ2 H2 (R i)) :
    EvX (tLc wi g tYes te vs) σ H fun ys H2 => ys.length = n ∧ ∀ i y, ys[i]? = some y → R i y H2 := fun H0 e0 Q q =>
  hI H0 e0 _ fun H1 e1 => lcAll_at w R mono updS (fun H2 e => hG _ ((e0.trans e1).trans e)) hn (fun i x H2 H3 hi e y => turn i x H2 H3 hi ((e0.trans e1).trans e) y) fun p ys H2 hp e2 h2 hl hr => q p ys H2 (fresh_back e1 hp) (e1.trans e2) h2 ⟨hl, hr⟩
/-- over zip of two new lists -/
theorem ex_lcZip {xs ys : List V} {n s l : Nat} {vs : List Nat} (ha : EvL ta σ H xs) (hb : EvL tb σ H ys) (hn : n = min xs.length ys.length) (h4 : n ≤ 40000) (R : Nat → V → Hp → Prop) (mono : ∀ i y H H', Ex H H' → R i y H → R i y H') (updS : ∀ i y H b xs o, H b = some (.lst xs) → R i y H → R i y (upd H b o))
    (hw : ∀ v w, wipe (((wipe σ vs).set s (some v)).set l (some w)) vs = wipe σ vs) (turn : ∀ (i : Nat) (x y : V) H1, i < n → Ex H H1 → xs[i]? = some x → ys[i]? = some y → EvR te (((wipe σ vs).set s (some x)).set l (some y)) H1 (R i)) :
    EvX (tLc (iZip K (tCons ta (tCons tb tNil))) (gTup K 2 (gCons (gName s) (gCons (gName l) gNil))) tYes te vs) σ H fun zs H2 => zs.length = n ∧ ∀ i y, zs[i]? = some y → R i y H2 := fun H0 e0 Q q =>
  ha H0 e0 _ fun pa H1 npa e1 h1 => hb H1 (e0.trans e1) _ fun pb H2 npb e2 h2 => by
    have e12 := e1.trans e2
    refine ⟨pa, pb, xs, ys, rfl, sq_of (e2 _ _ h1), sq_of h2, lcAll_at (walk_zip (K := K) (a := pa) (b := pb) hn) R mono updS (fun H3 e => ⟨sq_of (e _ _ (e2 _ _ h1)), sq_of (e _ _ h2)⟩) h4 (fun i v H3 H4 hi e y => ?_) fun p zs H3 hp e h3 hl hr => q p zs H3 (fresh_back e12 hp) (e12.trans e) h3 ⟨hl, hr⟩⟩
    obtain ⟨T, x, z, rfl, hT, rfl, hx, hz⟩ := y
    exact ⟨Ex.new hT, _, fun q hq => ⟨T, [x, z], rfl, .inl (.inl upd_same), rfl, x, [z], rfl, z, [], rfl, rfl, hq⟩, hw _ _, turn i x z _ hi ((e0.trans e12).trans (e.trans (Ex.new hT))) hx hz⟩
/-- over zip of two lists -/
theorem ex_lcZipV {a b : Addr} {xs ys : List V} {n s l : Nat} {vs : List Nat} (ha : Ev ta σ H (.ref a)) (hb : Ev tb σ H (.ref b)) (hA : SqL K H a xs) (hB : SqL K H b ys) (hn : n = min xs.length ys.length) (h4 : n ≤ 40000) (R : Nat → V → Hp → Prop) (mono : ∀ i y H H', Ex H H' → R i y H → R i y H') (updS : ∀ i y H b xs o, H b = some (.lst xs) → R i y H → R i y (upd H b o))
    (hw : ∀ v w, wipe (((wipe σ vs).set s (some v)).set l (some w)) vs = wipe σ vs) (turn : ∀ (i : Nat) (x y : V) H1, i < n → Ex H H1 → xs[i]? = some x → ys[i]? = some y → EvR te (((wipe σ vs).set s (some x)).set l (some y)) H1 (R i)) :
    EvX (tLc (iZip K (tCons ta (tCons tb tNil))) (gTup K 2 (gCons (gName s) (gCons (gName l) gNil))) tYes te vs) σ H fun zs H2 => zs.length = n ∧ ∀ i y, zs[i]? = some y → R i y H2 := fun H0 e0 Q q =>
  ha H0 e0 _ fun H1 e1 => hb H1 (e0.trans e1) _ fun H2 e2 => by
    have e02 := (e0.trans e1).trans e2
    refine ⟨a, b, xs, ys, rfl, ex_l e02 hA, ex_l e02 hB, lcAll_at (walk_zip (K := K) (a := a) (b := b) hn) R mono updS (fun H3 e => ⟨ex_l (e02.trans e) hA, ex_l (e02.trans e) hB⟩) h4 (fun i v H3 H4 hi e y => ?_) fun p zs H3 hp e h3 hl hr => q p zs H3 (fresh_back (e1.trans e2) hp) ((e1.trans e2).trans e) h3 ⟨hl, hr⟩⟩
    obtain ⟨T, x, z, rfl, hT, rfl, hx, hz⟩ := y
    exact ⟨Ex.new hT, _, fun q hq => ⟨T, [x, z], rfl, .inl (.inl upd_same), rfl, x, [z], rfl, z, [], rfl, rfl, hq⟩, hw _ _, turn i x z _ hi (e02.trans (e.trans (Ex.new hT))) hx hz⟩
/-- over enumerate of a list -/
theorem ex_lcEn {a : Addr} {xs : List V} {s l : Nat} {vs : List Nat} {t : TA} (ha : EvA t σ H [.ref a]) (hA : SqL K H a xs) (h4 : xs.length ≤ 40000) (R : Nat → V → Hp → Prop) (mono : ∀ i y H H', Ex H H' → R i y H → R i y H') (updS : ∀ i y H b xs o, H b = some (.lst xs) → R i y H → R i y (upd H b o))
    (hw : ∀ v w, wipe (((wipe σ vs).set s (some v)).set l (some w)) vs = wipe σ vs) (turn : ∀ (i : Nat) (x : V) H1, Ex H H1 → xs[i]? = some x → EvR te (((wipe σ vs).set s (some (.int (i : Nat)))).set l (some x)) H1 (R i)) :
    EvX (tLc (iEnum K t) (gTup K 2 (gCons (gName s) (gCons (gName l) gNil))) tYes te vs) σ H fun zs H2 => zs.length = xs.length ∧ ∀ i y, zs[i]? = some y → R i y H2 := fun H0 e0 Q q =>
  ha H0 e0 _ fun H1 e1 => by
    have e01 := e0.trans e1
    refine ⟨a, xs, rfl, ex_l e01 hA, lcAll_at (walk_enum (K := K) (a := a) (xs := xs)) R mono updS (fun H3 e => ex_l (e01.trans e) hA) h4 (fun i v H3 H4 hi e y => ?_) fun p zs H3 hp e h3 hl hr => q p zs H3 (fresh_back e1 hp) (e1.trans e) h3 ⟨hl, hr⟩⟩
    obtain ⟨T, x, z, rfl, hT, rfl, hx, hz⟩ := y
    have hx : V.int ((i : Nat) : Int) = x := Option.some.inj hx
    subst hx
    exact ⟨Ex.new hT, _, fun q hq => ⟨T, [_, z], rfl, .inl (.inl upd_same), rfl, _, [z], rfl, z, [], rfl, rfl, hq⟩, hw _ _, turn i z _ (e01.trans (e.trans (Ex.new hT))) hz⟩
theorem er_call {sp : Sp} {dvs vs : List V} {E : XK} {ta : TA} {R : V → Hp → Prop} (h : EvA ta σ H vs) (hs : ∀ H1, Ex H H1 → ∀ Q : VK, (∀ y H2, Ex H1 H2 → R y H2 → Q y H2) → sp (vs ++ dvs) H1 Q E) : EvR (tCall sp dvs E ta) σ H R := fun H1 e Q q =>
  h H1 e _ fun H2 e2 => hs H2 (e.trans e2) Q fun y H3 e3 r => q y H3 (e2.trans e3) r
theorem s_retX {R : List V → Hp → Prop} (h : EvX te σ H R) (k : ∀ p ys H1, H p = none → Ex H H1 → H1 p = some (.lst ys) → R ys H1 → D.rt (.ref p) H1) : tRet te D σ H := h H (Ex.refl H) _ fun p ys H1 hp e h1 r => k p ys H1 hp e h1 r
theorem s_asgX {i : Nat} {R : List V → Hp → Prop} (h : EvX te σ H R) (k : ∀ p ys H1, H p = none → Ex H H1 → H1 p = some (.lst ys) → R ys H1 → D.nx (σ.set i (some (.ref p))) H1) : tAsg te (gName i) D σ H := h H (Ex.refl H) _ fun p ys H1 hp e h1 r => k p ys H1 hp e h1 r
theorem q_asgX {i : Nat} {R : List V → Hp → Prop} (h : EvX te σ H R) (k : ∀ p ys H1, H p = none → Ex H H1 → H1 p = some (.lst ys) → R ys H1 → tz D (σ.set i (some (.ref p))) H1) : tSeq (tAsg te (gName i)) tz D σ H := s_asgX (D := { D with nx := tz D }) h k
/-- a built-in over a new list, given back -/
theorem s_retCB {r : List V → Hp → VK → Prop} {xs : List V} (h : EvL ta σ H xs) (k : ∀ p H1, H p = none → Ex H H1 → H1 p = some (.lst xs) → r [.ref p] H1 D.rt) : tRet (tCB r (tCons ta tNil)) D σ H := h H (Ex.refl H) _ k
/-- any target takes what a call gives -/
theorem q_callG {sp : Sp} {dvs vs : List V} {E : XK} {tr : TA} (h : EvA tr σ H vs) (k : ∀ H1, Ex H H1 → sp (vs ++ dvs) H1 (fun v H2 => g v σ H2 fun σ' H' => tz D σ' H') E) : tSeq (tAsg (tCall sp dvs E tr) g) tz D σ H := h H (Ex.refl H) _ k
/-- two lists joined -/
theorem el_cat2 {a b : Addr} {xs ys : List V} (ha : Ev ta σ H (.ref a)) (hb : Ev tb σ H (.ref b)) (h1 : H a = some (.lst xs)) (h2 : H b = some (.lst ys)) (hl : xs.length + ys.length ≤ 100000) : EvL (tOp rCat ta tb) σ H (xs ++ ys) := fun H1 e Q q =>
  ha H1 e _ fun H2 e2 => hb H2 (e.trans e2) _ fun H3 e3 => ⟨a, b, xs, ys, rfl, rfl, ((e.trans e2).trans e3) _ _ h1, ((e.trans e2).trans e3) _ _ h2, sz_of hl, fun l hl' => q l _ (fresh_back (e2.trans e3) hl') ((e2.trans e3).trans (Ex.new hl')) upd_same⟩
theorem s_retCall {sp : Sp} {dvs vs : List V} {E : XK} {tr : TA} (h : EvA tr σ H vs) (k : ∀ H1, Ex H H1 → sp (vs ++ dvs) H1 D.rt E) : tRet (tCall sp dvs E tr) D σ H := h H (Ex.refl H) _ k
/-- a list of one new tuple -/
theorem ex_lst1 {xs : List V} (h : EvU te σ H xs) : EvX (tLst (tCons te tNil)) σ H fun ys H2 => ∃ t, ys = [.ref t] ∧ H2 t = some (.tup xs) := fun H1 e Q q =>
  h H1 e _ fun t H2 ht e2 h2 => ⟨sz_of (by show 1 ≤ 100000; decide), fun l hl => q l _ _ (fresh_back e2 hl) (e2.trans (Ex.new hl)) upd_same ⟨t, rfl, Ex.new hl _ _ h2⟩⟩
/-- xs.pop(), what stands there -/
theorem ev_popAny {l : Addr} {xs : List V} {y : V} {Q : VK} (ha : Ev ta σ H (.ref l)) (h : H l = some (.lst xs)) (hy : xs[xs.length - 1]? = some y) (k : ∀ H1, Ex H H1 → Q y (upd H1 l (.lst xs.dropLast))) : tBM0 K "list" rPop ta σ H Q :=
  ha H (Ex.refl H) _ fun H1 e1 => ⟨Or.inl ⟨rfl, xs, sq_of (e1 _ _ h)⟩, l, xs, y, rfl, rfl, e1 _ _ h, hy, k H1 e1⟩
theorem q_popG {l : Addr} {xs : List V} {y : V} (ha : Ev ta σ H (.ref l)) (h : H l = some (.lst xs)) (hy : xs[xs.length - 1]? = some y) (k : ∀ H1, Ex H H1 → g y σ (upd H1 l (.lst xs.dropLast)) fun σ' H' => tz D σ' H') : tSeq (tAsg (tBM0 K "list" rPop ta) g) tz D σ H := ev_popAny ha h hy k
theorem rv_isN : RV (fun x y H Q => y = .non ∧ Q (.bl (decide (x = .non))) H) x .non H (.bl (decide (x = .non))) := fun H1 _ _ q => ⟨rfl, q H1 (Ex.refl H1)⟩
theorem rv_notN : RV (fun x y H Q => y = .non ∧ Q (.bl (!decide (x = .non))) H) x .non H (.bl (!decide (x = .non))) := fun H1 _ _ q => ⟨rfl, q H1 (Ex.refl H1)⟩
/-! the table -/
def oV : Option Nat → V
  | none => .non
  | some n => .int (n : Int)
def key3 (f l d : Nat) : List Key := [.inl (f : Int), .inl (l : Int), .inl (d : Int)]
theorem key3_inj {f l d f' l' d' : Nat} (h : key3 f l d = key3 f' l' d') : f = f' ∧ l = l' ∧ d = d' := by
  unfold key3 at h
  injection h with h1 h
  injection h with h2 h
  injection h with h3 _
  injection h1 with h1
  injection h2 with h2
  injection h3 with h3
  omega
theorem ev_dget {p : Addr} {kvs : List (List Key × V)} {k : List Key} (hd : Ev td σ H (.ref p)) (hk : H p = some (.dT kvs)) (hu : EvU ty σ H (k.map kV)) (hv : valV kvs k = some v) : Ev (tDGet td ty) σ H v := fun H1 e Q q =>
  hd H1 e _ fun H2 e2 => hu H2 (e.trans e2) _ fun t H3 _ e3 h3 => ⟨p, v, rfl, by rw [← hv]; exact DGet.t (((e.trans e2).trans e3) _ _ hk) h3, q H3 (e2.trans e3)⟩
/-- d[k] = v -/
theorem s_dput {p : Addr} {kvs : List (List Key × V)} {k : List Key} {tv : TE} (hp : H p = some (.dT kvs)) (hv : Ev tv σ H v) (hd : Ev td σ H (.ref p)) (hu : EvU ty σ H (k.map kV)) (hz : kvs.length < 100000)
    (k' : ∀ H1, Ex H H1 → D.nx σ (upd H1 p (.dT (putK kvs k v)))) : sDPut td ty tv D σ H :=
  hv H (Ex.refl H) _ fun H1 e1 => hd H1 e1 _ fun H2 e2 => hu H2 (e1.trans e2) _ fun t H3 _ e3 h3 => ⟨p, _, rfl, DPut.t (((e1.trans e2).trans e3) _ _ hp) h3 (sz_lt hz), k' H3 ((e1.trans e2).trans e3)⟩
end
/-- all runs and depths up to d are told -/
def TabUp (kvs : List (List Key × V)) (ws : List Nat) (d : Nat) : Prop := ∀ f l e, f < l → l ≤ ws.length → e ≤ d → valV kvs (key3 f l e) = some (oV (val ws e f l))
theorem TabUp.less {kvs : List (List Key × V)} {ws : List Nat} {d e : Nat} (h : TabUp kvs ws d) (he : e ≤ d) : TabUp kvs ws e := fun f l c h1 h2 h3 => h f l c h1 h2 (Nat.le_trans h3 he)
/-- the least pair tells the best way and the first place of it -/
theorem best_pick {W : List (Option Nat)} {c i v : Nat} (h : W[i]? = some (some v)) (hm : ∀ (j u : Nat), W[j]? = some (some u) → ¬ lexI ((u : Int), ((c + j : Nat) : Int)) ((v : Int), ((c + i : Nat) : Int))) : bestOf W = some v ∧ W.findIdx (fun o => o == bestOf W) = i := by
  obtain ⟨b, hb, hle⟩ := bestOf_le (List.mem_of_getElem? h)
  obtain ⟨hx⟩ : True := trivial
  have hx : ∃ x ∈ W, (x == bestOf W) = true := ⟨some b, bestOf_mem hb, by rw [hb]; simp⟩
  have hlt := List.findIdx_lt_length_of_exists hx
  have hg := List.findIdx_getElem (w := hlt)
  have hgb : W[W.findIdx (fun o => o == bestOf W)] = some b := (eq_of_beq hg).trans hb
  have no := hm (W.findIdx (fun o => o == bestOf W)) b (by rw [List.getElem?_eq_getElem hlt, hgb])
  have le : W.findIdx (fun o => o == bestOf W) ≤ i := by
    refine Nat.le_of_not_lt fun z => ?_
    by_cases hv : v = b
    · have nf := List.not_of_lt_findIdx z
      rw [show W[i] = some v from (List.getElem?_eq_some_iff.mp h).2, hb, hv] at nf
      simp at nf
    · exact no (by unfold lexI; left; show (b : Int) < (v : Int); omega)
  have ev : v = b := by
    refine Nat.le_antisymm (Nat.le_of_not_lt fun z => no (by unfold lexI; left; show (b : Int) < (v : Int); omega)) hle
  refine ⟨by rw [hb, ev], Nat.le_antisymm le (Nat.le_of_not_lt fun z => no ?_)⟩
  unfold lexI
  right
  refine ⟨by show (b : Int) = (v : Int); omega, ?_⟩
  show ((c + W.findIdx (fun o => o == bestOf W) : Nat) : Int) < ((c + i : Nat) : Int)
  omega
end Sl

/-! ### lists whose items are told one by one -/
namespace Sl
open PySem L2 Evl
def AtAll {β : Type} (R : β → V → Hp → Prop) (zs : List V) (bs : List β) (H : Hp) : Prop := zs.length = bs.length ∧ ∀ (i : Nat) (b : β), bs[i]? = some b → ∃ z, zs[i]? = some z ∧ R b z H
section
variable {β : Type} {R : β → V → Hp → Prop} {zs : List V} {bs : List β} {H H' : Hp}
theorem AtAll.nil : AtAll R [] [] H := ⟨rfl, fun i b h => by simp at h⟩
theorem AtAll.mono (hm : ∀ b z, R b z H → R b z H') (h : AtAll R zs bs H) : AtAll R zs bs H' := ⟨h.1, fun i b hb => by
  obtain ⟨z, h1, h2⟩ := h.2 i b hb
  exact ⟨z, h1, hm _ _ h2⟩⟩
theorem AtAll.snoc {b : β} {z : V} (h : AtAll R zs bs H) (k : R b z H) : AtAll R (zs ++ [z]) (bs ++ [b]) H := by
  refine ⟨by rw [List.length_append, List.length_append, h.1]; rfl, fun i c hc => ?_⟩
  by_cases hi : i < bs.length
  · rw [List.getElem?_append_left hi] at hc
    rw [List.getElem?_append_left (by rw [h.1]; exact hi)]
    exact h.2 i c hc
  · rw [List.getElem?_append_right (by omega)] at hc
    have e : i - bs.length = 0 := by
      have := (List.getElem?_eq_some_iff.mp hc).1
      simp at this
      omega
    rw [e] at hc
    cases hc
    exact ⟨z, by rw [List.getElem?_append_right (by rw [h.1]; omega), h.1, e]; rfl, k⟩
theorem AtAll.pop {b : β} (h : AtAll R zs (bs ++ [b]) H) : ∃ z, zs[zs.length - 1]? = some z ∧ R b z H ∧ AtAll R zs.dropLast bs H := by
  have hl : zs.length = bs.length + 1 := by rw [h.1, List.length_append]; rfl
  obtain ⟨z, h1, h2⟩ := h.2 bs.length b (by rw [List.getElem?_append_right (Nat.le_refl _), Nat.sub_self]; rfl)
  refine ⟨z, by rw [hl]; exact h1, h2, by rw [List.length_dropLast, hl]; rfl, fun i c hc => ?_⟩
  have hi := (List.getElem?_eq_some_iff.mp hc).1
  obtain ⟨y, k1, k2⟩ := h.2 i c (by rw [List.getElem?_append_left hi]; exact hc)
  exact ⟨y, by rw [List.getElem?_dropLast, if_pos (by omega)]; exact k1, k2⟩
end
/-! runs still to be parted -/
abbrev Rn := Nat × Nat × Nat
def RnIs (r : Rn) (z : V) (H : Hp) : Prop := TupIs [.int (r.1 : Int), .int (r.2.1 : Int), .int (r.2.2 : Int)] z H
def GoodR (ws : List Nat) (b : Nat) (r : Rn) : Prop := r.1 < r.2.1 ∧ r.2.1 ≤ ws.length ∧ r.2.2 ≤ b ∧ ∃ v, val ws r.2.2 r.1 r.2.1 = some v
def remO (ws : List Nat) (k : Nat) (r : Rn) : Nat := if r.1 ≤ k ∧ k < r.2.1 then (cut ws r.2.2 r.1 r.2.1).getD (k - r.1) 0 else 0
def remR (ws : List Nat) (rs : List Rn) (k : Nat) : Nat := (rs.map (remO ws k)).sum
def sizR (rs : List Rn) : Nat := (rs.map fun r => 2 * (r.2.1 - r.1) - 1).sum
theorem remR_app (ws : List Nat) (a b : List Rn) (k : Nat) : remR ws (a ++ b) k = remR ws a k + remR ws b k := by
  unfold remR
  rw [List.map_append, List.sum_append]
theorem sizR_app (a b : List Rn) : sizR (a ++ b) = sizR a + sizR b := by
  unfold sizR
  rw [List.map_append, List.sum_append]
theorem getD_app {a b : List Nat} {i : Nat} : (a ++ b).getD i 0 = if i < a.length then a.getD i 0 else b.getD (i - a.length) 0 := by
  rw [List.getD_eq_getElem?_getD]
  split
  · rename_i h
    rw [List.getElem?_append_left h, List.getD_eq_getElem?_getD]
  · rename_i h
    rw [List.getElem?_append_right (by omega), List.getD_eq_getElem?_getD]
theorem rem_one (ws : List Nat) {f l d : Nat} (h : f < l) (q : l ≤ f + 1) (k : Nat) : remO ws k (f, l, d) = 0 := by
  have ec : cut ws d f l = [0] := by
    have e : l - f = 1 := by omega
    cases d with
    | zero => show List.replicate (l - f) 0 = [0]; rw [e]; rfl
    | succ d => show (if l ≤ f + 1 then List.replicate (l - f) 0 else _) = [0]; rw [if_pos q, e]; rfl
  unfold remO
  split
  · rename_i c
    show (cut ws d f l).getD (k - f) 0 = 0
    rw [ec]
    have c' : f ≤ k ∧ k < l := c
    rw [show k - f = 0 by omega]
    rfl
  · rfl
theorem rem_step {ws : List Nat} {f l e v : Nat} (q : ¬ l ≤ f + 1) (hv : val ws (e + 1) f l = some v) (k : Nat) :
    remO ws k (f, l, e + 1) = (if f ≤ k ∧ k < l then 1 else 0) + (remO ws k (f, mid ws e f l, e) + remO ws k (mid ws e f l, l, e)) := by
  obtain ⟨x, y, m1, m2, vx, vy, _⟩ := mid_of q hv
  have la := (cut_all ws e f (mid ws e f l) x m1 vx).1
  have ec : cut ws (e + 1) f l = (cut ws e f (mid ws e f l) ++ cut ws e (mid ws e f l) l).map (· + 1) := by
    show (if l ≤ f + 1 then _ else _) = _
    rw [if_neg q]
  have lb := (cut_all ws e (mid ws e f l) l y m2 vy).1
  generalize mid ws e f l = m at *
  unfold remO
  show (if f ≤ k ∧ k < l then (cut ws (e + 1) f l).getD (k - f) 0 else 0) = (if f ≤ k ∧ k < l then 1 else 0) + ((if f ≤ k ∧ k < m then (cut ws e f m).getD (k - f) 0 else 0) + (if m ≤ k ∧ k < l then (cut ws e m l).getD (k - m) 0 else 0))
  by_cases c : f ≤ k ∧ k < l
  · rw [if_pos c, if_pos c, ec]
    have eg : ((cut ws e f m ++ cut ws e m l).map (· + 1)).getD (k - f) 0 = (cut ws e f m ++ cut ws e m l).getD (k - f) 0 + 1 := by
      have hk : k - f < (cut ws e f m ++ cut ws e m l).length := by rw [List.length_append]; omega
      rw [List.getD_eq_getElem?_getD, List.getElem?_map, List.getD_eq_getElem?_getD, List.getElem?_eq_getElem hk]
      rfl
    rw [eg, getD_app, la]
    by_cases c2 : k < m
    · rw [if_pos (by omega), if_pos (by omega), if_neg (by omega)]
      omega
    · rw [if_neg (by omega), if_neg (by omega), if_pos (by omega), show k - f - (m - f) = k - m by omega]
      omega
  · rw [if_neg c, if_neg c, if_neg (by omega), if_neg (by omega)]
theorem len_siz {ws : List Nat} {b : Nat} : ∀ {rs : List Rn}, (∀ r ∈ rs, GoodR ws b r) → rs.length ≤ sizR rs
  | [], _ => Nat.le_refl _
  | r :: rs, h => by
    have ih := len_siz (rs := rs) fun x hx => h x (List.mem_cons_of_mem _ hx)
    have := (h r List.mem_cons_self).1
    show rs.length + 1 ≤ (2 * (r.2.1 - r.1) - 1) + sizR rs
    omega
end Sl

/-! ### sorted(t) of a tuple of whole numbers -/
namespace Sl
open PySem PySem.Spec PyProof.Rows L2 Evl
section
variable {prog : Program} {w : World} {A : Around} {E : Value → Shared → Prop} {s : Shared}
theorem collect_tup {t : Addr} {vs : List Value} {Q : List Value → Shared → Prop} (ht : IsTup s.heap t vs.toArray) (hz : vs.length ≤ sizeLine) (h : Q vs { s with heap := (s.heap.push (seqObj "list" #[] 0)).update s.heap.objs.size (Obj.mapSeq (· ++ vs.toArray)) }) : wpAny (model prog w) A (collect (.ref t)) Q E s := by
  obtain ⟨o, ho, hc, n, hd⟩ := id ht
  have ho2 : (s.heap.push (seqObj "list" #[] 0)).get? t = some o := Heap.get?_push_of_some _ ho
  have h0 : (s.heap.push (seqObj "list" #[] 0)).get? s.heap.objs.size = some (seqObj "list" #[] 0) := Heap.get?_push_size _ rfl
  unfold collect; refine wpAny_bind (wpAny_runValue (codeAny_builtin entry_proto_collect' ?_))
  show wpAny _ _ (do again (.builtin "list.__iadd__" ⟨[← newList [], .ref t], []⟩)) _ _ s
  refine wpAny_bind (wpAny_newList (wpAny_pure ⟨Code.quiet_builtin _ (by decide +kernel), codeAny_builtin entry_list_iadd' ?_⟩)); show wpAny _ _ (Builtin.List.listExtendWith (.ref s.heap.objs.size) (.ref t) (.ref s.heap.objs.size)) _ _ { s with heap := s.heap.push (seqObj "list" #[] 0) }
  unfold Builtin.List.listExtendWith; refine wpAny_bind (wpAny_typeOf (T := "tuple") ⟨o, ho2, hc⟩ ?_)
  rw [if_pos (show (Builtin.List.listSameRef (.ref s.heap.objs.size) (.ref t) || Value.type "tuple" == Value.type "list" || Value.type "tuple" == Value.type "tuple") = true by rw [show (Value.type "tuple" == Value.type "tuple") = true from rfl, Bool.or_true])]
  refine wpAny_bind (listItems_at ho2 hd ?_); refine wpAny_bind (listItems_at (xs := #[]) (n := 0) h0 rfl ?_)
  rw [if_neg (by simp)]; refine wpAny_bind (listUpdate_at (xs := #[]) (n := 0) h0 rfl ?_ (Nat.zero_le _) (by show (#[] ++ vs.toArray).size ≤ sizeLine + 1; simp only [Array.size_append, List.size_toArray, List.length_nil]; omega))
  refine wpAny_pure ?_; show wpAny (model prog w) A (do
      let ob ← load s.heap.objs.size
      match ob.data with
      | .seq xs _ => pure xs.toList
      | _ => unsupported "internal:collect") Q E { s with heap := (s.heap.push (seqObj "list" #[] 0)).update s.heap.objs.size (Obj.mapSeq (· ++ vs.toArray)) }
  refine wpAny_bind (wpAny_load (get?_update_seq h0 _) ?_); show wpAny _ _ (pure ((#[] : Array Value) ++ vs.toArray).toList) Q E _
  rw [show ((#[] : Array Value) ++ vs.toArray).toList = vs by simp]; exact wpAny_pure h
theorem sorted_tup {t : Addr} {vs : List Value} {ltv : Value → Value → Bool} {Q : Value → Shared → Prop} (O : SrtO.Swo ltv) (ht : IsTup s.heap t vs.toArray) (hz : vs.length ≤ sizeLine)
    (hS : 2 ≤ vs.length → ∀ (h₁ : Heap) (a : Addr), SrtO.SortableO prog w A.in1.in1 { s with heap := h₁ } a vs ltv)
    (h : ∀ out : List Value, SrtO.Srtd ltv out → SrtO.Stb ltv out vs → Q (.ref (s.heap.objs.size + 1)) { s with heap := sortedAll s.heap vs out.toArray }) :
    wpAny (model prog w) A (call (.builtin "sorted") [.ref t]) Q E s := by
  have hsz : ((s.heap.push (seqObj "list" #[] 0)).update s.heap.objs.size (Obj.mapSeq (· ++ vs.toArray))).objs.size = s.heap.objs.size + 1 := by rw [Heap.size_update, size_push']
  have hoL : (((s.heap.push (seqObj "list" #[] 0)).update s.heap.objs.size (Obj.mapSeq (· ++ vs.toArray))).push (seqObj "list" vs.toArray 0)).get? (s.heap.objs.size + 1) = some (seqObj "list" vs.toArray 0) := by
    rw [← hsz]
    exact Heap.get?_push_size _ rfl
  refine Calls.call_function_entry kind_sorted plain_sorted entry_sorted (args_sorted1 _) ?_; unfold Builtin.«sorted»
  refine wpAny_bind (m := checkCount "sorted" 1 1 _) (wpAny_pure ?_); refine wpAny_bind (collect_tup ht hz ?_); refine wpAny_bind (wpAny_newList ?_ hz)
  show wpAny _ _ _ _ _ { s with heap := ((s.heap.push (seqObj "list" #[] 0)).update s.heap.objs.size (Obj.mapSeq (· ++ vs.toArray))).push (seqObj "list" vs.toArray 0) }; rw [hsz]
  refine wpAny_bind (wpAny_holding (wpAny_call_entry slot_list_sort ⟨_, hoL, rfl⟩ entry_list_sort (SrtO.list_sort_ord O hoL hz (fun h2 => hS h2 _ _) fun out hs hb => ⟨_, rfl, ?_⟩) (args_list_sort _))); exact wpAny_pure ⟨_, rfl, h out hs hb⟩
end
def rSortedIT (K : PySem.W.Frag) : List V → Hp → VK → Prop := fun vs H Q => ∃ (a : Addr) (ns : List Int), vs = [V.ref a] ∧ SqT K H a (ns.map V.int) ∧
  ∀ (ns' : List Int) (p : Addr), ns'.Perm ns → ns'.Pairwise (· ≤ ·) → H p = none → Q (.ref p) (upd H p (.lst (ns'.map V.int)))
theorem cr_sortedIT {X : Cx} : CallR X (.builtin "sorted") (rSortedIT X.K) := by
  intro pins s σ H vs us Q I r h
  obtain ⟨a, ns, rfl, hs, q⟩ := h
  obtain ⟨its, rv, hl, hz⟩ := I.tuple hs
  rw [Vals.ref1 r]
  have hi := rv.ints
  refine sorted_tup SrtO.swo_int hl (by rw [← rv.length]; exact hz) (fun h2 h₁ a' => SrtO.ints_sortable hi h2) fun out h1 h2 => ?_
  obtain ⟨k1, k2, k3⟩ := SrtO.ints_out hi h1 h2
  obtain ⟨ep, he'⟩ := PyProof.Rows.sortedAll_at s.heap its out.toArray
  have hlen : ((out.map SrtO.iv).map V.int).length ≤ sizeLine := by rw [List.length_map, k2.length_eq]; rw [List.length_map] at hz; exact hz
  refine ⟨.ref _, upd H (s.heap.objs.size + 1) (.lst ((out.map SrtO.iv).map V.int)), ?_, rfl, q _ _ k2 k3 (I.hok.fresh (Nat.le_succ _))⟩
  exact I.laid (t' := s.toks) (fun _ _ => PyProof.Rows.sortedAll_old) (Nat.le_succ _) ⟨hlen, out, ep, vals_of_ints k1, he'⟩
section
variable {K : PySem.W.Frag} {σ : L2.St} {H : Hp} {ta : TE}
/-- sorted of a new tuple: the numbers in order -/
theorem el_sortedIT {a : Addr} {ns ms : List Int} (h : Ev ta σ H (.ref a)) (hS : SqT K H a (ns.map V.int)) (hp : ms.Perm ns) (hm : ms.Pairwise (· ≤ ·)) : EvL (tCB (rSortedIT K) (tCons ta tNil)) σ H (ms.map V.int) := fun H1 e Q q =>
  h H1 e _ fun H2 e2 => ⟨a, ns, rfl, ex_t (e.trans e2) hS, fun ns' p k1 k2 hn => by
    have : ns' = ms := List.Perm.eq_of_pairwise (fun a b _ _ h1 h2 => Int.le_antisymm h1 h2) k2 hm (k1.trans hp.symm)
    rw [this]
    exact q p _ (fresh_back e2 hn) (e2.trans (Ex.new hn)) upd_same⟩
end
end Sl

/-! ### sorted(xs, key=lambda a: a[0]) -/
namespace Sl
open PySem PySem.Spec PyProof.Rows L2 Evl LamX
/-- nothing but a table may stand there -/
def NewN (H : Hp) (p : Addr) : Prop := ∀ o, H p = some o → ∃ ps, o = .tbl ps
theorem NewN.of {H : Hp} {p : Addr} (h : H p = none) : NewN H p := fun o e => by rw [h] at e; cases e
theorem NewN.back {H H' : Hp} {p : Addr} (x : ExtN H H') (h : NewN H' p) : NewN H p := fun o e => by
  cases o with
  | tbl ps => exact ⟨ps, rfl⟩
  | _ => exact h _ (x _ _ e fun ps z => by cases z)
theorem NewN.ne {H : Hp} {p q : Addr} {o : HO} (h : NewN H p) (e : H q = some o) (n : ∀ ps, o ≠ .tbl ps) : q ≠ p := fun z => by
  rw [z] at e
  obtain ⟨ps, hp⟩ := h o e
  exact n ps hp
theorem ExtN.mut {H H' : Hp} {p : Addr} {o : HO} (x : ExtN H H') (h : NewN H p) : ExtN H (upd H' p o) := fun b u e n => by
  rw [upd_ne (h.ne e n)]
  exact x b u e n
theorem xl {H H' : Hp} {a : Addr} {xs : List V} (x : ExtN H H') (h : H a = some (.lst xs)) : H' a = some (.lst xs) := x _ _ h fun _ z => by cases z
theorem xt {H H' : Hp} {a : Addr} {xs : List V} (x : ExtN H H') (h : H a = some (.tup xs)) : H' a = some (.tup xs) := x _ _ h fun _ z => by cases z
theorem xf {H H' : Hp} {a : Addr} {o : Obj} {u : HO} (x : ExtN H H') (h : H a = some (.frz o u)) : H' a = some (.frz o u) := x _ _ h fun _ z => by cases z
theorem xL {K : PySem.W.Frag} {H H' : Hp} {a : Addr} {xs : List V} (x : ExtN H H') (h : SqL K H a xs) : SqL K H' a xs := by
  rcases h with (h | ⟨o, h⟩) | h
  · exact .inl (.inl (xl x h))
  · exact .inl (.inr ⟨o, xf x h⟩)
  · exact .inr h
theorem xT {K : PySem.W.Frag} {H H' : Hp} {a : Addr} {xs : List V} (x : ExtN H H') (h : SqT K H a xs) : SqT K H' a xs := by
  rcases h with (h | ⟨o, h⟩) | h
  · exact .inl (.inl (xt x h))
  · exact .inl (.inr ⟨o, xf x h⟩)
  · exact .inr h
theorem ExN {H H' : Hp} (e : Ex H H') : ExtN H H' := ExtN.of e
theorem tab_ex {H H' : Hp} {P : Addr} {q : Str} (t : TabS H P q) (e : Ex H H') : TabS H' P q := t.ext e
theorem tab_upd {H : Hp} {P b : Addr} {q : Str} {xs : List V} {o : HO} (hb : H b = some (.lst xs)) (t : TabS H P q) : TabS (upd H b o) P q := by
  obtain ⟨ps, h1, h2, h3⟩ := t
  refine ⟨ps, by rw [upd_ne fun z => by rw [z, hb] at h1; cases h1]; exact h1, h2, fun pos cv hc => ?_⟩
  obtain ⟨c, e1, e2⟩ := h3 pos cv hc
  have ne : c ≠ b := fun z => by
    rw [z, hb] at e2
    unfold CodeO at e2
    cases e2
  exact ⟨c, e1, by rw [upd_ne ne]; exact e2⟩
/-- the whole number that leads a tuple -/
def leadOf (H : Hp) : V → Int
  | .ref t => match H t with
    | some (.tup (.int i :: _)) => i
    | _ => 0
  | _ => 0
theorem leadOf_ref {H : Hp} {t : Addr} {i : Int} {r : List V} (h : H t = some (.tup (.int i :: r))) : leadOf H (.ref t) = i := by
  show (match H t with | some (.tup (.int i :: _)) => i | _ => 0) = i
  rw [h]
def tSortKey (P : Addr) (q : Str) (K : PySem.W.Frag) (ta : TA) : TE := fun σ H Q => ta σ H fun vs H1 => TabS H1 P q ∧ ∃ (a : Addr) (ys : List V), vs = [.ref a] ∧ SqL K H1 a ys ∧ ys.length ≤ 1000 ∧ (∀ y ∈ ys, ∃ (t : Addr) (i : Int) (r : List V), y = .ref t ∧ H1 t = some (.tup (.int i :: r))) ∧
  ∀ p H2, NewN H1 p → ExtN H1 H2 → TabS H2 P q → H2 p = some (.lst (ys.mergeSort fun x y => decide (leadOf H1 x ≤ leadOf H1 y))) → Q (.ref p) H2
theorem each_vals {xs : List V} {us : List Value} (r : Vals xs us) : PySem.W.EachIs (fun v y => RelV y v) us xs := by
  induction r with
  | nil => exact .nil
  | cons h _ ih => exact .cons h ih
theorem vals_each {us : List Value} {xs : List V} (r : PySem.W.EachIs (fun v y => RelV y v) us xs) : Vals xs us := by
  induction r with
  | nil => exact .nil
  | cons h _ ih => exact .cons h ih
section
variable {X : Cx} {e : Expr} {ta : TA} {c P : Addr} {k j : Nat} {a : Str} {params : Arguments} {scope : Scope} {p p1 p2 p3 lpos kpos pos : Pos}
theorem pe_sortKey (hg : Gl X "sorted") (hm : X.mg "sorted" = none) (ha : PA X [e] ta) (TB : TabB X.base X.mg c P) (hcode : X.env.code = .ref c) (hr : Room k X.A) (hdef : defaultsOf params X.env = ([], []))
    (hbind : ∀ (q : Str) (cl : List (Str × Addr)) (pm cv ctv v : Value), bindArgs (PySem.W.kla_fn "<lambda>" q params (.Subscript (.Name a p1) (.Constant (.int 0) j p2) p3) scope cl pm cv ctv) ⟨[v], []⟩ = pure [(a, v)])
    (hk : scope.kind = .function) (hco : scope.isCoroutine = false) (hge : scope.isGenerator = false) (hn : ∀ y ∈ scope.names, y.2 ≠ .cell ∧ y.2 ≠ .free) (hl : scope.names.lookup a = some .local)
    (hd : (a == ("__debug__" : Str)) = false := by decide) (he : backTo pos (starEach [e] X.env) = (false, eval e X.env) :: backTo pos (starEach [] X.env) := by rfl) (hpl : (backTo pos (starEach [e] X.env)).any (·.1) = false := by rfl) :
    PE X (.Call (.Name "sorted" p) [e] [⟨some "key", .Lambda params (.Subscript (.Name a p1) (.Constant (.int 0) j p2) p3) scope lpos, kpos⟩] pos) (tSortKey P (X.env.qual ++ "<lambda>") X.K ta) := by
  refine ⟨fun pins s σ H Q I h => ?_⟩
  refine wpAny_Call_Name_kw (ld_blt I hg hm boot_sorted ?_ (by decide) (by decide))
  refine PyProof.Rows.callWith_kw (thn (ha.run pos pins s σ H _ I h) fun us s1 ⟨vs, H1, I1, r1, hT, b, ys, ev, hS, hz, hy, q1⟩ => ?_) he hpl (by rfl) (by rfl)
  subst ev
  rw [Vals.ref1 r1]
  show wpAny _ _ (evalAll ((do let v ← eval (.Lambda params (.Subscript (.Name a p1) (.Constant (.int 0) j p2) p3) scope lpos) X.env; standAt pos; pure v) :: [])) _ _ s1
  have hfree : ∀ y ∈ scope.names, y.2 = .free → ∃ c, X.env.cells.lookup y.1 = some c := fun y hy e => absurd e (hn y hy).2
  refine wpAny_evalAll_cons (wpAny_bind (lam_make2 (T := [(P, X.env.qual ++ "<lambda>")]) I1 TB hcode (List.mem_singleton.mpr rfl) (fun p hp _ => by rw [List.mem_singleton.mp hp]) (fun p hp => by rw [List.mem_singleton.mp hp]; exact hT) hdef hfree fun f c' pm ctv H2 s2 I2 eN T2 hf hfn hfr hcoo => wpAny_bind (wpAny_standAt (wpAny_pure (wpAny_evalAll_nil ?_)))))
  have hT2 : TabS H2 P (X.env.qual ++ "<lambda>") := T2 _ (List.mem_singleton.mpr rfl)
  obtain ⟨its, rv, hli, hlz⟩ := I2.list (xL eN hS)
  have hy2 : ∀ y ∈ ys, ∃ (t : Addr) (i : Int) (r : List V), y = .ref t ∧ H2 t = some (.tup (.int i :: r)) ∧ leadOf H1 y = i := fun y hm => by
    obtain ⟨t, i, r, rfl, ht⟩ := hy y hm
    exact ⟨t, i, r, rfl, xt eN ht, leadOf_ref ht⟩
  show wpAny (model X.prog X.w) X.A (call (.builtin "sorted") [.ref b] [(Str.ofString "key", .ref f)]) (EP X pins σ Q) X.xe s2
  refine PySem.W.sorted_key_data (b := false) (vs := its) (bs := ys) (R := fun v y => RelV y v) (fun y => .int (leadOf H1 y)) hli.isList (each_vals rv) (fun d hd d' hd' => ?_) (.inr fun d hd => ?_) (by rw [sizeLine_eq]; omega) (fun y _ => ?_) (ksk_s1 _ _) (fun x => ksk_l1 _ _) (fun x => ksk_t1 _ _) (fun v y hR hm h tk kp => ?_) fun out n h' tk kp fr go ol eo => ?_
  · obtain ⟨y, _, rfl⟩ := List.mem_map.mp hd
    obtain ⟨y', _, rfl⟩ := List.mem_map.mp hd'
    rfl
  · obtain ⟨y, _, rfl⟩ := List.mem_map.mp hd
    exact ⟨(fun z => by cases z), fun xs z => by cases z⟩
  · have := hr.units
    show X.A.units + 2 + 0 < cLine
    omega
  · -- the key of one
    obtain ⟨t, i, r, rfl, ht, hlead⟩ := hy2 y hm
    cases hR
    obtain ⟨⟨oc, vs, tk0, hoc, hdc, hvc⟩, _, _⟩ := I2.hok c' _ hcoo
    obtain ⟨its2, rv2, hti, _⟩ := I2.tuple (st_of (K := X.K) ht)
    refine wpAny_call ?_
    refine PySem.W.kla_callFunE (A := X.A.in1.in1) hr.depth (kp _ _ hf) rfl hco hge rfl ⟨c', oc, vs, tk0, rfl, kp _ _ hoc, hdc, hvc⟩ ?_
    rw [hbind]
    refine wpAny_pure (wpAny_newFunctionEnv (fun y hy => (hn y hy).1) (fun y hy => ?_) (fun h₁ hns hsb => ⟨(I2.nolimit.keeps kp).fresh _ hsb, ?_⟩) hk)
    · rw [List.mem_singleton.mp hy]
      exact hl
    have kp1 : ∀ b o, h.get? b = some o → h₁.get? b = some o := fun b o e => hsb.extBut b o (Nat.ne_of_lt (Heap.lt_size e)) (Heap.get?_push_of_some _ e)
    refine PySem.W.kla_codeExpr ?_
    refine Subscript_ (wpAny_Name (wpAny_loadName_local (v := .ref t) hk hl hns (by simp) (wpAny_Constant_int ?_)) hd)
    obtain ⟨w0, ws, ew, rw0, _⟩ : ∃ w0 ws, its2 = w0 :: ws ∧ RelV (.int i) w0 ∧ True := by
      cases rv2 with
      | cons h1 h2 => exact ⟨_, _, rfl, h1, trivial⟩
    subst ew
    obtain ⟨tk1, rfl⟩ := rw0
    obtain ⟨ot, h1, h2, h3⟩ := hti
    have hti' : IsTup h₁ t (Value.int i tk1 :: ws).toArray := ⟨ot, kp1 _ _ (kp _ _ h1), h2, h3⟩
    refine subscriptTail_builtinR (x := .int i tk1) ⟨ot, kp1 _ _ (kp _ _ h1), h2⟩ slot_tuple_getitem.lookup (getItem_tuple (j := 0) hti' (by decide) (by decide) (by simp [seqIndex?]) (by simp) ⟨rfl, ?_⟩) (by rfl)
    rw [hlead]
    exact ⟨h₁, _, rfl, kp1, Reads.int i tk1⟩
  · rw [PySem.W.dataLe_int] at eo
    have hv := vals_each eo
    have hf2 : H2 (s2.heap.objs.size + 1) = none := I2.hok.fresh (Nat.le_succ _)
    refine ⟨.ref (s2.heap.objs.size + 1), upd H2 (s2.heap.objs.size + 1) (.lst (ys.mergeSort fun x y => decide (leadOf H1 x ≤ leadOf H1 y))), I2.laid (t' := tk) kp (Nat.le_succ _) ⟨?_, out, n, hv, go⟩, rfl, q1 _ _ ((NewN.of hf2).back eN) (eN.trans (ExN (Ex.new hf2))) (tab_ex hT2 (Ex.new hf2)) upd_same⟩
    rw [List.length_mergeSort]
    exact Nat.le_trans hz (by decide)
end
end Sl

/-! ### rows sorted by a key, slices by two, tuples joined -/
namespace Sl
open PySem PySem.Spec PyProof.Rows L2 Evl
/-! put one by one is the stable sort -/
def leP (x y : Pk) : Bool := decide (x.1 ≤ y.1)
def insF (a : Pk) : List Pk → List Pk
  | [] => [a]
  | x :: r => if a.1 ≤ x.1 then a :: x :: r else x :: insF a r
theorem put_insF (a p : Pk) : ∀ r : List Pk, put (insF a r) p = insF a (put r p)
  | [] => by
    show put [a] p = insF a [p]
    unfold put insF
    by_cases h : a.1 ≤ p.1
    · rw [if_pos h, if_pos h]; rfl
    · rw [if_neg h, if_neg h]; rfl
  | x :: r => by
    have ih := put_insF a p r
    show put (if a.1 ≤ x.1 then a :: x :: r else x :: insF a r) p = insF a (if x.1 ≤ p.1 then x :: put r p else p :: x :: r)
    by_cases h : a.1 ≤ x.1
    · rw [if_pos h]
      show (if a.1 ≤ p.1 then a :: (if x.1 ≤ p.1 then x :: put r p else p :: x :: r) else p :: a :: x :: r) = _
      by_cases k : x.1 ≤ p.1
      · rw [if_pos k, if_pos (by omega)]
        show _ = if a.1 ≤ x.1 then a :: x :: put r p else _
        rw [if_pos h]
      · rw [if_neg k]
        show _ = if a.1 ≤ p.1 then a :: p :: x :: r else p :: (if a.1 ≤ x.1 then a :: x :: r else _)
        rw [if_pos h]
    · rw [if_neg h]
      show (if x.1 ≤ p.1 then x :: put (insF a r) p else p :: x :: insF a r) = _
      by_cases k : x.1 ≤ p.1
      · rw [if_pos k, if_pos k, ih]
        show _ = if a.1 ≤ x.1 then _ else x :: insF a (put r p)
        rw [if_neg h]
      · rw [if_neg k, if_neg k]
        show _ = if a.1 ≤ p.1 then _ else p :: (if a.1 ≤ x.1 then _ else x :: insF a r)
        rw [if_neg (by omega), if_neg h]
theorem puts_insF (a : Pk) : ∀ (ps r : List Pk), ps.foldl put (insF a r) = insF a (ps.foldl put r)
  | [], _ => rfl
  | p :: ps, r => by
    show ps.foldl put (put (insF a r) p) = _
    rw [put_insF, puts_insF a ps]
    rfl
theorem insF_split (a : Pk) : ∀ (l₁ l₂ : List Pk), (∀ b ∈ l₁, b.1 < a.1) → (∀ b ∈ l₂, a.1 ≤ b.1) → insF a (l₁ ++ l₂) = l₁ ++ a :: l₂
  | [], [], _, _ => rfl
  | [], y :: r, _, h => by
    show (if a.1 ≤ y.1 then a :: y :: r else _) = _
    rw [if_pos (h y List.mem_cons_self)]
    rfl
  | x :: l, l₂, h1, h2 => by
    show (if a.1 ≤ x.1 then _ else x :: insF a (l ++ l₂)) = _
    rw [if_neg (by have := h1 x List.mem_cons_self; omega), insF_split a l l₂ (fun b hb => h1 b (List.mem_cons_of_mem _ hb)) h2]
    rfl
theorem leP_tr (a b c : Pk) (h : leP a b = true) (k : leP b c = true) : leP a c = true := decide_eq_true (Nat.le_trans (of_decide_eq_true h) (of_decide_eq_true k))
theorem leP_to (a b : Pk) : (leP a b || leP b a) = true := by
  unfold leP
  rcases Nat.le_total a.1 b.1 with h | h
  · rw [decide_eq_true h]; rfl
  · rw [decide_eq_true h, Bool.or_true]
theorem puts_sort : ∀ l : List Pk, l.foldl put [] = l.mergeSort leP
  | [] => by simp
  | a :: l => by
    obtain ⟨l₁, l₂, e1, e2, h⟩ := List.mergeSort_cons leP_tr leP_to a l
    have ih := puts_sort l
    show l.foldl put (insF a []) = _
    rw [puts_insF, ih, e1, e2]
    have srt := List.pairwise_mergeSort leP_tr leP_to (a :: l)
    rw [e1] at srt
    have s2 := (List.pairwise_append.mp srt).2.1
    refine insF_split a l₁ l₂ (fun b hb => ?_) fun b hb => of_decide_eq_true ((List.pairwise_cons.mp s2).1 b hb)
    have := h b hb
    unfold leP at this
    simpa using this
/-! counted signs are the sorted ones -/
theorem reps_lt (f : Nat → Nat) : ∀ N : Nat, ∀ x ∈ (List.range N).flatMap (fun i => List.replicate (f i) i), x < N := fun N x hx => by
  obtain ⟨i, hi, hx⟩ := List.mem_flatMap.mp hx
  rw [List.eq_of_mem_replicate hx]
  exact List.mem_range.mp hi
theorem reps_srt (f : Nat → Nat) : ∀ N : Nat, ((List.range N).flatMap fun i => List.replicate (f i) i).Pairwise (· ≤ ·)
  | 0 => List.Pairwise.nil
  | N + 1 => by
    rw [List.range_succ, List.flatMap_append]
    refine List.pairwise_append.mpr ⟨reps_srt f N, ?_, fun a ha b hb => ?_⟩
    · simp only [List.flatMap_cons, List.flatMap_nil, List.append_nil]
      exact List.pairwise_replicate.mpr (.inr (Nat.le_refl _))
    · have := reps_lt f N a ha
      simp only [List.flatMap_cons, List.flatMap_nil, List.append_nil] at hb
      rw [List.eq_of_mem_replicate hb]
      omega
theorem mixed_srt (a b : List Nat) : (mixed a b).Pairwise (· ≤ ·) := reps_srt _ 24
/-! xs[::2], xs[1::2] -/
def pick2 {α : Type} (a : Nat) (xs : List α) : List α := (List.range ((xs.length - a + 1) / 2)).filterMap fun k => xs[a + 2 * k]?
theorem pick2_len {α : Type} (a : Nat) (xs : List α) : (pick2 a xs).length = (xs.length - a + 1) / 2 := by
  unfold pick2
  rw [List.length_filterMap_eq_countP, List.countP_eq_length.mpr, List.length_range]
  intro k hk
  have := List.mem_range.mp hk
  rw [List.getElem?_eq_getElem (by omega)]
  rfl
theorem pick2_at {α : Type} (a : Nat) (xs : List α) {k : Nat} (h : k < (xs.length - a + 1) / 2) : (pick2 a xs)[k]? = xs[a + 2 * k]? := by
  have gen : ∀ (n : Nat), n ≤ (xs.length - a + 1) / 2 → (List.range n).filterMap (fun k => xs[a + 2 * k]?) = (List.range n).map fun k => xs.getD (a + 2 * k) (xs[a + 2 * 0]'(by omega)) := by
    intro n
    induction n with
    | zero => intro _; rfl
    | succ n ih =>
      intro hn
      rw [List.range_succ, List.filterMap_append, List.map_append, ih (by omega), List.filterMap_cons, List.getElem?_eq_getElem (by omega)]
      simp only [List.filterMap_nil, List.map_cons, List.map_nil]
      rw [List.getD_eq_getElem?_getD, List.getElem?_eq_getElem (by omega)]
      rfl
  unfold pick2
  rw [gen _ (Nat.le_refl _), List.getElem?_map, List.getElem?_range h]
  show some (xs.getD (a + 2 * k) _) = _
  rw [List.getD_eq_getElem?_getD, List.getElem?_eq_getElem (by omega)]
  rfl
theorem vals_of_at : ∀ {xs : List V} {us : List Value}, xs.length = us.length → (∀ (i : Nat) (x : V) (u : Value), xs[i]? = some x → us[i]? = some u → RelV x u) → Vals xs us
  | [], [], _, _ => .nil
  | [], _ :: _, h, _ => by simp at h
  | _ :: _, [], h, _ => by simp at h
  | x :: xs, u :: us, h, r => .cons (r 0 x u rfl rfl) (vals_of_at (by simpa using h) fun i x u h1 h2 => r (i + 1) x u h1 h2)
theorem pick2_vals {a : Nat} {xs : List V} {us : List Value} (r : Vals xs us) : Vals (pick2 a xs) (pick2 a us) := by
  have hl := r.length
  refine vals_of_at (by rw [pick2_len, pick2_len, hl]) fun i x u h1 h2 => ?_
  have hi : i < (xs.length - a + 1) / 2 := by
    have := (List.getElem?_eq_some_iff.mp h1).1
    rw [pick2_len] at this
    exact this
  rw [pick2_at a xs hi] at h1
  rw [pick2_at a us (by rw [← hl]; exact hi)] at h2
  obtain ⟨y, e, k⟩ := vals_at r h2
  rw [h1] at e
  cases e
  exact k
def lo2 : Nat → Option Int
  | 0 => none
  | n + 1 => some ((n + 1 : Nat) : Int)
theorem slicePick_two (us : List Value) {a : Nat} (ha : a ≤ 1) : slicePick us.toArray (lo2 a) none (some 2) = (pick2 a us).toArray := by
  have hb : sliceBounds (lo2 a) none (some 2) us.toArray.size = (((min a us.length : Nat) : Int), (us.length : Int), 2) := by
    rw [List.size_toArray]
    have c : a = 0 ∨ a = 1 := by omega
    rcases c with rfl | rfl
    · show ((0 : Int), _, _) = _
      rw [Nat.zero_min]
      rfl
    · show (max 0 (min (if (1 : Int) < 0 then _ else 1) (us.length : Int)), _, _) = _
      rw [if_neg (by decide)]
      have : max 0 (min (1 : Int) (us.length : Int)) = ((min 1 us.length : Nat) : Int) := by omega
      rw [this]
      rfl
  unfold slicePick
  rw [hb]
  show ((sliceRange ((min a us.length : Nat) : Int) (us.length : Int) 2).filterMap (us.toArray[·]?)).toArray = _
  congr 1
  unfold sliceRange pick2
  rw [List.filterMap_map]
  by_cases h : a < us.length
  · rw [Nat.min_eq_left (by omega)]
    have ec : (if (2 : Int) > 0 then (if ((a : Nat) : Int) < (us.length : Int) then ((us.length : Int) - (a : Int) + 2 - 1) / 2 else 0) else (if ((a : Nat) : Int) > (us.length : Int) then (((a : Nat) : Int) - (us.length : Int) - 2 - 1) / (-2) else 0)).toNat = (us.length - a + 1) / 2 := by
      rw [if_pos (by decide), if_pos (by omega)]
      omega
    show List.filterMap _ (List.range (if (2 : Int) > 0 then (if ((a : Nat) : Int) < (us.length : Int) then ((us.length : Int) - (a : Int) + 2 - 1) / 2 else 0) else (if ((a : Nat) : Int) > (us.length : Int) then (((a : Nat) : Int) - (us.length : Int) - 2 - 1) / (-2) else 0)).toNat) = _
    rw [ec]
    congr 1
    funext k
    show us.toArray[(((a : Nat) : Int) + 2 * (k : Int)).toNat]? = us[a + 2 * k]?
    rw [show (((a : Nat) : Int) + 2 * (k : Int)).toNat = a + 2 * k by omega, List.getElem?_toArray]
  · have e0 : (us.length - a + 1) / 2 = 0 := by omega
    have ec : (if (2 : Int) > 0 then (if ((min a us.length : Nat) : Int) < (us.length : Int) then ((us.length : Int) - ((min a us.length : Nat) : Int) + 2 - 1) / 2 else 0) else (if ((min a us.length : Nat) : Int) > (us.length : Int) then (((min a us.length : Nat) : Int) - (us.length : Int) - 2 - 1) / (-2) else 0)).toNat = 0 := by
      rw [if_pos (by decide), if_neg (by omega)]
      rfl
    show List.filterMap _ (List.range (if (2 : Int) > 0 then (if ((min a us.length : Nat) : Int) < (us.length : Int) then ((us.length : Int) - ((min a us.length : Nat) : Int) + 2 - 1) / 2 else 0) else (if ((min a us.length : Nat) : Int) > (us.length : Int) then (((min a us.length : Nat) : Int) - (us.length : Int) - 2 - 1) / (-2) else 0)).toNat) = _
    rw [ec, e0]
    rfl
def tSl2 (K : PySem.W.Frag) (te : TE) (tl : TO) : TE := fun σ H Q => te σ H fun x H1 => tl σ H1 fun l H2 => ∃ (b : Addr) (xs : List V) (a : Nat), x = .ref b ∧ l = lo2 a ∧ a ≤ 1 ∧ SqL K H2 b xs ∧ ∀ p, H2 p = none → Q (.ref p) (upd H2 p (.lst (pick2 a xs)))
theorem pick2_le {α : Type} (a : Nat) (xs : List α) : (pick2 a xs).length ≤ xs.length := by
  rw [pick2_len]
  omega
theorem pe_slice2 {X : Cx} {e : Expr} {te : TE} {lo : Option Expr} {tl : TO} {j : Nat} {p1 p2 pos : Pos} (he : PE X e te) (hl : PO X lo tl) : PE X (.Subscript e (.Slice lo none (some (.Constant (.int 2) j p1)) p2) pos) (tSl2 X.K te tl) := by
  refine ⟨fun pins s σ H Q I h => ?_⟩
  refine Subscript_ (thn (he.run pins s σ H _ I h) fun v s1 ⟨x, H1, I1, r1, q1⟩ => ?_)
  refine wpAny_Slice (thn (hl.run pins s1 σ H1 _ I1 q1) fun vl s2 ⟨l, H2, I2, pl, b, xs, a, ex, el, ha, hS, q2⟩ => ?_)
  subst ex el
  rw [evalPart_none]
  refine wpAny_pure (wpAny_Constant_int (pos := p1) (k := j) ?_)
  cases r1
  have I4 : Inv X pins σ H2 { s2 with heap := s2.heap.push { cls := .type "slice", data := .fields #[vl, .none, .int 2 s2.toks] }, toks := s2.toks + 1 } := I2.kept (t' := s2.toks + 1) fun b ob q => Heap.get?_push_of_some _ q
  obtain ⟨its, r, ht, hz⟩ := I4.list hS
  have hlen := r.length
  have hsl : (s2.heap.push { cls := .type "slice", data := .fields #[vl, .none, .int 2 s2.toks] }).IsSliceOf s2.heap.objs.size vl .none (.int 2 s2.toks) := Heap.IsSliceOf.new ..
  refine tail_any (ops := [.ref b, .ref s2.heap.objs.size]) ht.isList.typeIs slot_list_getitem.lookup ?_ (by with_unfolding_all rfl)
  refine wpAny_getItem_list_slice ht.isList hsl pl .none (.int 2 _) (by decide) ?_ (by rw [List.size_toArray] <;> omega)
  rw [slicePick_two its ha]
  refine ⟨.ref _, _, I4.laid (t' := s2.toks + 1) (o := .lst (pick2 a xs)) (fun b ob q => Heap.get?_push_of_some _ q) (Nat.le_refl _) ?_, rfl, q2 _ (I4.hok.fresh (Nat.le_refl _))⟩
  exact ⟨Nat.le_trans (pick2_le a xs) hz, _, 0, pick2_vals r, Heap.get?_push_size _ rfl⟩
section
variable {K : PySem.W.Frag} {σ : L2.St} {H : Hp} {ta tb te : TE} {tl : TO}
theorem el_sl2 {b : Addr} {xs : List V} {a : Nat} (h : Ev te σ H (.ref b)) (hl : EvO tl σ H (lo2 a)) (ha : a ≤ 1) (hS : SqL K H b xs) : EvL (tSl2 K te tl) σ H (pick2 a xs) := fun H1 e Q q =>
  h H1 e _ fun H2 e2 => hl H2 (e.trans e2) _ fun H3 e3 => ⟨b, xs, a, rfl, rfl, ha, ex_l ((e.trans e2).trans e3) hS, fun p hp => q p _ (fresh_back (e2.trans e3) hp) ((e2.trans e3).trans (Ex.new hp)) upd_same⟩
/-- two tuples joined -/
theorem et_catA {a b : Addr} {xs ys : List V} (ha : Ev ta σ H (.ref a)) (hb : Ev tb σ H (.ref b)) (h1 : SqT K H a xs) (h2 : SqT K H b ys) (hl : xs.length + ys.length ≤ 100000) :
    ∀ H1, Ex H H1 → ∀ Q : VK, (∀ p H2, Ex H1 H2 → SqT K H2 p (xs ++ ys) → Q (.ref p) H2) → tOp (rCatA K) ta tb σ H1 Q := fun H1 e Q q =>
  ha H1 e _ fun H2 e2 => hb H2 (e.trans e2) _ fun H3 e3 => by
    have e13 := (e.trans e2).trans e3
    refine ⟨a, b, xs, ys, rfl, rfl, ex_t e13 h1, ex_t e13 h2, sz_of hl, fun hx => ?_, fun hx hy => ?_, fun hx hy p hp => ?_⟩
    · subst hx
      exact q b _ (e2.trans e3) (ex_t e13 h2)
    · subst hy
      refine q a _ (e2.trans e3) ?_
      rw [List.append_nil]
      exact ex_t e13 h1
    · exact q p _ ((e2.trans e3).trans (Ex.new hp)) (st_of upd_same)
end
end Sl

/-! ### packets where a lambda was made -/
namespace Sl
open PySem PySem.Spec PyProof.Rows L2 Evl LamX
def lamQ : Str := (("_by_weight" : Str) ++ ".<locals>.") ++ "<lambda>"
theorem TupF.monoN {H H' : Hp} {p : Addr} {xs : List V} (x : ExtN H H') (h : TupF H p xs) : TupF H' p xs := by
  obtain ⟨o, h1, h2⟩ := h
  exact ⟨o, xf x h1, h2⟩
theorem PkAt.monoN {H H' : Hp} {z : V} {p : Pk} (x : ExtN H H') (h : PkAt H z p) : PkAt H' z p := by
  obtain ⟨t, u, h1, h2, h3⟩ := h
  exact ⟨t, u, h1, xt x h2, h3.monoN x⟩
theorem Pks.monoN {H H' : Hp} {zs : List V} {r : List Pk} (x : ExtN H H') (h : Pks H zs r) : Pks H' zs r := ⟨h.1, fun i p hp => by
  obtain ⟨z, h1, h2⟩ := h.2 i p hp
  exact ⟨z, h1, h2.monoN x⟩⟩
theorem lead_pk {H : Hp} {z : V} {p : Pk} (h : PkAt H z p) : leadOf H z = (p.1 : Int) := by
  obtain ⟨t, u, rfl, h2, _⟩ := h
  exact leadOf_ref h2
theorem Pks.zip {H : Hp} {zs : List V} {r : List Pk} (h : Pks H zs r) : (∀ q ∈ zs.zip r, PkAt H q.1 q.2) ∧ (zs.zip r).map (·.1) = zs ∧ (zs.zip r).map (·.2) = r := by
  refine ⟨fun q hq => ?_, List.map_fst_zip (Nat.le_of_eq h.1), List.map_snd_zip (Nat.le_of_eq h.1.symm)⟩
  obtain ⟨i, hi, e⟩ := List.getElem_of_mem hq
  have e' : (zs.zip r)[i]? = some q := by rw [List.getElem?_eq_getElem hi, e]
  obtain ⟨h1, h2⟩ := List.getElem?_zip_eq_some.mp e'
  obtain ⟨z, k1, k2⟩ := h.2 i _ h2
  rw [h1] at k1
  cases k1
  exact k2
theorem pks_of {H : Hp} {l : List (V × Pk)} (h : ∀ q ∈ l, PkAt H q.1 q.2) : Pks H (l.map (·.1)) (l.map (·.2)) := by
  refine ⟨by rw [List.length_map, List.length_map], fun i p hp => ?_⟩
  rw [List.getElem?_map] at hp ⊢
  obtain ⟨q, hq, rfl⟩ := Option.map_eq_some_iff.mp hp
  exact ⟨q.1, by rw [hq]; rfl, h q (List.mem_of_getElem? hq)⟩
theorem Pks.sort {H H' : Hp} {zs : List V} {r : List Pk} (h : Pks H zs r) (x : ExtN H H') : Pks H' (zs.mergeSort fun a b => decide (leadOf H a ≤ leadOf H b)) (r.mergeSort leP) := by
  obtain ⟨hm, h1, h2⟩ := h.zip
  have e1 : ((zs.zip r).mergeSort fun a b => leP a.2 b.2).map (·.1) = zs.mergeSort fun a b => decide (leadOf H a ≤ leadOf H b) := by
    rw [List.map_mergeSort (s := fun a b => decide (leadOf H a ≤ leadOf H b)) fun a ha b hb => ?_, h1]
    rw [lead_pk (hm a ha), lead_pk (hm b hb)]
    exact decide_eq_decide.mpr Int.ofNat_le.symm
  have e2 : ((zs.zip r).mergeSort fun a b => leP a.2 b.2).map (·.2) = r.mergeSort leP := by
    rw [List.map_mergeSort (s := leP) fun a ha b hb => rfl, h2]
  rw [← e1, ← e2]
  exact pks_of fun q hq => (hm q ((List.mergeSort_perm _ _).mem_iff.mp hq)).monoN x
theorem Pks.lead {H : Hp} {zs : List V} {r : List Pk} (h : Pks H zs r) : ∀ z ∈ zs, ∃ (t : Addr) (i : Int) (q : List V), z = .ref t ∧ H t = some (.tup (.int i :: q)) := fun z hz => by
  obtain ⟨i, hi, e⟩ := List.getElem_of_mem hz
  have hr : i < r.length := by rw [← h.1]; exact hi
  obtain ⟨y, k1, t, u, rfl, k2, _⟩ := h.2 i _ (List.getElem?_eq_getElem hr)
  rw [List.getElem?_eq_getElem hi, e] at k1
  cases k1
  exact ⟨t, _, _, rfl, k2⟩
/-- rows behind a lambda -/
def RowsN (H0 H : Hp) (p : Addr) (ys : List V) (ws : List Nat) (b : Nat) : Prop := ys.length = b ∧ (∀ i, i < b → ∃ (a : Addr) (zs : List V), ys[i]? = some (.ref a) ∧ a ≠ p ∧ NewN H0 a ∧ H a = some (.lst zs) ∧ Pks H zs (rowP ws (i + 1))) ∧
  ∀ (i j : Nat) (a : Addr), ys[i]? = some (.ref a) → ys[j]? = some (.ref a) → i = j
def RetRowsN (PL : Addr) (ws : List Nat) (b : Nat) (H : Hp) (Q : VK) : Prop := ∀ p ys H2, NewN H p → ExtN H H2 → TabS H2 PL lamQ → H2 p = some (.lst ys) → RowsN H H2 p ys ws b → Q (.ref p) H2
def RetLN (PL : Addr) (xs : List V) (H : Hp) (Q : VK) : Prop := ∀ p H2, NewN H p → ExtN H H2 → TabS H2 PL lamQ → H2 p = some (.lst xs) → Q (.ref p) H2
/-- the def whose code is known -/
theorem okC {P : Program} {w : World} {K : PySem.W.Frag} {mg : Str → Option Value} {base : Heap} {x qual : Str} {st : Stmt} {f c : Addr} {fd : FuncData} {N ps : List Str} {k : Nat} {sp : Sp} (F : Fun K x qual st f fd) (hc : fd.code = .ref c) (S : FnScope N ps (defScope st)) (len : ∀ vs H Q E, sp vs H Q E → vs.length = ps.length)
    (hbody : ∀ (A : Around) (outer : List Env) (s : Shared) (H : Hp) (vs : List V) (Q : VK) (E : XK), Room k (A.deeper (envOfC qual (defScope st) s.heap.objs.size f (.ref c))) → sp vs H Q E →
      ∃ t, PSs (cxOf CX0 P w K mg base N qual (defScope st) f (.ref c) A outer s H E).nox (defBody st) t ∧ t { nx := fun _ H' => Q .non H', rt := Q } (L2.start N vs) H) : FnOk P w K mg base CX0 (k + 1) f fd ps sp := by
  obtain ⟨oc, od, kV, doc, pm, an, cdv, ct, osl, rfl, lk, hcd⟩ := F.ex
  have e : cdv = .ref c := hc
  subst e
  refine fn_of lk hcd S len fun A outer s H vs Q E hr hsp => ?_
  obtain ⟨t, h, q⟩ := hbody A outer s H vs Q E hr hsp
  exact ⟨t, h.nox, q⟩
section
variable {σ : L2.St} {H : Hp} {te tu : TE} {D : Ends} {K : PySem.W.Frag} {ta tb : TE}
/-- a number and a tuple made: a packet -/
theorem er_pk {n : Nat} {ss : List Nat} (h1 : Ev te σ H (.int (n : Int))) (h2 : EvF tu σ H (natsV ss)) : EvR (tTup (tCons te (tCons tu tNil))) σ H fun y H1 => PkAt H1 y (n, ss) := fun H0 e0 Q q =>
  h1 H0 e0 _ fun H1 e1 => h2 H1 (e0.trans e1) _ fun u H2 _ e2 hu => ⟨sz_of (by show 2 ≤ 100000; decide), fun t ht => q _ _ ((e1.trans e2).trans (Ex.new ht)) ⟨t, u, rfl, upd_same, hu.mono (Ex.new ht)⟩⟩
theorem s_retR {R : V → Hp → Prop} (h : EvR te σ H R) (k : ∀ y H1, Ex H H1 → R y H1 → D.rt y H1) : tRet te D σ H := h H (Ex.refl H) _ k
/-- sorted(t + u): the signs counted -/
theorem el_joined {u1 u2 : Addr} {a b : List Nat} (ha : Ev ta σ H (.ref u1)) (hb : Ev tb σ H (.ref u2)) (h1 : SqT K H u1 (natsV a)) (h2 : SqT K H u2 (natsV b)) (hl : a.length + b.length ≤ 100000) (b1 : ∀ s ∈ a, s < 24) (b2 : ∀ s ∈ b, s < 24) :
    EvL (tCB (rSortedIT K) (tCons (tOp (rCatA K) ta tb) tNil)) σ H (natsV (mixed a b)) := fun H1 e Q q =>
  et_catA ha hb h1 h2 (by rw [natsV_len, natsV_len]; exact hl) H1 e _ fun p H2 e2 hp => by
    have en : natsV a ++ natsV b = ((a ++ b).map fun (n : Nat) => (n : Int)).map V.int := by
      rw [← natsV_ints]
      unfold natsV
      rw [List.map_append]
    rw [en] at hp
    refine ⟨p, _, rfl, hp, fun ns' l k1 k2 hn => ?_⟩
    have hm : ns' = (mixed a b).map fun (n : Nat) => (n : Int) := by
      refine List.Perm.eq_of_pairwise (fun x y _ _ h1 h2 => Int.le_antisymm h1 h2) k2 (List.pairwise_map.mpr ((mixed_srt a b).imp fun h => Int.ofNat_le.mpr h)) (k1.trans ?_)
      exact ((mixed_perm b1 b2).symm.map _)
    rw [hm, ← natsV_ints]
    exact q l _ (fresh_back e2 hn) (e2.trans (Ex.new hn)) upd_same
end
/-! xs[i] += e -/
def rGetL : V → V → Hp → VK → Prop := fun o i H Q => ∃ (p : Addr) (xs : List V) (j : Nat) (v : V), o = .ref p ∧ i = .int (j : Int) ∧ H p = some (.lst xs) ∧ xs[j]? = some v ∧ Q v H
theorem get_list {X : Cx} : PGet X rGetL := by
  intro pins s σ H o i ov iv Q I ro ri h
  obtain ⟨p, xs, j, v, rfl, rfl, hp, hv, q⟩ := h
  cases ro
  obtain ⟨t, rfl⟩ := ri
  obtain ⟨its, n, r, ho, hz⟩ := I.lst hp
  obtain ⟨u, hu, ru⟩ := r.get hv
  have hl := r.length
  have hj := (List.getElem?_eq_some_iff.mp hv).1
  have hn := line63
  exact PySem.wpAny_getItem_list (items := its.toArray) ⟨_, ho, rfl, n, rfl⟩ (by omega) (by omega) (by simpa using hu) ⟨v, H, I, ru, q⟩
section
variable {σ : L2.St} {H : Hp} {te to ti tr : TE} {ta : TA} {D : Ends} {K : PySem.W.Frag} {tz : TS}
theorem s_augS {l : Addr} {xs : List V} {j : Nat} {a b : Int} (hl : H l = some (.lst xs)) (ho : Ev to σ H (.ref l)) (hi : Ev ti σ H (.int (j : Int))) (hx : xs[j]? = some (.int a)) (he : Ev te σ H (.int b)) (k : ∀ H1, Ex H H1 → D.nx σ (upd H1 l (.lst (xs.set j (.int (a + b)))))) : tAugS to ti te rGetL (ipI fun i j => i + j) rSetL D σ H :=
  ho H (Ex.refl H) _ fun H1 e1 => hi H1 e1 _ fun H2 e2 => ⟨l, xs, j, .int a, rfl, rfl, (e1.trans e2) _ _ hl, hx, he H2 (e1.trans e2) _ fun H3 e3 => ⟨a, b, rfl, rfl, l, xs, (j : Int), j, rfl, rfl, ((e1.trans e2).trans e3) _ _ hl, ixN_nat (List.getElem?_eq_some_iff.mp hx).1, k H3 ((e1.trans e2).trans e3)⟩⟩
theorem s_appRaw {l : Addr} {xs : List V} (hl : H l = some (.lst xs)) (ha : Ev to σ H (.ref l)) (h : ∀ H1, Ex H H1 → te σ H1 fun v H2 => ∃ (l' : Addr) (xs' : List V) (v' : V), V.ref l = .ref l' ∧ [v] = [v'] ∧ H2 l' = some (.lst xs') ∧ xs'.length < sizeLine ∧ D.nx σ (upd H2 l' (.lst (xs' ++ [v'])))) :
    tDrop (tBM K "list" rAppend to (tCons te tNil)) D σ H :=
  ha H (Ex.refl H) _ fun H1 e1 => ⟨Or.inl ⟨rfl, xs, sq_of (e1 l _ hl)⟩, h H1 e1⟩
/-- x = [f(..)] -/
theorem q_asgLst1 {sp : Sp} {dvs vs : List V} {E : XK} {i : Nat} (h : EvA ta σ H vs) (k : ∀ H1, Ex H H1 → sp (vs ++ dvs) H1 (fun v H2 => [v].length ≤ sizeLine ∧ ∀ l, H2 l = none → tz D (σ.set i (some (.ref l))) (upd H2 l (.lst [v]))) E) : tSeq (tAsg (tLst (tCons (tCall sp dvs E ta) tNil)) (gName i)) tz D σ H :=
  h H (Ex.refl H) _ k
theorem atI_neg1 {xs : List V} {v : V} (h : xs[xs.length - 1]? = some v) : atI xs (-1) = some v := by
  have hl := (List.getElem?_eq_some_iff.mp h).1
  have e : xs = xs.dropLast ++ [v] := by
    have hne : xs ≠ [] := fun z => by rw [z] at hl; simp at hl
    have := List.dropLast_concat_getLast hne
    rw [List.getLast_eq_getElem] at this
    have hv := (List.getElem?_eq_some_iff.mp h).2
    rw [hv] at this
    exact this.symm
  rw [e]
  exact atI_last _ _
end
theorem tab_exB {H H' : Hp} {P b : Addr} {q : Str} {xs : List V} (hb : H b = some (.lst xs)) (t : TabS H P q) (e : ExB b H H') : TabS H' P q := by
  obtain ⟨ps, h1, h2, h3⟩ := t
  refine ⟨ps, e _ _ h1 (fun z => by rw [z, hb] at h1; cases h1), h2, fun pos cv hc => ?_⟩
  obtain ⟨c, e1, e2⟩ := h3 pos cv hc
  have ne : c ≠ b := fun z => by
    rw [z, hb] at e2
    unfold CodeO at e2
    cases e2
  exact ⟨c, e1, e _ _ e2 ne⟩
theorem PkAt.exB {H H' : Hp} {b : Addr} {xs : List V} {z : V} {p : Pk} (hb : H b = some (.lst xs)) (e : ExB b H H') (h : PkAt H z p) : PkAt H' z p := by
  obtain ⟨t, u, h1, h2, o, h3, h4⟩ := h
  exact ⟨t, u, h1, e _ _ h2 (fun z => by rw [z, hb] at h2; cases h2), o, e _ _ h3 (fun z => by rw [z, hb] at h3; cases h3), h4⟩
theorem Pks.exB {H H' : Hp} {b : Addr} {xs : List V} {zs : List V} {r : List Pk} (hb : H b = some (.lst xs)) (e : ExB b H H') (h : Pks H zs r) : Pks H' zs r := ⟨h.1, fun i p hp => by
  obtain ⟨z, h1, h2⟩ := h.2 i p hp
  exact ⟨z, h1, h2.exB hb e⟩⟩
theorem ExB.trans {b : Addr} {H1 H2 H3 : Hp} (h : ExB b H1 H2) (k : ExB b H2 H3) : ExB b H1 H3 := fun c o hc hb => k c o (h c o hc hb) hb
theorem ExB.of {b : Addr} {H H' : Hp} (e : Ex H H') : ExB b H H' := fun c o hc _ => e c o hc
theorem extN_exB {b : Addr} {H H1 H2 : Hp} (x : ExtN H H1) (n : NewN H b) (e : ExB b H1 H2) : ExtN H H2 := fun c o h ht => e c o (x c o h ht) (n.ne h ht)
end Sl

/-! ### tests behind which the heap is known by a relation of its own only -/
namespace Sl
open PySem PySem.Spec PyProof.Rows L2 Evl
theorem given_yes (n : Nat) (v : Nat → V) : given n (fun _ => true) v = (List.range n).map v := by
  unfold given
  rw [List.filter_eq_self.mpr fun _ _ => rfl]
section
variable {K : PySem.W.Frag} {σ : L2.St} {H : Hp} {D : Ends}
/-- a test: b, and the heap behind stands in R to the one before -/
def EwT (R : Hp → Hp → Prop) (tt : TT) (σ : L2.St) (H : Hp) (b : Bool) : Prop := ∀ H1, Ex H H1 → ∀ Q : Bool → Hp → Prop, (∀ H2, R H1 H2 → Q b H2) → tt σ H1 Q
def EwV (R : Hp → Hp → Prop) (te : TE) (σ : L2.St) (H : Hp) (v : V) : Prop := ∀ H1, Ex H H1 → ∀ Q : VK, (∀ H2, R H1 H2 → Q v H2) → te σ H1 Q
theorem ew_of {R : Hp → Hp → Prop} (hR : ∀ H H', Ex H H' → R H H') {t : TT} {b : Bool} (h : EvT t σ H b) : EwT R t σ H b := fun H1 e Q q => h H1 e Q fun H2 e2 => q H2 (hR _ _ e2)
theorem ew_and {R : Hp → Hp → Prop} (h0 : ∀ H H', Ex H H' → R H H') (hR : ∀ H H' H'', Ex H H' → R H' H'' → R H H'') {t u : TT} {a b : Bool} (h1 : EvT t σ H a) (h2 : a = true → EwT R u σ H b) : EwT R (tAnd t u) σ H (a && b) := fun H1 e Q q => h1 H1 e _ fun H2 e2 => by
  cases a with
  | true =>
    show u σ H2 Q
    exact h2 rfl H2 (e.trans e2) Q fun H3 e3 => q H3 (hR _ _ _ e2 e3)
  | false =>
    show Q false H2
    exact q H2 (h0 _ _ e2)
theorem ew_B {R : Hp → Hp → Prop} {te : TE} {b : Bool} (h : EwV R te σ H (.bl b)) : EwT R (tB te) σ H b := fun H1 e _ q => h H1 e _ fun H2 e2 => ⟨b, rfl, q H2 e2⟩
theorem ew_whenQ {R : Hp → Hp → Prop} {t : TT} {tu tz : TS} {b : Bool} (h : EwT R t σ H b) (h1 : b = true → ∀ H1, R H H1 → tu { D with nx := tz D } σ H1) (h2 : b = false → ∀ H1, R H H1 → tz D σ H1) : tSeq (tIfS t tu tNext) tz D σ H := by
  refine h H (Ex.refl H) _ fun H2 e2 => ?_
  cases b with
  | true => exact h1 rfl H2 e2
  | false => exact h2 rfl H2 e2
theorem ew_callV {R : Hp → Hp → Prop} {sp : Sp} {ta : TA} {vs : List V} {v : V} (ha : EvA ta σ H vs) (hR : ∀ H H' H'', Ex H H' → R H' H'' → R H H'') (h : ∀ H1, Ex H H1 → ∀ (Q : VK) E, (∀ H2, R H1 H2 → Q v H2) → sp (vs ++ []) H1 Q E) : EwV R (tCall sp [] E0 ta) σ H v := fun H1 e Q q =>
  ha H1 e _ fun H2 e2 => h H2 (e.trans e2) Q _ fun H3 e3 => q H3 (hR _ _ _ e2 e3)
theorem ew_andV {R : Hp → Hp → Prop} (h0 : ∀ H H', Ex H H' → R H H') (hR : ∀ H H' H'', Ex H H' → R H' H'' → R H H'') {ta tb : TE} {a b : Bool} (h1 : Ev ta σ H (.bl a)) (h2 : a = true → EwV R tb σ H (.bl b)) : EwV R (tAndV ta tb) σ H (.bl (a && b)) := fun H1 e Q q => h1 H1 e _ fun H2 e2 => by
  refine ⟨a, rfl, ?_⟩
  cases a with
  | true => exact h2 rfl H2 (e.trans e2) Q fun H3 e3 => q H3 (hR _ _ _ e2 e3)
  | false => exact q H2 (h0 _ _ e2)
/-- a = (x, y, ..): the one behind is new -/
theorem ev_eqU {ta tb : TE} {x : V} {ys : List V} {d e : PyData} (ha : Ev ta σ H x) (hb : EvU tb σ H ys) (hd : Dp K H x d) (he : ∀ H' p, Ex H H' → H' p = some (.tup ys) → Dp K H' (.ref p) e) (sd : SeqAt.shaped d = true) (se : SeqAt.shaped e = true) : Ev (tOp (rEqD K) ta tb) σ H (.bl (PyData.eqv d e)) := fun H1 g Q q =>
  ha H1 g _ fun H2 g2 => hb H2 (g.trans g2) _ fun p H3 _ g3 h3 => ⟨d, e, dp_mono ((g.trans g2).trans g3) _ _ hd, he H3 p ((g.trans g2).trans g3) h3, sd, se, q H3 (g2.trans g3)⟩
/-- f(..), dropped, within a try's body -/
theorem s_dropCallS {sp : Sp} {E : L2.St → XK} {ta : TA} {vs : List V} (h : EvA ta σ H vs) (k : ∀ H1, Ex H H1 → sp vs H1 (fun _ H2 => D.nx σ H2) (E σ)) : tDrop (tCallS sp E ta) D σ H := h H (Ex.refl H) _ k
end
end Sl

/-! ### lengths as words of 12 bits -/
namespace Sl
open PySem PySem.Spec PyProof.Rows L2 Evl LamX
theorem szB_12 (l : Int) : szB 12 l = sz l := rfl
theorem endB_12 : ∀ (ls : List Int) (p : Nat), endB 12 p ls = endO p ls
  | [], _ => rfl
  | l :: r, p => endB_12 r _
theorem scale12 {b : Nat} (hb : b ≤ 12) : ∀ l : List Nat, (∀ x ∈ l, x ≤ b) → (l.map fun x => 2 ^ (12 - x)).sum = 2 ^ (12 - b) * (l.map fun x => 2 ^ (b - x)).sum
  | [], _ => rfl
  | x :: r, h => by
    have ih := scale12 hb r fun y hy => h y (List.mem_cons_of_mem _ hy)
    have hx := h x List.mem_cons_self
    rw [List.map_cons, List.map_cons, List.sum_cons, List.sum_cons, ih, Nat.mul_add, ← Nat.pow_add, show 12 - b + (b - x) = 12 - x by omega]
theorem sz_ints (l : List Nat) (h : ∀ x ∈ l, x ≤ 12) : ((intsOf l).map sz).sum = (l.map fun x => 2 ^ (12 - x)).sum := by
  unfold intsOf
  rw [List.map_map]
  congr 1
  refine List.map_congr_left fun x hx => ?_
  have := h x hx
  show 2 ^ ((12 : Int) - (x : Int)).toNat = 2 ^ (12 - x)
  congr 1
  omega
theorem free_12 {ws : List Nat} {b : Nat} (hn : ws.length ≤ 24) (hb : 1 ≤ b) (hb2 : b ≤ 12) (h : ws.length ≤ 2 ^ b) : ((intsOf (freeLens ws b)).map sz).sum ≤ 4096 := by
  have hin := freeLens_in hn hb h
  rw [sz_ints _ fun x hx => by have := hin x hx; omega, scale12 hb2 _ fun x hx => (hin x hx).2]
  have k := Nat.mul_le_mul_left (2 ^ (12 - b)) (freeLens_sum hn hb h).1
  rw [← Nat.pow_add, show 12 - b + b = 12 by omega] at k
  exact k
theorem ord_12 {ws : List Nat} {b : Nat} (hb : 1 ≤ b) (hb2 : b ≤ 12) (h : ws.length ≤ 2 ^ b) : endO 0 (intsOf (ordLens ws b)) ≤ 4096 := by
  rw [← endB_12]
  by_cases h2 : 2 ≤ ws.length
  · obtain ⟨_, _, _, _, k, hl⟩ := ord_two h2 h
    rw [leafs_end (b := 12) hl fun x hx => by
      obtain ⟨y, hy, rfl⟩ := List.mem_map.mp hx
      have := k y hy
      omega]
    decide
  · unfold ordLens
    rw [if_pos (by omega)]
    have c : ws.length = 0 ∨ ws.length = 1 := by omega
    rcases c with c | c <;> rw [c] <;> decide
theorem NewN.ofX {H H' : Hp} {p : Addr} (x : ExtN H H') (h : H' p = none) : NewN H p := (NewN.of h).back x
theorem Simple.monoN {H H' : Hp} {x : V} (e : ExtN H H') (h : Simple H x) : Simple H' x := by
  rcases h with h | h | h | h | ⟨a, ns, h, g⟩
  · exact .inl h
  · exact .inr (.inl h)
  · exact .inr (.inr (.inl h))
  · exact .inr (.inr (.inr (.inl h)))
  · exact .inr (.inr (.inr (.inr ⟨a, ns, h, g.elim (fun g => .inl (xl e g)) fun g => .inr (xt e g)⟩)))
/-- a new tuple, the heap behind like the one before but for tables -/
def RetUN (PL : Addr) (xs : List V) (H : Hp) (Q : VK) : Prop := ∀ p H2, NewN H p → ExtN H H2 → TabS H2 PL lamQ → H2 p = some (.tup xs) → Q (.ref p) H2
section
variable {σ : L2.St} {H : Hp} {te ti : TE} {D : Ends} {K : PySem.W.Frag}
/-- [x, y, ..][i] -/
theorem ev_pick {xs : List V} {j : Nat} {v : V} (h : EvL te σ H xs) (hi : Ev ti σ H (.int (j : Int))) (hx : xs[j]? = some v) : Ev (tOp (rIxL K) te ti) σ H v := fun H1 e Q q =>
  h H1 e _ fun p H2 _ e2 h2 => hi H2 (e.trans e2) _ fun H3 e3 => rv_ixL (K := K) (sq_of (e3 _ _ h2)) (atI_nat hx) H3 (Ex.refl _) Q fun H4 e4 => q H4 ((e2.trans e3).trans e4)
/-- xs + [..] -/
theorem el_catV {ta tb : TE} {a : Addr} {xs ys : List V} (ha : Ev ta σ H (.ref a)) (hb : EvL tb σ H ys) (h1 : H a = some (.lst xs)) (hl : xs.length + ys.length ≤ 100000) : EvL (tOp rCat ta tb) σ H (xs ++ ys) := fun H1 e Q q =>
  ha H1 e _ fun H2 e2 => hb H2 (e.trans e2) _ fun p H3 hp e3 h3 => ⟨a, p, xs, ys, rfl, rfl, ((e.trans e2).trans e3) _ _ h1, h3, sz_of hl, fun l hl' => q l _ (fresh_back (e2.trans e3) hl') ((e2.trans e3).trans (Ex.new hl')) upd_same⟩
theorem s_callA {sp : Sp} {dvs vs : List V} {E : XK} {ta : TA} {i : Nat} (h : EvA ta σ H vs) (k : ∀ H1, Ex H H1 → sp (vs ++ dvs) H1 (fun v H2 => D.nx (σ.set i (some v)) H2) E) : tAsg (tCall sp dvs E ta) (gName i) D σ H := h H (Ex.refl H) _ k
theorem q_whenOr {R : Hp → Hp → Prop} {t u : TT} {tu tz : TS} (h1 : ∀ Q : Bool → Hp → Prop, (∀ H1, R H H1 → Q false H1) → t σ H Q) (h2 : ∀ H1, R H H1 → EvT u σ H1 false) (k : ∀ H1 H2, R H H1 → Ex H1 H2 → tz D σ H2) : tSeq (tIfS (tOr t u) tu tNext) tz D σ H := by
  refine h1 _ fun H1 r => ?_
  exact h2 H1 r H1 (Ex.refl _) _ fun H2 e2 => k H1 H2 r e2
theorem s_insert {l : Addr} {xs : List V} {i : Nat} {ti ts : TE} (hl : H l = some (.lst xs)) (ha : Ev te σ H (.ref l)) (hi : Ev ti σ H (.int (i : Int))) (hs : ∀ H1, Ex H H1 → ∀ Q : VK, (∀ v H2, Ex H1 H2 → Simple H2 v → (∀ b, v = .ref b → H1 b = none) → Q v H2) → ts σ H1 Q)
    (hx : xs.length ≤ 1000) (hi2 : i ≤ 1000) (k : ∀ v H1, Ex H H1 → Simple H1 v → v ≠ .ref l → D.nx σ (upd H1 l (.lst (xs.take i ++ [v] ++ xs.drop i)))) :
    tDrop (tBM K "list" (fun x vs H Q => ∃ (l : Addr) (xs : List V) (i : Int) (y : V), x = .ref l ∧ vs = [.int i, y] ∧ H l = some (.lst xs) ∧ xs.length < sizeLine ∧ 0 ≤ i ∧ i < 2 ^ 63 ∧ Q .non (upd H l (.lst (xs.take i.toNat ++ [y] ++ xs.drop i.toNat)))) te (tCons ti (tCons ts tNil))) D σ H :=
  ha H (Ex.refl H) _ fun H1 e1 => ⟨Or.inl ⟨rfl, xs, sq_of (e1 l _ hl)⟩, hi H1 e1 _ fun H2 e2 => hs H2 (e1.trans e2) _ fun v H3 e3 h3 hf => ⟨l, xs, (i : Int), v, rfl, rfl, ((e1.trans e2).trans e3) _ _ hl, Nat.lt_of_le_of_lt hx (by decide), by omega, by omega, by
    rw [Int.toNat_natCast]
    refine k v H3 ((e1.trans e2).trans e3) h3 fun z => ?_
    have := hf l z
    rw [(e1.trans e2) _ _ hl] at this
    cases this⟩⟩
theorem ex_upd {H1 : Hp} {p : Addr} {o : HO} (e : Ex H H1) (hp : H p = none) : Ex H (upd H1 p o) := fun b u hb => by
  rw [upd_ne fun z => by rw [z, hp] at hb; cases hb]
  exact e b u hb
theorem Simple.upd {p : Addr} {o : HO} {v : V} (h : Simple H v) (hne : v ≠ .ref p) : Simple (upd H p o) v := by
  rcases h with h | h | h | h | ⟨a, ns, rfl, g⟩
  · exact .inl h
  · exact .inr (.inl h)
  · exact .inr (.inr (.inl h))
  · exact .inr (.inr (.inr (.inl h)))
  · have ne : a ≠ p := fun z => hne (by rw [z])
    exact .inr (.inr (.inr (.inr ⟨a, ns, rfl, by rw [upd_ne ne]; exact g⟩)))
theorem ev_intB {b : Bool} (h : Ev te σ H (.bl b)) : Ev (tCB (fun xs H Q => (∃ i, xs = [.int i] ∧ Q (.int i) H) ∨ ∃ k, xs = [.bl k] ∧ Q (.int (if k then 1 else 0)) H) (tCons te tNil)) σ H (.int (if b then 1 else 0)) := fun H1 e Q q =>
  h H1 e _ fun H2 e2 => .inr ⟨b, rfl, q H2 e2⟩
end
end Sl

/-! ### words of a code -/
namespace Sl
open PySem PySem.Spec PyProof.Rows L2 Evl LamX
def WordsFor (us : List (List Nat)) (fl : List Nat) : Prop := us.length = fl.length ∧ (∀ i u, us[i]? = some u → u.length = fl.getD i 0 ∧ ∀ c ∈ u, c = 48 ∨ c = 49) ∧ (∀ (i j : Nat) (u v : List Nat), i ≠ j → us[i]? = some u → us[j]? = some v → v.take u.length ≠ u)
theorem lensOk_ints {fl : List Nat} (h : ∀ x ∈ fl, 1 ≤ x ∧ x ≤ 12) : LensOk (intsOf fl) := fun l hl => by
  obtain ⟨n, hn, rfl⟩ := List.mem_map.mp hl
  have := h n hn
  omega
theorem ints_getD (fl : List Nat) (i : Nat) : (intsOf fl).getD i 0 = ((fl.getD i 0 : Nat) : Int) := by
  unfold intsOf
  rw [List.getD_eq_getElem?_getD, List.getD_eq_getElem?_getD, List.getElem?_map]
  cases fl[i]? <;> rfl
theorem ints_len (fl : List Nat) : (intsOf fl).length = fl.length := List.length_map _
theorem byLen_for {fl : List Nat} (h : ∀ x ∈ fl, 1 ≤ x ∧ x ≤ 12) (hs : ((intsOf fl).map sz).sum ≤ 4096) : WordsFor (byLen (intsOf fl)) fl := by
  have hk := lensOk_ints h
  refine ⟨by rw [byLen_len, ints_len], fun i u hu => ?_, fun i j u v hij hu hv => byLen_apart hk hs hij hu hv⟩
  have hi : i < (intsOf fl).length := by
    have := (List.getElem?_eq_some_iff.mp hu).1
    rw [byLen_len] at this
    exact this
  have mi : ((intsOf fl).getD i 0, i) ∈ lawSeq (intsOf fl) := (lawSeq_perm hk).mem_iff.mpr (mem_pairs.mpr ⟨hi, rfl⟩)
  obtain ⟨a, b, e⟩ := List.append_of_mem mi
  obtain ⟨wi, i1, i2, _, _⟩ := byLen_at e
  dsimp only at wi i1 i2
  rw [hu] at wi
  rw [Option.some.inj wi]
  refine ⟨?_, fun c hc => ?_⟩
  · rw [word_len (by omega) i2, ints_getD, Int.toNat_natCast]
  · unfold word at hc
    exact bits_mem (List.mem_of_mem_take hc)
theorem wordsO_for {fl : List Nat} (h : ∀ x ∈ fl, 1 ≤ x ∧ x ≤ 12) (hs : endO 0 (intsOf fl) ≤ 4096) : WordsFor (wordsO 0 (intsOf fl)) fl := by
  have hk := lensOk_ints h
  refine ⟨by rw [wordsO_len, ints_len], fun i u hu => ?_, fun i j u v hij hu hv => wordsO_apart hk hs hij hu hv⟩
  have hi : i < (intsOf fl).length := by
    have := (List.getElem?_eq_some_iff.mp hu).1
    rw [wordsO_len] at this
    exact this
  have gi := List.getElem?_eq_getElem hi
  have li := wordsO_at gi
  rw [hu] at li
  rw [Option.some.inj li]
  have hl := hk (intsOf fl)[i] (List.getElem_mem hi)
  refine ⟨?_, fun c hc => ?_⟩
  · rw [word_len (by omega) hl.2]
    have e : (intsOf fl)[i] = (intsOf fl).getD i 0 := by rw [List.getD_eq_getElem?_getD, gi]; rfl
    rw [e, ints_getD, Int.toNat_natCast]
  · unfold word at hc
    exact bits_mem (List.mem_of_mem_take hc)
/-- the weight of words -/
def wtW (ws : List Nat) (us : List (List Nat)) : Nat := sumN ws.length fun k => ws.getD k 0 * (us.getD k []).length
theorem wtW_for {ws fl : List Nat} {us : List (List Nat)} (h : WordsFor us fl) (hl : fl.length = ws.length) : wtW ws us = sumN ws.length fun k => ws.getD k 0 * fl.getD k 0 := by
  unfold wtW
  refine sumN_congr fun k hk => ?_
  have g := List.getElem?_eq_getElem (l := us) (i := k) (by rw [h.1]; omega)
  rw [List.getD_eq_getElem?_getD (l := us), g]
  rw [Option.getD_some, (h.2.1 k _ g).1]
theorem wtW_more {ws : List Nat} {us : List (List Nat)} (hl : us.length = ws.length) : wtW ws (us.map (· ++ [48])) = wtW ws us + ws.sum := by
  have e : ws.sum = sumN ws.length fun k => ws.getD k 0 := by
    rw [sumN_list ws fun x => x, List.map_id']
  rw [e]
  unfold wtW
  have gen : ∀ n, n ≤ ws.length → sumN n (fun k => ws.getD k 0 * ((us.map (· ++ [48])).getD k []).length) = sumN n (fun k => ws.getD k 0 * (us.getD k []).length) + sumN n fun k => ws.getD k 0 := fun n => by
    induction n with
    | zero => intro _; rfl
    | succ n ih =>
      intro hn
      rw [sumN_succ, sumN_succ, sumN_succ, ih (by omega)]
      have g := List.getElem?_eq_getElem (l := us) (i := n) (by omega)
      have e1 : ((us.map (· ++ [48])).getD n []).length = (us.getD n []).length + 1 := by
        rw [List.getD_eq_getElem?_getD, List.getD_eq_getElem?_getD, List.getElem?_map, g]
        simp
      rw [e1, Nat.mul_add, Nat.mul_one]
      omega
  exact gen _ (Nat.le_refl _)
theorem sumI (ws : List Nat) : (ws.map fun (n : Nat) => (n : Int)).sum = ((ws.sum : Nat) : Int) := by
  induction ws with
  | nil => rfl
  | cons x r ih => rw [List.map_cons, List.sum_cons, ih, List.sum_cons, Int.natCast_add]
theorem sumInt (n : Nat) (f : Nat → Nat) : ((List.range n).map fun k => ((f k : Nat) : Int)).sum = ((sumN n f : Nat) : Int) := by
  unfold sumN
  generalize List.range n = l
  induction l with
  | nil => rfl
  | cons x r ih => rw [List.map_cons, List.sum_cons, ih, List.map_cons, List.sum_cons, Int.natCast_add]
section
variable {σ : L2.St} {H : Hp} {te tl ta tb : TE} {D : Ends} {K : PySem.W.Frag} {t : TT}
theorem el_ofEx {n : Nat} {f : Nat → V} (h : EvX te σ H fun ys _ => ys.length = n ∧ ∀ i y, ys[i]? = some y → y = f i) : EvL te σ H ((List.range n).map f) := fun H1 e Q q =>
  h H1 e Q fun p ys H2 hp e2 h2 hr => by
    have : ys = (List.range n).map f := by
      refine List.ext_getElem? fun i => ?_
      rw [List.getElem?_map]
      by_cases hi : i < n
      · rw [List.getElem?_range hi]
        have g := List.getElem?_eq_getElem (l := ys) (i := i) (by omega)
        rw [g]
        exact congrArg some (hr.2 i _ g)
      · rw [List.getElem?_eq_none (by omega), List.getElem?_eq_none (by rw [List.length_range]; omega)]
        rfl
    rw [this] at h2
    exact q p H2 hp e2 h2
theorem ev_sumV {a : Addr} {ns : List Int} (h : Ev te σ H (.ref a)) (hS : SqL K H a (ns.map V.int)) : Ev (tCB (rSum K) (tCons te tNil)) σ H (.int ns.sum) := fun H1 e Q q =>
  h H1 e _ fun H2 e2 => ⟨a, ns, rfl, ex_l (e.trans e2) hS, q H2 e2⟩
theorem ev_callVL {sp : Sp} {E : XK} {x v : V} {xs : List V} (ha : Ev ta σ H x) (hb : EvL tb σ H xs) (hs : ∀ p H1, Ex H H1 → H1 p = some (.lst xs) → SpV sp ([x, .ref p] ++ []) H1 v) : Ev (tCall sp [] E (tCons ta (tCons tb tNil))) σ H v := fun H1 e Q q =>
  ha H1 e _ fun H2 e2 => hb H2 (e.trans e2) _ fun p H3 _ e3 h3 => hs p H3 ((e.trans e2).trans e3) h3 H3 (Ex.refl _) Q (fun H4 e4 => q H4 ((e2.trans e3).trans e4)) E
theorem ev_neSortW {j : Nat} {u : Addr} {ws : List (List Nat)} (hj : σ[j]? = some (some (V.ref u))) (hS : SqL K H u (ws.map vtx)) (hl : ws.length < 64) (h : ws.Pairwise (· < ·)) (hc : ∀ v ∈ ws, ∀ c ∈ v, c < 0x110000) :
    Ev (tOp (rNeD K) (tVar j) (tCB (rSortedS K) (tCons (tVar j) tNil))) σ H (.bl false) :=
  ev_is (ev_opL (ev_var hj) (el_sortedS (ev_var hj) hS hl h) fun p H1 h1 e1 => rv_val fun H2 e2 Q q => by
    refine ⟨_, _, dp_txs (ex_l (e1.trans e2) hS), dp_txs (sq_of (e2 _ _ h1)), shaped_txs hc, shaped_txs hc, q⟩) (by rw [eqv_same (shaped_txs hc)]; rfl)
theorem ev_catS {a b : List Nat} (ha : Ev ta σ H (.str (tx a))) (hb : Ev tb σ H (.str (tx b))) (hl : a.length + b.length ≤ 1000) : Ev (tOp (fun x y H Q => ∃ i j, x = .str i ∧ y = .str j ∧ i.length + j.length ≤ sizeLine ∧ Q (.str (i ++ j)) H) ta tb) σ H (.str (tx (a ++ b))) := fun H1 e Q q =>
  ha H1 e _ fun H2 e2 => hb H2 (e.trans e2) _ fun H3 e3 => ⟨tx a, tx b, rfl, rfl, by rw [tx_len, tx_len]; exact sz_of (by omega), by rw [tx_app]; exact q H3 (e2.trans e3)⟩
theorem er_of {v : V} {R : V → Hp → Prop} (h : Ev te σ H v) (hR : ∀ H1, R v H1) : EvR te σ H R := fun H1 e Q q => h H1 e Q fun H2 e2 => q v H2 e2 (hR H2)
/-- none of a text's signs is taken -/
theorem el_lcStrNone {z : Str} {j : Nat} {vs : List Nat} (h : Ev tl σ H (.str z)) (hw : ∀ x, wipe ((wipe σ vs).set j (some x)) vs = wipe σ vs)
    (ht : ∀ (i c : Nat) H1, Ex H H1 → z.cps[i]? = some c → EvT t ((wipe σ vs).set j (some (.str ⟨#[c]⟩))) H1 false) : EvL (tLc (iStr tl) (gName j) t te vs) σ H [] := fun H0 e0 Q q =>
  h H0 e0 _ fun H1 e1 => ⟨z, rfl, fun Dl hD => lc_it (walk_str (z := z)) (fun _ H2 => Ex H1 H2 ∧ H2 Dl = some (.lst [])) ⟨Ex.new hD, upd_same⟩ (fun _ _ _ _ => trivial) (fun i x H2 H3 hi p y => by
    obtain ⟨e2, hd⟩ := p
    obtain ⟨rfl, c, hc, rfl⟩ := y
    refine ⟨hw _, ?_⟩
    refine ht i c H3 ((e0.trans e1).trans e2) hc H3 (Ex.refl _) _ fun H4 e4 => ?_
    exact ⟨e2.trans e4, e4 _ _ hd⟩) fun H2 p => q Dl H2 (fresh_back e1 hD) (e1.trans p.1) p.2⟩
theorem ev_isStr {s : Str} (h : Ev te σ H (.str s)) : Ev (tCB (rIsi K) (tCons te (tCons (tC (.ty "str")) tNil))) σ H (.bl true) := fun H1 e Q q =>
  h H1 e _ fun H2 e2 => ⟨.str s, .ty "str", _, _, true, rfl, .ty _, .base (.str _), kit_ty (by decide +kernel), q H2 e2⟩
theorem rv_notInBits {c : Nat} (h : c = 48 ∨ c = 49) : RV (fun x y H Q => ∃ (c : Nat) (z : Str), x = .str ⟨#[c]⟩ ∧ y = .str z ∧ Q (.bl (!decide (c ∈ z.cps.toList))) H) (.str ⟨#[c]⟩) (.str "01") H (.bl false) := fun H1 e Q q => by
  refine ⟨c, "01", rfl, rfl, ?_⟩
  have : decide (c ∈ (("01" : Str)).cps.toList) = true := by
    rcases h with rfl | rfl <;> decide +kernel
  rw [this]
  exact q H1 (Ex.refl _)
end
end Sl

/-! ### bits, words handed in -/
namespace Sl
open PySem PySem.Spec PyProof.Rows L2 Evl
theorem starts_tx (v u : List Nat) : Txt.startswith (tx v) (tx u) = decide (v.take u.length = u) := by
  unfold Txt.startswith Builtin.Str.subAt
  rw [tx_len, tx_len, Nat.zero_add]
  have e : ((tx v).cps.extract 0 u.length == (tx u).cps) = decide (v.take u.length = u) := by
    rw [Bool.eq_iff_iff, beq_iff_eq, decide_eq_true_iff]
    constructor
    · intro h
      have := congrArg Array.toList h
      rw [Array.toList_extract] at this
      simpa [tx] using this
    · intro h
      refine Array.ext' ?_
      rw [Array.toList_extract]
      simpa [tx] using h
  rw [e]
  by_cases h : v.take u.length = u
  · have : u.length ≤ v.length := by
      have z := congrArg List.length h
      rw [List.length_take] at z
      omega
    rw [decide_eq_true h, decide_eq_true this]
    rfl
  · rw [decide_eq_false h, Bool.and_false]
def ApR (u v : List Nat) : Prop := v.take u.length ≠ u ∧ u.take v.length ≠ v
/-- however the words are put in order, none is begun by the one ahead -/
theorem apart_perm {us zs : List (List Nat)} (h : ∀ (i j : Nat) (u v : List Nat), i ≠ j → us[i]? = some u → us[j]? = some v → v.take u.length ≠ u) (hp : zs.Perm us) {i : Nat} {u v : List Nat} (h1 : zs[i]? = some u) (h2 : zs[i + 1]? = some v) : v.take u.length ≠ u := by
  have hU : us.Pairwise ApR := List.pairwise_iff_getElem.mpr fun i j hi hj hij => ⟨h i j _ _ (by omega) (List.getElem?_eq_getElem hi) (List.getElem?_eq_getElem hj), h j i _ _ (by omega) (List.getElem?_eq_getElem hj) (List.getElem?_eq_getElem hi)⟩
  have hZ : zs.Pairwise ApR := (hp.pairwise_iff fun {u v} z => ⟨z.2, z.1⟩).mpr hU
  obtain ⟨hi, rfl⟩ := List.getElem?_eq_some_iff.mp h1
  obtain ⟨hj, rfl⟩ := List.getElem?_eq_some_iff.mp h2
  exact (List.pairwise_iff_getElem.mp hZ i (i + 1) hi hj (by omega)).1
theorem tx_toList (s : Str) : tx s.cps.toList = s := rfl
def isBit (c : Nat) : Bool := decide (c ∈ (("01" : Str)).cps.toList)
theorem isBit_iff {c : Nat} : isBit c = true ↔ c = 48 ∨ c = 49 := by
  unfold isBit
  rw [decide_eq_true_iff, show (("01" : Str)).cps.toList = [48, 49] from rfl]
  simp
def isBitsV : V → Bool
  | .str s => s.cps.toList.all isBit
  | _ => false
def isStrV : V → Bool
  | .str _ => true
  | _ => false
theorem bits_vtx {u : List Nat} (h : ∀ c ∈ u, c = 48 ∨ c = 49) : isBitsV (vtx u) = true := List.all_eq_true.mpr fun c hc => isBit_iff.mpr (h c hc)
theorem bits_of {x : V} (h : isBitsV x = true) : ∃ u : List Nat, x = vtx u ∧ ∀ c ∈ u, c = 48 ∨ c = 49 := by
  cases x with
  | str s => exact ⟨s.cps.toList, rfl, fun c hc => isBit_iff.mp (List.all_eq_true.mp h c hc)⟩
  | _ => cases h
section
variable {K : PySem.W.Frag} {σ : L2.St} {H : Hp} {te tl ta tb : TE} {x : V} {D : Ends}
theorem ev_isStrG (h : Ev te σ H x) (k : Thing H x) : Ev (tCB (rIsi K) (tCons te (tCons (tC (.ty "str")) tNil))) σ H (.bl (isStrV x)) := fun H1 e Q q =>
  h H1 e _ fun H2 e2 => by
    rcases k.mono (e.trans e2) with rfl | ⟨b, rfl⟩ | ⟨i, rfl⟩ | ⟨s, rfl⟩ | ⟨a, xs, rfl, g | g⟩
    · exact ⟨.non, .ty "str", _, _, _, rfl, .ty _, .base .non, kit_ty (show kitB "NoneType" "str" = some false by decide +kernel), q H2 e2⟩
    · exact ⟨.bl b, .ty "str", _, _, _, rfl, .ty _, .base (.bl _), kit_ty (show kitB "bool" "str" = some false by decide +kernel), q H2 e2⟩
    · exact ⟨.int i, .ty "str", _, _, _, rfl, .ty _, .base (.int _), kit_ty (show kitB "int" "str" = some false by decide +kernel), q H2 e2⟩
    · exact ⟨.str s, .ty "str", _, _, _, rfl, .ty _, .base (.str _), kit_ty (show kitB "str" "str" = some true by decide +kernel), q H2 e2⟩
    · exact ⟨.ref a, .ty "str", _, _, _, rfl, .ty _, .base (.lst g), kit_ty (show kitB "list" "str" = some false by decide +kernel), q H2 e2⟩
    · exact ⟨.ref a, .ty "str", _, _, _, rfl, .ty _, .base (.tup g), kit_ty (show kitB "tuple" "str" = some false by decide +kernel), q H2 e2⟩
theorem ei_str {s : Str} (h : Ev tl σ H (.str s)) : EvI (iStr tl) σ H (Its s) := fun H1 e R r => h H1 e _ fun H2 e2 => ⟨s, rfl, r H2 e2⟩
theorem ev_all {bs : List Bool} (h : EvL te σ H (bs.map V.bl)) : Ev (tCB (rAll K) (tCons te tNil)) σ H (.bl (bs.all id)) := fun H1 e Q q =>
  h H1 e _ fun p H2 _ e2 h2 => ⟨p, bs, rfl, sq_of h2, q H2 e2⟩
theorem ev_any {bs : List Bool} (h : EvL te σ H (bs.map V.bl)) : Ev (tCB (rAny K) (tCons te tNil)) σ H (.bl (bs.any id)) := fun H1 e Q q =>
  h H1 e _ fun p H2 _ e2 h2 => ⟨p, bs, rfl, sq_of h2, q H2 e2⟩
/-- a comprehension over a text's signs that takes all -/
theorem el_lcStr {s : Str} {j : Nat} {vs : List Nat} (f : Nat → V) (h : Ev tl σ H (.str s)) (hn : s.cps.size ≤ 40000) (hw : ∀ x, wipe ((wipe σ vs).set j (some x)) vs = wipe σ vs)
    (he : ∀ (i c : Nat) H1, Ex H H1 → s.cps[i]? = some c → Ev te ((wipe σ vs).set j (some (.str ⟨#[c]⟩))) H1 (f c)) : EvL (tLc (iStr tl) (gName j) tYes te vs) σ H (s.cps.toList.map f) := by
  have c := ex_lcAll (H := H) (σ := σ) (wi := iStr tl) (g := gName j) (te := te) (vs := vs) (walk_str (z := s)) (fun i y _ => ∃ c, s.cps[i]? = some c ∧ y = f c) (fun _ _ _ _ _ h => h) (fun _ _ _ _ _ _ _ h => h) (ei_str h) (fun _ _ => trivial) hn (fun i x H1 H2 hi e y => by
    obtain ⟨rfl, c, hc, rfl⟩ := y
    exact ⟨Ex.refl _, _, fun q hq => hq, hw _, fun H3 e3 Q q => he i c H2 e hc H3 e3 Q fun H4 e4 => q _ H4 e4 ⟨c, hc, rfl⟩⟩)
  have c2 : EvX (tLc (iStr tl) (gName j) tYes te vs) σ H fun ys _ => ys.length = s.cps.size ∧ ∀ i y, ys[i]? = some y → y = f (s.cps.toList.getD i 0) := fun H1 e Q q =>
    c H1 e Q fun p ys H2 hp e2 h2 hr => q p ys H2 hp e2 h2 ⟨hr.1, fun i y hy => by
      obtain ⟨c, hc, rfl⟩ := hr.2 i y hy
      rw [List.getD_eq_getElem?_getD, Array.getElem?_toList, hc]
      rfl⟩
  have c3 := el_ofEx c2
  have e : (List.range s.cps.size).map (fun i => f (s.cps.toList.getD i 0)) = s.cps.toList.map f := by
    rw [show s.cps.size = s.cps.toList.length from Array.length_toList.symm]
    conv => rhs; rw [← list_range (l := s.cps.toList), List.map_map]
    rfl
  rw [e] at c3
  exact c3
theorem rv_inBits {c : Nat} : RV (fun x y H Q => ∃ (c : Nat) (z : Str), x = .str ⟨#[c]⟩ ∧ y = .str z ∧ Q (.bl (decide (c ∈ z.cps.toList))) H) (.str ⟨#[c]⟩) (.str "01") H (.bl (isBit c)) := fun H1 e Q q => ⟨c, "01", rfl, rfl, q H1 (Ex.refl _)⟩
theorem ev_starts {v u : List Nat} (ha : Ev ta σ H (.str (tx v))) (hb : Ev tb σ H (.str (tx u))) : Ev (tM1 (fun x xs H Q => ∃ a b, x = .str a ∧ xs = [.str b] ∧ Q (.bl (Txt.startswith a b)) H) ta tb) σ H (.bl (decide (v.take u.length = u))) := fun H1 e Q q =>
  ha H1 e _ fun H2 e2 => ⟨⟨_, rfl⟩, hb H2 (e.trans e2) _ fun H3 e3 => ⟨tx v, tx u, rfl, rfl, by rw [starts_tx]; exact q H3 (e2.trans e3)⟩⟩
/-- a for over zip of two lists -/
theorem s_forZip {a : Addr} {xs ys : List V} {n i1 i2 : Nat} {tu : TS} (ha : Ev ta σ H (.ref a)) (hb : EvL tb σ H ys) (hA : SqL K H a xs) (hn : n = min xs.length ys.length)
    (k : ∀ pb H2, H pb = none → Ex H H2 → H2 pb = some (.lst ys) → ∃ Pv : Nat → L2.St → Hp → Prop, Pv 0 σ H2 ∧ (∀ i σ' H', Pv i σ' H' → Ex H2 H') ∧
      (∀ i x y σ' H' H'', i < n → Pv i σ' H' → Ex H' H'' → xs[i]? = some x → ys[i]? = some y → tu { D with nx := Pv (i + 1), ct := Pv (i + 1), bk := D.nx } ((σ'.set i1 (some x)).set i2 (some y)) H'') ∧ ∀ σ' H', Pv n σ' H' → D.nx σ' H') :
    tFor (iZip K (tCons ta (tCons tb tNil))) (gTup K 2 (gCons (gName i1) (gCons (gName i2) gNil))) tu D σ H :=
  ha H (Ex.refl H) _ fun H1 e1 => hb H1 e1 _ fun pb H2 npb e2 h2 => by
    have e12 := e1.trans e2
    obtain ⟨Pv, h0, hG, hs, hd⟩ := k pb H2 (fresh_back e1 npb) e12 h2
    refine ⟨a, pb, xs, ys, rfl, ex_l e12 hA, sq_of h2, ?_⟩
    refine for_it (walk_zip (K := K) (a := a) (b := pb) hn) Pv h0 (fun i σ' H' _ hP => ⟨ex_l (e12.trans (hG _ _ _ hP)) hA, sq_of (hG _ _ _ hP _ _ h2)⟩) (fun i v σ' H' H'' hi hP y => ?_) hd
    obtain ⟨T, x, z, rfl, hT, rfl, hx, hz⟩ := y
    exact ⟨T, [x, z], rfl, .inl (.inl upd_same), rfl, x, [z], rfl, z, [], rfl, rfl, hs i x z σ' H' _ hi hP (Ex.new hT) hx hz⟩
end
end Sl

/-! ### the Reader: its fields, its table of words -/
namespace Sl
open PySem PySem.Spec PyProof.Rows L2 Evl
theorem dc_it {J : It} {n : Nat} {G : Hp → Prop} {Y : Nat → Hp → V → Hp → Prop} (w : Walk J n G Y) {g : TG} {tt : TT} {tk tv : TE} {vs : List Nat} {σ : L2.St} {H1 : Hp} {D : Addr} {Qd : Hp → Prop} (Pv : Nat → Hp → Prop) (h0 : Pv 0 (upd H1 D (.dK []))) (hG : ∀ i H, i ≤ n → Pv i H → G H)
    (hs : ∀ i x H H', i < n → Pv i H → Y i H x H' → g x (wipe σ vs) H' fun σ2 H2 => wipe σ2 vs = wipe σ vs ∧ tt σ2 H2 fun b H3 =>
      if b = true then tk σ2 H3 fun y H4 => tv σ2 H4 fun z H5 => ∃ kvs k, y = kV k ∧ H5 D = some (.dK kvs) ∧ kvs.length < sizeLine ∧ Pv (i + 1) (upd H5 D (.dK (putK kvs k z))) else Pv (i + 1) H3) (hd : ∀ H, Pv n H → Qd H) :
    ∃ W : Nat → Nat → Hp → Prop, (∃ m, W 0 m (upd H1 D (.dK []))) ∧ ∀ i m H, W i m H →
      (J.stop i H ∧ Qd H) ∨ (J.go i H ∧ ∃ Nx : Hp → Prop, (∀ H', Nx H' → ∃ m', m' < m ∧ W (i + 1) m' H') ∧ ∀ x H', J.yld i H x H' → g x (wipe σ vs) H' fun σ2 H2 => wipe σ2 vs = wipe σ vs ∧ tt σ2 H2 fun b H3 =>
        if b = true then tk σ2 H3 fun y H4 => tv σ2 H4 fun z H5 => ∃ kvs k, y = kV k ∧ H5 D = some (.dK kvs) ∧ kvs.length < sizeLine ∧ Nx (upd H5 D (.dK (putK kvs k z))) else Nx H3) := by
  refine ⟨fun i m H => m = n - i ∧ i ≤ n ∧ Pv i H, ⟨n, by simp, Nat.zero_le _, h0⟩, ?_⟩
  rintro i m H ⟨rfl, hi, p⟩
  have q := hG i H hi p
  by_cases hlt : i < n
  · exact .inr ⟨w.goes i H hlt q, Pv (i + 1), fun H' p' => ⟨n - (i + 1), by omega, rfl, hlt, p'⟩, fun x H' y => hs i x H H' hlt p (w.yields i H x H' hlt q y)⟩
  · have e : i = n := by omega
    subst e
    exact .inl ⟨w.stops H q, hd H p⟩
/-- the first n words with their numbers -/
def sgK (us : List (List Nat)) (n : Nat) : List (Key × V) := (List.range n).map fun i => (Sum.inr (tx (us.getD i [])), V.int (i : Int))
theorem sgK_succ (us : List (List Nat)) (n : Nat) : sgK us (n + 1) = sgK us n ++ [(Sum.inr (tx (us.getD n [])), V.int (n : Int))] := by
  unfold sgK
  rw [List.range_succ, List.map_append]
  rfl
theorem sgK_len (us : List (List Nat)) (n : Nat) : (sgK us n).length = n := by
  unfold sgK
  rw [List.length_map, List.length_range]
theorem sgK_none {us : List (List Nat)} {n : Nat} {w : List Nat} (h : ∀ i, i < n → us.getD i [] ≠ w) : valV (sgK us n) (Sum.inr (tx w)) = none := by
  unfold valV
  rw [List.find?_eq_none.mpr fun kv hkv => ?_]
  · rfl
  · obtain ⟨i, hi, rfl⟩ := List.mem_map.mp hkv
    have := h i (List.mem_range.mp hi)
    simp only [decide_eq_true_eq]
    intro z
    exact this (tx_inj (Sum.inr.inj z))
theorem sgK_some {us : List (List Nat)} {w : List Nat} {i : Nat} (hi : us.getD i [] = w) : ∀ n, i < n → (∀ j, j < n → j ≠ i → us.getD j [] ≠ w) → valV (sgK us n) (Sum.inr (tx w)) = some (.int (i : Int))
  | 0, h, _ => by omega
  | n + 1, h, hu => by
    rw [sgK_succ]
    unfold valV
    rw [List.find?_append]
    by_cases e : i = n
    · subst e
      have k := sgK_none (us := us) (n := i) (w := w) fun j hj => hu j (by omega) (by omega)
      unfold valV at k
      rw [Option.map_eq_none_iff] at k
      rw [k, Option.none_or, hi]
      simp
    · have k := sgK_some hi n (by omega) fun j hj hji => hu j (by omega) hji
      unfold valV at k
      obtain ⟨kv, h1, h2⟩ := Option.map_eq_some_iff.mp k
      rw [h1]
      exact congrArg some h2
def lenV : V → Nat
  | .str s => s.cps.size
  | _ => 0
def cpsV : V → List Nat
  | .str s => s.cps.toList
  | _ => []
def rdF (ds pd : Addr) (held : List Nat) : List (Str × V) := [("_signs", .ref ds), ("_held", .str (tx held)), ("_done", .ref pd)]
theorem rdF_signs (ds pd : Addr) (hd : List Nat) : (rdF ds pd hd).lookup ("_signs" : Str) = some (.ref ds) := by
  unfold rdF
  rfl
theorem rdF_held (ds pd : Addr) (hd : List Nat) : (rdF ds pd hd).lookup ("_held" : Str) = some (.str (tx hd)) := by
  unfold rdF
  rfl
theorem rdF_done (ds pd : Addr) (hd : List Nat) : (rdF ds pd hd).lookup ("_done" : Str) = some (.ref pd) := by
  unfold rdF
  rfl
theorem rdF_putH (ds pd : Addr) (hd h2 : List Nat) : putF "_held" (.str (tx h2)) (rdF ds pd hd) = rdF ds pd h2 := by
  unfold rdF
  rfl
theorem rdF_putD (ds pd p2 : Addr) (hd : List Nat) : putF "_done" (.ref p2) (rdF ds pd hd) = rdF ds p2 hd := by
  unfold rdF
  rfl
/-- a Reader of the words us at a: its table at ds, the bits held, what is done at pd -/
structure RdAt (C : Addr) (H : Hp) (a ds pd : Addr) (us : List (List Nat)) (held : List Nat) (done : List Nat) : Prop where
  ob : ∃ dx, H a = some (.ins C dx (rdF ds pd held))
  sg : H ds = some (.dK (sgK us us.length))
  dn : H pd = some (.lst (natsV done))
theorem RdAt.mono {C : Addr} {H H' : Hp} {a ds pd : Addr} {us : List (List Nat)} {held done : List Nat} (e : Ex H H') (h : RdAt C H a ds pd us held done) : RdAt C H' a ds pd us held done := by
  obtain ⟨⟨dx, h1⟩, h2, h3⟩ := h
  exact ⟨⟨dx, e _ _ h1⟩, e _ _ h2, e _ _ h3⟩
section
variable {K : PySem.W.Frag} {σ : L2.St} {H : Hp} {te tl ta tb : TE} {x v : V} {D : Ends}
theorem ev_fld {a C dx : Addr} {fs : List (Str × V)} {f : Str} (h : Ev te σ H (.ref a)) (ho : H a = some (.ins C dx fs)) (c : Cls K C) (n : NoAttr K C f) (hl : fs.lookup f = some v) : Ev (tFld K te f) σ H v := fun H1 e Q q =>
  h H1 e _ fun H2 e2 => ⟨a, C, dx, fs, v, rfl, (e.trans e2) _ _ ho, c, n, hl, q H2 e2⟩
theorem s_fld {a C dx : Addr} {fs : List (Str × V)} {f : Str} (hv : Ev tb σ H v) (h : Ev te σ H (.ref a)) (ho : H a = some (.ins C dx fs)) (c : Cls K C) (n : NoAttr K C f) (hl : fs.length < 1000) (k : ∀ H1, Ex H H1 → D.nx σ (upd H1 a (.ins C dx (putF f v fs)))) : sFld K te tb f D σ H :=
  hv H (Ex.refl H) _ fun H1 e1 => h H1 e1 _ fun H2 e2 => ⟨a, C, dx, fs, rfl, (e1.trans e2) _ _ ho, c, n, hl, k H2 (e1.trans e2)⟩
theorem s_fldL {a C dx : Addr} {fs : List (Str × V)} {f : Str} {xs : List V} (hv : EvL tb σ H xs) (h : Ev te σ H (.ref a)) (ho : H a = some (.ins C dx fs)) (c : Cls K C) (n : NoAttr K C f) (hl : fs.length < 1000)
    (k : ∀ p H1, H p = none → Ex H H1 → H1 p = some (.lst xs) → D.nx σ (upd H1 a (.ins C dx (putF f (.ref p) fs)))) : sFld K te tb f D σ H :=
  hv H (Ex.refl H) _ fun p H1 hp e1 h1 => h H1 e1 _ fun H2 e2 => ⟨a, C, dx, fs, rfl, (e1.trans e2) _ _ ho, c, n, hl, k p H2 hp (e1.trans e2) (e2 _ _ h1)⟩
def EvD (te : TE) (σ : L2.St) (H : Hp) (kvs : List (Key × V)) : Prop := ∀ H1, Ex H H1 → ∀ Q : VK, (∀ p H2, H1 p = none → Ex H1 H2 → H2 p = some (.dK kvs) → Q (.ref p) H2) → te σ H1 Q
theorem q_fld {tz : TS} {a C dx : Addr} {fs : List (Str × V)} {f : Str} (hv : Ev tb σ H v) (h : Ev te σ H (.ref a)) (ho : H a = some (.ins C dx fs)) (c : Cls K C) (n : NoAttr K C f) (hl : fs.length < 1000) (k : ∀ H1, Ex H H1 → tz D σ (upd H1 a (.ins C dx (putF f v fs)))) : tSeq (sFld K te tb f) tz D σ H :=
  s_fld (D := { D with nx := tz D }) hv h ho c n hl k
theorem q_fldD {tz : TS} {a C dx : Addr} {fs : List (Str × V)} {f : Str} {kvs : List (Key × V)} (hv : EvD tb σ H kvs) (h : Ev te σ H (.ref a)) (ho : H a = some (.ins C dx fs)) (c : Cls K C) (n : NoAttr K C f) (hl : fs.length < 1000)
    (k : ∀ p H1, H p = none → Ex H H1 → H1 p = some (.dK kvs) → tz D σ (upd H1 a (.ins C dx (putF f (.ref p) fs)))) : tSeq (sFld K te tb f) tz D σ H :=
  hv H (Ex.refl H) _ fun p H1 hp e1 h1 => h H1 e1 _ fun H2 e2 => ⟨a, C, dx, fs, rfl, (e1.trans e2) _ _ ho, c, n, hl, k p H2 hp (e1.trans e2) (e2 _ _ h1)⟩
/-- {word: sign for sign, word in enumerate(words)} -/
theorem ed_enum {a : Addr} {us : List (List Nat)} {s l : Nat} {vs : List Nat} {t : TA} (ha : EvA t σ H [.ref a]) (hA : SqL K H a (us.map vtx)) (h4 : us.length ≤ 1000) (hd : ∀ i j, i < us.length → j < us.length → i ≠ j → us.getD i [] ≠ us.getD j [])
    (hw : ∀ v w, wipe (((wipe σ vs).set s (some v)).set l (some w)) vs = wipe σ vs) (hsl : ∀ v w : V, (((wipe σ vs).set s (some v)).set l (some w))[l]? = some (some w) ∧ (((wipe σ vs).set s (some v)).set l (some w))[s]? = some (some v)) :
    EvD (tDc (iEnum K t) (gTup K 2 (gCons (gName s) (gCons (gName l) gNil))) tYes (tVar l) (tVar s) vs) σ H (sgK us us.length) := fun H0 e0 Q q =>
  ha H0 e0 _ fun H1 e1 => by
    replace hA := ex_l e0 hA
    refine ⟨a, us.map vtx, rfl, ex_l e1 hA, fun Dd hD => ?_⟩
    refine dc_it (walk_enum (K := K) (a := a) (xs := us.map vtx)) (fun i H2 => Ex H1 H2 ∧ H2 Dd = some (.dK (sgK us i))) ⟨Ex.new hD, upd_same⟩ (fun i H2 _ p => ex_l (e1.trans p.1) hA) (fun i v H3 H4 hi p y => ?_) fun H2 p => q Dd H2 (fresh_back e1 hD) (e1.trans p.1) (by rw [← List.length_map (f := vtx)]; exact p.2)
    obtain ⟨e3, h3⟩ := p
    obtain ⟨T, x, z, rfl, hT, rfl, hx, hz⟩ := y
    have hx : V.int ((i : Nat) : Int) = x := Option.some.inj hx
    subst hx
    rw [List.length_map] at hi
    have hz : vtx (us.getD i []) = z := by
      have hz : (us.map vtx)[i]? = some z := hz
      rw [List.getElem?_map, List.getElem?_eq_getElem hi] at hz
      rw [List.getD_eq_getElem?_getD, List.getElem?_eq_getElem hi]
      exact Option.some.inj hz
    subst hz
    have eT : Ex H3 (upd H3 T (.tup [V.int (i : Int), vtx (us.getD i [])])) := Ex.new hT
    refine ⟨T, [_, _], rfl, .inl (.inl upd_same), rfl, _, [_], rfl, _, [], rfl, rfl, hw _ _, ?_⟩
    refine ⟨_, (hsl _ _).1, _, (hsl _ _).2, sgK us i, Sum.inr (tx (us.getD i [])), rfl, eT _ _ h3, ?_, Ex.mut (e3.trans eT) hD, ?_⟩
    · rw [sgK_len]
      exact sz_lt (by omega)
    · rw [upd_same, putK_new _ (sgK_none fun j hj => hd j i (by omega) hi (by omega)), sgK_succ]
theorem ev_din {d : Addr} {kvs : List (Key × V)} {k : Key} (hy : Ev te σ H (kV k)) (h : Ev ta σ H (.ref d)) (ho : H d = some (.dK kvs)) : Ev (tDIn te ta) σ H (.bl (valV kvs k).isSome) := fun H1 e Q q =>
  hy H1 e _ fun H2 e2 => h H2 (e.trans e2) _ fun H3 e3 => ⟨d, _, rfl, DGet.k (((e.trans e2).trans e3) _ _ ho), q H3 (e2.trans e3)⟩
theorem ev_dgetK {d : Addr} {kvs : List (Key × V)} {k : Key} (hy : Ev te σ H (kV k)) (h : Ev ta σ H (.ref d)) (ho : H d = some (.dK kvs)) (hv : valV kvs k = some v) : Ev (tDGet ta te) σ H v := fun H1 e Q q =>
  h H1 e _ fun H2 e2 => hy H2 (e.trans e2) _ fun H3 e3 => ⟨d, v, rfl, by rw [← hv]; exact DGet.k (((e.trans e2).trans e3) _ _ ho), q H3 (e2.trans e3)⟩
/-- [.. for word in d], d locked within -/
theorem el_lockKeys {ds : Addr} {us : List (List Nat)} {j : Nat} {vs : List Nat} (f : List Nat → V) (ho : H ds = some (.dK (sgK us us.length))) (h4 : us.length ≤ 1000) (hd : ∀ H', (∀ b o, H b = some o → b ≠ ds → H' b = some o) → Ev te σ H' (.ref ds)) (hw : ∀ x, wipe ((wipe σ vs).set j (some x)) vs = wipe σ vs)
    (he : ∀ (u : List Nat) H', Ev tb ((wipe σ vs).set j (some (.str (tx u)))) H' (f u)) : EvL (tLockE (tLc (iKeys te) (gName j) tYes tb vs)) σ H (us.map f) := fun H1 e Q q => by
  refine ⟨ds, .dK (sgK us us.length), e _ _ ho, trivial, fun od => ?_⟩
  have hI : EvI (iKeys te) σ (upd H1 ds (.frz od (.dK (sgK us us.length)))) (Itk ds od (sgK us us.length)) := fun H2 e2 R r =>
    hd H2 (fun b o hb hne => e2 b o (by rw [upd_ne hne]; exact e b o hb)) H2 (Ex.refl _) _ fun H3 e3 => ⟨ds, od, rfl, .inl ⟨sgK us us.length, e3 _ _ (e2 _ _ upd_same), r H3 (e2.trans e3 |> fun _ => e3)⟩⟩
  have c := ex_lcAll (g := gName j) (te := tb) (vs := vs) (walk_keys (d := ds) (o := od) (kvs := sgK us us.length)) (fun i y _ => y = f (us.getD i [])) (fun _ _ _ _ _ h => h) (fun _ _ _ _ _ _ _ h => h) hI (fun H2 e2 => e2 _ _ upd_same) (by rw [sgK_len]; omega) (fun i x H2 H3 hi e2 y => by
    obtain ⟨rfl, k, v, hk, rfl⟩ := y
    rw [sgK_len] at hi
    have hk' : (sgK us us.length)[i]? = some (Sum.inr (tx (us.getD i [])), V.int (i : Int)) := by
      unfold sgK
      rw [List.getElem?_map, List.getElem?_range hi]
      rfl
    rw [hk'] at hk
    cases hk
    exact ⟨Ex.refl _, _, fun q hq => hq, hw _, fun H4 e4 Q q => he _ H4 H4 (Ex.refl _) Q fun H5 e5 => q _ H5 e5 rfl⟩)
  have c2 := el_ofEx c
  rw [sgK_len] at c2
  have em : (List.range us.length).map (fun i => f (us.getD i [])) = us.map f := by
    refine List.ext_getElem? fun i => ?_
    rw [List.getElem?_map, List.getElem?_map]
    by_cases hi : i < us.length
    · rw [List.getElem?_range hi, List.getElem?_eq_getElem hi]
      show some (f (us.getD i [])) = _
      rw [List.getD_eq_getElem?_getD, List.getElem?_eq_getElem hi]
      rfl
    · rw [List.getElem?_eq_none (by rw [List.length_range]; omega), List.getElem?_eq_none (by omega)]
      rfl
  rw [em] at c2
  refine c2 _ (Ex.refl _) _ fun p H2 hp e2 h2 => ⟨e2 _ _ upd_same, ?_⟩
  have npd : p ≠ ds := fun z => by rw [z, upd_same] at hp; cases hp
  rw [upd_ne npd] at hp
  refine q p _ hp (fun b o hb => ?_) (by rw [upd_ne npd]; exact h2)
  by_cases hbd : b = ds
  · subst hbd
    rw [e _ _ ho] at hb
    rw [upd_same]
    exact hb
  · rw [upd_ne hbd]
    exact e2 b o (by rw [upd_ne hbd]; exact hb)
end
/-- o.m(e, ..) within a try: what it raises is wished for at the slots as they stand (the guide's example of a method's call within a try) -/
def tMethT (C : Addr) (m : Str) (sp : Sp) (E : L2.St → XK) (ta : TE) (t : TA) : TE := fun σ H Q => ta σ H fun x H1 => ∃ a dx fs, x = .ref a ∧ H1 a = some (.ins C dx fs) ∧ fs.lookup m = none ∧ t σ H1 fun vs H2 => sp (x :: vs) H2 Q (E σ)
theorem pe_methT {X : Cx} {CX : CXT} {k : Nat} {f C : Addr} {fd : FuncData} {ps : List Str} {sp : Sp} {E : L2.St → XK} {m : Str} {pos apos : Pos} {e o : Expr} {es : List Expr} {ta : TE} {t : TA} {pl : Sem Bool} (he : PE X o ta) (c : Cls X.K C) (hm : Meth X.K C m f)
    (F : FnOk X.prog X.w X.K X.mg X.base CX k f fd ps sp) (hr : Room k X.A) (hb : Binds X.K fd ps []) (hx : ∀ σ, PassesAt CX X σ (E σ)) (ha : PA X (e :: es) t)
    (hst : starEach (e :: es) X.env = (false, eval e X.env) :: starEach es X.env := by rfl) (hpl : (backTo pos (starEach es X.env)).any (·.1) = false := by rfl)
    (ht : eval (.Call (.Attribute o m apos) (e :: es) [] pos) X.env = (do
      let ov ← eval o X.env
      standAt apos.atName
      let (f, first) ← holding [ov] (getMethod ov m pl)
      callWith pos f first (backTo pos (starEach (e :: es) X.env)) (backToKw pos (keywordEach [] X.env))) := by rfl) :
    PE X (.Call (.Attribute o m apos) (e :: es) [] pos) (tMethT C m sp E ta t) := by
  refine ⟨fun pins s σ H Q I h => ?_⟩
  refine PySem.W.methodCall_KW (pl := pl) (thn (he.run pins s σ H _ I h) fun u s1 ⟨x, H1, I1, rx, a, dx, fs, ex, ea, l, q⟩ => ?_) ht
  subst ex
  obtain rfl : u = Value.ref a := rx
  refine getmeth_ok I1 ea c hm l ?_
  refine PySem.W.callWith_K (first := [.ref a]) (h₀ := X.base) I.ok.mod.kin hm.kp (thn (ha.run pos pins s1 σ H1 _ I1 q) fun us s2 ⟨vs, H2, I2, r, q2⟩ => ⟨I2.kIn, ?_⟩) hst hpl
  exact run_fnS (us := .ref a :: us) (vs := .ref a :: vs) F hr hb (hx σ) I2 (.cons rfl r) q2
end Sl

/-! ### leaves of a tree of bits, as words -/
namespace Sl
/-- the leaves below the word p, from the left -/
inductive LW : List Nat → List (List Nat) → Prop
  | leaf (p : List Nat) : LW p [p]
  | node {p : List Nat} {l r : List (List Nat)} : LW (p ++ [48]) l → LW (p ++ [49]) r → LW p (l ++ r)
theorem LW.pre {p : List Nat} {xs : List (List Nat)} (h : LW p xs) : ∀ w ∈ xs, ∃ s, w = p ++ s ∧ ∀ c ∈ s, c = 48 ∨ c = 49 := by
  induction h with
  | leaf p => exact fun w hw => ⟨[], by rw [List.mem_singleton.mp hw, List.append_nil], fun c hc => by cases hc⟩
  | node _ _ i1 i2 =>
    intro w hw
    rcases List.mem_append.mp hw with h | h
    · obtain ⟨s, rfl, hs⟩ := i1 w h
      exact ⟨48 :: s, by rw [List.append_assoc]; rfl, fun c hc => by
        rcases List.mem_cons.mp hc with rfl | hc
        · exact .inl rfl
        · exact hs c hc⟩
    · obtain ⟨s, rfl, hs⟩ := i2 w h
      exact ⟨49 :: s, by rw [List.append_assoc]; rfl, fun c hc => by
        rcases List.mem_cons.mp hc with rfl | hc
        · exact .inr rfl
        · exact hs c hc⟩
theorem LW.ne {p : List Nat} {xs : List (List Nat)} (h : LW p xs) : xs ≠ [] := by
  induction h with
  | leaf p => exact fun z => by cases z
  | node _ _ i1 _ => exact fun z => i1 (List.append_eq_nil_iff.mp z).1
theorem take_pre {p s : List Nat} {x : Nat} : (p ++ x :: s).take (p.length + 1) = p ++ [x] := by
  rw [List.take_append, List.take_of_length_le (by omega), show p.length + 1 - p.length = 1 by omega]
  rfl
theorem LW.apart {p : List Nat} {xs : List (List Nat)} (h : LW p xs) : xs.Pairwise ApR := by
  induction h with
  | leaf p => exact List.pairwise_singleton _ _
  | @node p l r h1 h2 i1 i2 =>
    refine List.pairwise_append.mpr ⟨i1, i2, fun u hu v hv => ?_⟩
    obtain ⟨s, rfl, _⟩ := h1.pre u hu
    obtain ⟨s2, rfl, _⟩ := h2.pre v hv
    have e1 : p ++ [48] ++ s = p ++ 48 :: s := by rw [List.append_assoc]; rfl
    have e2 : p ++ [49] ++ s2 = p ++ 49 :: s2 := by rw [List.append_assoc]; rfl
    rw [e1, e2]
    have key : ∀ {a b : Nat} {x y : List Nat}, a ≠ b → (p ++ b :: y).take (p ++ a :: x).length ≠ p ++ a :: x := fun {a b x y} hab z => by
      have z2 := congrArg (List.take (p.length + 1)) z
      rw [take_pre, List.take_take, List.length_append, List.length_cons, Nat.min_eq_left (by omega), take_pre] at z2
      have := List.append_cancel_left z2
      exact hab (List.cons.inj this).1.symm
    exact ⟨key (by decide), key (by decide)⟩
theorem LW.split {p : List Nat} {xs : List (List Nat)} (h : LW p xs) : ∀ (a b : List (List Nat)) (w : List Nat), xs = a ++ w :: b → LW p (a ++ [w ++ [48], w ++ [49]] ++ b) := by
  induction h with
  | leaf p =>
    intro a b w e
    cases a with
    | nil =>
      cases e
      exact LW.node (l := [p ++ [48]]) (r := [p ++ [49]]) (.leaf _) (.leaf _)
    | cons x a =>
      have := (List.cons.inj e).2
      simp at this
  | @node p l r h1 h2 i1 i2 =>
    intro a b w e
    rcases List.append_eq_append_iff.mp e with ⟨c, h3, h4⟩ | ⟨c, h3, h4⟩
    · subst h3
      have := i2 c b w h4
      have k := LW.node h1 this
      rw [List.append_assoc, List.append_assoc]
      rw [List.append_assoc] at k
      exact k
    · cases c with
      | nil =>
        rw [List.nil_append] at h4
        rw [List.append_nil] at h3
        subst h3
        have := i2 [] b w h4.symm
        have k := LW.node h1 this
        rw [List.append_assoc]
        exact k
      | cons x c =>
        obtain ⟨rfl, rfl⟩ := List.cons.inj h4
        have := i1 a c w h3
        have k := LW.node this h2
        rw [List.append_assoc] at k
        exact k
/-- all of them long: there are many -/
theorem LW.many {p : List Nat} {xs : List (List Nat)} (h : LW p xs) (hl : ∀ w ∈ xs, w.length = 12) (hp : p.length ≤ 12) : xs.length = 2 ^ (12 - p.length) := by
  induction h with
  | leaf p =>
    have := hl p List.mem_cons_self
    rw [this]
    rfl
  | @node p l r h1 h2 i1 i2 =>
    have hp' : p.length + 1 ≤ 12 := by
      obtain ⟨w, hw⟩ := List.exists_mem_of_ne_nil _ h1.ne
      obtain ⟨s, e, _⟩ := h1.pre w hw
      have := hl w (List.mem_append_left _ hw)
      rw [e] at this
      simp at this
      omega
    have k1 := i1 (fun w hw => hl w (List.mem_append_left _ hw)) (by rw [List.length_append]; exact hp')
    have k2 := i2 (fun w hw => hl w (List.mem_append_right _ hw)) (by rw [List.length_append]; exact hp')
    rw [List.length_append, k1, k2, List.length_append, List.length_append]
    show 2 ^ (12 - (p.length + 1)) + 2 ^ (12 - (p.length + 1)) = 2 ^ (12 - p.length)
    rw [show 12 - p.length = 12 - (p.length + 1) + 1 by omega, Nat.pow_succ]
    omega
end Sl

/-! ### lists of words: filtered, found -/
namespace Sl
open PySem PySem.Spec PyProof.Rows L2 Evl
theorem given_filterW {xs : List (List Nat)} {n : Nat} (hn : n = xs.length) (f : List Nat → Bool) : given n (fun i => f (xs.getD i [])) (fun i => vtx (xs.getD i [])) = (xs.filter f).map vtx := by
  subst hn
  unfold given
  have e : (List.range xs.length).map (fun i => xs.getD i []) = xs := by
    refine List.ext_getElem? fun i => ?_
    rw [List.getElem?_map]
    by_cases hi : i < xs.length
    · rw [List.getElem?_range hi, List.getElem?_eq_getElem hi]
      show some (xs.getD i []) = _
      rw [List.getD_eq_getElem?_getD, List.getElem?_eq_getElem hi]
      rfl
    · rw [List.getElem?_eq_none (by rw [List.length_range]; omega), List.getElem?_eq_none (by omega)]
      rfl
  conv => rhs; rw [← e, List.filter_map, List.map_map]
  rfl
theorem seqIndexW {j n : Nat} (h : j < n) : seqIndex? (j : Int) n = some j := by
  unfold seqIndex?
  simp [show ¬ ((j : Int) < 0) by omega, h]
theorem map_eraseW {α β : Type} (f : α → β) : ∀ (l : List α) (j : Nat), (l.map f).eraseIdx j = (l.eraseIdx j).map f
  | [], _ => rfl
  | _ :: _, 0 => rfl
  | x :: l, j + 1 => by
    show f x :: (l.map f).eraseIdx j = f x :: (l.eraseIdx j).map f
    rw [map_eraseW f l j]
theorem perm_eraseW {α : Type} : ∀ {l : List α} {j : Nat} (h : j < l.length), (l[j] :: l.eraseIdx j).Perm l
  | [], j, h => absurd h (Nat.not_lt_zero _)
  | x :: l, 0, _ => List.Perm.refl _
  | x :: l, j + 1, h => by
    have hj : j < l.length := Nat.lt_of_succ_lt_succ h
    have ih := perm_eraseW hj
    show (l[j] :: x :: l.eraseIdx j).Perm (x :: l)
    exact (List.Perm.swap _ _ _).trans (List.Perm.cons _ ih)
theorem LW.long {xs : List (List Nat)} (h : LW [] xs) (hn : xs ≠ [[]]) : ∀ w ∈ xs, 1 ≤ w.length := by
  generalize e : ([] : List Nat) = p at h
  cases h with
  | leaf => subst e; exact absurd rfl hn
  | node h1 h2 =>
    subst e
    intro w hw
    rcases List.mem_append.mp hw with hw | hw
    · obtain ⟨s, rfl, _⟩ := h1.pre w hw
      simp
    · obtain ⟨s, rfl, _⟩ := h2.pre w hw
      simp
section
variable {K : PySem.W.Frag} {σ : L2.St} {H : Hp} {ta tb : TE} {D : Ends}
/-- a list of words compared with a new one -/
theorem ev_eqVW {a : Addr} {xs ys : List (List Nat)} (ha : Ev ta σ H (.ref a)) (hb : EvL tb σ H (ys.map vtx)) (hS : SqL K H a (xs.map vtx)) (h1 : ∀ u ∈ xs, ∀ c ∈ u, c < 0x110000) (h2 : ∀ u ∈ ys, ∀ c ∈ u, c < 0x110000) : Ev (tOp (rEqD K) ta tb) σ H (.bl (PyData.eqv (.list (xs.map dtx)) (.list (ys.map dtx)))) := fun H1 e Q q =>
  ha H1 e _ fun H2 e2 => hb H2 (e.trans e2) _ fun p H3 _ e3 h3 => ⟨_, _, dp_txs (ex_l ((e.trans e2).trans e3) hS), dp_txs (sq_of h3), shaped_txs h1, shaped_txs h2, q H3 (e2.trans e3)⟩
theorem inV_words {w : List Nat} {us : List (List Nat)} : inV (vtx w) (us.map vtx) = (us.any fun u => decide (u = w)) := by
  unfold inV
  rw [List.any_map]
  congr 1
  funext u
  show (tx u == tx w) = _
  rw [Bool.eq_iff_iff, beq_iff_eq, decide_eq_true_iff]
  exact ⟨tx_inj, fun z => by rw [z]⟩
theorem flat_words (us : List (List Nat)) : (us.map vtx).all flatV = true := List.all_eq_true.mpr fun x hx => by
  obtain ⟨u, _, rfl⟩ := List.mem_map.mp hx
  rfl
theorem ev_inW {a : Addr} {w : List Nat} {us : List (List Nat)} (ha : Ev ta σ H (vtx w)) (hb : Ev tb σ H (.ref a)) (hS : SqL K H a (us.map vtx)) : Ev (tOp (rIn K false) ta tb) σ H (.bl (us.any fun u => decide (u = w))) := fun H1 e Q q =>
  ha H1 e _ fun H2 e2 => hb H2 (e.trans e2) _ fun H3 e3 => ⟨a, _, rfl, .inl (ex_l ((e.trans e2).trans e3) hS), rfl, flat_words us, by
    show Q (.bl (inV (vtx w) (us.map vtx))) H3
    rw [inV_words]
    exact q H3 (e2.trans e3)⟩
theorem ev_notInL {w : List Nat} {us : List (List Nat)} (ha : Ev ta σ H (vtx w)) (hb : EvL tb σ H (us.map vtx)) : Ev (tOp (rIn K true) ta tb) σ H (.bl (!us.any fun u => decide (u = w))) := fun H1 e Q q =>
  ha H1 e _ fun H2 e2 => hb H2 (e.trans e2) _ fun p H3 _ e3 h3 => ⟨p, _, rfl, .inl (sq_of h3), rfl, flat_words us, by
    show Q (.bl (!inV (vtx w) (us.map vtx))) H3
    rw [inV_words]
    exact q H3 (e2.trans e3)⟩
theorem ev_eqNilW {ws : List (List Nat)} (ha : EvL ta σ H (ws.map vtx)) (hb : EvL tb σ H []) (hc : ∀ u ∈ ws, ∀ c ∈ u, c < 0x110000) : Ev (tOp (rEqD K) ta tb) σ H (.bl ws.isEmpty) := by
  refine ev_is (ev_eqLL ha hb (fun p H1 h => dp_txs (sq_of h)) (fun p H1 h => .lst (sq_of h) .nil) (shaped_txs hc) (by decide +kernel)) ?_
  cases ws with
  | nil => rfl
  | cons u r => rfl
/-- xs.index(w) of words -/
theorem ev_indexW {a : Addr} {xs : List (List Nat)} {w : List Nat} (ha : Ev ta σ H (.ref a)) (hb : Ev tb σ H (vtx w)) (hS : SqL K H a (xs.map vtx)) (hw : w ∈ xs) : Ev (tBM K "list" (rIndex K) ta (tCons tb tNil)) σ H (.int ((xs.idxOf w : Nat) : Int)) := fun H1 e Q q =>
  ha H1 e _ fun H2 e2 => ⟨.inl ⟨rfl, xs.map vtx, ex_l (e.trans e2) hS⟩, hb H2 (e.trans e2) _ fun H3 e3 => by
    have hi := List.idxOf_lt_length_iff.mpr hw
    refine ⟨a, xs.map vtx, vtx w, xs.idxOf w, vtx w, rfl, rfl, ex_l ((e.trans e2).trans e3) hS, rfl, List.all_eq_true.mpr fun x hx => ?_, ?_, ?_, fun m z' hm hz => ?_, q H3 (e2.trans e3)⟩
    · obtain ⟨u, _, rfl⟩ := List.mem_map.mp hx
      rfl
    · rw [List.getElem?_map, List.getElem?_eq_getElem hi]
      exact congrArg (fun u => some (vtx u)) (List.getElem_idxOf hi)
    · show ((tx w) == (tx w)) = true
      exact beq_self_eq_true _
    · rw [List.getElem?_map, List.getElem?_eq_getElem (by omega)] at hz
      cases hz
      show ((tx xs[m]) == (tx w)) = false
      have ne : xs[m] ≠ w := fun z => by
        have k := List.not_of_lt_findIdx (p := (· == w)) (xs := xs) hm
        simp [z] at k
      exact beq_eq_false_iff_ne.mpr fun z => ne (tx_inj z)⟩
end
end Sl

/-! ### a Reader amid a loop: what is held beside it stays -/
namespace Sl
open PySem PySem.Spec PyProof.Rows L2 Evl
theorem goodw_apart {us : List (List Nat)} (h : us.Pairwise ApR) : ∀ (i j : Nat) (u v : List Nat), i ≠ j → us[i]? = some u → us[j]? = some v → v.take u.length ≠ u := fun i j u v hij h1 h2 => by
  obtain ⟨hi, rfl⟩ := List.getElem?_eq_some_iff.mp h1
  obtain ⟨hj, rfl⟩ := List.getElem?_eq_some_iff.mp h2
  rcases Nat.lt_or_gt_of_ne hij with h' | h'
  · exact (List.pairwise_iff_getElem.mp h i j hi hj h').1
  · exact (List.pairwise_iff_getElem.mp h j i hj hi h').2
theorem goodw_ne {us : List (List Nat)} (h : us.Pairwise ApR) : ∀ i j, i < us.length → j < us.length → i ≠ j → us.getD i [] ≠ us.getD j [] := fun i j hi hj hij z => by
  have g1 := List.getElem?_eq_getElem hi
  have g2 := List.getElem?_eq_getElem hj
  have := goodw_apart h i j _ _ hij g1 g2
  rw [List.getD_eq_getElem?_getD, List.getD_eq_getElem?_getD, g1, g2] at z
  have z : us[i] = us[j] := z
  rw [z, List.take_length] at this
  exact this rfl
def HeldOk (H : Hp) (pd pl : Addr) (hv : List V) : Prop := ∀ x ∈ hv, ∃ (t p q : Addr) (ns : List Nat), x = .ref t ∧ H t = some (.tup [.ref p, .ref q]) ∧ H p = some (.lst (natsV ns)) ∧ H q = some (.lst (natsV ns)) ∧ p ≠ pd ∧ q ≠ pd ∧ p ≠ pl ∧ q ≠ pl
section
variable {H H' : Hp} {C r pd pd' pl pd0 ds ps dx p2 : Addr} {hv : List V} {us : List (List Nat)} {hd dn hd' dn' : List Nat} {m : Nat} {f : List (Str × V)} {xs ys : List V} {H0 : Hp}
theorem HeldOk.keep (h : HeldOk H pd pl hv) (hr : H r = some (.ins C dx f)) (hpd : H pd = some (.lst xs)) (hpl : H pl = some (.lst ys)) (e : ∀ b o, H b = some o → b ≠ r → b ≠ pd → b ≠ pl → H' b = some o) (hp' : pd' = pd ∨ H pd' = none) : HeldOk H' pd' pl hv := fun x hx => by
  obtain ⟨t, p, q, ns, rfl, ht, hp, hq, n1, n2, n3, n4⟩ := h x hx
  have t1 : t ≠ r := fun z => by rw [z, hr] at ht; cases ht
  have t2 : t ≠ pd := fun z => by rw [z, hpd] at ht; cases ht
  have t3 : t ≠ pl := fun z => by rw [z, hpl] at ht; cases ht
  have p1 : p ≠ r := fun z => by rw [z, hr] at hp; cases hp
  have q1 : q ≠ r := fun z => by rw [z, hr] at hq; cases hq
  refine ⟨t, p, q, ns, rfl, e _ _ ht t1 t2 t3, e _ _ hp p1 n1 n3, e _ _ hq q1 n2 n4, ?_, ?_, n3, n4⟩
  · rcases hp' with rfl | hn
    · exact n1
    · exact fun z => by rw [z, hn] at hp; cases hp
  · rcases hp' with rfl | hn
    · exact n2
    · exact fun z => by rw [z, hn] at hq; cases hq
/-- H0: the heap ahead of the loop; r the Reader, pd0 its first list, pl the list of what is held -/
structure LpR (C : Addr) (H0 : Hp) (r pd0 pl : Addr) (us : List (List Nat)) (hd dn : List Nat) (ds pd : Addr) (m : Nat) (H' : Hp) : Prop where
  ch : ∀ b o, H0 b = some o → b ≠ r → b ≠ pd0 → b ≠ pl → H' b = some o
  rd : RdAt C H' r ds pd us hd dn
  np : pd = pd0 ∨ H0 pd = none
  ne : pd ≠ pl
  hv : ∃ hv, H' pl = some (.lst hv) ∧ hv.length ≤ m ∧ HeldOk H' pd pl hv
theorem LpR.ex (h : LpR C H0 r pd0 pl us hd dn ds pd m H) (e : Ex H H') : LpR C H0 r pd0 pl us hd dn ds pd m H' := by
  obtain ⟨⟨dx, h1⟩, _, h3⟩ := h.rd
  obtain ⟨hv, g1, g2, g3⟩ := h.hv
  exact ⟨fun b o hb x y z => e _ _ (h.ch b o hb x y z), h.rd.mono e, h.np, h.ne, hv, e _ _ g1, g2, g3.keep h1 h3 g1 (fun b o hb _ _ _ => e b o hb) (.inl rfl)⟩
theorem LpR.again (h : LpR C H0 r pd0 pl us hd dn ds pd m H) (hR : RdAt C H' r ds p2 us [] []) (e : ∀ b o, H b = some o → b ≠ r → H' b = some o) (np : H p2 = none) : LpR C H0 r pd0 pl us [] [] ds p2 m H' := by
  obtain ⟨⟨dx, h1⟩, _, h3⟩ := h.rd
  obtain ⟨hv, g1, g2, g3⟩ := h.hv
  have nr : p2 ≠ r := fun z => by rw [z, h1] at np; cases np
  have nl : p2 ≠ pl := fun z => by rw [z, g1] at np; cases np
  refine ⟨fun b o hb x y z => e _ _ (h.ch b o hb x y z) x, hR, ?_, nl, hv, e _ _ g1 fun z => ?_, g2, g3.keep h1 h3 g1 (fun b o hb x _ _ => e b o hb x) (.inr np)⟩
  · by_cases z : p2 = pd0
    · exact .inl z
    · refine .inr ?_
      cases k : H0 p2 with
      | none => rfl
      | some o =>
        have := h.ch p2 o k nr z nl
        rw [np] at this
        cases this
  · rw [z, h1] at g1
    cases g1
theorem LpR.took (h : LpR C H0 r pd0 pl us hd dn ds pd m H) (hR : RdAt C H' r ds pd us hd' dn') (e : ∀ b o, H b = some o → b ≠ r → b ≠ pd → H' b = some o) : LpR C H0 r pd0 pl us hd' dn' ds pd m H' := by
  obtain ⟨⟨dx, h1⟩, _, h3⟩ := h.rd
  obtain ⟨hv, g1, g2, g3⟩ := h.hv
  refine ⟨fun b o hb x y z => e _ _ (h.ch b o hb x y z) x fun k => ?_, hR, h.np, h.ne, hv, e _ _ g1 (fun z => ?_) h.ne.symm, g2, g3.keep h1 h3 g1 (fun b o hb x y _ => e b o hb x y) (.inl rfl)⟩
  · rcases h.np with hp | hp
    · exact y (k.trans hp)
    · rw [k, hp] at hb
      cases hb
  · rw [z, h1] at g1
    cases g1
theorem LpR.stood (h : LpR C H0 r pd0 pl us hd dn ds pd m H) {hv hv' : List V} (hl : H pl = some (.lst hv)) (hl' : H' pl = some (.lst hv')) (e : ∀ b o, H b = some o → b ≠ pl → H' b = some o)
    (k : hv' = hv ∨ ∃ t p q, hv' = hv ++ [.ref t] ∧ H' t = some (.tup [.ref p, .ref q]) ∧ H' p = some (.lst (natsV dn)) ∧ H' q = some (.lst (natsV dn)) ∧ H p = none ∧ H q = none) : LpR C H0 r pd0 pl us hd dn ds pd (m + 1) H' := by
  obtain ⟨⟨dx, h1⟩, h2, h3⟩ := h.rd
  obtain ⟨hv0, g1, g2, g3⟩ := h.hv
  rw [hl] at g1
  cases g1
  have n1 : r ≠ pl := fun z => by rw [← z, h1] at hl; cases hl
  have n2 : ds ≠ pl := fun z => by rw [← z, h2] at hl; cases hl
  have g4 : HeldOk H' pd pl hv := g3.keep h1 h3 hl (fun b o hb _ _ z => e b o hb z) (.inl rfl)
  refine ⟨fun b o hb x y z => e _ _ (h.ch b o hb x y z) z, ⟨⟨dx, e _ _ h1 n1⟩, e _ _ h2 n2, e _ _ h3 h.ne⟩, h.np, h.ne, hv', hl', ?_, ?_⟩
  · rcases k with rfl | ⟨t, p, q, rfl, _⟩
    · omega
    · rw [List.length_append]
      show hv.length + 1 ≤ m + 1
      omega
  · rcases k with rfl | ⟨t, p, q, rfl, k1, k2, k3, k4, k5⟩
    · exact g4
    · intro x hx
      rcases List.mem_append.mp hx with hx | hx
      · exact g4 x hx
      · rw [List.mem_singleton.mp hx]
        exact ⟨t, p, q, dn, rfl, k1, k2, k3, fun z => (by rw [z, h3] at k4; cases k4), fun z => (by rw [z, h3] at k5; cases k5), fun z => (by rw [z, hl] at k4; cases k4), fun z => (by rw [z, hl] at k5; cases k5)⟩
end
section
variable {K : PySem.W.Frag} {σ : L2.St} {H H' : Hp} {te tl ta tb : TE} {x v : V} {D : Ends} {t : TT} {tz tu : TS}
theorem q_reverse {l : Addr} {xs : List V} (hl : H l = some (.lst xs)) (ha : Ev te σ H (.ref l)) (k : ∀ H1, Ex H H1 → tz D σ (upd H1 l (.lst xs.reverse))) : tSeq (tDrop (tBM0 K "list" rReverse te)) tz D σ H := ha H (Ex.refl H) _ fun H1 e1 => ⟨Or.inl ⟨rfl, xs, sq_of (e1 l _ hl)⟩, l, xs, rfl, rfl, e1 _ _ hl, k H1 e1⟩
/-- an if that isn't taken, its test leaving R behind -/
theorem q_whenR {R : Hp → Prop} (h : ∀ Q : Bool → Hp → Prop, (∀ H2, R H2 → Q false H2) → t σ H Q) (k : ∀ H2, R H2 → tz D σ H2) : tSeq (tIfS t tu tNext) tz D σ H := h _ fun H2 r => k H2 r
theorem s_whenR {R : Hp → Prop} (h : ∀ Q : Bool → Hp → Prop, (∀ H2, R H2 → Q false H2) → t σ H Q) (k : ∀ H2, R H2 → D.nx σ H2) : tIfS t tu tNext D σ H := h _ fun H2 r => k H2 r
/-- of the pairs held none differs -/
theorem el_held {ph pd pl : Addr} {hv : List V} {i j : Nat} {vs : List Nat} (hh : Ev tl σ H (.ref ph)) (hS : H ph = some (.lst hv)) (hk : HeldOk H pd pl hv) (hij : ∀ v w : V, (((wipe σ vs).set i (some v)).set j (some w))[i]? = some (some v) ∧ (((wipe σ vs).set i (some v)).set j (some w))[j]? = some (some w)) (hw : ∀ v w, wipe (((wipe σ vs).set i (some v)).set j (some w)) vs = wipe σ vs) :
    EvL (tLc (iList K tl) (gTup K 2 (gCons (gName i) (gCons (gName j) gNil))) (tTest (tOp (rNeD K) (tVar i) (tVar j))) te vs) σ H [] := fun H0 e0 Q q =>
  hh H0 e0 _ fun H1 e1 => ⟨ph, rfl, ⟨hv, sq_of (e1 _ _ (e0 _ _ hS))⟩, fun Dl hD => lc_list (xs := hv) (fun _ H2 => Ex H1 H2 ∧ H2 Dl = some (.lst [])) ⟨Ex.new hD, upd_same⟩ (fun _ H2 _ p => sq_of ((e0.trans (e1.trans p.1)) _ _ hS)) (fun n x H2 hx p => by
    obtain ⟨e2, h2⟩ := p
    obtain ⟨t0, p, q', ns, rfl, ht, hp, hq, _⟩ := hk x (List.mem_of_getElem? hx)
    have e02 := e0.trans (e1.trans e2)
    have g1 := e02 _ _ hp
    have g2 := e02 _ _ hq
    rw [natsV_ints] at g1 g2
    refine ⟨t0, _, rfl, st_of (e02 _ _ ht), rfl, _, _, rfl, _, _, rfl, rfl, hw _ _, ?_⟩
    refine ⟨_, (hij _ _).1, _, (hij _ _).2, _, _, dp_ints (sq_of g1), dp_ints (sq_of g2), shaped_ints _, shaped_ints _, ?_⟩
    rw [eqv_same (shaped_ints _)]
    exact ⟨false, rfl, e2, h2⟩) fun H2 p => q Dl H2 (fresh_back e1 hD) (e1.trans p.1) p.2⟩
end
end Sl

/-! ### rows read: along the words, one bit after the other -/
namespace Sl
open PySem PySem.Spec PyProof.Rows L2 Evl
def GoodW (us : List (List Nat)) : Prop := us.length ≤ 24 ∧ (∀ u ∈ us, 1 ≤ u.length ∧ u.length ≤ 12 ∧ ∀ c ∈ u, c = 48 ∨ c = 49) ∧ us.Pairwise ApR
/-- what the bits m tell: a sign, or that more is to come, or nothing -/
def stepOf (us : List (List Nat)) (m : List Nat) : Option (Option Nat) :=
  if (us.any fun u => decide (u = m)) = true then some (some (us.idxOf m)) else if (us.any fun u => decide (u.take m.length = m)) = true then some none else none
def readGo (us : List (List Nat)) : List Nat → List Nat → List Nat → Option (List Nat)
  | [], hd, dn => if hd = [] then some dn else none
  | c :: cs, hd, dn => match stepOf us (hd ++ [c]) with
    | none => none
    | some none => readGo us cs (hd ++ [c]) dn
    | some (some i) => readGo us cs [] (dn ++ [i])
theorem readGo_none {us : List (List Nat)} {c : Nat} {cs hd dn : List Nat} (h : stepOf us (hd ++ [c]) = none) : readGo us (c :: cs) hd dn = none := by
  unfold readGo
  rw [h]
theorem readGo_more {us : List (List Nat)} {c : Nat} {cs hd dn : List Nat} (h : stepOf us (hd ++ [c]) = some none) : readGo us (c :: cs) hd dn = readGo us cs (hd ++ [c]) dn := by
  conv => lhs; unfold readGo
  rw [h]
theorem readGo_sign {us : List (List Nat)} {c i : Nat} {cs hd dn : List Nat} (h : stepOf us (hd ++ [c]) = some (some i)) : readGo us (c :: cs) hd dn = readGo us cs [] (dn ++ [i]) := by
  conv => lhs; unfold readGo
  rw [h]
theorem step_bits {us : List (List Nat)} {m : List Nat} (hu : ∀ u ∈ us, ∀ c ∈ u, c = 48 ∨ c = 49) (h : stepOf us m ≠ none) : ∀ c ∈ m, c = 48 ∨ c = 49 := fun c hc => by
  unfold stepOf at h
  by_cases h1 : (us.any fun u => decide (u = m)) = true
  · obtain ⟨u, k1, k2⟩ := List.any_eq_true.mp h1
    have k2 := of_decide_eq_true k2
    subst k2
    exact hu u k1 c hc
  · rw [if_neg h1] at h
    by_cases h2 : (us.any fun u => decide (u.take m.length = m)) = true
    · obtain ⟨u, k1, k2⟩ := List.any_eq_true.mp h2
      have k2 := of_decide_eq_true k2
      rw [← k2] at hc
      exact hu u k1 c (List.mem_of_mem_take hc)
    · rw [if_neg h2] at h
      exact absurd rfl h
theorem readGo_bad {us : List (List Nat)} (hu : ∀ u ∈ us, ∀ c ∈ u, c = 48 ∨ c = 49) : ∀ (cs hd dn : List Nat), (∃ c ∈ cs, ¬ (c = 48 ∨ c = 49)) → readGo us cs hd dn = none
  | [], _, _, h => by obtain ⟨c, hc, _⟩ := h; cases hc
  | c :: cs, hd, dn, h => by
    cases k : stepOf us (hd ++ [c]) with
    | none => exact readGo_none k
    | some z =>
      have hc := step_bits hu (m := hd ++ [c]) (by rw [k]; simp) c (List.mem_append_right _ List.mem_cons_self)
      have h' : ∃ c ∈ cs, ¬ (c = 48 ∨ c = 49) := by
        obtain ⟨x, hx, nx⟩ := h
        rcases List.mem_cons.mp hx with rfl | hx
        · exact absurd hc nx
        · exact ⟨x, hx, nx⟩
      cases z with
      | none => rw [readGo_more k]; exact readGo_bad hu cs _ _ h'
      | some i => rw [readGo_sign k]; exact readGo_bad hu cs _ _ h'
theorem readGo_word {us : List (List Nat)} (hap : us.Pairwise ApR) {k : Nat} : ∀ (s p rest dn : List Nat), s ≠ [] → us[k]? = some (p ++ s) → readGo us (s ++ rest) p dn = readGo us rest [] (dn ++ [k])
  | [], _, _, _, h, _ => absurd rfl h
  | c :: s, p, rest, dn, _, hk => by
    have hpa := goodw_apart hap
    cases s with
    | nil =>
      have hm := List.mem_of_getElem? hk
      have e : us.idxOf (p ++ [c]) = k := by
        have k1 := List.idxOf_lt_length_iff.mpr hm
        have k2 : us[us.idxOf (p ++ [c])] = p ++ [c] := List.getElem_idxOf k1
        by_cases z : us.idxOf (p ++ [c]) = k
        · exact z
        · have g := List.getElem?_eq_getElem k1
          rw [k2] at g
          exact absurd List.take_length (hpa _ _ _ _ z g hk)
      refine readGo_sign (hd := p) ?_
      unfold stepOf
      rw [if_pos (List.any_eq_true.mpr ⟨_, hm, decide_eq_true rfl⟩), e]
    | cons d s =>
      have hm := List.mem_of_getElem? hk
      have ht : (p ++ c :: d :: s).take (p ++ [c]).length = p ++ [c] := by
        rw [List.length_append, show p ++ c :: d :: s = (p ++ [c]) ++ d :: s by simp, show p.length + [c].length = (p ++ [c]).length by simp, List.take_left']
        rfl
      have n1 : ¬ (us.any fun u => decide (u = p ++ [c])) = true := fun z => by
        obtain ⟨v, k1, k2⟩ := List.any_eq_true.mp z
        have k2 := of_decide_eq_true k2
        subst k2
        obtain ⟨j, hj, hv⟩ := List.getElem_of_mem k1
        have g := List.getElem?_eq_getElem hj
        rw [hv] at g
        have njk : j ≠ k := fun z => by
          subst z
          rw [hk] at g
          have := congrArg List.length (Option.some.inj g)
          simp at this
        exact hpa j k _ _ njk g hk ht
      have n2 : (us.any fun u => decide (u.take (p ++ [c]).length = p ++ [c])) = true := List.any_eq_true.mpr ⟨_, hm, decide_eq_true ht⟩
      have st : stepOf us (p ++ [c]) = some none := by
        unfold stepOf
        rw [if_neg n1, if_pos n2]
      show readGo us (c :: (d :: s ++ rest)) p dn = _
      rw [readGo_more st]
      exact readGo_word hap (d :: s) (p ++ [c]) rest dn (by simp) (by rw [hk]; simp)
/-- the bits of a row -/
def bitsOf (us : List (List Nat)) (ss : List Nat) : List Nat := ss.flatMap fun s => us.getD s []
theorem readGo_row {us : List (List Nat)} (hG : GoodW us) : ∀ (ss dn : List Nat), (∀ s ∈ ss, s < us.length) → readGo us (bitsOf us ss) [] dn = some (dn ++ ss)
  | [], dn, _ => by
    rw [List.append_nil]
    rfl
  | s :: ss, dn, h => by
    have hs := h s List.mem_cons_self
    have g := List.getElem?_eq_getElem hs
    have e : us.getD s [] = us[s] := by rw [List.getD_eq_getElem?_getD, g]; rfl
    have l1 := (hG.2.1 us[s] (List.getElem_mem hs)).1
    show readGo us (us.getD s [] ++ bitsOf us ss) [] dn = _
    rw [e, readGo_word hG.2.2 us[s] [] (bitsOf us ss) dn (fun z => by rw [z] at l1; exact absurd l1 (by decide)) g, readGo_row hG ss _ fun x hx => h x (List.mem_cons_of_mem _ hx), List.append_assoc]
    rfl
theorem bitsOf_len {us : List (List Nat)} (h : ∀ u ∈ us, u.length ≤ 12) : ∀ ss : List Nat, (bitsOf us ss).length ≤ 12 * ss.length
  | [] => Nat.le_refl _
  | s :: ss => by
    have k := bitsOf_len h ss
    show (us.getD s [] ++ bitsOf us ss).length ≤ 12 * (ss.length + 1)
    rw [List.length_append]
    have : (us.getD s []).length ≤ 12 := by
      rw [List.getD_eq_getElem?_getD]
      cases g : us[s]? with
      | none => exact Nat.zero_le _
      | some u => exact h u (List.mem_of_getElem? g)
    omega
theorem bitsOf_bits {us : List (List Nat)} (h : ∀ u ∈ us, ∀ c ∈ u, c = 48 ∨ c = 49) (ss : List Nat) : ∀ c ∈ bitsOf us ss, c = 48 ∨ c = 49 := fun c hc => by
  obtain ⟨s, _, k⟩ := List.mem_flatMap.mp hc
  rw [List.getD_eq_getElem?_getD] at k
  cases g : us[s]? with
  | none => rw [g] at k; cases k
  | some u => rw [g] at k; exact h u (List.mem_of_getElem? g) c k
theorem readGo_lt {us : List (List Nat)} : ∀ (cs hd dn ss : List Nat), readGo us cs hd dn = some ss → (∀ s ∈ dn, s < us.length) → ∀ s ∈ ss, s < us.length
  | [], hd, dn, ss, h, k => by
    unfold readGo at h
    split at h
    · cases h; exact k
    · cases h
  | c :: cs, hd, dn, ss, h, k => by
    cases z : stepOf us (hd ++ [c]) with
    | none => rw [readGo_none z] at h; cases h
    | some y =>
      cases y with
      | none => rw [readGo_more z] at h; exact readGo_lt cs _ _ ss h k
      | some i =>
        rw [readGo_sign z] at h
        refine readGo_lt cs _ _ ss h fun s hs => ?_
        rcases List.mem_append.mp hs with hs | hs
        · exact k s hs
        · rw [List.mem_singleton.mp hs]
          unfold stepOf at z
          by_cases h1 : (us.any fun u => decide (u = hd ++ [c])) = true
          · rw [if_pos h1] at z
            cases z
            obtain ⟨u, k1, k2⟩ := List.any_eq_true.mp h1
            have k2 := of_decide_eq_true k2
            rw [← k2]
            exact List.idxOf_lt_length_iff.mpr k1
          · rw [if_neg h1] at z
            split at z <;> cases z
theorem readGo_many {us : List (List Nat)} : ∀ (cs hd dn ss : List Nat), readGo us cs hd dn = some ss → ss.length ≤ dn.length + cs.length
  | [], hd, dn, ss, h => by
    unfold readGo at h
    split at h
    · cases h; exact Nat.le_refl _
    · cases h
  | c :: cs, hd, dn, ss, h => by
    cases z : stepOf us (hd ++ [c]) with
    | none => rw [readGo_none z] at h; cases h
    | some y =>
      cases y with
      | none => rw [readGo_more z] at h; have := readGo_many cs _ _ ss h; rw [List.length_cons]; omega
      | some i => rw [readGo_sign z] at h; have := readGo_many cs _ _ ss h; rw [List.length_append] at this; rw [List.length_cons]; simp at this; omega
/-! ### in rising order neighbours are enough -/
theorem pre_between : ∀ {u w v : List Nat}, ¬ w < u → ¬ v < w → v.take u.length = u → w.take u.length = u
  | [], w, v, _, _, _ => rfl
  | x :: u, w, [], _, _, h => by cases h
  | x :: u, [], y :: v, h1, _, _ => absurd List.Lex.nil h1
  | x :: u, z :: w, y :: v, h1, h2, h3 => by
    have h4 : y :: v.take u.length = x :: u := h3
    obtain ⟨e1, e2⟩ := List.cons.inj h4
    clear h3 h4
    subst e1
    have g1 : ¬ z < y := fun k => h1 (List.Lex.rel k)
    have g2 : ¬ y < z := fun k => h2 (List.Lex.rel k)
    have e : z = y := by omega
    subst e
    have k := pre_between (u := u) (w := w) (v := v) (fun k => h1 (List.Lex.cons k)) (fun k => h2 (List.Lex.cons k)) e2
    show z :: w.take u.length = z :: u
    rw [k]
theorem pre_lt : ∀ {u v : List Nat}, u.take v.length = v → v = u ∨ v < u
  | [], [], _ => .inl rfl
  | [], y :: v, h => by cases h
  | x :: u, [], _ => .inr List.Lex.nil
  | x :: u, y :: v, h => by
    have h4 : x :: u.take v.length = y :: v := h
    obtain ⟨e1, e2⟩ := List.cons.inj h4
    clear h h4
    subst e1
    rcases pre_lt e2 with e | k
    · exact .inl (by rw [e])
    · exact .inr (List.Lex.cons k)
theorem apart_sorted : ∀ {zs : List (List Nat)}, zs.Pairwise (fun a b => ¬ b < a) → (∀ (i : Nat) (u v : List Nat), zs[i]? = some u → zs[i + 1]? = some v → v.take u.length ≠ u) → zs.Pairwise ApR
  | [], _, _ => .nil
  | [u], _, _ => List.pairwise_singleton _ _
  | u :: w :: r, hs, hn => by
    obtain ⟨h1, h2⟩ := List.pairwise_cons.mp hs
    have ih := apart_sorted h2 fun i a b ha hb => hn (i + 1) a b ha hb
    have h0 : w.take u.length ≠ u := hn 0 u w rfl rfl
    have key : ∀ v ∈ w :: r, v.take u.length ≠ u := fun v hv z => by
      have hwv : ¬ v < w := by
        rcases List.mem_cons.mp hv with rfl | hv
        · exact List.lt_irrefl _
        · exact (List.pairwise_cons.mp h2).1 v hv
      exact h0 (pre_between (h1 w List.mem_cons_self) hwv z)
    refine List.pairwise_cons.mpr ⟨fun v hv => ⟨key v hv, fun z => ?_⟩, ih⟩
    rcases pre_lt z with e | k
    · exact key v hv (by rw [e, List.take_length])
    · exact h1 v hv k
/-! ### words that may be no words -/
def GoodX (xs : List V) : Prop := ∃ us, xs = us.map vtx ∧ GoodW us
def TxOk (s : Str) : Prop := s.cps.size ≤ 1000 ∧ ∀ c ∈ s.cps.toList, c < 0x110000
def ThW (H : Hp) (xs : List V) : Prop := ∀ x ∈ xs, Thing H x ∧ ∀ s, x = .str s → TxOk s
theorem ThW.mono {H H' : Hp} {xs : List V} (e : Ex H H') (h : ThW H xs) : ThW H' xs := fun x hx => ⟨(h x hx).1.mono e, (h x hx).2⟩
theorem vtx_map_inj : ∀ {us vs : List (List Nat)}, us.map vtx = vs.map vtx → us = vs
  | [], [], _ => rfl
  | [], v :: vs, h => by cases h
  | u :: us, [], h => by cases h
  | u :: us, v :: vs, h => by
    have h : vtx u :: us.map vtx = vtx v :: vs.map vtx := h
    obtain ⟨h1, h2⟩ := List.cons.inj h
    rw [tx_inj (V.str.inj h1), vtx_map_inj h2]
/-- one word by itself -/
def oneOk (x : V) : Prop := ∃ u : List Nat, x = vtx u ∧ 1 ≤ u.length ∧ u.length ≤ 12 ∧ ∀ c ∈ u, c = 48 ∨ c = 49
theorem GoodX.one {xs : List V} (h : GoodX xs) : xs.length ≤ 24 ∧ ∀ x ∈ xs, oneOk x := by
  obtain ⟨us, rfl, h1, h2, _⟩ := h
  refine ⟨by rw [List.length_map]; exact h1, fun x hx => ?_⟩
  obtain ⟨u, hu, rfl⟩ := List.mem_map.mp hx
  exact ⟨u, rfl, h2 u hu⟩
theorem ones_words : ∀ {xs : List V}, (∀ x ∈ xs, oneOk x) → ∃ us : List (List Nat), xs = us.map vtx ∧ ∀ u ∈ us, 1 ≤ u.length ∧ u.length ≤ 12 ∧ ∀ c ∈ u, c = 48 ∨ c = 49
  | [], _ => ⟨[], rfl, fun _ h => by cases h⟩
  | x :: r, h => by
    obtain ⟨u, rfl, hu⟩ := h x List.mem_cons_self
    obtain ⟨us, rfl, k⟩ := ones_words fun z hz => h z (List.mem_cons_of_mem _ hz)
    exact ⟨u :: us, rfl, fun v hv => (List.mem_cons.mp hv).elim (fun e => e ▸ hu) (k v)⟩
end Sl

/-! ### a sign times a number, texts joined, lists made longer, a class called within a try, a walk along a text -/
namespace Sl
open PySem PySem.Spec PyProof.Rows L2 Evl
/-- a text of one sign times a number: some text, not long -/
def rMulS : R2 := fun x y H Q => ∃ (i : Str) (n : Int), x = .str i ∧ y = .int n ∧ i.length ≤ 1 ∧ 0 ≤ n ∧ n ≤ 1000 ∧ ∀ z : Str, z.cps.size ≤ 1000 → (∀ c ∈ z.cps.toList, c ∈ i.cps.toList) → Q (.str z) H
theorem reps_mem {c : Nat} (x : Array Nat) : ∀ (m : Nat) (acc : Array Nat), c ∈ ((List.replicate m x).foldl (· ++ ·) acc).toList → c ∈ acc.toList ∨ c ∈ x.toList
  | 0, acc, h => .inl h
  | m + 1, acc, h => by
    rw [List.replicate_succ, List.foldl_cons] at h
    rcases reps_mem x m (acc ++ x) h with k | k
    · rw [Array.toList_append] at k
      exact List.mem_append.mp k
    · exact .inr k
theorem mul_mem (i : Str) (n : Int) : ∀ c ∈ (Txt.mul i n).cps.toList, c ∈ i.cps.toList := fun c hc => by
  unfold Txt.mul at hc
  split at hc
  · cases hc
  · split at hc
    · exact hc
    · rcases reps_mem i.cps n.toNat #[] hc with k | k
      · cases k
      · exact k
theorem op_mul_str {X : Cx} : OpR X (binaryOp .Mult) rMulS := fun pins s σ H x y v u Q I rx ry h => by
  obtain ⟨i, n, rfl, rfl, hi, h0, h1, q⟩ := h
  obtain ⟨t, rfl⟩ := rx
  obtain ⟨t', rfl⟩ := ry
  refine PySem.SB.mul (mulOk_of 1 1000 hi h1 (by omega) (by decide) (by decide)) fun t2 k => ⟨.str (Txt.mul i n), H, I.tok k, ⟨t2, rfl⟩, q _ ?_ (mul_mem i n)⟩
  have e := len_mul i n
  rw [if_neg (by simpa using h0)] at e
  have : (i.length : Int) * n ≤ 1 * n := Int.mul_le_mul_of_nonneg_right (by omega) h0
  show (Txt.mul i n).length ≤ 1000
  omega
theorem join_txS : ∀ ys : List (List Nat), Str.join "" (ys.map tx) = tx ys.flatten
  | [] => rfl
  | [y] => by
    show tx y = tx (y ++ [])
    rw [List.append_nil]
  | y :: z :: r => by
    show tx y ++ ("" : Str) ++ Str.join "" ((z :: r).map tx) = _
    rw [join_txS (z :: r), show ("" : Str) = tx [] from rfl, tx_app, tx_app, List.append_nil]
    rfl
theorem join_tx (ys : List (List Nat)) : Txt.join "" (ys.map tx) = tx ys.flatten := (PySem.StrLaws.glued_eq_join _ _).trans (join_txS ys)
section
variable {K : PySem.W.Frag} {σ : L2.St} {H : Hp} {te tl ta tb : TE} {x v : V} {D : Ends} {tu tz : TS}
def rJoinS (K : PySem.W.Frag) : V → List V → Hp → VK → Prop := fun x xs H Q => ∃ a p, ∃ ys : List Str, x = .str a ∧ xs = [.ref p] ∧ (SqL K H p (ys.map V.str) ∨ SqT K H p (ys.map V.str)) ∧ (ys.map (·.length)).sum + ys.length * a.length ≤ 16777216 ∧ Q (.str (Txt.join a ys)) H
theorem ev_join {ys : List (List Nat)} (h : EvL te σ H (ys.map vtx)) (hl : (ys.map List.length).sum ≤ 100000) : Ev (tBM K "str" (rJoinS K) (tC (.str "")) (tCons te tNil)) σ H (.str (tx ys.flatten)) := fun H1 e Q q =>
  ⟨rfl, h H1 e _ fun p H2 _ e2 h2 => ⟨"", p, ys.map tx, rfl, rfl, .inl (by rw [List.map_map]; exact sq_of h2), by
    have e1 : (ys.map tx).map (·.length) = ys.map List.length := by
      rw [List.map_map]
      exact List.map_congr_left fun y _ => tx_len y
    rw [e1, show ("" : Str).length = 0 from rfl, Nat.mul_zero]
    omega, by rw [join_tx]; exact q H2 e2⟩⟩
theorem s_ext {l : Addr} {xs ys : List V} (hl : H l = some (.lst xs)) (ha : Ev te σ H (.ref l)) (hb : EvL tb σ H ys) (hz : xs.length + ys.length ≤ 100000) (k : ∀ H1, Ex H H1 → D.nx σ (upd H1 l (.lst (xs ++ ys)))) :
    tDrop (tBM K "list" rExtend te (tCons tb tNil)) D σ H := ha H (Ex.refl H) _ fun H1 e1 => ⟨Or.inl ⟨rfl, xs, sq_of (e1 l _ hl)⟩, hb H1 e1 _ fun p H2 _ e2 h2 => ⟨l, p, xs, ys, rfl, rfl, (e1.trans e2) _ _ hl, h2, sz_of hz, k H2 (e1.trans e2)⟩⟩
theorem s_forStr {z : Str} {j : Nat} (h : Ev tl σ H (.str z)) (Pv : Nat → L2.St → Hp → Prop) (h0 : ∀ H1, Ex H H1 → Pv 0 σ H1)
    (hs : ∀ i c σ' H', z.cps[i]? = some c → Pv i σ' H' → tu { D with nx := Pv (i + 1), ct := Pv (i + 1), bk := D.nx } (σ'.set j (some (.str ⟨#[c]⟩))) H') (hd : ∀ σ' H', Pv z.cps.size σ' H' → D.nx σ' H') : tFor (iStr tl) (gName j) tu D σ H :=
  h H (Ex.refl H) _ fun H1 e1 => ⟨z, rfl, for_it (walk_str (z := z)) Pv (h0 H1 e1) (fun _ _ _ _ _ => trivial) (fun i v σ' H2 H3 hi hP y => by
    obtain ⟨e, c, hc, rfl⟩ := y
    subst e
    exact hs i c σ' _ hc hP) hd⟩
theorem q_forStr {z : Str} {j : Nat} (h : Ev tl σ H (.str z)) (Pv : Nat → L2.St → Hp → Prop) (h0 : ∀ H1, Ex H H1 → Pv 0 σ H1)
    (hs : ∀ i c σ' H', z.cps[i]? = some c → Pv i σ' H' → tu { D with nx := Pv (i + 1), ct := Pv (i + 1), bk := tz D } (σ'.set j (some (.str ⟨#[c]⟩))) H') (hd : ∀ σ' H', Pv z.cps.size σ' H' → tz D σ' H') : tSeq (tFor (iStr tl) (gName j) tu) tz D σ H :=
  s_forStr (D := { D with nx := tz D }) h Pv h0 hs hd
theorem ev_catTx {a b : List Nat} (ha : Ev ta σ H (.str (tx a))) (hb : Ev tb σ H (.str (tx b))) (hl : a.length + b.length ≤ 100000) : Ev (tOp (fun x y H Q => ∃ i j, x = .str i ∧ y = .str j ∧ i.length + j.length ≤ sizeLine ∧ Q (.str (i ++ j)) H) ta tb) σ H (.str (tx (a ++ b))) := ev_op ha hb (rv_addTx hl)
end
/-- C(..) where what __init__ raises is wished for at the slots as they stand -/
def tMakeT (C : Addr) (sp : Sp) (E : L2.St → XK) (t : TA) : TE := fun σ H Q => t σ H fun vs H1 => ∀ o d, H1 o = none → H1 d = none → d ≠ o → sp (.ref o :: vs) (upd (upd H1 d (.own o)) o (.ins C d [])) (fun v H2 => v = .non ∧ Q (.ref o) H2) (E σ)
theorem pe_makeT {X : Cx} {CX : CXT} {k : Nat} {f C : Addr} {fd : FuncData} {ps : List Str} {sp : Sp} {E : L2.St → XK} {x : Str} {q pos : Pos} {e : Expr} {es : List Expr} {t : TA} (M : Mk X.K C f) (F : FnOk X.prog X.w X.K X.mg X.base CX k f fd ps sp)
    (hr : Room (k + 1) X.A) (hg : Gl X x) (hm : X.mg x = some (.ref C)) (hb : Binds X.K fd ps []) (hx : ∀ σ, PassesAt CX X σ (E σ)) (ha : PA X (e :: es) t) (hdb : (x == ("__debug__" : Str)) = false := by decide)
    (he : starEach (e :: es) X.env = (false, eval e X.env) :: starEach es X.env := by rfl) (hpl : (backTo pos (starEach es X.env)).any (·.1) = false := by rfl) : PE X (.Call (.Name x q) (e :: es) [] pos) (tMakeT C sp E t) :=
  ⟨fun pins s σ H Q I h => wpAny_Call_Name_kw (ld_glob I hg hm (PySem.W.callWith_K (h₀ := X.base) I.ok.mod.kin M.kp (thn (ha.run pos pins s σ H _ I h) fun us s1 hu => by
    obtain ⟨vs, H1, J, r, g⟩ := hu
    let n := s1.heap.objs.size
    have gq := g (n + 1) n (J.hok.fresh (Nat.le_succ _)) (J.hok.fresh (Nat.le_refl _)) (Nat.ne_of_lt (Nat.lt_succ_self _))
    have J2 := Inv.made (C := C) J
    have r2 : Vals (V.ref (n + 1) :: vs) (Value.ref (n + 1) :: us) := .cons rfl r
    have hl : (Value.ref (n + 1) :: us).length = ps.length := by rw [← r2.length]; exact F.len _ _ _ _ gq
    have bd := hb _ (Value.ref (n + 1) :: us) J2.kIn (by rw [List.append_nil]; exact hl)
    rw [List.append_nil] at bd
    refine ⟨J.kIn, wpAny_call (make_map (f := f) J.kIn M.makes M.init (beq_iff_eq.mp M.fn) (codeAny_mono (F.run _ X.stack _ _ ⟨Value.ref (n + 1) :: us, []⟩ (Value.ref (n + 1) :: us) _ _ (E σ) (hr.make C us []) (J2.env0.make C us []) bd r2 gq) fun z s' hz => ?_))⟩
    cases z with
    | error er => exact hx σ pins _ _ er s' J2 hz
    | ok fl =>
      cases fl with
      | ret u =>
        obtain ⟨v, H', J3, rv, ev, q3⟩ := J2.after hz
        subst ev
        exact ⟨rv, ⟨V.ref (n + 1), H', J3, rfl, q3⟩⟩
      | next => exact False.elim hz
      | brk => exact False.elim hz
      | cont => exact False.elim hz) he hpl) hdb)⟩
end Sl

/-! ### rules for words that may be none -/
namespace Sl
open PySem PySem.Spec PyProof.Rows L2 Evl
theorem given_filterN {xs : List Nat} {n : Nat} (hn : n = xs.length) (f : Nat → Bool) (v : Nat → V) : given n (fun i => f (xs.getD i 0)) (fun i => v (xs.getD i 0)) = (xs.filter f).map v := by
  subst hn
  unfold given
  have e : xs = (List.range xs.length).map fun i => xs.getD i 0 := (list_range (l := xs)).symm
  conv => rhs; rw [e, List.filter_map, List.map_map]
  rfl
def WordV (v : V) (H : Hp) : Prop := Thing H v ∧ ∀ s, v = .str s → TxOk s
theorem Thing.upd {H : Hp} {p : Addr} {o : HO} {v : V} (h : Thing H v) (hne : v ≠ .ref p) : Thing (upd H p o) v := by
  rcases h with h | h | h | h | ⟨a, xs, rfl, g⟩
  · exact .inl h
  · exact .inr (.inl h)
  · exact .inr (.inr (.inl h))
  · exact .inr (.inr (.inr (.inl h)))
  · have ne : a ≠ p := fun z => hne (by rw [z])
    exact .inr (.inr (.inr (.inr ⟨a, xs, rfl, by rw [upd_ne ne]; exact g⟩)))
/-- n things made, none an object of H0 -/
def AllT (H0 : Hp) (n : Nat) (vs : List V) (H : Hp) : Prop := vs.length = n ∧ ∀ v ∈ vs, WordV v H ∧ ∀ b, v = .ref b → H0 b = none
section
variable {K : PySem.W.Frag} {σ : L2.St} {H : Hp} {te tl ta tb ti ts : TE} {x v : V} {D : Ends} {tu tz : TS} {t : TT}
theorem AllT.cons {H0 : Hp} {n : Nat} {vs : List V} (h : WordV v H) (f : ∀ b, v = .ref b → H0 b = none) (k : AllT H0 n vs H) : AllT H0 (n + 1) (v :: vs) H := ⟨by rw [List.length_cons, k.1], fun w hw => (List.mem_cons.mp hw).elim (fun e => e ▸ ⟨h, f⟩) (k.2 w)⟩
theorem eT_nil : EvS tNil σ H (AllT H 0) := fun H1 _ Q q => q [] H1 (Ex.refl _) ⟨rfl, fun _ h => by cases h⟩
/-- a plain value ahead -/
theorem eT_v {tr : TA} {n : Nat} (h : Ev te σ H v) (hs : ∀ H1, WordV v H1) (k : EvS tr σ H (AllT H n)) (f : ∀ b, v ≠ .ref b := by intro _ z; cases z) : EvS (tCons te tr) σ H (AllT H (n + 1)) := fun H1 e Q q =>
  h H1 e _ fun H2 e2 => k H2 (e.trans e2) _ fun vs H3 e3 r => q _ H3 (e2.trans e3) (AllT.cons (hs _) (fun b z => absurd z (f b)) r)
theorem eT_l {tr : TA} {n : Nat} {xs : List V} (h : EvL te σ H xs) (k : EvS tr σ H (AllT H n)) : EvS (tCons te tr) σ H (AllT H (n + 1)) := fun H1 e Q q =>
  h H1 e _ fun p H2 hp e2 h2 => k H2 (e.trans e2) _ fun vs H3 e3 r => q _ H3 (e2.trans e3) (AllT.cons ⟨.inr (.inr (.inr (.inr ⟨p, xs, rfl, .inl (e3 _ _ h2)⟩))), fun s z => by cases z⟩ (fun b z => by cases z; exact fresh_back e hp) r)
theorem eT_u {tr : TA} {n : Nat} {xs : List V} (h : EvU te σ H xs) (k : EvS tr σ H (AllT H n)) : EvS (tCons te tr) σ H (AllT H (n + 1)) := fun H1 e Q q =>
  h H1 e _ fun p H2 hp e2 h2 => k H2 (e.trans e2) _ fun vs H3 e3 r => q _ H3 (e2.trans e3) (AllT.cons ⟨.inr (.inr (.inr (.inr ⟨p, xs, rfl, .inr (e3 _ _ h2)⟩))), fun s z => by cases z⟩ (fun b z => by cases z; exact fresh_back e hp) r)
/-- a sign times a number ahead -/
theorem eT_m {tr : TA} {n : Nat} {z : Str} {i : Int} (ha : Ev ta σ H (.str z)) (hb : Ev tb σ H (.int i)) (hz : z.length ≤ 1) (hc : ∀ c ∈ z.cps.toList, c < 0x110000) (h0 : 0 ≤ i) (h1 : i ≤ 1000) (k : EvS tr σ H (AllT H n)) : EvS (tCons (tOp rMulS ta tb) tr) σ H (AllT H (n + 1)) := fun H1 e Q q =>
  ha H1 e _ fun H2 e2 => hb H2 (e.trans e2) _ fun H3 e3 => ⟨z, i, rfl, rfl, hz, h0, h1, fun y hy hm => k H3 ((e.trans e2).trans e3) _ fun vs H4 e4 r => q _ H4 ((e2.trans e3).trans e4) (AllT.cons ⟨.inr (.inr (.inr (.inl ⟨y, rfl⟩))), fun s hs => by cases hs; exact ⟨hy, fun c h => hc c (hm c h)⟩⟩ (fun b z => by cases z) r)⟩
theorem q_asgS {R : List V → Hp → Prop} {tr : TA} {i : Nat} (h : EvS tr σ H R) (hn : ∀ vs H1, R vs H1 → vs.length ≤ 100000) (k : ∀ p vs H1 H2, H p = none → Ex H H1 → H1 p = none → R vs H1 → H2 = upd H1 p (.lst vs) → tz D (σ.set i (some (.ref p))) H2) : tSeq (tAsg (tLst tr) (gName i)) tz D σ H :=
  h H (Ex.refl H) _ fun vs H1 e1 r => ⟨sz_of (hn vs H1 r), fun p hp => k p vs H1 _ (fresh_back e1 hp) e1 hp r rfl⟩
/-- xs.insert(i, ..) -/
theorem s_insertR {R : V → Hp → Prop} {l : Addr} {xs : List V} {i : Nat} (hl : H l = some (.lst xs)) (ha : Ev te σ H (.ref l)) (hi : Ev ti σ H (.int (i : Int))) (hs : ∀ H1, Ex H H1 → ∀ Q : VK, (∀ v H2, Ex H1 H2 → R v H2 → Q v H2) → ts σ H1 Q)
    (hx : xs.length ≤ 1000) (hi2 : i ≤ 1000) (k : ∀ v H1, Ex H H1 → R v H1 → D.nx σ (upd H1 l (.lst (xs.take i ++ [v] ++ xs.drop i)))) :
    tDrop (tBM K "list" (fun x vs H Q => ∃ (l : Addr) (xs : List V) (i : Int) (y : V), x = .ref l ∧ vs = [.int i, y] ∧ H l = some (.lst xs) ∧ xs.length < sizeLine ∧ 0 ≤ i ∧ i < 2 ^ 63 ∧ Q .non (upd H l (.lst (xs.take i.toNat ++ [y] ++ xs.drop i.toNat)))) te (tCons ti (tCons ts tNil))) D σ H :=
  ha H (Ex.refl H) _ fun H1 e1 => ⟨Or.inl ⟨rfl, xs, sq_of (e1 l _ hl)⟩, hi H1 e1 _ fun H2 e2 => hs H2 (e1.trans e2) _ fun v H3 e3 h3 => ⟨l, xs, (i : Int), v, rfl, rfl, ((e1.trans e2).trans e3) _ _ hl, Nat.lt_of_le_of_lt hx (by decide), by omega, by omega, by
    rw [Int.toNat_natCast]
    exact k v H3 ((e1.trans e2).trans e3) h3⟩⟩
/-- which signs of a text are taken -/
theorem el_lcStrF {z : Str} {j : Nat} {vs : List Nat} (f : Nat → Bool) (v : Nat → V) (h : Ev tl σ H (.str z)) (hn : z.cps.size ≤ 40000) (hw : ∀ x, wipe ((wipe σ vs).set j (some x)) vs = wipe σ vs)
    (ht : ∀ (c : Nat) H1, Ex H H1 → EvT t ((wipe σ vs).set j (some (.str ⟨#[c]⟩))) H1 (f c)) (he : ∀ (c : Nat) H1, Ex H H1 → f c = true → Ev te ((wipe σ vs).set j (some (.str ⟨#[c]⟩))) H1 (v c)) : EvL (tLc (iStr tl) (gName j) t te vs) σ H ((z.cps.toList.filter f).map v) := by
  rw [← given_filterN (n := z.cps.size) Array.length_toList.symm f v]
  exact fun H0 e0 Q q => h H0 e0 _ fun H1 e1 => ⟨z, rfl, fun Dl hD => lc_it (walk_str (z := z)) (Cw H1 (fun i => f (z.cps.toList.getD i 0)) (fun i => v (z.cps.toList.getD i 0)) Dl) ⟨hD, Ex.new hD, upd_same⟩ (fun _ _ _ _ => trivial) (fun i x H2 H3 hi p y => by
    obtain ⟨e, c, hc, rfl⟩ := y
    subst e
    have hg : z.cps.toList.getD i 0 = c := by
      rw [List.getD_eq_getElem?_getD, Array.getElem?_toList, hc]
      rfl
    refine ⟨hw _, ?_⟩
    exact cw_turn p (by omega) (by rw [hg]; exact ht c H1 (e0.trans e1)) (fun hf => by rw [hg] at hf ⊢; exact he c H1 (e0.trans e1) hf)) fun H2 p => q Dl H2 (fresh_back e1 p.1) (e1.trans p.2.1) p.2.2⟩
theorem eqv_nilW (ws : List (List Nat)) : PyData.eqv (.list (ws.map dtx)) (.list []) = ws.isEmpty := by cases ws <;> rfl
theorem ev_neNilW {ws : List (List Nat)} (ha : EvL ta σ H (ws.map vtx)) (hb : ∀ H1, Ex H H1 → EvL tb σ H1 []) (hc : ∀ u ∈ ws, ∀ c ∈ u, c < 0x110000) : Ev (tOp (rNeD K) ta tb) σ H (.bl (!ws.isEmpty)) := fun H1 e Q q =>
  ha H1 e _ fun p H2 hp e2 h2 => hb H2 (e.trans e2) H2 (Ex.refl _) _ fun r H3 hr e3 h3 => ⟨_, .list [], dp_txs (sq_of (e3 _ _ h2)), .lst (sq_of h3) .nil, shaped_txs hc, rfl, by rw [eqv_nilW]; exact q H3 (e2.trans e3)⟩
theorem ev_neNilWV {a : Addr} {ws : List (List Nat)} (ha : Ev ta σ H (.ref a)) (hS : SqL K H a (ws.map vtx)) (hb : ∀ H1, Ex H H1 → EvL tb σ H1 []) (hc : ∀ u ∈ ws, ∀ c ∈ u, c < 0x110000) : Ev (tOp (rNeD K) ta tb) σ H (.bl (!ws.isEmpty)) := fun H1 e Q q =>
  ha H1 e _ fun H2 e2 => hb H2 (e.trans e2) H2 (Ex.refl _) _ fun r H3 hr e3 h3 => ⟨_, .list [], dp_txs (ex_l ((e.trans e2).trans e3) hS), .lst (sq_of h3) .nil, shaped_txs hc, rfl, by rw [eqv_nilW]; exact q H3 (e2.trans e3)⟩
end
end Sl

/-! ### the text by places -/
namespace Sl
open PySem PySem.Spec PyProof.Rows L2 Evl
def topS (i : Nat) : Stmt := PySem.Challenge.pw_shortlimit_k14_whole_bits_read.main.body.getD i (.Pass ⟨0, 0, 0, 0⟩)
abbrev s_is_number : Stmt := topS 15
abbrev N_is_number : List Str := ["thing", "least", "most"]
theorem sc_is_number : FnScope N_is_number ["thing", "least", "most"] (defScope s_is_number) := ⟨rfl, rfl, rfl, by decide +kernel, rfl, by decide +kernel, by decide +kernel⟩
abbrev s_is_bits : Stmt := topS 16
abbrev N_is_bits : List Str := ["thing", "bit"]
theorem sc_is_bits : FnScope N_is_bits ["thing"] (defScope s_is_bits) := ⟨rfl, rfl, rfl, by decide +kernel, rfl, by decide +kernel, by decide +kernel⟩
abbrev s_check_bound : Stmt := topS 17
abbrev N_check_bound : List Str := ["bound"]
theorem sc_check_bound : FnScope N_check_bound ["bound"] (defScope s_check_bound) := ⟨rfl, rfl, rfl, by decide +kernel, rfl, by decide +kernel, by decide +kernel⟩
abbrev s_check_weights : Stmt := topS 18
abbrev N_check_weights : List Str := ["weights", "weight"]
theorem sc_check_weights : FnScope N_check_weights ["weights"] (defScope s_check_weights) := ⟨rfl, rfl, rfl, by decide +kernel, rfl, by decide +kernel, by decide +kernel⟩
abbrev s_check_lengths : Stmt := topS 19
abbrev N_check_lengths : List Str := ["lengths", "bound", "length"]
theorem sc_check_lengths : FnScope N_check_lengths ["lengths", "bound"] (defScope s_check_lengths) := ⟨rfl, rfl, rfl, by decide +kernel, rfl, by decide +kernel, by decide +kernel⟩
abbrev s_check_words : Stmt := topS 20
abbrev N_check_words : List Str := ["words", "word", "risen", "ahead"]
theorem sc_check_words : FnScope N_check_words ["words"] (defScope s_check_words) := ⟨rfl, rfl, rfl, by decide +kernel, rfl, by decide +kernel, by decide +kernel⟩
abbrev s_check_row : Stmt := topS 21
abbrev N_check_row : List Str := ["row", "many", "sign"]
theorem sc_check_row : FnScope N_check_row ["row", "many"] (defScope s_check_row) := ⟨rfl, rfl, rfl, by decide +kernel, rfl, by decide +kernel, by decide +kernel⟩
abbrev s_reader_init : Stmt := inClass (topS 23) 0
abbrev N_reader_init : List Str := ["self", "words", "sign", "word"]
theorem sc_reader_init : FnScope N_reader_init ["self", "words"] (defScope s_reader_init) := ⟨rfl, rfl, rfl, by decide +kernel, rfl, by decide +kernel, by decide +kernel⟩
abbrev s_reader_take : Stmt := inClass (topS 23) 1
abbrev N_reader_take : List Str := ["self", "bit", "held", "sign", "word"]
theorem sc_reader_take : FnScope N_reader_take ["self", "bit"] (defScope s_reader_take) := ⟨rfl, rfl, rfl, by decide +kernel, rfl, by decide +kernel, by decide +kernel⟩
abbrev s_reader_held : Stmt := inClass (topS 23) 2
abbrev N_reader_held : List Str := ["self"]
theorem sc_reader_held : FnScope N_reader_held ["self"] (defScope s_reader_held) := ⟨rfl, rfl, rfl, by decide +kernel, rfl, by decide +kernel, by decide +kernel⟩
abbrev s_reader_done : Stmt := inClass (topS 23) 3
abbrev N_reader_done : List Str := ["self"]
theorem sc_reader_done : FnScope N_reader_done ["self"] (defScope s_reader_done) := ⟨rfl, rfl, rfl, by decide +kernel, rfl, by decide +kernel, by decide +kernel⟩
abbrev s_written : Stmt := topS 24
abbrev N_written : List Str := ["words", "row", "sign"]
theorem sc_written : FnScope N_written ["words", "row"] (defScope s_written) := ⟨rfl, rfl, rfl, by decide +kernel, rfl, by decide +kernel, by decide +kernel⟩
abbrev s_read : Stmt := topS 25
abbrev N_read : List Str := ["words", "bits", "reader", "bit"]
theorem sc_read : FnScope N_read ["words", "bits"] (defScope s_read) := ⟨rfl, rfl, rfl, by decide +kernel, rfl, by decide +kernel, by decide +kernel⟩
abbrev s_places : Stmt := topS 27
abbrev N_places : List Str := ["length", "bound"]
theorem sc_places : FnScope N_places ["length", "bound"] (defScope s_places) := ⟨rfl, rfl, rfl, by decide +kernel, rfl, by decide +kernel, by decide +kernel⟩
abbrev s_room : Stmt := topS 28
abbrev N_room : List Str := ["bound"]
theorem sc_room : FnScope N_room ["bound"] (defScope s_room) := ⟨rfl, rfl, rfl, by decide +kernel, rfl, by decide +kernel, by decide +kernel⟩
abbrev s_counted : Stmt := topS 29
abbrev N_counted : List Str := ["lengths", "bound", "length"]
theorem sc_counted : FnScope N_counted ["lengths", "bound"] (defScope s_counted) := ⟨rfl, rfl, rfl, by decide +kernel, rfl, by decide +kernel, by decide +kernel⟩
abbrev s_barred : Stmt := topS 30
abbrev N_barred : List Str := ["weights", "bound", "there"]
theorem sc_barred : FnScope N_barred ["weights", "bound"] (defScope s_barred) := ⟨rfl, rfl, rfl, by decide +kernel, rfl, by decide +kernel, by decide +kernel⟩
abbrev s_check_room : Stmt := topS 31
abbrev N_check_room : List Str := ["weights", "bound", "without", "many", "there"]
theorem sc_check_room : FnScope N_check_room ["weights", "bound"] (defScope s_check_room) := ⟨rfl, rfl, rfl, by decide +kernel, rfl, by decide +kernel, by decide +kernel⟩
abbrev s_u_by_weight : Stmt := topS 33
abbrev N_u_by_weight : List Str := ["packets"]
theorem sc_u_by_weight : FnScope N_u_by_weight ["packets"] (defScope s_u_by_weight) := ⟨rfl, rfl, rfl, by decide +kernel, rfl, by decide +kernel, by decide +kernel⟩
abbrev s_u_joined : Stmt := topS 34
abbrev N_u_joined : List Str := ["one", "other"]
theorem sc_u_joined : FnScope N_u_joined ["one", "other"] (defScope s_u_joined) := ⟨rfl, rfl, rfl, by decide +kernel, rfl, by decide +kernel, by decide +kernel⟩
abbrev s_u_pairs : Stmt := topS 35
abbrev N_u_pairs : List Str := ["row", "one", "other"]
theorem sc_u_pairs : FnScope N_u_pairs ["row"] (defScope s_u_pairs) := ⟨rfl, rfl, rfl, by decide +kernel, rfl, by decide +kernel, by decide +kernel⟩
abbrev s_packet_rows : Stmt := topS 36
abbrev N_packet_rows : List Str := ["weights", "bound", "own", "rows", "_", "sign", "weight"]
theorem sc_packet_rows : FnScope N_packet_rows ["weights", "bound"] (defScope s_packet_rows) := ⟨rfl, rfl, rfl, by decide +kernel, rfl, by decide +kernel, by decide +kernel⟩
abbrev s_free_lengths : Stmt := topS 37
abbrev N_free_lengths : List Str := ["weights", "bound", "last", "many", "lengths", "_", "signs", "sign"]
theorem sc_free_lengths : FnScope N_free_lengths ["weights", "bound"] (defScope s_free_lengths) := ⟨rfl, rfl, rfl, by decide +kernel, rfl, by decide +kernel, by decide +kernel⟩
abbrev s_u_parted : Stmt := topS 39
abbrev N_u_parted : List Str := ["table", "first", "middle", "last", "depth", "ahead", "behind"]
theorem sc_u_parted : FnScope N_u_parted ["table", "first", "middle", "last", "depth"] (defScope s_u_parted) := ⟨rfl, rfl, rfl, by decide +kernel, rfl, by decide +kernel, by decide +kernel⟩
abbrev s_u_best_part : Stmt := topS 40
abbrev N_u_best_part : List Str := ["table", "first", "last", "depth", "ways", "middle", "way"]
theorem sc_u_best_part : FnScope N_u_best_part ["table", "first", "last", "depth"] (defScope s_u_best_part) := ⟨rfl, rfl, rfl, by decide +kernel, rfl, by decide +kernel, by decide +kernel⟩
abbrev s_u_least : Stmt := topS 41
abbrev N_u_least : List Str := ["weights", "table", "first", "last", "depth", "least", "_"]
theorem sc_u_least : FnScope N_u_least ["weights", "table", "first", "last", "depth"] (defScope s_u_least) := ⟨rfl, rfl, rfl, by decide +kernel, rfl, by decide +kernel, by decide +kernel⟩
abbrev s_least_table : Stmt := topS 42
abbrev N_least_table : List Str := ["weights", "bound", "table", "many", "depth", "first", "last"]
theorem sc_least_table : FnScope N_least_table ["weights", "bound"] (defScope s_least_table) := ⟨rfl, rfl, rfl, by decide +kernel, rfl, by decide +kernel, by decide +kernel⟩
abbrev s_u_run_lengths : Stmt := topS 43
abbrev N_u_run_lengths : List Str := ["table", "first", "last", "depth", "_", "middle", "ahead", "behind", "length"]
theorem sc_u_run_lengths : FnScope N_u_run_lengths ["table", "first", "last", "depth"] (defScope s_u_run_lengths) := ⟨rfl, rfl, rfl, by decide +kernel, rfl, by decide +kernel, by decide +kernel⟩
abbrev s_ordered_lengths : Stmt := topS 44
abbrev N_ordered_lengths : List Str := ["weights", "bound", "table", "many"]
theorem sc_ordered_lengths : FnScope N_ordered_lengths ["weights", "bound"] (defScope s_ordered_lengths) := ⟨rfl, rfl, rfl, by decide +kernel, rfl, by decide +kernel, by decide +kernel⟩
abbrev s_u_check_sum : Stmt := topS 46
abbrev N_u_check_sum : List Str := ["lengths"]
theorem sc_u_check_sum : FnScope N_u_check_sum ["lengths"] (defScope s_u_check_sum) := ⟨rfl, rfl, rfl, by decide +kernel, rfl, by decide +kernel, by decide +kernel⟩
abbrev s_u_word_from : Stmt := topS 47
abbrev N_u_word_from : List Str := ["first", "length"]
theorem sc_u_word_from : FnScope N_u_word_from ["first", "length"] (defScope s_u_word_from) := ⟨rfl, rfl, rfl, by decide +kernel, rfl, by decide +kernel, by decide +kernel⟩
abbrev s_words_by_lengths : Stmt := topS 48
abbrev N_words_by_lengths : List Str := ["lengths", "words", "first", "sign", "length"]
theorem sc_words_by_lengths : FnScope N_words_by_lengths ["lengths"] (defScope s_words_by_lengths) := ⟨rfl, rfl, rfl, by decide +kernel, rfl, by decide +kernel, by decide +kernel⟩
abbrev s_words_in_order : Stmt := topS 49
abbrev N_words_in_order : List Str := ["lengths", "words", "behind", "length", "size", "first"]
theorem sc_words_in_order : FnScope N_words_in_order ["lengths"] (defScope s_words_in_order) := ⟨rfl, rfl, rfl, by decide +kernel, rfl, by decide +kernel, by decide +kernel⟩
abbrev s_free_code : Stmt := topS 51
abbrev N_free_code : List Str := ["weights", "bound"]
theorem sc_free_code : FnScope N_free_code ["weights", "bound"] (defScope s_free_code) := ⟨rfl, rfl, rfl, by decide +kernel, rfl, by decide +kernel, by decide +kernel⟩
abbrev s_ordered_code : Stmt := topS 52
abbrev N_ordered_code : List Str := ["weights", "bound"]
theorem sc_ordered_code : FnScope N_ordered_code ["weights", "bound"] (defScope s_ordered_code) := ⟨rfl, rfl, rfl, by decide +kernel, rfl, by decide +kernel, by decide +kernel⟩
abbrev s_lw_cell : Stmt := topS 54
abbrev N_lw_cell : List Str := ["_law_script", "_law_k", "_law_number"]
theorem sc_lw_cell : FnScope N_lw_cell ["_law_script", "_law_k"] (defScope s_lw_cell) := ⟨rfl, rfl, rfl, by decide +kernel, rfl, by decide +kernel, by decide +kernel⟩
abbrev s_lw_whole : Stmt := topS 55
abbrev N_lw_whole : List Str := ["_law_found"]
theorem sc_lw_whole : FnScope N_lw_whole ["_law_found"] (defScope s_lw_whole) := ⟨rfl, rfl, rfl, by decide +kernel, rfl, by decide +kernel, by decide +kernel⟩
abbrev s_lw_doubled : Stmt := topS 56
abbrev N_lw_doubled : List Str := ["_law_times", "_law_found", "_law_turn"]
theorem sc_lw_doubled : FnScope N_lw_doubled ["_law_times"] (defScope s_lw_doubled) := ⟨rfl, rfl, rfl, by decide +kernel, rfl, by decide +kernel, by decide +kernel⟩
abbrev s_lw_weights : Stmt := topS 57
abbrev N_lw_weights : List Str := ["_law_script", "_law_first", "_law_many", "_law_kind", "_law_weights_here", "_law_k", "_law_cell_here", "_law_step"]
theorem sc_lw_weights : FnScope N_lw_weights ["_law_script", "_law_first", "_law_many", "_law_kind"] (defScope s_lw_weights) := ⟨rfl, rfl, rfl, by decide +kernel, rfl, by decide +kernel, by decide +kernel⟩
abbrev s_lw_least_bound : Stmt := topS 58
abbrev N_lw_least_bound : List Str := ["_law_many", "_law_bound"]
theorem sc_lw_least_bound : FnScope N_lw_least_bound ["_law_many"] (defScope s_lw_least_bound) := ⟨rfl, rfl, rfl, by decide +kernel, rfl, by decide +kernel, by decide +kernel⟩
abbrev s_lw_word_of : Stmt := topS 59
abbrev N_lw_word_of : List Str := ["_law_error", "_law_found"]
theorem sc_lw_word_of : FnScope N_lw_word_of ["_law_error"] (defScope s_lw_word_of) := ⟨rfl, rfl, rfl, by decide +kernel, rfl, by decide +kernel, by decide +kernel⟩
abbrev s_lw_words : Stmt := topS 60
abbrev N_lw_words : List Str := ["_law_script", "_law_first", "_law_many", "_law_words_here", "_law_k", "_law_word", "_law_shallow", "_law_at", "_law_found"]
theorem sc_lw_words : FnScope N_lw_words ["_law_script", "_law_first"] (defScope s_lw_words) := ⟨rfl, rfl, rfl, by decide +kernel, rfl, by decide +kernel, by decide +kernel⟩
abbrev s_lw_apart : Stmt := topS 61
abbrev N_lw_apart : List Str := ["_law_words_here", "_law_at", "_law_here"]
theorem sc_lw_apart : FnScope N_lw_apart ["_law_words_here"] (defScope s_lw_apart) := ⟨rfl, rfl, rfl, by decide +kernel, rfl, by decide +kernel, by decide +kernel⟩
abbrev s_lw_spoiled : Stmt := topS 62
abbrev N_lw_spoiled : List Str := ["_law_words_here", "_law_way", "_law_cell_here", "_law_at", "_law_wrong"]
theorem sc_lw_spoiled : FnScope N_lw_spoiled ["_law_words_here", "_law_way", "_law_cell_here"] (defScope s_lw_spoiled) := ⟨rfl, rfl, rfl, by decide +kernel, rfl, by decide +kernel, by decide +kernel⟩
abbrev s_lw_good : Stmt := topS 63
abbrev N_lw_good : List Str := ["_law_words_here", "_law_word", "_law_bit"]
theorem sc_lw_good : FnScope N_lw_good ["_law_words_here"] (defScope s_lw_good) := ⟨rfl, rfl, rfl, by decide +kernel, rfl, by decide +kernel, by decide +kernel⟩
abbrev s_lw_some : Stmt := topS 64
abbrev N_lw_some : List Str := ["_law_script", "_law_way", "_law_many", "_law_weights_here", "_law_bound"]
theorem sc_lw_some : FnScope N_lw_some ["_law_script"] (defScope s_lw_some) := ⟨rfl, rfl, rfl, by decide +kernel, rfl, by decide +kernel, by decide +kernel⟩
abbrev s_lw_read : Stmt := topS 65
abbrev N_lw_read : List Str := ["_law_words_here", "_law_bits", "_law_signs", "_law_word", "_law_bit", "_law_one"]
theorem sc_lw_read : FnScope N_lw_read ["_law_words_here", "_law_bits"] (defScope s_lw_read) := ⟨rfl, rfl, rfl, by decide +kernel, rfl, by decide +kernel, by decide +kernel⟩
abbrev s_lw_told : Stmt := topS 66
abbrev N_lw_told : List Str := ["_law_which", "_law_words_here", "_law_thing", "_law_error"]
theorem sc_lw_told : FnScope N_lw_told ["_law_which", "_law_words_here", "_law_thing"] (defScope s_lw_told) := ⟨rfl, rfl, rfl, by decide +kernel, rfl, by decide +kernel, by decide +kernel⟩
abbrev s_lw_turned : Stmt := topS 67
abbrev N_lw_turned : List Str := ["_law_bits", "_law_cell_here", "_law_at"]
theorem sc_lw_turned : FnScope N_lw_turned ["_law_bits", "_law_cell_here"] (defScope s_lw_turned) := ⟨rfl, rfl, rfl, by decide +kernel, rfl, by decide +kernel, by decide +kernel⟩
abbrev s_lw_row : Stmt := topS 68
abbrev N_lw_row : List Str := ["_law_script", "_law_many", "_law_row_here", "_law_wrong", "_law_k"]
theorem sc_lw_row : FnScope N_lw_row ["_law_script", "_law_many"] (defScope s_lw_row) := ⟨rfl, rfl, rfl, by decide +kernel, rfl, by decide +kernel, by decide +kernel⟩
abbrev s_lw_written : Stmt := topS 69
abbrev N_lw_written : List Str := ["_law_words_here", "_law_row_here", "_law_sign"]
theorem sc_lw_written : FnScope N_lw_written ["_law_words_here", "_law_row_here"] (defScope s_lw_written) := ⟨rfl, rfl, rfl, by decide +kernel, rfl, by decide +kernel, by decide +kernel⟩
abbrev s_law : Stmt := topS 70
abbrev N_law : List Str := ["_law_script", "_law_words_here", "_law_row_here", "_law_handed", "_law_found", "_law_bits"]
theorem sc_law : FnScope N_law ["_law_script"] (defScope s_law) := ⟨rfl, rfl, rfl, by decide +kernel, rfl, by decide +kernel, by decide +kernel⟩
/-- a def behind the top -/
structure Def (K : PySem.W.Frag) (mg : Str → Option Value) (x : Str) (st : Stmt) (f : Addr) (fd : FuncData) (ps : List Str) : Prop where
  F : Fun K x x st f fd
  g : mg x = some (.ref f)
  b : Binds K fd ps []
/-- an own class of errors -/
structure XCls (K : PySem.W.Frag) (mg : Str → Option Value) (x : Str) (C : Addr) : Prop where
  gC : mg x = some (.ref C)
  xC : PySem.W.excIn K C [.type "ValueError", .type "Exception", .type "BaseException", .type "object"] "ValueError.__new__" = true
  kC : PySem.W.keepIn K (.ref C) = true
  bC : PySem.W.subIn K (.ref C) (.type "BaseException") = some true
  tC : PySem.W.typeIn K (.ref C) = some (.type "type")
/-- a method's def; an own class -/
structure DefM (K : PySem.W.Frag) (x q : Str) (st : Stmt) (f : Addr) (fd : FuncData) (ps : List Str) : Prop where
  F : Fun K x q st f fd
  b : Binds K fd ps []
structure OwnC (K : PySem.W.Frag) (mg : Str → Option Value) (x : Str) (C : Addr) : Prop where
  cl : Cls K C
  gC : mg x = some (.ref C)
structure Blt (mg : Str → Option Value) : Prop where
  b_ValueError : mg "ValueError" = none
  b_all : mg "all" = none
  b_any : mg "any" = none
  b_bool : mg "bool" = none
  b_enumerate : mg "enumerate" = none
  b_int : mg "int" = none
  b_isinstance : mg "isinstance" = none
  b_len : mg "len" = none
  b_list : mg "list" = none
  b_max : mg "max" = none
  b_min : mg "min" = none
  b_range : mg "range" = none
  b_sorted : mg "sorted" = none
  b_str : mg "str" = none
  b_sum : mg "sum" = none
  b_tuple : mg "tuple" = none
  b_zip : mg "zip" = none
structure Adr where
  f_is_number : Addr
  d_is_number : FuncData
  f_is_bits : Addr
  d_is_bits : FuncData
  f_check_bound : Addr
  d_check_bound : FuncData
  f_check_weights : Addr
  d_check_weights : FuncData
  f_check_lengths : Addr
  d_check_lengths : FuncData
  f_check_words : Addr
  d_check_words : FuncData
  f_check_row : Addr
  d_check_row : FuncData
  f_reader_init : Addr
  d_reader_init : FuncData
  f_reader_take : Addr
  d_reader_take : FuncData
  f_reader_held : Addr
  d_reader_held : FuncData
  f_reader_done : Addr
  d_reader_done : FuncData
  f_written : Addr
  d_written : FuncData
  f_read : Addr
  d_read : FuncData
  f_places : Addr
  d_places : FuncData
  f_room : Addr
  d_room : FuncData
  f_counted : Addr
  d_counted : FuncData
  f_barred : Addr
  d_barred : FuncData
  f_check_room : Addr
  d_check_room : FuncData
  f_u_by_weight : Addr
  d_u_by_weight : FuncData
  f_u_joined : Addr
  d_u_joined : FuncData
  f_u_pairs : Addr
  d_u_pairs : FuncData
  f_packet_rows : Addr
  d_packet_rows : FuncData
  f_free_lengths : Addr
  d_free_lengths : FuncData
  f_u_parted : Addr
  d_u_parted : FuncData
  f_u_best_part : Addr
  d_u_best_part : FuncData
  f_u_least : Addr
  d_u_least : FuncData
  f_least_table : Addr
  d_least_table : FuncData
  f_u_run_lengths : Addr
  d_u_run_lengths : FuncData
  f_ordered_lengths : Addr
  d_ordered_lengths : FuncData
  f_u_check_sum : Addr
  d_u_check_sum : FuncData
  f_u_word_from : Addr
  d_u_word_from : FuncData
  f_words_by_lengths : Addr
  d_words_by_lengths : FuncData
  f_words_in_order : Addr
  d_words_in_order : FuncData
  f_free_code : Addr
  d_free_code : FuncData
  f_ordered_code : Addr
  d_ordered_code : FuncData
  f_lw_cell : Addr
  d_lw_cell : FuncData
  f_lw_whole : Addr
  d_lw_whole : FuncData
  f_lw_doubled : Addr
  d_lw_doubled : FuncData
  f_lw_weights : Addr
  d_lw_weights : FuncData
  f_lw_least_bound : Addr
  d_lw_least_bound : FuncData
  f_lw_word_of : Addr
  d_lw_word_of : FuncData
  f_lw_words : Addr
  d_lw_words : FuncData
  f_lw_apart : Addr
  d_lw_apart : FuncData
  f_lw_spoiled : Addr
  d_lw_spoiled : FuncData
  f_lw_good : Addr
  d_lw_good : FuncData
  f_lw_some : Addr
  d_lw_some : FuncData
  f_lw_read : Addr
  d_lw_read : FuncData
  f_lw_told : Addr
  d_lw_told : FuncData
  f_lw_turned : Addr
  d_lw_turned : FuncData
  f_lw_row : Addr
  d_lw_row : FuncData
  f_lw_written : Addr
  d_lw_written : FuncData
  f_law : Addr
  d_law : FuncData
  C_CodeError : Addr
  C_NoWeights : Addr
  C_BadWeight : Addr
  C_BadBound : Addr
  C_NoRoom : Addr
  C_BadLengths : Addr
  C_BadWords : Addr
  C_BadBits : Addr
  C_NoSign : Addr
  C_Reader : Addr
  cL : Addr
  PL : Addr
def errNames : List Str := ["NoWeights", "BadWeight", "BadBound", "NoRoom", "BadLengths", "BadWords", "BadBits", "NoSign"]
/-- what is asked of a class of errors, nm its name -/
structure Err (K : PySem.W.Frag) (t : Adr) (D : Addr) (nm : Str) : Prop where
  C : ExcC K D
  one : nm ∈ errNames
  k1 : PySem.W.kitOne K (.ref D) (.ref t.C_NoWeights) = some (decide (nm = ("NoWeights" : Str)))
  k2 : PySem.W.kitOne K (.ref D) (.ref t.C_BadWeight) = some (decide (nm = ("BadWeight" : Str)))
  k3 : PySem.W.kitOne K (.ref D) (.ref t.C_BadBound) = some (decide (nm = ("BadBound" : Str)))
  k4 : PySem.W.kitOne K (.ref D) (.ref t.C_NoRoom) = some (decide (nm = ("NoRoom" : Str)))
  k5 : PySem.W.kitOne K (.ref D) (.ref t.C_BadLengths) = some (decide (nm = ("BadLengths" : Str)))
  k6 : PySem.W.kitOne K (.ref D) (.ref t.C_BadWords) = some (decide (nm = ("BadWords" : Str)))
  k7 : PySem.W.kitOne K (.ref D) (.ref t.C_BadBits) = some (decide (nm = ("BadBits" : Str)))
  k8 : PySem.W.kitOne K (.ref D) (.ref t.C_NoSign) = some (decide (nm = ("NoSign" : Str)))
  kV : PySem.W.kitOne K (.ref D) (.type "ValueError") = some true
  sub : PySem.W.exmOne K (.ref D) (.ref t.C_CodeError) = some true
structure Top (K : PySem.W.Frag) (mg : Str → Option Value) (t : Adr) : Prop where
  b : Blt mg
  is_number : Def K mg "is_number" s_is_number t.f_is_number t.d_is_number ["thing", "least", "most"]
  is_bits : Def K mg "is_bits" s_is_bits t.f_is_bits t.d_is_bits ["thing"]
  check_bound : Def K mg "check_bound" s_check_bound t.f_check_bound t.d_check_bound ["bound"]
  check_weights : Def K mg "check_weights" s_check_weights t.f_check_weights t.d_check_weights ["weights"]
  check_lengths : Def K mg "check_lengths" s_check_lengths t.f_check_lengths t.d_check_lengths ["lengths", "bound"]
  check_words : Def K mg "check_words" s_check_words t.f_check_words t.d_check_words ["words"]
  check_row : Def K mg "check_row" s_check_row t.f_check_row t.d_check_row ["row", "many"]
  reader_init : DefM K "__init__" "Reader.__init__" s_reader_init t.f_reader_init t.d_reader_init ["self", "words"]
  mk_Reader : Mk K t.C_Reader t.f_reader_init
  reader_take : DefM K "take" "Reader.take" s_reader_take t.f_reader_take t.d_reader_take ["self", "bit"]
  me_reader_take : Meth K t.C_Reader "take" t.f_reader_take
  reader_held : DefM K "held" "Reader.held" s_reader_held t.f_reader_held t.d_reader_held ["self"]
  me_reader_held : Meth K t.C_Reader "held" t.f_reader_held
  reader_done : DefM K "done" "Reader.done" s_reader_done t.f_reader_done t.d_reader_done ["self"]
  me_reader_done : Meth K t.C_Reader "done" t.f_reader_done
  written : Def K mg "written" s_written t.f_written t.d_written ["words", "row"]
  read : Def K mg "read" s_read t.f_read t.d_read ["words", "bits"]
  places : Def K mg "places" s_places t.f_places t.d_places ["length", "bound"]
  room : Def K mg "room" s_room t.f_room t.d_room ["bound"]
  counted : Def K mg "counted" s_counted t.f_counted t.d_counted ["lengths", "bound"]
  barred : Def K mg "barred" s_barred t.f_barred t.d_barred ["weights", "bound"]
  check_room : Def K mg "check_room" s_check_room t.f_check_room t.d_check_room ["weights", "bound"]
  u_by_weight : Def K mg "_by_weight" s_u_by_weight t.f_u_by_weight t.d_u_by_weight ["packets"]
  u_joined : Def K mg "_joined" s_u_joined t.f_u_joined t.d_u_joined ["one", "other"]
  u_pairs : Def K mg "_pairs" s_u_pairs t.f_u_pairs t.d_u_pairs ["row"]
  packet_rows : Def K mg "packet_rows" s_packet_rows t.f_packet_rows t.d_packet_rows ["weights", "bound"]
  free_lengths : Def K mg "free_lengths" s_free_lengths t.f_free_lengths t.d_free_lengths ["weights", "bound"]
  u_parted : Def K mg "_parted" s_u_parted t.f_u_parted t.d_u_parted ["table", "first", "middle", "last", "depth"]
  u_best_part : Def K mg "_best_part" s_u_best_part t.f_u_best_part t.d_u_best_part ["table", "first", "last", "depth"]
  u_least : Def K mg "_least" s_u_least t.f_u_least t.d_u_least ["weights", "table", "first", "last", "depth"]
  least_table : Def K mg "least_table" s_least_table t.f_least_table t.d_least_table ["weights", "bound"]
  u_run_lengths : Def K mg "_run_lengths" s_u_run_lengths t.f_u_run_lengths t.d_u_run_lengths ["table", "first", "last", "depth"]
  ordered_lengths : Def K mg "ordered_lengths" s_ordered_lengths t.f_ordered_lengths t.d_ordered_lengths ["weights", "bound"]
  u_check_sum : Def K mg "_check_sum" s_u_check_sum t.f_u_check_sum t.d_u_check_sum ["lengths"]
  u_word_from : Def K mg "_word_from" s_u_word_from t.f_u_word_from t.d_u_word_from ["first", "length"]
  words_by_lengths : Def K mg "words_by_lengths" s_words_by_lengths t.f_words_by_lengths t.d_words_by_lengths ["lengths"]
  words_in_order : Def K mg "words_in_order" s_words_in_order t.f_words_in_order t.d_words_in_order ["lengths"]
  free_code : Def K mg "free_code" s_free_code t.f_free_code t.d_free_code ["weights", "bound"]
  ordered_code : Def K mg "ordered_code" s_ordered_code t.f_ordered_code t.d_ordered_code ["weights", "bound"]
  lw_cell : Def K mg "_law_cell" s_lw_cell t.f_lw_cell t.d_lw_cell ["_law_script", "_law_k"]
  lw_whole : Def K mg "_law_whole" s_lw_whole t.f_lw_whole t.d_lw_whole ["_law_found"]
  lw_doubled : Def K mg "_law_doubled" s_lw_doubled t.f_lw_doubled t.d_lw_doubled ["_law_times"]
  lw_weights : Def K mg "_law_weights" s_lw_weights t.f_lw_weights t.d_lw_weights ["_law_script", "_law_first", "_law_many", "_law_kind"]
  lw_least_bound : Def K mg "_law_least_bound" s_lw_least_bound t.f_lw_least_bound t.d_lw_least_bound ["_law_many"]
  lw_word_of : Def K mg "_law_word_of" s_lw_word_of t.f_lw_word_of t.d_lw_word_of ["_law_error"]
  lw_words : Def K mg "_law_words" s_lw_words t.f_lw_words t.d_lw_words ["_law_script", "_law_first"]
  lw_apart : Def K mg "_law_apart" s_lw_apart t.f_lw_apart t.d_lw_apart ["_law_words_here"]
  lw_spoiled : Def K mg "_law_spoiled" s_lw_spoiled t.f_lw_spoiled t.d_lw_spoiled ["_law_words_here", "_law_way", "_law_cell_here"]
  lw_good : Def K mg "_law_good" s_lw_good t.f_lw_good t.d_lw_good ["_law_words_here"]
  lw_some : Def K mg "_law_some" s_lw_some t.f_lw_some t.d_lw_some ["_law_script"]
  lw_read : Def K mg "_law_read" s_lw_read t.f_lw_read t.d_lw_read ["_law_words_here", "_law_bits"]
  lw_told : Def K mg "_law_told" s_lw_told t.f_lw_told t.d_lw_told ["_law_which", "_law_words_here", "_law_thing"]
  lw_turned : Def K mg "_law_turned" s_lw_turned t.f_lw_turned t.d_lw_turned ["_law_bits", "_law_cell_here"]
  lw_row : Def K mg "_law_row" s_lw_row t.f_lw_row t.d_lw_row ["_law_script", "_law_many"]
  lw_written : Def K mg "_law_written" s_lw_written t.f_lw_written t.d_lw_written ["_law_words_here", "_law_row_here"]
  law : Def K mg "law" s_law t.f_law t.d_law ["_law_script"]
  oc_Reader : OwnC K mg "Reader" t.C_Reader
  na_Reader__signs : NoAttr K t.C_Reader "_signs"
  na_Reader__held : NoAttr K t.C_Reader "_held"
  na_Reader__done : NoAttr K t.C_Reader "_done"
  C_CodeError : XCls K mg "CodeError" t.C_CodeError
  C_NoWeights : XCls K mg "NoWeights" t.C_NoWeights
  C_BadWeight : XCls K mg "BadWeight" t.C_BadWeight
  C_BadBound : XCls K mg "BadBound" t.C_BadBound
  C_NoRoom : XCls K mg "NoRoom" t.C_NoRoom
  C_BadLengths : XCls K mg "BadLengths" t.C_BadLengths
  C_BadWords : XCls K mg "BadWords" t.C_BadWords
  C_BadBits : XCls K mg "BadBits" t.C_BadBits
  C_NoSign : XCls K mg "NoSign" t.C_NoSign
  c_MOST_SIGNS : ∃ u, mg "MOST_SIGNS" = some u ∧ RelV (.int 24) u
  c_MOST_WEIGHT : ∃ u, mg "MOST_WEIGHT" = some u ∧ RelV (.int 1000000000000) u
  c_MOST_BITS : ∃ u, mg "MOST_BITS" = some u ∧ RelV (.int 12) u
  code_u_by_weight : t.d_u_by_weight.code = .ref t.cL
  E_BadWords : Err K t t.C_BadWords "BadWords"
  E_BadBits : Err K t t.C_BadBits "BadBits"
  E_NoSign : Err K t t.C_NoSign "NoSign"
variable {P : Program} {w : World} {K : PySem.W.Frag} {mg : Str → Option Value} {base : Heap} {t : Adr}
end Sl
namespace Sl
open PySem PySem.Spec PyProof.Rows L2 Evl
section
variable {P : Program} {w : World} {K : PySem.W.Frag} {mg : Str → Option Value} {base : Heap} {t : Adr}
/-! is_number -/
def spNumber : Sp := fun vs H Q _ => ∃ (x : V) (lo hi : Int), vs = [x, .int lo, .int hi] ∧ Thing H x ∧ RetV (.bl (within lo hi x)) H Q
theorem sv_number {H : Hp} {x : V} {lo hi : Int} (k : Thing H x) : SpV spNumber ([x, .int lo, .int hi] ++ []) H (.bl (within lo hi x)) := fun H1 e Q q E => ⟨x, lo, hi, rfl, k.mono e, q⟩
theorem ok_is_number (T : Top K mg t) : FnOk P w K mg base CX0 1 t.f_is_number t.d_is_number ["thing", "least", "most"] spNumber := by
  refine T.is_number.F.ok sc_is_number (fun vs H Q E h => ?_) (fun cdv A outer s H vs Q E hr h => ?_)
  · obtain ⟨x, lo, hi, rfl, _⟩ := h
    rfl
  · obtain ⟨x, lo, hi, rfl, k, q⟩ := h
    refine ⟨_, (pss_cons (ps_if (PW.pt (pw_or (pt_val (pe_callB (r := rIsi K) call_isi (by rfl) T.b.b_isinstance (by decide +kernel) (pa_cons (pv 0) (pa_cons (pe_bltn (v := .ty "bool") (by rfl) T.b.b_bool (by decide +kernel) rfl) pa_nil)))) (pw_or1 (pt_not (pt_val (pe_callB (r := rIsi K) call_isi (by rfl) T.b.b_isinstance (by decide +kernel) (pa_cons (pv 0) (pa_cons (pe_bltn (v := .ty "int") (by rfl) T.b.b_int (by decide +kernel) rfl) pa_nil)))))))) (pss_one (ps_ret pe_bl)) pss_nil)
      (pss_one (ps_ret (pe_chain op_le op_le (pv 1) (pv 0) (pv 2))))), ?_⟩
    refine q_when (et_or (et_B (ev_isBool (ev_var rfl) k)) fun _ => et_not (et_B (ev_isInt (ev_var rfl) k))) (fun hb H1 e1 => ?_) (fun hb H1 e1 => ?_)
    · refine s_ret ev_c fun H2 e2 => ?_
      have z : within lo hi x = false := by
        cases x <;> first | rfl | (exact absurd (show false = true from hb) (by decide))
      rw [z] at q
      exact q H2 (e1.trans e2)
    · cases x with
      | int i =>
        refine s_ret (ev_chain (ev_var rfl) (ev_var rfl) (ev_var rfl)) fun H2 e2 => ?_
        exact q H2 (e1.trans e2)
      | _ => exact absurd (show true = false from hb) (by decide)
end
end Sl
namespace Sl
open PySem PySem.Spec PyProof.Rows L2 Evl
section
variable {P : Program} {w : World} {K : PySem.W.Frag} {mg : Str → Option Value} {base : Heap} {t : Adr}
/-! is_bits -/
def spIsBits : Sp := fun vs H Q _ => ∃ x : V, vs = [x] ∧ Thing H x ∧ (∀ s, x = .str s → s.cps.size ≤ 40000) ∧ RetV (.bl (isBitsV x)) H Q
theorem sv_isBits {H : Hp} {x : V} (k : Thing H x) (hl : ∀ s, x = .str s → s.cps.size ≤ 40000) : SpV spIsBits ([x] ++ []) H (.bl (isBitsV x)) := fun H1 e Q q E => ⟨x, rfl, k.mono e, hl, q⟩
theorem ok_is_bits (T : Top K mg t) : FnOk P w K mg base CX0 1 t.f_is_bits t.d_is_bits ["thing"] spIsBits := by
  refine T.is_bits.F.ok sc_is_bits (fun vs H Q E h => ?_) (fun cdv A outer s H vs Q E hr h => ?_)
  · obtain ⟨x, rfl, _⟩ := h
    rfl
  · obtain ⟨x, rfl, hx, hl, q⟩ := h
    refine ⟨_, (pss_one (ps_ret (pe_and (pe_callB (r := rIsi K) call_isi (by rfl) T.b.b_isinstance (by decide +kernel) (pa_cons (pv 0) (pa_cons (pe_bltn (v := .ty "str") (by rfl) T.b.b_str (by decide +kernel) rfl) pa_nil))) (pe_one (pe_callB (r := rAll K) (cr_all rfl) (by rfl) T.b.b_all (by decide +kernel) (pa_cons (pe_lc (own := [("bit", 1)]) (g := gName 1) (tt := tYes) rfl sc_is_bits.nd (pi_str (pv 0)) (blkOk_by (own := [("bit", 1)]) (N := N_is_bits) (sc := defScope s_is_bits) (by decide +kernel)) (fun _ _ _ _ _ => (pg_name (i := 1) sc_is_bits.nd rfl (.inl rfl))) (fun _ _ _ _ _ => pts_nil) (fun _ _ _ _ _ => (pe_cmpR op_in_sign (pv 1) pe_str rfl))) pa_nil)))))), ?_⟩
    by_cases h : ∃ s, x = .str s
    · obtain ⟨s, rfl⟩ := h
      have c := el_lcStr (σ := [some (.str s), none]) (H := H) (tl := tVar 0) (j := 1) (vs := [1]) (te := tOp (fun x y H Q => ∃ (c : Nat) (z : Str), x = .str ⟨#[c]⟩ ∧ y = .str z ∧ Q (.bl (decide (c ∈ z.cps.toList))) H) (tVar 1) (tC (.str "01")))
        (fun c => .bl (isBit c)) (ev_var rfl) (hl s rfl) (fun x => rfl) (fun i c H1 e hc => ev_op (ev_var rfl) ev_c rv_inBits)
      have e : s.cps.toList.map (fun c => V.bl (isBit c)) = (s.cps.toList.map isBit).map V.bl := by rw [List.map_map]; rfl
      rw [e] at c
      refine s_ret (ev_andV (ev_isStrG (ev_var rfl) hx) fun _ => ev_all c) fun H1 e1 => ?_
      have z : (isStrV (.str s) && (s.cps.toList.map isBit).all id) = isBitsV (.str s) := by
        rw [List.all_map]
        rfl
      rw [z]
      exact q H1 e1
    · have hs : isStrV x = false := by
        cases x <;> first | rfl | exact absurd ⟨_, rfl⟩ h
      have hb : isBitsV x = false := by
        cases x <;> first | rfl | exact absurd ⟨_, rfl⟩ h
      refine s_ret (ev_andV (b := false) (ev_isStrG (ev_var rfl) hx) fun z => by rw [hs] at z; cases z) fun H1 e1 => ?_
      rw [hs]
      rw [hb] at q
      exact q H1 e1
end
end Sl
namespace Sl
open PySem PySem.Spec PyProof.Rows L2 Evl
section
variable {P : Program} {w : World} {K : PySem.W.Frag} {mg : Str → Option Value} {base : Heap} {t : Adr}
/-! check_bound -/
def spCheckBound (C : Addr) : Sp := fun vs H Q E => ∃ x : V, vs = [x] ∧ Thing H x ∧ (within 1 12 x = true → RetV .non H Q) ∧ (within 1 12 x = false → ∀ H1, Ex H H1 → E (.ref C) none H1)
theorem sv_bound {C : Addr} {H : Hp} {b : Int} (h : 1 ≤ b ∧ b ≤ 12) : SpV (spCheckBound C) ([.int b] ++ []) H .non := fun H1 e Q q E =>
  ⟨.int b, rfl, .int b, fun _ => q, fun z => absurd z (by show ¬ (decide (1 ≤ b) && decide (b ≤ 12)) = false; rw [decide_eq_true h.1, decide_eq_true h.2]; decide)⟩
theorem ok_check_bound (T : Top K mg t) : FnOk P w K mg base (L2.CX P w) 2 t.f_check_bound t.d_check_bound ["bound"] (spCheckBound t.C_BadBound) := by
  refine T.check_bound.F.okX sc_check_bound (fun vs H Q E h => ?_) (fun cdv A outer s H vs Q E hr h => ?_)
  · obtain ⟨x, rfl, _⟩ := h
    rfl
  · obtain ⟨x, rfl, k, q, r⟩ := h
    refine ⟨_, (pss_one (ps_if (pt_not (pt_val (pe_call (ok_is_number T) (hr.mono (by decide)) (by rfl) T.is_number.g T.is_number.F.kp T.is_number.b .nil pass0 (pa_cons (pv 0) (pa_cons pe_int (pa_cons (pe_glob (v := .int 12) rfl T.c_MOST_BITS.choose_spec.1 T.c_MOST_BITS.choose_spec.2) pa_nil)))))) (pss_one (ps_raise rfl (takes_of rfl rfl rfl rfl) (SkE.pmk_own1 PySem.F.excBase_ValueError T.C_BadBound.xC T.C_BadBound.gC T.C_BadBound.kC (raises_own T.C_BadBound.bC T.C_BadBound.tC) rfl (pe_joined (.cons pe_str (.cons (pe_fmt (pe_glob (v := .int 12) rfl T.c_MOST_BITS.choose_spec.1 T.c_MOST_BITS.choose_spec.2)) .nil)))))) pss_nil)), ?_⟩
    refine s_when (et_not (et_B (ev_call (ea_cons (ev_var rfl) (ea_cons ev_c (ea_cons ev_c ea_nil))) (sv_number k)))) (fun hb H1 e1 => ?_) (fun hb H1 e1 => ?_)
    · refine ⟨_, rfl, by decide +kernel, .inr ⟨12, rfl, by decide, _, rfl, by decide +kernel, ?_⟩⟩
      exact r (by simpa using hb) H1 e1
    · exact q (by simpa using hb) H1 e1
end
end Sl
namespace Sl
open PySem PySem.Spec PyProof.Rows L2 Evl
section
variable {P : Program} {w : World} {K : PySem.W.Frag} {mg : Str → Option Value} {base : Heap} {t : Adr}
/-! check_weights -/
def okWeights (xs : List V) : Bool := decide (xs.length ≤ 24) && xs.all (within 0 1000000000000)
def spCheckWeights (K : PySem.W.Frag) (CN CW : Addr) : Sp := fun vs H Q E => ∃ (a : Addr) (xs : List V), vs = [.ref a] ∧ SqL K H a xs ∧ (∀ x ∈ xs, Thing H x) ∧
  (okWeights xs = true → RetV .non H Q) ∧ (24 < xs.length → ∀ H1, Ex H H1 → E (.ref CN) none H1) ∧ (xs.length ≤ 24 → xs.all (within 0 1000000000000) = false → ∀ H1, Ex H H1 → E (.ref CW) none H1)
theorem ok_check_weights (T : Top K mg t) : FnOk P w K mg base (L2.CX P w) 2 t.f_check_weights t.d_check_weights ["weights"] (spCheckWeights K t.C_NoWeights t.C_BadWeight) := by
  refine T.check_weights.F.okX sc_check_weights (fun vs H Q E h => ?_) (fun cdv A outer s H vs Q E hr h => ?_)
  · obtain ⟨a, xs, rfl, _⟩ := h
    rfl
  · obtain ⟨a, xs, rfl, hS, hT, q, rn, rw_⟩ := h
    refine ⟨_, (pss_cons (ps_if (pt_cmpR op_gt (pe_callB (r := rLenS K) call_len_seq (by rfl) T.b.b_len (by decide +kernel) (pa_cons (pv 0) pa_nil)) (pe_glob (v := .int 24) rfl T.c_MOST_SIGNS.choose_spec.1 T.c_MOST_SIGNS.choose_spec.2) (nomark _)) (pss_one (ps_raise rfl (takes_of rfl rfl rfl rfl) (SkE.pmk_own1 PySem.F.excBase_ValueError T.C_NoWeights.xC T.C_NoWeights.gC T.C_NoWeights.kC (raises_own T.C_NoWeights.bC T.C_NoWeights.tC) rfl (pe_joined (.cons pe_str (.cons (pe_fmt (pe_glob (v := .int 24) rfl T.c_MOST_SIGNS.choose_spec.1 T.c_MOST_SIGNS.choose_spec.2)) (.cons pe_str .nil))))))) pss_nil)
      (pss_one (ps_for (passes_of rfl) rfl (pi_list (pv 0)) (pg_name (i := 1) sc_check_weights.nd rfl (.inl rfl)) (pss_one (ps_if (pt_not (pt_val (pe_call (ok_is_number T) (hr.mono (by decide)) (by rfl) T.is_number.g T.is_number.F.kp T.is_number.b .nil pass0 (pa_cons (pv 1) (pa_cons pe_int (pa_cons (pe_glob (v := .int 1000000000000) rfl T.c_MOST_WEIGHT.choose_spec.1 T.c_MOST_WEIGHT.choose_spec.2) pa_nil)))))) (pss_one (ps_raise rfl (takes_of rfl rfl rfl rfl) (SkE.pmk_own1 PySem.F.excBase_ValueError T.C_BadWeight.xC T.C_BadWeight.gC T.C_BadWeight.kC (raises_own T.C_BadWeight.bC T.C_BadWeight.tC) rfl (pe_joined (.cons pe_str (.cons (pe_fmt (pe_glob (v := .int 1000000000000) rfl T.c_MOST_WEIGHT.choose_spec.1 T.c_MOST_WEIGHT.choose_spec.2)) .nil)))))) pss_nil))))), ?_⟩
    refine q_when (et_test (ev_op (ev_len (ev_var rfl) hS) ev_c rv_I0)) (fun hb H1 e1 => ?_) (fun hb H1 e1 => ?_)
    · refine ⟨_, rfl, by decide +kernel, .inr ⟨24, rfl, by decide, _, rfl, by decide +kernel, _, rfl, by decide +kernel, ?_⟩⟩
      refine rn ?_ H1 e1
      have := of_decide_eq_true hb
      omega
    · have hl : xs.length ≤ 24 := by
        have := of_decide_eq_false hb
        omega
      refine s_forLn (ev_var rfl) (ex_l e1 hS) (fun i σ' H' => Ex H H' ∧ (∃ v2, σ' = [some (.ref a), v2]) ∧ (xs.take i).all (within 0 1000000000000) = true) (fun H2 e2 => ⟨e1.trans e2, ⟨_, rfl⟩, rfl⟩) (fun i σ' H' _ p => ex_l p.1 hS) (fun i x σ' H' hx p => ?_) (fun σ' H' p => ?_)
      · obtain ⟨e', ⟨v2, rfl⟩, pa⟩ := p
        have hm : x ∈ xs := List.mem_of_getElem? hx
        have et : xs.take (i + 1) = xs.take i ++ [x] := by rw [List.take_add_one, hx]; rfl
        refine s_when (et_not (et_B (ev_call (ea_cons (ev_var rfl) (ea_cons ev_c (ea_cons ev_c ea_nil))) (sv_number ((hT x hm).mono e'))))) (fun hb H2 e2 => ?_) (fun hb H2 e2 => ?_)
        · refine ⟨_, rfl, by decide +kernel, .inr ⟨1000000000000, rfl, by decide, _, rfl, by decide +kernel, ?_⟩⟩
          refine rw_ hl ?_ H2 (e'.trans e2)
          have hb' : within 0 1000000000000 x = false := by simpa using hb
          rw [Bool.eq_false_iff]
          intro h
          rw [List.all_eq_true.mp h x hm] at hb'
          cases hb'
        · have hb' : within 0 1000000000000 x = true := by simpa using hb
          refine ⟨e'.trans e2, ⟨_, rfl⟩, ?_⟩
          rw [et, List.all_append, pa, List.all_cons, hb']
          rfl
      · obtain ⟨e', _, pa⟩ := p
        rw [List.take_length] at pa
        refine q ?_ H' e'
        unfold okWeights
        rw [pa, decide_eq_true hl]
        rfl
end
end Sl
namespace Sl
open PySem PySem.Spec PyProof.Rows L2 Evl
section
variable {P : Program} {w : World} {K : PySem.W.Frag} {mg : Str → Option Value} {base : Heap} {t : Adr}
/-! check_lengths -/
def okLens (lo hi : Int) (xs : List V) : Bool := decide (xs.length ≤ 24) && xs.all (within lo hi)
def spCheckLengths (K : PySem.W.Frag) (C : Addr) : Sp := fun vs H Q E => ∃ (a : Addr) (xs : List V) (b : Int), vs = [.ref a, .int b] ∧ SqL K H a xs ∧ (∀ x ∈ xs, Thing H x) ∧ 1 ≤ b ∧ b ≤ 12 ∧
  (okLens 1 b xs = true → RetV .non H Q) ∧ (okLens 1 b xs = false → ∀ H1, Ex H H1 → E (.ref C) none H1)
theorem text12 {b : Int} (h1 : 1 ≤ b) (h2 : b ≤ 12) (z : Str) (hz : z.length ≤ 100) : (z ++ (toString b : Str)).length ≤ sizeLine := by
  have k : ((toString b : Str)).length ≤ 2 := by
    have h : b = 1 ∨ b = 2 ∨ b = 3 ∨ b = 4 ∨ b = 5 ∨ b = 6 ∨ b = 7 ∨ b = 8 ∨ b = 9 ∨ b = 10 ∨ b = 11 ∨ b = 12 := by omega
    rcases h with rfl | rfl | rfl | rfl | rfl | rfl | rfl | rfl | rfl | rfl | rfl | rfl <;> decide +kernel
  have e : (z ++ (toString b : Str)).length = z.length + (toString b : Str).length := by
    show (z.cps ++ (toString b : Str).cps).size = z.cps.size + (toString b : Str).cps.size
    exact Array.size_append
  rw [e]
  exact Nat.le_trans (Nat.add_le_add hz k) (by decide)
theorem log12 {b : Int} (h1 : 1 ≤ b) (h2 : b ≤ 12) : b.natAbs.log2 < 1920 := by
  have h : b = 1 ∨ b = 2 ∨ b = 3 ∨ b = 4 ∨ b = 5 ∨ b = 6 ∨ b = 7 ∨ b = 8 ∨ b = 9 ∨ b = 10 ∨ b = 11 ∨ b = 12 := by omega
  rcases h with rfl | rfl | rfl | rfl | rfl | rfl | rfl | rfl | rfl | rfl | rfl | rfl <;> decide
theorem ok_check_lengths (T : Top K mg t) : FnOk P w K mg base (L2.CX P w) 2 t.f_check_lengths t.d_check_lengths ["lengths", "bound"] (spCheckLengths K t.C_BadLengths) := by
  refine T.check_lengths.F.okX sc_check_lengths (fun vs H Q E h => ?_) (fun cdv A outer s H vs Q E hr h => ?_)
  · obtain ⟨a, xs, b, rfl, _⟩ := h
    rfl
  · obtain ⟨a, xs, b, rfl, hS, hT, h1, h2, q, r⟩ := h
    refine ⟨_, (pss_cons (ps_if (pt_cmpR op_gt (pe_callB (r := rLenS K) call_len_seq (by rfl) T.b.b_len (by decide +kernel) (pa_cons (pv 0) pa_nil)) (pe_glob (v := .int 24) rfl T.c_MOST_SIGNS.choose_spec.1 T.c_MOST_SIGNS.choose_spec.2) (nomark _)) (pss_one (ps_raise rfl (takes_of rfl rfl rfl rfl) (SkE.pmk_own1 PySem.F.excBase_ValueError T.C_BadLengths.xC T.C_BadLengths.gC T.C_BadLengths.kC (raises_own T.C_BadLengths.bC T.C_BadLengths.tC) rfl (pe_joined (.cons pe_str (.cons (pe_fmt (pe_glob (v := .int 24) rfl T.c_MOST_SIGNS.choose_spec.1 T.c_MOST_SIGNS.choose_spec.2)) (.cons pe_str .nil))))))) pss_nil)
      (pss_one (ps_for (passes_of rfl) rfl (pi_list (pv 0)) (pg_name (i := 2) sc_check_lengths.nd rfl (.inl rfl)) (pss_one (ps_if (pt_not (pt_val (pe_call (ok_is_number T) (hr.mono (by decide)) (by rfl) T.is_number.g T.is_number.F.kp T.is_number.b .nil pass0 (pa_cons (pv 2) (pa_cons pe_int (pa_cons (pv 1) pa_nil)))))) (pss_one (ps_raise rfl (takes_of rfl rfl rfl rfl) (SkE.pmk_own1 PySem.F.excBase_ValueError T.C_BadLengths.xC T.C_BadLengths.gC T.C_BadLengths.kC (raises_own T.C_BadLengths.bC T.C_BadLengths.tC) rfl (pe_joined (.cons pe_str (.cons (pe_fmt (pv 1)) .nil)))))) pss_nil))))), ?_⟩
    refine q_when (et_test (ev_op (ev_len (ev_var rfl) hS) ev_c rv_I0)) (fun hb H1 e1 => ?_) (fun hb H1 e1 => ?_)
    · refine ⟨_, rfl, by decide +kernel, .inr ⟨24, rfl, by decide, _, rfl, by decide +kernel, _, rfl, by decide +kernel, ?_⟩⟩
      refine r ?_ H1 e1
      have z : ¬ xs.length ≤ 24 := by
        have := of_decide_eq_true hb
        omega
      unfold okLens
      rw [decide_eq_false z]
      rfl
    · have hl : xs.length ≤ 24 := by
        have := of_decide_eq_false hb
        omega
      refine s_forLn (ev_var rfl) (ex_l e1 hS) (fun i σ' H' => Ex H H' ∧ (∃ v2, σ' = [some (.ref a), some (.int b), v2]) ∧ (xs.take i).all (within 1 b) = true) (fun H2 e2 => ⟨e1.trans e2, ⟨_, rfl⟩, rfl⟩) (fun i σ' H' _ p => ex_l p.1 hS) (fun i x σ' H' hx p => ?_) (fun σ' H' p => ?_)
      · obtain ⟨e', ⟨v2, rfl⟩, pa⟩ := p
        have hm : x ∈ xs := List.mem_of_getElem? hx
        have hi : i < xs.length := (List.getElem?_eq_some_iff.mp hx).1
        have et : xs.take (i + 1) = xs.take i ++ [x] := by rw [List.take_add_one, hx]; rfl
        refine s_when (et_not (et_B (ev_call (ea_cons (ev_var rfl) (ea_cons ev_c (ea_cons (ev_var rfl) ea_nil))) (sv_number ((hT x hm).mono e'))))) (fun hb H2 e2 => ?_) (fun hb H2 e2 => ?_)
        · refine ⟨_, rfl, by decide +kernel, ⟨_, rfl, .inr ⟨b, rfl, log12 h1 h2, _, rfl, text12 h1 h2 _ (by decide +kernel), ?_⟩⟩⟩
          refine r ?_ H2 (e'.trans e2)
          have hb' : within 1 b x = false := by simpa using hb
          have z : xs.all (within 1 b) = false := by
            rw [Bool.eq_false_iff]
            intro h
            rw [List.all_eq_true.mp h x hm] at hb'
            cases hb'
          unfold okLens
          rw [z, Bool.and_false]
        · have hb' : within 1 b x = true := by simpa using hb
          refine ⟨e'.trans e2, ⟨_, rfl⟩, ?_⟩
          rw [et, List.all_append, pa, List.all_cons, hb']
          rfl
      · obtain ⟨e', _, pa⟩ := p
        rw [List.take_length] at pa
        refine q ?_ H' e'
        unfold okLens
        rw [pa, decide_eq_true hl]
        rfl
end
end Sl
namespace Sl
open PySem PySem.Spec PyProof.Rows L2 Evl
section
variable {P : Program} {w : World} {K : PySem.W.Frag} {mg : Str → Option Value} {base : Heap} {t : Adr}
/-! check_words -/
def spChkWords (K : PySem.W.Frag) (C : Addr) : Sp := fun vs H Q E => ∃ (a : Addr) (xs : List V), vs = [.ref a] ∧ SqL K H a xs ∧ xs.length ≤ 1000 ∧ ThW H xs ∧ (GoodX xs → RetV .non H Q) ∧ (¬ GoodX xs → ∀ H1, Ex H H1 → E (.ref C) none H1)
theorem ok_check_words (T : Top K mg t) : FnOk P w K mg base (L2.CX P w) 2 t.f_check_words t.d_check_words ["words"] (spChkWords K t.C_BadWords) := by
  refine T.check_words.F.okX sc_check_words (fun vs H Q E h => ?_) (fun cdv A outer s H vs Q E hr h => ?_)
  · obtain ⟨a, xs, rfl, _⟩ := h
    rfl
  · obtain ⟨a, xs, rfl, hS, hn, hT, q, qb⟩ := h
    refine ⟨_, (pss_cons (ps_if (pt_cmpR op_gt (pe_callB (r := rLenS K) call_len_seq (by rfl) T.b.b_len (by decide +kernel) (pa_cons (pv 0) pa_nil)) (pe_glob (v := .int 24) rfl T.c_MOST_SIGNS.choose_spec.1 T.c_MOST_SIGNS.choose_spec.2) (nomark _)) (pss_one (ps_raise rfl (takes_of rfl rfl rfl rfl) (SkE.pmk_own1 PySem.F.excBase_ValueError T.C_BadWords.xC T.C_BadWords.gC T.C_BadWords.kC (raises_own T.C_BadWords.bC T.C_BadWords.tC) rfl (pe_joined (.cons pe_str (.cons (pe_fmt (pe_glob (v := .int 24) rfl T.c_MOST_SIGNS.choose_spec.1 T.c_MOST_SIGNS.choose_spec.2)) (.cons pe_str .nil))))))) pss_nil)
      (pss_cons (ps_for (passes_of rfl) rfl (pi_list (pv 0)) (pg_name (i := 1) sc_check_words.nd rfl (.inl rfl)) (pss_one (ps_if (PW.pt (pw_or (pt_not (pt_val (pe_call (ok_is_bits T) (hr.mono (by decide)) (by rfl) T.is_bits.g T.is_bits.F.kp T.is_bits.b .nil pass0 (pa_cons (pv 1) pa_nil)))) (pw_or1 (pt_not (pt_chain op_le op_le pe_int (pe_callB (r := rLenTx) call_len_str (by rfl) T.b.b_len (by decide +kernel) (pa_cons (pv 1) pa_nil)) (pe_glob (v := .int 12) rfl T.c_MOST_BITS.choose_spec.1 T.c_MOST_BITS.choose_spec.2)))))) (pss_one (ps_raise rfl (takes_of rfl rfl rfl rfl) (SkE.pmk_own1 PySem.F.excBase_ValueError T.C_BadWords.xC T.C_BadWords.gC T.C_BadWords.kC (raises_own T.C_BadWords.bC T.C_BadWords.tC) rfl (pe_joined (.cons pe_str (.cons (pe_fmt (pe_glob (v := .int 12) rfl T.c_MOST_BITS.choose_spec.1 T.c_MOST_BITS.choose_spec.2)) (.cons pe_str .nil))))))) pss_nil)))
      (pss_cons (ps_set (i := 2) sc_check_words.nd rfl (.inl rfl) (pe_callB (r := rSortedS K) cr_sortedS (by rfl) T.b.b_sorted (by decide +kernel) (pa_cons (pv 0) pa_nil)))
      (pss_one (ps_for (passes_of rfl) rfl (pi_zip (by rfl) T.b.b_zip (pa_cons (pv 2) (pa_cons (pe_slice (r := rSlL K) sl_list (pv 2) (po_some pe_int) po_none) pa_nil))) (pg_tup rfl (pgs_cons (pg_name (i := 3) sc_check_words.nd rfl (.inl rfl)) (pgs_cons (pg_name (i := 1) sc_check_words.nd rfl (.inl rfl)) pgs_nil))) (pss_one (ps_if (pt_val (pe_m1 PySem.F.slot_str_startswith PySem.F.type_str_startswith mt_startswith (pv 1) (pv 3))) (pss_one (ps_raise rfl (takes_of rfl rfl rfl rfl) (SkE.pmk_own1 PySem.F.excBase_ValueError T.C_BadWords.xC T.C_BadWords.gC T.C_BadWords.kC (raises_own T.C_BadWords.bC T.C_BadWords.tC) rfl pe_str))) pss_nil))))))), ?_⟩
    refine q_when (et_test (ev_op (ev_len (ev_var rfl) hS) ev_c rv_I0)) (fun hx H1 e1 => ?_) (fun hx H1 e1 => ?_)
    · refine ⟨_, rfl, by decide +kernel, .inr ⟨24, rfl, by decide, _, rfl, by decide +kernel, _, rfl, by decide +kernel, ?_⟩⟩
      refine qb (fun z => ?_) H1 e1
      have := of_decide_eq_true hx
      have := z.one.1
      omega
    have h24 : xs.length ≤ 24 := by
      have := of_decide_eq_false hx
      omega
    refine q_forLn (xs := xs) (ev_var rfl) (ex_l e1 hS) (fun i σ' H' => Ex H H' ∧ (∀ x ∈ xs.take i, oneOk x) ∧ ∃ v1, σ' = [some (V.ref a), v1, none, none]) (fun H2 e2 => ⟨e1.trans e2, (fun _ h => by cases h), none, rfl⟩) (fun i σ' H' _ hP => ex_l hP.1 hS) (fun i x σ' H' hx hP => ?_) fun σ' H' hP => ?_
    · obtain ⟨e2, hok, v1, rfl⟩ := hP
      have hm : x ∈ xs := List.mem_of_getElem? hx
      have et : xs.take (i + 1) = xs.take i ++ [x] := by rw [List.take_add_one, hx]; rfl
      obtain ⟨tx1, tx2⟩ := hT x hm
      have svB : ∀ {H1 : Hp}, Ex H H1 → SpV spIsBits ([x] ++ []) H1 (.bl (isBitsV x)) := fun e => sv_isBits (tx1.mono e) fun s hs => Nat.le_trans (tx2 s hs).1 (by decide)
      have bad : ¬ oneOk x → ∀ H3, Ex H' H3 → E (.ref t.C_BadWords) none H3 := fun hno H3 e3 => qb (fun z => hno (z.one.2 x hm)) H3 (e2.trans e3)
      by_cases hb : isBitsV x = true
      · obtain ⟨u, rfl, hu⟩ := bits_of hb
        have hul : u.length ≤ 1000 := by
          have := (tx2 (tx u) rfl).1
          rw [show (tx u).cps.size = (tx u).length from rfl, tx_len] at this
          exact this
        refine s_when (et_or (et_not (et_B (ev_call (ea_cons (ev_var rfl) ea_nil) (svB e2)))) fun _ => et_not (et_test (ev_chain (g := fun i j => decide (i ≤ j)) (g' := fun i j => decide (i ≤ j)) ev_c (ev_lenTx (l := u) (ev_var rfl) (by omega)) ev_c))) (fun hz H3 e3 => ?_) (fun hz H3 e3 => ?_)
        · refine ⟨_, rfl, by decide +kernel, .inr ⟨12, rfl, by decide, _, rfl, by decide +kernel, _, rfl, by decide +kernel, ?_⟩⟩
          refine bad (fun z => ?_) H3 e3
          obtain ⟨v, hv, v1, v2, _⟩ := z
          have hv := tx_inj (V.str.inj hv)
          subst hv
          rw [hb, decide_eq_true (show (1 : Int) ≤ (u.length : Int) by omega), decide_eq_true (show (u.length : Int) ≤ 12 by omega)] at hz
          cases hz
        · refine ⟨e2.trans e3, fun y hy => ?_, _, rfl⟩
          rw [et] at hy
          rcases List.mem_append.mp hy with hy | hy
          · exact hok y hy
          · rw [List.mem_singleton.mp hy]
            rw [hb] at hz
            have hz : (!(decide ((1 : Int) ≤ (u.length : Int)) && decide ((u.length : Int) ≤ 12))) = false := hz
            rw [Bool.not_eq_false', Bool.and_eq_true] at hz
            have k1 := of_decide_eq_true hz.1
            have k2 := of_decide_eq_true hz.2
            exact ⟨u, rfl, by omega, by omega, hu⟩
      · have hb : isBitsV x = false := by simpa using hb
        refine s_when (b := true) (et_is (et_or (b := true) (et_not (et_B (ev_call (ea_cons (ev_var rfl) ea_nil) (svB e2)))) fun z => by rw [hb] at z; cases z) (by rw [hb]; rfl)) (fun _ H3 e3 => ?_) (fun hz _ _ => by cases hz)
        refine ⟨_, rfl, by decide +kernel, .inr ⟨12, rfl, by decide, _, rfl, by decide +kernel, _, rfl, by decide +kernel, ?_⟩⟩
        refine bad (fun z => ?_) H3 e3
        obtain ⟨v, rfl, _, _, hv⟩ := z
        rw [bits_vtx hv] at hb
        cases hb
    obtain ⟨e2, hok, v1, rfl⟩ := hP
    rw [List.take_length] at hok
    obtain ⟨us, rfl, hu⟩ := ones_words hok
    rw [List.length_map] at h24
    have em : us.map vtx = (us.map tx).map V.str := by rw [List.map_map]; rfl
    refine ⟨.ref a, rfl, a, us.map tx, rfl, by rw [← em]; exact ex_l e2 hS, by rw [List.length_map]; omega, fun ys p hp hsort hnew => ?_⟩
    obtain ⟨zs, rfl, hz⟩ : ∃ zs : List (List Nat), ys = zs.map tx ∧ zs.Perm us := by
      refine ⟨ys.map fun s => s.cps.toList, by rw [List.map_map]; exact (List.map_id' ys).symm, ?_⟩
      have := hp.map fun s : Str => s.cps.toList
      rw [List.map_map] at this
      have e : us.map ((fun s : Str => s.cps.toList) ∘ tx) = us := List.map_id' us
      rw [e] at this
      exact this
    have hrise : zs.Pairwise fun a b => ¬ b < a := by
      have h : (zs.map tx).Pairwise fun a b : Str => ¬ b.cps.toList < a.cps.toList := by
        revert hsort
        cases zs.map tx with
        | nil => exact fun _ => List.Pairwise.nil
        | cons p l => exact fun h => rising_pairs p l h
      rw [List.pairwise_map] at h
      exact h
    have ez : (zs.map tx).map V.str = zs.map vtx := by rw [List.map_map]; rfl
    rw [ez]
    have e3 : Ex H (upd H' p (.lst (zs.map vtx))) := e2.trans (Ex.new hnew)
    have hz3 : (upd H' p (.lst (zs.map vtx))) p = some (.lst (zs.map vtx)) := upd_same
    have zl : zs.length = us.length := hz.length_eq
    have cS := el_sl (K := K) (σ := [some (V.ref a), v1, some (V.ref p), none]) (H := upd H' p (.lst (zs.map vtx))) (te := tVar 2) (tl := tPart (tC (.int 1))) (th := tNoPart) (ev_var rfl) (eo_some ev_c) eo_none (sq_of hz3)
    rw [cutV_from1] at cS
    refine s_forZip (n := zs.length - 1) (ev_var rfl) cS (sq_of hz3) (by rw [List.length_drop, List.length_map]; omega) fun pb H4 _ e4 h4 => ?_
    refine ⟨fun i σ' H'' => Ex H4 H'' ∧ (∀ (j : Nat) (u v : List Nat), j < i → zs[j]? = some u → zs[j + 1]? = some v → v.take u.length ≠ u) ∧ ∃ v1 v3, σ' = [some (V.ref a), v1, some (V.ref p), v3], ⟨Ex.refl _, (fun j _ _ h => by omega), _, _, rfl⟩, fun _ _ _ h => h.1, fun i x y σ' H5 H6 hi hP e6 hx hy => ?_, fun σ' H5 hP => ?_⟩
    · obtain ⟨e5, hno, w1, w3, rfl⟩ := hP
      rw [List.getElem?_map] at hx
      rw [List.getElem?_drop, List.getElem?_map] at hy
      obtain ⟨u, h1, rfl⟩ := Option.map_eq_some_iff.mp hx
      obtain ⟨v, h2, rfl⟩ := Option.map_eq_some_iff.mp hy
      rw [Nat.add_comm] at h2
      refine s_when (et_B (ev_starts (v := v) (u := u) (ev_var rfl) (ev_var rfl))) (fun hq H7 e7 => ?_) (fun hq H7 e7 => ⟨(e5.trans e6).trans e7, fun j u' v' hj g1 g2 => ?_, _, _, rfl⟩)
      · refine qb (fun z => ?_) H7 (e3.trans (e4.trans ((e5.trans e6).trans e7)))
        obtain ⟨vs, hv, hG⟩ := z
        have hv := vtx_map_inj hv
        subst hv
        exact apart_perm (goodw_apart hG.2.2) hz h1 h2 (of_decide_eq_true hq)
      · by_cases hji : j = i
        · subst hji
          rw [h1] at g1
          rw [h2] at g2
          cases g1
          cases g2
          exact of_decide_eq_false hq
        · exact hno j u' v' (by omega) g1 g2
    · obtain ⟨e5, hno, _⟩ := hP
      have hZ := apart_sorted hrise fun i u v g1 g2 => hno i u v (by
        have := (List.getElem?_eq_some_iff.mp g2).1
        omega) g1 g2
      refine q ⟨us, rfl, h24, hu, ?_⟩ H5 (e3.trans (e4.trans e5))
      exact (hz.pairwise_iff fun {u v} z => ⟨z.2, z.1⟩).mp hZ
end
end Sl
namespace Sl
open PySem PySem.Spec PyProof.Rows L2 Evl
section
variable {P : Program} {w : World} {K : PySem.W.Frag} {mg : Str → Option Value} {base : Heap} {t : Adr}
/-! check_row -/
def spChkRow (K : PySem.W.Frag) (C : Addr) : Sp := fun vs H Q E => ∃ (a : Addr) (ys : List V) (m : Nat), vs = [.ref a, .int (m : Int)] ∧ SqL K H a ys ∧ (∀ y ∈ ys, Thing H y) ∧ m ≤ 24 ∧
  (ys.all (within 0 ((m : Int) - 1)) = true → RetV .non H Q) ∧ (ys.all (within 0 ((m : Int) - 1)) = false → ∀ H1, Ex H H1 → E (.ref C) none H1)
theorem row_log : ∀ i : Fin 25, ((i.val : Nat) : Int).natAbs.log2 < 1920 := by decide +kernel
theorem row_txt1 : ∀ i : Fin 25, ((Str.empty ++ "there are " ++ (toString ((i.val : Nat) : Int) : Str) : Str)).length ≤ 100 := by decide +kernel
theorem row_txt2 : ∀ i : Fin 25, ((Str.empty ++ "there are " ++ (toString ((i.val : Nat) : Int) : Str) ++ " signs, known by their numbers from 0 on" : Str)).length ≤ 100 := by decide +kernel
theorem ok_check_row (T : Top K mg t) : FnOk P w K mg base (L2.CX P w) 2 t.f_check_row t.d_check_row ["row", "many"] (spChkRow K t.C_NoSign) := by
  refine T.check_row.F.okX sc_check_row (fun vs H Q E h => ?_) (fun cdv A outer s H vs Q E hr h => ?_)
  · obtain ⟨a, ys, m, rfl, _⟩ := h
    rfl
  · obtain ⟨a, ys, m, rfl, hS, hT, hm, q, qb⟩ := h
    refine ⟨_, (pss_one (ps_for (passes_of rfl) rfl (pi_list (pv 0)) (pg_name (i := 2) sc_check_row.nd rfl (.inl rfl)) (pss_one (ps_if (pt_not (pt_val (pe_call (ok_is_number T) (hr.mono (by decide)) (by rfl) T.is_number.g T.is_number.F.kp T.is_number.b .nil pass0 (pa_cons (pv 2) (pa_cons pe_int (pa_cons (pe_op op_sub (pv 1) pe_int) pa_nil)))))) (pss_one (ps_raise rfl (takes_of rfl rfl rfl rfl) (SkE.pmk_own1 PySem.F.excBase_ValueError T.C_NoSign.xC T.C_NoSign.gC T.C_NoSign.kC (raises_own T.C_NoSign.bC T.C_NoSign.tC) rfl (pe_joined (.cons pe_str (.cons (pe_fmt (pv 1)) (.cons pe_str .nil))))))) pss_nil)))), ?_⟩
    refine s_forLn (ev_var rfl) hS (fun i σ' H' => Ex H H' ∧ (∃ v2, σ' = [some (.ref a), some (.int (m : Int)), v2]) ∧ (ys.take i).all (within 0 ((m : Int) - 1)) = true) (fun H2 e2 => ⟨e2, ⟨_, rfl⟩, rfl⟩) (fun i σ' H' _ p => ex_l p.1 hS) (fun i x σ' H' hx p => ?_) (fun σ' H' p => ?_)
    · obtain ⟨e', ⟨v2, rfl⟩, pa⟩ := p
      have hm' : x ∈ ys := List.mem_of_getElem? hx
      have et : ys.take (i + 1) = ys.take i ++ [x] := by rw [List.take_add_one, hx]; rfl
      refine s_when (et_not (et_B (ev_call (ea_cons (ev_var rfl) (ea_cons ev_c (ea_cons (ev_op (ev_var rfl) ev_c rv_I0) ea_nil))) (sv_number ((hT x hm').mono e'))))) (fun hb H2 e2 => ?_) (fun hb H2 e2 => ?_)
      · refine ⟨_, rfl, by decide +kernel, .int (m : Int), rfl, .inr ⟨(m : Int), rfl, row_log ⟨m, by omega⟩, _, rfl, Nat.le_trans (row_txt1 ⟨m, by omega⟩) (by decide), _, rfl, Nat.le_trans (row_txt2 ⟨m, by omega⟩) (by decide), ?_⟩⟩
        refine qb ?_ H2 (e'.trans e2)
        have hb' : within 0 ((m : Int) - 1) x = false := by simpa using hb
        rw [Bool.eq_false_iff]
        intro h
        rw [List.all_eq_true.mp h x hm'] at hb'
        cases hb'
      · have hb' : within 0 ((m : Int) - 1) x = true := by simpa using hb
        refine ⟨e'.trans e2, ⟨_, rfl⟩, ?_⟩
        rw [et, List.all_append, pa, List.all_cons, hb']
        rfl
    · obtain ⟨e', _, pa⟩ := p
      rw [List.take_length] at pa
      exact q pa H' e'
end
end Sl
namespace Sl
open PySem PySem.Spec PyProof.Rows L2 Evl
section
variable {P : Program} {w : World} {K : PySem.W.Frag} {mg : Str → Option Value} {base : Heap} {t : Adr}
/-! Reader.__init__ -/
def spRInit (K : PySem.W.Frag) (C CB : Addr) : Sp := fun vs H Q E => ∃ (p a dx : Addr) (xs : List V), vs = [.ref p, .ref a] ∧ H p = some (.ins C dx []) ∧ SqL K H a xs ∧ xs.length ≤ 1000 ∧ ThW H xs ∧
  (∀ us, xs = us.map vtx → GoodW us → ∀ H' ds pd, RdAt C H' p ds pd us [] [] → (∀ b o, H b = some o → b ≠ p → H' b = some o) → H ds = none → H pd = none → Q .non H') ∧ (¬ GoodX xs → ∀ H1, Ex H H1 → E (.ref CB) none H1)
theorem ok_reader_init (T : Top K mg t) : FnOk P w K mg base (L2.CX P w) 3 t.f_reader_init t.d_reader_init ["self", "words"] (spRInit K t.C_Reader t.C_BadWords) := by
  refine T.reader_init.F.okX sc_reader_init (fun vs H Q E h => ?_) (fun cdv A outer s H vs Q E hr h => ?_)
  · obtain ⟨p, a, dx, xs, rfl, _⟩ := h
    rfl
  · obtain ⟨p, a, dx, xs, rfl, hp, hS, hn, hT, q, qb⟩ := h
    refine ⟨_, (pss_cons (ps_expr (pe_call (ok_check_words T) (hr.mono (by decide)) (by rfl) T.check_words.g T.check_words.F.kp T.check_words.b .nil (passes_call (takes_of rfl rfl rfl rfl) fun _ _ _ _ h => h) (pa_cons (pv 1) pa_nil)))
      (pss_cons (ps_fld (pv 0) (pe_dc (own := [("sign", 2), ("word", 3)]) (g := gTup K 2 (gCons (gName 2) (gCons (gName 3) gNil))) (tt := tYes) rfl sc_reader_init.nd (pi_enum (by rfl) T.b.b_enumerate (pa_cons (pv 1) pa_nil)) (blkOk_by (own := [("sign", 2), ("word", 3)]) (N := N_reader_init) (sc := defScope s_reader_init) (by decide +kernel)) (fun _ _ _ _ _ => (pg_tup rfl (pgs_cons (pg_name (i := 2) sc_reader_init.nd rfl (.inl rfl)) (pgs_cons (pg_name (i := 3) sc_reader_init.nd rfl (.inl rfl)) pgs_nil)))) (fun _ _ _ _ _ => pts_nil) (fun _ _ _ _ _ => (pv 3)) (fun _ _ _ _ _ => (pv 2))) rfl)
      (pss_cons (ps_fld (pv 0) pe_str rfl)
      (pss_one (ps_fld (pv 0) (pe_lst pa_nil) rfl))))), ?_⟩
    refine ⟨.ref a, rfl, a, xs, rfl, hS, hn, hT, fun hg H1 e1 => ?_, qb⟩
    obtain ⟨us, rfl, hG⟩ := hg
    have npa : ∀ {H' : Hp} {b : Addr}, Ex H H' → H' b = none → b ≠ p := fun e hb z => by rw [z, e _ _ hp] at hb; cases hb
    show tSeq _ _ _ [some (V.ref p), some (V.ref a), none, none] H1
    have l24 := hG.1
    refine q_fldD (ed_enum (s := 2) (l := 3) (vs := [2, 3]) (t := tCons (tVar 1) tNil) (a := a) (us := us) (ea_cons (ev_var rfl) ea_nil) (ex_l e1 hS) (by omega) (goodw_ne hG.2.2) (fun _ _ => rfl) (fun _ _ => ⟨rfl, rfl⟩)) (ev_var rfl) (e1 _ _ hp) T.oc_Reader.cl T.na_Reader__signs (by show 0 < 1000; decide) fun ds H2 hds e2 h2 => ?_
    have e12 := e1.trans e2
    have nds : H ds = none := fresh_back e1 hds
    have ndp : ds ≠ p := npa e1 hds
    refine q_fld (v := .str (tx [])) ev_c (ev_var rfl) upd_same T.oc_Reader.cl T.na_Reader__held (by show 1 < 1000; decide) fun H3 e3 => ?_
    refine s_fldL (el_lst ea_nil (by decide)) (ev_var rfl) upd_same T.oc_Reader.cl T.na_Reader__done (by show 2 < 1000; decide) fun pd H4 hpd e4 h4 => ?_
    have hp3 : H3 p = some (.ins t.C_Reader dx (putF "_signs" (.ref ds) [])) := e3 _ _ upd_same
    have npd : pd ≠ p := fun z => by rw [z, upd_same] at hpd; cases hpd
    have ff : putF "_done" (.ref pd) (putF "_held" (.str (tx [])) (putF "_signs" (.ref ds) [])) = rdF ds pd [] := by
      unfold rdF
      rfl
    have chain : ∀ b o, H2 b = some o → b ≠ p → H4 b = some o := fun b o hb hbp => e4 b o (by
      rw [upd_ne hbp]
      exact e3 b o (by rw [upd_ne hbp]; exact hb))
    have npd0 : H pd = none := by
      cases h : H pd with
      | none => rfl
      | some o =>
        have z := e3 pd o (by rw [upd_ne npd]; exact e12 _ _ h)
        rw [upd_ne npd, z] at hpd
        cases hpd
    refine q us rfl hG _ ds pd ⟨⟨dx, ?_⟩, ?_, ?_⟩ (fun b o hb hbp => ?_) nds npd0
    · rw [upd_same]
      exact congrArg (fun f => some (HO.ins t.C_Reader dx f)) ff
    · rw [upd_ne ndp]
      exact chain _ _ h2 ndp
    · rw [upd_ne npd]
      exact h4
    · rw [upd_ne hbp]
      exact chain _ _ (e12 _ _ hb) hbp
end
end Sl
namespace Sl
open PySem PySem.Spec PyProof.Rows L2 Evl
section
variable {P : Program} {w : World} {K : PySem.W.Frag} {mg : Str → Option Value} {base : Heap} {t : Adr}
/-! Reader.take -/
/-- what take tells: refused, or the sign, or None -/
def takeOf (us : List (List Nat)) (hd : List Nat) (x : V) : Option (Option Nat) :=
  if isBitsV x = true ∧ lenV x = 1 then
    (if (us.any fun u => decide (u = hd ++ cpsV x)) = true then some (some (us.idxOf (hd ++ cpsV x)))
     else if (us.any fun u => decide (u.take (hd ++ cpsV x).length = hd ++ cpsV x)) = true then some none else none)
  else none
def spRTake (K : PySem.W.Frag) (C CB : Addr) : Sp := fun vs H Q E => ∃ (a ds pd : Addr) (us : List (List Nat)) (hd dn : List Nat) (x : V), vs = [.ref a, x] ∧ RdAt C H a ds pd us hd dn ∧ Thing H x ∧ (∀ s, x = .str s → s.cps.size ≤ 1000) ∧ hd.length ≤ 900 ∧ us.length ≤ 24 ∧ (∀ u ∈ us, u.length ≤ 12) ∧ dn.length ≤ 1000 ∧
  (∀ i j, i < us.length → j < us.length → i ≠ j → us.getD i [] ≠ us.getD j []) ∧
  (takeOf us hd x = none → ∀ H1, Ex H H1 → E (.ref CB) none H1) ∧
  (takeOf us hd x = some none → ∀ H', RdAt C H' a ds pd us (hd ++ cpsV x) dn → (∀ b o, H b = some o → b ≠ a → H' b = some o) → Q .non H') ∧
  (∀ i, takeOf us hd x = some (some i) → ∀ H', RdAt C H' a ds pd us [] (dn ++ [i]) → (∀ b o, H b = some o → b ≠ a → b ≠ pd → H' b = some o) → Q (.int (i : Int)) H')
theorem ok_reader_take (T : Top K mg t) : FnOk P w K mg base (L2.CX P w) 2 t.f_reader_take t.d_reader_take ["self", "bit"] (spRTake K t.C_Reader t.C_BadBits) := by
  refine T.reader_take.F.okX sc_reader_take (fun vs H Q E h => ?_) (fun cdv A outer s H vs Q E hr h => ?_)
  · obtain ⟨a, ds, pd, us, hd, dn, x, rfl, _⟩ := h
    rfl
  · obtain ⟨a, ds, pd, us, hd, dn, x, rfl, hR, hx, hxl, hhl, hul, hu12, hdl, hne, qE, qN, qS⟩ := h
    obtain ⟨⟨dx, h1⟩, h2, h3⟩ := hR
    refine ⟨_, (pss_cons (ps_if (PW.pt (pw_or (pt_not (pt_val (pe_call (ok_is_bits T) (hr.mono (by decide)) (by rfl) T.is_bits.g T.is_bits.F.kp T.is_bits.b .nil pass0 (pa_cons (pv 1) pa_nil)))) (pw_or1 (pt_cmpR op_ne (pe_callB (r := rLenTx) call_len_str (by rfl) T.b.b_len (by decide +kernel) (pa_cons (pv 1) pa_nil)) pe_int (nomark _))))) (pss_one (ps_raise rfl (takes_of rfl rfl rfl rfl) (SkE.pmk_own1 PySem.F.excBase_ValueError T.C_BadBits.xC T.C_BadBits.gC T.C_BadBits.kC (raises_own T.C_BadBits.bC T.C_BadBits.tC) rfl pe_str))) pss_nil)
      (pss_cons (ps_set (i := 2) sc_reader_take.nd rfl (.inr rfl) (pe_op op_add_str (pe_fld (pv 0) rfl) (pv 1)))
      (pss_cons (ps_if (pt_cmp (pc_din (hu_of hr) (pv 2) (pe_fld (pv 0) rfl))) (pss_cons (ps_set (i := 3) sc_reader_take.nd rfl (.inl rfl) (pe_dget (hu_of hr) (pe_fld (pv 0) rfl) (pv 2) (fun _ _ => rfl)))
      (pss_cons (ps_fld (pv 0) pe_str rfl)
      (pss_cons (ps_expr (pe_bm PySem.F.plainAttrs_list PySem.F.slot_list_append PySem.F.type_list_append mt_append (pe_fld (pv 0) rfl) (pa_cons (pv 3) pa_nil)))
      (pss_one (ps_ret (pv 3)))))) pss_nil)
      (pss_cons (ps_if (pt_not (pt_val (pe_callB (r := rAny K) (cr_any rfl) (by rfl) T.b.b_any (by decide +kernel) (pa_cons (pe_lock (pe_lc (own := [("word", 4)]) (g := gName 4) (tt := tYes) rfl sc_reader_take.nd (pi_keys (pe_fld (pv 0) rfl)) (blkOk_by (own := [("word", 4)]) (N := N_reader_take) (sc := defScope s_reader_take) (by decide +kernel)) (fun _ _ _ _ _ => (pg_name (i := 4) sc_reader_take.nd rfl (.inl rfl))) (fun _ _ _ _ _ => pts_nil) (fun _ _ _ _ _ => (pe_m1 PySem.F.slot_str_startswith PySem.F.type_str_startswith mt_startswith (pv 4) (pv 2))))) pa_nil)))) (pss_one (ps_raise rfl (takes_of rfl rfl rfl rfl) (SkE.pmk_own1 PySem.F.excBase_ValueError T.C_BadBits.xC T.C_BadBits.gC T.C_BadBits.kC (raises_own T.C_BadBits.bC T.C_BadBits.tC) rfl pe_str))) pss_nil)
      (pss_cons (ps_fld (pv 0) (pv 2) rfl)
      (pss_one (ps_ret pe_non))))))), ?_⟩
    have nda : ds ≠ a := fun z => by rw [z, h1] at h2; cases h2
    have npa : pd ≠ a := fun z => by rw [z, h1] at h3; cases h3
    have ndp : ds ≠ pd := fun z => by rw [z, h3] at h2; cases h2
    have svB := sv_isBits hx fun s hs => Nat.le_trans (hxl s hs) (by decide)
    by_cases hb : isBitsV x = true ∧ lenV x = 1
    · obtain ⟨hb1, hb2⟩ := hb
      obtain ⟨u, rfl, hu⟩ := bits_of hb1
      obtain ⟨c, rfl⟩ : ∃ c, u = [c] := by
        have z : u.length = 1 := by
          have : (tx u).cps.size = 1 := hb2
          rw [← tx_len u]
          exact this
        exact List.length_eq_one_iff.mp z
      have ec : cpsV (vtx [c]) = [c] := rfl
      refine q_when (et_or (et_not (et_B (ev_call (ea_cons (ev_var rfl) ea_nil) svB))) fun _ => et_test (ev_op (ev_lenTx (l := [c]) (ev_var rfl) (by show 1 ≤ 100000; decide)) ev_c (rv_ne rfl))) (fun hz _ _ => ?_) (fun _ H1 e1 => ?_)
      · rw [hb1] at hz
        cases hz
      refine q_asg (v := .str (tx (hd ++ [c]))) (ev_catS (ev_fld (ev_var rfl) (e1 _ _ h1) T.oc_Reader.cl T.na_Reader__held (rdF_held _ _ _)) (ev_var rfl) (by show hd.length + 1 ≤ 1000; omega)) fun H2 e2 => ?_
      have e12 := e1.trans e2
      have kk : kV (Sum.inr (tx (hd ++ [c]))) = .str (tx (hd ++ [c])) := rfl
      have hw : ∀ H', Ex H H' → Ev (tFld K (tVar 0) "_signs") [some (V.ref a), some (vtx [c]), some (V.str (tx (hd ++ [c]))), none, none] H' (.ref ds) := fun H' e => ev_fld (ev_var rfl) (e _ _ h1) T.oc_Reader.cl T.na_Reader__signs (rdF_signs _ _ _)
      by_cases hin : ∃ i, i < us.length ∧ us.getD i [] = hd ++ [c]
      · obtain ⟨i, hi, hiw⟩ := hin
        have hv := sgK_some hiw us.length hi fun j hj hji => fun z => hne j i hj hi hji (by rw [z, hiw])
        have gi : us[i]? = some (hd ++ [c]) := by
          rw [List.getElem?_eq_getElem hi]
          rw [List.getD_eq_getElem?_getD, List.getElem?_eq_getElem hi] at hiw
          exact congrArg some hiw
        have hmem : (hd ++ [c]) ∈ us := List.mem_of_getElem? gi
        have hidx : us.idxOf (hd ++ [c]) = i := by
          have k1 := List.idxOf_lt_length_iff.mpr hmem
          have k2 : us[us.idxOf (hd ++ [c])] = hd ++ [c] := List.getElem_idxOf k1
          by_cases z : us.idxOf (hd ++ [c]) = i
          · exact z
          · refine absurd ?_ (hne _ i k1 hi z)
            rw [List.getD_eq_getElem?_getD, List.getElem?_eq_getElem k1, hiw]
            exact k2
        have ht : takeOf us hd (vtx [c]) = some (some i) := by
          unfold takeOf
          rw [if_pos ⟨hb1, hb2⟩, ec, if_pos (List.any_eq_true.mpr ⟨_, hmem, decide_eq_true rfl⟩), hidx]
        refine q_when (et_B (ev_din (k := Sum.inr (tx (hd ++ [c]))) (ev_var rfl) (hw H2 e12) (e12 _ _ h2))) (fun _ H3 e3 => ?_) (fun hz _ _ => by rw [hv] at hz; cases hz)
        have e13 := e12.trans e3
        refine q_asg (ev_dgetK (k := Sum.inr (tx (hd ++ [c]))) (ev_var rfl) (hw H3 e13) (e13 _ _ h2) hv) fun H4 e4 => ?_
        have e14 := e13.trans e4
        refine q_fld (v := .str (tx [])) ev_c (ev_var rfl) (e14 _ _ h1) T.oc_Reader.cl T.na_Reader__held (by show 3 < 1000; decide) fun H5 e5 => ?_
        rw [rdF_putH]
        have e15 := e14.trans e5
        refine q_app (l := pd) (xs := natsV dn) (v := .int (i : Int)) (by rw [upd_ne npa]; exact e15 _ _ h3) (ev_fld (ev_var rfl) upd_same T.oc_Reader.cl T.na_Reader__done (rdF_done _ _ _)) (ev_var rfl) (by rw [natsV_len]; omega) fun H6 e6 => ?_
        refine s_ret (ev_var rfl) fun H7 e7 => ?_
        have chain : ∀ b o, H b = some o → b ≠ a → b ≠ pd → H7 b = some o := fun b o hbo hba hbp => e7 b o (by
          rw [upd_ne hbp]
          exact e6 b o (by rw [upd_ne hba]; exact e15 b o hbo))
        refine qS i ht H7 ⟨⟨dx, e7 _ _ ?_⟩, chain _ _ h2 nda ndp, e7 _ _ ?_⟩ chain
        · rw [upd_ne (Ne.symm npa)]
          exact e6 _ _ upd_same
        · rw [upd_same]
          unfold natsV
          rw [List.map_append]
          rfl
      · have hno : ∀ i, i < us.length → us.getD i [] ≠ hd ++ [c] := fun i hi z => hin ⟨i, hi, z⟩
        have hv := sgK_none hno
        have hany : (us.any fun u => decide (u = hd ++ [c])) = false := by
          rw [List.any_eq_false]
          intro u hu' z
          have z := of_decide_eq_true z
          obtain ⟨i, hi, rfl⟩ := List.getElem_of_mem hu'
          refine hno i hi ?_
          rw [List.getD_eq_getElem?_getD, List.getElem?_eq_getElem hi]
          exact z
        refine q_when (et_B (ev_din (k := Sum.inr (tx (hd ++ [c]))) (ev_var rfl) (hw H2 e12) (e12 _ _ h2))) (fun hz _ _ => by rw [hv] at hz; cases hz) (fun _ H3 e3 => ?_)
        have e13 := e12.trans e3
        have cL := el_lockKeys (H := H3) (σ := [some (V.ref a), some (vtx [c]), some (V.str (tx (hd ++ [c]))), none, none]) (te := tFld K (tVar 0) "_signs") (tb := tM1 (fun x xs H Q => ∃ a b, x = .str a ∧ xs = [.str b] ∧ Q (.bl (Txt.startswith a b)) H) (tVar 4) (tVar 2)) (ds := ds) (us := us) (j := 4) (vs := [4])
          (fun u => .bl (decide (u.take (hd ++ [c]).length = hd ++ [c]))) (e13 _ _ h2) (by omega) (fun H' ch => ev_fld (ev_var rfl) (ch _ _ (e13 _ _ h1) (Ne.symm nda)) T.oc_Reader.cl T.na_Reader__signs (rdF_signs _ _ _)) (fun x => rfl) (fun u H' => ev_starts (v := u) (u := hd ++ [c]) (ev_var rfl) (ev_var rfl))
        have em : us.map (fun u => V.bl (decide (u.take (hd ++ [c]).length = hd ++ [c]))) = (us.map fun u => decide (u.take (hd ++ [c]).length = hd ++ [c])).map V.bl := by rw [List.map_map]; rfl
        rw [em] at cL
        have ean : (us.map fun u => decide (u.take (hd ++ [c]).length = hd ++ [c])).any id = us.any fun u => decide (u.take (hd ++ [c]).length = hd ++ [c]) := by
          rw [List.any_map]
          rfl
        refine q_when (et_not (et_B (ev_any cL))) (fun hz H4 e4 => ?_) (fun hz H4 e4 => ?_)
        · rw [ean] at hz
          refine qE ?_ H4 (e13.trans e4)
          unfold takeOf
          rw [if_pos ⟨hb1, hb2⟩, ec, hany, if_neg (by decide), if_neg (fun z => by rw [z] at hz; cases hz)]
        · rw [ean] at hz
          have e14 := e13.trans e4
          have ht : takeOf us hd (vtx [c]) = some none := by
            unfold takeOf
            rw [if_pos ⟨hb1, hb2⟩, ec, hany, if_neg (by decide), if_pos (by simpa using hz)]
          refine q_fld (v := .str (tx (hd ++ [c]))) (ev_var rfl) (ev_var rfl) (e14 _ _ h1) T.oc_Reader.cl T.na_Reader__held (by show 3 < 1000; decide) fun H5 e5 => ?_
          rw [rdF_putH]
          refine s_ret ev_c fun H6 e6 => ?_
          have e15 := e14.trans e5
          have chain : ∀ b o, H b = some o → b ≠ a → H6 b = some o := fun b o hbo hba => e6 b o (by rw [upd_ne hba]; exact e15 b o hbo)
          exact qN ht H6 ⟨⟨dx, e6 _ _ upd_same⟩, chain _ _ h2 nda, chain _ _ h3 npa⟩ chain
    · have hn : takeOf us hd x = none := by
        unfold takeOf
        rw [if_neg hb]
      by_cases hb1 : isBitsV x = true
      · obtain ⟨u, rfl, hu⟩ := bits_of hb1
        have hl : u.length ≤ 1000 := by
          have := hxl (tx u) rfl
          rw [show (tx u).cps.size = (tx u).length from rfl, tx_len] at this
          exact this
        have hl1 : u.length ≠ 1 := fun z => hb ⟨hb1, by show (tx u).length = 1; rw [tx_len]; exact z⟩
        refine q_when (et_or (et_not (et_B (ev_call (ea_cons (ev_var rfl) ea_nil) svB))) fun _ => et_test (ev_op (ev_lenTx (l := u) (ev_var rfl) (by omega)) ev_c (rv_ne rfl))) (fun _ H1 e1 => qE hn H1 e1) (fun hz _ _ => ?_)
        rw [hb1, decide_eq_false (show ¬ V.int (u.length : Int) = V.int 1 from fun z => hl1 (by have := V.int.inj z; omega))] at hz
        cases hz
      · have hb1 : isBitsV x = false := by simpa using hb1
        refine q_when (b := true) (et_is (et_or (b := true) (et_not (et_B (ev_call (ea_cons (ev_var rfl) ea_nil) svB))) fun z => by rw [hb1] at z; cases z) (by rw [hb1]; rfl)) (fun _ H1 e1 => qE hn H1 e1) (fun hz _ _ => by cases hz)
end
end Sl
namespace Sl
open PySem PySem.Spec PyProof.Rows L2 Evl
section
variable {P : Program} {w : World} {K : PySem.W.Frag} {mg : Str → Option Value} {base : Heap} {t : Adr}
/-! Reader.held -/
def spRHeld (C : Addr) : Sp := fun vs H Q _ => ∃ (a ds pd : Addr) (us : List (List Nat)) (hd dn : List Nat), vs = [.ref a] ∧ RdAt C H a ds pd us hd dn ∧ RetV (.str (tx hd)) H Q
theorem ok_reader_held (T : Top K mg t) : FnOk P w K mg base CX0 1 t.f_reader_held t.d_reader_held ["self"] (spRHeld t.C_Reader) := by
  refine T.reader_held.F.ok sc_reader_held (fun vs H Q E h => ?_) (fun cdv A outer s H vs Q E hr h => ?_)
  · obtain ⟨a, ds, pd, us, hd, dn, rfl, _⟩ := h
    rfl
  · obtain ⟨a, ds, pd, us, hd, dn, rfl, ⟨⟨dx, h1⟩, h2, h3⟩, q⟩ := h
    refine ⟨_, (pss_one (ps_ret (pe_fld (pv 0) rfl))), ?_⟩
    exact s_ret (ev_fld (ev_var rfl) h1 T.oc_Reader.cl T.na_Reader__held (rdF_held _ _ _)) fun H1 e1 => q H1 e1
end
end Sl
namespace Sl
open PySem PySem.Spec PyProof.Rows L2 Evl
section
variable {P : Program} {w : World} {K : PySem.W.Frag} {mg : Str → Option Value} {base : Heap} {t : Adr}
/-! Reader.done -/
def spRDone (C : Addr) : Sp := fun vs H Q _ => ∃ (a ds pd : Addr) (us : List (List Nat)) (hd dn : List Nat), vs = [.ref a] ∧ RdAt C H a ds pd us hd dn ∧ RetL (natsV dn) H Q
theorem ok_reader_done (T : Top K mg t) : FnOk P w K mg base CX0 1 t.f_reader_done t.d_reader_done ["self"] (spRDone t.C_Reader) := by
  refine T.reader_done.F.ok sc_reader_done (fun vs H Q E h => ?_) (fun cdv A outer s H vs Q E hr h => ?_)
  · obtain ⟨a, ds, pd, us, hd, dn, rfl, _⟩ := h
    rfl
  · obtain ⟨a, ds, pd, us, hd, dn, rfl, ⟨⟨dx, h1⟩, h2, h3⟩, q⟩ := h
    refine ⟨_, (pss_one (ps_ret (pe_callTy (r := rListS K) call_list_of (by rfl) T.b.b_list (by decide +kernel) (pa_cons (pe_fld (pv 0) rfl) pa_nil)))), ?_⟩
    exact s_retL (el_list (ev_fld (ev_var rfl) h1 T.oc_Reader.cl T.na_Reader__done (rdF_done _ _ _)) (sq_of h3)) fun p H1 hp e1 h4 => q p H1 hp e1 h4
end
end Sl
namespace Sl
open PySem PySem.Spec PyProof.Rows L2 Evl
section
variable {P : Program} {w : World} {K : PySem.W.Frag} {mg : Str → Option Value} {base : Heap} {t : Adr}
/-! written -/
def spWritten (K : PySem.W.Frag) (CW CS : Addr) : Sp := fun vs H Q E => ∃ (a b : Addr) (xs ys : List V), vs = [.ref a, .ref b] ∧ SqL K H a xs ∧ SqL K H b ys ∧ xs.length ≤ 1000 ∧ ys.length ≤ 1000 ∧ ThW H xs ∧ (∀ y ∈ ys, Thing H y) ∧ (¬ GoodX xs → ∀ H1, Ex H H1 → E (.ref CW) none H1) ∧
  ∀ us, xs = us.map vtx → GoodW us → (ys.all (within 0 ((us.length : Int) - 1)) = false → ∀ H1, Ex H H1 → E (.ref CS) none H1) ∧ ∀ ss : List Nat, ys = natsV ss → (∀ s ∈ ss, s < us.length) → RetV (.str (tx (bitsOf us ss))) H Q
theorem row_of {us : List (List Nat)} {ys : List V} (h : ys.all (within 0 ((us.length : Int) - 1)) = true) : ∃ ss : List Nat, ys = natsV ss ∧ ∀ s ∈ ss, s < us.length := by
  induction ys with
  | nil => exact ⟨[], rfl, fun _ h => by cases h⟩
  | cons y r ih =>
    rw [List.all_cons, Bool.and_eq_true] at h
    obtain ⟨ss, rfl, k⟩ := ih h.2
    cases y with
    | int i =>
      have h1 : (decide (0 ≤ i) && decide (i ≤ (us.length : Int) - 1)) = true := h.1
      rw [Bool.and_eq_true] at h1
      have a1 := of_decide_eq_true h1.1
      have a2 := of_decide_eq_true h1.2
      refine ⟨i.toNat :: ss, ?_, fun s hs => ?_⟩
      · show V.int i :: natsV ss = V.int ((i.toNat : Nat) : Int) :: natsV ss
        rw [show ((i.toNat : Nat) : Int) = i by omega]
      · rcases List.mem_cons.mp hs with rfl | hs
        · omega
        · exact k s hs
    | _ => exact absurd (show false = true from h.1) (by decide)
theorem bits_sum {us : List (List Nat)} (h : ∀ u ∈ us, u.length ≤ 12) (ss : List Nat) : ((ss.map fun s => us.getD s []).map List.length).sum ≤ 12 * ss.length := by
  have e : ((ss.map fun s => us.getD s []).map List.length).sum = (bitsOf us ss).length := by
    unfold bitsOf
    rw [List.flatMap_def, List.length_flatten]
  rw [e]
  exact bitsOf_len h ss
theorem ok_written (T : Top K mg t) : FnOk P w K mg base (L2.CX P w) 3 t.f_written t.d_written ["words", "row"] (spWritten K t.C_BadWords t.C_NoSign) := by
  refine T.written.F.okX sc_written (fun vs H Q E h => ?_) (fun cdv A outer s H vs Q E hr h => ?_)
  · obtain ⟨a, b, xs, ys, rfl, _⟩ := h
    rfl
  · obtain ⟨a, b, xs, ys, rfl, hA, hB, hx, hy, hT, hY, qb, q⟩ := h
    refine ⟨_, (pss_cons (ps_expr (pe_call (ok_check_words T) (hr.mono (by decide)) (by rfl) T.check_words.g T.check_words.F.kp T.check_words.b .nil (passes_call (takes_of rfl rfl rfl rfl) fun _ _ _ _ h => h) (pa_cons (pv 0) pa_nil)))
      (pss_cons (ps_expr (pe_call (ok_check_row T) (hr.mono (by decide)) (by rfl) T.check_row.g T.check_row.F.kp T.check_row.b .nil (passes_call (takes_of rfl rfl rfl rfl) fun _ _ _ _ h => h) (pa_cons (pv 1) (pa_cons (pe_callB (r := rLenS K) call_len_seq (by rfl) T.b.b_len (by decide +kernel) (pa_cons (pv 0) pa_nil)) pa_nil))))
      (pss_one (ps_ret (pe_bm PySem.F.plainAttrs_str PySem.F.slot_str_join PySem.F.type_str_join (mt_join : MtR _ _ (rJoinS K)) pe_str (pa_cons (pe_lc (own := [("sign", 2)]) (g := gName 2) (tt := tYes) rfl sc_written.nd (pi_list (pv 1)) (blkOk_by (own := [("sign", 2)]) (N := N_written) (sc := defScope s_written) (by decide +kernel)) (fun _ _ _ _ _ => (pg_name (i := 2) sc_written.nd rfl (.inl rfl))) (fun _ _ _ _ _ => pts_nil) (fun _ _ _ _ _ => (pe_ix (r := rIxL K) ix_list (pv 0) (pv 2) (fun _ _ => rfl)))) pa_nil)))))), ?_⟩
    refine ⟨.ref a, rfl, a, xs, rfl, hA, hx, hT, fun hg H1 e1 => ?_, qb⟩
    obtain ⟨us, rfl, hG⟩ := hg
    obtain ⟨qs, q⟩ := q us rfl hG
    have l24 := hG.1
    refine ⟨.ref b, rfl, (ev_is (ev_len (ev_var rfl) (ex_l e1 hA)) (by rw [List.length_map]) : Ev (tCB (rLenS K) (tCons (tVar 0) tNil)) [some (.ref a), some (.ref b), none] H1 (.int (us.length : Int))) H1 (Ex.refl _) _ fun H2 e2 => ?_⟩
    have e12 := e1.trans e2
    refine ⟨b, ys, us.length, rfl, ex_l e12 hB, fun y h => (hY y h).mono e12, l24, fun hok H3 e3 => ?_, fun hz H3 e3 => qs hz H3 (e12.trans e3)⟩
    obtain ⟨ss, rfl, hss⟩ := row_of hok
    have e13 := e12.trans e3
    have cL := el_lcL (K := K) (σ := [some (V.ref a), some (V.ref b), none]) (H := H3) (a := b) (xs := natsV ss) (tl := tVar 1) (j := 2) (vs := [2]) (t := tYes) (te := tOp (rIxL K) (tVar 0) (tVar 2)) (fun _ => true) (fun i => vtx (us.getD (ss.getD i 0) [])) (ev_var rfl) (ex_l e13 hB) (by omega) (fun x => rfl) (fun _ _ _ _ _ => et_yes)
      (fun i x H4 e4 hx _ => by
        unfold natsV at hx
        rw [List.getElem?_map] at hx
        obtain ⟨s, h1, rfl⟩ := Option.map_eq_some_iff.mp hx
        have hs := hss s (List.mem_of_getElem? h1)
        rw [List.getD_eq_getElem?_getD (l := ss), h1]
        refine ev_op (ev_var rfl) (ev_var rfl) (rv_ixL (ex_l (e13.trans e4) hA) (atI_nat ?_))
        rw [List.getElem?_map, List.getElem?_eq_getElem hs, List.getD_eq_getElem?_getD, Option.getD_some, List.getElem?_eq_getElem hs]
        rfl)
    rw [given_every, natsV_len] at cL
    have em : (List.range ss.length).map (fun i => vtx (us.getD (ss.getD i 0) [])) = (ss.map fun s => us.getD s []).map vtx := by
      rw [List.map_map]
      refine List.ext_getElem? fun i => ?_
      rw [List.getElem?_map, List.getElem?_map]
      by_cases hi : i < ss.length
      · rw [List.getElem?_range hi, List.getElem?_eq_getElem hi]
        show some (vtx (us.getD (ss.getD i 0) [])) = some (vtx (us.getD ss[i] []))
        rw [List.getD_eq_getElem?_getD (l := ss), List.getElem?_eq_getElem hi, Option.getD_some]
      · rw [List.getElem?_eq_none (by rw [List.length_range]; omega), List.getElem?_eq_none (by omega)]
        rfl
    rw [em] at cL
    rw [natsV_len] at hy
    refine s_ret (ev_join cL (Nat.le_trans (bits_sum (fun u h => (hG.2.1 u h).2.1) ss) (by omega))) fun H4 e4 => ?_
    rw [← List.flatMap_def]
    exact q ss rfl hss H4 (e13.trans e4)
end
end Sl
namespace Sl
open PySem PySem.Spec PyProof.Rows L2 Evl
section
variable {P : Program} {w : World} {K : PySem.W.Frag} {mg : Str → Option Value} {base : Heap} {t : Adr}
/-! read -/
def readX (us : List (List Nat)) (x : V) : Option (List Nat) := if isBitsV x = true then readGo us (cpsV x) [] [] else none
def spRead (K : PySem.W.Frag) (CW CB : Addr) : Sp := fun vs H Q E => ∃ (a : Addr) (xs : List V) (x : V), vs = [.ref a, x] ∧ SqL K H a xs ∧ xs.length ≤ 1000 ∧ ThW H xs ∧ Thing H x ∧ (∀ s, x = .str s → s.cps.size ≤ 800) ∧ (¬ GoodX xs → ∀ H1, Ex H H1 → E (.ref CW) none H1) ∧
  ∀ us, xs = us.map vtx → GoodW us → (readX us x = none → ∀ H1, Ex H H1 → E (.ref CB) none H1) ∧ ∀ ss, readX us x = some ss → RetL (natsV ss) H Q
theorem rdF_mt (ds pd : Addr) (hd : List Nat) : (rdF ds pd hd).lookup ("take" : Str) = none := by
  unfold rdF
  rfl
theorem rdF_mh (ds pd : Addr) (hd : List Nat) : (rdF ds pd hd).lookup ("held" : Str) = none := by
  unfold rdF
  rfl
theorem rdF_md (ds pd : Addr) (hd : List Nat) : (rdF ds pd hd).lookup ("done" : Str) = none := by
  unfold rdF
  rfl
theorem take_step {us : List (List Nat)} {hd : List Nat} {c : Nat} (h : isBit c = true) : takeOf us hd (.str ⟨#[c]⟩) = stepOf us (hd ++ [c]) := by
  unfold takeOf stepOf
  have e : isBitsV (.str ⟨#[c]⟩) = true ∧ lenV (.str ⟨#[c]⟩) = 1 := ⟨by show ([c].all isBit) = true; simp [h], rfl⟩
  rw [if_pos e]
  rfl
theorem ev_rheld {σ : L2.St} {H : Hp} {C : Addr} {i : Nat} {a ds pd : Addr} {us : List (List Nat)} {hd dn : List Nat} {E : XK} (s0 : σ[i]? = some (some (.ref a))) (hR : RdAt C H a ds pd us hd dn) : Ev (tMeth C "held" (spRHeld C) [] E (tVar i) tNil) σ H (.str (tx hd)) := fun H2 e2 Q' q' => by
  obtain ⟨dx, h1⟩ := hR.ob
  exact ⟨_, s0, a, dx, _, rfl, e2 _ _ h1, rdF_mh _ _ _, a, ds, pd, us, hd, dn, rfl, hR.mono e2, q'⟩
theorem el_rdone {σ : L2.St} {H : Hp} {C : Addr} {i : Nat} {a ds pd : Addr} {us : List (List Nat)} {hd dn : List Nat} {E : XK} (s0 : σ[i]? = some (some (.ref a))) (hR : RdAt C H a ds pd us hd dn) : EvL (tMeth C "done" (spRDone C) [] E (tVar i) tNil) σ H (natsV dn) := fun H2 e2 Q' q' => by
  obtain ⟨dx, h1⟩ := hR.ob
  exact ⟨_, s0, a, dx, _, rfl, e2 _ _ h1, rdF_md _ _ _, a, ds, pd, us, hd, dn, rfl, hR.mono e2, q'⟩
theorem ok_read (T : Top K mg t) : FnOk P w K mg base (L2.CX P w) 5 t.f_read t.d_read ["words", "bits"] (spRead K t.C_BadWords t.C_BadBits) := by
  refine T.read.F.okX sc_read (fun vs H Q E h => ?_) (fun cdv A outer s H vs Q E hr h => ?_)
  · obtain ⟨a, xs, x, rfl, _⟩ := h
    rfl
  · obtain ⟨a, xs, x, rfl, hS, hn, hT, hx, hxl, qb, q⟩ := h
    refine ⟨_, (pss_cons (ps_set (i := 2) sc_read.nd rfl (.inl rfl) (pe_make T.mk_Reader (ok_reader_init T) (hr.mono (by decide)) (by rfl) T.oc_Reader.gC T.reader_init.b .nil (passes_call (takes_of rfl rfl rfl rfl) fun _ _ _ _ h => h) (pa_cons (pv 0) pa_nil)))
      (pss_cons (ps_if (pt_not (pt_val (pe_call (ok_is_bits T) (hr.mono (by decide)) (by rfl) T.is_bits.g T.is_bits.F.kp T.is_bits.b .nil pass0 (pa_cons (pv 1) pa_nil)))) (pss_one (ps_raise rfl (takes_of rfl rfl rfl rfl) (SkE.pmk_own1 PySem.F.excBase_ValueError T.C_BadBits.xC T.C_BadBits.gC T.C_BadBits.kC (raises_own T.C_BadBits.bC T.C_BadBits.tC) rfl pe_str))) pss_nil)
      (pss_cons (ps_for (passes_of rfl) rfl (pi_str (pv 1)) (pg_name (i := 3) sc_read.nd rfl (.inl rfl)) (pss_one (ps_expr (pe_meth (pv 2) T.oc_Reader.cl T.me_reader_take (ok_reader_take T) (hr.mono (by decide)) T.reader_take.b .nil (passes_call (takes_of rfl rfl rfl rfl) fun _ _ _ _ h => h) (pa_cons (pv 3) pa_nil)))))
      (pss_cons (ps_if (pt_cmpR op_ne (pe_meth0 (pv 2) T.oc_Reader.cl T.me_reader_held (ok_reader_held T) (hr.mono (by decide)) T.reader_held.b .nil pass0) pe_str (nomark _)) (pss_one (ps_raise rfl (takes_of rfl rfl rfl rfl) (SkE.pmk_own1 PySem.F.excBase_ValueError T.C_BadBits.xC T.C_BadBits.gC T.C_BadBits.kC (raises_own T.C_BadBits.bC T.C_BadBits.tC) rfl pe_str))) pss_nil)
      (pss_one (ps_ret (pe_meth0 (pv 2) T.oc_Reader.cl T.me_reader_done (ok_reader_done T) (hr.mono (by decide)) T.reader_done.b .nil pass0))))))), ?_⟩
    refine ⟨.ref a, rfl, fun r dx nr ndx hne => ?_⟩
    have e0 : Ex H (upd H dx (.own r)) := Ex.new ndx
    have nr2 : (upd H dx (.own r)) r = none := by rw [upd_ne hne.symm]; exact nr
    have e1 := e0.trans (Ex.new (o := .ins t.C_Reader dx []) nr2)
    refine ⟨r, a, dx, xs, rfl, upd_same, ex_l e1 hS, hn, hT.mono e1, fun us hus hG H1 ds pd hR ch nds npd => ⟨rfl, ?_⟩, fun z H1 e => qb z H1 (e1.trans e)⟩
    obtain ⟨qn, qs⟩ := q us hus hG
    have eH1 : Ex H H1 := fun b o hb => ch b o (e1 b o hb) fun z => by rw [z, nr] at hb; cases hb
    have npd0 : H pd = none := fresh_back e1 npd
    have svB : ∀ {H2 : Hp}, Ex H H2 → SpV spIsBits ([x] ++ []) H2 (.bl (isBitsV x)) := fun e => sv_isBits (hx.mono e) fun s hs => Nat.le_trans (hxl s hs) (by decide)
    dsimp only [gName]
    show tSeq (tIfS _ _ _) _ _ [some (V.ref a), some x, some (V.ref r), none] H1
    refine q_when (et_not (et_B (ev_call (ea_cons (ev_var rfl) ea_nil) (svB eH1)))) (fun hz H2 e2 => ?_) (fun hz H2 e2 => ?_)
    · refine qn ?_ H2 (eH1.trans e2)
      unfold readX
      rw [if_neg fun z => by rw [z] at hz; cases hz]
    have hb : isBitsV x = true := by simpa using hz
    obtain ⟨u, rfl, hu⟩ := bits_of hb
    have hul : u.length ≤ 800 := by
      have := hxl (tx u) rfl
      rw [show (tx u).cps.size = (tx u).length from rfl, tx_len] at this
      exact this
    have hX : readX us (vtx u) = readGo us u [] [] := by
      unfold readX
      rw [if_pos hb]
      rfl
    rw [hX] at qn qs
    have eH2 := eH1.trans e2
    have l24 := hG.1
    refine q_forStr (z := tx u) (ev_var rfl) (fun i σ' H' => Ex H H' ∧ ∃ (hd dn : List Nat) (v3 : Option V), σ' = [some (.ref a), some (vtx u), some (.ref r), v3] ∧ RdAt t.C_Reader H' r ds pd us hd dn ∧ hd.length ≤ i ∧ dn.length ≤ i ∧ readGo us (u.drop i) hd dn = readGo us u [] [])
      (fun H3 e3 => ⟨eH2.trans e3, [], [], none, rfl, hR.mono (e2.trans e3), Nat.le_refl _, Nat.le_refl _, rfl⟩) (fun i c σ' H' hc hP => ?_) fun σ' H' hP => ?_
    · obtain ⟨e3, hd, dn, v3, rfl, hR3, hl1, hl2, hgo⟩ := hP
      have hc' : u[i]? = some c := by
        have : u.toArray[i]? = some c := hc
        rw [List.getElem?_toArray] at this
        exact this
      have hi := (List.getElem?_eq_some_iff.mp hc').1
      have ed : u.drop i = c :: u.drop (i + 1) := by
        rw [List.drop_eq_getElem_cons hi]
        congr 1
        exact (List.getElem?_eq_some_iff.mp hc').2
      rw [ed] at hgo
      have cb : isBit c = true := isBit_iff.mpr (hu c (List.mem_of_getElem? hc'))
      have hts := take_step (us := us) (hd := hd) cb
      obtain ⟨dx3, h3⟩ := hR3.ob
      refine ⟨.ref r, rfl, r, dx3, _, rfl, h3, rdF_mt _ _ _, .str ⟨#[c]⟩, rfl, r, ds, pd, us, hd, dn, .str ⟨#[c]⟩, rfl, hR3, .inr (.inr (.inr (.inl ⟨_, rfl⟩))), (fun s hs => by cases hs; show 1 ≤ 1000; decide), by omega, l24, fun u h => (hG.2.1 u h).2.1, by omega, goodw_ne hG.2.2, fun hno H4 e4 => ?_, fun hmo H4 hR4 ch4 => ?_, fun k hk H4 hR4 ch4 => ?_⟩
      · rw [hts] at hno
        rw [readGo_none hno] at hgo
        exact qn hgo.symm H4 (e3.trans e4)
      · rw [hts] at hmo
        rw [readGo_more hmo] at hgo
        refine ⟨fun b o hb => ch4 b o (e3 b o hb) fun z => (by rw [z, nr] at hb; cases hb), hd ++ [c], dn, _, rfl, hR4, by rw [List.length_append]; show _ + 1 ≤ _; omega, by omega, hgo⟩
      · rw [hts] at hk
        rw [readGo_sign hk] at hgo
        refine ⟨fun b o hb => ch4 b o (e3 b o hb) (fun z => by rw [z, nr] at hb; cases hb) fun z => (by rw [z, npd0] at hb; cases hb), [], dn ++ [k], _, rfl, hR4, by simp, by rw [List.length_append]; show _ + 1 ≤ _; omega, hgo⟩
    · obtain ⟨e3, hd, dn, v3, rfl, hR3, hl1, hl2, hgo⟩ := hP
      have es : (tx u).cps.size = u.length := tx_len u
      rw [es, List.drop_length] at hgo
      refine q_when (et_test (ev_op (ev_rheld rfl hR3) (ev_c (v := .str (tx []))) (rv_ne rfl))) (fun hz H4 e4 => ?_) (fun hz H4 e4 => ?_)
      · refine qn ?_ H4 (e3.trans e4)
        rw [← hgo]
        unfold readGo
        rw [if_neg fun z => ?_]
        rw [z, decide_eq_true rfl] at hz
        cases hz
      · have hd0 : hd = [] := by
          have hz : (!decide (V.str (tx hd) = V.str (tx []))) = false := hz
          rw [Bool.not_eq_false'] at hz
          exact tx_inj (V.str.inj (of_decide_eq_true hz))
        subst hd0
        have hs : readGo us u [] [] = some dn := by
          rw [← hgo]
          unfold readGo
          rw [if_pos rfl]
        exact s_retL (el_rdone rfl (hR3.mono e4)) fun p H5 hp e5 h5 => qs dn hs p H5 (fresh_back (e3.trans e4) hp) ((e3.trans e4).trans e5) h5
end
end Sl
namespace Sl
open PySem PySem.Spec PyProof.Rows L2 Evl
section
variable {P : Program} {w : World} {K : PySem.W.Frag} {mg : Str → Option Value} {base : Heap} {t : Adr}
/-! places -/
def spPlaces : Sp := fun vs H Q _ => ∃ l b : Int, vs = [.int l, .int b] ∧ l ≤ b ∧ b ≤ 1000 ∧ 0 ≤ l ∧ RetV (.int (2 ^ (b - l).toNat)) H Q
theorem sv_places {H : Hp} {l b : Int} (h1 : l ≤ b) (h2 : b ≤ 1000) (h3 : 0 ≤ l) : SpV spPlaces ([.int l, .int b] ++ []) H (.int (2 ^ (b - l).toNat)) := fun H1 e Q q E => ⟨l, b, rfl, h1, h2, h3, q⟩
theorem ok_places (T : Top K mg t) : FnOk P w K mg base CX0 1 t.f_places t.d_places ["length", "bound"] spPlaces := by
  refine T.places.F.ok sc_places (fun vs H Q E h => ?_) (fun cdv A outer s H vs Q E hr h => ?_)
  · obtain ⟨l, b, rfl, _⟩ := h
    rfl
  · obtain ⟨l, b, rfl, h1, h2, h3, q⟩ := h
    refine ⟨_, (pss_one (ps_ret (pe_op op_shl pe_int (pe_op op_sub (pv 1) (pv 0))))), ?_⟩
    refine s_ret (ev_op ev_c (ev_op (ev_var rfl) (ev_var rfl) rv_I0) (rv_I ⟨by omega, by omega, by decide⟩)) fun H1 e1 => ?_
    have z := q H1 e1
    rw [← Int.one_mul (2 ^ (b - l).toNat)] at z
    exact z
end
end Sl
namespace Sl
open PySem PySem.Spec PyProof.Rows L2 Evl
section
variable {P : Program} {w : World} {K : PySem.W.Frag} {mg : Str → Option Value} {base : Heap} {t : Adr}
/-! room -/
def spRoom (C : Addr) : Sp := fun vs H Q E => ∃ x : V, vs = [x] ∧ Thing H x ∧ (∀ b : Int, x = .int b → 1 ≤ b → b ≤ 12 → RetV (.int (2 ^ b.toNat)) H Q) ∧ (within 1 12 x = false → ∀ H1, Ex H H1 → E (.ref C) none H1)
theorem within_int {lo hi : Int} {x : V} (h : within lo hi x = true) : ∃ i, x = .int i ∧ lo ≤ i ∧ i ≤ hi := by
  cases x with
  | int i =>
    have z : (decide (lo ≤ i) && decide (i ≤ hi)) = true := h
    rw [Bool.and_eq_true] at z
    exact ⟨i, rfl, of_decide_eq_true z.1, of_decide_eq_true z.2⟩
  | _ => exact absurd (show false = true from h) (by decide)
theorem within_yes {lo hi i : Int} (h1 : lo ≤ i) (h2 : i ≤ hi) : within lo hi (.int i) = true := by
  show (decide (lo ≤ i) && decide (i ≤ hi)) = true
  rw [decide_eq_true h1, decide_eq_true h2]
  rfl
theorem sv_room {C : Addr} {H : Hp} {b : Int} (h1 : 1 ≤ b) (h2 : b ≤ 12) : SpV (spRoom C) ([.int b] ++ []) H (.int (2 ^ b.toNat)) := fun H1 e Q q E =>
  ⟨.int b, rfl, .int b, fun c hc _ _ => by cases hc; exact q, fun z => absurd z (by rw [within_yes h1 h2]; decide)⟩
theorem ok_room (T : Top K mg t) : FnOk P w K mg base (L2.CX P w) 3 t.f_room t.d_room ["bound"] (spRoom t.C_BadBound) := by
  refine T.room.F.okX sc_room (fun vs H Q E h => ?_) (fun cdv A outer s H vs Q E hr h => ?_)
  · obtain ⟨x, rfl, _⟩ := h
    rfl
  · obtain ⟨x, rfl, k, q, r⟩ := h
    refine ⟨_, (pss_cons (ps_expr (pe_call (ok_check_bound T) (hr.mono (by decide)) (by rfl) T.check_bound.g T.check_bound.F.kp T.check_bound.b .nil (passes_call (takes_of rfl rfl rfl rfl) fun _ _ _ _ h => h) (pa_cons (pv 0) pa_nil)))
      (pss_one (ps_ret (pe_op op_shl pe_int (pv 0))))), ?_⟩
    refine ⟨x, rfl, x, rfl, k, fun hw H1 e1 => ?_, r⟩
    obtain ⟨b, rfl, h1, h2⟩ := within_int hw
    refine s_ret (ev_op ev_c (ev_var rfl) (rv_I ⟨by omega, by omega, by decide⟩)) fun H2 e2 => ?_
    have z := q b rfl h1 h2 H2 (e1.trans e2)
    rw [← Int.one_mul (2 ^ b.toNat)] at z
    exact z
end
end Sl
namespace Sl
open PySem PySem.Spec PyProof.Rows L2 Evl
section
variable {P : Program} {w : World} {K : PySem.W.Frag} {mg : Str → Option Value} {base : Heap} {t : Adr}
/-! counted -/
def placesOf (b : Int) : V → Int
  | .int l => 2 ^ (b - l).toNat
  | _ => 0
def sumOf (b : Int) (xs : List V) : Int := (xs.map (placesOf b)).sum
/-- a list of things and a whole number as a bound -/
def spCounted (K : PySem.W.Frag) (CL CB : Addr) : Sp := fun vs H Q E => ∃ (a : Addr) (xs : List V) (y : V), vs = [.ref a, y] ∧ SqL K H a xs ∧ (∀ x ∈ xs, Thing H x) ∧ Thing H y ∧
  (∀ b : Int, y = .int b → 1 ≤ b → b ≤ 12 → okLens 1 b xs = true → RetV (.int (sumOf b xs)) H Q) ∧
  (∀ b : Int, y = .int b → 1 ≤ b → b ≤ 12 → okLens 1 b xs = false → ∀ H1, Ex H H1 → E (.ref CL) none H1) ∧
  (within 1 12 y = false → ∀ H1, Ex H H1 → E (.ref CB) none H1)
theorem given_all (n : Nat) (v : Nat → V) : given n (fun _ => true) v = (List.range n).map v := by
  unfold given
  rw [List.filter_eq_self.mpr fun _ _ => rfl]
theorem map_range_of {α β : Type} (xs : List α) (f : α → β) (g : Nat → β) (h : ∀ i x, xs[i]? = some x → g i = f x) : (List.range xs.length).map g = xs.map f := by
  refine List.ext_getElem? fun i => ?_
  rw [List.getElem?_map, List.getElem?_map]
  by_cases hi : i < xs.length
  · rw [List.getElem?_range hi, List.getElem?_eq_getElem hi]
    show some (g i) = some (f xs[i])
    rw [h i xs[i] (List.getElem?_eq_getElem hi)]
  · rw [List.getElem?_eq_none (by simpa using hi), List.getElem?_eq_none (by simpa using hi)]
    rfl
theorem ok_counted (T : Top K mg t) : FnOk P w K mg base (L2.CX P w) 3 t.f_counted t.d_counted ["lengths", "bound"] (spCounted K t.C_BadLengths t.C_BadBound) := by
  refine T.counted.F.okX sc_counted (fun vs H Q E h => ?_) (fun cdv A outer s H vs Q E hr h => ?_)
  · obtain ⟨a, xs, y, rfl, _⟩ := h
    rfl
  · obtain ⟨a, xs, y, rfl, hS, hT, ky, q, r1, r2⟩ := h
    refine ⟨_, (pss_cons (ps_expr (pe_call (ok_check_bound T) (hr.mono (by decide)) (by rfl) T.check_bound.g T.check_bound.F.kp T.check_bound.b .nil (passes_call (takes_of rfl rfl rfl rfl) fun _ _ _ _ h => h) (pa_cons (pv 1) pa_nil)))
      (pss_cons (ps_expr (pe_call (ok_check_lengths T) (hr.mono (by decide)) (by rfl) T.check_lengths.g T.check_lengths.F.kp T.check_lengths.b .nil (passes_call (takes_of rfl rfl rfl rfl) fun _ _ _ _ h => h) (pa_cons (pv 0) (pa_cons (pv 1) pa_nil))))
      (pss_one (ps_ret (pe_callB (r := rSum K) (cr_sum rfl) (by rfl) T.b.b_sum (by decide +kernel) (pa_cons (pe_lc (own := [("length", 2)]) (g := gName 2) (tt := tYes) rfl sc_counted.nd (pi_list (pv 0)) (blkOk_by (own := [("length", 2)]) (N := N_counted) (sc := defScope s_counted) (by decide +kernel)) (fun _ _ _ _ _ => (pg_name (i := 2) sc_counted.nd rfl (.inl rfl))) (fun _ _ _ _ _ => pts_nil) (fun _ _ _ _ _ => (pe_call (ok_places T) (hr.mono (by decide)) (by rfl) T.places.g T.places.F.kp T.places.b .nil pass0 (pa_cons (pv 2) (pa_cons (pv 1) pa_nil))))) pa_nil)))))), ?_⟩
    refine ⟨y, rfl, y, rfl, ky, fun hw H1 e1 => ?_, r2⟩
    obtain ⟨b, rfl, h1, h2⟩ := within_int hw
    refine ⟨.ref a, rfl, .int b, rfl, a, xs, b, rfl, ex_l e1 hS, fun x hx => (hT x hx).mono e1, h1, h2, fun hk H2 e2 => ?_, fun hk H2 e2 => r1 b rfl h1 h2 hk H2 (e1.trans e2)⟩
    have hl : xs.length ≤ 24 ∧ xs.all (within 1 b) = true := by
      have z := hk
      unfold okLens at z
      rw [Bool.and_eq_true] at z
      exact ⟨of_decide_eq_true z.1, z.2⟩
    have e12 := e1.trans e2
    have ha : ∀ (i : Nat) (x : V), xs[i]? = some x → ∃ l : Int, x = .int l ∧ 1 ≤ l ∧ l ≤ b := fun i x hx => within_int (List.all_eq_true.mp hl.2 x (List.mem_of_getElem? hx))
    have hc := el_lcL (σ := [some (V.ref a), some (V.int b), none]) (H := H2) (j := 2) (vs := [2]) (te := tCall spPlaces [] E0 (tCons (tVar 2) (tCons (tVar 1) tNil))) (t := tYes) (K := K) (tl := tVar 0) (fun _ => true) (fun i => .int (placesOf b (xs.getD i .non)))
      (ev_var rfl) (ex_l e12 hS) (by omega) (fun x => rfl) (fun i x H3 e3 hx => et_yes) (fun i x H3 e3 hx _ => by
        obtain ⟨l, rfl, l1, l2⟩ := ha i x hx
        have eg : xs.getD i .non = .int l := by rw [List.getD_eq_getElem?_getD, hx]; rfl
        rw [eg]
        exact ev_call (ea_cons (ev_var rfl) (ea_cons (ev_var rfl) ea_nil)) (sv_places l2 (by omega) (by omega)))
    rw [given_all, map_range_of xs (fun x => V.int (placesOf b x)) _ fun i x hx => by rw [List.getD_eq_getElem?_getD, hx]; rfl] at hc
    have hc' := ev_sum (K := K) (ns := xs.map (placesOf b)) (by rw [List.map_map]; exact hc)
    refine s_ret hc' fun H3 e3 => ?_
    exact q b rfl h1 h2 hk H3 (e12.trans e3)
end
end Sl
namespace Sl
open PySem PySem.Spec PyProof.Rows L2 Evl
section
variable {P : Program} {w : World} {K : PySem.W.Frag} {mg : Str → Option Value} {base : Heap} {t : Adr}
/-! barred -/
def spBarred (K : PySem.W.Frag) (CN CW CB : Addr) : Sp := fun vs H Q E => ∃ (a : Addr) (xs : List V) (x : V), vs = [.ref a, x] ∧ SqL K H a xs ∧ (∀ x ∈ xs, Thing H x) ∧ Thing H x ∧
  (∀ b : Int, x = .int b → 1 ≤ b → b ≤ 12 → okWeights xs = true → ((xs.length : Int) ≤ 2 ^ b.toNat → RetV .non H Q) ∧ ((2 : Int) ^ b.toNat < (xs.length : Int) → RetU [.int (xs.length : Int), .int (2 ^ b.toNat)] H Q)) ∧
  (24 < xs.length → ∀ H1, Ex H H1 → E (.ref CN) none H1) ∧ (xs.length ≤ 24 → xs.all (within 0 1000000000000) = false → ∀ H1, Ex H H1 → E (.ref CW) none H1) ∧ (okWeights xs = true → within 1 12 x = false → ∀ H1, Ex H H1 → E (.ref CB) none H1)
theorem ok_barred (T : Top K mg t) : FnOk P w K mg base (L2.CX P w) 4 t.f_barred t.d_barred ["weights", "bound"] (spBarred K t.C_NoWeights t.C_BadWeight t.C_BadBound) := by
  refine T.barred.F.okX sc_barred (fun vs H Q E h => ?_) (fun cdv A outer s H vs Q E hr h => ?_)
  · obtain ⟨a, xs, x, rfl, _⟩ := h
    rfl
  · obtain ⟨a, xs, x, rfl, hS, hT, hx, q, rn, rw_, rb⟩ := h
    refine ⟨_, (pss_cons (ps_expr (pe_call (ok_check_weights T) (hr.mono (by decide)) (by rfl) T.check_weights.g T.check_weights.F.kp T.check_weights.b .nil (passes_call (takes_of rfl rfl rfl rfl) fun _ _ _ _ h => h) (pa_cons (pv 0) pa_nil)))
      (pss_cons (ps_set (i := 2) sc_barred.nd rfl (.inl rfl) (pe_call (ok_room T) (hr.mono (by decide)) (by rfl) T.room.g T.room.F.kp T.room.b .nil (passes_call (takes_of rfl rfl rfl rfl) fun _ _ _ _ h => h) (pa_cons (pv 1) pa_nil)))
      (pss_cons (ps_if (pt_cmpR op_le (pe_callB (r := rLenS K) call_len_seq (by rfl) T.b.b_len (by decide +kernel) (pa_cons (pv 0) pa_nil)) (pv 2) (nomark _)) (pss_one (ps_ret pe_non)) pss_nil)
      (pss_one (ps_ret (pe_tup (pa_cons (pe_callB (r := rLenS K) call_len_seq (by rfl) T.b.b_len (by decide +kernel) (pa_cons (pv 0) pa_nil)) (pa_cons (pv 2) pa_nil)))))))), ?_⟩
    refine ⟨.ref a, rfl, a, xs, rfl, hS, hT, fun hk H1 e1 => ?_, rn, rw_⟩
    refine ⟨x, rfl, x, rfl, hx.mono e1, fun b hb b1 b2 H2 e2 => ?_, fun hf H2 e2 => rb hk hf H2 (e1.trans e2)⟩
    obtain ⟨q1, q2⟩ := q b hb b1 b2 hk
    have e12 := e1.trans e2
    refine q_when (et_test (ev_op (ev_len (ev_var rfl) (ex_l e12 hS)) (ev_var rfl) rv_I0)) (fun hb H3 e3 => ?_) (fun hb H3 e3 => ?_)
    · exact s_ret ev_c fun H4 e4 => q1 (of_decide_eq_true hb) H4 ((e12.trans e3).trans e4)
    · have := of_decide_eq_false hb
      refine s_retU (eu_tup (ea_cons (ev_len (ev_var rfl) (ex_l (e12.trans e3) hS)) (ea_cons (ev_var rfl) ea_nil)) (by show 2 ≤ 100000; decide)) fun p H4 hp e4 h4 => ?_
      exact (q2 (by omega)).go (e12.trans e3) hp e4 h4
end
end Sl
namespace Sl
open PySem PySem.Spec PyProof.Rows L2 Evl
section
variable {P : Program} {w : World} {K : PySem.W.Frag} {mg : Str → Option Value} {base : Heap} {t : Adr}
/-! check_room -/
def spCheckRoom (K : PySem.W.Frag) (CN CW CB CR : Addr) : Sp := fun vs H Q E => ∃ (a : Addr) (xs : List V) (x : V), vs = [.ref a, x] ∧ SqL K H a xs ∧ (∀ x ∈ xs, Thing H x) ∧ Thing H x ∧
  (∀ b : Int, okWeights xs = true → x = .int b → 1 ≤ b → b ≤ 12 → (xs.length : Int) ≤ 2 ^ b.toNat → RetV .non H Q) ∧
  (24 < xs.length → ∀ H1, Ex H H1 → E (.ref CN) none H1) ∧ (xs.length ≤ 24 → xs.all (within 0 1000000000000) = false → ∀ H1, Ex H H1 → E (.ref CW) none H1) ∧ (okWeights xs = true → within 1 12 x = false → ∀ H1, Ex H H1 → E (.ref CB) none H1) ∧
  (∀ b : Int, okWeights xs = true → x = .int b → 1 ≤ b → b ≤ 12 → (2 : Int) ^ b.toNat < (xs.length : Int) → ∀ H1, Ex H H1 → E (.ref CR) none H1)
/-- the weights are good: natsV of some, as okWeights says -/
theorem okWeights_nats {xs : List V} (h : okWeights xs = true) : ∃ ws : List Nat, xs = natsV ws ∧ ws.length ≤ 24 ∧ ∀ v ∈ ws, v ≤ 1000000000000 := by
  unfold okWeights at h
  rw [Bool.and_eq_true] at h
  have hl := of_decide_eq_true h.1
  have ha := List.all_eq_true.mp h.2
  have gen : ∀ ys : List V, (∀ y ∈ ys, within 0 1000000000000 y = true) → ∃ ws : List Nat, ys = natsV ws ∧ ∀ v ∈ ws, v ≤ 1000000000000 := by
    intro ys
    induction ys with
    | nil => intro _; exact ⟨[], rfl, fun _ h => by cases h⟩
    | cons y r ih =>
      intro hy
      obtain ⟨i, rfl, h1, h2⟩ := within_int (hy y List.mem_cons_self)
      obtain ⟨ls, rfl, h3⟩ := ih fun z hz => hy z (List.mem_cons_of_mem _ hz)
      refine ⟨i.toNat :: ls, ?_, fun l hl => ?_⟩
      · show V.int i :: natsV ls = V.int ((i.toNat : Nat) : Int) :: natsV ls
        rw [show ((i.toNat : Nat) : Int) = i by omega]
      · rcases List.mem_cons.mp hl with rfl | hl
        · omega
        · exact h3 l hl
  obtain ⟨ws, rfl, h3⟩ := gen xs ha
  exact ⟨ws, rfl, by rw [natsV_len] at hl; exact hl, h3⟩
theorem natsV_all {ws : List Nat} (hw : ∀ v ∈ ws, v ≤ 1000000000000) : (natsV ws).all (within 0 1000000000000) = true := List.all_eq_true.mpr fun x hx => by
  obtain ⟨n, hn, rfl⟩ := List.mem_map.mp hx
  exact within_yes (by omega) (by have := hw n hn; omega)
theorem str_app (x y : Str) : (x ++ y).length = x.length + y.length := by
  show (x.cps ++ y.cps).size = x.cps.size + y.cps.size
  exact Array.size_append
theorem txt64 : ∀ i : Fin 64, ((toString ((i.val : Nat) : Int) : Str)).length ≤ 2 := by decide +kernel
theorem txt_small {n : Nat} (h : n < 64) : ((toString ((n : Nat) : Int) : Str)).length ≤ 2 := txt64 ⟨n, h⟩
theorem log64 : ∀ i : Fin 64, ((i.val : Nat) : Int).natAbs.log2 < 1920 := by decide +kernel
theorem log_small {n : Nat} (h : n < 64) : ((n : Nat) : Int).natAbs.log2 < 1920 := log64 ⟨n, h⟩
/-- short texts joined -/
theorem cat_len : ∀ (l : List Str) (z : Str), (∀ y ∈ z :: l, y.length ≤ 100) → (l.foldl (· ++ ·) z).length ≤ 100 * (l.length + 1)
  | [], z, h => by have := h z List.mem_cons_self; simpa using this
  | y :: l, z, h => by
    have gen : ∀ (l : List Str) (z : Str) (n : Nat), z.length ≤ n → (∀ y ∈ l, y.length ≤ 100) → (l.foldl (· ++ ·) z).length ≤ n + 100 * l.length := fun l => by
      induction l with
      | nil => intro z n hz _; simpa using hz
      | cons y l ih =>
        intro z n hz hl
        have := ih (z ++ y) (n + 100) (by rw [str_app]; have := hl y List.mem_cons_self; omega) fun y hy => hl y (List.mem_cons_of_mem _ hy)
        show (l.foldl (· ++ ·) (z ++ y)).length ≤ _
        rw [List.length_cons]
        omega
    have := gen (y :: l) z 100 (h z List.mem_cons_self) fun y hy => h y (List.mem_cons_of_mem _ hy)
    omega
theorem small_txt (l : List Str) (h : ∀ y ∈ l, y.length ≤ 100) (hl : l.length ≤ 100) : (l.foldl (· ++ ·) Str.empty).length ≤ sizeLine := by
  refine Nat.le_trans (cat_len l Str.empty fun y hy => ?_) (Nat.le_trans (Nat.mul_le_mul_left 100 (Nat.succ_le_succ hl)) (by decide))
  rcases List.mem_cons.mp hy with rfl | hy
  · decide
  · exact h y hy
theorem ok_check_room (T : Top K mg t) : FnOk P w K mg base (L2.CX P w) 5 t.f_check_room t.d_check_room ["weights", "bound"] (spCheckRoom K t.C_NoWeights t.C_BadWeight t.C_BadBound t.C_NoRoom) := by
  refine T.check_room.F.okX sc_check_room (fun vs H Q E h => ?_) (fun cdv A outer s H vs Q E hr h => ?_)
  · obtain ⟨a, xs, x, rfl, _⟩ := h
    rfl
  · obtain ⟨a, xs, x, rfl, hS, hT, hx, q, rn, rw_, rb, rr⟩ := h
    refine ⟨_, (pss_cons (ps_set (i := 2) sc_check_room.nd rfl (.inl rfl) (pe_call (ok_barred T) (hr.mono (by decide)) (by rfl) T.barred.g T.barred.F.kp T.barred.b .nil (passes_call (takes_of rfl rfl rfl rfl) fun _ _ _ _ h => h) (pa_cons (pv 0) (pa_cons (pv 1) pa_nil))))
      (pss_one (ps_if (pt_cmpR op_notN (pv 2) pe_non (nomark _)) (pss_cons (ps_asg (pv 2) (pg_tup rfl (pgs_cons (pg_name (i := 3) sc_check_room.nd rfl (.inl rfl)) (pgs_cons (pg_name (i := 4) sc_check_room.nd rfl (.inl rfl)) pgs_nil))))
      (pss_one (ps_raise rfl (takes_of rfl rfl rfl rfl) (SkE.pmk_own1 PySem.F.excBase_ValueError T.C_NoRoom.xC T.C_NoRoom.gC T.C_NoRoom.kC (raises_own T.C_NoRoom.bC T.C_NoRoom.tC) rfl (pe_joined (.cons pe_str (.cons (pe_fmt (pv 3)) (.cons pe_str (.cons (pe_fmt (pv 4)) (.cons pe_str .nil)))))))))) pss_nil))), ?_⟩
    refine ⟨.ref a, rfl, x, rfl, a, xs, x, rfl, hS, hT, hx, fun b hb b1 b2 hk => ⟨fun hle H1 e1 => ?_, fun hgt p H1 hp e1 h1 => ?_⟩, rn, rw_, rb⟩
    · refine s_when (et_test (ev_op (ev_var rfl) ev_c rv_notN)) (fun hb _ _ => absurd hb (by decide)) fun _ H2 e2 => ?_
      exact q b hk hb b1 b2 hle H2 (e1.trans e2)
    · refine s_when (et_test (ev_op (ev_var rfl) ev_c rv_notN)) (fun _ H2 e2 => ?_) (fun hb _ _ => absurd hb (by simp))
      have hk' := hk
      unfold okWeights at hk'
      rw [Bool.and_eq_true] at hk'
      have hl : xs.length ≤ 24 := of_decide_eq_true hk'.1
      have h2 := e2 _ _ h1
      refine ⟨.ref p, rfl, p, _, rfl, st_of h2, rfl, _, _, rfl, _, _, rfl, rfl, ?_⟩
      have hrr := rr b hk hb b1 b2 hgt
      have hp2 : (2 : Int) ^ b.toNat = ((2 ^ b.toNat : Nat) : Int) := pow_int _
      have hn : 2 ^ b.toNat < xs.length := by rw [hp2] at hgt; omega
      rw [hp2]
      generalize 2 ^ b.toNat = n at hn
      generalize xs.length = m at *
      have t1 := txt_small (n := m) (by omega)
      have t2 := txt_small (n := n) (by omega)
      refine ⟨_, rfl, by decide +kernel, .int (m : Int), rfl, .inr ⟨(m : Int), rfl, log_small (by omega), _, rfl, ?_, _, rfl, ?_, .int (n : Int), rfl, .inr ⟨(n : Int), rfl, log_small (by omega), _, rfl, ?_, _, rfl, ?_, ?_⟩⟩⟩
      · exact small_txt [_, _] (by
          intro z hz
          simp only [List.mem_cons, List.not_mem_nil, or_false] at hz
          rcases hz with rfl | rfl <;> first | decide +kernel | exact Nat.le_trans t1 (by decide)) (by simp)
      · exact small_txt [_, _, _] (by
          intro z hz
          simp only [List.mem_cons, List.not_mem_nil, or_false] at hz
          rcases hz with rfl | rfl | rfl <;> first | decide +kernel | exact Nat.le_trans t1 (by decide)) (by simp)
      · exact small_txt [_, _, _, _] (by
          intro z hz
          simp only [List.mem_cons, List.not_mem_nil, or_false] at hz
          rcases hz with rfl | rfl | rfl | rfl <;> first | decide +kernel | exact Nat.le_trans t1 (by decide) | exact Nat.le_trans t2 (by decide)) (by simp)
      · exact small_txt [_, _, _, _, _] (by
          intro z hz
          simp only [List.mem_cons, List.not_mem_nil, or_false] at hz
          rcases hz with rfl | rfl | rfl | rfl | rfl <;> first | decide +kernel | exact Nat.le_trans t1 (by decide) | exact Nat.le_trans t2 (by decide)) (by simp)
      · exact hrr H2 (e1.trans e2)
end
end Sl
namespace Sl
open PySem PySem.Spec PyProof.Rows L2 Evl
section
variable {P : Program} {w : World} {K : PySem.W.Frag} {mg : Str → Option Value} {base : Heap} {t : Adr}
/-! _by_weight -/
def spByW (K : PySem.W.Frag) (PL : Addr) : Sp := fun vs H Q _ => ∃ (a : Addr) (ys : List V) (r : List Pk), vs = [.ref a] ∧ SqL K H a ys ∧ Pks H ys r ∧ r.length ≤ 1000 ∧ LamX.TabS H PL lamQ ∧
  ∀ p zs H2, NewN H p → LamX.ExtN H H2 → LamX.TabS H2 PL lamQ → H2 p = some (.lst zs) → Pks H2 zs (r.mergeSort leP) → Q (.ref p) H2
theorem ok_u_by_weight (T : Top K mg t) (TB : LamX.TabB base mg t.cL t.PL) : FnOk P w K mg base CX0 1 t.f_u_by_weight t.d_u_by_weight ["packets"] (spByW K t.PL) := by
  refine okC T.u_by_weight.F T.code_u_by_weight sc_u_by_weight (fun vs H Q E h => ?_) (fun A outer s H vs Q E hr h => ?_)
  · obtain ⟨a, ys, r, rfl, _⟩ := h
    rfl
  · obtain ⟨a, ys, r, rfl, hS, hp, hl, hT, q⟩ := h
    refine ⟨_, (pss_one (ps_ret (pe_sortKey (by rfl) T.b.b_sorted (pa_cons (pv 0) pa_nil) TB rfl hr rfl (fun _ _ _ _ _ _ => rfl) rfl rfl rfl (by decide) rfl))), ?_⟩
    refine ⟨.ref a, rfl, hT, a, ys, rfl, hS, by rw [hp.1]; exact hl, hp.lead, fun p H2 hn hx hT2 h2 => ?_⟩
    exact q p _ H2 hn hx hT2 h2 (hp.sort hx)
end
end Sl
namespace Sl
open PySem PySem.Spec PyProof.Rows L2 Evl
section
variable {P : Program} {w : World} {K : PySem.W.Frag} {mg : Str → Option Value} {base : Heap} {t : Adr}
/-! _joined -/
def spJoined : Sp := fun vs H Q _ => ∃ (z1 z2 : V) (p q : Pk), vs = [z1, z2] ∧ PkAt H z1 p ∧ PkAt H z2 q ∧ p.2.length + q.2.length ≤ 100000 ∧ (∀ s ∈ p.2, s < 24) ∧ (∀ s ∈ q.2, s < 24) ∧ ∀ z H2, Ex H H2 → PkAt H2 z (p.1 + q.1, mixed p.2 q.2) → Q z H2
theorem ok_u_joined (T : Top K mg t) : FnOk P w K mg base CX0 1 t.f_u_joined t.d_u_joined ["one", "other"] spJoined := by
  refine T.u_joined.F.ok sc_u_joined (fun vs H Q E h => ?_) (fun cdv A outer s H vs Q E hr h => ?_)
  · obtain ⟨z1, z2, p, q, rfl, _⟩ := h
    rfl
  · obtain ⟨z1, z2, p, q, rfl, h1, h2, hl, b1, b2, k⟩ := h
    refine ⟨_, (pss_one (ps_ret (pe_tup (pa_cons (pe_op op_add (pe_ix (r := rIxT K) ix_tup (pv 0) pe_int (fun _ _ => rfl)) (pe_ix (r := rIxT K) ix_tup (pv 1) pe_int (fun _ _ => rfl))) (pa_cons (pe_callTy call_tupleF (by rfl) T.b.b_tuple (by decide +kernel) (pa_cons (pe_callB (r := rSortedIT K) cr_sortedIT (by rfl) T.b.b_sorted (by decide +kernel) (pa_cons (pe_op op_catA (pe_ix (r := rIxT K) ix_tup (pv 0) pe_int (fun _ _ => rfl)) (pe_ix (r := rIxT K) ix_tup (pv 1) pe_int (fun _ _ => rfl))) pa_nil)) pa_nil)) pa_nil))))), ?_⟩
    obtain ⟨t1, u1, rfl, a1, c1⟩ := h1
    obtain ⟨t2, u2, rfl, a2, c2⟩ := h2
    refine s_retR (er_pk (n := p.1 + q.1) (ev_is (ev_op (ev_op (ev_var rfl) ev_c (rv_ixT (st_of a1) (atI_nat (j := 0) rfl))) (ev_op (ev_var rfl) ev_c (rv_ixT (st_of a2) (atI_nat (j := 0) rfl))) rv_I0) (congrArg V.int (Int.natCast_add _ _).symm))
      (ef_tuple (el_joined (ev_op (ev_var rfl) ev_c (rv_ixT (st_of a1) (atI_nat (j := 1) rfl))) (ev_op (ev_var rfl) ev_c (rv_ixT (st_of a2) (atI_nat (j := 1) rfl))) c1.sq c2.sq hl b1 b2))) fun y H1 e1 hy => k y H1 e1 hy
end
end Sl
namespace Sl
open PySem PySem.Spec PyProof.Rows L2 Evl
section
variable {P : Program} {w : World} {K : PySem.W.Frag} {mg : Str → Option Value} {base : Heap} {t : Adr}
/-! _pairs -/
def spUPairs (K : PySem.W.Frag) : Sp := fun vs H Q _ => ∃ (a : Addr) (ys : List V) (r : List Pk), vs = [.ref a] ∧ SqL K H a ys ∧ Pks H ys r ∧ r.length ≤ 1000 ∧ (∀ p ∈ r, p.2.length ≤ 50000) ∧ (∀ p ∈ r, ∀ s ∈ p.2, s < 24) ∧
  ∀ p zs H2, H p = none → Ex H H2 → H2 p = some (.lst zs) → Pks H2 zs (pairsOf r) → Q (.ref p) H2
theorem ok_u_pairs (T : Top K mg t) : FnOk P w K mg base CX0 2 t.f_u_pairs t.d_u_pairs ["row"] (spUPairs K) := by
  refine T.u_pairs.F.ok sc_u_pairs (fun vs H Q E h => ?_) (fun cdv A outer s H vs Q E hr h => ?_)
  · obtain ⟨a, ys, r, rfl, _⟩ := h
    rfl
  · obtain ⟨a, ys, r, rfl, hS, hp, hl, hn, hb, q⟩ := h
    refine ⟨_, (pss_one (ps_ret (pe_lc (own := [("one", 1), ("other", 2)]) (g := gTup K 2 (gCons (gName 1) (gCons (gName 2) gNil))) (tt := tYes) rfl sc_u_pairs.nd (pi_zip (by rfl) T.b.b_zip (pa_cons (pe_slice2 (pv 0) po_none) (pa_cons (pe_slice2 (pv 0) (po_some pe_int)) pa_nil))) (blkOk_by (own := [("one", 1), ("other", 2)]) (N := N_u_pairs) (sc := defScope s_u_pairs) (by decide +kernel)) (fun _ _ _ _ _ => (pg_tup rfl (pgs_cons (pg_name (i := 1) sc_u_pairs.nd rfl (.inl rfl)) (pgs_cons (pg_name (i := 2) sc_u_pairs.nd rfl (.inl rfl)) pgs_nil)))) (fun _ _ _ _ _ => pts_nil) (fun _ _ _ _ _ => (pe_call (ok_u_joined T) (hr.mono (by decide)) (by rfl) T.u_joined.g T.u_joined.F.kp T.u_joined.b .nil pass0 (pa_cons (pv 1) (pa_cons (pv 2) pa_nil))))))), ?_⟩
    have hyl : ys.length = r.length := hp.1
    have c := ex_lcZip (K := K) (σ := [some (V.ref a), none, none]) (H := H) (n := r.length / 2) (s := 1) (l := 2) (vs := [1, 2]) (te := tCall spJoined [] E0 (tCons (tVar 1) (tCons (tVar 2) tNil))) (el_sl2 (K := K) (te := tVar 0) (ev_var rfl) (eo_none (H := H)) (a := 0) (by decide) hS) (el_sl2 (K := K) (te := tVar 0) (ev_var rfl) (eo_some (ev_c (v := .int 1) (H := H))) (a := 1) (by decide) hS)
      (by rw [pick2_len, pick2_len]; omega) (by omega) (fun i y H' => ∃ p, (pairsOf r)[i]? = some p ∧ PkAt H' y p) (fun i y H H' e h => by obtain ⟨p, h1, h2⟩ := h; exact ⟨p, h1, h2.mono e⟩) (fun i y H b xs o hb h => by obtain ⟨p, h1, h2⟩ := h; exact ⟨p, h1, h2.upd hb⟩) (fun v w => rfl) (fun i x y H1 hi e1 hx hy => by
        rw [pick2_at 0 ys (by omega), Nat.zero_add] at hx
        rw [pick2_at 1 ys (by omega), Nat.add_comm 1] at hy
        have k1 : 2 * i < r.length := by omega
        have k2 : 2 * i + 1 < r.length := by omega
        obtain ⟨z1, g1, p1⟩ := hp.2 (2 * i) _ (List.getElem?_eq_getElem k1)
        obtain ⟨z2, g2, p2⟩ := hp.2 (2 * i + 1) _ (List.getElem?_eq_getElem k2)
        rw [hx] at g1
        rw [hy] at g2
        cases g1
        cases g2
        have n1 := hn _ (List.getElem_mem k1)
        have n2 := hn _ (List.getElem_mem k2)
        refine er_call (ea_cons (ev_var rfl) (ea_cons (ev_var rfl) ea_nil)) fun H2 e2 Q' q' => ⟨x, y, r[2 * i], r[2 * i + 1], rfl, p1.mono (e1.trans e2), p2.mono (e1.trans e2), by omega, hb _ (List.getElem_mem k1), hb _ (List.getElem_mem k2), fun z H3 e3 hz => q' z H3 e3 ⟨_, pairsOf_get (List.getElem?_eq_getElem k1) (List.getElem?_eq_getElem k2), hz⟩⟩)
    refine s_retX c fun p zs H2 hn2 e2 h2 hR => q p zs H2 hn2 e2 h2 ⟨by rw [hR.1, pairsOf_len], fun i pk hpk => ?_⟩
    have hi := (List.getElem?_eq_some_iff.mp hpk).1
    rw [pairsOf_len] at hi
    have hz : i < zs.length := by rw [hR.1]; exact hi
    obtain ⟨pk', k1, k2⟩ := hR.2 i zs[i] (List.getElem?_eq_getElem hz)
    rw [hpk] at k1
    cases k1
    exact ⟨_, List.getElem?_eq_getElem hz, k2⟩
end
end Sl
namespace Sl
open PySem PySem.Spec PyProof.Rows L2 Evl
section
variable {P : Program} {w : World} {K : PySem.W.Frag} {mg : Str → Option Value} {base : Heap} {t : Adr}
/-! packet_rows -/
def spRows (K : PySem.W.Frag) (PL CN CW CB CR : Addr) : Sp := fun vs H Q E => ∃ (a : Addr) (xs : List V) (x : V), vs = [.ref a, x] ∧ SqL K H a xs ∧ (∀ x ∈ xs, Thing H x) ∧ Thing H x ∧ LamX.TabS H PL lamQ ∧
  (∀ (ws : List Nat) (b : Nat), xs = natsV ws → x = .int (b : Int) → 1 ≤ b → b ≤ 12 → ws.length ≤ 24 → (∀ v ∈ ws, v ≤ 1000000000000) → ws.length ≤ 2 ^ b → RetRowsN PL ws b H Q) ∧
  (24 < xs.length → ∀ H1, Ex H H1 → E (.ref CN) none H1) ∧ (xs.length ≤ 24 → xs.all (within 0 1000000000000) = false → ∀ H1, Ex H H1 → E (.ref CW) none H1) ∧ (okWeights xs = true → within 1 12 x = false → ∀ H1, Ex H H1 → E (.ref CB) none H1) ∧
  (∀ b : Int, okWeights xs = true → x = .int b → 1 ≤ b → b ≤ 12 → (2 : Int) ^ b.toNat < (xs.length : Int) → ∀ H1, Ex H H1 → E (.ref CR) none H1)
theorem row_next (ws : List Nat) (k : Nat) : (alone ws ++ pairsOf (rowP ws k)).mergeSort leP = rowP ws (k + 1) := by
  rw [← puts_sort, List.foldl_append]
  rfl
theorem row_first (ws : List Nat) : (alone ws).mergeSort leP = rowP ws 1 := by
  have := row_next ws 0
  rw [show pairsOf (rowP ws 0) = [] from rfl, List.append_nil] at this
  exact this
theorem alone_at {ws : List Nat} {i : Nat} (h : i < ws.length) : (alone ws)[i]? = some (ws.getD i 0, [i]) := by
  unfold alone
  rw [List.getElem?_map, List.getElem?_range h]
  rfl
theorem alone_len (ws : List Nat) : (alone ws).length = ws.length := by unfold alone; rw [List.length_map, List.length_range]
theorem ok_packet_rows (T : Top K mg t) (TB : LamX.TabB base mg t.cL t.PL) : FnOk P w K mg base (L2.CX P w) 6 t.f_packet_rows t.d_packet_rows ["weights", "bound"] (spRows K t.PL t.C_NoWeights t.C_BadWeight t.C_BadBound t.C_NoRoom) := by
  refine T.packet_rows.F.okX sc_packet_rows (fun vs H Q E h => ?_) (fun cdv A outer s H vs Q E hr h => ?_)
  · obtain ⟨a, xs, x, rfl, _⟩ := h
    rfl
  · obtain ⟨a, xs, x, rfl, hS, hT, hx, hTab, q, rn, rw_, rb, rr⟩ := h
    refine ⟨_, (pss_cons (ps_expr (pe_call (ok_check_room T) (hr.mono (by decide)) (by rfl) T.check_room.g T.check_room.F.kp T.check_room.b .nil (passes_call (takes_of rfl rfl rfl rfl) fun _ _ _ _ h => h) (pa_cons (pv 0) (pa_cons (pv 1) pa_nil))))
      (pss_cons (ps_setLc (i := 2) (own := [("sign", 5), ("weight", 6)]) (g := gTup K 2 (gCons (gName 5) (gCons (gName 6) gNil))) (tt := tYes) rfl sc_packet_rows.nd rfl rfl (sw_true rfl rfl rfl (by decide +kernel)) (pi_enum (by rfl) T.b.b_enumerate (pa_cons (pv 0) pa_nil)) (blkOk_by (own := [("sign", 5), ("weight", 6)]) (N := N_packet_rows) (sc := defScope s_packet_rows) (by decide +kernel)) (fun _ _ _ _ _ => (pg_tup rfl (pgs_cons (pg_name (i := 5) sc_packet_rows.nd rfl (.inl rfl)) (pgs_cons (pg_name (i := 6) sc_packet_rows.nd rfl (.inl rfl)) pgs_nil)))) (fun _ _ _ _ _ => pts_nil) (fun _ _ _ _ _ => (pe_tup (pa_cons (pv 6) (pa_cons (pe_tupF (pa_cons (pv 5) pa_nil)) pa_nil)))))
      (pss_cons (ps_set (i := 3) sc_packet_rows.nd rfl (.inl rfl) (pe_lst (pa_cons (pe_call (ok_u_by_weight T TB) (hr.mono (by decide)) (by rfl) T.u_by_weight.g T.u_by_weight.F.kp T.u_by_weight.b .nil pass0 (pa_cons (pv 2) pa_nil)) pa_nil)))
      (pss_cons (ps_for (passes_of rfl) rfl (pi_range1 (by rfl) T.b.b_range (pa_cons (pe_op op_sub (pv 1) pe_int) pa_nil)) (pg_name (i := 4) sc_packet_rows.nd rfl (.inl rfl)) (pss_one (ps_expr (pe_bm PySem.F.plainAttrs_list PySem.F.slot_list_append PySem.F.type_list_append mt_append (pv 3) (pa_cons (pe_call (ok_u_by_weight T TB) (hr.mono (by decide)) (by rfl) T.u_by_weight.g T.u_by_weight.F.kp T.u_by_weight.b .nil pass0 (pa_cons (pe_op op_cat (pv 2) (pe_call (ok_u_pairs T) (hr.mono (by decide)) (by rfl) T.u_pairs.g T.u_pairs.F.kp T.u_pairs.b .nil pass0 (pa_cons (pe_ix (r := rIxL K) ix_list (pv 3) (pe_un un_neg pe_int) (fun _ _ => rfl)) pa_nil))) pa_nil)) pa_nil)))))
      (pss_one (ps_ret (pv 3))))))), ?_⟩
    refine ⟨.ref a, rfl, x, rfl, a, xs, x, rfl, hS, hT, hx, fun bi hk hxb b1 b2 hroom H1 e1 => ?_, rn, rw_, rb, rr⟩
    subst hxb
    obtain ⟨ws, rfl, hn, hw⟩ := okWeights_nats hk
    obtain ⟨b, rfl⟩ : ∃ b : Nat, bi = (b : Int) := ⟨bi.toNat, by omega⟩
    rw [natsV_len, Int.toNat_natCast, pow_int] at hroom
    have q := q ws b rfl rfl (by omega) (by omega) hn hw (by omega)
    have c := ex_lcEn (K := K) (σ := [some (V.ref a), some (V.int (b : Int)), none, none, none, none, none]) (H := H1) (t := tCons (tVar 0) tNil) (s := 5) (l := 6) (vs := [5, 6]) (te := tTup (tCons (tVar 6) (tCons (tTupF (tCons (tVar 5) tNil)) tNil))) (ea_cons (ev_var rfl) ea_nil) (ex_l e1 hS) (by rw [natsV_len]; omega)
      (fun i y H' => PkAt H' y (ws.getD i 0, [i])) (fun i y H H' e h => h.mono e) (fun i y H b xs o hb h => h.upd hb) (fun v w => rfl) (fun i x H2 e2 hx => by
        unfold natsV at hx
        rw [List.getElem?_map] at hx
        obtain ⟨n, hn', rfl⟩ := Option.map_eq_some_iff.mp hx
        have : ws.getD i 0 = n := by rw [List.getD_eq_getElem?_getD, hn']; rfl
        rw [this]
        exact er_pk (ev_var rfl) (ef_tup (ea_cons (ev_var rfl) ea_nil) (by show 1 ≤ 100000; decide)))
    refine q_asgX c fun pown yown H2 npown e2 h2 hR => ?_
    have hown : Pks H2 yown (alone ws) := ⟨by rw [hR.1, natsV_len, alone_len], fun i p hp => by
      have hi : i < ws.length := by
        have := (List.getElem?_eq_some_iff.mp hp).1
        rw [alone_len] at this
        exact this
      have hy : i < yown.length := by rw [hR.1, natsV_len]; exact hi
      rw [alone_at hi] at hp
      cases hp
      exact ⟨_, List.getElem?_eq_getElem hy, hR.2 i _ (List.getElem?_eq_getElem hy)⟩⟩
    have e12 := e1.trans e2
    have oneLe : ∀ v : V, [v].length ≤ sizeLine := fun v => sz_of (by show 1 ≤ 100000; decide)
    have rl : ∀ k, (rowP ws k).length ≤ 48 := fun k => by have := rowP_len_le ws k; omega
    refine q_asgLst1 (ea_cons (ev_var rfl) ea_nil) fun H3 e3 => ⟨pown, yown, alone ws, rfl, sq_of (e3 _ _ h2), hown.mono e3, by rw [alone_len]; omega, tab_ex hTab (e12.trans e3), fun p1 z1 H4 n1 x4 t4 h4 pk4 => ⟨oneLe _, fun pr npr => ?_⟩⟩
    rw [row_first] at pk4
    have x03 : LamX.ExtN H H3 := ExN (e12.trans e3)
    have x04 := x03.trans x4
    have npr4 : NewN H pr := (NewN.of npr).back x04
    have e45 : Ex H4 (upd H4 pr (.lst [.ref p1])) := Ex.new npr
    have o4 := xl x4 (e3 _ _ h2)
    have hpo : pown ≠ pr := fun z => by rw [z, npr] at o4; cases o4
    have ne1 : p1 ≠ pr := fun z => by rw [z, npr] at h4; cases h4
    have h5 : (upd H4 pr (.lst [.ref p1])) pr = some (.lst [.ref p1]) := upd_same
    have t5 := tab_ex t4 e45
    have o5 := e45 _ _ o4
    have k5 := ((hown.mono e3).monoN x4).mono e45
    have x05 := x04.trans (ExN e45)
    have p5 := e45 _ _ h4
    have q5 := pk4.mono e45
    generalize upd H4 pr (.lst [.ref p1]) = H5 at *
    refine q_forR1 (n := (b : Int) - 1) (ea_cons (ev_op (ev_var rfl) ev_c rv_I0) ea_nil) ⟨by omega, by omega⟩
      (fun i σ' H' => LamX.ExtN H H' ∧ LamX.TabS H' t.PL lamQ ∧ H' pown = some (.lst yown) ∧ Pks H' yown (alone ws) ∧ ∃ (ys : List V) (v4 : Option V), H' pr = some (.lst ys) ∧ ys.length = i + 1 ∧
        (∀ j, j < i + 1 → ∃ (a : Addr) (zs : List V), ys[j]? = some (.ref a) ∧ a ≠ pr ∧ NewN H a ∧ H' a = some (.lst zs) ∧ Pks H' zs (rowP ws (j + 1))) ∧ (∀ (i j : Nat) (a : Addr), ys[i]? = some (.ref a) → ys[j]? = some (.ref a) → i = j) ∧
        σ' = [some (V.ref a), some (V.int (b : Int)), some (V.ref pown), some (V.ref pr), v4, none, none])
      (fun H6 e6 => ⟨x05.trans (ExN e6), tab_ex t5 e6, e6 _ _ o5, k5.mono e6, [.ref p1], none, e6 _ _ h5, rfl, fun j hj => ?_, fun i j a hi hj => ?_, rfl⟩) (fun i σ' H' hi hP => ?_) fun σ' H' hP => ?_
    · have : j = 0 := by omega
      subst this
      exact ⟨p1, z1, rfl, ne1, n1.back x03, e6 _ _ p5, q5.mono e6⟩
    · cases i with
      | zero => cases j with
        | zero => rfl
        | succ j => simp at hj
      | succ i => simp at hi
    · obtain ⟨x6, t6, o6, k6, ys, v4, hpr, hyl, hrow, hdist, rfl⟩ := hP
      obtain ⟨al, zl, gl, nal, newl, hl, pl⟩ := hrow i (by omega)
      have good := good_row hn (i + 1)
      have small := pk_small hn (k := i + 1) (by omega)
      refine s_appRaw hpr (ev_var rfl) fun H7 e7 => ?_
      refine ⟨.ref pown, rfl, .ref pr, rfl, 1, rfl, pr, ys, -1, .ref al, rfl, rfl, sq_of (e7 _ _ hpr), atI_neg1 (by rw [hyl]; exact gl), al, zl, rowP ws (i + 1), rfl, sq_of (e7 _ _ hl), pl.mono e7, by have := rl (i + 1); omega, fun p hp => by have := small p hp; omega, fun p hp s hs => by have := (good p hp).2 s hs; omega, fun pz zz H8 npz e8 h8 pk8 => ?_⟩
      have pl8 : zz.length = (pairsOf (rowP ws (i + 1))).length := pk8.1
      have pl9 := pairsOf_len (rowP ws (i + 1))
      have rl1 := rl (i + 1)
      have yl : yown.length = ws.length := by rw [k6.1, alone_len]
      have e78 := e7.trans e8
      refine ⟨pown, pz, yown, zz, rfl, rfl, e78 _ _ o6, h8, sz_of (by omega), fun pc npc => ?_⟩
      have e9 : Ex H8 (upd H8 pc (.lst (yown ++ zz))) := Ex.new npc
      have e79 := e78.trans e9
      refine ⟨pc, yown ++ zz, alone ws ++ pairsOf (rowP ws (i + 1)), rfl, sq_of upd_same, (k6.mono e79).app (pk8.mono e9), by rw [List.length_append, alone_len]; omega, tab_ex t6 e79, fun p zs H10 n10 x10 t10 h10 pk10 => ?_⟩
      rw [row_next] at pk10
      have x11 : LamX.ExtN H' H10 := (ExN e79).trans x10
      have hpr10 := xl x11 hpr
      refine ⟨pr, ys, .ref p, rfl, rfl, hpr10, sz_lt (by omega), ?_⟩
      have npp : p ≠ pr := fun z => by
        have := n10.ne ((e79) _ _ hpr) (fun _ z => by cases z)
        exact this z.symm
      have newp : NewN H p := n10.back (x6.trans (ExN e79))
      have keepL : ∀ {c : Addr} {us : List V}, c ≠ pr → H' c = some (.lst us) → (upd H10 pr (.lst (ys ++ [.ref p]))) c = some (.lst us) := fun hc h => by rw [upd_ne hc]; exact xl x11 h
      refine ⟨ExtN.mut (x6.trans x11) npr4, tab_upd hpr10 t10, keepL hpo o6, ((k6.monoN x11).upd hpr10), ys ++ [.ref p], _, upd_same, by rw [List.length_append, hyl]; rfl, fun j hj => ?_, fun i' j' c h1 h2 => ?_, rfl⟩
      · by_cases hji : j < i + 1
        · obtain ⟨c, us, g1, g2, g3, g4, g5⟩ := hrow j hji
          exact ⟨c, us, by rw [List.getElem?_append_left (by omega)]; exact g1, g2, g3, keepL g2 g4, (g5.monoN x11).upd hpr10⟩
        · have : j = i + 1 := by omega
          subst this
          refine ⟨p, zs, by rw [List.getElem?_append_right (by omega), hyl, Nat.sub_self]; rfl, npp, newp, by rw [upd_ne npp]; exact h10, pk10.upd hpr10⟩
      · have old : ∀ k, (ys ++ [V.ref p])[k]? = some (.ref c) → k < i + 1 ∧ ys[k]? = some (.ref c) ∧ c ≠ p ∨ k = i + 1 ∧ c = p := fun k hk => by
          by_cases hki : k < i + 1
          · rw [List.getElem?_append_left (by omega)] at hk
            obtain ⟨c', us, g1, g2, g3, g4, g5⟩ := hrow k hki
            rw [hk] at g1
            cases g1
            exact .inl ⟨hki, hk, n10.ne (e79 _ _ g4) (fun _ z => by cases z)⟩
          · rw [List.getElem?_append_right (by omega)] at hk
            have := (List.getElem?_eq_some_iff.mp hk).1
            have e0 : k - ys.length = 0 := by simp at this; omega
            rw [e0] at hk
            cases hk
            exact .inr ⟨by omega, rfl⟩
        rcases old i' h1 with ⟨a1, a2, a3⟩ | ⟨a1, a2⟩ <;> rcases old j' h2 with ⟨b1, b2, b3⟩ | ⟨b1, b2⟩
        · exact hdist i' j' c a2 b2
        · exact absurd b2 a3
        · exact absurd a2 b3
        · omega
    · obtain ⟨x6, t6, o6, k6, ys, v4, hpr, hyl, hrow, hdist, rfl⟩ := hP
      have eb : ((b : Int) - 1).toNat + 1 = b := by omega
      rw [eb] at hyl hrow
      exact s_ret (ev_var rfl) fun H7 e7 => q pr ys H7 npr4 (x6.trans (ExN e7)) (tab_ex t6 e7) (e7 _ _ hpr) ⟨hyl, fun i hi => by
        obtain ⟨c, us, g1, g2, g3, g4, g5⟩ := hrow i hi
        exact ⟨c, us, g1, g2, g3, e7 _ _ g4, g5.mono e7⟩, hdist⟩
end
end Sl
namespace Sl
open PySem PySem.Spec PyProof.Rows L2 Evl
section
variable {P : Program} {w : World} {K : PySem.W.Frag} {mg : Str → Option Value} {base : Heap} {t : Adr}
/-! free_lengths -/
def spFree (K : PySem.W.Frag) (PL CN CW CB CR : Addr) : Sp := fun vs H Q E => ∃ (a : Addr) (xs : List V) (x : V), vs = [.ref a, x] ∧ SqL K H a xs ∧ (∀ x ∈ xs, Thing H x) ∧ Thing H x ∧ LamX.TabS H PL lamQ ∧
  (∀ (ws : List Nat) (b : Nat), xs = natsV ws → x = .int (b : Int) → 1 ≤ b → b ≤ 12 → ws.length ≤ 24 → (∀ v ∈ ws, v ≤ 1000000000000) → ws.length ≤ 2 ^ b → RetLN PL (natsV (freeLens ws b)) H Q) ∧
  (24 < xs.length → ∀ H1, Ex H H1 → E (.ref CN) none H1) ∧ (xs.length ≤ 24 → xs.all (within 0 1000000000000) = false → ∀ H1, Ex H H1 → E (.ref CW) none H1) ∧ (okWeights xs = true → within 1 12 x = false → ∀ H1, Ex H H1 → E (.ref CB) none H1) ∧
  (∀ b : Int, okWeights xs = true → x = .int b → 1 ≤ b → b ≤ 12 → (2 : Int) ^ b.toNat < (xs.length : Int) → ∀ H1, Ex H H1 → E (.ref CR) none H1)
def dueOf (n : Nat) (l : List Nat) : List Nat := (List.range n).map fun s => l.count s
theorem dueOf_len (n : Nat) (l : List Nat) : (dueOf n l).length = n := by
  unfold dueOf
  rw [List.length_map, List.length_range]
theorem dueOf_get {n s : Nat} (l : List Nat) (h : s < n) : (dueOf n l).getD s 0 = l.count s := by
  unfold dueOf
  rw [List.getD_eq_getElem?_getD, List.getElem?_map, List.getElem?_range h]
  rfl
theorem dueOf_step {n s : Nat} (l : List Nat) (h : s < n) : dueOf n (l ++ [s]) = (dueOf n l).set s (l.count s + 1) := by
  refine List.ext_getElem? fun i => ?_
  by_cases hi : i < n
  · by_cases e : s = i
    · subst e
      rw [List.getElem?_set_self (by rw [dueOf_len]; exact hi)]
      unfold dueOf
      rw [List.getElem?_map, List.getElem?_range hi]
      show some ((l ++ [s]).count s) = _
      rw [List.count_append]
      simp
    · rw [List.getElem?_set_ne e]
      unfold dueOf
      rw [List.getElem?_map, List.getElem?_map, List.getElem?_range hi]
      show some ((l ++ [s]).count i) = some (l.count i)
      rw [List.count_append, List.count_singleton, if_neg (by simpa using e)]
      rfl
  · rw [List.getElem?_eq_none (by rw [dueOf_len]; omega), List.getElem?_eq_none (by rw [List.length_set, dueOf_len]; omega)]
theorem dueOf_free {ws : List Nat} {b : Nat} (h2 : 2 ≤ ws.length) : dueOf ws.length (sgP ((rowP ws b).take (2 * ws.length - 2))) = freeLens ws b := by
  unfold freeLens dueOf
  rw [if_neg (by omega)]
  rfl
theorem dueOf_nil (n : Nat) : natsV (dueOf n []) = List.replicate n (V.int 0) := by
  unfold natsV dueOf
  rw [List.map_map]
  refine List.eq_replicate_iff.mpr ⟨by rw [List.length_map, List.length_range], fun y hy => ?_⟩
  obtain ⟨x, _, rfl⟩ := List.mem_map.mp hy
  rfl
theorem ok_free_lengths (T : Top K mg t) (TB : LamX.TabB base mg t.cL t.PL) : FnOk P w K mg base (L2.CX P w) 7 t.f_free_lengths t.d_free_lengths ["weights", "bound"] (spFree K t.PL t.C_NoWeights t.C_BadWeight t.C_BadBound t.C_NoRoom) := by
  refine T.free_lengths.F.okX sc_free_lengths (fun vs H Q E h => ?_) (fun cdv A outer s H vs Q E hr h => ?_)
  · obtain ⟨a, xs, x, rfl, _⟩ := h
    rfl
  · obtain ⟨a, xs, x, rfl, hS, hT, hx, hTab, q, rn, rw_, rb, rr⟩ := h
    refine ⟨_, (pss_cons (ps_set (i := 2) sc_free_lengths.nd rfl (.inl rfl) (pe_ix (r := rIxL K) ix_list (pe_call (ok_packet_rows T TB) (hr.mono (by decide)) (by rfl) T.packet_rows.g T.packet_rows.F.kp T.packet_rows.b .nil (passes_call (takes_of rfl rfl rfl rfl) fun _ _ _ _ h => h) (pa_cons (pv 0) (pa_cons (pv 1) pa_nil))) (pe_un un_neg pe_int) (fun _ _ => rfl)))
      (pss_cons (ps_set (i := 3) sc_free_lengths.nd rfl (.inl rfl) (pe_callB (r := rLenS K) call_len_seq (by rfl) T.b.b_len (by decide +kernel) (pa_cons (pv 0) pa_nil)))
      (pss_cons (ps_if (pt_cmpR op_lt (pv 3) pe_int (nomark _)) (pss_one (ps_ret (pe_op op_rep (pe_lst (pa_cons pe_int pa_nil)) (pv 3)))) pss_nil)
      (pss_cons (ps_set (i := 4) sc_free_lengths.nd rfl (.inl rfl) (pe_op op_rep (pe_lst (pa_cons pe_int pa_nil)) (pv 3)))
      (pss_cons (ps_for (passes_of rfl) rfl (pi_list (pe_slice (r := rSlL K) sl_list (pv 2) po_none (po_some (pe_op op_sub (pe_op op_mul pe_int (pv 3)) pe_int)))) (pg_tup rfl (pgs_cons (pg_name (i := 5) sc_free_lengths.nd rfl (.inl rfl)) (pgs_cons (pg_name (i := 6) sc_free_lengths.nd rfl (.inl rfl)) pgs_nil))) (pss_one (ps_for (passes_of rfl) rfl (pi_tup (pv 6)) (pg_name (i := 7) sc_free_lengths.nd rfl (.inl rfl)) (pss_one (ps_augS (pv 4) (pv 7) get_list pe_int ip_add set_list)))))
      (pss_one (ps_ret (pv 4)))))))), ?_⟩
    refine ⟨.ref a, rfl, x, rfl, a, xs, x, rfl, hS, hT, hx, hTab, fun ws b hxs hxb b1 b2 hn hw hroom p ys H1 np x1 t1 h1 hrows => ?_, rn, rw_, rb, rr⟩
    have hq := q ws b hxs hxb b1 b2 hn hw hroom
    subst hxs hxb
    obtain ⟨yl, hrow, _⟩ := hrows
    obtain ⟨al, zl, gl, nal, newl, hl, pl⟩ := hrow (b - 1) (by omega)
    rw [show b - 1 + 1 = b by omega] at pl
    refine ⟨1, rfl, p, ys, -1, .ref al, rfl, rfl, sq_of h1, atI_neg1 (by rw [yl]; exact gl), ?_⟩
    show tSeq (tAsg (tCB (rLenS K) (tCons (tVar 0) tNil)) (gName 3)) _ _ _ H1
    refine q_asg (ev_is (ev_len (ev_var rfl) (xL x1 hS)) (by rw [natsV_len])) fun H2 e2 => ?_
    refine q_when (et_test (ev_op (ev_var rfl) ev_c rv_I0)) (fun hb H3 e3 => ?_) fun hb H3 e3 => ?_
    · have h2 : ws.length < 2 := by
        have := of_decide_eq_true hb
        omega
      have x3 := x1.trans (ExN (e2.trans e3))
      refine s_retL (el_rep (n := ws.length) (el_lst (ea_cons ev_c ea_nil) (by decide)) (ev_var rfl) (by show 1 * _ ≤ 100000; omega) (by omega)) fun pn H4 hn4 e4 h4 => ?_
      refine hq pn H4 ((NewN.of hn4).back x3) (x3.trans (ExN e4)) (tab_ex t1 ((e2.trans e3).trans e4)) ?_
      rw [h4, rep_one]
      unfold freeLens natsV
      rw [if_pos h2, List.map_replicate]
      rfl
    have h2 : 2 ≤ ws.length := by
      have := of_decide_eq_false hb
      omega
    have e23 := e2.trans e3
    refine q_asgL (el_rep (n := ws.length) (el_lst (ea_cons ev_c ea_nil) (by decide)) (ev_var rfl) (by show 1 * _ ≤ 100000; omega) (by omega)) fun pd H4 npd e4 h4 => ?_
    have h4 : H4 pd = some (.lst (natsV (dueOf ws.length []))) := by rw [h4, rep_one, dueOf_nil]
    have e24 := e23.trans e4
    have x4 := x1.trans (ExN e24)
    have newd : NewN H pd := (NewN.of npd).back (x1.trans (ExN e23))
    have t4 := tab_ex t1 e24
    have hl4 := e24 _ _ hl
    have pl4 := pl.mono e24
    obtain ⟨pk, hpk⟩ : ∃ pk, pk = (rowP ws b).take (2 * ws.length - 2) := ⟨_, rfl⟩
    have good : ∀ x ∈ pk, GoodP ws x := fun x hx => good_row hn b x (List.mem_of_mem_take (hpk ▸ hx))
    have small : ∀ x ∈ pk, x.2.length ≤ 2048 := fun x hx => pk_small hn b2 x (List.mem_of_mem_take (hpk ▸ hx))
    have cs := el_sl (K := K) (σ := [some (V.ref a), some (V.int (b : Int)), some (V.ref al), some (V.int (ws.length : Int)), some (V.ref pd), none, none, none]) (H := H4) (te := tVar 2) (ev_var rfl) (eo_none (H := H4)) (eo_some (i := ((2 * ws.length - 2 : Nat) : Int)) (ev_is (ev_op (r := rI0 fun i j => .int (i - j)) (ev_op (r := rI CMul fun i j => .int (i * j)) (ev_c (v := .int 2)) (ev_var (i := 3) rfl) (rv_I (.inl ⟨by decide, by decide⟩))) (ev_c (v := .int 2)) rv_I0) (congrArg V.int (by omega)))) (sq_of hl4)
    rw [cutV_to] at cs
    refine q_forNL cs (fun p2 i σ' H' => ∃ H5, Ex H4 H5 ∧ H4 p2 = none ∧ H5 p2 = some (.lst (zl.take (2 * ws.length - 2))) ∧ ExB pd H5 H' ∧ H' pd = some (.lst (natsV (dueOf ws.length (sgP (pk.take i))))) ∧
        ∃ v5 v6 v7, σ' = [some (V.ref a), some (V.int (b : Int)), some (V.ref al), some (V.int (ws.length : Int)), some (V.ref pd), v5, v6, v7]) (fun p2 H5 np2 e5 h5 => ⟨H5, e5, np2, h5, ExB.refl _ _, by rw [e5 _ _ h4]; rfl, none, none, none, rfl⟩) (fun p2 i σ' H' _ hP => ?_) (fun p2 i x σ' H' hx hP => ?_) fun p2 σ' H' hP => ?_
    · obtain ⟨H5, e5, np2, h5, eb, _⟩ := hP
      exact sq_of (eb _ _ h5 fun z => by rw [z, h4] at np2; cases np2)
    · obtain ⟨H5, e5, np2, h5, eb, hd, v5, v6, v7, rfl⟩ := hP
      have d5 := e5 _ _ h4
      have pks5 : Pks H5 (zl.take (2 * ws.length - 2)) pk := by
        rw [hpk]
        exact (pl4.take _).mono e5
      have hi : i < pk.length := by
        have := (List.getElem?_eq_some_iff.mp hx).1
        rw [pks5.1] at this
        exact this
      have pks' := pks5.exB d5 eb
      obtain ⟨z, gz, tt, uu, rfl, htt, huu⟩ := pks'.2 i _ (List.getElem?_eq_getElem hi)
      rw [hx] at gz
      cases gz
      have et : pk.take (i + 1) = pk.take i ++ [pk[i]] := by rw [List.take_add_one, List.getElem?_eq_getElem hi]; rfl
      have gi := good _ (List.getElem_mem hi)
      have si := small _ (List.getElem_mem hi)
      rw [et, sgP_app]
      have es : sgP [pk[i]] = pk[i].2 := by unfold sgP; simp
      rw [es]
      generalize pk[i] = pi at *
      refine ⟨tt, _, rfl, st_of htt, rfl, _, _, rfl, _, _, rfl, rfl, ?_⟩
      have nu : uu ≠ pd := fun z => by
        obtain ⟨o, ho, _⟩ := huu
        rw [z, hd] at ho
        cases ho
      refine s_forT (a := uu) (xs := natsV pi.2) (ev_var rfl) huu.sq (fun j σ2 H2 => ExB pd H' H2 ∧ H2 pd = some (.lst (natsV (dueOf ws.length (sgP (pk.take i) ++ pi.2.take j)))) ∧ ∃ v7, σ2 = [some (V.ref a), some (V.int (b : Int)), some (V.ref al), some (V.int (ws.length : Int)), some (V.ref pd), some (V.int (pi.1 : Int)), some (V.ref uu), v7])
        (fun H2 e2' => ⟨ExB.of e2', by rw [e2' _ _ hd]; simp, v7, rfl⟩) (fun j σ2 H2 _ hP => ?_) (fun j y σ2 H2 hy hP => ?_) fun σ2 H2 hP => ?_
      · obtain ⟨o, ho, k⟩ := huu
        exact TupF.sq ⟨o, hP.1 _ _ ho nu, k⟩
      · obtain ⟨eb2, hd2, v7', rfl⟩ := hP
        unfold natsV at hy
        rw [List.getElem?_map] at hy
        obtain ⟨sg, hsg, rfl⟩ := Option.map_eq_some_iff.mp hy
        have hs := gi.2 sg (List.mem_of_getElem? hsg)
        have et2 : pi.2.take (j + 1) = pi.2.take j ++ [sg] := by rw [List.take_add_one, hsg]; rfl
        refine s_augS (j := sg) (a := ((dueOf ws.length (sgP (pk.take i) ++ pi.2.take j)).getD sg 0 : Nat)) (b := 1) hd2 (ev_var rfl) (ev_var rfl) ?_ ev_c fun H3 e3' => ?_
        · unfold natsV
          rw [List.getElem?_map, List.getD_eq_getElem?_getD, List.getElem?_eq_getElem (by rw [dueOf_len]; exact hs)]
          rfl
        · refine ⟨(eb2.then e3').set, ?_, _, rfl⟩
          rw [upd_same, dueOf_get _ hs]
          have := natsV_set (dueOf ws.length (sgP (pk.take i) ++ pi.2.take j)) sg ((sgP (pk.take i) ++ pi.2.take j).count sg + 1)
          rw [Int.natCast_add] at this
          show some (HO.lst ((natsV (dueOf ws.length (sgP (pk.take i) ++ pi.2.take j))).set sg (V.int ((((sgP (pk.take i) ++ pi.2.take j).count sg : Nat) : Int) + ((1 : Nat) : Int))))) = _
          rw [this, et2, ← List.append_assoc, dueOf_step _ hs]
      · obtain ⟨eb2, hd2, v7', rfl⟩ := hP
        rw [natsV_len, List.take_length] at hd2
        exact ⟨H5, e5, np2, h5, eb.trans eb2, hd2, _, _, _, rfl⟩
    · obtain ⟨H5, e5, np2, h5, eb, hd, v5, v6, v7, rfl⟩ := hP
      have d5 := e5 _ _ h4
      have lz : (zl.take (2 * ws.length - 2)).length = pk.length := by rw [hpk, List.length_take, List.length_take, pl.1]
      rw [lz, List.take_length, hpk, dueOf_free h2] at hd
      refine s_ret (ev_var rfl) fun H6 e6 => hq pd H6 newd ((extN_exB (x4.trans (ExN e5)) newd eb).trans (ExN e6)) (tab_ex (tab_exB d5 (tab_ex t4 e5) eb) e6) (e6 _ _ hd)
end
end Sl
namespace Sl
open PySem PySem.Spec PyProof.Rows L2 Evl
section
variable {P : Program} {w : World} {K : PySem.W.Frag} {mg : Str → Option Value} {base : Heap} {t : Adr}
/-! _parted -/
def spParted : Sp := fun vs H Q _ => ∃ (p : Addr) (kvs : List (List Key × V)) (f m l d : Nat) (x y : Option Nat), vs = [.ref p, .int (f : Int), .int (m : Int), .int (l : Int), .int (d : Int)] ∧ H p = some (.dT kvs) ∧ valV kvs (key3 f m d) = some (oV x) ∧ valV kvs (key3 m l d) = some (oV y) ∧ RetV (oV (both x y)) H Q
theorem oV_non (x : Option Nat) : decide (oV x = V.non) = x.isNone := by
  cases x with
  | none => rfl
  | some n => exact decide_eq_false fun z => by cases z
theorem ok_u_parted (T : Top K mg t) : FnOk P w K mg base CX0 1 t.f_u_parted t.d_u_parted ["table", "first", "middle", "last", "depth"] spParted := by
  refine T.u_parted.F.ok sc_u_parted (fun vs H Q E h => ?_) (fun cdv A outer s H vs Q E hr h => ?_)
  · obtain ⟨p, kvs, f, m, l, d, x, y, rfl, _⟩ := h
    rfl
  · obtain ⟨p, kvs, f, m, l, d, x, y, rfl, hp, hx, hy, q⟩ := h
    refine ⟨_, (pss_cons (ps_set (i := 5) sc_u_parted.nd rfl (.inl rfl) (pe_dget (hu_of hr) (pv 0) (pe_tup (pa_cons (pv 1) (pa_cons (pv 2) (pa_cons (pv 4) pa_nil)))) (fun _ _ => rfl)))
      (pss_cons (ps_set (i := 6) sc_u_parted.nd rfl (.inl rfl) (pe_dget (hu_of hr) (pv 0) (pe_tup (pa_cons (pv 2) (pa_cons (pv 3) (pa_cons (pv 4) pa_nil)))) (fun _ _ => rfl)))
      (pss_cons (ps_if (PW.pt (pw_or (pt_cmpR op_isN (pv 5) pe_non (nomark _)) (pw_or1 (pt_cmpR op_isN (pv 6) pe_non (nomark _))))) (pss_one (ps_ret pe_non)) pss_nil)
      (pss_one (ps_ret (pe_op op_add (pv 5) (pv 6))))))), ?_⟩
    refine q_asg (ev_dget (ev_var rfl) hp (eu_tup (ea_cons (ev_var rfl) (ea_cons (ev_var rfl) (ea_cons (ev_var rfl) ea_nil))) (by show 3 ≤ 100000; decide)) hx) fun H1 e1 => ?_
    refine q_asg (ev_dget (ev_var rfl) (e1 _ _ hp) (eu_tup (ea_cons (ev_var rfl) (ea_cons (ev_var rfl) (ea_cons (ev_var rfl) ea_nil))) (by show 3 ≤ 100000; decide)) hy) fun H2 e2 => ?_
    have e12 := e1.trans e2
    refine q_when (et_or (et_test (ev_op (ev_var rfl) ev_c rv_isN)) fun _ => et_test (ev_op (ev_var rfl) ev_c rv_isN)) (fun hb H3 e3 => ?_) fun hb H3 e3 => ?_
    · rw [oV_non, oV_non] at hb
      refine s_ret ev_c fun H4 e4 => ?_
      have z := q H4 ((e12.trans e3).trans e4)
      cases x with
      | none => exact z
      | some a =>
        cases y with
        | none => exact z
        | some b => cases hb
    · rw [oV_non, oV_non] at hb
      cases x with
      | none => cases hb
      | some a =>
        cases y with
        | none => cases hb
        | some b =>
          refine s_ret (ev_op (ev_var rfl) (ev_var rfl) rv_I0) fun H4 e4 => ?_
          have z := q H4 ((e12.trans e3).trans e4)
          have z' : Q (.int ((a + b : Nat) : Int)) H4 := z
          rw [Int.natCast_add] at z'
          exact z'
end
end Sl
namespace Sl
open PySem PySem.Spec PyProof.Rows L2 Evl
section
variable {P : Program} {w : World} {K : PySem.W.Frag} {mg : Str → Option Value} {base : Heap} {t : Adr}
/-! _best_part -/
def RetT (xs : List V) (H : Hp) (Q : VK) : Prop := ∀ p H2, Ex H H2 → H2 p = some (.tup xs) → Q (.ref p) H2
def spBest : Sp := fun vs H Q _ => ∃ (p : Addr) (kvs : List (List Key × V)) (ws : List Nat) (f l d v : Nat), vs = [.ref p, .int (f : Int), .int (l : Int), .int (d : Int)] ∧ H p = some (.dT kvs) ∧ TabUp kvs ws d ∧ f + 1 < l ∧ l ≤ ws.length ∧ ws.length ≤ 24 ∧ d ≤ 12 ∧
  bestOf (ways ws d f l) = some v ∧ RetT [.int (v : Int), .int (mid ws d f l : Int)] H Q
theorem ways_len (ws : List Nat) (d f l : Nat) : (ways ws d f l).length = l - f - 1 := by
  unfold ways
  rw [List.length_map, List.length_range]
theorem ways_at (ws : List Nat) {d f l i : Nat} (h : i < l - f - 1) : (ways ws d f l)[i]? = some (both (val ws d f (f + 1 + i)) (val ws d (f + 1 + i) l)) := by
  unfold ways
  rw [List.getElem?_map, List.getElem?_range h]
  rfl
theorem ok_u_best_part (T : Top K mg t) : FnOk P w K mg base CX0 2 t.f_u_best_part t.d_u_best_part ["table", "first", "last", "depth"] spBest := by
  refine T.u_best_part.F.ok sc_u_best_part (fun vs H Q E h => ?_) (fun cdv A outer s H vs Q E hr h => ?_)
  · obtain ⟨p, kvs, ws, f, l, d, v, rfl, _⟩ := h
    rfl
  · obtain ⟨p, kvs, ws, f, l, d, v, rfl, hp, hk, hf, hl, hn, hd, hv, q⟩ := h
    refine ⟨_, (pss_cons (ps_setLc (i := 4) (own := [("middle", 5)]) (g := gName 5) (tt := tYes) rfl sc_u_best_part.nd rfl rfl (sw_true rfl rfl rfl (by decide +kernel)) (pi_range2 (by rfl) T.b.b_range (pa_cons (pe_op op_add (pv 1) pe_int) (pa_cons (pv 2) pa_nil))) (blkOk_by (own := [("middle", 5)]) (N := N_u_best_part) (sc := defScope s_u_best_part) (by decide +kernel)) (fun _ _ _ _ _ => (pg_name (i := 5) sc_u_best_part.nd rfl (.inl rfl))) (fun _ _ _ _ _ => pts_nil) (fun _ _ _ _ _ => (pe_tup (pa_cons (pe_call (ok_u_parted T) (hr.mono (by decide)) (by rfl) T.u_parted.g T.u_parted.F.kp T.u_parted.b .nil pass0 (pa_cons (pv 0) (pa_cons (pv 1) (pa_cons (pv 5) (pa_cons (pv 2) (pa_cons (pv 3) pa_nil)))))) (pa_cons (pv 5) pa_nil)))))
      (pss_one (ps_ret (pe_callB (r := rMinP K) (cr_minP rfl hr.units) (by rfl) T.b.b_min (by decide +kernel) (pa_cons (pe_lc (own := [("way", 6)]) (g := gName 6)  rfl sc_u_best_part.nd (pi_list (pv 4)) (blkOk_by (own := [("way", 6)]) (N := N_u_best_part) (sc := defScope s_u_best_part) (by decide +kernel)) (fun _ _ _ _ _ => (pg_name (i := 6) sc_u_best_part.nd rfl (.inl rfl))) (fun _ _ _ _ _ => (pts_one (pt_cmpR op_notN (pe_ix (r := rIxT K) ix_tup (pv 6) pe_int (fun _ _ => rfl)) pe_non (nomark _)))) (fun _ _ _ _ _ => (pv 6))) pa_nil))))), ?_⟩
    have nn : ((l : Int) - ((f : Int) + 1)).toNat = l - f - 1 := by omega
    have c := ex_lcAll (σ := [some (V.ref p), some (V.int (f : Int)), some (V.int (l : Int)), some (V.int (d : Int)), none, none, none]) (H := H) (vs := [5]) (g := gName 5) (wi := iRng2 (tCons (tOp (rI0 fun i j => .int (i + j)) (tVar 1) (tC (.int 1))) (tCons (tVar 2) tNil)))
      (te := tTup (tCons (tCall spParted [] E0 (tCons (tVar 0) (tCons (tVar 1) (tCons (tVar 5) (tCons (tVar 2) (tCons (tVar 3) tNil)))))) (tCons (tVar 5) tNil)))
      (walk_range (lo := (f : Int) + 1) (n := ((l : Int) - ((f : Int) + 1)).toNat)) (fun i => TupIs [oV (both (val ws d f (f + 1 + i)) (val ws d (f + 1 + i) l)), .int ((f + 1 + i : Nat) : Int)]) (fun i y H H' e h => h.mono e) (fun i y H b xs o hb h => h.upd hb)
      (ei_rng2 (ea_cons (ev_op (ev_var rfl) ev_c rv_I0) (ea_cons (ev_var rfl) ea_nil)) (by omega) (by omega)) (fun _ _ => trivial) (by omega) (fun i x H1 H2 hi e1 y => by
        obtain ⟨rfl, rfl⟩ := y
        refine ⟨Ex.refl _, _, fun q hq => hq, rfl, EvU.toR ?_⟩
        have hm : ((f : Int) + 1 + (i : Int)) = ((f + 1 + i : Nat) : Int) := by omega
        show EvU _ (List.set _ 5 (some (V.int ((f : Int) + 1 + (i : Int))))) _ _
        rw [hm]
        refine eu_tup (ea_cons (ev_call (ea_cons (ev_var rfl) (ea_cons (ev_var rfl) (ea_cons (ev_var rfl) (ea_cons (ev_var rfl) (ea_cons (ev_var rfl) ea_nil))))) fun H3 e3 Q' q' E' => ?_) (ea_cons (ev_var rfl) ea_nil)) (by show 2 ≤ 100000; decide)
        exact ⟨p, kvs, f, f + 1 + i, l, d, _, _, rfl, (e1.trans e3) _ _ hp, hk f (f + 1 + i) d (by omega) (by omega) (Nat.le_refl _), hk (f + 1 + i) l d (by omega) hl (Nat.le_refl _), q'⟩)
    rw [nn] at c
    refine q_asgX c fun a ys H1 ha e1 h1 hR => ?_
    obtain ⟨yl, hy⟩ := hR
    have fI : ∀ i, i < l - f - 1 → ∃ t, ys[i]? = some (.ref t) ∧ H1 t = some (.tup [oV (both (val ws d f (f + 1 + i)) (val ws d (f + 1 + i) l)), .int ((f + 1 + i : Nat) : Int)]) := fun i hi => by
      have hi' : i < ys.length := by omega
      obtain ⟨t, e, h⟩ := hy i ys[i] (List.getElem?_eq_getElem hi')
      exact ⟨t, by rw [List.getElem?_eq_getElem hi', e], h⟩
    generalize hW : (fun i : Nat => both (val ws d f (f + 1 + i)) (val ws d (f + 1 + i) l)) = W at *
    have hW' : ∀ i : Nat, both (val ws d f (f + 1 + i)) (val ws d (f + 1 + i) l) = W i := fun i => congrFun hW i
    have cF := el_lcL (K := K) (σ := [some (V.ref p), some (V.int (f : Int)), some (V.int (l : Int)), some (V.int (d : Int)), some (V.ref a), none, none]) (H := H1) (j := 6) (vs := [6]) (tl := tVar 4)
      (t := tTest (tOp (fun x y H Q => y = .non ∧ Q (.bl (!decide (x = .non))) H) (tOp (rIxT K) (tVar 6) (tC (.int 0))) (tC .non))) (te := tVar 6) (fun i => (W i).isSome) (fun i => ys.getD i .non)
      (ev_var rfl) (sq_of h1) (by omega) (fun x => rfl) (fun i x H3 e3 hx => by
        obtain ⟨t, e, h⟩ := fI i (by rw [← yl]; exact (List.getElem?_eq_some_iff.mp hx).1)
        rw [hx] at e
        cases e
        refine et_is (et_test (ev_op (ev_op (ev_var rfl) ev_c (rv_ixT (st_of (e3 _ _ h)) (atI_nat (j := 0) rfl))) ev_c rv_notN)) ?_
        rw [oV_non, hW']
        cases W i <;> rfl) (fun i x H3 e3 hx _ => by
        have : ys.getD i .non = x := by rw [List.getD_eq_getElem?_getD, hx]; rfl
        rw [this]
        exact ev_var rfl)
    have hq : ∀ n, n ≤ l - f - 1 → Tups H1 (given n (fun i => (W i).isSome) fun i => ys.getD i .non) (((List.range n).filter fun i => (W i).isSome).map fun i => (((W i).getD 0 : Nat), ((f + 1 + i : Nat) : Int))) := fun n hn => by
      unfold given
      refine ⟨by rw [List.length_map, List.length_map], fun i q hq => ?_⟩
      rw [List.getElem?_map] at hq ⊢
      obtain ⟨k, hk, rfl⟩ := Option.map_eq_some_iff.mp hq
      have hk2 := List.mem_filter.mp (List.mem_of_getElem? hk)
      have hk3 := List.mem_range.mp hk2.1
      obtain ⟨t, e, h⟩ := fI k (by omega)
      refine ⟨t, ?_, ?_⟩
      · rw [hk]
        show some (ys.getD k .non) = _
        rw [List.getD_eq_getElem?_getD, e]
        rfl
      · rw [h, hW']
        cases ew : W k with
        | none => rw [ew] at hk2; cases hk2.2
        | some u => rfl
    rw [yl] at cF
    have hq' := hq (l - f - 1) (Nat.le_refl _)
    have wat : ∀ i, i < l - f - 1 → (ways ws d f l)[i]? = some (W i) := fun i hi => by rw [ways_at ws hi, hW']
    have some1 : ∃ i, i < l - f - 1 ∧ W i = some v := by
      obtain ⟨i, hi, e⟩ := List.getElem_of_mem (bestOf_mem hv)
      rw [ways_len] at hi
      have := wat i hi
      rw [List.getElem?_eq_getElem (by rw [ways_len]; exact hi), e] at this
      exact ⟨i, hi, (Option.some.inj this).symm⟩
    refine s_retCB cF fun b H2 hb e2 h2 => ?_
    refine ⟨b, _, _, rfl, sq_of h2, hq'.mono e2, ?_, fun i q t hi ht hm => ?_⟩
    · intro z
      obtain ⟨i, hi, e⟩ := some1
      have : i ∈ (List.range (l - f - 1)).filter fun i => (W i).isSome := List.mem_filter.mpr ⟨List.mem_range.mpr hi, by rw [e]; rfl⟩
      have := List.map_eq_nil_iff.mp z
      rw [this] at *
      simp_all
    · rw [List.getElem?_map] at hi
      obtain ⟨k, hk, rfl⟩ := Option.map_eq_some_iff.mp hi
      have hk2 := List.mem_filter.mp (List.mem_of_getElem? hk)
      have hk3 := List.mem_range.mp hk2.1
      cases ew : W k with
      | none => rw [ew] at hk2; cases hk2.2
      | some u =>
        obtain ⟨k1, k2⟩ := best_pick (W := ways ws d f l) (c := f + 1) (i := k) (v := u) (by rw [wat k hk3, ew]) fun j x hj => by
          have hj' : j < l - f - 1 := by
            have := (List.getElem?_eq_some_iff.mp hj).1
            rw [ways_len] at this
            exact this
          rw [wat j hj'] at hj
          have hj2 : W j = some x := Option.some.inj hj
          have := hm ((x : Nat), ((f + 1 + j : Nat) : Int)) (List.mem_map.mpr ⟨j, List.mem_filter.mpr ⟨List.mem_range.mpr hj', by rw [hj2]; rfl⟩, by rw [hj2]; rfl⟩)
          rw [ew] at this
          exact this
        rw [hv] at k1
        cases k1
        have em : mid ws d f l = f + 1 + k := by unfold mid; rw [k2]
        rw [em] at q
        obtain ⟨t', e', h'⟩ := hq'.2 i (((W k).getD 0 : Nat), ((f + 1 + k : Nat) : Int)) (by rw [List.getElem?_map]; exact hi)
        rw [ht] at e'
        cases e'
        rw [ew] at h'
        exact q t H2 (e1.trans e2) (e2 _ _ h')
end
end Sl
namespace Sl
open PySem PySem.Spec PyProof.Rows L2 Evl
section
variable {P : Program} {w : World} {K : PySem.W.Frag} {mg : Str → Option Value} {base : Heap} {t : Adr}
/-! _least -/
def spLeast (K : PySem.W.Frag) : Sp := fun vs H Q _ => ∃ (a p : Addr) (kvs : List (List Key × V)) (ws : List Nat) (f l d : Nat), vs = [.ref a, .ref p, .int (f : Int), .int (l : Int), .int (d : Int)] ∧ SqL K H a (natsV ws) ∧ H p = some (.dT kvs) ∧ (0 < d → TabUp kvs ws (d - 1)) ∧
  f < l ∧ l ≤ ws.length ∧ ws.length ≤ 24 ∧ d ≤ 12 ∧ RetV (oV (val ws d f l)) H Q
theorem cutV_run {ws : List Nat} {f l : Nat} (h : l ≤ ws.length) (hf : f ≤ l) : cutV (natsV ws) (some (f : Int)) (some (l : Int)) = natsV ((ws.take l).drop f) := by
  unfold cutV
  rw [show HT.sIx (natsV ws).length 0 (some (f : Int)) = min f (natsV ws).length from HT.sIx_nat _ 0 f, show HT.sIx (natsV ws).length (natsV ws).length (some (l : Int)) = min l (natsV ws).length from HT.sIx_nat _ _ l, natsV_len, Nat.min_eq_left h, Nat.min_eq_left (Nat.le_trans hf h)]
  unfold natsV
  rw [List.map_drop, List.map_take, List.drop_take]
theorem sum_nats (ns : List Nat) : (ns.map fun (n : Nat) => (n : Int)).sum = ((ns.sum : Nat) : Int) := by
  induction ns with
  | nil => rfl
  | cons a r ih => rw [List.map_cons, List.sum_cons, ih, List.sum_cons, Int.natCast_add]
theorem ok_u_least (T : Top K mg t) : FnOk P w K mg base CX0 3 t.f_u_least t.d_u_least ["weights", "table", "first", "last", "depth"] (spLeast K) := by
  refine T.u_least.F.ok sc_u_least (fun vs H Q E h => ?_) (fun cdv A outer s H vs Q E hr h => ?_)
  · obtain ⟨a, p, kvs, ws, f, l, d, rfl, _⟩ := h
    rfl
  · obtain ⟨a, p, kvs, ws, f, l, d, rfl, hS, hp, hk, hf, hl, hn, hd, q⟩ := h
    refine ⟨_, (pss_cons (ps_if (pt_cmpR op_eq (pe_op op_sub (pv 3) (pv 2)) pe_int (nomark _)) (pss_one (ps_ret pe_int)) pss_nil)
      (pss_cons (ps_if (pt_cmpR op_gt (pe_op op_sub (pv 3) (pv 2)) (pe_op op_shl pe_int (pv 4)) (nomark _)) (pss_one (ps_ret pe_non)) pss_nil)
      (pss_cons (ps_asg (pe_call (ok_u_best_part T) (hr.mono (by decide)) (by rfl) T.u_best_part.g T.u_best_part.F.kp T.u_best_part.b .nil pass0 (pa_cons (pv 1) (pa_cons (pv 2) (pa_cons (pv 3) (pa_cons (pe_op op_sub (pv 4) pe_int) pa_nil))))) (pg_tup rfl (pgs_cons (pg_name (i := 5) sc_u_least.nd rfl (.inl rfl)) (pgs_cons (pg_name (i := 6) sc_u_least.nd rfl (.inl rfl)) pgs_nil))))
      (pss_one (ps_ret (pe_op op_add (pe_callB (r := rSum K) (cr_sum rfl) (by rfl) T.b.b_sum (by decide +kernel) (pa_cons (pe_slice (r := rSlL K) sl_list (pv 0) (po_some (pv 2)) (po_some (pv 3))) pa_nil)) (pv 5))))))), ?_⟩
    refine q_when (et_test (ev_op (ev_op (ev_var rfl) (ev_var rfl) rv_I0) ev_c (rv_eq rfl))) (fun hb H1 e1 => ?_) fun hb H1 e1 => ?_
    · have h1 : (l : Int) - (f : Int) = 1 := V.int.inj (of_decide_eq_true hb)
      refine s_ret ev_c fun H2 e2 => ?_
      have z := q H2 (e1.trans e2)
      rw [val_one ws (by omega) d] at z
      exact z
    · have h1 : ¬ l ≤ f + 1 := fun z => (of_decide_eq_false hb) (congrArg V.int (by omega))
      have pw : (1 : Int) * 2 ^ ((d : Int)).toNat = ((2 ^ d : Nat) : Int) := by rw [Int.one_mul, Int.toNat_natCast, pow_int]
      refine q_when (et_test (ev_op (ev_op (ev_var rfl) (ev_var rfl) rv_I0) (ev_op ev_c (ev_var rfl) (rv_I ⟨by omega, by omega, by decide⟩)) rv_I0)) (fun hb2 H2 e2 => ?_) fun hb2 H2 e2 => ?_
      · have h2 := of_decide_eq_true hb2
        rw [pw] at h2
        refine s_ret ev_c fun H3 e3 => ?_
        have z := q H3 ((e1.trans e2).trans e3)
        have vn : val ws d f l = none := by
          cases e : val ws d f l with
          | none => rfl
          | some v =>
            have := (val_some ws d f l hf).mp ⟨v, e⟩
            omega
        rw [vn] at z
        exact z
      · have h2 := of_decide_eq_false hb2
        rw [pw] at h2
        obtain ⟨v, hv⟩ := (val_some ws d f l hf).mpr (by omega)
        have hd0 : 0 < d := by
          refine Nat.pos_of_ne_zero fun z => ?_
          rw [z, Nat.pow_zero] at h2
          omega
        obtain ⟨e, rfl⟩ : ∃ e, d = e + 1 := ⟨d - 1, by omega⟩
        have hv' := hv
        rw [val_more ws h1] at hv'
        obtain ⟨c, hc, rfl⟩ := Option.map_eq_some_iff.mp hv'
        have e12 := e1.trans e2
        have ee : (((e + 1 : Nat) : Int) - 1) = (e : Int) := by omega
        refine q_callG (ea_cons (ev_var rfl) (ea_cons (ev_var rfl) (ea_cons (ev_var rfl) (ea_cons (ev_is (ev_op (ev_var rfl) ev_c rv_I0) (congrArg V.int ee)) ea_nil)))) fun H3 e3 => ⟨p, kvs, ws, f, l, e, c, rfl, (e12.trans e3) _ _ hp, hk hd0, by omega, hl, hn, by omega, hc, fun t H4 e4 h4 => ?_⟩
        refine ⟨t, _, rfl, st_of h4, rfl, _, _, rfl, _, _, rfl, rfl, ?_⟩
        have e14 := (e12.trans e3).trans e4
        refine s_ret (ev_op (ev_sum (ns := (((ws.take l).drop f).map fun (n : Nat) => (n : Int))) ?_) (ev_var rfl) rv_I0) fun H5 e5 => ?_
        · have c := el_sl (K := K) (σ := [some (V.ref a), some (V.ref p), some (V.int (f : Int)), some (V.int (l : Int)), some (V.int ((e + 1 : Nat) : Int)), some (V.int (c : Int)), some (V.int (mid ws e f l : Int))]) (H := H4) (te := tVar 0) (ev_var rfl) (eo_some (ev_var (i := 2) (v := .int (f : Int)) rfl)) (eo_some (ev_var (i := 3) (v := .int (l : Int)) rfl)) (ex_l e14 hS)
          rw [cutV_run hl (by omega), natsV_ints] at c
          exact c
        · have z := q H5 (e14.trans e5)
          rw [hv] at z
          rw [sum_nats]
          have z' : Q (.int ((sumR ws f l + c : Nat) : Int)) H5 := z
          rw [Int.natCast_add] at z'
          exact z'
end
end Sl
namespace Sl
open PySem PySem.Spec PyProof.Rows L2 Evl
section
variable {P : Program} {w : World} {K : PySem.W.Frag} {mg : Str → Option Value} {base : Heap} {t : Adr}
/-! least_table -/
/-- just the told keys, and what they tell -/
def TabFull (kvs : List (List Key × V)) (ws : List Nat) (b : Nat) : Prop := 2 * kvs.length = (b + 1) * (ws.length * (ws.length + 1)) ∧ TabUp kvs ws b
def RetTab (ws : List Nat) (b : Nat) (H : Hp) (Q : VK) : Prop := ∀ p kvs H2, H p = none → Ex H H2 → H2 p = some (.dT kvs) → TabFull kvs ws b → Q (.ref p) H2
def spTable (K : PySem.W.Frag) (CN CW CB CR : Addr) : Sp := fun vs H Q E => ∃ (a : Addr) (xs : List V) (x : V), vs = [.ref a, x] ∧ SqL K H a xs ∧ (∀ x ∈ xs, Thing H x) ∧ Thing H x ∧
  (∀ (ws : List Nat) (b : Nat), xs = natsV ws → x = .int (b : Int) → 1 ≤ b → b ≤ 12 → ws.length ≤ 24 → (∀ v ∈ ws, v ≤ 1000000000000) → ws.length ≤ 2 ^ b → RetTab ws b H Q) ∧
  (24 < xs.length → ∀ H1, Ex H H1 → E (.ref CN) none H1) ∧ (xs.length ≤ 24 → xs.all (within 0 1000000000000) = false → ∀ H1, Ex H H1 → E (.ref CW) none H1) ∧ (okWeights xs = true → within 1 12 x = false → ∀ H1, Ex H H1 → E (.ref CB) none H1) ∧
  (∀ b : Int, okWeights xs = true → x = .int b → 1 ≤ b → b ≤ 12 → (2 : Int) ^ b.toNat < (xs.length : Int) → ∀ H1, Ex H H1 → E (.ref CR) none H1)
/-- how many runs begin below f -/
def runsB (n : Nat) : Nat → Nat
  | 0 => 0
  | f + 1 => runsB n f + (n - f)
theorem runsB_all (n : Nat) : ∀ f, f ≤ n → 2 * runsB n f + (n - f) * (n - f + 1) = n * (n + 1)
  | 0, _ => by show 2 * 0 + _ = _; simp
  | f + 1, h => by
    have ih := runsB_all n f (by omega)
    show 2 * (runsB n f + (n - f)) + _ = _
    obtain ⟨k, hk⟩ : ∃ k, n - f = k + 1 := ⟨n - f - 1, by omega⟩
    rw [hk] at ih ⊢
    rw [show n - (f + 1) = k by omega]
    have e1 : (k + 1) * (k + 1 + 1) = k * (k + 1) + 2 * (k + 1) := by
      rw [Nat.mul_comm (k + 1) (k + 1 + 1), show k + 1 + 1 = k + 2 by rfl, Nat.add_mul]
    omega
/-- what is told when the depths below d, of d the runs that begin below f, and those from f to below l, are done -/
def doneT (d f l d' f' l' : Nat) : Prop := d' < d ∨ (d' = d ∧ (f' < f ∨ (f' = f ∧ l' < l)))
def TabTo (kvs : List (List Key × V)) (ws : List Nat) (d f l : Nat) : Prop := (∀ d' f' l', f' < l' → l' ≤ ws.length → doneT d f l d' f' l' → valV kvs (key3 f' l' d') = some (oV (val ws d' f' l'))) ∧
  (∀ d' f' l', ¬ doneT d f l d' f' l' → valV kvs (key3 f' l' d') = none)
theorem TabTo.nil (ws : List Nat) : TabTo [] ws 0 0 0 := ⟨fun d' f' l' _ _ h => by unfold doneT at h; omega, fun d' f' l' _ => rfl⟩
theorem TabTo.inner {kvs : List (List Key × V)} {ws : List Nat} {d f : Nat} (h : TabTo kvs ws d f 0) : TabTo kvs ws d f (f + 1) :=
  ⟨fun d' f' l' h1 h2 h3 => h.1 d' f' l' h1 h2 (by unfold doneT at *; omega), fun d' f' l' h3 => h.2 d' f' l' (by unfold doneT at *; omega)⟩
theorem TabTo.mid {kvs : List (List Key × V)} {ws : List Nat} {d f : Nat} (h : TabTo kvs ws d f (ws.length + 1)) : TabTo kvs ws d (f + 1) 0 :=
  ⟨fun d' f' l' h1 h2 h3 => h.1 d' f' l' h1 h2 (by unfold doneT at *; omega), fun d' f' l' h3 => h.2 d' f' l' (by unfold doneT at *; omega)⟩
theorem TabTo.outer {kvs : List (List Key × V)} {ws : List Nat} {d : Nat} (h : TabTo kvs ws d ws.length 0) : TabTo kvs ws (d + 1) 0 0 :=
  ⟨fun d' f' l' h1 h2 h3 => h.1 d' f' l' h1 h2 (by unfold doneT at *; omega), fun d' f' l' h3 => h.2 d' f' l' (by unfold doneT at *; omega)⟩
theorem TabTo.put {kvs : List (List Key × V)} {ws : List Nat} {d f l : Nat} (h : TabTo kvs ws d f l) : TabTo (putK kvs (key3 f l d) (oV (val ws d f l))) ws d f (l + 1) ∧ (putK kvs (key3 f l d) (oV (val ws d f l))).length = kvs.length + 1 := by
  have nn : valV kvs (key3 f l d) = none := h.2 d f l (by unfold doneT; omega)
  refine ⟨⟨fun d' f' l' h1 h2 h3 => ?_, fun d' f' l' h3 => ?_⟩, by rw [putK_new _ nn, List.length_append]; rfl⟩
  · rw [valV_put]
    by_cases e : key3 f' l' d' = key3 f l d
    · obtain ⟨rfl, rfl, rfl⟩ := key3_inj e
      rw [if_pos rfl]
    · rw [if_neg e]
      refine h.1 d' f' l' h1 h2 ?_
      have : ¬ (f' = f ∧ l' = l ∧ d' = d) := fun z => e (by rw [z.1, z.2.1, z.2.2])
      unfold doneT at *
      omega
  · rw [valV_put]
    by_cases e : key3 f' l' d' = key3 f l d
    · obtain ⟨rfl, rfl, rfl⟩ := key3_inj e
      exact absurd (by unfold doneT; omega) h3
    · rw [if_neg e]
      exact h.2 d' f' l' (by unfold doneT at *; omega)
theorem ok_least_table (T : Top K mg t) : FnOk P w K mg base (L2.CX P w) 6 t.f_least_table t.d_least_table ["weights", "bound"] (spTable K t.C_NoWeights t.C_BadWeight t.C_BadBound t.C_NoRoom) := by
  refine T.least_table.F.okX sc_least_table (fun vs H Q E h => ?_) (fun cdv A outer s H vs Q E hr h => ?_)
  · obtain ⟨a, xs, x, rfl, _⟩ := h
    rfl
  · obtain ⟨a, xs, x, rfl, hS, hT, hx, q, rn, rw_, rb, rr⟩ := h
    refine ⟨_, (pss_cons (ps_expr (pe_call (ok_check_room T) (hr.mono (by decide)) (by rfl) T.check_room.g T.check_room.F.kp T.check_room.b .nil (passes_call (takes_of rfl rfl rfl rfl) fun _ _ _ _ h => h) (pa_cons (pv 0) (pa_cons (pv 1) pa_nil))))
      (pss_cons (ps_set (i := 2) sc_least_table.nd rfl (.inl rfl) pe_dnewT)
      (pss_cons (ps_set (i := 3) sc_least_table.nd rfl (.inl rfl) (pe_callB (r := rLenS K) call_len_seq (by rfl) T.b.b_len (by decide +kernel) (pa_cons (pv 0) pa_nil)))
      (pss_cons (ps_for (passes_of rfl) rfl (pi_range1 (by rfl) T.b.b_range (pa_cons (pe_op op_add (pv 1) pe_int) pa_nil)) (pg_name (i := 4) sc_least_table.nd rfl (.inl rfl)) (pss_one (ps_for (passes_of rfl) rfl (pi_range1 (by rfl) T.b.b_range (pa_cons (pv 3) pa_nil)) (pg_name (i := 5) sc_least_table.nd rfl (.inl rfl)) (pss_one (ps_for (passes_of rfl) rfl (pi_range2 (by rfl) T.b.b_range (pa_cons (pe_op op_add (pv 5) pe_int) (pa_cons (pe_op op_add (pv 3) pe_int) pa_nil))) (pg_name (i := 6) sc_least_table.nd rfl (.inl rfl)) (pss_one (ps_dput (hu_of hr) (pv 2) (pe_tup (pa_cons (pv 5) (pa_cons (pv 6) (pa_cons (pv 4) pa_nil)))) (pe_call (ok_u_least T) (hr.mono (by decide)) (by rfl) T.u_least.g T.u_least.F.kp T.u_least.b .nil pass0 (pa_cons (pv 0) (pa_cons (pv 2) (pa_cons (pv 5) (pa_cons (pv 6) (pa_cons (pv 4) pa_nil)))))) rfl)))))))
      (pss_one (ps_ret (pv 2))))))), ?_⟩
    refine ⟨.ref a, rfl, x, rfl, a, xs, x, rfl, hS, hT, hx, fun bi hk hxb b1 b2 hroom H1 e1 => ?_, rn, rw_, rb, rr⟩
    subst hxb
    obtain ⟨ws, rfl, hn, hw⟩ := okWeights_nats hk
    obtain ⟨b, rfl⟩ : ∃ b : Nat, bi = (b : Int) := ⟨bi.toNat, by omega⟩
    rw [natsV_len, Int.toNat_natCast, pow_int] at hroom
    have q := q ws b rfl rfl (by omega) (by omega) hn hw (by omega)
    have hR := runsB_all ws.length ws.length (Nat.le_refl _)
    have hR2 : 2 * runsB ws.length ws.length = ws.length * (ws.length + 1) := by simpa using hR
    have hRle : runsB ws.length ws.length ≤ 300 := by
      have : ws.length * (ws.length + 1) ≤ 24 * 25 := Nat.mul_le_mul hn (by omega)
      omega
    have rle : ∀ f, f ≤ ws.length → runsB ws.length f ≤ 300 := fun f hf => by
      have := runsB_all ws.length f hf
      have : ws.length * (ws.length + 1) ≤ 24 * 25 := Nat.mul_le_mul hn (by omega)
      omega
    have hS1 := ex_l e1 hS
    show tSeq (tAsg tDNewT (gName 2)) _ _ _ H1
    refine fun pt hpt => ?_
    have e2 : Ex H1 (upd H1 pt (.dT [])) := Ex.new hpt
    have hp0 : H pt = none := fresh_back e1 hpt
    show tSeq (tAsg (tCB (rLenS K) (tCons (tVar 0) tNil)) (gName 3)) _ _ [some (V.ref a), some (V.int (b : Int)), some (V.ref pt), none, none, none, none] (upd H1 pt (.dT []))
    refine q_asg (ev_is (ev_len (ev_var rfl) (ex_l e2 hS1)) (by rw [natsV_len])) fun H3 e3 => ?_
    refine q_forR1 (n := (b : Int) + 1) (ea_cons (ev_op (ev_var rfl) ev_c rv_I0) ea_nil) ⟨by omega, by omega⟩
      (fun d σ' H' => Ex H H' ∧ ∃ kvs v4 v5 v6, H' pt = some (.dT kvs) ∧ kvs.length = d * runsB ws.length ws.length ∧ TabTo kvs ws d 0 0 ∧ σ' = [some (V.ref a), some (V.int (b : Int)), some (V.ref pt), some (V.int (ws.length : Int)), v4, v5, v6])
      (fun H4 e4 => ⟨(e1.trans e2).trans (e3.trans e4), [], none, none, none, (e3.trans e4) _ _ upd_same, by simp, TabTo.nil ws, rfl⟩) (fun d σ' H' hd hP => ?_) fun σ' H' hP => ?_
    · obtain ⟨e4, kvs, v4, v5, v6, hp, hlen, hto, rfl⟩ := hP
      have hdR : d * runsB ws.length ws.length ≤ 12 * 300 := Nat.mul_le_mul (by omega) hRle
      refine s_forR1 (n := (ws.length : Int)) (ea_cons (ev_var rfl) ea_nil) ⟨by omega, by omega⟩
        (fun f σ' H' => Ex H H' ∧ ∃ kvs v5 v6, H' pt = some (.dT kvs) ∧ kvs.length = d * runsB ws.length ws.length + runsB ws.length f ∧ TabTo kvs ws d f 0 ∧ σ' = [some (V.ref a), some (V.int (b : Int)), some (V.ref pt), some (V.int (ws.length : Int)), some (V.int (d : Int)), v5, v6])
        (fun H5 e5 => ⟨e4.trans e5, kvs, v5, v6, e5 _ _ hp, hlen, hto, rfl⟩) (fun f σ' H' hf hP => ?_) fun σ' H' hP => ?_
      · obtain ⟨e5, kvs, v5, v6, hp, hlen, hto, rfl⟩ := hP
        have hrf := rle f (by omega)
        refine s_forR2 (lo := (f : Int) + 1) (n := (ws.length : Int) + 1) (ea_cons (ev_op (ev_var rfl) ev_c rv_I0) (ea_cons (ev_op (ev_var rfl) ev_c rv_I0) ea_nil)) ⟨by omega, by omega, by omega, by omega⟩
          (fun i σ' H' => Ex H H' ∧ ∃ kvs v6, H' pt = some (.dT kvs) ∧ kvs.length = d * runsB ws.length ws.length + runsB ws.length f + i ∧ TabTo kvs ws d f (f + 1 + i) ∧ σ' = [some (V.ref a), some (V.int (b : Int)), some (V.ref pt), some (V.int (ws.length : Int)), some (V.int (d : Int)), some (V.int (f : Int)), v6])
          (fun H6 e6 => ⟨e5.trans e6, kvs, v6, e6 _ _ hp, hlen, hto.inner, rfl⟩) (fun i σ' H' hi hP => ?_) fun σ' H' hP => ?_
        · obtain ⟨e6, kvs, v6, hp, hlen, hto, rfl⟩ := hP
          have hl : (f : Int) + 1 + (i : Int) = ((f + 1 + i : Nat) : Int) := by omega
          rw [hl]
          refine s_dput (k := key3 f (f + 1 + i) d) (v := oV (val ws d f (f + 1 + i))) hp (ev_call (ea_cons (ev_var rfl) (ea_cons (ev_var rfl) (ea_cons (ev_var rfl) (ea_cons (ev_var rfl) (ea_cons (ev_var rfl) ea_nil))))) fun H7 e7 Q' q' E' => ?_) (ev_var rfl)
            (eu_tup (ea_cons (ev_var rfl) (ea_cons (ev_var rfl) (ea_cons (ev_var rfl) ea_nil))) (by show 3 ≤ 100000; decide)) (by omega) fun H7 e7 => ?_
          · exact ⟨a, pt, kvs, ws, f, f + 1 + i, d, rfl, ex_l (e6.trans e7) hS, e7 _ _ hp, fun h0 f' l' e' h1 h2 h3 => hto.1 e' f' l' h1 h2 (by unfold doneT; omega), by omega, by omega, hn, by omega, q'⟩
          · obtain ⟨t1, t2⟩ := hto.put
            exact ⟨Ex.mut (e6.trans e7) hp0, _, _, upd_same, by rw [t2, hlen]; omega, t1, rfl⟩
        · obtain ⟨e6, kvs, v6, hp, hlen, hto, rfl⟩ := hP
          have en : (((ws.length : Int) + 1) - ((f : Int) + 1)).toNat = ws.length - f := by omega
          rw [en] at hlen hto
          rw [show f + 1 + (ws.length - f) = ws.length + 1 by omega] at hto
          exact ⟨e6, kvs, _, _, hp, by rw [hlen, Nat.add_assoc]; rfl, hto.mid, rfl⟩
      · obtain ⟨e5, kvs, v5, v6, hp, hlen, hto, rfl⟩ := hP
        rw [Int.toNat_natCast] at hlen hto
        exact ⟨e5, kvs, _, _, _, hp, by rw [hlen, Nat.add_mul, Nat.one_mul], hto.outer, rfl⟩
    · obtain ⟨e4, kvs, v4, v5, v6, hp, hlen, hto, rfl⟩ := hP
      rw [show ((b : Int) + 1).toNat = b + 1 by omega] at hlen hto
      refine s_ret (ev_var rfl) fun H5 e5 => q pt kvs H5 hp0 (e4.trans e5) (e5 _ _ hp) ⟨?_, fun f l e h1 h2 h3 => hto.1 e f l h1 h2 (by unfold doneT; omega)⟩
      rw [hlen, ← hR2, ← Nat.mul_assoc, ← Nat.mul_assoc, Nat.mul_comm 2 (b + 1)]
end
end Sl
namespace Sl
open PySem PySem.Spec PyProof.Rows L2 Evl
section
variable {P : Program} {w : World} {K : PySem.W.Frag} {mg : Str → Option Value} {base : Heap} {t : Adr}
/-! _run_lengths -/
def spRun (d : Nat) : Sp := fun vs H Q _ => ∃ (p : Addr) (kvs : List (List Key × V)) (ws : List Nat) (f l v : Nat), vs = [.ref p, .int (f : Int), .int (l : Int), .int (d : Int)] ∧ H p = some (.dT kvs) ∧ TabUp kvs ws d ∧ f < l ∧ l ≤ ws.length ∧ ws.length ≤ 24 ∧ d ≤ 12 ∧
  val ws d f l = some v ∧ RetL (natsV (cut ws d f l)) H Q
theorem cut_one (ws : List Nat) (d : Nat) {f l : Nat} (h : f < l) (q : l ≤ f + 1) : cut ws d f l = [0] := by
  have e : l - f = 1 := by omega
  cases d with
  | zero => show List.replicate (l - f) 0 = [0]; rw [e]; rfl
  | succ d => show (if l ≤ f + 1 then List.replicate (l - f) 0 else _) = [0]; rw [if_pos q, e]; rfl
theorem ok_u_run_lengths (T : Top K mg t) : ∀ d : Nat, FnOk P w K mg base CX0 (3 + d) t.f_u_run_lengths t.d_u_run_lengths ["table", "first", "last", "depth"] (spRun d)
  | 0 => by
    refine T.u_run_lengths.F.ok sc_u_run_lengths (fun vs H Q E h => ?_) (fun cdv A outer s H vs Q E hr h => ?_)
    · obtain ⟨p, kvs, ws, f, l, v, rfl, _⟩ := h
      rfl
    · obtain ⟨p, kvs, ws, f, l, v, rfl, hp, hk, hf, hl, hn, hd, hv, q⟩ := h
      have h1 : l ≤ f + 1 := by
        have := (val_some ws 0 f l hf).mp ⟨v, hv⟩
        rw [Nat.pow_zero] at this
        omega
      refine ⟨_, pss_cons (ps_if (pt_cmpR op_eq (pe_op op_sub (pv 2) (pv 1)) pe_int (nomark _)) (pss_one (ps_ret (pe_lst (pa_cons pe_int pa_nil)))) pss_nil) pss_never, ?_⟩
      have eq1 : (l : Int) - (f : Int) = 1 := by omega
      refine q_when (et_test (ev_op (ev_op (ev_var rfl) (ev_var rfl) rv_I0) ev_c (rv_eq rfl))) (fun hb H1 e1 => ?_) fun hb _ _ => absurd (congrArg V.int eq1) (of_decide_eq_false hb)
      rw [cut_one ws 0 hf h1] at q
      exact s_retL (el_lst (ea_cons ev_c ea_nil) (by decide)) fun pn H2 hn e2 h2 => q pn H2 (fresh_back e1 hn) (e1.trans e2) h2
  | d + 1 => by
    have ih := ok_u_run_lengths T d
    refine T.u_run_lengths.F.ok (k := 3 + d) sc_u_run_lengths (fun vs H Q E h => ?_) (fun cdv A outer s H vs Q E hr h => ?_)
    · obtain ⟨p, kvs, ws, f, l, v, rfl, _⟩ := h
      rfl
    · obtain ⟨p, kvs, ws, f, l, v, rfl, hp, hk, hf, hl, hn, hd, hv, q⟩ := h
      refine ⟨_, (pss_cons (ps_if (pt_cmpR op_eq (pe_op op_sub (pv 2) (pv 1)) pe_int (nomark _)) (pss_one (ps_ret (pe_lst (pa_cons pe_int pa_nil)))) pss_nil)
      (pss_cons (ps_asg (pe_call (ok_u_best_part T) (hr.mono (by omega)) (by rfl) T.u_best_part.g T.u_best_part.F.kp T.u_best_part.b .nil pass0 (pa_cons (pv 0) (pa_cons (pv 1) (pa_cons (pv 2) (pa_cons (pe_op op_sub (pv 3) pe_int) pa_nil))))) (pg_tup rfl (pgs_cons (pg_name (i := 4) sc_u_run_lengths.nd rfl (.inl rfl)) (pgs_cons (pg_name (i := 5) sc_u_run_lengths.nd rfl (.inl rfl)) pgs_nil))))
      (pss_cons (ps_set (i := 6) sc_u_run_lengths.nd rfl (.inl rfl) (pe_call ih (hr.mono (by omega)) (by rfl) T.u_run_lengths.g T.u_run_lengths.F.kp T.u_run_lengths.b .nil pass0 (pa_cons (pv 0) (pa_cons (pv 1) (pa_cons (pv 5) (pa_cons (pe_op op_sub (pv 3) pe_int) pa_nil))))))
      (pss_cons (ps_set (i := 7) sc_u_run_lengths.nd rfl (.inl rfl) (pe_call ih (hr.mono (by omega)) (by rfl) T.u_run_lengths.g T.u_run_lengths.F.kp T.u_run_lengths.b .nil pass0 (pa_cons (pv 0) (pa_cons (pv 5) (pa_cons (pv 2) (pa_cons (pe_op op_sub (pv 3) pe_int) pa_nil))))))
      (pss_one (ps_ret (pe_lc (own := [("length", 8)]) (g := gName 8) (tt := tYes) rfl sc_u_run_lengths.nd (pi_list (pe_op op_cat (pv 6) (pv 7))) (blkOk_by (own := [("length", 8)]) (N := N_u_run_lengths) (sc := defScope s_u_run_lengths) (by decide +kernel)) (fun _ _ _ _ _ => (pg_name (i := 8) sc_u_run_lengths.nd rfl (.inl rfl))) (fun _ _ _ _ _ => pts_nil) (fun _ _ _ _ _ => (pe_op op_add (pv 8) pe_int))))))))), ?_⟩
      refine q_when (et_test (ev_op (ev_op (ev_var rfl) (ev_var rfl) rv_I0) ev_c (rv_eq rfl))) (fun hb H1 e1 => ?_) fun hb H1 e1 => ?_
      · have h1 : (l : Int) - (f : Int) = 1 := V.int.inj (of_decide_eq_true hb)
        rw [cut_one ws (d + 1) hf (by omega)] at q
        exact s_retL (el_lst (ea_cons ev_c ea_nil) (by decide)) fun pn H2 hn e2 h2 => q pn H2 (fresh_back e1 hn) (e1.trans e2) h2
      have h1 : ¬ l ≤ f + 1 := fun z => (of_decide_eq_false hb) (congrArg V.int (by omega))
      have hv' := hv
      rw [val_more ws h1] at hv'
      obtain ⟨c, hc, _⟩ := Option.map_eq_some_iff.mp hv'
      obtain ⟨x, y, m1, m2, vx, vy, _⟩ := mid_of h1 hv
      have ee : (((d + 1 : Nat) : Int) - 1) = (d : Int) := by omega
      have kd := hk.less (Nat.le_succ d)
      refine q_callG (ea_cons (ev_var rfl) (ea_cons (ev_var rfl) (ea_cons (ev_var rfl) (ea_cons (ev_is (ev_op (ev_var rfl) ev_c rv_I0) (congrArg V.int ee)) ea_nil)))) fun H3 e3 => ⟨p, kvs, ws, f, l, d, c, rfl, (e1.trans e3) _ _ hp, kd, by omega, hl, hn, by omega, hc, fun t H4 e4 h4 => ?_⟩
      refine ⟨t, _, rfl, st_of h4, rfl, _, _, rfl, _, _, rfl, rfl, ?_⟩
      have e14 := (e1.trans e3).trans e4
      generalize hm : mid ws d f l = m at *
      refine q_call (ea_cons (ev_var rfl) (ea_cons (ev_var rfl) (ea_cons (ev_var rfl) (ea_cons (ev_is (ev_op (ev_var rfl) ev_c rv_I0) (congrArg V.int ee)) ea_nil)))) fun H5 e5 => ⟨p, kvs, ws, f, m, x, rfl, (e14.trans e5) _ _ hp, kd, m1, by omega, hn, by omega, vx, fun pa H6 npa e6 h6 => ?_⟩
      have e16 := (e14.trans e5).trans e6
      refine q_call (ea_cons (ev_var rfl) (ea_cons (ev_var rfl) (ea_cons (ev_var rfl) (ea_cons (ev_is (ev_op (ev_var rfl) ev_c rv_I0) (congrArg V.int ee)) ea_nil)))) fun H7 e7 => ⟨p, kvs, ws, m, l, y, rfl, (e16.trans e7) _ _ hp, kd, m2, hl, hn, by omega, vy, fun pb H8 npb e8 h8 => ?_⟩
      have e18 := (e16.trans e7).trans e8
      have h6' := (e7.trans e8) _ _ h6
      have la : (cut ws d f m).length = m - f := (cut_all ws d f m x m1 vx).1
      have lb : (cut ws d m l).length = l - m := (cut_all ws d m l y m2 vy).1
      have cc := el_lcNL (σ := [some (V.ref p), some (V.int (f : Int)), some (V.int (l : Int)), some (V.int ((d + 1 : Nat) : Int)), some (V.int (c : Int)), some (V.int (m : Int)), some (V.ref pa), some (V.ref pb), none]) (H := H8) (K := K) (j := 8) (vs := [8]) (t := tYes) (te := tOp (rI0 fun i j => .int (i + j)) (tVar 8) (tC (.int 1)))
        (tl := tOp rCat (tVar 6) (tVar 7)) (xs := natsV (cut ws d f m) ++ natsV (cut ws d m l)) (fun _ => true) (fun i => .int (((((cut ws d f m) ++ (cut ws d m l)).getD i 0 + 1 : Nat) : Int))) (el_cat2 (ev_var rfl) (ev_var rfl) h6' h8 (by rw [natsV_len, natsV_len]; omega))
        (by rw [List.length_append, natsV_len, natsV_len]; omega) (fun x => rfl) (fun i x H9 e9 hx => et_yes) (fun i z H9 e9 hx _ => by
          have hx' : (natsV (cut ws d f m ++ cut ws d m l))[i]? = some z := by unfold natsV at hx ⊢; rw [List.map_append]; exact hx
          unfold natsV at hx'
          rw [List.getElem?_map] at hx'
          obtain ⟨n, hn', rfl⟩ := Option.map_eq_some_iff.mp hx'
          rw [List.getD_eq_getElem?_getD, hn']
          exact ev_is (ev_op (ev_var rfl) ev_c rv_I0) (congrArg V.int (Int.natCast_add n 1).symm))
      rw [given_every] at cc
      have eqL : (List.range (natsV (cut ws d f m) ++ natsV (cut ws d m l)).length).map (fun i => V.int (((((cut ws d f m) ++ (cut ws d m l)).getD i 0 + 1 : Nat) : Int))) = natsV (cut ws (d + 1) f l) := by
        have : cut ws (d + 1) f l = (cut ws d f m ++ cut ws d m l).map (· + 1) := by
          show (if l ≤ f + 1 then _ else _) = _
          rw [if_neg h1, hm]
        rw [this]
        have ll : (natsV (cut ws d f m) ++ natsV (cut ws d m l)).length = (cut ws d f m ++ cut ws d m l).length := by rw [List.length_append, natsV_len, natsV_len, List.length_append]
        rw [ll]
        generalize cut ws d f m ++ cut ws d m l = L
        unfold natsV
        rw [List.map_map]
        refine List.ext_getElem? fun i => ?_
        rw [List.getElem?_map, List.getElem?_map]
        by_cases hi : i < L.length
        · rw [List.getElem?_range hi, List.getElem?_eq_getElem hi]
          show some (V.int ((L.getD i 0 + 1 : Nat) : Int)) = some (V.int ((L[i] + 1 : Nat) : Int))
          rw [List.getD_eq_getElem?_getD, List.getElem?_eq_getElem hi]
          rfl
        · rw [List.getElem?_eq_none (by simpa using hi), List.getElem?_eq_none (by simpa using hi)]
          rfl
      rw [eqL] at cc
      exact s_retL cc fun pn H9 hn e9 h9 => q pn H9 (fresh_back e18 hn) (e18.trans e9) h9
def spRunAny : Sp := fun vs H Q E => ∃ d, d ≤ 12 ∧ spRun d vs H Q E
theorem ok_u_run_lengths_any (T : Top K mg t) : FnOk P w K mg base CX0 15 t.f_u_run_lengths t.d_u_run_lengths ["table", "first", "last", "depth"] spRunAny := by
  refine ⟨fun vs H Q E h => ?_, fun A outer s H args us vs Q E hr e0 hb r h => ?_⟩
  · obtain ⟨d, _, h⟩ := h
    exact (ok_u_run_lengths (P := P) (w := w) (base := base) T d).len vs H Q E h
  · obtain ⟨d, hd, h⟩ := h
    exact (ok_u_run_lengths (P := P) (w := w) (base := base) T d).run A outer s H args us vs Q E (hr.mono (by omega)) e0 hb r h
end
end Sl
namespace Sl
open PySem PySem.Spec PyProof.Rows L2 Evl
section
variable {P : Program} {w : World} {K : PySem.W.Frag} {mg : Str → Option Value} {base : Heap} {t : Adr}
/-! ordered_lengths -/
def spOrdered (K : PySem.W.Frag) (CN CW CB CR : Addr) : Sp := fun vs H Q E => ∃ (a : Addr) (xs : List V) (x : V), vs = [.ref a, x] ∧ SqL K H a xs ∧ (∀ x ∈ xs, Thing H x) ∧ Thing H x ∧
  (∀ (ws : List Nat) (b : Nat), xs = natsV ws → x = .int (b : Int) → 1 ≤ b → b ≤ 12 → ws.length ≤ 24 → (∀ v ∈ ws, v ≤ 1000000000000) → ws.length ≤ 2 ^ b → RetL (natsV (ordLens ws b)) H Q) ∧
  (24 < xs.length → ∀ H1, Ex H H1 → E (.ref CN) none H1) ∧ (xs.length ≤ 24 → xs.all (within 0 1000000000000) = false → ∀ H1, Ex H H1 → E (.ref CW) none H1) ∧ (okWeights xs = true → within 1 12 x = false → ∀ H1, Ex H H1 → E (.ref CB) none H1) ∧
  (∀ b : Int, okWeights xs = true → x = .int b → 1 ≤ b → b ≤ 12 → (2 : Int) ^ b.toNat < (xs.length : Int) → ∀ H1, Ex H H1 → E (.ref CR) none H1)
theorem ok_ordered_lengths (T : Top K mg t) : FnOk P w K mg base (L2.CX P w) 16 t.f_ordered_lengths t.d_ordered_lengths ["weights", "bound"] (spOrdered K t.C_NoWeights t.C_BadWeight t.C_BadBound t.C_NoRoom) := by
  refine T.ordered_lengths.F.okX sc_ordered_lengths (fun vs H Q E h => ?_) (fun cdv A outer s H vs Q E hr h => ?_)
  · obtain ⟨a, xs, x, rfl, _⟩ := h
    rfl
  · obtain ⟨a, xs, x, rfl, hS, hT, hx, q, rn, rw_, rb, rr⟩ := h
    refine ⟨_, (pss_cons (ps_set (i := 2) sc_ordered_lengths.nd rfl (.inl rfl) (pe_call (ok_least_table T) (hr.mono (by decide)) (by rfl) T.least_table.g T.least_table.F.kp T.least_table.b .nil (passes_call (takes_of rfl rfl rfl rfl) fun _ _ _ _ h => h) (pa_cons (pv 0) (pa_cons (pv 1) pa_nil))))
      (pss_cons (ps_set (i := 3) sc_ordered_lengths.nd rfl (.inl rfl) (pe_callB (r := rLenS K) call_len_seq (by rfl) T.b.b_len (by decide +kernel) (pa_cons (pv 0) pa_nil)))
      (pss_cons (ps_if (pt_cmpR op_lt (pv 3) pe_int (nomark _)) (pss_one (ps_ret (pe_op op_rep (pe_lst (pa_cons pe_int pa_nil)) (pv 3)))) pss_nil)
      (pss_one (ps_ret (pe_call (ok_u_run_lengths_any T) (hr.mono (by decide)) (by rfl) T.u_run_lengths.g T.u_run_lengths.F.kp T.u_run_lengths.b .nil pass0 (pa_cons (pv 2) (pa_cons pe_int (pa_cons (pv 3) (pa_cons (pv 1) pa_nil)))))))))), ?_⟩
    refine q_call (ea_cons (ev_var rfl) (ea_cons (ev_var rfl) ea_nil)) fun H0 e0 => ⟨a, xs, x, rfl, ex_l e0 hS, fun y hy => (hT y hy).mono e0, hx.mono e0, fun ws b hxs hxb b1 b2 hn hw hroom p kvs H1 hp e1 h1 htab => ?_, fun z H1 e1 => rn z H1 (e0.trans e1), fun z1 z2 H1 e1 => rw_ z1 z2 H1 (e0.trans e1), fun z1 z2 H1 e1 => rb z1 z2 H1 (e0.trans e1), fun c z1 z2 z3 z4 z5 H1 e1 => rr c z1 z2 z3 z4 z5 H1 (e0.trans e1)⟩
    have hq := q ws b hxs hxb b1 b2 hn hw hroom
    subst hxs
    subst hxb
    have e01 := e0.trans e1
    refine q_asg (ev_is (ev_len (ev_var rfl) (ex_l e01 hS)) (by rw [natsV_len])) fun H2 e2 => ?_
    refine q_when (et_test (ev_op (ev_var rfl) ev_c rv_I0)) (fun hb H3 e3 => ?_) fun hb H3 e3 => ?_
    · have h2 : ws.length < 2 := by
        have := of_decide_eq_true hb
        omega
      refine s_retL (el_rep (n := ws.length) (el_lst (ea_cons ev_c ea_nil) (by decide)) (ev_var rfl) (by show 1 * _ ≤ 100000; omega) (by omega)) fun pn H4 hn4 e4 h4 => ?_
      refine hq pn H4 (fresh_back ((e01.trans e2).trans e3) hn4) (((e01.trans e2).trans e3).trans e4) ?_
      rw [h4, rep_one]
      unfold ordLens natsV
      rw [if_pos h2, List.map_replicate]
      rfl
    · have h2 : ¬ ws.length < 2 := fun z => (of_decide_eq_false hb) (by omega)
      obtain ⟨v, hv, _⟩ := ord_two (by omega) hroom
      refine s_retCall (ea_cons (ev_var rfl) (ea_cons ev_c (ea_cons (ev_var rfl) (ea_cons (ev_var rfl) ea_nil)))) fun H4 e4 => ?_
      have e34 := (e2.trans e3).trans e4
      refine ⟨b, b2, p, kvs, ws, 0, ws.length, v, rfl, e34 _ _ h1, htab.2, by omega, Nat.le_refl _, hn, b2, hv, fun pn H5 hn5 e5 h5 => ?_⟩
      refine hq pn H5 (fresh_back (e01.trans e34) hn5) ((e01.trans e34).trans e5) ?_
      rw [h5]
      unfold ordLens
      rw [if_neg h2]
end
end Sl
namespace Sl
open PySem PySem.Spec PyProof.Rows L2 Evl
section
variable {P : Program} {w : World} {K : PySem.W.Frag} {mg : Str → Option Value} {base : Heap} {t : Adr}
/-! _check_sum -/
def okSum (xs : List V) : Bool := okLens 1 12 xs && decide (sumOf 12 xs ≤ 4096)
def spCheckSum (K : PySem.W.Frag) (C : Addr) : Sp := fun vs H Q E => ∃ (a : Addr) (xs : List V), vs = [.ref a] ∧ SqL K H a xs ∧ (∀ x ∈ xs, Thing H x) ∧ (okSum xs = true → RetV .non H Q) ∧ (okSum xs = false → ∀ H1, Ex H H1 → E (.ref C) none H1)
theorem ok_u_check_sum (T : Top K mg t) : FnOk P w K mg base (L2.CX P w) 4 t.f_u_check_sum t.d_u_check_sum ["lengths"] (spCheckSum K t.C_BadLengths) := by
  refine T.u_check_sum.F.okX sc_u_check_sum (fun vs H Q E h => ?_) (fun cdv A outer s H vs Q E hr h => ?_)
  · obtain ⟨a, xs, rfl, _⟩ := h
    rfl
  · obtain ⟨a, xs, rfl, hS, hT, q, r⟩ := h
    refine ⟨_, (pss_one (ps_if (pt_cmpR op_gt (pe_call (ok_counted T) (hr.mono (by decide)) (by rfl) T.counted.g T.counted.F.kp T.counted.b .nil (passes_call (takes_of rfl rfl rfl rfl) fun _ _ _ _ h => h) (pa_cons (pv 0) (pa_cons (pe_glob (v := .int 12) rfl T.c_MOST_BITS.choose_spec.1 T.c_MOST_BITS.choose_spec.2) pa_nil))) (pe_call (ok_room T) (hr.mono (by decide)) (by rfl) T.room.g T.room.F.kp T.room.b .nil (passes_call (takes_of rfl rfl rfl rfl) fun _ _ _ _ h => h) (pa_cons (pe_glob (v := .int 12) rfl T.c_MOST_BITS.choose_spec.1 T.c_MOST_BITS.choose_spec.2) pa_nil)) (nomark _)) (pss_one (ps_raise rfl (takes_of rfl rfl rfl rfl) (SkE.pmk_own1 PySem.F.excBase_ValueError T.C_BadLengths.xC T.C_BadLengths.gC T.C_BadLengths.kC (raises_own T.C_BadLengths.bC T.C_BadLengths.tC) rfl pe_str))) pss_nil)), ?_⟩
    refine ⟨.ref a, rfl, a, xs, .int 12, rfl, hS, hT, .int 12, fun b hb _ _ hk H1 e1 => ?_, fun b hb _ _ hk H1 e1 => ?_, fun hf => absurd hf (by decide)⟩
    · cases hb
      refine (ev_call (σ := [some (V.ref a)]) (H := H1) (ea_cons (ev_c (v := .int 12)) ea_nil) (sv_room (by decide) (by decide))) H1 (Ex.refl _) _ fun H2 e2 => ?_
      refine ⟨_, _, rfl, rfl, _, rfl, ?_⟩
      have e12 := e1.trans e2
      refine ite2 (fun h => ?_) (fun h => ?_)
      · have h' : (4096 : Int) < sumOf 12 xs := of_decide_eq_true h
        refine r ?_ H2 e12
        unfold okSum
        rw [hk, decide_eq_false (by omega)]
        rfl
      · have h' : ¬ (4096 : Int) < sumOf 12 xs := fun z => h (decide_eq_true z)
        refine q ?_ H2 e12
        unfold okSum
        rw [hk, decide_eq_true (by omega)]
        rfl
    · cases hb
      refine r ?_ H1 e1
      unfold okSum
      rw [hk]
      rfl
end
end Sl
namespace Sl
open PySem PySem.Spec PyProof.Rows L2 Evl
section
variable {P : Program} {w : World} {K : PySem.W.Frag} {mg : Str → Option Value} {base : Heap} {t : Adr}
/-! _word_from -/
def spWordFrom : Sp := fun vs H Q _ => ∃ (p : Nat) (l : Int), vs = [.int (p : Int), .int l] ∧ p < 4096 ∧ 0 ≤ l ∧ l ≤ 12 ∧ RetV (.str (tx (word p l))) H Q
theorem sv_wordFrom {H : Hp} {p : Nat} {l : Int} (h : p < 4096) (h0 : 0 ≤ l) (h1 : l ≤ 12) : SpV spWordFrom ([.int (p : Int), .int l] ++ []) H (.str (tx (word p l))) := fun H1 e Q q E => ⟨p, l, rfl, h, h0, h1, q⟩
theorem ok_u_word_from (T : Top K mg t) : FnOk P w K mg base CX0 1 t.f_u_word_from t.d_u_word_from ["first", "length"] spWordFrom := by
  refine T.u_word_from.F.ok sc_u_word_from (fun vs H Q E h => ?_) (fun cdv A outer s H vs Q E hr h => ?_)
  · obtain ⟨p, l, rfl, _⟩ := h
    rfl
  · obtain ⟨p, l, rfl, hp, h0, h1, q⟩ := h
    refine ⟨_, (pss_one (ps_ret (pe_slice sl_str (pe_bm PySem.F.plainAttrs_str PySem.F.slot_str_zfill PySem.F.type_str_zfill mt_zfill (pe_joined1 (pe_fmtb (pv 0))) (pa_cons (pe_glob (v := .int 12) rfl T.c_MOST_BITS.choose_spec.1 T.c_MOST_BITS.choose_spec.2) pa_nil)) po_none (po_some (pv 1))))), ?_⟩
    obtain ⟨n, rfl⟩ := Int.eq_ofNat_of_zero_le h0
    have b := pad_bits 12 p (by decide) hp
    refine ⟨_, rfl, p, rfl, by omega, rfl, _, 12, rfl, rfl, rfl, _, rfl, _, rfl, _, rfl, ?_, ?_⟩
    · rw [zfill_bin hp, tx_len, bits_len]
      decide
    · rw [zfill_bin hp, cutS_to]
      exact q H (Ex.refl H)
end
end Sl
namespace Sl
open PySem PySem.Spec PyProof.Rows L2 Evl
section
variable {P : Program} {w : World} {K : PySem.W.Frag} {mg : Str → Option Value} {base : Heap} {t : Adr}
/-! words_by_lengths -/
--[nums
def numsOf : List V → List Int
  | [] => []
  | .int i :: r => i :: numsOf r
  | _ :: r => numsOf r
theorem numsOf_map (ls : List Int) : numsOf (ls.map V.int) = ls := by
  induction ls with
  | nil => rfl
  | cons a r ih => show a :: numsOf (r.map V.int) = _; rw [ih]
/-- a good list's numbers -/
theorem okLens_ints {b : Int} {xs : List V} (h : okLens 1 b xs = true) : ∃ ls : List Int, xs = ls.map V.int ∧ (∀ l ∈ ls, 1 ≤ l ∧ l ≤ b) ∧ ls.length ≤ 24 := by
  unfold okLens at h
  rw [Bool.and_eq_true] at h
  have hl := of_decide_eq_true h.1
  have ha := List.all_eq_true.mp h.2
  have gen : ∀ ys : List V, (∀ y ∈ ys, within 1 b y = true) → ∃ ls : List Int, ys = ls.map V.int ∧ ∀ l ∈ ls, 1 ≤ l ∧ l ≤ b := by
    intro ys
    induction ys with
    | nil => intro _; exact ⟨[], rfl, fun _ h => by cases h⟩
    | cons y r ih =>
      intro hy
      obtain ⟨i, rfl, h1, h2⟩ := within_int (hy y List.mem_cons_self)
      obtain ⟨ls, rfl, h3⟩ := ih fun z hz => hy z (List.mem_cons_of_mem _ hz)
      refine ⟨i :: ls, rfl, fun l hl => ?_⟩
      rcases List.mem_cons.mp hl with rfl | hl
      · exact ⟨h1, h2⟩
      · exact h3 l hl
  obtain ⟨ls, rfl, h3⟩ := gen xs ha
  exact ⟨ls, rfl, h3, by rw [List.length_map] at hl; exact hl⟩
theorem sumOf_sz (ls : List Int) : sumOf 12 (ls.map V.int) = (((ls.map sz).sum : Nat) : Int) := by
  unfold sumOf
  induction ls with
  | nil => rfl
  | cons a r ih =>
    rw [List.map_cons, List.map_cons, List.sum_cons, ih, List.map_cons, List.sum_cons, Int.natCast_add]
    congr 1
--]nums
def spByLengths (K : PySem.W.Frag) (C : Addr) : Sp := fun vs H Q E => ∃ (a : Addr) (xs : List V), vs = [.ref a] ∧ SqL K H a xs ∧ (∀ x ∈ xs, Thing H x) ∧
  (okSum xs = true → RetL ((byLen (numsOf xs)).map vtx) H Q) ∧ (okSum xs = false → ∀ H1, Ex H H1 → E (.ref C) none H1)
theorem rep_flat {α : Type} (n : Nat) (x : α) : (List.replicate n [x]).flatten = List.replicate n x := by
  induction n with
  | zero => rfl
  | succ n ih => rw [List.replicate_succ, List.flatten_cons, ih, List.replicate_succ]; rfl
theorem ok_words_by_lengths (T : Top K mg t) : FnOk P w K mg base (L2.CX P w) 5 t.f_words_by_lengths t.d_words_by_lengths ["lengths"] (spByLengths K t.C_BadLengths) := by
  refine T.words_by_lengths.F.okX sc_words_by_lengths (fun vs H Q E h => ?_) (fun cdv A outer s H vs Q E hr h => ?_)
  · obtain ⟨a, xs, rfl, _⟩ := h
    rfl
  · obtain ⟨a, xs, rfl, hS, hT, q, r⟩ := h
    refine ⟨_, (pss_cons (ps_expr (pe_call (ok_u_check_sum T) (hr.mono (by decide)) (by rfl) T.u_check_sum.g T.u_check_sum.F.kp T.u_check_sum.b .nil (passes_call (takes_of rfl rfl rfl rfl) fun _ _ _ _ h => h) (pa_cons (pv 0) pa_nil)))
      (pss_cons (ps_set (i := 1) sc_words_by_lengths.nd rfl (.inl rfl) (pe_op op_rep (pe_lst (pa_cons pe_str pa_nil)) (pe_callB (r := rLenS K) call_len_seq (by rfl) T.b.b_len (by decide +kernel) (pa_cons (pv 0) pa_nil))))
      (pss_cons (ps_set (i := 2) sc_words_by_lengths.nd rfl (.inl rfl) pe_int)
      (pss_cons (ps_for (passes_of rfl) rfl (pi_list (pe_callB cr_sortedPO (by rfl) T.b.b_sorted (by decide +kernel) (pa_cons (pe_lc (own := [("sign", 3), ("length", 4)]) (g := gTup K 2 (gCons (gName 3) (gCons (gName 4) gNil))) (tt := tYes) rfl sc_words_by_lengths.nd (pi_enum (by rfl) T.b.b_enumerate (pa_cons (pv 0) pa_nil)) (blkOk_by (own := [("sign", 3), ("length", 4)]) (N := N_words_by_lengths) (sc := defScope s_words_by_lengths) (by decide +kernel)) (fun _ _ _ _ _ => (pg_tup rfl (pgs_cons (pg_name (i := 3) sc_words_by_lengths.nd rfl (.inl rfl)) (pgs_cons (pg_name (i := 4) sc_words_by_lengths.nd rfl (.inl rfl)) pgs_nil)))) (fun _ _ _ _ _ => pts_nil) (fun _ _ _ _ _ => (pe_tup (pa_cons (pv 4) (pa_cons (pv 3) pa_nil))))) pa_nil))) (pg_tup rfl (pgs_cons (pg_name (i := 4) sc_words_by_lengths.nd rfl (.inl rfl)) (pgs_cons (pg_name (i := 3) sc_words_by_lengths.nd rfl (.inl rfl)) pgs_nil))) (pss_cons (ps_asg (pe_call (ok_u_word_from T) (hr.mono (by decide)) (by rfl) T.u_word_from.g T.u_word_from.F.kp T.u_word_from.b .nil pass0 (pa_cons (pv 2) (pa_cons (pv 4) pa_nil))) (pg_sub (pv 1) (pv 3) set_list))
      (pss_one (ps_aug (i := 2) sc_words_by_lengths.nd rfl (.inl rfl) (pe_call (ok_places T) (hr.mono (by decide)) (by rfl) T.places.g T.places.F.kp T.places.b .nil pass0 (pa_cons (pv 4) (pa_cons (pe_glob (v := .int 12) rfl T.c_MOST_BITS.choose_spec.1 T.c_MOST_BITS.choose_spec.2) pa_nil))) ip_add))))
      (pss_one (ps_ret (pv 1))))))), ?_⟩
    refine ⟨.ref a, rfl, a, xs, rfl, hS, hT, fun hk H1 e1 => ?_, r⟩
    have hk' := hk
    unfold okSum at hk'
    rw [Bool.and_eq_true] at hk'
    obtain ⟨ls, rfl, hls, hlen⟩ := okLens_ints hk'.1
    have hsum : (ls.map sz).sum ≤ 4096 := by
      have := of_decide_eq_true hk'.2
      rw [sumOf_sz] at this
      omega
    have q := q hk
    rw [numsOf_map] at q
    -- words = [''] * len(lengths)
    refine q_asgL (el_rep (n := ls.length) (el_lst (ea_cons ev_c ea_nil) (by decide)) (ev_is (ev_len (ev_var rfl) (ex_l e1 hS)) (by rw [List.length_map])) (by show 1 * ls.length ≤ 100000; omega) (by omega)) fun pw H2 hpw e2 h2 => ?_
    rw [rep_flat] at h2
    refine q_asg ev_c fun H3 e3 => ?_
    have e13 := (e1.trans e2).trans e3
    have h3 := e3 _ _ h2
    -- the sorted pairs
    have cE := ex_lcEnum (K := K) (σ := [some (V.ref a), some (V.ref pw), some (V.int 0), none, none]) (H := H3) (a := a) (xs := ls.map V.int) (s := 3) (l := 4) (vs := [3, 4]) (te := tTup (tCons (tVar 4) (tCons (tVar 3) tNil))) (ta := tCons (tVar 0) tNil)
      (fun i x => ((numsOf [x]).headD 0, (i : Int))) (ea_cons (ev_var rfl) ea_nil) (ex_l e13 hS) (by rw [List.length_map]; omega) (fun v w => rfl) (fun i x H4 e4 hx => by
        rw [List.getElem?_map] at hx
        obtain ⟨l, hl, rfl⟩ := Option.map_eq_some_iff.mp hx
        exact eu_tup (ea_cons (ev_var rfl) (ea_cons (ev_var rfl) ea_nil)) (by show 2 ≤ 100000; decide))
    have cS := ex_sortedP (K := K) (P := fun ps => ps = (pairs ls).map fun q => (q.1, (q.2 : Int))) cE fun ys H4 hy => by
      obtain ⟨qs, h1, h2, h3⟩ := hy
      refine ⟨qs, h1, ?_⟩
      rw [List.length_map] at h2
      refine List.ext_getElem? fun i => ?_
      unfold pairs
      rw [List.map_map, List.getElem?_map]
      by_cases hi : i < ls.length
      · rw [List.getElem?_range hi, h3 i (.int ls[i]) (by rw [List.getElem?_map, List.getElem?_eq_getElem hi]; rfl)]
        show some (ls[i], (i : Int)) = some (ls.getD i 0, (i : Int))
        rw [List.getD_eq_getElem?_getD, List.getElem?_eq_getElem hi]
        rfl
      · rw [List.getElem?_eq_none (by omega), List.getElem?_eq_none (by simpa using hi)]
        rfl
    refine q_forX cS (fun p zs i σ' H' => ∃ H4, Ex H3 H4 ∧ H3 p = none ∧ H4 p = some (.lst zs) ∧ Tups H4 zs ((lawSeq ls).map fun q => (q.1, (q.2 : Int))) ∧ ExB pw H4 H' ∧ H' pw = some (.lst ((runW (startW ls.length) ((lawSeq ls).take i)).1.map vtx)) ∧
      ∃ v3 v4, σ' = [some (V.ref a), some (V.ref pw), some (V.int (((runW (startW ls.length) ((lawSeq ls).take i)).2 : Nat) : Int)), v3, v4]) (fun p zs H4 hp e4 h4 hR => ?_) (fun p zs i σ' H' _ hP => ?_) (fun p zs i x σ' H' hx hP => ?_) fun p zs σ' H' hP => ?_
    · obtain ⟨qs, ps, ht, rfl, hpm, hsr⟩ := hR
      have e := sorted_is_law hls hsr hpm
      subst e
      refine ⟨H4, e4, hp, h4, ht, ExB.refl _ _, ?_, none, none, rfl⟩
      rw [e4 _ _ h3]
      show some (HO.lst (List.replicate ls.length (V.str (Str.ofString "")))) = some (HO.lst ((List.replicate ls.length []).map vtx))
      rw [List.map_replicate]
      rfl
    · obtain ⟨H4, e4, hp, h4, ht, eb, _⟩ := hP
      exact sq_of (eb _ _ h4 fun z => by rw [z, h3] at hp; cases hp)
    · obtain ⟨H4, e4, hp, h4, ht, eb, hw, v3, v4, rfl⟩ := hP
      have hi : i < (lawSeq ls).length := by
        have := (List.getElem?_eq_some_iff.mp hx).1
        rw [ht.1, List.length_map] at this
        exact this
      obtain ⟨qq, hqq⟩ : ∃ qq, (lawSeq ls)[i]? = some qq := ⟨_, List.getElem?_eq_getElem hi⟩
      obtain ⟨tt, hz, h5⟩ := ht.2 i (qq.1, (qq.2 : Int)) (by rw [List.getElem?_map, hqq]; rfl)
      rw [hx] at hz
      cases hz
      have mq := mem_lawSeq.mp (List.mem_of_getElem? hqq)
      have tne : tt ≠ pw := fun z => by
        rw [z, e4 _ _ h3] at h5
        cases h5
      have h5' := eb _ _ h5 tne
      refine ⟨tt, _, rfl, .inl (.inl h5'), rfl, _, _, rfl, _, _, rfl, rfl, ?_⟩
      have et : (lawSeq ls).take (i + 1) = (lawSeq ls).take i ++ [qq] := by rw [List.take_add_one, hqq]; rfl
      have bound : (runW (startW ls.length) ((lawSeq ls).take i)).2 + sz qq.1 ≤ 4096 := by
        have k := sum_lawSeq hls
        have k2 : (((lawSeq ls).take (i + 1)).map fun q => sz q.1).sum ≤ ((lawSeq ls).map fun q => sz q.1).sum := by
          conv => rhs; rw [← List.take_append_drop (i + 1) (lawSeq ls), List.map_append, List.sum_append]
          exact Nat.le_add_right _ _
        rw [et, List.map_append, List.sum_append, k] at k2
        rw [runW_snd]
        show 0 + _ + _ ≤ 4096
        simp only [List.map_cons, List.map_nil, List.sum_cons, List.sum_nil] at k2
        omega
      have pz := sz_pos qq.1
      have hlw : (runW (startW ls.length) ((lawSeq ls).take i)).1.length = ls.length := by
        rw [runW_len]
        exact List.length_replicate
      refine q_setL (l := pw) (j := qq.2) hw (ev_call (ea_cons (ev_var rfl) (ea_cons (ev_var rfl) ea_nil)) (sv_wordFrom (by omega) (by omega) (by omega))) (ev_var rfl) (ev_var rfl) (by rw [List.length_map, hlw]; exact mq.2.2.1) fun H6 e6 => ?_
      refine s_aug (a := (((runW (startW ls.length) ((lawSeq ls).take i)).2 : Nat) : Int)) (b := ((sz qq.1 : Nat) : Int)) rfl (ev_is (ev_call (ea_cons (ev_var rfl) (ea_cons ev_c ea_nil)) (sv_places (by omega) (by decide) (by omega))) ?_) fun H7 e7 => ?_
      · show V.int ((2 : Int) ^ (12 - qq.1).toNat) = V.int ((2 ^ (12 - qq.1).toNat : Nat) : Int)
        rw [Int.natCast_pow]
        try rfl
      · refine ⟨H4, e4, hp, h4, ht, ((eb.then e6).set).then e7, ?_, some (.int (qq.2 : Int)), some (.int qq.1), ?_⟩
        · rw [e7 _ _ upd_same, et, runW_app]
          show some (HO.lst ((List.map vtx _).set qq.2 (vtx (word _ qq.1)))) = some (HO.lst (List.map vtx ((runW (startW ls.length) ((lawSeq ls).take i)).1.set qq.2 (word _ qq.1))))
          rw [List.map_set]
        · rw [et, runW_app]
          show [_, _, some (V.int ((((runW (startW ls.length) ((lawSeq ls).take i)).2 : Nat) : Int) + ((sz qq.1 : Nat) : Int))), _, _] = [_, _, some (V.int (((((runW (startW ls.length) ((lawSeq ls).take i)).2 + sz qq.1 : Nat)) : Int))), _, _]
          rw [Int.natCast_add]
          try rfl
    · obtain ⟨H4, e4, hp, h4, ht, eb, hw, v3, v4, rfl⟩ := hP
      refine s_ret (ev_var rfl) fun H7 e7 => ?_
      have e1f : H pw = none := fresh_back e1 hpw
      have el : (lawSeq ls).take zs.length = lawSeq ls := by
        rw [ht.1, List.length_map, List.take_length]
      rw [el] at hw
      exact q pw H7 e1f (e1.trans (ExB.back ((e2.trans e3).trans e4) hpw (eb.then e7))) (e7 _ _ hw)
end
end Sl
namespace Sl
open PySem PySem.Spec PyProof.Rows L2 Evl
section
variable {P : Program} {w : World} {K : PySem.W.Frag} {mg : Str → Option Value} {base : Heap} {t : Adr}
/-! words_in_order -/
/-- do the words of these lengths find room in their order -/
def okO (xs : List V) : Bool := okSum xs && decide (endO 0 (numsOf xs) ≤ 4096)
def spInOrder (K : PySem.W.Frag) (C : Addr) : Sp := fun vs H Q E => ∃ (a : Addr) (xs : List V), vs = [.ref a] ∧ SqL K H a xs ∧ (∀ x ∈ xs, Thing H x) ∧
  (okO xs = true → RetL ((wordsO 0 (numsOf xs)).map vtx) H Q) ∧ (okO xs = false → ∀ H1, Ex H H1 → E (.ref C) none H1)
theorem up_int {p s : Nat} (h : 0 < s) : ((p : Int) + (s : Int) - 1) / (s : Int) * (s : Int) = ((up p s : Nat) : Int) := by
  unfold up
  rw [Int.natCast_mul, Int.natCast_ediv, show ((p + s - 1 : Nat) : Int) = (p : Int) + (s : Int) - 1 by omega]
theorem sz_int (l : Int) : V.int ((2 : Int) ^ (12 - l).toNat) = V.int ((sz l : Nat) : Int) := by
  show _ = V.int ((2 ^ (12 - l).toNat : Nat) : Int)
  rw [Int.natCast_pow]
  try rfl
theorem sz_le (l : Int) (h : 1 ≤ l) : sz l ≤ 2048 := by
  have : sz l ≤ 2 ^ 11 := Nat.pow_le_pow_right (by decide) (by omega)
  omega
theorem ok_words_in_order (T : Top K mg t) : FnOk P w K mg base (L2.CX P w) 5 t.f_words_in_order t.d_words_in_order ["lengths"] (spInOrder K t.C_BadLengths) := by
  refine T.words_in_order.F.okX sc_words_in_order (fun vs H Q E h => ?_) (fun cdv A outer s H vs Q E hr h => ?_)
  · obtain ⟨a, xs, rfl, _⟩ := h
    rfl
  · obtain ⟨a, xs, rfl, hS, hT, q, r⟩ := h
    refine ⟨_, (pss_cons (ps_expr (pe_call (ok_u_check_sum T) (hr.mono (by decide)) (by rfl) T.u_check_sum.g T.u_check_sum.F.kp T.u_check_sum.b .nil (passes_call (takes_of rfl rfl rfl rfl) fun _ _ _ _ h => h) (pa_cons (pv 0) pa_nil)))
      (pss_cons (ps_set (i := 1) sc_words_in_order.nd rfl (.inl rfl) (pe_lst pa_nil))
      (pss_cons (ps_set (i := 2) sc_words_in_order.nd rfl (.inl rfl) pe_int)
      (pss_cons (ps_for (passes_of rfl) rfl (pi_list (pv 0)) (pg_name (i := 3) sc_words_in_order.nd rfl (.inl rfl)) (pss_cons (ps_set (i := 4) sc_words_in_order.nd rfl (.inl rfl) (pe_call (ok_places T) (hr.mono (by decide)) (by rfl) T.places.g T.places.F.kp T.places.b .nil pass0 (pa_cons (pv 3) (pa_cons (pe_glob (v := .int 12) rfl T.c_MOST_BITS.choose_spec.1 T.c_MOST_BITS.choose_spec.2) pa_nil))))
      (pss_cons (ps_set (i := 5) sc_words_in_order.nd rfl (.inl rfl) (pe_op op_mul (pe_op op_fdiv (pe_op op_sub (pe_op op_add (pv 2) (pv 4)) pe_int) (pv 4)) (pv 4)))
      (pss_cons (ps_set (i := 2) sc_words_in_order.nd rfl (.inl rfl) (pe_op op_add (pv 5) (pv 4)))
      (pss_cons (ps_if (pt_cmpR op_gt (pv 2) (pe_call (ok_room T) (hr.mono (by decide)) (by rfl) T.room.g T.room.F.kp T.room.b .nil (passes_call (takes_of rfl rfl rfl rfl) fun _ _ _ _ h => h) (pa_cons (pe_glob (v := .int 12) rfl T.c_MOST_BITS.choose_spec.1 T.c_MOST_BITS.choose_spec.2) pa_nil)) (nomark _)) (pss_one (ps_raise rfl (takes_of rfl rfl rfl rfl) (SkE.pmk_own1 PySem.F.excBase_ValueError T.C_BadLengths.xC T.C_BadLengths.gC T.C_BadLengths.kC (raises_own T.C_BadLengths.bC T.C_BadLengths.tC) rfl pe_str))) pss_nil)
      (pss_one (ps_expr (pe_bm PySem.F.plainAttrs_list PySem.F.slot_list_append PySem.F.type_list_append mt_append (pv 1) (pa_cons (pe_call (ok_u_word_from T) (hr.mono (by decide)) (by rfl) T.u_word_from.g T.u_word_from.F.kp T.u_word_from.b .nil pass0 (pa_cons (pv 5) (pa_cons (pv 3) pa_nil))) pa_nil)))))))))
      (pss_one (ps_ret (pv 1))))))), ?_⟩
    refine ⟨.ref a, rfl, a, xs, rfl, hS, hT, fun hk H1 e1 => ?_, fun hk => r ?_⟩
    · have hk' := hk
      unfold okSum at hk'
      rw [Bool.and_eq_true] at hk'
      obtain ⟨ls, rfl, hls, hlen⟩ := okLens_ints hk'.1
      unfold okO at q r
      rw [numsOf_map, hk, Bool.true_and] at q r
      refine q_asgL (el_lst ea_nil (by decide)) fun pw H2 hpw e2 h2 => ?_
      have npw : H pw = none := fresh_back e1 hpw
      refine q_asg ev_c fun H3 e3 => ?_
      have e13 := (e1.trans e2).trans e3
      refine q_forL (xs := ls.map V.int) (ev_var rfl) (ex_l e13 hS) (fun i σ' H' => Ex H H' ∧ H' pw = some (.lst ((wordsO 0 (ls.take i)).map vtx)) ∧ endO 0 (ls.take i) ≤ 4096 ∧
        ∃ v3 v4 v5, σ' = [some (V.ref a), some (V.ref pw), some (V.int ((endO 0 (ls.take i) : Nat) : Int)), v3, v4, v5]) (fun H4 e4 => ⟨e13.trans e4, (e3.trans e4) _ _ h2, Nat.zero_le _, none, none, none, rfl⟩) (fun i σ' H' _ hP => ex_l hP.1 hS) (fun i x σ' H' hx hP => ?_) fun σ' H' hP => ?_
      · obtain ⟨e4, hw, hend, v3, v4, v5, rfl⟩ := hP
        rw [List.getElem?_map] at hx
        obtain ⟨l, hl, rfl⟩ := Option.map_eq_some_iff.mp hx
        have hi : i < ls.length := (List.getElem?_eq_some_iff.mp hl).1
        have lok := hls l (List.mem_of_getElem? hl)
        have pz := sz_pos l
        have lz := sz_le l lok.1
        have stE := endO_step hl
        have stW := wordsO_step hl
        generalize endO 0 (ls.take i) = e at hend stE stW ⊢
        refine q_asg (ev_is (ev_call (ea_cons (ev_var rfl) (ea_cons ev_c ea_nil)) (sv_places (by omega) (by decide) (by omega))) (sz_int l)) fun H5 e5 => ?_
        refine q_asg (ev_is (ev_op (ev_op (ev_op (ev_op (ev_var rfl) (ev_var rfl) rv_I0) ev_c rv_I0) (ev_var rfl) (rv_I ⟨by omega, by omega⟩)) (ev_var rfl) (rv_I (.inr ⟨by omega, by omega⟩))) (congrArg V.int (up_int pz))) fun H6 e6 => ?_
        refine q_asg (ev_is (ev_op (ev_var rfl) (ev_var rfl) rv_I0) (w := .int ((up e (sz l) + sz l : Nat) : Int)) (congrArg V.int (Int.natCast_add _ _).symm)) fun H7 e7 => ?_
        have e47 := ((e4.trans e5).trans e6).trans e7
        refine q_when (et_test (ev_op (ev_var rfl) (ev_call (ea_cons (ev_c (v := .int 12)) ea_nil) (sv_room (by decide) (by decide))) rv_I0)) (fun hb H8 e8 => ?_) (fun hb H8 e8 => ?_)
        · refine r (decide_eq_false fun z => ?_) H8 (e47.trans e8)
          have hb' := of_decide_eq_true hb
          have k := endO_take ls (i + 1)
          rw [stE] at k
          have : (4096 : Int) < ((up e (sz l) + sz l : Nat) : Int) := hb'
          omega
        · have hb' : ¬ (4096 : Int) < ((up e (sz l) + sz l : Nat) : Int) := of_decide_eq_false hb
          have hw8 := ((((e5.trans e6).trans e7).trans e8) _ _ hw)
          refine s_app hw8 (ev_var rfl) (ev_call (ea_cons (ev_var rfl) (ea_cons (ev_var rfl) ea_nil)) (sv_wordFrom (by omega) (by omega) (by omega))) (by rw [List.length_map, wordsO_len, List.length_take]; omega) fun H9 e9 => ?_
          refine ⟨Ex.mut ((e47.trans e8).trans e9) npw, ?_, by rw [stE]; omega, some (.int l), some (.int ((sz l : Nat) : Int)), some (.int ((up e (sz l) : Nat) : Int)), by rw [stE]; rfl⟩
          rw [upd_same, stW, List.map_append]
          rfl
      · obtain ⟨e4, hw, hend, v3, v4, v5, rfl⟩ := hP
        rw [List.length_map, List.take_length] at hend hw
        refine s_ret (ev_var rfl) fun H7 e7 => ?_
        exact q (decide_eq_true hend) pw H7 npw (e4.trans e7) (e7 _ _ hw)
    · unfold okO
      rw [hk]
      rfl
end
end Sl
namespace Sl
open PySem PySem.Spec PyProof.Rows L2 Evl
section
variable {P : Program} {w : World} {K : PySem.W.Frag} {mg : Str → Option Value} {base : Heap} {t : Adr}
/-! free_code -/
def spFreeCode (K : PySem.W.Frag) (PL CN CW CB CR : Addr) : Sp := fun vs H Q E => ∃ (a : Addr) (xs : List V) (x : V), vs = [.ref a, x] ∧ SqL K H a xs ∧ (∀ x ∈ xs, Thing H x) ∧ Thing H x ∧ LamX.TabS H PL lamQ ∧
  (∀ (ws : List Nat) (b : Nat), xs = natsV ws → x = .int (b : Int) → 1 ≤ b → b ≤ 12 → ws.length ≤ 24 → (∀ v ∈ ws, v ≤ 1000000000000) → ws.length ≤ 2 ^ b → RetLN PL ((byLen (intsOf (freeLens ws b))).map vtx) H Q) ∧
  (24 < xs.length → ∀ H1, Ex H H1 → E (.ref CN) none H1) ∧ (xs.length ≤ 24 → xs.all (within 0 1000000000000) = false → ∀ H1, Ex H H1 → E (.ref CW) none H1) ∧ (okWeights xs = true → within 1 12 x = false → ∀ H1, Ex H H1 → E (.ref CB) none H1) ∧
  (∀ b : Int, okWeights xs = true → x = .int b → 1 ≤ b → b ≤ 12 → (2 : Int) ^ b.toNat < (xs.length : Int) → ∀ H1, Ex H H1 → E (.ref CR) none H1)
--[lens12
theorem nums_nats (l : List Nat) : numsOf (natsV l) = intsOf l := by
  rw [natsV_ints]
  exact numsOf_map _
theorem okLens_nats {l : List Nat} {b : Nat} (hl : l.length ≤ 24) (h : ∀ x ∈ l, 1 ≤ x ∧ x ≤ b) (hb : b ≤ 12) : okLens 1 12 (natsV l) = true := by
  unfold okLens
  rw [Bool.and_eq_true]
  refine ⟨decide_eq_true (by rw [natsV_len]; exact hl), List.all_eq_true.mpr fun x hx => ?_⟩
  obtain ⟨n, hn, rfl⟩ := List.mem_map.mp hx
  have := h n hn
  exact within_yes (by omega) (by omega)
theorem sumOf_nats (l : List Nat) : sumOf 12 (natsV l) = ((((intsOf l).map sz).sum : Nat) : Int) := by
  rw [natsV_ints]
  exact sumOf_sz _
--]lens12
theorem okSum_free {ws : List Nat} {b : Nat} (hn : ws.length ≤ 24) (hb : 1 ≤ b) (hb2 : b ≤ 12) (h : ws.length ≤ 2 ^ b) : okSum (natsV (freeLens ws b)) = true := by
  unfold okSum
  rw [Bool.and_eq_true]
  refine ⟨okLens_nats (by rw [freeLens_len]; exact hn) (freeLens_in hn hb h) hb2, decide_eq_true ?_⟩
  rw [sumOf_nats]
  have := free_12 hn hb hb2 h
  omega
theorem ok_free_code (T : Top K mg t) (TB : LamX.TabB base mg t.cL t.PL) : FnOk P w K mg base (L2.CX P w) 8 t.f_free_code t.d_free_code ["weights", "bound"] (spFreeCode K t.PL t.C_NoWeights t.C_BadWeight t.C_BadBound t.C_NoRoom) := by
  refine T.free_code.F.okX sc_free_code (fun vs H Q E h => ?_) (fun cdv A outer s H vs Q E hr h => ?_)
  · obtain ⟨a, xs, x, rfl, _⟩ := h
    rfl
  · obtain ⟨a, xs, x, rfl, hS, hT, hx, hTab, q, rn, rw_, rb, rr⟩ := h
    refine ⟨_, (pss_one (ps_ret (pe_call (ok_words_by_lengths T) (hr.mono (by decide)) (by rfl) T.words_by_lengths.g T.words_by_lengths.F.kp T.words_by_lengths.b .nil (passes_call (takes_of rfl rfl rfl rfl) fun _ _ _ _ h => h) (pa_cons (pe_call (ok_free_lengths T TB) (hr.mono (by decide)) (by rfl) T.free_lengths.g T.free_lengths.F.kp T.free_lengths.b .nil (passes_call (takes_of rfl rfl rfl rfl) fun _ _ _ _ h => h) (pa_cons (pv 0) (pa_cons (pv 1) pa_nil))) pa_nil)))), ?_⟩
    refine ⟨.ref a, rfl, x, rfl, a, xs, x, rfl, hS, hT, hx, hTab, fun ws b hws hb b1 b2 hl hw hroom p H2 np x2 t2 h2 => ?_, rn, rw_, rb, rr⟩
    refine ⟨p, natsV (freeLens ws b), rfl, sq_of h2, natsV_thing, fun _ p' H3 hp' e3 h3 => ?_, fun z => absurd (okSum_free hl b1 b2 hroom) (by rw [z]; decide)⟩
    rw [nums_nats] at h3
    exact q ws b hws hb b1 b2 hl hw hroom p' H3 (NewN.ofX x2 hp') (x2.trans (ExN e3)) (tab_ex t2 e3) h3
end
end Sl
namespace Sl
open PySem PySem.Spec PyProof.Rows L2 Evl
section
variable {P : Program} {w : World} {K : PySem.W.Frag} {mg : Str → Option Value} {base : Heap} {t : Adr}
/-! ordered_code -/
def spOrderedCode (K : PySem.W.Frag) (CN CW CB CR : Addr) : Sp := fun vs H Q E => ∃ (a : Addr) (xs : List V) (x : V), vs = [.ref a, x] ∧ SqL K H a xs ∧ (∀ x ∈ xs, Thing H x) ∧ Thing H x ∧
  (∀ (ws : List Nat) (b : Nat), xs = natsV ws → x = .int (b : Int) → 1 ≤ b → b ≤ 12 → ws.length ≤ 24 → (∀ v ∈ ws, v ≤ 1000000000000) → ws.length ≤ 2 ^ b → RetL ((wordsO 0 (intsOf (ordLens ws b))).map vtx) H Q) ∧
  (24 < xs.length → ∀ H1, Ex H H1 → E (.ref CN) none H1) ∧ (xs.length ≤ 24 → xs.all (within 0 1000000000000) = false → ∀ H1, Ex H H1 → E (.ref CW) none H1) ∧ (okWeights xs = true → within 1 12 x = false → ∀ H1, Ex H H1 → E (.ref CB) none H1) ∧
  (∀ b : Int, okWeights xs = true → x = .int b → 1 ≤ b → b ≤ 12 → (2 : Int) ^ b.toNat < (xs.length : Int) → ∀ H1, Ex H H1 → E (.ref CR) none H1)
theorem okO_ord {ws : List Nat} {b : Nat} (hn : ws.length ≤ 24) (hb : 1 ≤ b) (hb2 : b ≤ 12) (h : ws.length ≤ 2 ^ b) : okO (natsV (ordLens ws b)) = true := by
  have k := ord_12 hb hb2 h
  have k2 := endO_sum (intsOf (ordLens ws b)) 0
  unfold okO okSum
  rw [Bool.and_eq_true, Bool.and_eq_true]
  refine ⟨⟨okLens_nats (by rw [ordLens_len h]; exact hn) (ordLens_in hb h) hb2, decide_eq_true ?_⟩, decide_eq_true ?_⟩
  · rw [sumOf_nats]
    omega
  · rw [nums_nats]
    exact k
theorem ok_ordered_code (T : Top K mg t) : FnOk P w K mg base (L2.CX P w) 17 t.f_ordered_code t.d_ordered_code ["weights", "bound"] (spOrderedCode K t.C_NoWeights t.C_BadWeight t.C_BadBound t.C_NoRoom) := by
  refine T.ordered_code.F.okX sc_ordered_code (fun vs H Q E h => ?_) (fun cdv A outer s H vs Q E hr h => ?_)
  · obtain ⟨a, xs, x, rfl, _⟩ := h
    rfl
  · obtain ⟨a, xs, x, rfl, hS, hT, hx, q, rn, rw_, rb, rr⟩ := h
    refine ⟨_, (pss_one (ps_ret (pe_call (ok_words_in_order T) (hr.mono (by decide)) (by rfl) T.words_in_order.g T.words_in_order.F.kp T.words_in_order.b .nil (passes_call (takes_of rfl rfl rfl rfl) fun _ _ _ _ h => h) (pa_cons (pe_call (ok_ordered_lengths T) (hr.mono (by decide)) (by rfl) T.ordered_lengths.g T.ordered_lengths.F.kp T.ordered_lengths.b .nil (passes_call (takes_of rfl rfl rfl rfl) fun _ _ _ _ h => h) (pa_cons (pv 0) (pa_cons (pv 1) pa_nil))) pa_nil)))), ?_⟩
    refine ⟨.ref a, rfl, x, rfl, a, xs, x, rfl, hS, hT, hx, fun ws b hws hb b1 b2 hl hw hroom p H2 np e2 h2 => ?_, rn, rw_, rb, rr⟩
    refine ⟨p, natsV (ordLens ws b), rfl, sq_of h2, natsV_thing, fun _ p' H3 hp' e3 h3 => ?_, fun z => absurd (okO_ord hl b1 b2 hroom) (by rw [z]; decide)⟩
    rw [nums_nats] at h3
    exact q ws b hws hb b1 b2 hl hw hroom p' H3 (fresh_back e2 hp') (e2.trans e3) h3
end
end Sl
namespace Sl
open PySem PySem.Spec PyProof.Rows L2 Evl
section
variable {P : Program} {w : World} {K : PySem.W.Frag} {mg : Str → Option Value} {base : Heap} {t : Adr}
/-! _law_cell -/
def lwSeed (ns : List Int) (k : Int) : Int := if 0 < ns.length then (ns.getD (k * 7 % (ns.length : Int)).toNat 0 * 48271 + k * 7919) % 2147483647 else k * 7919 + 5
def lwCell (ns : List Int) (k : Int) : Int := if k < (ns.length : Int) then ns.getD k.toNat 0 else lwSeed ns k * lwSeed ns k % 2147483629
def spLwCell (K : PySem.W.Frag) : Sp := fun vs H Q _ => ∃ (a : Addr) (ns : List Int) (k : Int), vs = [.ref a, .int k] ∧ SqL K H a (ns.map V.int) ∧ 0 ≤ k ∧ k ≤ 1000000 ∧ RetV (.int (lwCell ns k)) H Q
theorem sv_cell {H : Hp} {a : Addr} {ns : List Int} {k : Int} (hS : SqL K H a (ns.map V.int)) (h0 : 0 ≤ k) (h1 : k ≤ 1000000) : SpV (spLwCell K) ([.ref a, .int k] ++ []) H (.int (lwCell ns k)) := fun H1 e Q q E =>
  ⟨a, ns, k, rfl, ex_l e hS, h0, h1, q⟩
theorem at_getD {ns : List Int} {j : Int} (h0 : 0 ≤ j) (h : j < (ns.length : Int)) : atI (ns.map V.int) j = some (.int (ns.getD j.toNat 0)) := by
  obtain ⟨n, rfl⟩ := Int.eq_ofNat_of_zero_le h0
  have hn : n < ns.length := by omega
  refine atI_nat ?_
  rw [List.getElem?_map, Int.toNat_natCast, List.getD_eq_getElem?_getD, List.getElem?_eq_getElem hn]
  rfl
theorem ok_lw_cell (T : Top K mg t) : FnOk P w K mg base CX0 1 t.f_lw_cell t.d_lw_cell ["_law_script", "_law_k"] (spLwCell K) := by
  refine T.lw_cell.F.ok sc_lw_cell (fun vs H Q E h => ?_) (fun cdv A outer s H vs Q E hr h => ?_)
  · obtain ⟨a, ns, k, rfl, _⟩ := h
    rfl
  · obtain ⟨a, ns, k, rfl, hS, h0, h1, q⟩ := h
    refine ⟨_, (pss_cons (ps_if (pt_cmpR op_lt (pv 1) (pe_callB (r := rLenS K) call_len_seq (by rfl) T.b.b_len (by decide +kernel) (pa_cons (pv 0) pa_nil)) (nomark _)) (pss_one (ps_ret (pe_ix (r := rIxL K) ix_list (pv 0) (pv 1) (fun _ _ => rfl)))) pss_nil)
      (pss_cons (ps_set (i := 2) sc_lw_cell.nd rfl (.inl rfl) (pe_op op_add (pe_op op_mul (pv 1) pe_int) pe_int))
      (pss_cons (ps_if (pt_cmpR op_gt (pe_callB (r := rLenS K) call_len_seq (by rfl) T.b.b_len (by decide +kernel) (pa_cons (pv 0) pa_nil)) pe_int (nomark _)) (pss_one (ps_set (i := 2) sc_lw_cell.nd rfl (.inl rfl) (pe_op op_mod (pe_op op_add (pe_op op_mul (pe_ix (r := rIxL K) ix_list (pv 0) (pe_op op_mod (pe_op op_mul (pv 1) pe_int) (pe_callB (r := rLenS K) call_len_seq (by rfl) T.b.b_len (by decide +kernel) (pa_cons (pv 0) pa_nil))) (fun _ _ => rfl)) pe_int) (pe_op op_mul (pv 1) pe_int)) pe_int))) pss_nil)
      (pss_one (ps_ret (pe_op op_mod (pe_op op_mul (pv 2) (pv 2)) pe_int)))))), ?_⟩
    have el : ((ns.map V.int).length : Int) = (ns.length : Int) := by rw [List.length_map]
    refine q_when (et_test (ev_op (ev_var rfl) (ev_len (ev_var rfl) hS) rv_I0)) (fun hb H1 e1 => ?_) (fun hb H1 e1 => ?_)
    · have hk : k < (ns.length : Int) := by
        have := of_decide_eq_true hb
        omega
      refine s_ret (ev_op (ev_var rfl) (ev_var rfl) (rv_ixL (ex_l e1 hS) (at_getD h0 hk))) fun H2 e2 => ?_
      have z := q H2 (e1.trans e2)
      unfold lwCell at z
      rw [if_pos hk] at z
      exact z
    · have hk : ¬ k < (ns.length : Int) := by
        have := of_decide_eq_false hb
        omega
      refine q_asg (ev_op (ev_op (ev_var rfl) ev_c (rv_I (.inr ⟨by decide, by decide⟩))) ev_c rv_I0) fun H2 e2 => ?_
      have e12 := e1.trans e2
      have fin : ∀ H3, Ex H H3 → ∀ n : Int, n = lwSeed ns k → -(2 ^ 64) < n ∧ n < 2 ^ 64 → tRet (tOp (rI (fun _ j => 0 < j) fun i j => .int (i % j)) (tOp (rI CMul fun i j => .int (i * j)) (tVar 2) (tVar 2)) (tC (.int 2147483629))) { nx := fun _ H' => Q .non H', rt := Q } [some (V.ref a), some (V.int k), some (V.int n)] H3 := by
        intro H3 e3 n hn hb
        refine s_ret (ev_op (ev_op (ev_var rfl) (ev_var rfl) (rv_I (.inl hb))) ev_c (rv_I (by decide))) fun H4 e4 => ?_
        have z := q H4 (e3.trans e4)
        unfold lwCell at z
        rw [if_neg hk, ← hn] at z
        exact z
      refine q_when (et_test (ev_op (ev_len (ev_var rfl) (ex_l e12 hS)) ev_c rv_I0)) (fun hb H3 e3 => ?_) (fun hb H3 e3 => ?_)
      · have hp : 0 < ns.length := by
          have := of_decide_eq_true hb
          omega
        have hm0 : 0 ≤ k * 7 % (ns.length : Int) := Int.emod_nonneg _ (by omega)
        have hm1 : k * 7 % (ns.length : Int) < (ns.length : Int) := Int.emod_lt_of_pos _ (by omega)
        refine s_asg (ev_op (ev_op (ev_op (ev_op (ev_var rfl) (ev_op (ev_op (ev_var rfl) ev_c (rv_I (.inr ⟨by decide, by decide⟩))) (ev_len (ev_var rfl) (ex_l (e12.trans e3) hS)) (rv_I (by rw [el]; omega))) (rv_ixL (ex_l (e12.trans e3) hS) (by rw [el]; exact at_getD hm0 hm1))) ev_c (rv_I (.inr ⟨by decide, by decide⟩)))
          (ev_op (ev_var rfl) ev_c (rv_I (.inr ⟨by decide, by decide⟩))) rv_I0) ev_c (rv_I (by decide))) fun H4 e4 => ?_
        have hs : lwSeed ns k = (ns.getD (k * 7 % (ns.length : Int)).toNat 0 * 48271 + k * 7919) % 2147483647 := if_pos hp
        have b0 := Int.emod_nonneg (ns.getD (k * 7 % (ns.length : Int)).toNat 0 * 48271 + k * 7919) (show (2147483647 : Int) ≠ 0 by decide)
        have b1 := Int.emod_lt_of_pos (ns.getD (k * 7 % (ns.length : Int)).toNat 0 * 48271 + k * 7919) (show (0 : Int) < 2147483647 by decide)
        exact fin H4 ((e12.trans e3).trans e4) _ hs.symm ⟨by omega, by omega⟩
      · have hp : ¬ 0 < ns.length := by
          have := of_decide_eq_false hb
          omega
        have hs : lwSeed ns k = k * 7919 + 5 := if_neg hp
        exact fin H3 (e12.trans e3) _ hs.symm ⟨by omega, by omega⟩
end
end Sl
namespace Sl
open PySem PySem.Spec PyProof.Rows L2 Evl
section
variable {P : Program} {w : World} {K : PySem.W.Frag} {mg : Str → Option Value} {base : Heap} {t : Adr}
/-! _law_whole -/
def isInt : V → Bool
  | .int _ => true
  | _ => false
def spWhole : Sp := fun vs H Q _ => ∃ x : V, vs = [x] ∧ Thing H x ∧ RetV (.bl (isInt x)) H Q
theorem sv_whole {H : Hp} {x : V} (k : Thing H x) : SpV spWhole ([x] ++ []) H (.bl (isInt x)) := fun H1 e Q q E => ⟨x, rfl, k.mono e, q⟩
theorem ok_lw_whole (T : Top K mg t) : FnOk P w K mg base CX0 1 t.f_lw_whole t.d_lw_whole ["_law_found"] spWhole := by
  refine T.lw_whole.F.ok sc_lw_whole (fun vs H Q E h => ?_) (fun cdv A outer s H vs Q E hr h => ?_)
  · obtain ⟨x, rfl, _⟩ := h
    rfl
  · obtain ⟨x, rfl, k, q⟩ := h
    refine ⟨_, (pss_one (ps_ret (pe_and (pe_callB (r := rIsi K) call_isi (by rfl) T.b.b_isinstance (by decide +kernel) (pa_cons (pv 0) (pa_cons (pe_bltn (v := .ty "int") (by rfl) T.b.b_int (by decide +kernel) rfl) pa_nil))) (pe_one (pe_not (pe_callB (r := rIsi K) call_isi (by rfl) T.b.b_isinstance (by decide +kernel) (pa_cons (pv 0) (pa_cons (pe_bltn (v := .ty "bool") (by rfl) T.b.b_bool (by decide +kernel) rfl) pa_nil)))))))), ?_⟩
    refine s_ret (ev_andV (ev_isInt (ev_var rfl) k) fun _ => ev_notV (ev_isBool (ev_var rfl) k)) fun H1 e1 => ?_
    have z : (isNum x && !isBl x) = isInt x := by cases x <;> rfl
    rw [z]
    exact q H1 e1
end
end Sl
namespace Sl
open PySem PySem.Spec PyProof.Rows L2 Evl
section
variable {P : Program} {w : World} {K : PySem.W.Frag} {mg : Str → Option Value} {base : Heap} {t : Adr}
/-! _law_doubled -/
def spDoubled : Sp := fun vs H Q _ => ∃ n : Int, vs = [.int n] ∧ n ≤ 60 ∧ -1000 ≤ n ∧ RetV (.int (2 ^ n.toNat)) H Q
theorem sv_doubled {H : Hp} {n : Int} (h : n ≤ 60) (h' : -1000 ≤ n) : SpV spDoubled ([.int n] ++ []) H (.int (2 ^ n.toNat)) := fun H1 e Q q E => ⟨n, rfl, h, h', q⟩
theorem s_forR1n {D : Ends} {tu : TS} {σ : L2.St} {H : Hp} {ta : TA} {j : Nat} {n : Int} (h : EvA ta σ H [.int n]) (hn : -100000 ≤ n ∧ n ≤ 100000) (Pv : Nat → L2.St → Hp → Prop) (h0 : ∀ H1, Ex H H1 → Pv 0 σ H1)
    (hs : ∀ (i : Nat) σ' H', (i : Int) < n → Pv i σ' H' → tu { D with nx := Pv (i + 1), ct := Pv (i + 1), bk := D.nx } (σ'.set j (some (.int (i : Int)))) H') (hd : ∀ σ' H', Pv n.toNat σ' H' → D.nx σ' H') : tFor (iRng1 ta) (gName j) tu D σ H :=
  h H (Ex.refl H) _ fun H1 e => ⟨n, rfl, by omega, by omega, for_range (lo := 0) (n := n.toNat) Pv (h0 H1 e) (fun i σ' H' hi p => by
    have e0 : (0 : Int) + (i : Int) = (i : Int) := Int.zero_add _
    show tu _ (σ'.set j (some (.int ((0 : Int) + (i : Int))))) H'
    rw [e0]
    exact hs i σ' H' (by omega) p) hd⟩
theorem ok_lw_doubled (T : Top K mg t) : FnOk P w K mg base CX0 1 t.f_lw_doubled t.d_lw_doubled ["_law_times"] spDoubled := by
  refine T.lw_doubled.F.ok sc_lw_doubled (fun vs H Q E h => ?_) (fun cdv A outer s H vs Q E hr h => ?_)
  · obtain ⟨n, rfl, _⟩ := h
    rfl
  · obtain ⟨n, rfl, hn, hn', q⟩ := h
    refine ⟨_, (pss_cons (ps_set (i := 1) sc_lw_doubled.nd rfl (.inl rfl) pe_int)
      (pss_cons (ps_for PassesOwn.never rfl (pi_range1 (by rfl) T.b.b_range (pa_cons (pv 0) pa_nil)) (pg_name (i := 2) sc_lw_doubled.nd rfl (.inl rfl)) (pss_one (ps_set (i := 1) sc_lw_doubled.nd rfl (.inl rfl) (pe_op op_mul (pv 1) pe_int))))
      (pss_one (ps_ret (pv 1))))), ?_⟩
    refine q_asg ev_c fun H1 e1 => ?_
    refine s_forR1n (D := { nx := _, rt := _ }) (ea_cons (ev_var rfl) ea_nil) ⟨by omega, by omega⟩ (fun i σ' H' => Ex H H' ∧ ∃ v2, σ' = [some (.int n), some (.int (2 ^ i)), v2]) (fun H2 e2 => ⟨e1.trans e2, _, rfl⟩) (fun i σ' H' hi p => ?_) (fun σ' H' p => ?_)
    · obtain ⟨e', v2, rfl⟩ := p
      refine s_asg (ev_op (ev_var rfl) ev_c (rv_I (.inr ⟨by decide, by decide⟩))) fun H3 e3 => ?_
      exact ⟨e'.trans e3, _, rfl⟩
    · obtain ⟨e', v2, rfl⟩ := p
      exact s_ret (ev_var rfl) fun H3 e3 => q H3 (e'.trans e3)
end
end Sl
namespace Sl
open PySem PySem.Spec PyProof.Rows L2 Evl
section
variable {P : Program} {w : World} {K : PySem.W.Frag} {mg : Str → Option Value} {base : Heap} {t : Adr}
/-! _law_weights -/
def spWeights (K : PySem.W.Frag) : Sp := fun vs H Q _ => ∃ (a : Addr) (ns : List Int) (first : Int) (many : Nat) (kind : Int), vs = [.ref a, .int first, .int (many : Int), .int kind] ∧ SqL K H a (ns.map V.int) ∧ 0 ≤ first ∧ first ≤ 1000 ∧ many ≤ 24 ∧ 0 ≤ kind ∧ kind < 5 ∧
  ∀ ws : List Nat, ws.length = many → (∀ x ∈ ws, x ≤ 1000000000000) → RetL (natsV ws) H Q
theorem ok_lw_weights (T : Top K mg t) : FnOk P w K mg base CX0 2 t.f_lw_weights t.d_lw_weights ["_law_script", "_law_first", "_law_many", "_law_kind"] (spWeights K) := by
  refine T.lw_weights.F.ok sc_lw_weights (fun vs H Q E h => ?_) (fun cdv A outer s H vs Q E hr h => ?_)
  · obtain ⟨a, ns, first, many, kind, rfl, _⟩ := h
    rfl
  · obtain ⟨a, ns, first, many, kind, rfl, hS, f0, f1, hm, k0, k1, q⟩ := h
    refine ⟨_, (pss_cons (ps_set (i := 4) sc_lw_weights.nd rfl (.inl rfl) (pe_lst pa_nil))
      (pss_cons (ps_for PassesOwn.never rfl (pi_range1 (by rfl) T.b.b_range (pa_cons (pv 2) pa_nil)) (pg_name (i := 5) sc_lw_weights.nd rfl (.inl rfl)) (pss_cons (ps_set (i := 6) sc_lw_weights.nd rfl (.inl rfl) (pe_call (ok_lw_cell T) (hr.mono (by decide)) (by rfl) T.lw_cell.g T.lw_cell.F.kp T.lw_cell.b .nil pass0 (pa_cons (pv 0) (pa_cons (pe_op op_add (pv 1) (pv 5)) pa_nil))))
      (pss_cons (ps_if (pt_cmpR op_eq (pv 3) pe_int (nomark _)) (pss_one (ps_expr (pe_bm PySem.F.plainAttrs_list PySem.F.slot_list_append PySem.F.type_list_append mt_append (pv 4) (pa_cons (pe_op op_mod (pv 6) pe_int) pa_nil)))) pss_nil)
      (pss_cons (ps_if (pt_cmpR op_eq (pv 3) pe_int (nomark _)) (pss_one (ps_expr (pe_bm PySem.F.plainAttrs_list PySem.F.slot_list_append PySem.F.type_list_append mt_append (pv 4) (pa_cons (pe_op op_mod (pv 6) pe_int) pa_nil)))) pss_nil)
      (pss_cons (ps_if (pt_cmpR op_eq (pv 3) pe_int (nomark _)) (pss_one (ps_expr (pe_bm PySem.F.plainAttrs_list PySem.F.slot_list_append PySem.F.type_list_append mt_append (pv 4) (pa_cons (pe_op op_mod (pv 6) pe_int) pa_nil)))) pss_nil)
      (pss_cons (ps_if (pt_cmpR op_eq (pv 3) pe_int (nomark _)) (pss_cons (ps_set (i := 7) sc_lw_weights.nd rfl (.inl rfl) (pe_op op_add pe_int (pe_op op_mod (pe_op op_fdiv (pe_call (ok_lw_cell T) (hr.mono (by decide)) (by rfl) T.lw_cell.g T.lw_cell.F.kp T.lw_cell.b .nil pass0 (pa_cons (pv 0) (pa_cons pe_int pa_nil))) pe_int) pe_int)))
      (pss_one (ps_expr (pe_bm PySem.F.plainAttrs_list PySem.F.slot_list_append PySem.F.type_list_append mt_append (pv 4) (pa_cons (pe_op op_mul (pe_op op_add pe_int (pe_op op_mod (pv 6) pe_int)) (pe_call (ok_lw_doubled T) (hr.mono (by decide)) (by rfl) T.lw_doubled.g T.lw_doubled.F.kp T.lw_doubled.b .nil pass0 (pa_cons (pe_op op_mod (pe_op op_mul (pv 5) (pv 7)) (pe_op op_add (pv 2) pe_int)) pa_nil))) pa_nil))))) pss_nil)
      (pss_one (ps_if (pt_cmpR op_eq (pv 3) pe_int (nomark _)) (pss_one (ps_expr (pe_bm PySem.F.plainAttrs_list PySem.F.slot_list_append PySem.F.type_list_append mt_append (pv 4) (pa_cons (pe_op op_sub pe_int (pe_op op_mod (pv 6) pe_int)) pa_nil)))) pss_nil))))))))
      (pss_one (ps_ret (pv 4))))), ?_⟩
    refine q_asgL (el_lst ea_nil (by decide)) fun p H1 hp e1 h1 => ?_
    refine q_forR1 (n := (many : Int)) (ea_cons (ev_var rfl) ea_nil) ⟨by omega, by omega⟩ (fun i σ' H' => Ex H H' ∧ ∃ (ws : List Nat) (v5 v6 v7 : Option V), σ' = [some (V.ref a), some (V.int first), some (V.int (many : Int)), some (V.int kind), some (V.ref p), v5, v6, v7] ∧ H' p = some (.lst (natsV ws)) ∧ ws.length = i ∧ ∀ x ∈ ws, x ≤ 1000000000000)
      (fun H2 e2 => ⟨e1.trans e2, [], none, none, none, rfl, e2 _ _ h1, rfl, fun _ h => by cases h⟩) (fun i σ' H' hi hP => ?_) (fun σ' H' hP => ?_)
    · obtain ⟨e2, ws, v5, v6, v7, rfl, h2, hl, hw⟩ := hP
      refine q_asg (ev_call (ea_cons (ev_var rfl) (ea_cons (ev_op (ev_var rfl) (ev_var rfl) rv_I0) ea_nil)) (sv_cell (ex_l e2 hS) (by omega) (by omega))) fun H3 e3 => ?_
      generalize lwCell ns (first + (i : Int)) = c
      obtain ⟨n0, c0, d0⟩ := mod_nat c (show 0 < 4 by decide)
      obtain ⟨n1, c1, d1⟩ := mod_nat c (show 0 < 100 by decide)
      obtain ⟨n2, c2, d2⟩ := mod_nat c (show 0 < 1000000000001 by decide)
      obtain ⟨n3, c3, d3⟩ := mod_nat c (show 0 < 3 by decide)
      have len : (natsV ws).length = i := by unfold natsV; rw [List.length_map, hl]
      have one : ∀ (b : Bool) (v : V), (if b = true then [v] else []).length ≤ 1 := fun b v => by cases b <;> simp
      -- the list behind, and what closes a turn
      have fin : ∀ (H4 : Hp) (v7 : Option V) (n : Nat), Ex H H4 → n ≤ 1000000000000 → H4 p = some (.lst (natsV ws ++ [.int (n : Int)])) → Ex H H4 ∧ ∃ (ws' : List Nat) (v5 v6 v7' : Option V), [some (V.ref a), some (V.int first), some (V.int (many : Int)), some (V.int kind), some (V.ref p), some (V.int (i : Int)), some (V.int c), v7] = [some (V.ref a), some (V.int first), some (V.int (many : Int)), some (V.int kind), some (V.ref p), v5, v6, v7'] ∧ H4 p = some (.lst (natsV ws')) ∧ ws'.length = i + 1 ∧ ∀ x ∈ ws', x ≤ 1000000000000 := fun H4 v7 n e4 hn h4 => by
        refine ⟨e4, ws ++ [n], _, _, _, rfl, ?_, by rw [List.length_append, hl]; rfl, fun x hx => ?_⟩
        · rw [h4]
          unfold natsV
          rw [List.map_append]
          rfl
        · rcases List.mem_append.mp hx with h | h
          · exact hw x h
          · rw [List.mem_singleton.mp h]
            exact hn
      have np := hp
      have h3 := e3 _ _ h2
      have e23 := e2.trans e3
      refine q_ifApp (l := p) h3 (v := .int (n0 : Int)) (et_test (ev_op (ev_var rfl) ev_c (rv_eq rfl))) (ev_var rfl) (ev_is (ev_op (ev_var rfl) ev_c (rv_I (by decide))) (congrArg V.int c0)) (by omega) fun H4 x4 h4 => ?_
      refine q_ifApp (l := p) h4 (v := .int (n1 : Int)) (et_test (ev_op (ev_var rfl) ev_c (rv_eq rfl))) (ev_var rfl) (ev_is (ev_op (ev_var rfl) ev_c (rv_I (by decide))) (congrArg V.int c1)) (by have := one (decide (V.int kind = V.int 0)) (.int (n0 : Int)); rw [List.length_append]; omega) fun H5 x5 h5 => ?_
      refine q_ifApp (l := p) h5 (v := .int (n2 : Int)) (et_test (ev_op (ev_var rfl) ev_c (rv_eq rfl))) (ev_var rfl) (ev_is (ev_op (ev_var rfl) ev_c (rv_I (by decide))) (congrArg V.int c2)) (by have := one (decide (V.int kind = V.int 0)) (.int (n0 : Int)); have := one (decide (V.int kind = V.int 1)) (.int (n1 : Int)); rw [List.length_append, List.length_append]; omega) fun H6 x6 h6 => ?_
      have e36 : Ex H H6 := fun b o hb => x6 b o (x5 b o (x4 b o (e23 b o hb) (fun z => by rw [z, hp] at hb; cases hb)) (fun z => by rw [z, hp] at hb; cases hb)) (fun z => by rw [z, hp] at hb; cases hb)
      refine q_when (et_test (ev_op (ev_var rfl) ev_c (rv_eq rfl))) (fun hb H7 e7 => ?_) (fun hb H7 e7 => ?_)
      · have hk : kind = 3 := V.int.inj (of_decide_eq_true hb)
        subst hk
        have h7 : H7 p = some (.lst (natsV ws)) := by rw [e7 _ _ h6]; simp
        have e37 := e36.trans e7
        obtain ⟨st, cst, dst⟩ := mod_nat (lwCell ns 2 / 4) (show 0 < 23 by decide)
        refine q_asg (v := .int (1 + (st : Int))) (ev_is (ev_op ev_c (ev_op (ev_op (ev_call (ea_cons (ev_var rfl) (ea_cons ev_c ea_nil)) (sv_cell (ex_l e37 hS) (by decide) (by decide))) ev_c (rv_I ⟨by decide, by decide⟩)) ev_c (rv_I (by decide))) rv_I0) (by rw [show ((23 : Nat) : Int) = 23 from rfl] at cst; rw [cst])) fun H8 e8 => ?_
        obtain ⟨ex, cex, dex⟩ := mod_nat ((i : Int) * (1 + (st : Int))) (show 0 < many + 1 by omega)
        have hx0 : (i : Int) * (1 + (st : Int)) % ((many : Int) + 1) = (ex : Int) := cex
        have hx : ((i : Int) * (1 + (st : Int)) % ((many : Int) + 1)).toNat = ex := by rw [hx0, Int.toNat_natCast]
        have pw : 2 ^ ex ≤ 2 ^ 24 := Nat.pow_le_pow_right (by decide) (by omega)
        refine s_app (l := p) (v := .int (((1 + n3) * 2 ^ ex : Nat) : Int)) (e8 _ _ h7) (ev_var rfl) (ev_is (ev_op (ev_op ev_c (ev_op (ev_var rfl) ev_c (rv_I (by decide))) rv_I0) (ev_call (ea_cons (ev_op (ev_op (ev_var rfl) (ev_var rfl) (rv_I (.inl ⟨by omega, by omega⟩))) (ev_op (ev_var rfl) ev_c rv_I0) (rv_I (by omega))) ea_nil) (sv_doubled (by omega) (by omega))) (rv_I (.inl ⟨by omega, by omega⟩))) (congrArg V.int ?_)) (by omega) fun H9 e9 => ?_
        · rw [hx, show c % 3 = (n3 : Int) from c3, Int.natCast_mul, Int.natCast_pow, Int.natCast_add]
          rfl
        · refine s_when (et_test (ev_op (ev_var rfl) ev_c (rv_eq rfl))) (fun hb _ _ => absurd (V.int.inj (of_decide_eq_true hb)) (by decide)) (fun hb H10 e10 => ?_)
          have big : (1 + n3) * 2 ^ ex ≤ 3 * 2 ^ 24 := Nat.mul_le_mul (by omega) pw
          exact fin H10 _ _ (((Ex.mut ((e37.trans e8).trans e9) hp)).trans e10) (by omega) (e10 _ _ upd_same)
      · have hk : kind ≠ 3 := fun z => (of_decide_eq_false hb) (congrArg V.int z)
        have h7 := e7 _ _ h6
        have e37 := e36.trans e7
        refine s_when (et_test (ev_op (ev_var rfl) ev_c (rv_eq rfl))) (fun hb2 H8 e8 => ?_) (fun hb2 H8 e8 => ?_)
        · have hk4 : kind = 4 := V.int.inj (of_decide_eq_true hb2)
          subst hk4
          have h8 : H8 p = some (.lst (natsV ws)) := by rw [e8 _ _ h7]; simp
          refine s_app (l := p) (v := .int ((1000000000000 - n3 : Nat) : Int)) h8 (ev_var rfl) (ev_is (ev_op ev_c (ev_op (ev_var rfl) ev_c (rv_I (by decide))) rv_I0) (congrArg V.int (by rw [show c % 3 = (n3 : Int) from c3]; omega))) (by omega) fun H9 e9 => ?_
          exact fin _ _ _ (Ex.mut ((e37.trans e8).trans e9) hp) (by omega) upd_same
        · have hk4 : kind ≠ 4 := fun z => (of_decide_eq_false hb2) (congrArg V.int z)
          have h8 := e8 _ _ h7
          have e38 := e37.trans e8
          have cases3 : kind = 0 ∨ kind = 1 ∨ kind = 2 := by omega
          rcases cases3 with rfl | rfl | rfl
          · exact fin H8 _ n0 e38 (by omega) (by rw [h8]; simp)
          · exact fin H8 _ n1 e38 (by omega) (by rw [h8]; simp)
          · exact fin H8 _ n2 e38 (by omega) (by rw [h8]; simp)
    · obtain ⟨e2, ws, v5, v6, v7, rfl, h2, hl, hw⟩ := hP
      exact s_ret (ev_var rfl) fun H3 e3 => q ws (by omega) hw p H3 (fresh_back (Ex.refl H) hp) (e2.trans e3) (e3 _ _ h2)
end
end Sl
namespace Sl
open PySem PySem.Spec PyProof.Rows L2 Evl
section
variable {P : Program} {w : World} {K : PySem.W.Frag} {mg : Str → Option Value} {base : Heap} {t : Adr}
/-! _law_least_bound -/
def spLeastBound : Sp := fun vs H Q _ => ∃ many : Nat, vs = [.int (many : Int)] ∧ many ≤ 24 ∧ ∀ b : Nat, 1 ≤ b → b ≤ 5 → many ≤ 2 ^ b → RetV (.int (b : Int)) H Q
theorem ok_lw_least_bound (T : Top K mg t) : FnOk P w K mg base CX0 2 t.f_lw_least_bound t.d_lw_least_bound ["_law_many"] spLeastBound := by
  refine T.lw_least_bound.F.ok sc_lw_least_bound (fun vs H Q E h => ?_) (fun cdv A outer s H vs Q E hr h => ?_)
  · obtain ⟨many, rfl, _⟩ := h
    rfl
  · obtain ⟨many, rfl, hm, q⟩ := h
    refine ⟨_, (pss_cons (ps_set (i := 1) sc_lw_least_bound.nd rfl (.inl rfl) pe_int)
      (pss_cons (ps_while PassesOwn.never (pt_cmpR op_lt (pe_call (ok_lw_doubled T) (hr.mono (by decide)) (by rfl) T.lw_doubled.g T.lw_doubled.F.kp T.lw_doubled.b .nil pass0 (pa_cons (pv 1) pa_nil)) (pv 0) (nomark _)) (pss_one (ps_set (i := 1) sc_lw_least_bound.nd rfl (.inl rfl) (pe_op op_add (pv 1) pe_int))))
      (pss_one (ps_ret (pv 1))))), ?_⟩
    refine q_asg ev_c fun H1 e1 => ?_
    refine q_while (fun m σ' H' => Ex H H' ∧ ∃ b : Nat, σ' = [some (V.int (many : Int)), some (V.int (b : Int))] ∧ 1 ≤ b ∧ b ≤ 5 ∧ m = 5 - b) 4 ⟨e1, 1, rfl, by decide, by decide, rfl⟩ fun m σ' H' hW => ?_
    obtain ⟨e2, b, rfl, b1, b2, rfl⟩ := hW
    have cast : ((2 : Int) ^ ((b : Int)).toNat) = ((2 ^ b : Nat) : Int) := by rw [Int.toNat_natCast, Int.natCast_pow]; rfl
    refine ⟨_, et_test (ev_op (ev_call (ea_cons (ev_var rfl) ea_nil) (sv_doubled (by omega) (by omega))) (ev_var rfl) rv_I0), fun hb H2 e3 => ?_, fun hb H2 e3 => ?_⟩
    · have := of_decide_eq_true hb
      rw [cast] at this
      have b4 : b ≤ 4 := by
        refine Nat.le_of_lt_succ (Nat.lt_of_not_le fun z => ?_)
        have : 2 ^ 5 ≤ 2 ^ b := Nat.pow_le_pow_right (by decide) z
        omega
      refine ⟨fun σ2 H3 => Ex H H3 ∧ σ2 = [some (V.int (many : Int)), some (V.int ((b + 1 : Nat) : Int))], fun σ2 H3 hN => ⟨5 - (b + 1), by omega, hN.1, b + 1, hN.2, by omega, by omega, rfl⟩, ?_⟩
      exact s_asg (ev_op (ev_var rfl) ev_c rv_I0) fun H3 e4 => ⟨(e2.trans e3).trans e4, rfl⟩
    · have := of_decide_eq_false hb
      rw [cast] at this
      exact s_ret (ev_var rfl) fun H3 e4 => q b b1 b2 (by omega) H3 ((e2.trans e3).trans e4)
end
end Sl
namespace Sl
open PySem PySem.Spec PyProof.Rows L2 Evl
section
variable {P : Program} {w : World} {K : PySem.W.Frag} {mg : Str → Option Value} {base : Heap} {t : Adr}
/-! _law_word_of -/
def spWordOf (K : PySem.W.Frag) (t : Adr) : SpE := fun a c vs H Q _ => ∃ (D : Addr) (nm : Str), c = .ref D ∧ vs = [.ref a] ∧ Err K t D nm ∧ RetU [.str "refused", .str nm] H Q
def told (nm : Str) (n : Str) : List V := if decide (nm = n) = true then [.str n] else []
theorem told_all {nm : Str} (h : nm ∈ errNames) : ((((((([] ++ told nm "NoWeights") ++ told nm "BadWeight") ++ told nm "BadBound") ++ told nm "NoRoom") ++ told nm "BadLengths") ++ told nm "BadWords") ++ told nm "BadBits") ++ told nm "NoSign" = [.str nm] := by
  unfold errNames at h
  simp only [List.mem_cons, List.not_mem_nil, or_false] at h
  rcases h with rfl | rfl | rfl | rfl | rfl | rfl | rfl | rfl <;> rfl
theorem told_len (nm n : Str) : (told nm n).length ≤ 1 := by
  unfold told
  split
  · exact Nat.le_refl _
  · exact Nat.zero_le _
theorem ok_lw_word_of (T : Top K mg t) : FnE P w K mg base 1 t.f_lw_word_of t.d_lw_word_of ["_law_error"] (spWordOf K t) := by
  refine fnE_of T.lw_word_of.F sc_lw_word_of (fun a c vs H Q E h => ?_) (fun cdv A outer s H vs Q E p c hz hf hr h => ?_)
  · obtain ⟨D, nm, rfl, rfl, _⟩ := h
    rfl
  · obtain ⟨D, nm, rfl, rfl, W, q⟩ := h
    refine ⟨_, (pss_cons (ps_set (i := 1) sc_lw_word_of.nd rfl (.inl rfl) (pe_lst pa_nil))
      (pss_cons (ps_if (pt_val (pe_callB (call_isP (List.mem_singleton.mpr rfl) hz hf) (by rfl) T.b.b_isinstance (by decide +kernel) (pa_cons (pv 0) (pa_cons (pe_glob (v := .ref t.C_NoWeights) rfl T.C_NoWeights.gC rfl) pa_nil)))) (pss_one (ps_expr (pe_bm PySem.F.plainAttrs_list PySem.F.slot_list_append PySem.F.type_list_append mt_append (pv 1) (pa_cons pe_str pa_nil)))) pss_nil)
      (pss_cons (ps_if (pt_val (pe_callB (call_isP (List.mem_singleton.mpr rfl) hz hf) (by rfl) T.b.b_isinstance (by decide +kernel) (pa_cons (pv 0) (pa_cons (pe_glob (v := .ref t.C_BadWeight) rfl T.C_BadWeight.gC rfl) pa_nil)))) (pss_one (ps_expr (pe_bm PySem.F.plainAttrs_list PySem.F.slot_list_append PySem.F.type_list_append mt_append (pv 1) (pa_cons pe_str pa_nil)))) pss_nil)
      (pss_cons (ps_if (pt_val (pe_callB (call_isP (List.mem_singleton.mpr rfl) hz hf) (by rfl) T.b.b_isinstance (by decide +kernel) (pa_cons (pv 0) (pa_cons (pe_glob (v := .ref t.C_BadBound) rfl T.C_BadBound.gC rfl) pa_nil)))) (pss_one (ps_expr (pe_bm PySem.F.plainAttrs_list PySem.F.slot_list_append PySem.F.type_list_append mt_append (pv 1) (pa_cons pe_str pa_nil)))) pss_nil)
      (pss_cons (ps_if (pt_val (pe_callB (call_isP (List.mem_singleton.mpr rfl) hz hf) (by rfl) T.b.b_isinstance (by decide +kernel) (pa_cons (pv 0) (pa_cons (pe_glob (v := .ref t.C_NoRoom) rfl T.C_NoRoom.gC rfl) pa_nil)))) (pss_one (ps_expr (pe_bm PySem.F.plainAttrs_list PySem.F.slot_list_append PySem.F.type_list_append mt_append (pv 1) (pa_cons pe_str pa_nil)))) pss_nil)
      (pss_cons (ps_if (pt_val (pe_callB (call_isP (List.mem_singleton.mpr rfl) hz hf) (by rfl) T.b.b_isinstance (by decide +kernel) (pa_cons (pv 0) (pa_cons (pe_glob (v := .ref t.C_BadLengths) rfl T.C_BadLengths.gC rfl) pa_nil)))) (pss_one (ps_expr (pe_bm PySem.F.plainAttrs_list PySem.F.slot_list_append PySem.F.type_list_append mt_append (pv 1) (pa_cons pe_str pa_nil)))) pss_nil)
      (pss_cons (ps_if (pt_val (pe_callB (call_isP (List.mem_singleton.mpr rfl) hz hf) (by rfl) T.b.b_isinstance (by decide +kernel) (pa_cons (pv 0) (pa_cons (pe_glob (v := .ref t.C_BadWords) rfl T.C_BadWords.gC rfl) pa_nil)))) (pss_one (ps_expr (pe_bm PySem.F.plainAttrs_list PySem.F.slot_list_append PySem.F.type_list_append mt_append (pv 1) (pa_cons pe_str pa_nil)))) pss_nil)
      (pss_cons (ps_if (pt_val (pe_callB (call_isP (List.mem_singleton.mpr rfl) hz hf) (by rfl) T.b.b_isinstance (by decide +kernel) (pa_cons (pv 0) (pa_cons (pe_glob (v := .ref t.C_BadBits) rfl T.C_BadBits.gC rfl) pa_nil)))) (pss_one (ps_expr (pe_bm PySem.F.plainAttrs_list PySem.F.slot_list_append PySem.F.type_list_append mt_append (pv 1) (pa_cons pe_str pa_nil)))) pss_nil)
      (pss_cons (ps_if (pt_val (pe_callB (call_isP (List.mem_singleton.mpr rfl) hz hf) (by rfl) T.b.b_isinstance (by decide +kernel) (pa_cons (pv 0) (pa_cons (pe_glob (v := .ref t.C_NoSign) rfl T.C_NoSign.gC rfl) pa_nil)))) (pss_one (ps_expr (pe_bm PySem.F.plainAttrs_list PySem.F.slot_list_append PySem.F.type_list_append mt_append (pv 1) (pa_cons pe_str pa_nil)))) pss_nil)
      (pss_cons (ps_if (PW.pt (pw_or (pt_cmpR op_ne (pe_callB (r := rLenS K) call_len_seq (by rfl) T.b.b_len (by decide +kernel) (pa_cons (pv 1) pa_nil)) pe_int (nomark _)) (pw_or1 (pt_not (pt_val (pe_callB (call_isP (List.mem_singleton.mpr rfl) hz hf) (by rfl) T.b.b_isinstance (by decide +kernel) (pa_cons (pv 0) (pa_cons (pe_bltn (v := .ty "ValueError") (by rfl) T.b.b_ValueError (by decide +kernel) rfl) pa_nil)))))))) (pss_one (ps_ret (pe_tup (pa_cons pe_str (pa_cons (pv 1) pa_nil))))) pss_nil)
      (pss_one (ps_ret (pe_tup (pa_cons pe_str (pa_cons (pe_ix (r := rIxL K) ix_list (pv 1) pe_int (fun _ _ => rfl)) pa_nil))))))))))))))), ?_⟩
    refine q_asgL (el_lst ea_nil (by decide)) fun l H1 hl e1 h1 => ?_
    have l1 := fun n => told_len nm n
    refine q_ifApp h1 (et_B (ev_isP W.C (ev_var rfl) ev_c (fun _ z => z) W.k1)) (ev_var rfl) ev_c (by simp) fun H2 b2 h2 => ?_
    refine q_ifApp h2 (et_B (ev_isP W.C (ev_var rfl) ev_c (fun _ z => z) W.k2)) (ev_var rfl) ev_c (by have := l1 "NoWeights"; unfold told at this; simp only [List.length_append, List.length_nil]; omega) fun H3 b3 h3 => ?_
    refine q_ifApp h3 (et_B (ev_isP W.C (ev_var rfl) ev_c (fun _ z => z) W.k3)) (ev_var rfl) ev_c (by have := l1 "NoWeights"; have := l1 "BadWeight"; unfold told at *; simp only [List.length_append, List.length_nil]; omega) fun H4 b4 h4 => ?_
    refine q_ifApp h4 (et_B (ev_isP W.C (ev_var rfl) ev_c (fun _ z => z) W.k4)) (ev_var rfl) ev_c (by have := l1 "NoWeights"; have := l1 "BadWeight"; have := l1 "BadBound"; unfold told at *; simp only [List.length_append, List.length_nil]; omega) fun H5 b5 h5 => ?_
    refine q_ifApp h5 (et_B (ev_isP W.C (ev_var rfl) ev_c (fun _ z => z) W.k5)) (ev_var rfl) ev_c (by have := l1 "NoWeights"; have := l1 "BadWeight"; have := l1 "BadBound"; have := l1 "NoRoom"; unfold told at *; simp only [List.length_append, List.length_nil]; omega) fun H6 b6 h6 => ?_
    refine q_ifApp h6 (et_B (ev_isP W.C (ev_var rfl) ev_c (fun _ z => z) W.k6)) (ev_var rfl) ev_c (by have := l1 "NoWeights"; have := l1 "BadWeight"; have := l1 "BadBound"; have := l1 "NoRoom"; have := l1 "BadLengths"; unfold told at *; simp only [List.length_append, List.length_nil]; omega) fun H7 b7 h7 => ?_
    refine q_ifApp h7 (et_B (ev_isP W.C (ev_var rfl) ev_c (fun _ z => z) W.k7)) (ev_var rfl) ev_c (by have := l1 "NoWeights"; have := l1 "BadWeight"; have := l1 "BadBound"; have := l1 "NoRoom"; have := l1 "BadLengths"; have := l1 "BadWords"; unfold told at *; simp only [List.length_append, List.length_nil]; omega) fun H8 b8 h8 => ?_
    refine q_ifApp h8 (et_B (ev_isP W.C (ev_var rfl) ev_c (fun _ z => z) W.k8)) (ev_var rfl) ev_c (by have := l1 "NoWeights"; have := l1 "BadWeight"; have := l1 "BadBound"; have := l1 "NoRoom"; have := l1 "BadLengths"; have := l1 "BadWords"; have := l1 "BadBits"; unfold told at *; simp only [List.length_append, List.length_nil]; omega) fun H9 b9 h9 => ?_
    have hx : H9 l = some (.lst [.str nm]) := h9.trans (congrArg (fun z => some (HO.lst z)) (told_all W.one))
    have step : ∀ {Ha Hb : Hp}, ExB l Ha Hb → Ex H Ha → Ex H Hb := fun {Ha Hb} eb ea c o hc => eb c o (ea c o hc) fun z => by rw [z, hl] at hc; cases hc
    have e9 : Ex H H9 := step b9 (step b8 (step b7 (step b6 (step b5 (step b4 (step b3 (step b2 e1)))))))
    refine q_when (et_or (et_test (ev_op (ev_len (ev_var rfl) (sq_of hx)) ev_c (rv_ne rfl))) fun _ => et_not (et_B (ev_isP W.C (ev_var rfl) ev_c (fun _ z => z) W.kV))) (fun hb _ _ => ?_) (fun hb H10 e10 => ?_)
    · exact absurd (show false = true from hb) (by decide)
    · refine s_retU (eu_tup (ea_cons ev_c (ea_cons (ev_op (ev_var rfl) ev_c (rv_ixL (sq_of (e10 _ _ hx)) rfl)) ea_nil)) (by show 2 ≤ 100000; decide)) fun r H11 hr e11 h11 => ?_
      exact q r H11 (fresh_back (e9.trans e10) hr) ((e9.trans e10).trans e11) h11
end
end Sl
namespace Sl
open PySem PySem.Spec PyProof.Rows L2 Evl
section
variable {P : Program} {w : World} {K : PySem.W.Frag} {mg : Str → Option Value} {base : Heap} {t : Adr}
/-! _law_words -/
def spWords (K : PySem.W.Frag) : Sp := fun vs H Q _ => ∃ (a : Addr) (ns : List Int) (first : Int), vs = [.ref a, .int first] ∧ SqL K H a (ns.map V.int) ∧ 0 ≤ first ∧ first ≤ 1000 ∧ ∀ us, GoodW us → RetL (us.map vtx) H Q
theorem ok_lw_words (T : Top K mg t) : FnOk P w K mg base CX0 2 t.f_lw_words t.d_lw_words ["_law_script", "_law_first"] (spWords K) := by
  refine T.lw_words.F.ok sc_lw_words (fun vs H Q E h => ?_) (fun cdv A outer s H vs Q E hr h => ?_)
  · obtain ⟨a, ns, first, rfl, _⟩ := h
    rfl
  · obtain ⟨a, ns, first, rfl, hS, f0, f1, q⟩ := h
    refine ⟨_, (pss_cons (ps_set (i := 2) sc_lw_words.nd rfl (.inl rfl) (pe_op op_mod (pe_call (ok_lw_cell T) (hr.mono (by decide)) (by rfl) T.lw_cell.g T.lw_cell.F.kp T.lw_cell.b .nil pass0 (pa_cons (pv 0) (pa_cons (pv 1) pa_nil))) pe_int))
      (pss_cons (ps_if (pt_cmpR op_eq (pe_op op_mod (pe_op op_fdiv (pe_call (ok_lw_cell T) (hr.mono (by decide)) (by rfl) T.lw_cell.g T.lw_cell.F.kp T.lw_cell.b .nil pass0 (pa_cons (pv 0) (pa_cons (pv 1) pa_nil))) pe_int) pe_int) pe_int (nomark _)) (pss_one (ps_set (i := 2) sc_lw_words.nd rfl (.inl rfl) (pe_op op_mod (pe_op op_fdiv (pe_call (ok_lw_cell T) (hr.mono (by decide)) (by rfl) T.lw_cell.g T.lw_cell.F.kp T.lw_cell.b .nil pass0 (pa_cons (pv 0) (pa_cons (pv 1) pa_nil))) pe_int) pe_int))) pss_nil)
      (pss_cons (ps_if (pt_cmpR op_eq (pv 2) pe_int (nomark _)) (pss_one (ps_ret (pe_lst pa_nil))) pss_nil)
      (pss_cons (ps_set (i := 3) sc_lw_words.nd rfl (.inl rfl) (pe_lst (pa_cons pe_str pa_nil)))
      (pss_cons (ps_for PassesOwn.never rfl (pi_range1 (by rfl) T.b.b_range (pa_cons (pe_op op_add (pe_op op_sub (pv 2) pe_int) (pe_op op_mod (pe_call (ok_lw_cell T) (hr.mono (by decide)) (by rfl) T.lw_cell.g T.lw_cell.F.kp T.lw_cell.b .nil pass0 (pa_cons (pv 0) (pa_cons (pe_op op_add (pv 1) pe_int) pa_nil))) pe_int)) pa_nil)) (pg_name (i := 4) sc_lw_words.nd rfl (.inl rfl)) (pss_cons (ps_setLc (i := 6) (own := [("_law_word", 5)]) (g := gName 5)  rfl sc_lw_words.nd rfl rfl (sw_true rfl rfl rfl (by decide +kernel)) (pi_list (pv 3)) (blkOk_by (own := [("_law_word", 5)]) (N := N_lw_words) (sc := defScope s_lw_words) (by decide +kernel)) (fun _ _ _ _ _ => (pg_name (i := 5) sc_lw_words.nd rfl (.inl rfl))) (fun _ _ _ _ _ => (pts_one (pt_cmpR op_lt (pe_callB (r := rLenTx) call_len_str (by rfl) T.b.b_len (by decide +kernel) (pa_cons (pv 5) pa_nil)) pe_int (nomark _)))) (fun _ _ _ _ _ => (pv 5)))
      (pss_cons (ps_set (i := 5) sc_lw_words.nd rfl (.inl rfl) (pe_ix (r := rIxL K) ix_list (pv 6) (pe_op op_mod (pe_call (ok_lw_cell T) (hr.mono (by decide)) (by rfl) T.lw_cell.g T.lw_cell.F.kp T.lw_cell.b .nil pass0 (pa_cons (pv 0) (pa_cons (pe_op op_add (pe_op op_add (pv 1) pe_int) (pv 4)) pa_nil))) (pe_callB (r := rLenS K) call_len_seq (by rfl) T.b.b_len (by decide +kernel) (pa_cons (pv 6) pa_nil))) (fun _ _ => rfl)))
      (pss_cons (ps_set (i := 7) sc_lw_words.nd rfl (.inl rfl) (pe_bm PySem.F.plainAttrs_list PySem.F.slot_list_index PySem.F.type_list_index mt_index (pv 3) (pa_cons (pv 5) pa_nil)))
      (pss_one (ps_set (i := 3) sc_lw_words.nd rfl (.inl rfl) (pe_op op_cat (pe_op op_cat (pe_slice (r := rSlL K) sl_list (pv 3) po_none (po_some (pv 7))) (pe_lst (pa_cons (pe_op op_add_str (pv 5) pe_str) (pa_cons (pe_op op_add_str (pv 5) pe_str) pa_nil)))) (pe_slice (r := rSlL K) sl_list (pv 3) (po_some (pe_op op_add (pv 7) pe_int)) po_none))))))))
      (pss_cut (ps_if (pt_cmpR (r := rEqD K) (op_eqD hr.units) (pv 3) (pe_lst (pa_cons pe_str pa_nil)) (nomark _)) (pss_one (ps_set (i := 3) sc_lw_words.nd rfl (.inl rfl) (pe_lst (pa_cons pe_str (pa_cons pe_str pa_nil))))) pss_nil)
      (pss_cons (ps_set (i := 8) sc_lw_words.nd rfl (.inl rfl) (pe_lst pa_nil))
      (pss_cons (ps_for PassesOwn.never rfl (pi_range1 (by rfl) T.b.b_range (pa_cons (pe_callB (r := rMin2) (call_min2 rfl) (by rfl) T.b.b_min (by decide +kernel) (pa_cons (pv 2) (pa_cons (pe_callB (r := rLenS K) call_len_seq (by rfl) T.b.b_len (by decide +kernel) (pa_cons (pv 3) pa_nil)) pa_nil))) pa_nil)) (pg_name (i := 4) sc_lw_words.nd rfl (.inl rfl)) (pss_one (ps_expr (pe_bm PySem.F.plainAttrs_list PySem.F.slot_list_append PySem.F.type_list_append mt_append (pv 8) (pa_cons (pe_bm PySem.F.plainAttrs_list PySem.F.slot_list_pop PySem.F.type_list_pop mt_popAt (pv 3) (pa_cons (pe_op op_mod (pe_call (ok_lw_cell T) (hr.mono (by decide)) (by rfl) T.lw_cell.g T.lw_cell.F.kp T.lw_cell.b .nil pass0 (pa_cons (pv 0) (pa_cons (pe_op op_add (pe_op op_add (pv 1) pe_int) (pv 4)) pa_nil))) (pe_callB (r := rLenS K) call_len_seq (by rfl) T.b.b_len (by decide +kernel) (pa_cons (pv 3) pa_nil))) pa_nil)) pa_nil)))))
      (pss_one (ps_ret (pv 8))))))))))), ?_⟩
    have cell : ∀ (σ : L2.St) (H1 : Hp), σ[0]? = some (some (V.ref a)) → σ[1]? = some (some (V.int first)) → Ex H H1 → Ev (tCall (spLwCell K) [] E0 (tCons (tVar 0) (tCons (tVar 1) tNil))) σ H1 (.int (lwCell ns first)) := fun σ H1 h0 h1 e => ev_call (ea_cons (ev_var h0) (ea_cons (ev_var h1) ea_nil)) (sv_cell (ex_l e hS) f0 (by omega))
    obtain ⟨n0, c0, d0⟩ := mod_nat (lwCell ns first) (show 0 < 9 by decide)
    obtain ⟨n1, c1, d1⟩ := mod_nat (lwCell ns first / 72) (show 0 < 25 by decide)
    refine q_asg (v := .int (n0 : Int)) (ev_is (ev_op (cell _ _ rfl rfl (Ex.refl _)) ev_c (rv_I (by decide))) (congrArg V.int c0)) fun H1 e1 => ?_
    obtain ⟨m, hm2, hm⟩ : ∃ m : Nat, m ≤ 24 ∧ (if decide (V.int (lwCell ns first / 9 % 8) = V.int 1) = true then V.int (n1 : Int) else V.int (n0 : Int)) = V.int (m : Int) := by
      split
      · exact ⟨n1, by omega, rfl⟩
      · exact ⟨n0, by omega, rfl⟩
    refine q_ifAsg (i := 2) (v := .int (m : Int)) (et_test (ev_op (ev_op (ev_op (cell _ _ rfl rfl e1) ev_c (rv_I ⟨by decide, by decide⟩)) ev_c (rv_I (by decide))) ev_c (rv_eq rfl))) (fun hd => ?_) (fun hd => ?_) fun H2 e2 => ?_
    · rw [if_pos hd] at hm
      rw [← hm]
      exact ev_is (ev_op (ev_op (cell _ _ rfl rfl e1) ev_c (rv_I ⟨by decide, by decide⟩)) ev_c (rv_I (by decide))) (congrArg V.int c1)
    · rw [if_neg (by rw [hd]; decide)] at hm
      rw [← hm]
      rfl
    clear hm
    have e12 := e1.trans e2
    refine q_when (et_test (ev_op (ev_var rfl) ev_c (rv_eq rfl))) (fun _ H3 e3 => ?_) (fun hm0 H3 e3 => ?_)
    · exact s_retL (el_lst ea_nil (by decide)) fun p H4 hp e4 h4 => q [] ⟨Nat.zero_le _, (fun _ h => by cases h), List.Pairwise.nil⟩ p H4 (fresh_back (e12.trans e3) hp) ((e12.trans e3).trans e4) h4
    have hm1 : 1 ≤ m := Nat.pos_of_ne_zero fun z => by
      rw [z] at hm0
      exact absurd hm0 (by decide)
    have e13 := e12.trans e3
    refine q_asgL (xs := [[]].map vtx) (el_lst (ea_cons ev_c ea_nil) (by decide)) fun ph H4 hph e4 h4 => ?_
    have e14 := e13.trans e4
    obtain ⟨n2, c2, d2⟩ := mod_nat (lwCell ns (first + 1)) (show 0 < 3 by decide)
    refine q_forR1 (n := ((m - 1 + n2 : Nat) : Int)) (ea_cons (ev_is (ev_op (ev_op (ev_var rfl) ev_c rv_I0) (ev_op (ev_call (ea_cons (ev_var rfl) (ea_cons (ev_op (ev_var rfl) ev_c rv_I0) ea_nil)) (sv_cell (ex_l e14 hS) (by omega) (by omega))) ev_c (rv_I (by decide))) rv_I0) (congrArg V.int (by rw [show lwCell ns (first + 1) % 3 = (n2 : Int) from c2]; omega))) ea_nil) ⟨by omega, by omega⟩
      (fun i σ' H' => Ex H H' ∧ ∃ (p : Addr) (xs : List (List Nat)) (v4 v5 v6 v7 : Option V), σ' = [some (V.ref a), some (V.int first), some (V.int (m : Int)), some (V.ref p), v4, v5, v6, v7, none] ∧ H p = none ∧ H' p = some (.lst (xs.map vtx)) ∧ LW [] xs ∧ (∀ w ∈ xs, w.length ≤ 12) ∧ xs.length = i + 1)
      (fun H5 e5 => ⟨e14.trans e5, ph, [[]], none, none, none, none, rfl, fresh_back e13 hph, e5 _ _ h4, .leaf [], fun w hw => by rw [List.mem_singleton.mp hw]; exact Nat.zero_le _, rfl⟩) (fun i σ' H' hi hP => ?_) fun σ' H' hP => ?_
    · obtain ⟨e5, p, xs, v4, v5, v6, v7, rfl, np, hp, hL, hw, hl⟩ := hP
      have xl : xs.length ≤ 30 := by omega
      have cS := el_lcL (K := K) (σ := [some (V.ref a), some (V.int first), some (V.int (m : Int)), some (V.ref p), some (V.int (i : Int)), v5, v6, v7, none]) (H := H') (a := p) (xs := xs.map vtx) (tl := tVar 3) (j := 5) (vs := [5]) (te := tVar 5)
        (t := tTest (tOp (rI0 fun i j => .bl (decide (i < j))) (tCB rLenTx (tCons (tVar 5) tNil)) (tC (.int 12)))) (fun i => decide ((xs.getD i []).length < 12)) (fun i => vtx (xs.getD i [])) (ev_var rfl) (sq_of hp) (by rw [List.length_map]; omega) (fun x => rfl)
        (fun i x H3 e3 hx => by
          rw [List.getElem?_map] at hx
          obtain ⟨u, h1, rfl⟩ := Option.map_eq_some_iff.mp hx
          have := hw u (List.mem_of_getElem? h1)
          rw [List.getD_eq_getElem?_getD, h1]
          refine et_is (et_test (ev_op (ev_lenTx (l := u) (ev_var rfl) (by omega)) ev_c rv_I0)) ?_
          exact decide_eq_decide.mpr (by show ((u.length : Int) < 12 ↔ u.length < 12); omega))
        (fun i x H3 e3 hx _ => by
          rw [List.getElem?_map] at hx
          obtain ⟨u, h1, rfl⟩ := Option.map_eq_some_iff.mp hx
          rw [List.getD_eq_getElem?_getD, h1]
          exact ev_var rfl)
      rw [given_filterW (by rw [List.length_map]) fun w => decide (w.length < 12)] at cS
      obtain ⟨ks, hks⟩ : ∃ ks, ks = xs.filter fun w => decide (w.length < 12) := ⟨_, rfl⟩
      rw [← hks] at cS
      have kmem : ∀ w ∈ ks, w ∈ xs ∧ w.length < 12 := fun w h => by
        rw [hks] at h
        obtain ⟨h1, h2⟩ := List.mem_filter.mp h
        exact ⟨h1, of_decide_eq_true h2⟩
      have kpos : 0 < ks.length := by
        refine List.length_pos_iff.mpr fun z => ?_
        rw [hks, List.filter_eq_nil_iff] at z
        have k := hL.many (fun w h => by
          have k1 := hw w h
          have k2 := z w h
          simp only [decide_eq_true_eq] at k2
          omega) (Nat.zero_le _)
        rw [k] at xl
        exact absurd xl (by decide)
      have kl : ks.length ≤ 30 := by
        rw [hks]
        exact Nat.le_trans (List.length_filter_le _ _) xl
      refine q_asgL cS fun r H6 hr e6 h6 => ?_
      have e56 := e5.trans e6
      obtain ⟨j, cj, dj⟩ := mod_nat (lwCell ns (first + 2 + (i : Int))) kpos
      obtain ⟨w, hwe⟩ : ∃ w, w = ks[j] := ⟨_, rfl⟩
      have gj : ks[j]? = some w := by rw [hwe]; exact List.getElem?_eq_getElem dj
      obtain ⟨wm, wl⟩ := kmem w (List.mem_of_getElem? gj)
      refine q_asg (v := vtx w) (ev_op (ev_var rfl) (ev_is (ev_op (ev_call (ea_cons (ev_var rfl) (ea_cons (ev_op (ev_op (ev_var rfl) ev_c rv_I0) (ev_var rfl) rv_I0) ea_nil)) (sv_cell (ex_l e56 hS) (by omega) (by omega))) (ev_is (ev_len (ev_var rfl) (sq_of h6)) (by rw [List.length_map])) (rv_I (show (0 : Int) < (ks.length : Int) by omega))) (congrArg V.int cj)) (rv_ixL (sq_of h6) (atI_nat (by rw [List.getElem?_map, gj]; rfl)))) fun H7 e7 => ?_
      have e57 := e56.trans e7
      have h7 := (e6.trans e7) _ _ hp
      refine q_asg (ev_indexW (ev_var rfl) (ev_var rfl) (sq_of h7) wm) fun H8 e8 => ?_
      have e58 := e57.trans e8
      have h8 := e8 _ _ h7
      obtain ⟨at_, hat⟩ : ∃ at_, at_ = xs.idxOf w := ⟨_, rfl⟩
      have hai : at_ < xs.length := by rw [hat]; exact List.idxOf_lt_length_iff.mpr wm
      have gat : xs[at_] = w := by subst hat; exact List.getElem_idxOf hai
      rw [← hat]
      have xe : xs = xs.take at_ ++ w :: xs.drop (at_ + 1) := by
        conv => lhs; rw [← List.take_append_drop at_ xs, List.drop_eq_getElem_cons hai, gat]
      have cA := el_sl (K := K) (σ := [some (V.ref a), some (V.int first), some (V.int (m : Int)), some (V.ref p), some (V.int (i : Int)), some (vtx w), some (V.ref r), some (V.int (at_ : Int)), none]) (H := H8) (te := tVar 3) (tl := tNoPart) (th := tPart (tVar 7)) (ev_var rfl) eo_none (eo_some (ev_var rfl)) (sq_of h8)
      have cB := el_sl (K := K) (σ := [some (V.ref a), some (V.int first), some (V.int (m : Int)), some (V.ref p), some (V.int (i : Int)), some (vtx w), some (V.ref r), some (V.int (at_ : Int)), none]) (H := H8) (te := tVar 3) (tl := tPart (tOp (rI0 fun i j => .int (i + j)) (tVar 7) (tC (.int 1)))) (th := tNoPart) (ev_var rfl) (eo_some (ev_op (ev_var rfl) ev_c rv_I0)) eo_none (sq_of h8)
      rw [cutV_to] at cA
      rw [show (at_ : Int) + 1 = ((at_ + 1 : Nat) : Int) by omega, cutV_from] at cB
      refine s_asgL (el_cat (el_cat cA (el_lst (ea_cons (ev_catS (b := [48]) (ev_var rfl) ev_c (by show w.length + 1 ≤ 1000; omega)) (ea_cons (ev_catS (b := [49]) (ev_var rfl) ev_c (by show w.length + 1 ≤ 1000; omega)) ea_nil)) (by show 2 ≤ 100000; decide)) (by simp; omega)) cB (by simp; omega)) fun u H9 hu e9 h9 => ?_
      refine ⟨e58.trans e9, u, xs.take at_ ++ [w ++ [48], w ++ [49]] ++ xs.drop (at_ + 1), _, _, _, _, rfl, fresh_back e58 hu, ?_, hL.split _ _ w xe, fun v hv => ?_, ?_⟩
      · rw [h9, List.map_append, List.map_append, List.map_take, List.map_drop]
        rfl
      · rcases List.mem_append.mp hv with hv | hv
        · rcases List.mem_append.mp hv with hv | hv
          · exact hw v (List.mem_of_mem_take hv)
          · simp only [List.mem_cons, List.not_mem_nil, or_false] at hv
            rcases hv with rfl | rfl <;> (rw [List.length_append]; show w.length + 1 ≤ 12; omega)
        · exact hw v (List.mem_of_mem_drop hv)
      · rw [List.length_append, List.length_append, List.length_take, List.length_drop]
        simp only [List.length_cons, List.length_nil]
        omega
    obtain ⟨e5, p, xs, v4, v5, v6, v7, rfl, np, hp, hL, hw, hl⟩ := hP
    rw [Int.toNat_natCast] at hl
    have hbits : ∀ w ∈ xs, ∀ c ∈ w, c = 48 ∨ c = 49 := fun w h c hc => by
      obtain ⟨s, rfl, hs⟩ := hL.pre w h
      exact hs c hc
    have small : ∀ u ∈ xs, ∀ c ∈ u, c < 0x110000 := fun u h c hc => by rcases hbits u h c hc with e | e <;> omega
    refine q_cut (M := fun σ'' H'' => Ex H H'' ∧ ∃ (p : Addr) (xs : List (List Nat)) (v4 v5 v6 v7 : Option V), σ'' = [some (V.ref a), some (V.int first), some (V.int (m : Int)), some (V.ref p), v4, v5, v6, v7, none] ∧ H p = none ∧ H'' p = some (.lst (xs.map vtx)) ∧
      (∀ u ∈ xs, 1 ≤ u.length ∧ u.length ≤ 12 ∧ ∀ c ∈ u, c = 48 ∨ c = 49) ∧ xs.Pairwise ApR ∧ xs.length ≤ 30) ?_ fun σ'' H'' hM => ?_
    · refine s_when (et_test (ev_eqVW (ys := [[]]) (ev_var rfl) (el_lst (ea_cons ev_c ea_nil) (by show 1 ≤ 100000; decide)) (sq_of hp) small (fun u h c hc => by rw [List.mem_singleton.mp h] at hc; cases hc))) (fun _ H6 e6 => ?_) (fun hb H6 e6 => ?_)
      · refine s_asgL (xs := [[48], [49]].map vtx) (el_lst (ea_cons ev_c (ea_cons ev_c ea_nil)) (by show 2 ≤ 100000; decide)) fun u H7 hu e7 h7 => ?_
        refine ⟨(e5.trans e6).trans e7, u, [[48], [49]], _, _, _, _, rfl, fresh_back (e5.trans e6) hu, h7, fun w hw => ?_, ?_, by show 2 ≤ 30; decide⟩
        · simp only [List.mem_cons, List.not_mem_nil, or_false] at hw
          rcases hw with rfl | rfl <;> simp
        · exact List.pairwise_pair.mpr ⟨by decide, by decide⟩
      · have hne : xs ≠ [[]] := fun z => by
          rw [z, eqv_same (shaped_txs (ws := [[]]) fun u h c hc => by rw [List.mem_singleton.mp h] at hc; cases hc)] at hb
          cases hb
        exact ⟨e5.trans e6, p, xs, _, _, _, _, rfl, np, e6 _ _ hp, fun u h => ⟨hL.long hne u h, hw u h, hbits u h⟩, hL.apart, by omega⟩
    clear hp hL hw hl hbits small np e5
    obtain ⟨e6, p, xs, v4, v5, v6, v7, rfl, np, hp, hG, hA, hl⟩ := hM
    refine q_asgL (xs := ([] : List (List Nat)).map vtx) (el_lst ea_nil (by decide)) fun pf H7 npf e7 h7 => ?_
    have e67 := e6.trans e7
    have hne : p ≠ pf := fun z => by rw [z, npf] at hp; cases hp
    have npf0 : H pf = none := fresh_back e6 npf
    obtain ⟨n, hn, hn1, hn2⟩ : ∃ n : Nat, (if ((xs.map vtx).length : Int) < (m : Int) then ((xs.map vtx).length : Int) else (m : Int)) = (n : Int) ∧ n ≤ 24 ∧ n ≤ xs.length := by
      rw [List.length_map]
      split
      · exact ⟨xs.length, rfl, by omega, Nat.le_refl _⟩
      · exact ⟨m, rfl, hm2, by omega⟩
    refine q_forR1 (n := (n : Int)) (ea_cons (ev_is (ev_min2 (ev_var rfl) (ev_len (ev_var rfl) (sq_of (e7 _ _ hp)))) (congrArg V.int hn)) ea_nil) ⟨by omega, by omega⟩
      (fun i σ' H' => Ex H H' ∧ ∃ (L F : List (List Nat)) (v : Option V), σ' = [some (V.ref a), some (V.int first), some (V.int (m : Int)), some (V.ref p), v, v5, v6, v7, some (V.ref pf)] ∧ H' p = some (.lst (L.map vtx)) ∧ H' pf = some (.lst (F.map vtx)) ∧ (F ++ L).Perm xs ∧ F.length = i)
      (fun H8 e8 => ⟨e67.trans e8, xs, [], v4, rfl, (e7.trans e8) _ _ hp, e8 _ _ h7, List.Perm.refl _, rfl⟩) (fun i σ' H' hi hP => ?_) (fun σ' H' hP => ?_)
    · obtain ⟨e3, L, F, v, rfl, hL, hF, hpm, hlF⟩ := hP
      have hlen : F.length + L.length = xs.length := by
        have := hpm.length_eq
        rw [List.length_append] at this
        exact this
      have hLp : 0 < L.length := by omega
      obtain ⟨j, cj, hjl⟩ := mod_nat (lwCell ns (first + 30 + (i : Int))) hLp
      have hix := ev_op (r := rI (fun _ j => 0 < j) fun i j => .int (i % j)) (σ := [some (V.ref a), some (V.int first), some (V.int (m : Int)), some (V.ref p), some (V.int (i : Int)), v5, v6, v7, some (V.ref pf)]) (H := H')
        (ev_call (E := E0) (sp := spLwCell K) (dvs := []) (ea_cons (ev_var (i := 0) rfl) (ea_cons (ev_op (r := rI0 fun i j => .int (i + j)) (ev_op (r := rI0 fun i j => .int (i + j)) (ev_var (i := 1) rfl) (ev_c (v := .int 30)) rv_I0) (ev_var (i := 4) rfl) rv_I0) ea_nil)) (sv_cell (ex_l e3 hS) (by omega) (by omega)))
        (ev_is (ev_len (K := K) (ev_var (i := 3) rfl) (sq_of hL)) (by rw [List.length_map])) (rv_I (show (0 : Int) < (L.length : Int) by omega))
      rw [cj] at hix
      refine ⟨.ref pf, rfl, .inl ⟨rfl, _, sq_of hF⟩, .ref p, rfl, .inl ⟨rfl, _, sq_of hL⟩, ?_⟩
      refine hix H' (Ex.refl _) _ fun H4 e4 => ?_
      have hL4 := e4 _ _ hL
      have hF4 := e4 _ _ hF
      refine ⟨p, _, (j : Int), j, vtx L[j], rfl, rfl, hL4, by omega, by omega, ?_, ?_, ?_⟩
      · rw [List.length_map]
        exact seqIndexW hjl
      · rw [List.getElem?_map, List.getElem?_eq_getElem hjl]
        rfl
      · refine ⟨pf, _, _, rfl, rfl, by rw [upd_ne (Ne.symm hne)]; exact hF4, sz_lt (by rw [List.length_map]; omega), ?_⟩
        refine ⟨Ex.mut (Ex.mut (e3.trans e4) np) npf0, L.eraseIdx j, F ++ [L[j]], some (V.int (i : Int)), rfl, ?_, ?_, ?_, ?_⟩
        · rw [upd_ne hne, upd_same, map_eraseW]
        · rw [upd_same, List.map_append]
          rfl
        · refine List.Perm.trans ?_ hpm
          rw [List.append_assoc]
          refine List.Perm.append_left F ?_
          show (L[j] :: L.eraseIdx j).Perm L
          exact perm_eraseW hjl
        · rw [List.length_append, hlF]
          rfl
    · obtain ⟨e3, L, F, v, rfl, hL, hF, hpm, hlF⟩ := hP
      refine s_ret (ev_var rfl) fun H4 e4 => ?_
      rw [Int.toNat_natCast] at hlF
      have hG' : GoodW F := ⟨by omega, fun u h => hG u (hpm.mem_iff.mp (List.mem_append_left _ h)), (List.pairwise_append.mp ((hpm.pairwise_iff fun {u v} z => ⟨z.2, z.1⟩).mpr hA)).1⟩
      exact q F hG' pf H4 npf0 (e3.trans e4) (e4 _ _ hF)
end
end Sl
namespace Sl
open PySem PySem.Spec PyProof.Rows L2 Evl
section
variable {P : Program} {w : World} {K : PySem.W.Frag} {mg : Str → Option Value} {base : Heap} {t : Adr}
/-! _law_apart -/
def Apart (ws : List (List Nat)) : Prop := ∀ (i j : Nat) (u v : List Nat), i ≠ j → ws[i]? = some u → ws[j]? = some v → v.take u.length ≠ u
theorem apart_pairs {ws : List (List Nat)} (h : Apart ws) : ws.Pairwise ApR := List.pairwise_iff_getElem.mpr fun i j hi hj hij => ⟨h i j _ _ (by omega) (List.getElem?_eq_getElem hi) (List.getElem?_eq_getElem hj), h j i _ _ (by omega) (List.getElem?_eq_getElem hj) (List.getElem?_eq_getElem hi)⟩
def spApart (K : PySem.W.Frag) : Sp := fun vs H Q _ => ∃ (a : Addr) (ws : List (List Nat)), vs = [.ref a] ∧ SqL K H a (ws.map vtx) ∧ ws.length ≤ 1000 ∧ (∀ u ∈ ws, u.length ≤ 1000) ∧ (Apart ws → RetV (.bl true) H Q) ∧ (¬ Apart ws → RetV (.bl false) H Q)
theorem at_vtx {ws : List (List Nat)} {i : Nat} {u : List Nat} (h : ws[i]? = some u) : atI (ws.map vtx) (i : Int) = some (.str (tx u)) := by
  refine atI_nat ?_
  rw [List.getElem?_map, h]
  rfl
theorem ok_lw_apart (T : Top K mg t) : FnOk P w K mg base CX0 1 t.f_lw_apart t.d_lw_apart ["_law_words_here"] (spApart K) := by
  refine T.lw_apart.F.ok sc_lw_apart (fun vs H Q E h => ?_) (fun cdv A outer s H vs Q E hr h => ?_)
  · obtain ⟨a, ws, rfl, _⟩ := h
    rfl
  · obtain ⟨a, ws, rfl, hS, h1, h2, qy, qn⟩ := h
    refine ⟨_, (pss_cons (ps_for PassesOwn.never rfl (pi_range1 (by rfl) T.b.b_range (pa_cons (pe_callB (r := rLenS K) call_len_seq (by rfl) T.b.b_len (by decide +kernel) (pa_cons (pv 0) pa_nil)) pa_nil)) (pg_name (i := 1) sc_lw_apart.nd rfl (.inl rfl)) (pss_one (ps_for PassesOwn.never rfl (pi_range1 (by rfl) T.b.b_range (pa_cons (pe_callB (r := rLenS K) call_len_seq (by rfl) T.b.b_len (by decide +kernel) (pa_cons (pv 0) pa_nil)) pa_nil)) (pg_name (i := 2) sc_lw_apart.nd rfl (.inl rfl)) (pss_one (ps_if (PW.pt (pw_and (pt_cmpR op_ne (pv 1) (pv 2) (nomark _)) (pw_and1 (pt_cmpR op_eq (pe_slice sl_str (pe_ix (r := rIxL K) ix_list (pv 0) (pv 2) (fun _ _ => rfl)) po_none (po_some (pe_callB (r := rLenTx) call_len_str (by rfl) T.b.b_len (by decide +kernel) (pa_cons (pe_ix (r := rIxL K) ix_list (pv 0) (pv 1) (fun _ _ => rfl)) pa_nil)))) (pe_ix (r := rIxL K) ix_list (pv 0) (pv 1) (fun _ _ => rfl)) (nomark _))))) (pss_one (ps_ret pe_bl)) pss_nil)))))
      (pss_one (ps_ret pe_bl))), ?_⟩
    refine q_forR1 (n := (ws.length : Int)) (ea_cons (ev_is (ev_len (ev_var rfl) hS) (by rw [List.length_map])) ea_nil) ⟨by omega, by omega⟩ (fun i σ' H' => Ex H H' ∧ (∀ (i' j' : Nat) (u v : List Nat), i' < i → i' ≠ j' → ws[i']? = some u → ws[j']? = some v → v.take u.length ≠ u) ∧ ∃ v1 v2, σ' = [some (V.ref a), v1, v2]) (fun H2 e2 => ⟨e2, (fun _ _ _ _ h => by omega), none, none, rfl⟩) (fun i σ' H' hi hP => ?_) (fun σ' H' hP => ?_)
    · obtain ⟨e2, ho, v1, v2, rfl⟩ := hP
      refine s_forR1 (n := (ws.length : Int)) (ea_cons (ev_is (ev_len (ev_var rfl) (ex_l e2 hS)) (by rw [List.length_map])) ea_nil) ⟨by omega, by omega⟩ (fun j σ' H' => Ex H H' ∧ (∀ (j' : Nat) (u v : List Nat), j' < j → i ≠ j' → ws[i]? = some u → ws[j']? = some v → v.take u.length ≠ u) ∧ ∃ v2, σ' = [some (V.ref a), some (V.int (i : Int)), v2]) (fun H3 e3 => ⟨e2.trans e3, (fun _ _ _ h => by omega), v2, rfl⟩) (fun j σ' H' hj hP => ?_) (fun σ' H' hP => ?_)
      · obtain ⟨e3, hb0, v2, rfl⟩ := hP
        have gi : ws[i]? = some ws[i] := List.getElem?_eq_getElem (by omega)
        have gj : ws[j]? = some ws[j] := List.getElem?_eq_getElem (by omega)
        refine s_when (et_and (et_test (ev_op (ev_var rfl) (ev_var rfl) (rv_ne rfl))) fun _ => et_test (ev_op (ev_slTo (ev_op (ev_var rfl) (ev_var rfl) (rv_ixL (ex_l e3 hS) (at_vtx gj))) (eo_some (ev_lenTx (ev_op (ev_var rfl) (ev_var rfl) (rv_ixL (ex_l e3 hS) (at_vtx gi))) (by have := h2 _ (List.mem_of_getElem? gi); omega))) (by have := h2 _ (List.mem_of_getElem? gj); omega)) (ev_op (ev_var rfl) (ev_var rfl) (rv_ixL (ex_l e3 hS) (at_vtx gi))) (rv_eq rfl))) (fun hb H4 e4 => ?_) (fun hb H4 e4 => ?_)
        · refine s_ret ev_c fun H5 e5 => qn (fun z => ?_) H5 ((e3.trans e4).trans e5)
          rw [Bool.and_eq_true] at hb
          have n1 : i ≠ j := fun z => by
            subst z
            have := hb.1
            simp at this
          exact z i j _ _ n1 gi gj (tx_inj (V.str.inj (of_decide_eq_true hb.2)))
        · refine ⟨e3.trans e4, fun j' u v hj' hij gu gv => ?_, _, rfl⟩
          by_cases e : j' = j
          · subst e
            rw [gi] at gu
            rw [gj] at gv
            cases gu
            cases gv
            intro z
            rw [Bool.and_eq_false_iff] at hb
            rcases hb with hb | hb
            · rw [decide_eq_false (fun z => hij (by have := V.int.inj z; omega))] at hb
              cases hb
            · exact of_decide_eq_false hb (by rw [z])
          · exact hb0 j' u v (by omega) hij gu gv
      · obtain ⟨e3, hb0, v2, rfl⟩ := hP
        rw [Int.toNat_natCast] at hb0
        refine ⟨e3, fun i' j' u v hi' hij gu gv => ?_, _, _, rfl⟩
        by_cases e : i' = i
        · subst e
          exact hb0 j' u v (List.getElem?_eq_some_iff.mp gv).1 hij gu gv
        · exact ho i' j' u v (by omega) hij gu gv
    · obtain ⟨e2, ho, v1, v2, rfl⟩ := hP
      rw [Int.toNat_natCast] at ho
      exact s_ret ev_c fun H3 e3 => qy (fun i j u v hij gu gv => ho i j u v (List.getElem?_eq_some_iff.mp gu).1 hij gu gv) H3 (e2.trans e3)
end
end Sl
namespace Sl
open PySem PySem.Spec PyProof.Rows L2 Evl
section
variable {P : Program} {w : World} {K : PySem.W.Frag} {mg : Str → Option Value} {base : Heap} {t : Adr}
/-! _law_spoiled -/
def spSpoil (K : PySem.W.Frag) : Sp := fun vs H Q _ => ∃ (a : Addr) (us : List (List Nat)) (way cell : Int), vs = [.ref a, .int way, .int cell] ∧ H a = some (.lst (us.map vtx)) ∧ us.length ≤ 24 ∧ (∀ u ∈ us, u.length ≤ 12 ∧ ∀ c ∈ u, c < 0x110000) ∧ 0 ≤ way ∧ way ≤ 4 ∧
  ∀ xs' H', H' a = some (.lst xs') → ThW H' xs' → xs'.length ≤ 60 → (∀ b o, H b = some o → b ≠ a → H' b = some o) → Q .non H'
theorem word_v {u : List Nat} {H : Hp} (h : u.length ≤ 1000 ∧ ∀ c ∈ u, c < 0x110000) : WordV (vtx u) H := ⟨.inr (.inr (.inr (.inl ⟨_, rfl⟩))), fun s hs => by
  cases hs
  refine ⟨?_, h.2⟩
  show u.toArray.size ≤ 1000
  simp
  exact h.1⟩
theorem thw_words {us : List (List Nat)} {H : Hp} (h : ∀ u ∈ us, u.length ≤ 1000 ∧ ∀ c ∈ u, c < 0x110000) : ThW H (us.map vtx) := fun x hx => by
  obtain ⟨u, hu, rfl⟩ := List.mem_map.mp hx
  exact word_v (h u hu)
theorem word_s {z : Str} {H : Hp} (h : z.cps.size ≤ 1000 ∧ ∀ c ∈ z.cps.toList, c < 0x110000) : WordV (.str z) H := ⟨.inr (.inr (.inr (.inl ⟨_, rfl⟩))), fun s hs => by
  cases hs
  exact h⟩
theorem thw_in {us : List (List Nat)} {H : Hp} {v : V} {n : Nat} (h : ∀ u ∈ us, u.length ≤ 1000 ∧ ∀ c ∈ u, c < 0x110000) (k : WordV v H) : ThW H ((us.map vtx).take n ++ [v] ++ (us.map vtx).drop n) := fun x hx => by
  rcases List.mem_append.mp hx with hx | hx
  · rcases List.mem_append.mp hx with hx | hx
    · exact thw_words h x (List.mem_of_mem_take hx)
    · rw [List.mem_singleton.mp hx]
      exact k
  · exact thw_words h x (List.mem_of_mem_drop hx)
theorem len_in (xs : List V) (v : V) (n : Nat) : (xs.take n ++ [v] ++ xs.drop n).length = xs.length + 1 := by
  rw [List.length_append, List.length_append, List.length_take, List.length_drop]
  simp only [List.length_cons, List.length_nil]
  omega
theorem ok_lw_spoiled (T : Top K mg t) : FnOk P w K mg base CX0 1 t.f_lw_spoiled t.d_lw_spoiled ["_law_words_here", "_law_way", "_law_cell_here"] (spSpoil K) := by
  refine T.lw_spoiled.F.ok sc_lw_spoiled (fun vs H Q E h => ?_) (fun cdv A outer s H vs Q E hr h => ?_)
  · obtain ⟨a, us, way, cell, rfl, _⟩ := h
    rfl
  · obtain ⟨a, us, way, cell, rfl, ha, hn, hu, w0, w4, q⟩ := h
    refine ⟨_, (pss_cons (ps_set (i := 3) sc_lw_spoiled.nd rfl (.inl rfl) (pe_op op_mod (pe_op op_fdiv (pv 2) pe_int) (pe_op op_add (pe_callB (r := rLenS K) call_len_seq (by rfl) T.b.b_len (by decide +kernel) (pa_cons (pv 0) pa_nil)) pe_int)))
      (pss_cons (ps_if (pt_cmpR op_eq (pv 1) pe_int (nomark _)) (pss_cons (ps_set (i := 4) sc_lw_spoiled.nd rfl (.inl rfl) (pe_lst (pa_cons pe_str (pa_cons pe_str (pa_cons pe_str (pa_cons pe_str (pa_cons pe_int (pa_cons pe_bl (pa_cons pe_non (pa_cons (pe_lst (pa_cons pe_str pa_nil)) (pa_cons (pe_tup (pa_cons pe_str pa_nil)) (pa_cons (pe_op op_mul_str pe_str pe_int) (pa_cons (pe_op op_mul_str pe_str (pe_op op_add pe_int (pe_op op_mod (pe_op op_fdiv (pv 2) pe_int) pe_int))) (pa_cons pe_str pa_nil))))))))))))))
      (pss_one (ps_expr (pe_bm PySem.F.plainAttrs_list PySem.F.slot_list_insert PySem.F.type_list_insert mt_insert (pv 0) (pa_cons (pv 3) (pa_cons (pe_ix (r := rIxL K) ix_list (pv 4) (pe_op op_mod (pv 2) pe_int) (fun _ _ => rfl)) pa_nil)))))) pss_nil)
      (pss_cons (ps_if (PW.pt (pw_and (pt_cmpR op_eq (pv 1) pe_int (nomark _)) (pw_and1 (pt_cmpR (r := rNeD K) (op_neD hr.units) (pv 0) (pe_lst pa_nil) (nomark _))))) (pss_one (ps_expr (pe_bm PySem.F.plainAttrs_list PySem.F.slot_list_insert PySem.F.type_list_insert mt_insert (pv 0) (pa_cons (pv 3) (pa_cons (pe_slice sl_str (pe_ix (r := rIxL K) ix_list (pv 0) (pe_op op_mod (pv 2) (pe_callB (r := rLenS K) call_len_seq (by rfl) T.b.b_len (by decide +kernel) (pa_cons (pv 0) pa_nil))) (fun _ _ => rfl)) po_none (po_some (pe_op op_add pe_int (pe_op op_mod (pe_op op_fdiv (pv 2) pe_int) pe_int)))) pa_nil))))) pss_nil)
      (pss_cons (ps_if (PW.pt (pw_and (pt_cmpR op_eq (pv 1) pe_int (nomark _)) (pw_and1 (pt_cmpR (r := rNeD K) (op_neD hr.units) (pv 0) (pe_lst pa_nil) (nomark _))))) (pss_one (ps_expr (pe_bm PySem.F.plainAttrs_list PySem.F.slot_list_insert PySem.F.type_list_insert mt_insert (pv 0) (pa_cons (pv 3) (pa_cons (pe_op op_add_str (pe_ix (r := rIxL K) ix_list (pv 0) (pe_op op_mod (pv 2) (pe_callB (r := rLenS K) call_len_seq (by rfl) T.b.b_len (by decide +kernel) (pa_cons (pv 0) pa_nil))) (fun _ _ => rfl)) (pe_ix ix_str pe_str (pe_op op_mod (pe_op op_fdiv (pv 2) pe_int) pe_int) (fun _ _ => rfl))) pa_nil))))) pss_nil)
      (pss_one (ps_if (pt_cmpR op_eq (pv 1) pe_int (nomark _)) (pss_one (ps_expr (pe_bm PySem.F.plainAttrs_list PySem.F.slot_list_extend PySem.F.type_list_extend mt_extend (pv 0) (pa_cons (pe_op op_rep (pe_lst (pa_cons pe_str pa_nil)) (pe_op op_sub pe_int (pe_callB (r := rMin2) (call_min2 rfl) (by rfl) T.b.b_min (by decide +kernel) (pa_cons pe_int (pa_cons (pe_callB (r := rLenS K) call_len_seq (by rfl) T.b.b_len (by decide +kernel) (pa_cons (pv 0) pa_nil)) pa_nil))))) pa_nil)))) pss_nil)))))), ?_⟩
    have u1k : ∀ u ∈ us, u.length ≤ 1000 ∧ ∀ c ∈ u, c < 0x110000 := fun u h => ⟨by have := (hu u h).1; omega, (hu u h).2⟩
    obtain ⟨n, cn, dn⟩ := mod_nat (cell / 12) (show 0 < us.length + 1 by omega)
    rw [show ((us.length + 1 : Nat) : Int) = (us.length : Int) + 1 by omega] at cn
    refine q_asg (v := .int (n : Int)) (ev_is (ev_op (ev_op (ev_var rfl) ev_c (rv_I ⟨by decide, by decide⟩)) (ev_op (ev_is (ev_len (ev_var rfl) (sq_of ha)) (by rw [List.length_map])) ev_c rv_I0) (rv_I (show (0 : Int) < (us.length : Int) + 1 by omega))) (congrArg V.int cn)) fun H1 e1 => ?_
    have h1 := e1 _ _ ha
    have skip : ∀ {i : Int} {k : Int} {σ : L2.St} {H : Hp}, i ≠ k → σ[1]? = some (some (.int i)) → EvT (tTest (tOp rEq (tVar 1) (tC (.int k)))) σ H false := fun hik s1 => et_is (et_test (ev_op (ev_var s1) ev_c (rv_eq rfl))) (decide_eq_false fun z => hik (V.int.inj z))
    -- what is behind a change
    have done : ∀ (v : V) (H2 : Hp), Ex H H2 → WordV v H2 → v ≠ .ref a → Q .non (upd H2 a (.lst ((us.map vtx).take n ++ [v] ++ (us.map vtx).drop n))) := fun v H2 e2 hv hne => by
      refine q _ _ upd_same (thw_in u1k ⟨hv.1.upd hne, hv.2⟩) (by rw [len_in, List.length_map]; omega) fun b o hb hba => ?_
      rw [upd_ne hba]
      exact e2 b o hb
    have doneE : ∀ (v : V) (H2 H3 : Hp), Ex H H2 → WordV v H2 → v ≠ .ref a → Ex (upd H2 a (.lst ((us.map vtx).take n ++ [v] ++ (us.map vtx).drop n))) H3 → Q .non H3 := fun v H2 H3 e2 hv hne e3 => by
      refine q _ _ (e3 _ _ upd_same) (ThW.mono e3 (thw_in u1k ⟨hv.1.upd hne, hv.2⟩)) (by rw [len_in, List.length_map]; omega) fun b o hb hba => e3 b o ?_
      rw [upd_ne hba]
      exact e2 b o hb
    have hway : way = 0 ∨ way = 1 ∨ way = 2 ∨ way = 3 ∨ way = 4 := by omega
    have small : ∀ u ∈ us, ∀ c ∈ u, c < 0x110000 := fun u h => (hu u h).2
    have some_ : ∀ {σ : L2.St} {H : Hp}, σ[0]? = some (some (.ref a)) → H a = some (.lst (us.map vtx)) → EvT (tTest (tOp (rNeD K) (tVar 0) (tLst tNil))) σ H (!us.isEmpty) := fun s0 h => et_test (ev_neNilWV (ev_var s0) (sq_of h) (fun H1 _ => el_lst ea_nil (by decide)) small)
    rcases hway with rfl | rfl | rfl | rfl | rfl
    · refine q_when (skip (by decide) rfl) (fun z _ _ => by cases z) fun _ H2 e2 => ?_
      refine q_when (et_and (b := false) (skip (by decide) rfl) fun z => by cases z) (fun z _ _ => by cases z) fun _ H3 e3 => ?_
      refine q_when (et_and (b := false) (skip (by decide) rfl) fun z => by cases z) (fun z _ _ => by cases z) fun _ H4 e4 => ?_
      refine s_when (skip (by decide) rfl) (fun z _ _ => by cases z) fun _ H5 e5 => ?_
      have e15 := e1.trans (e2.trans (e3.trans (e4.trans e5)))
      exact q _ _ (e15 _ _ ha) (thw_words u1k) (by rw [List.length_map]; omega) fun b o hb _ => e15 b o hb
    · refine q_when (et_test (ev_op (ev_var rfl) ev_c (rv_eq rfl))) (fun _ H2 e2 => ?_) fun z _ _ => absurd z (by decide)
      have h2 := e2 _ _ h1
      obtain ⟨j, cj, dj⟩ := mod_nat (cell / 12) (show 0 < 9 by decide)
      refine q_asgS (R := AllT H2 12) (eT_v ev_c (fun _ => word_s (by decide +kernel)) (eT_v ev_c (fun _ => word_s (by decide +kernel)) (eT_v ev_c (fun _ => word_s (by decide +kernel)) (eT_v ev_c (fun _ => word_s (by decide +kernel)) (eT_v ev_c (fun _ => ⟨.int 0, fun s z => by cases z⟩) (eT_v ev_c (fun _ => ⟨.inr (.inl ⟨true, rfl⟩), fun s z => by cases z⟩) (eT_v ev_c (fun _ => ⟨.inl rfl, fun s z => by cases z⟩)
          (eT_l (el_lst (ea_cons ev_c ea_nil) (by show 1 ≤ 100000; decide)) (eT_u (eu_tup (ea_cons ev_c ea_nil) (by show 1 ≤ 100000; decide)) (eT_m ev_c ev_c (by decide +kernel) (by decide +kernel) (by decide) (by decide) (eT_m (i := 13 + (j : Int)) ev_c (ev_is (ev_op ev_c (ev_op (ev_op (ev_var rfl) ev_c (rv_I ⟨by decide, by decide⟩)) ev_c (rv_I (by decide))) rv_I0) (by rw [show cell / 12 % 9 = (j : Int) from cj])) (by decide +kernel) (by decide +kernel) (by omega) (by omega) (eT_v ev_c (fun _ => word_s (by decide +kernel)) eT_nil))))))))))))
        (fun vs H1 r => by rw [r.1]; decide) fun p vs H3 H4 np e3 np3 hr hH4 => ?_
      subst hH4
      have nap : a ≠ p := fun z => by rw [← z, h2] at np; cases np
      have e13 : Ex H3 (upd H3 p (.lst vs)) := Ex.new np3
      obtain ⟨k, ck, dk⟩ := mod_nat cell (show 0 < 12 by decide)
      refine s_insertR (R := fun v H' => WordV v H' ∧ v ≠ .ref a) (l := a) (xs := us.map vtx) (i := n) (by rw [upd_ne nap]; exact e3 _ _ h2) (ev_var rfl) (ev_var rfl) (fun H5 e5 Q' q' => ?_) (by rw [List.length_map]; omega) (by omega) fun v H5 e5 hv => ?_
      · refine ⟨.ref p, rfl, (ev_is (ev_op (ev_var rfl) ev_c (rv_I (by decide))) (congrArg V.int ck) : Ev (tOp (rI (fun _ j => 0 < j) fun i j => .int (i % j)) (tVar 2) (tC (.int 12))) [some (V.ref a), some (V.int 1), some (V.int cell), some (V.int (n : Int)), some (V.ref p)] H5 (.int (k : Int))) H5 (Ex.refl _) _ fun H6 e6 => ?_⟩
        have gk : vs[k]? = some (vs[k]'(by rw [hr.1]; exact dk)) := List.getElem?_eq_getElem _
        obtain ⟨k1, k2⟩ := hr.2 _ (List.mem_of_getElem? gk)
        have e36 := e13.trans (e5.trans e6)
        refine ⟨p, vs, (k : Int), _, rfl, rfl, sq_of ((e5.trans e6) _ _ upd_same), atI_nat gk, q' _ H6 e6 ⟨⟨k1.1.mono e36, k1.2⟩, fun z => ?_⟩⟩
        have := k2 a z
        rw [h2] at this
        cases this
      · have e05 : Ex H H5 := e1.trans (e2.trans (e3.trans (e13.trans e5)))
        refine q_when (et_and (b := false) (skip (by decide) rfl) fun z => by cases z) (fun z _ _ => by cases z) fun _ H6 e6 => ?_
        refine q_when (et_and (b := false) (skip (by decide) rfl) fun z => by cases z) (fun z _ _ => by cases z) fun _ H7 e7 => ?_
        refine s_when (skip (by decide) rfl) (fun z _ _ => by cases z) fun _ H8 e8 => ?_
        exact doneE v H5 H8 e05 hv.1 hv.2 (e6.trans (e7.trans e8))
    · refine q_when (skip (by decide) rfl) (fun z _ _ => by cases z) fun _ H2 e2 => ?_
      have h2 := e2 _ _ h1
      refine q_when (et_and (et_is (et_test (ev_op (ev_var rfl) ev_c (rv_eq rfl))) (show _ = true by decide)) fun _ => some_ rfl h2) (fun hz H3 e3 => ?_) fun _ H3 e3 => ?_
      · have hpos : 0 < us.length := List.length_pos_iff.mpr fun z => by rw [z] at hz; cases hz
        obtain ⟨j, cj, dj⟩ := mod_nat cell hpos
        obtain ⟨m, cm, dm⟩ := mod_nat (cell / 300) (show 0 < 12 by decide)
        have gj : us[j]? = some us[j] := List.getElem?_eq_getElem dj
        have hl := (u1k _ (List.mem_of_getElem? gj)).1
        have h3 := e3 _ _ h2
        have ix : ∀ (σ : L2.St) (H5 : Hp), σ[0]? = some (some (.ref a)) → σ[2]? = some (some (.int cell)) → H5 a = some (.lst (us.map vtx)) → Ev (tOp (rIxL K) (tVar 0) (tOp (rI (fun _ j => 0 < j) fun i j => .int (i % j)) (tVar 2) (tCB (rLenS K) (tCons (tVar 0) tNil)))) σ H5 (vtx us[j]) := fun σ H5 s0 s2 h5 =>
          ev_op (ev_var s0) (ev_is (ev_op (ev_var s2) (ev_is (ev_len (ev_var s0) (sq_of h5)) (by rw [List.length_map])) (rv_I (show (0 : Int) < (us.length : Int) by omega))) (congrArg V.int cj)) (rv_ixL (sq_of h5) (atI_nat (by rw [List.getElem?_map, gj]; rfl)))
        refine s_insertR (R := fun v H' => WordV v H' ∧ v ≠ .ref a) (l := a) (xs := us.map vtx) (i := n) h3 (ev_var rfl) (ev_var rfl) (fun H5 e5 Q' q' => ?_) (by rw [List.length_map]; omega) (by omega) fun v H5 e5 hv => ?_
        · have cc : Ev (tSl rSlS (tOp (rIxL K) (tVar 0) (tOp (rI (fun _ j => 0 < j) fun i j => .int (i % j)) (tVar 2) (tCB (rLenS K) (tCons (tVar 0) tNil)))) tNoPart (tPart (tOp (rI0 fun i j => .int (i + j)) (tC (.int 1)) (tOp (rI (fun _ j => 0 < j) fun i j => .int (i % j)) (tOp (rI CDiv fun i j => .int (i / j)) (tVar 2) (tC (.int 300))) (tC (.int 12)))))) [some (V.ref a), some (V.int 2), some (V.int cell), some (V.int (n : Int)), none] H5 (.str (tx (us[j].take (1 + m)))) :=
            ev_slTo (ix _ H5 rfl rfl (e5 _ _ h3)) (eo_some (ev_is (ev_op ev_c (ev_op (ev_op (ev_var rfl) ev_c (rv_I ⟨by decide, by decide⟩)) ev_c (rv_I (by decide))) rv_I0) (congrArg V.int (by rw [show cell / 300 % 12 = (m : Int) from cm]; omega)))) (by omega)
          exact cc H5 (Ex.refl _) Q' fun H6 e6 => q' _ H6 e6 ⟨word_v ⟨by rw [List.length_take]; omega, fun c hc => small _ (List.mem_of_getElem? gj) c (List.mem_of_mem_take hc)⟩, fun z => by cases z⟩
        · have e05 : Ex H H5 := e1.trans (e2.trans (e3.trans e5))
          refine q_when (et_and (b := false) (skip (by decide) rfl) fun z => by cases z) (fun z _ _ => by cases z) fun _ H7 e7 => ?_
          refine s_when (skip (by decide) rfl) (fun z _ _ => by cases z) fun _ H8 e8 => ?_
          exact doneE v H5 H8 e05 hv.1 hv.2 (e7.trans e8)
      · refine q_when (et_and (b := false) (skip (by decide) rfl) fun z => by cases z) (fun z _ _ => by cases z) fun _ H4 e4 => ?_
        refine s_when (skip (by decide) rfl) (fun z _ _ => by cases z) fun _ H5 e5 => ?_
        have e15 := e1.trans (e2.trans (e3.trans (e4.trans e5)))
        exact q _ _ (e15 _ _ ha) (thw_words u1k) (by rw [List.length_map]; omega) fun b o hb _ => e15 b o hb
    · refine q_when (skip (by decide) rfl) (fun z _ _ => by cases z) fun _ H2 e2 => ?_
      refine q_when (et_and (b := false) (skip (by decide) rfl) fun z => by cases z) (fun z _ _ => by cases z) fun _ H2' e2' => ?_
      have h2 := (e2.trans e2') _ _ h1
      refine q_when (et_and (et_is (et_test (ev_op (ev_var rfl) ev_c (rv_eq rfl))) (show _ = true by decide)) fun _ => some_ rfl h2) (fun hz H3 e3 => ?_) fun _ H3 e3 => ?_
      · have hpos : 0 < us.length := List.length_pos_iff.mpr fun z => by rw [z] at hz; cases hz
        obtain ⟨j, cj, dj⟩ := mod_nat cell hpos
        obtain ⟨m, cm, dm⟩ := mod_nat (cell / 300) (show 0 < 2 by decide)
        have gj : us[j]? = some us[j] := List.getElem?_eq_getElem dj
        have hl := (hu _ (List.mem_of_getElem? gj)).1
        have h3 := e3 _ _ h2
        have ix : ∀ (σ : L2.St) (H5 : Hp), σ[0]? = some (some (.ref a)) → σ[2]? = some (some (.int cell)) → H5 a = some (.lst (us.map vtx)) → Ev (tOp (rIxL K) (tVar 0) (tOp (rI (fun _ j => 0 < j) fun i j => .int (i % j)) (tVar 2) (tCB (rLenS K) (tCons (tVar 0) tNil)))) σ H5 (vtx us[j]) := fun σ H5 s0 s2 h5 =>
          ev_op (ev_var s0) (ev_is (ev_op (ev_var s2) (ev_is (ev_len (ev_var s0) (sq_of h5)) (by rw [List.length_map])) (rv_I (show (0 : Int) < (us.length : Int) by omega))) (congrArg V.int cj)) (rv_ixL (sq_of h5) (atI_nat (by rw [List.getElem?_map, gj]; rfl)))
        have one : ∀ (σ : L2.St) (H5 : Hp), σ[2]? = some (some (.int cell)) → Ev (tOp rIxS (tC (.str "01")) (tOp (rI (fun _ j => 0 < j) fun i j => .int (i % j)) (tOp (rI CDiv fun i j => .int (i / j)) (tVar 2) (tC (.int 300))) (tC (.int 2)))) σ H5 (.str (tx [48 + m])) := fun σ H5 s2 => by
          have k := (ev_is (ev_op (ev_op (ev_var s2) ev_c (rv_I ⟨by decide, by decide⟩)) ev_c (rv_I (by decide))) (congrArg V.int cm) : Ev (tOp (rI (fun _ j => 0 < j) fun i j => .int (i % j)) (tOp (rI CDiv fun i j => .int (i / j)) (tVar 2) (tC (.int 300))) (tC (.int 2))) σ H5 (.int (m : Int)))
          have c2 : m = 0 ∨ m = 1 := by omega
          refine ev_op ev_c k (rv_ixS (c := 48 + m) (by decide +kernel) ?_)
          rcases c2 with rfl | rfl <;> rfl
        refine s_insertR (R := fun v H' => WordV v H' ∧ v ≠ .ref a) (l := a) (xs := us.map vtx) (i := n) h3 (ev_var rfl) (ev_var rfl) (fun H5 e5 Q' q' => ?_) (by rw [List.length_map]; omega) (by omega) fun v H5 e5 hv => ?_
        · have cc := ev_catTx (a := us[j]) (b := [48 + m]) (ix [some (V.ref a), some (V.int 3), some (V.int cell), some (V.int (n : Int)), none] H5 rfl rfl (e5 _ _ h3)) (one _ H5 rfl) (by show _ + 1 ≤ _; omega)
          exact cc H5 (Ex.refl _) Q' fun H6 e6 => q' _ H6 e6 ⟨word_v ⟨by rw [List.length_append]; show _ + 1 ≤ _; omega, fun c hc => by
            rcases List.mem_append.mp hc with hc | hc
            · exact small _ (List.mem_of_getElem? gj) c hc
            · rw [List.mem_singleton.mp hc]; omega⟩, fun z => by cases z⟩
        · have e05 : Ex H H5 := e1.trans ((e2.trans e2').trans (e3.trans e5))
          refine s_when (skip (by decide) rfl) (fun z _ _ => by cases z) fun _ H8 e8 => ?_
          exact doneE v H5 H8 e05 hv.1 hv.2 e8
      · refine s_when (skip (by decide) rfl) (fun z _ _ => by cases z) fun _ H5 e5 => ?_
        have e15 := e1.trans ((e2.trans e2').trans (e3.trans e5))
        exact q _ _ (e15 _ _ ha) (thw_words u1k) (by rw [List.length_map]; omega) fun b o hb _ => e15 b o hb
    · refine q_when (skip (by decide) rfl) (fun z _ _ => by cases z) fun _ H2 e2 => ?_
      refine q_when (et_and (b := false) (skip (by decide) rfl) fun z => by cases z) (fun z _ _ => by cases z) fun _ H3 e3 => ?_
      refine q_when (et_and (b := false) (skip (by decide) rfl) fun z => by cases z) (fun z _ _ => by cases z) fun _ H4 e4 => ?_
      refine s_when (et_test (ev_op (ev_var rfl) ev_c (rv_eq rfl))) (fun _ H5 e5 => ?_) fun z _ _ => absurd z (by decide)
      have e05 := e1.trans (e2.trans (e3.trans (e4.trans e5)))
      have h5 := e05 _ _ ha
      have hmin : (if ((us.map vtx).length : Int) < 24 then ((us.map vtx).length : Int) else 24) = (us.length : Int) := by
        rw [List.length_map]
        split <;> omega
      refine s_ext (l := a) (xs := us.map vtx) (ys := (List.replicate (25 - us.length) [V.str "0"]).flatten) h5 (ev_var rfl) (el_rep (n := 25 - us.length) (el_lst (ea_cons ev_c ea_nil) (by show 1 ≤ 100000; decide)) (ev_is (ev_op ev_c (ev_min2 ev_c (ev_len (ev_var rfl) (sq_of h5))) rv_I0) (congrArg V.int (by rw [hmin]; omega))) (by show 1 * _ ≤ 100000; omega) (by omega)) (by simp; omega) fun H6 e6 => ?_
      refine q _ _ upd_same (fun x hx => ?_) (by simp; omega) fun b o hb hba => ?_
      · rcases List.mem_append.mp hx with hx | hx
        · exact thw_words u1k x hx
        · obtain ⟨l, hl, hx⟩ := List.mem_flatten.mp hx
          rw [List.eq_of_mem_replicate hl, List.mem_singleton] at hx
          rw [hx]
          exact word_s (by decide +kernel)
      · rw [upd_ne hba]
        exact (e05.trans e6) b o hb
end
end Sl
namespace Sl
open PySem PySem.Spec PyProof.Rows L2 Evl
section
variable {P : Program} {w : World} {K : PySem.W.Frag} {mg : Str → Option Value} {base : Heap} {t : Adr}
/-! _law_good -/
def spGood (K : PySem.W.Frag) : Sp := fun vs H Q _ => ∃ (a : Addr) (xs : List V), vs = [.ref a] ∧ SqL K H a xs ∧ xs.length ≤ 1000 ∧ ThW H xs ∧ (GoodX xs → RetV (.bl true) H Q) ∧ (¬ GoodX xs → RetV (.bl false) H Q)
theorem filt_nil {u : List Nat} : (u.filter fun c => !isBit c).isEmpty = true ↔ ∀ c ∈ u, c = 48 ∨ c = 49 := by
  rw [List.isEmpty_iff, List.filter_eq_nil_iff]
  constructor
  · intro h c hc
    have := h c hc
    simp only [Bool.not_eq_true', Bool.not_eq_false] at this
    exact isBit_iff.mp this
  · intro h c hc
    rw [isBit_iff.mpr (h c hc)]
    decide
theorem ok_lw_good (T : Top K mg t) : FnOk P w K mg base CX0 2 t.f_lw_good t.d_lw_good ["_law_words_here"] (spGood K) := by
  refine T.lw_good.F.ok sc_lw_good (fun vs H Q E h => ?_) (fun cdv A outer s H vs Q E hr h => ?_)
  · obtain ⟨a, xs, rfl, _⟩ := h
    rfl
  · obtain ⟨a, xs, rfl, hS, hn, hT, qy, qn⟩ := h
    refine ⟨_, (pss_cons (ps_if (pt_cmpR op_gt (pe_callB (r := rLenS K) call_len_seq (by rfl) T.b.b_len (by decide +kernel) (pa_cons (pv 0) pa_nil)) pe_int (nomark _)) (pss_one (ps_ret pe_bl)) pss_nil)
      (pss_cons (ps_for PassesOwn.never rfl (pi_list (pv 0)) (pg_name (i := 1) sc_lw_good.nd rfl (.inl rfl)) (pss_cons (ps_if (PW.pt (pw_or (pt_not (pt_val (pe_callB (r := rIsi K) call_isi (by rfl) T.b.b_isinstance (by decide +kernel) (pa_cons (pv 1) (pa_cons (pe_bltn (v := .ty "str") (by rfl) T.b.b_str (by decide +kernel) rfl) pa_nil))))) (pw_or (pt_cmpR op_lt (pe_callB (r := rLenTx) call_len_str (by rfl) T.b.b_len (by decide +kernel) (pa_cons (pv 1) pa_nil)) pe_int (nomark _)) (pw_or1 (pt_cmpR op_gt (pe_callB (r := rLenTx) call_len_str (by rfl) T.b.b_len (by decide +kernel) (pa_cons (pv 1) pa_nil)) pe_int (nomark _)))))) (pss_one (ps_ret pe_bl)) pss_nil)
      (pss_one (ps_if (pt_cmpR (r := rNeD K) (op_neD hr.units) (pe_lc (own := [("_law_bit", 2)]) (g := gName 2)  rfl sc_lw_good.nd (pi_str (pv 1)) (blkOk_by (own := [("_law_bit", 2)]) (N := N_lw_good) (sc := defScope s_lw_good) (by decide +kernel)) (fun _ _ _ _ _ => (pg_name (i := 2) sc_lw_good.nd rfl (.inl rfl))) (fun _ _ _ _ _ => (pts_one (pt_cmpR op_notIn_sign (pv 2) pe_str rfl))) (fun _ _ _ _ _ => (pv 2))) (pe_lst pa_nil) (nomark _)) (pss_one (ps_ret pe_bl)) pss_nil))))
      (pss_one (ps_ret (pe_call (ok_lw_apart T) (hr.mono (by decide)) (by rfl) T.lw_apart.g T.lw_apart.F.kp T.lw_apart.b .nil pass0 (pa_cons (pv 0) pa_nil)))))), ?_⟩
    refine q_when (et_test (ev_op (ev_len (ev_var rfl) hS) ev_c rv_I0)) (fun hx H1 e1 => ?_) (fun hx H1 e1 => ?_)
    · refine s_ret ev_c fun H2 e2 => qn (fun z => ?_) H2 (e1.trans e2)
      have := of_decide_eq_true hx
      have := z.one.1
      omega
    have h24 : xs.length ≤ 24 := by
      have := of_decide_eq_false hx
      omega
    refine q_forLn (xs := xs) (ev_var rfl) (ex_l e1 hS) (fun i σ' H' => Ex H H' ∧ (∀ x ∈ xs.take i, oneOk x) ∧ ∃ v1, σ' = [some (V.ref a), v1, none]) (fun H2 e2 => ⟨e1.trans e2, (fun _ h => by cases h), none, rfl⟩) (fun i σ' H' _ hP => ex_l hP.1 hS) (fun i x σ' H' hx hP => ?_) fun σ' H' hP => ?_
    · obtain ⟨e2, hok, v1, rfl⟩ := hP
      have hm : x ∈ xs := List.mem_of_getElem? hx
      have et : xs.take (i + 1) = xs.take i ++ [x] := by rw [List.take_add_one, hx]; rfl
      obtain ⟨tx1, tx2⟩ := hT x hm
      have bad : ¬ oneOk x → ∀ H3, Ex H' H3 → Q (.bl false) H3 := fun hno H3 e3 => qn (fun z => hno (z.one.2 x hm)) H3 (e2.trans e3)
      by_cases hs : ∃ u, x = vtx u
      · obtain ⟨u, rfl⟩ := hs
        have hul : u.length ≤ 1000 := by
          have := (tx2 (tx u) rfl).1
          rw [show (tx u).cps.size = (tx u).length from rfl, tx_len] at this
          exact this
        refine q_when (et_or (et_not (et_B (ev_isStrG (ev_var rfl) (tx1.mono e2)))) fun _ => et_or (et_test (ev_op (ev_lenTx (l := u) (ev_var rfl) (by omega)) ev_c rv_I0)) fun _ => et_test (ev_op (ev_lenTx (l := u) (ev_var rfl) (by omega)) ev_c rv_I0)) (fun hz H3 e3 => ?_) (fun hz H3 e3 => ?_)
        · refine s_ret ev_c fun H4 e4 => bad (fun z => ?_) H4 (e3.trans e4)
          obtain ⟨v, hv, v1, v2, _⟩ := z
          have hv := tx_inj (V.str.inj hv)
          subst hv
          rw [show isStrV (vtx u) = true from rfl, decide_eq_false (show ¬ (u.length : Int) < 1 by omega), decide_eq_false (show ¬ (u.length : Int) > 12 by omega)] at hz
          cases hz
        · have hz : (decide ((u.length : Int) < 1) || decide ((u.length : Int) > 12)) = false := hz
          rw [Bool.or_eq_false_iff] at hz
          have k1 := of_decide_eq_false hz.1
          have k2 := of_decide_eq_false hz.2
          have cF := el_lcStrF (σ := [some (V.ref a), some (vtx u), none]) (H := H3) (z := tx u) (tl := tVar 1) (j := 2) (vs := [2]) (te := tVar 2) (t := tTest (tOp (fun x y H Q => ∃ (c : Nat) (z : Str), x = .str ⟨#[c]⟩ ∧ y = .str z ∧ Q (.bl (!decide (c ∈ z.cps.toList))) H) (tVar 2) (tC (.str "01"))))
            (fun c => !isBit c) (fun c => .str ⟨#[c]⟩) (ev_var rfl) (by show u.toArray.size ≤ 40000; simp; omega) (fun x => rfl)
            (fun c H1 e => et_test (ev_op (ev_var rfl) ev_c fun H2 e2 Q q => ⟨c, "01", rfl, rfl, q H2 (Ex.refl _)⟩)) (fun c H1 e _ => ev_var rfl)
          have em : ((tx u).cps.toList.filter fun c => !isBit c).map (fun c => V.str ⟨#[c]⟩) = ((u.filter fun c => !isBit c).map fun c => [c]).map vtx := by
            rw [List.map_map]
            rfl
          rw [em] at cF
          have csm : ∀ w ∈ (u.filter fun c => !isBit c).map fun c => [c], ∀ c ∈ w, c < 0x110000 := fun w hw c hc => by
            obtain ⟨d, hd, rfl⟩ := List.mem_map.mp hw
            rw [List.mem_singleton.mp hc]
            exact (tx2 (tx u) rfl).2 d (List.mem_filter.mp hd).1
          have ee : ((u.filter fun c => !isBit c).map fun c => [c]).isEmpty = (u.filter fun c => !isBit c).isEmpty := by
            cases u.filter fun c => !isBit c <;> rfl
          refine s_when (et_test (ev_neNilW cF (fun H1 _ => el_lst ea_nil (by decide)) csm)) (fun hq H4 e4 => ?_) (fun hq H4 e4 => ?_)
          · refine s_ret ev_c fun H5 e5 => bad (fun z => ?_) H5 (e3.trans (e4.trans e5))
            obtain ⟨v, hv, _, _, hb⟩ := z
            have hv := tx_inj (V.str.inj hv)
            subst hv
            rw [ee, filt_nil.mpr hb] at hq
            cases hq
          · rw [ee] at hq
            have hq : (u.filter fun c => !isBit c).isEmpty = true := by simpa using hq
            refine ⟨e2.trans (e3.trans e4), fun y hy => ?_, _, rfl⟩
            rw [et] at hy
            rcases List.mem_append.mp hy with hy | hy
            · exact hok y hy
            · rw [List.mem_singleton.mp hy]
              exact ⟨u, rfl, by omega, by omega, filt_nil.mp hq⟩
      · have hsx : isStrV x = false := by
          cases x <;> first | rfl | exact absurd ⟨_, rfl⟩ hs
        refine q_when (b := true) (et_is (et_or (b := true) (et_not (et_B (ev_isStrG (ev_var rfl) (tx1.mono e2)))) fun z => by rw [hsx] at z; cases z) (by rw [hsx]; rfl)) (fun _ H3 e3 => ?_) (fun hz _ _ => by cases hz)
        exact s_ret ev_c fun H4 e4 => bad (fun z => by
          obtain ⟨v, rfl, _⟩ := z
          exact hs ⟨v, rfl⟩) H4 (e3.trans e4)
    · obtain ⟨e2, hok, v1, rfl⟩ := hP
      rw [List.take_length] at hok
      obtain ⟨us, rfl, hu⟩ := ones_words hok
      rw [List.length_map] at h24
      have ln : ∀ u ∈ us, u.length ≤ 1000 := fun u h => by have := (hu u h).2.1; omega
      refine ⟨.ref a, rfl, a, us, rfl, ex_l e2 hS, by omega, ln, fun hA H3 e3 => ?_, fun hA H3 e3 => ?_⟩
      · exact qy ⟨us, rfl, h24, hu, apart_pairs hA⟩ H3 (e2.trans e3)
      · refine qn (fun z => ?_) H3 (e2.trans e3)
        obtain ⟨vs, hv, hG⟩ := z
        have hv := vtx_map_inj hv
        subst hv
        exact hA (goodw_apart hG.2.2)
end
end Sl
namespace Sl
open PySem PySem.Spec PyProof.Rows L2 Evl
section
variable {P : Program} {w : World} {K : PySem.W.Frag} {mg : Str → Option Value} {base : Heap} {t : Adr}
/-! _law_some -/
def spSome (K : PySem.W.Frag) (PL : Addr) : Sp := fun vs H Q _ => ∃ (a : Addr) (ns : List Int), vs = [.ref a] ∧ SqL K H a (ns.map V.int) ∧ LamX.TabS H PL lamQ ∧ ∀ us, GoodW us → RetLN PL (us.map vtx) H Q
theorem good_for {us : List (List Nat)} {fl : List Nat} (h : WordsFor us fl) (hl : fl.length ≤ 24) (hf : ∀ x ∈ fl, 1 ≤ x ∧ x ≤ 12) : GoodW us := by
  refine ⟨by rw [h.1]; exact hl, fun u hu => ?_, ?_⟩
  · obtain ⟨i, hi, rfl⟩ := List.getElem_of_mem hu
    obtain ⟨k1, k2⟩ := h.2.1 i _ (List.getElem?_eq_getElem hi)
    have hi' : i < fl.length := by rw [← h.1]; exact hi
    rw [List.getD_eq_getElem?_getD, List.getElem?_eq_getElem hi'] at k1
    have k1 : us[i].length = fl[i] := k1
    have := hf _ (List.getElem_mem hi')
    exact ⟨by omega, by omega, k2⟩
  · exact List.pairwise_iff_getElem.mpr fun i j hi hj hij => ⟨h.2.2 i j _ _ (by omega) (List.getElem?_eq_getElem hi) (List.getElem?_eq_getElem hj), h.2.2 j i _ _ (by omega) (List.getElem?_eq_getElem hj) (List.getElem?_eq_getElem hi)⟩
theorem ok_lw_some (T : Top K mg t) (TB : LamX.TabB base mg t.cL t.PL) : FnOk P w K mg base CX0 18 t.f_lw_some t.d_lw_some ["_law_script"] (spSome K t.PL) := by
  refine T.lw_some.F.ok sc_lw_some (fun vs H Q E h => ?_) (fun cdv A outer s H vs Q E hr h => ?_)
  · obtain ⟨a, ns, rfl, _⟩ := h
    rfl
  · obtain ⟨a, ns, rfl, hS, hTab, q⟩ := h
    refine ⟨_, (pss_cons (ps_set (i := 1) sc_lw_some.nd rfl (.inl rfl) (pe_op op_mod (pe_call (ok_lw_cell T) (hr.mono (by decide)) (by rfl) T.lw_cell.g T.lw_cell.F.kp T.lw_cell.b .nil pass0 (pa_cons (pv 0) (pa_cons pe_int pa_nil))) pe_int))
      (pss_cons (ps_if (pt_cmpR op_eq (pv 1) pe_int (nomark _)) (pss_one (ps_ret (pe_call (ok_lw_words T) (hr.mono (by decide)) (by rfl) T.lw_words.g T.lw_words.F.kp T.lw_words.b .nil pass0 (pa_cons (pv 0) (pa_cons pe_int pa_nil))))) pss_nil)
      (pss_cons (ps_set (i := 2) sc_lw_some.nd rfl (.inl rfl) (pe_op op_add pe_int (pe_op op_mod (pe_call (ok_lw_cell T) (hr.mono (by decide)) (by rfl) T.lw_cell.g T.lw_cell.F.kp T.lw_cell.b .nil pass0 (pa_cons (pv 0) (pa_cons pe_int pa_nil))) pe_int)))
      (pss_cons (ps_set (i := 3) sc_lw_some.nd rfl (.inl rfl) (pe_call (ok_lw_weights T) (hr.mono (by decide)) (by rfl) T.lw_weights.g T.lw_weights.F.kp T.lw_weights.b .nil pass0 (pa_cons (pv 0) (pa_cons pe_int (pa_cons (pv 2) (pa_cons (pe_op op_mod (pe_call (ok_lw_cell T) (hr.mono (by decide)) (by rfl) T.lw_cell.g T.lw_cell.F.kp T.lw_cell.b .nil pass0 (pa_cons (pv 0) (pa_cons pe_int pa_nil))) pe_int) pa_nil))))))
      (pss_cons (ps_set (i := 4) sc_lw_some.nd rfl (.inl rfl) (pe_op op_add (pe_call (ok_lw_least_bound T) (hr.mono (by decide)) (by rfl) T.lw_least_bound.g T.lw_least_bound.F.kp T.lw_least_bound.b .nil pass0 (pa_cons (pv 2) pa_nil)) (pe_op op_mod (pe_call (ok_lw_cell T) (hr.mono (by decide)) (by rfl) T.lw_cell.g T.lw_cell.F.kp T.lw_cell.b .nil pass0 (pa_cons (pv 0) (pa_cons pe_int pa_nil))) pe_int)))
      (pss_cons (ps_if (pt_cmpR op_eq (pv 1) pe_int (nomark _)) (pss_one (ps_ret (pe_call (ok_free_code T TB) (hr.mono (by decide)) (by rfl) T.free_code.g T.free_code.F.kp T.free_code.b .nil passL (pa_cons (pv 3) (pa_cons (pv 4) pa_nil))))) pss_nil)
      (pss_one (ps_ret (pe_call (ok_ordered_code T) (hr.mono (by decide)) (by rfl) T.ordered_code.g T.ordered_code.F.kp T.ordered_code.b .nil passL (pa_cons (pv 3) (pa_cons (pv 4) pa_nil))))))))))), ?_⟩
    have cell : ∀ (σ : L2.St) (H1 : Hp) (k : Int), σ[0]? = some (some (V.ref a)) → Ex H H1 → 0 ≤ k → k ≤ 1000 → Ev (tCall (spLwCell K) [] E0 (tCons (tVar 0) (tCons (tC (.int k)) tNil))) σ H1 (.int (lwCell ns k)) := fun σ H1 k h0 e k0 k1 =>
      ev_call (ea_cons (ev_var h0) (ea_cons ev_c ea_nil)) (sv_cell (ex_l e hS) k0 (by omega))
    obtain ⟨w, cw, dw⟩ := mod_nat (lwCell ns 0) (show 0 < 3 by decide)
    refine q_asg (v := .int (w : Int)) (ev_is (ev_op (cell _ _ 0 rfl (Ex.refl _) (by decide) (by decide)) ev_c (rv_I (by decide))) (congrArg V.int cw)) fun H1 e1 => ?_
    refine q_when (et_test (ev_op (ev_var rfl) ev_c (rv_eq rfl))) (fun _ H2 e2 => ?_) (fun _ H2 e2 => ?_)
    · have e12 := e1.trans e2
      exact ⟨.ref a, rfl, a, ns, 10, rfl, ex_l e12 hS, by decide, by decide, fun us hG p H3 np e3 h3 => q us hG p H3 (NewN.ofX (ExN e12) np) (ExN (e12.trans e3)) (tab_ex hTab (e12.trans e3)) h3⟩
    have e12 := e1.trans e2
    obtain ⟨m, cm, dm⟩ := mod_nat (lwCell ns 1) (show 0 < 7 by decide)
    refine q_asg (v := .int ((1 + m : Nat) : Int)) (ev_is (ev_op ev_c (ev_op (cell _ _ 1 rfl e12 (by decide) (by decide)) ev_c (rv_I (by decide))) rv_I0) (congrArg V.int (by rw [show lwCell ns 1 % 7 = (m : Int) from cm]; omega))) fun H3 e3 => ?_
    have e13 := e12.trans e3
    have hk : 0 ≤ lwCell ns 2 % 5 ∧ lwCell ns 2 % 5 < 5 := by omega
    refine q_call (ea_cons (ev_var rfl) (ea_cons ev_c (ea_cons (ev_var rfl) (ea_cons (ev_op (cell _ _ 2 rfl e13 (by decide) (by decide)) ev_c (rv_I (by decide))) ea_nil)))) fun H5 e5 =>
      ⟨a, ns, 10, 1 + m, lwCell ns 2 % 5, rfl, ex_l (e13.trans e5) hS, by decide, by decide, by omega, hk.1, hk.2, fun ws hwl hwm pw H6 npw e6 h6 => ?_⟩
    have e16 := (e13.trans e5).trans e6
    obtain ⟨n4, c4, d4⟩ := mod_nat (lwCell ns 3) (show 0 < 4 by decide)
    refine ⟨.int ((1 + m : Nat) : Int), rfl, 1 + m, rfl, by omega, fun lb l1 l2 l3 H7 e7 => ?_⟩
    have e17 := e16.trans e7
    refine (ev_is (ev_op (cell _ H7 3 rfl e17 (by decide) (by decide)) ev_c (rv_I (by decide))) (congrArg V.int c4) : Ev (tOp (rI (fun _ j => 0 < j) fun i j => .int (i % j)) (tCall (spLwCell K) [] E0 (tCons (tVar 0) (tCons (tC (.int 3)) tNil))) (tC (.int 4))) [some (V.ref a), some (V.int (w : Int)), some (V.int ((1 + m : Nat) : Int)), some (V.ref pw), none] H7 (.int (n4 : Int))) H7 (Ex.refl _) _ fun H8 e8 => ⟨(lb : Int), (n4 : Int), rfl, rfl, ?_⟩
    dsimp only [gName]
    rw [show (lb : Int) + (n4 : Int) = ((lb + n4 : Nat) : Int) by omega]
    show tSeq (tIfS _ _ _) _ _ [some (V.ref a), some (V.int (w : Int)), some (V.int ((1 + m : Nat) : Int)), some (V.ref pw), some (V.int ((lb + n4 : Nat) : Int))] H8
    obtain ⟨b, hb⟩ : ∃ b, b = lb + n4 := ⟨_, rfl⟩
    rw [← hb]
    have b1 : 1 ≤ b := by omega
    have b2 : b ≤ 12 := by omega
    have hroom : ws.length ≤ 2 ^ b := by
      rw [hwl, hb]
      exact Nat.le_trans l3 (Nat.pow_le_pow_right (by decide) (Nat.le_add_right _ _))
    have hm : ws.length ≤ 24 := by omega
    have e18 := e17.trans e8
    have h8 := (e7.trans e8) _ _ h6
    have allW := natsV_all hwm
    have bad : (24 < (natsV ws).length → ∀ (E : XK) (C : Addr) (H0 H1 : Hp), Ex H0 H1 → E (.ref C) none H1) ∧ ((natsV ws).length ≤ 24 → (natsV ws).all (within 0 1000000000000) = false → ∀ (E : XK) (C : Addr) (H0 H1 : Hp), Ex H0 H1 → E (.ref C) none H1) ∧ (okWeights (natsV ws) = true → within 1 12 (.int (b : Int)) = false → ∀ (E : XK) (C : Addr) (H0 H1 : Hp), Ex H0 H1 → E (.ref C) none H1) ∧
        (∀ c : Int, okWeights (natsV ws) = true → V.int (b : Int) = .int c → 1 ≤ c → c ≤ 12 → (2 : Int) ^ c.toNat < ((natsV ws).length : Int) → ∀ (E : XK) (C : Addr) (H0 H1 : Hp), Ex H0 H1 → E (.ref C) none H1) := by
      refine ⟨fun z => ?_, fun _ z => ?_, fun _ z => ?_, fun c _ hc _ _ z => ?_⟩
      · rw [natsV_len] at z
        exact absurd z (by omega)
      · rw [allW] at z
        cases z
      · rw [within_yes (by omega) (by omega)] at z
        cases z
      · cases hc
        rw [natsV_len, Int.toNat_natCast, pow_int] at z
        exact absurd z (by omega)
    refine q_when (et_test (ev_op (ev_var rfl) ev_c (rv_eq rfl))) (fun _ H9 e9 => ?_) (fun _ H9 e9 => ?_)
    · have e19 := e18.trans e9
      refine ⟨.ref pw, rfl, .int (b : Int), rfl, pw, natsV ws, .int (b : Int), rfl, sq_of (e9 _ _ h8), natsV_thing, .int _, tab_ex hTab e19, fun ws' b' hws hb' _ _ _ _ _ => ?_, fun z => bad.1 z _ _ H9, fun y z => bad.2.1 y z _ _ H9, fun y z => bad.2.2.1 y z _ _ H9, fun c x1 x2 x3 x4 x5 => bad.2.2.2 c x1 x2 x3 x4 x5 _ _ H9⟩
      have := natsV_inj (ws := ws) (ws' := ws') hws
      subst this
      cases Int.ofNat.inj (V.int.inj hb')
      intro p H10 np x10 t10 h10
      have in_ := freeLens_in hm b1 hroom
      have in12 : ∀ x ∈ freeLens ws' b, 1 ≤ x ∧ x ≤ 12 := fun x hx => by have := in_ x hx; omega
      exact q _ (good_for (byLen_for in12 (free_12 hm b1 b2 hroom)) (by rw [freeLens_len]; exact hm) in12) p H10 (np.back (ExN e19)) ((ExN e19).trans x10) t10 h10
    · have e19 := e18.trans e9
      refine ⟨.ref pw, rfl, .int (b : Int), rfl, pw, natsV ws, .int (b : Int), rfl, sq_of (e9 _ _ h8), natsV_thing, .int _, fun ws' b' hws hb' _ _ _ _ _ => ?_, fun z => bad.1 z _ _ H9, fun y z => bad.2.1 y z _ _ H9, fun y z => bad.2.2.1 y z _ _ H9, fun c x1 x2 x3 x4 x5 => bad.2.2.2 c x1 x2 x3 x4 x5 _ _ H9⟩
      have := natsV_inj (ws := ws) (ws' := ws') hws
      subst this
      cases Int.ofNat.inj (V.int.inj hb')
      intro p H10 np x10 h10
      have in_ := ordLens_in b1 hroom
      have in12 : ∀ x ∈ ordLens ws' b, 1 ≤ x ∧ x ≤ 12 := fun x hx => by have := in_ x hx; omega
      have e110 := e19.trans x10
      exact q _ (good_for (wordsO_for in12 (ord_12 b1 b2 hroom)) (by rw [ordLens_len hroom]; exact hm) in12) p H10 (NewN.ofX (ExN e19) np) (ExN e110) (tab_ex hTab e110) h10
end
end Sl
namespace Sl
open PySem PySem.Spec PyProof.Rows L2 Evl
section
variable {P : Program} {w : World} {K : PySem.W.Frag} {mg : Str → Option Value} {base : Heap} {t : Adr}
/-! _law_read -/
def spLawRead (K : PySem.W.Frag) : Sp := fun vs H Q _ => ∃ (a : Addr) (us : List (List Nat)) (l : List Nat), vs = [.ref a, .str (tx l)] ∧ SqL K H a (us.map vtx) ∧ GoodW us ∧ l.length ≤ 800 ∧ (readGo us l [] [] = none → RetU [.str "refused", .str "BadBits"] H Q) ∧ ∀ ss, readGo us l [] [] = some ss → RetL (natsV ss) H Q
theorem ok_lw_read (T : Top K mg t) : FnOk P w K mg base CX0 1 t.f_lw_read t.d_lw_read ["_law_words_here", "_law_bits"] (spLawRead K) := by
  refine T.lw_read.F.ok sc_lw_read (fun vs H Q E h => ?_) (fun cdv A outer s H vs Q E hr h => ?_)
  · obtain ⟨a, us, l, rfl, _⟩ := h
    rfl
  · obtain ⟨a, us, l, rfl, hS, hG, hl, qn, qs⟩ := h
    refine ⟨_, (pss_cons (ps_set (i := 2) sc_lw_read.nd rfl (.inl rfl) (pe_lst pa_nil))
      (pss_cons (ps_set (i := 3) sc_lw_read.nd rfl (.inr rfl) pe_str)
      (pss_cons (ps_for PassesOwn.never rfl (pi_str (pv 1)) (pg_name (i := 4) sc_lw_read.nd rfl (.inl rfl)) (pss_cons (ps_set (i := 3) sc_lw_read.nd rfl (.inr rfl) (pe_op op_add_str (pv 3) (pv 4)))
      (pss_one (ps_if (pt_cmpR op_in_seq (pv 3) (pv 0) rfl) (pss_cons (ps_expr (pe_bm PySem.F.plainAttrs_list PySem.F.slot_list_append PySem.F.type_list_append mt_append (pv 2) (pa_cons (pe_bm PySem.F.plainAttrs_list PySem.F.slot_list_index PySem.F.type_list_index mt_index (pv 0) (pa_cons (pv 3) pa_nil)) pa_nil)))
      (pss_one (ps_set (i := 3) sc_lw_read.nd rfl (.inr rfl) pe_str))) (pss_one (ps_if (pt_cmpR (r := rEqD K) (op_eqD hr.units) (pe_lc (own := [("_law_one", 5)]) (g := gName 5)  rfl sc_lw_read.nd (pi_list (pv 0)) (blkOk_by (own := [("_law_one", 5)]) (N := N_lw_read) (sc := defScope s_lw_read) (by decide +kernel)) (fun _ _ _ _ _ => (pg_name (i := 5) sc_lw_read.nd rfl (.inl rfl))) (fun _ _ _ _ _ => (pts_one (pt_cmpR op_eq (pe_slice sl_str (pv 5) po_none (po_some (pe_callB (r := rLenTx) call_len_str (by rfl) T.b.b_len (by decide +kernel) (pa_cons (pv 3) pa_nil)))) (pv 3) (nomark _)))) (fun _ _ _ _ _ => (pv 5))) (pe_lst pa_nil) (nomark _)) (pss_one (ps_ret (pe_tup (pa_cons pe_str (pa_cons pe_str pa_nil))))) pss_nil))))))
      (pss_cons (ps_if (pt_cmpR op_ne (pv 3) pe_str (nomark _)) (pss_one (ps_ret (pe_tup (pa_cons pe_str (pa_cons pe_str pa_nil))))) pss_nil)
      (pss_one (ps_ret (pv 2))))))), ?_⟩
    have hsm : ∀ u ∈ us, u.length ≤ 12 ∧ ∀ c ∈ u, c < 0x110000 := fun u h => ⟨(hG.2.1 u h).2.1, fun c hc => by rcases (hG.2.1 u h).2.2 c hc with e | e <;> omega⟩
    have l24 := hG.1
    refine q_asgL (xs := natsV []) (el_lst ea_nil (by decide)) fun ps H1 nps e1 h1 => ?_
    refine q_asg (v := .str (tx [])) ev_c fun H2 e2 => ?_
    have h2 := e2 _ _ h1
    have refuse : ∀ (D : Ends) (σ : L2.St) (H3 : Hp), D.rt = Q → Ex H H3 → readGo us l [] [] = none → tRet (tTup (tCons (tC (.str "refused")) (tCons (tC (.str "BadBits")) tNil))) D σ H3 := fun D σ H3 hD e3 hn => by
      refine s_retU (eu_tup (ea_cons ev_c (ea_cons ev_c ea_nil)) (by show 2 ≤ 100000; decide)) fun p H4 hp e4 h4 => ?_
      rw [hD]
      exact qn hn p H4 (fresh_back e3 hp) (e3.trans e4) h4
    refine q_forStr (z := tx l) (ev_var rfl) (fun i σ' H' => Ex H H' ∧ ∃ (hd dn : List Nat) (v4 : Option V), σ' = [some (V.ref a), some (V.str (tx l)), some (V.ref ps), some (V.str (tx hd)), v4, none] ∧ H' ps = some (.lst (natsV dn)) ∧ hd.length ≤ i ∧ dn.length ≤ i ∧ readGo us (l.drop i) hd dn = readGo us l [] [])
      (fun H3 e3 => ⟨(e1.trans e2).trans e3, [], [], none, rfl, e3 _ _ h2, Nat.le_refl _, Nat.le_refl _, rfl⟩) (fun i c σ' H' hc hP => ?_) fun σ' H' hP => ?_
    · obtain ⟨e3, hd, dn, v4, rfl, hps, hl1, hl2, hgo⟩ := hP
      have hc' : l[i]? = some c := by
        have : l.toArray[i]? = some c := hc
        rw [List.getElem?_toArray] at this
        exact this
      have hi := (List.getElem?_eq_some_iff.mp hc').1
      have ed : l.drop i = c :: l.drop (i + 1) := by
        rw [List.drop_eq_getElem_cons hi]
        congr 1
        exact (List.getElem?_eq_some_iff.mp hc').2
      rw [ed] at hgo
      refine q_asg (v := .str (tx (hd ++ [c]))) (ev_catTx (b := [c]) (ev_var rfl) (ev_var rfl) (by show _ + 1 ≤ _; omega)) fun H4 e4 => ?_
      have e34 := e3.trans e4
      refine s_if (et_test (ev_inW (w := hd ++ [c]) (ev_var rfl) (ev_var rfl) (ex_l e34 hS))) (fun hin H5 e5 => ?_) (fun hin H5 e5 => ?_)
      · have hmem : (hd ++ [c]) ∈ us := by
          obtain ⟨v, h1, h2⟩ := List.any_eq_true.mp hin
          rw [← of_decide_eq_true h2]
          exact h1
        have st : stepOf us (hd ++ [c]) = some (some (us.idxOf (hd ++ [c]))) := by
          unfold stepOf
          rw [if_pos hin]
        rw [readGo_sign st] at hgo
        have e35 := e34.trans e5
        refine q_app (l := ps) ((e4.trans e5) _ _ hps) (ev_var rfl) (ev_indexW (ev_var rfl) (ev_var rfl) (ex_l e35 hS) hmem) (by rw [natsV_len]; omega) fun H6 e6 => ?_
        refine s_asg (v := .str (tx [])) ev_c fun H7 e7 => ?_
        refine ⟨(Ex.mut (e35.trans e6) nps).trans e7, [], dn ++ [us.idxOf (hd ++ [c])], _, rfl, e7 _ _ ?_, Nat.zero_le _, by rw [List.length_append]; show _ + 1 ≤ _; omega, hgo⟩
        rw [upd_same]
        unfold natsV
        rw [List.map_append]
        rfl
      · have e35 := e34.trans e5
        have cL := el_lcL (K := K) (σ := [some (V.ref a), some (V.str (tx l)), some (V.ref ps), some (V.str (tx (hd ++ [c]))), some (V.str ⟨#[c]⟩), none]) (H := H5) (a := a) (xs := us.map vtx) (tl := tVar 0) (j := 5) (vs := [5]) (te := tVar 5)
          (t := tTest (tOp rEq (tSl rSlS (tVar 5) tNoPart (tPart (tCB rLenTx (tCons (tVar 3) tNil)))) (tVar 3))) (fun i => decide ((us.getD i []).take (hd ++ [c]).length = hd ++ [c])) (fun i => vtx (us.getD i [])) (ev_var rfl) (ex_l e35 hS) (by rw [List.length_map]; omega) (fun x => rfl)
          (fun i x H6 e6 hx => by
            rw [List.getElem?_map] at hx
            obtain ⟨v, h1, rfl⟩ := Option.map_eq_some_iff.mp hx
            have := (hsm v (List.mem_of_getElem? h1)).1
            rw [List.getD_eq_getElem?_getD, h1]
            refine et_is (et_test (ev_op (ev_slTo (l := v) (ev_var rfl) (eo_some (ev_lenTx (l := hd ++ [c]) (ev_var rfl) (by rw [List.length_append]; show _ + 1 ≤ _; omega))) (by omega)) (ev_var rfl) (rv_eq rfl))) ?_
            exact decide_eq_decide.mpr ⟨fun z => tx_inj (V.str.inj z), fun z => by rw [show v.take (hd ++ [c]).length = hd ++ [c] from z]⟩)
          (fun i x H6 e6 hx _ => by
            rw [List.getElem?_map] at hx
            obtain ⟨v, h1, rfl⟩ := Option.map_eq_some_iff.mp hx
            rw [List.getD_eq_getElem?_getD, h1]
            exact ev_var rfl)
        rw [given_filterW (by rw [List.length_map]) fun v => decide (v.take (hd ++ [c]).length = hd ++ [c])] at cL
        have fe : (us.filter fun v => decide (v.take (hd ++ [c]).length = hd ++ [c])).isEmpty = !(us.any fun v => decide (v.take (hd ++ [c]).length = hd ++ [c])) := by
          rw [Bool.eq_iff_iff, List.isEmpty_iff, List.filter_eq_nil_iff, Bool.not_eq_true', List.any_eq_false]
        refine s_when (et_test (ev_eqNilW cL (el_lst ea_nil (by decide)) fun v hv => (hsm v (List.mem_filter.mp hv).1).2)) (fun hz H6 e6 => ?_) (fun hz H6 e6 => ?_)
        · rw [fe] at hz
          refine refuse _ _ H6 rfl (e35.trans e6) ?_
          rw [← hgo]
          refine readGo_none ?_
          unfold stepOf
          rw [hin, if_neg (by decide), if_neg (fun z => by rw [z] at hz; cases hz)]
        · rw [fe] at hz
          have st : stepOf us (hd ++ [c]) = some none := by
            unfold stepOf
            rw [hin, if_neg (by decide), if_pos (by simpa using hz)]
          rw [readGo_more st] at hgo
          exact ⟨e35.trans e6, hd ++ [c], dn, _, rfl, ((e4.trans e5).trans e6) _ _ hps, by rw [List.length_append]; show _ + 1 ≤ _; omega, by omega, hgo⟩
    · obtain ⟨e3, hd, dn, v4, rfl, hps, hl1, hl2, hgo⟩ := hP
      have es : (tx l).cps.size = l.length := tx_len l
      rw [es, List.drop_length] at hgo
      refine q_when (et_test (ev_op (ev_var rfl) (ev_c (v := .str (tx []))) (rv_ne rfl))) (fun hz H4 e4 => ?_) (fun hz H4 e4 => ?_)
      · refine refuse _ _ H4 rfl (e3.trans e4) ?_
        rw [← hgo]
        unfold readGo
        rw [if_neg fun z => ?_]
        rw [z, decide_eq_true rfl] at hz
        cases hz
      · have hd0 : hd = [] := by
          have hz : (!decide (V.str (tx hd) = V.str (tx []))) = false := hz
          rw [Bool.not_eq_false'] at hz
          exact tx_inj (V.str.inj (of_decide_eq_true hz))
        subst hd0
        have hs : readGo us l [] [] = some dn := by
          rw [← hgo]
          unfold readGo
          rw [if_pos rfl]
        exact s_ret (ev_var rfl) fun H5 e5 => qs dn hs ps H5 nps ((e3.trans e4).trans e5) ((e4.trans e5) _ _ hps)
end
end Sl
namespace Sl
open PySem PySem.Spec PyProof.Rows L2 Evl
section
variable {P : Program} {w : World} {K : PySem.W.Frag} {mg : Str → Option Value} {base : Heap} {t : Adr}
/-! _law_told -/
def spTold (K : PySem.W.Frag) : Sp := fun vs H Q _ => ∃ (wh : Int) (a : Addr) (xs : List V) (x : V), vs = [.int wh, .ref a, x] ∧ SqL K H a xs ∧ xs.length ≤ 1000 ∧ ThW H xs ∧ (¬ GoodX xs → RetU [.str "refused", .str "BadWords"] H Q) ∧
  ((wh = 0 ∧ ∃ (b : Addr) (ys : List V), x = .ref b ∧ SqL K H b ys ∧ ys.length ≤ 1000 ∧ (∀ y ∈ ys, Thing H y) ∧ ∀ us, xs = us.map vtx → GoodW us → (ys.all (within 0 ((us.length : Int) - 1)) = false → RetU [.str "refused", .str "NoSign"] H Q) ∧ ∀ ss : List Nat, ys = natsV ss → (∀ s ∈ ss, s < us.length) → RetU [.str "text", .str (tx (bitsOf us ss))] H Q) ∨
   (wh = 2 ∧ ¬ GoodX xs) ∨
   (wh = 1 ∧ Thing H x ∧ (∀ s, x = .str s → s.cps.size ≤ 800) ∧ ∀ us, xs = us.map vtx → GoodW us → (readX us x = none → RetU [.str "refused", .str "BadBits"] H Q) ∧ ∀ ss, readX us x = some ss → RetL (natsV ss) H Q))
theorem roomS {j k : Nat} {A : Around} {h : Option Value} (r : Room k A) (e : j ≤ k) : L2H.RoomH j (A.mark h) := ⟨(r.mono e).dp, (r.mono e).un⟩
theorem ok_lw_told (T : Top K mg t) : FnOk P w K mg base CX0 6 t.f_lw_told t.d_lw_told ["_law_which", "_law_words_here", "_law_thing"] (spTold K) := by
  refine T.lw_told.F.ok sc_lw_told (fun vs H Q E h => ?_) (fun cdv A outer s H vs Q E hr h => ?_)
  · obtain ⟨wh, a, xs, x, rfl, _⟩ := h
    rfl
  · obtain ⟨wh, a, xs, x, rfl, hS, hn, hT, qb, hk⟩ := h
    refine ⟨_, pss_one (ps_try_as (i := 3) (tb := fun W => tSeq (tIfS (tTest (tOp rEq (tVar 0) (tC (.int 0)))) (tRet (tTup (tCons (tC (.str "text")) (tCons (tCallS (spWritten K t.C_BadWords t.C_NoSign) (WE W) (tCons (tVar 1) (tCons (tVar 2) tNil))) tNil)))) tNext)
        (tSeq (tIfS (tTest (tOp rEq (tVar 0) (tC (.int 2)))) (tRet (tTup (tCons (tC (.str "text")) (tCons (tMeth t.C_Reader "held" (spRHeld t.C_Reader) [] E0 (tMakeT t.C_Reader (spRInit K t.C_Reader t.C_BadWords) (WE W) (tCons (tVar 1) tNil)) tNil) tNil)))) tNext)
          (tRet (tCallS (spRead K t.C_BadWords t.C_BadBits) (WE W) (tCons (tVar 1) (tCons (tVar 2) tNil))))))
      (ts := fun a c d => fun D σ H => d = none ∧ tRet (tCall (spWordOf K t a c) [] E0 (tCons (tVar 3) tNil)) D σ H) (Wout := fun _ _ _ _ => False) rfl rfl sc_lw_told.nd rfl rfl ⟨rfl, by decide, .inl T.C_CodeError.gC⟩ takes0
      (fun W pn xe tk _ => pss_cons (ps_if (pt_cmpR op_eq (pv 0) pe_int (nomark _)) (pss_one (ps_ret (pe_tup (pa_cons pe_str (pa_cons (pe_callS (ok_written T) (hr.mono (by decide)) (by rfl) T.written.g T.written.F.kp T.written.b (fun σ => passAt tk σ) (pa_cons (pv 1) (pa_cons (pv 2) pa_nil))) pa_nil))))) pss_nil)
        (pss_cons (ps_if (pt_cmpR op_eq (pv 0) pe_int (nomark _)) (pss_one (ps_ret (pe_tup (pa_cons pe_str (pa_cons (pe_meth0 (pe_makeT T.mk_Reader (ok_reader_init T) (hr.mono (by decide)) (by rfl) T.oc_Reader.gC T.reader_init.b (fun σ => passAt tk σ) (pa_cons (pv 1) pa_nil)) T.oc_Reader.cl T.me_reader_held (ok_reader_held T) (hr.mono (by decide)) T.reader_held.b .nil pass0) pa_nil))))) pss_nil)
          (pss_one (ps_ret (pe_callS (ok_read T) (hr.mono (by decide)) (by rfl) T.read.g T.read.F.kp T.read.b (fun σ => passAt tk σ) (pa_cons (pv 1) (pa_cons (pv 2) pa_nil)))))))
      (fun a oe c d pn hz hf => pss_given fun hd => pss_one (ps_ret (pe_callE (p := (a, oe)) (c := c) (ok_lw_word_of T) (roomS hr (by decide)) List.mem_cons_self (hd ▸ hz) hf (by rfl) T.lw_word_of.g T.lw_word_of.F.kp T.lw_word_of.b (pa_cons (pv 3) pa_nil))))), ?_⟩
    rcases hk with ⟨rfl, b, ys, rfl, hB, hy, hY, q⟩ | ⟨rfl, hbad⟩ | ⟨rfl, hx, hxl, q⟩
    · refine q_when (et_test (ev_op (ev_var rfl) ev_c (rv_eq rfl))) (fun _ H1 e1 => ?_) (fun z _ _ => absurd z (by decide))
      refine ⟨.ref a, rfl, .ref b, rfl, a, b, xs, ys, rfl, ex_l e1 hS, ex_l e1 hB, hn, hy, hT.mono e1, fun y h => (hY y h).mono e1, fun hno H2 e2 => ?_, fun us hus hG => ⟨fun hz H2 e2 => ?_, fun ss hss hlt H2 e2 => ?_⟩⟩
      · refine ⟨true, T.E_BadWords.sub, fun _ c hc => ⟨rfl, .ref c, rfl, _, _, rfl, rfl, T.E_BadWords, fun p H3 hp e3 h3 => ?_⟩, fun z => nomatch z⟩
        exact qb hno p H3 (fresh_back (e1.trans e2) hp) ((e1.trans e2).trans e3) h3
      · refine ⟨true, T.E_NoSign.sub, fun _ c hc => ⟨rfl, .ref c, rfl, _, _, rfl, rfl, T.E_NoSign, fun p H3 hp e3 h3 => ?_⟩, fun z => nomatch z⟩
        exact (q us hus hG).1 hz p H3 (fresh_back (e1.trans e2) hp) ((e1.trans e2).trans e3) h3
      · refine ⟨sz_of (by show 2 ≤ 100000; decide), fun p hp => ?_⟩
        exact (q us hus hG).2 ss hss hlt p _ (fresh_back (e1.trans e2) hp) ((e1.trans e2).trans (Ex.new hp)) upd_same
    · refine q_when (et_test (ev_op (ev_var rfl) ev_c (rv_eq rfl))) (fun z _ _ => absurd z (by decide)) (fun _ H1 e1 => ?_)
      refine q_when (et_test (ev_op (ev_var rfl) ev_c (rv_eq rfl))) (fun _ H2 e2 => ?_) (fun z _ _ => absurd z (by decide))
      have e12 := e1.trans e2
      refine ⟨.ref a, rfl, fun r dx nr ndx hne => ?_⟩
      have e0 : Ex H2 (upd H2 dx (.own r)) := Ex.new ndx
      have nr2 : (upd H2 dx (.own r)) r = none := by rw [upd_ne hne.symm]; exact nr
      have e3 := e0.trans (Ex.new (o := .ins t.C_Reader dx []) nr2)
      refine ⟨r, a, dx, xs, rfl, upd_same, ex_l (e12.trans e3) hS, hn, hT.mono (e12.trans e3), fun us hus hG => absurd ⟨us, hus, hG⟩ hbad, fun _ H3 e4 => ?_⟩
      have e14 := (e12.trans e3).trans e4
      refine ⟨true, T.E_BadWords.sub, fun _ c hc => ⟨rfl, .ref c, rfl, _, _, rfl, rfl, T.E_BadWords, fun p H4 hp e5 h4 => ?_⟩, fun z => nomatch z⟩
      exact qb hbad p H4 (fresh_back e14 hp) (e14.trans e5) h4
    · refine q_when (et_test (ev_op (ev_var rfl) ev_c (rv_eq rfl))) (fun z _ _ => absurd z (by decide)) (fun _ H1 e1 => ?_)
      refine q_when (et_test (ev_op (ev_var rfl) ev_c (rv_eq rfl))) (fun z _ _ => absurd z (by decide)) (fun _ H2 e2 => ?_)
      have e12 := e1.trans e2
      refine ⟨.ref a, rfl, x, rfl, a, xs, x, rfl, ex_l e12 hS, hn, hT.mono e12, hx.mono e12, hxl, fun hno H3 e3 => ?_, fun us hus hG => ⟨fun hz H3 e3 => ?_, fun ss hss p H3 hp e3 h3 => ?_⟩⟩
      · refine ⟨true, T.E_BadWords.sub, fun _ c hc => ⟨rfl, .ref c, rfl, _, _, rfl, rfl, T.E_BadWords, fun p H4 hp e4 h4 => ?_⟩, fun z => nomatch z⟩
        exact qb hno p H4 (fresh_back (e12.trans e3) hp) ((e12.trans e3).trans e4) h4
      · refine ⟨true, T.E_BadBits.sub, fun _ c hc => ⟨rfl, .ref c, rfl, _, _, rfl, rfl, T.E_BadBits, fun p H4 hp e4 h4 => ?_⟩, fun z => nomatch z⟩
        exact (q us hus hG).1 hz p H4 (fresh_back (e12.trans e3) hp) ((e12.trans e3).trans e4) h4
      · exact (q us hus hG).2 ss hss p H3 (fresh_back e12 hp) (e12.trans e3) h3
end
end Sl
namespace Sl
open PySem PySem.Spec PyProof.Rows L2 Evl
section
variable {P : Program} {w : World} {K : PySem.W.Frag} {mg : Str → Option Value} {base : Heap} {t : Adr}
/-! _law_turned -/
def spTurned : Sp := fun vs H Q _ => ∃ (l : List Nat) (cell : Int), vs = [.str (tx l), .int cell] ∧ l.length ≤ 500 ∧ (∀ c ∈ l, c < 0x110000) ∧ ∀ l' : List Nat, l'.length ≤ 501 → (∀ c ∈ l', c < 0x110000) → RetV (.str (tx l')) H Q
theorem cutS_from (l : List Nat) (n : Nat) (h : n ≤ l.length) : cutS (tx l) (some (n : Int)) none = tx (l.drop n) := by
  unfold cutS
  rw [HT.sIx_none, show HT.sIx (tx l).length 0 (some (n : Int)) = min n (tx l).length from HT.sIx_nat _ _ n, tx_len, Nat.min_eq_left h]
  show tx ((l.drop n).take (l.length - n)) = _
  rw [List.take_of_length_le (by rw [List.length_drop]; omega)]
theorem ev_slFrom {σ : L2.St} {H : Hp} {ta : TE} {l : List Nat} {n : Nat} {th : TO} (ha : Ev ta σ H (.str (tx l))) (hh : EvO th σ H (some (n : Int))) (hl : l.length ≤ 100000) (hn : n ≤ l.length) : Ev (tSl rSlS ta th tNoPart) σ H (.str (tx (l.drop n))) := fun H1 e Q q =>
  ha H1 e _ fun H2 e2 => hh H2 (e.trans e2) _ fun H3 e3 => ⟨tx l, rfl, by rw [tx_len]; exact sz_of hl, by rw [cutS_from l n hn]; exact q H3 (e2.trans e3)⟩
theorem ok_lw_turned (T : Top K mg t) : FnOk P w K mg base CX0 1 t.f_lw_turned t.d_lw_turned ["_law_bits", "_law_cell_here"] spTurned := by
  refine T.lw_turned.F.ok sc_lw_turned (fun vs H Q E h => ?_) (fun cdv A outer s H vs Q E hr h => ?_)
  · obtain ⟨l, cell, rfl, _⟩ := h
    rfl
  · obtain ⟨l, cell, rfl, hl, hc, q⟩ := h
    refine ⟨_, (pss_cons (ps_set (i := 2) sc_lw_turned.nd rfl (.inl rfl) (pe_op op_mod (pe_op op_fdiv (pv 1) pe_int) (pe_op op_add (pe_callB (r := rLenTx) call_len_str (by rfl) T.b.b_len (by decide +kernel) (pa_cons (pv 0) pa_nil)) pe_int)))
      (pss_cons (ps_if (pt_cmpR op_eq (pe_op op_mod (pv 1) pe_int) pe_int (nomark _)) (pss_one (ps_ret (pe_op op_add_str (pe_slice sl_str (pv 0) po_none (po_some (pv 2))) (pe_slice sl_str (pv 0) (po_some (pe_op op_add (pv 2) pe_int)) po_none)))) pss_nil)
      (pss_cons (ps_if (pt_cmpR op_eq (pe_op op_mod (pv 1) pe_int) pe_int (nomark _)) (pss_one (ps_ret (pe_op op_add_str (pe_op op_add_str (pe_slice sl_str (pv 0) po_none (po_some (pv 2))) (pe_ix ix_str pe_str (pe_op op_mod (pe_op op_fdiv (pv 1) pe_int) pe_int) (fun _ _ => rfl))) (pe_slice sl_str (pv 0) (po_some (pv 2)) po_none)))) pss_nil)
      (pss_cons (ps_if (pt_cmpR op_eq (pe_op op_mod (pv 1) pe_int) pe_int (nomark _)) (pss_one (ps_ret (pe_op op_add_str (pe_op op_add_str (pe_slice sl_str (pv 0) po_none (po_some (pv 2))) (pe_ix (r := rIxL K) ix_list (pe_lst (pa_cons pe_str (pa_cons pe_str (pa_cons pe_str (pa_cons pe_str (pa_cons pe_str pa_nil)))))) (pe_op op_mod (pe_op op_fdiv (pv 1) pe_int) pe_int) (fun _ _ => rfl))) (pe_slice sl_str (pv 0) (po_some (pv 2)) po_none)))) pss_nil)
      (pss_cons (ps_if (pt_cmpR op_eq (pe_op op_mod (pv 1) pe_int) pe_int (nomark _)) (pss_one (ps_ret (pe_slice sl_str (pv 0) po_none (po_some (pv 2))))) pss_nil)
      (pss_one (ps_ret (pv 0)))))))), ?_⟩
    obtain ⟨n, cn, dn⟩ := mod_nat (cell / 8) (show 0 < l.length + 1 by omega)
    rw [show ((l.length + 1 : Nat) : Int) = (l.length : Int) + 1 by omega] at cn
    have hn : n ≤ l.length := by omega
    have cA : ∀ c ∈ l.take n, c < 0x110000 := fun c h => hc c (List.mem_of_mem_take h)
    have cB : ∀ k, ∀ c ∈ l.drop k, c < 0x110000 := fun k c h => hc c (List.mem_of_mem_drop h)
    have app : ∀ {a b : List Nat}, (∀ c ∈ a, c < 0x110000) → (∀ c ∈ b, c < 0x110000) → ∀ c ∈ a ++ b, c < 0x110000 := fun ha hb c h => (List.mem_append.mp h).elim (ha c) (hb c)
    have lA : (l.take n).length = n := by rw [List.length_take]; omega
    have lB : (l.drop n).length = l.length - n := List.length_drop ..
    have lB1 : (l.drop (n + 1)).length = l.length - (n + 1) := List.length_drop ..
    refine q_asg (v := .int (n : Int)) (ev_is (ev_op (ev_op (ev_var rfl) ev_c (rv_I ⟨by decide, by decide⟩)) (ev_op (ev_lenTx (l := l) (ev_var rfl) (by omega)) ev_c rv_I0) (rv_I (show (0 : Int) < (l.length : Int) + 1 by omega))) (congrArg V.int cn)) fun H1 e1 => ?_
    have eA : ∀ {σ : L2.St} {H : Hp}, σ[0]? = some (some (.str (tx l))) → σ[2]? = some (some (.int (n : Int))) → Ev (tSl rSlS (tVar 0) tNoPart (tPart (tVar 2))) σ H (.str (tx (l.take n))) := fun s0 s2 => ev_slTo (ev_var s0) (eo_some (ev_var s2)) (by omega)
    have eB : ∀ {σ : L2.St} {H : Hp}, σ[0]? = some (some (.str (tx l))) → σ[2]? = some (some (.int (n : Int))) → Ev (tSl rSlS (tVar 0) (tPart (tVar 2)) tNoPart) σ H (.str (tx (l.drop n))) := fun s0 s2 => ev_slFrom (ev_var s0) (eo_some (ev_var s2)) (by omega) hn
    refine q_when (et_test (ev_op (ev_op (ev_var rfl) ev_c (rv_I (by decide))) ev_c (rv_eq rfl))) (fun _ H2 e2 => ?_) (fun _ H2 e2 => ?_)
    · by_cases hz : n + 1 ≤ l.length
      · refine s_ret (ev_catTx (eA rfl rfl) (ev_slFrom (l := l) (n := n + 1) (ev_var rfl) (eo_some (ev_is (ev_op (ev_var rfl) ev_c rv_I0) (congrArg V.int (by omega)))) (by omega) hz) (by omega)) fun H3 e3 => ?_
        exact q _ (by rw [List.length_append]; omega) (app cA (cB _)) H3 ((e1.trans e2).trans e3)
      · have he : n = l.length := by omega
        have hs : Ev (tSl rSlS (tVar 0) (tPart (tOp (rI0 fun i j => .int (i + j)) (tVar 2) (tC (.int 1)))) tNoPart) [some (V.str (tx l)), some (V.int cell), some (V.int (n : Int))] H2 (.str (tx [])) := fun H3 e3 Q q => by
          refine ⟨_, rfl, _, rfl, _, _, rfl, rfl, _, rfl, tx l, rfl, by rw [tx_len]; exact sz_of (by omega), ?_⟩
          have k : cutS (tx l) (some ((n : Int) + 1)) none = tx [] := by
            unfold cutS
            rw [HT.sIx_none, show (n : Int) + 1 = ((n + 1 : Nat) : Int) by omega, show HT.sIx (tx l).length 0 (some ((n + 1 : Nat) : Int)) = min (n + 1) (tx l).length from HT.sIx_nat _ _ _, tx_len, Nat.min_eq_right (by omega)]
            show tx ((l.drop l.length).take (l.length - l.length)) = _
            rw [List.drop_length, List.take_nil]
          rw [k]
          exact q H3 (Ex.refl _)
        refine s_ret (ev_catTx (eA rfl rfl) hs (by show _ + 0 ≤ _; omega)) fun H3 e3 => ?_
        exact q _ (by rw [List.length_append]; show _ + 0 ≤ _; omega) (app cA fun _ h => by cases h) H3 ((e1.trans e2).trans e3)
    have e12 := e1.trans e2
    refine q_when (et_test (ev_op (ev_op (ev_var rfl) ev_c (rv_I (by decide))) ev_c (rv_eq rfl))) (fun _ H3 e3 => ?_) (fun _ H3 e3 => ?_)
    · obtain ⟨m, cm, dm⟩ := mod_nat (cell / 8) (show 0 < 2 by decide)
      have one : Ev (tOp rIxS (tC (.str "01")) (tOp (rI (fun _ j => 0 < j) fun i j => .int (i % j)) (tOp (rI CDiv fun i j => .int (i / j)) (tVar 1) (tC (.int 8))) (tC (.int 2)))) [some (V.str (tx l)), some (V.int cell), some (V.int (n : Int))] H3 (.str (tx [48 + m])) := by
        have k := (ev_is (ev_op (ev_op (ev_var rfl) ev_c (rv_I ⟨by decide, by decide⟩)) ev_c (rv_I (by decide))) (congrArg V.int cm) : Ev (tOp (rI (fun _ j => 0 < j) fun i j => .int (i % j)) (tOp (rI CDiv fun i j => .int (i / j)) (tVar 1) (tC (.int 8))) (tC (.int 2))) [some (V.str (tx l)), some (V.int cell), some (V.int (n : Int))] H3 (.int (m : Int)))
        have c2 : m = 0 ∨ m = 1 := by omega
        refine ev_op ev_c k (rv_ixS (c := 48 + m) (by decide +kernel) ?_)
        rcases c2 with rfl | rfl <;> rfl
      refine s_ret (ev_catTx (ev_catTx (eA rfl rfl) one (by show _ + 1 ≤ _; omega)) (eB rfl rfl) (by rw [List.length_append]; show _ + 1 + _ ≤ _; omega)) fun H4 e4 => ?_
      exact q _ (by rw [List.length_append, List.length_append]; show _ + 1 + _ ≤ _; omega) (app (app cA fun c h => by rw [List.mem_singleton.mp h]; omega) (cB _)) H4 ((e12.trans e3).trans e4)
    have e13 := e12.trans e3
    refine q_when (et_test (ev_op (ev_op (ev_var rfl) ev_c (rv_I (by decide))) ev_c (rv_eq rfl))) (fun _ H4 e4 => ?_) (fun _ H4 e4 => ?_)
    · obtain ⟨m, cm, dm⟩ := mod_nat (cell / 3) (show 0 < 5 by decide)
      obtain ⟨d, hd, hp⟩ : ∃ d : Nat, d < 200 ∧ ([.str "2", .str " ", .str "x", .str "o", .str "\n"] : List V)[m]? = some (.str (tx [d])) := by
        have c5 : m = 0 ∨ m = 1 ∨ m = 2 ∨ m = 3 ∨ m = 4 := by omega
        rcases c5 with rfl | rfl | rfl | rfl | rfl
        · exact ⟨50, by decide, rfl⟩
        · exact ⟨32, by decide, rfl⟩
        · exact ⟨120, by decide, rfl⟩
        · exact ⟨111, by decide, rfl⟩
        · exact ⟨10, by decide, rfl⟩
      refine s_ret (ev_catTx (ev_catTx (b := [d]) (eA rfl rfl) (ev_pick (el_lst (ea_cons ev_c (ea_cons ev_c (ea_cons ev_c (ea_cons ev_c (ea_cons ev_c ea_nil))))) (by show 5 ≤ 100000; decide)) (ev_is (ev_op (ev_op (ev_var rfl) ev_c (rv_I ⟨by decide, by decide⟩)) ev_c (rv_I (by decide))) (congrArg V.int cm)) hp) (by show _ + 1 ≤ _; omega)) (eB rfl rfl) (by rw [List.length_append]; show _ + 1 + _ ≤ _; omega)) fun H5 e5 => ?_
      exact q _ (by rw [List.length_append, List.length_append]; show _ + 1 + _ ≤ _; omega) (app (app cA fun c h => by rw [List.mem_singleton.mp h]; omega) (cB _)) H5 ((e13.trans e4).trans e5)
    have e14 := e13.trans e4
    refine q_when (et_test (ev_op (ev_op (ev_var rfl) ev_c (rv_I (by decide))) ev_c (rv_eq rfl))) (fun _ H5 e5 => ?_) (fun _ H5 e5 => ?_)
    · exact s_ret (eA rfl rfl) fun H6 e6 => q _ (by omega) cA H6 ((e14.trans e5).trans e6)
    · exact s_ret (ev_var rfl) fun H6 e6 => q l (by omega) hc H6 ((e14.trans e5).trans e6)
end
end Sl
namespace Sl
open PySem PySem.Spec PyProof.Rows L2 Evl
section
variable {P : Program} {w : World} {K : PySem.W.Frag} {mg : Str → Option Value} {base : Heap} {t : Adr}
/-! _law_row -/
def spRow (K : PySem.W.Frag) : Sp := fun vs H Q _ => ∃ (a : Addr) (ns : List Int) (m : Nat), vs = [.ref a, .int (m : Int)] ∧ SqL K H a (ns.map V.int) ∧ m ≤ 1000 ∧ ∀ (p : Addr) (ys : List V) (H2 : Hp), H p = none → Ex H H2 → H2 p = some (.lst ys) → (∀ y ∈ ys, Simple H2 y) → ys.length ≤ 31 → Q (.ref p) H2
theorem ok_lw_row (T : Top K mg t) : FnOk P w K mg base CX0 2 t.f_lw_row t.d_lw_row ["_law_script", "_law_many"] (spRow K) := by
  refine T.lw_row.F.ok sc_lw_row (fun vs H Q E h => ?_) (fun cdv A outer s H vs Q E hr h => ?_)
  · obtain ⟨a, ns, m, rfl, _⟩ := h
    rfl
  · obtain ⟨a, ns, m, rfl, hS, hm, q⟩ := h
    refine ⟨_, (pss_cons (ps_setLc (i := 2) (own := [("_law_k", 4)]) (g := gName 4) (tt := tYes) rfl sc_lw_row.nd rfl rfl (sw_true rfl rfl rfl (by decide +kernel)) (pi_range1 (by rfl) T.b.b_range (pa_cons (pe_op op_mul (pe_op op_mod (pe_call (ok_lw_cell T) (hr.mono (by decide)) (by rfl) T.lw_cell.g T.lw_cell.F.kp T.lw_cell.b .nil pass0 (pa_cons (pv 0) (pa_cons pe_int pa_nil))) pe_int) (pe_callTy call_int1 (by rfl) T.b.b_int (by decide +kernel) (pa_cons (pe_cmpR op_gt (pv 1) pe_int (nomark _)) pa_nil))) pa_nil)) (blkOk_by (own := [("_law_k", 4)]) (N := N_lw_row) (sc := defScope s_lw_row) (by decide +kernel)) (fun _ _ _ _ _ => (pg_name (i := 4) sc_lw_row.nd rfl (.inl rfl))) (fun _ _ _ _ _ => pts_nil) (fun _ _ _ _ _ => (pe_op op_mod (pe_call (ok_lw_cell T) (hr.mono (by decide)) (by rfl) T.lw_cell.g T.lw_cell.F.kp T.lw_cell.b .nil pass0 (pa_cons (pv 0) (pa_cons (pe_op op_add pe_int (pv 4)) pa_nil))) (pe_callB (r := rMax2) (call_max2 rfl) (by rfl) T.b.b_max (by decide +kernel) (pa_cons pe_int (pa_cons (pv 1) pa_nil))))))
      (pss_cons (ps_if (pt_cmpR op_eq (pe_op op_mod (pe_call (ok_lw_cell T) (hr.mono (by decide)) (by rfl) T.lw_cell.g T.lw_cell.F.kp T.lw_cell.b .nil pass0 (pa_cons (pv 0) (pa_cons pe_int pa_nil))) pe_int) pe_int (nomark _)) (pss_cons (ps_set (i := 3) sc_lw_row.nd rfl (.inl rfl) (pe_lst (pa_cons (pv 1) (pa_cons (pe_un un_neg pe_int) (pa_cons pe_bl (pa_cons pe_bl (pa_cons pe_str (pa_cons pe_non (pa_cons (pe_lst (pa_cons pe_int pa_nil)) (pa_cons (pe_op op_add (pe_op op_add (pv 1) pe_int) (pe_op op_mod (pe_op op_fdiv (pe_call (ok_lw_cell T) (hr.mono (by decide)) (by rfl) T.lw_cell.g T.lw_cell.F.kp T.lw_cell.b .nil pass0 (pa_cons (pv 0) (pa_cons pe_int pa_nil))) pe_int) pe_int)) pa_nil))))))))))
      (pss_one (ps_expr (pe_bm PySem.F.plainAttrs_list PySem.F.slot_list_insert PySem.F.type_list_insert mt_insert (pv 2) (pa_cons (pe_op op_mod (pe_call (ok_lw_cell T) (hr.mono (by decide)) (by rfl) T.lw_cell.g T.lw_cell.F.kp T.lw_cell.b .nil pass0 (pa_cons (pv 0) (pa_cons pe_int pa_nil))) (pe_op op_add (pe_callB (r := rLenS K) call_len_seq (by rfl) T.b.b_len (by decide +kernel) (pa_cons (pv 2) pa_nil)) pe_int)) (pa_cons (pe_ix (r := rIxL K) ix_list (pv 3) (pe_op op_mod (pe_op op_fdiv (pe_call (ok_lw_cell T) (hr.mono (by decide)) (by rfl) T.lw_cell.g T.lw_cell.F.kp T.lw_cell.b .nil pass0 (pa_cons (pv 0) (pa_cons pe_int pa_nil))) pe_int) pe_int) (fun _ _ => rfl)) pa_nil)))))) pss_nil)
      (pss_one (ps_ret (pv 2))))), ?_⟩
    have cell : ∀ (σ : L2.St) (H1 : Hp) (k : Int), σ[0]? = some (some (V.ref a)) → Ex H H1 → 0 ≤ k → k ≤ 1000 → Ev (tCall (spLwCell K) [] E0 (tCons (tVar 0) (tCons (tC (.int k)) tNil))) σ H1 (.int (lwCell ns k)) := fun σ H1 k h0 e k0 k1 =>
      ev_call (ea_cons (ev_var h0) (ea_cons ev_c ea_nil)) (sv_cell (ex_l e hS) k0 (by omega))
    obtain ⟨r, cr, dr⟩ := mod_nat (lwCell ns 4) (show 0 < 31 by decide)
    obtain ⟨n, hn, hcn⟩ : ∃ n : Nat, n ≤ 30 ∧ lwCell ns 4 % 31 * (if decide ((m : Int) > 0) = true then 1 else 0) = (n : Int) := by
      rw [show lwCell ns 4 % 31 = (r : Int) from cr]
      split
      · exact ⟨r, by omega, by omega⟩
      · exact ⟨0, by omega, by omega⟩
    have hmx : (0 : Int) < (if (m : Int) > 1 then (m : Int) else 1) := by split <;> omega
    have cL := el_lcR1 (σ := [some (V.ref a), some (V.int (m : Int)), none, none, none]) (H := H) (j := 4) (vs := [4]) (t := tYes) (n := (n : Int))
      (ta := tCons (tOp (rI CMul fun i j => .int (i * j)) (tOp (rI (fun _ j => 0 < j) fun i j => .int (i % j)) (tCall (spLwCell K) [] E0 (tCons (tVar 0) (tCons (tC (.int 4)) tNil))) (tC (.int 31))) (tCB (fun xs H Q => (∃ i, xs = [.int i] ∧ Q (.int i) H) ∨ ∃ k, xs = [.bl k] ∧ Q (.int (if k then 1 else 0)) H) (tCons (tOp (rI0 fun i j => .bl (decide (i > j))) (tVar 1) (tC (.int 0))) tNil))) tNil)
      (te := tOp (rI (fun _ j => 0 < j) fun i j => .int (i % j)) (tCall (spLwCell K) [] E0 (tCons (tVar 0) (tCons (tOp (rI0 fun i j => .int (i + j)) (tC (.int 20)) (tVar 4)) tNil))) (tCB rMax2 (tCons (tC (.int 1)) (tCons (tVar 1) tNil))))
      (fun _ => true) (fun i => .int (lwCell ns (20 + (i : Int)) % (if (m : Int) > 1 then (m : Int) else 1)))
      (ea_cons (ev_is (ev_op (ev_op (cell _ _ 4 rfl (Ex.refl _) (by decide) (by decide)) ev_c (rv_I (by decide))) (ev_intB (ev_op (ev_var rfl) ev_c rv_I0)) (rv_I (.inr ⟨by split <;> decide, by split <;> decide⟩))) (congrArg V.int hcn)) ea_nil) ⟨by omega, by omega⟩ (fun x => rfl) (fun i H1 e1 hi => et_yes)
      (fun i H1 e1 hi _ => ev_op (ev_call (ea_cons (ev_var rfl) (ea_cons (ev_op ev_c (ev_var rfl) rv_I0) ea_nil)) (sv_cell (ex_l e1 hS) (by omega) (by omega))) (ev_max2 ev_c (ev_var rfl)) (rv_I hmx))
    rw [given_every, Int.toNat_natCast] at cL
    refine q_asgL cL fun p H1 np e1 h1 => ?_
    obtain ⟨ys, hys⟩ : ∃ ys, ys = (List.range n).map fun (i : Nat) => V.int (lwCell ns (20 + (i : Int)) % (if (m : Int) > 1 then (m : Int) else 1)) := ⟨_, rfl⟩
    rw [← hys] at h1
    have yl : ys.length = n := by rw [hys, List.length_map, List.length_range]
    have yS : ∀ (H : Hp), ∀ y ∈ ys, Simple H y := fun H y hy => by
      rw [hys] at hy
      obtain ⟨i, _, rfl⟩ := List.mem_map.mp hy
      exact .int _
    clear hys cL
    refine q_when (et_test (ev_op (ev_op (cell _ _ 5 rfl e1 (by decide) (by decide)) ev_c (rv_I (by decide))) ev_c (rv_eq rfl))) (fun _ H2 e2 => ?_) (fun _ H2 e2 => ?_)
    · have e12 := e1.trans e2
      have c5 : Ev (tOp (rI0 fun i j => .int (i + j)) (tOp (rI0 fun i j => .int (i + j)) (tVar 1) (tC (.int 1))) (tOp (rI (fun _ j => 0 < j) fun i j => .int (i % j)) (tOp (rI CDiv fun i j => .int (i / j)) (tCall (spLwCell K) [] E0 (tCons (tVar 0) (tCons (tC (.int 5)) tNil))) (tC (.int 35))) (tC (.int 1000)))) [some (V.ref a), some (V.int (m : Int)), some (V.ref p), none, none] H2 (.int ((m : Int) + 1 + lwCell ns 5 / 35 % 1000)) :=
        ev_op (ev_op (ev_var rfl) ev_c rv_I0) (ev_op (ev_op (cell _ _ 5 rfl e12 (by decide) (by decide)) ev_c (rv_I ⟨by decide, by decide⟩)) ev_c (rv_I (by decide))) rv_I0
      refine q_asgS (R := AllS H2 8) (es_v (ev_var rfl) (.int _) (es_v (ev_un ev_c ru_neg) (.int _) (es_v ev_c (.bl _) (es_v ev_c (.bl _) (es_v ev_c (.str _ (by decide +kernel)) (es_v ev_c .non (es_l (ns := [0]) (el_lst (ea_cons ev_c ea_nil) (by show 1 ≤ 100000; decide)) (es_v c5 (.int _) es0)))))))) (fun vs H1 r => by rw [r.1]; decide) fun pw vs H3 H4 npw e3 npw3 hr hH4 => ?_
      subst hH4
      have h3 := (e2.trans e3) _ _ h1
      have npp : p ≠ pw := fun z => by rw [z, npw3] at h3; cases h3
      have e13 : Ex H3 (upd H3 pw (.lst vs)) := Ex.new npw3
      obtain ⟨k, ck, dk⟩ := mod_nat (lwCell ns 5 / 5) (show 0 < 8 by decide)
      obtain ⟨i, ci, di⟩ := mod_nat (lwCell ns 6) (show 0 < ys.length + 1 by omega)
      rw [show ((ys.length + 1 : Nat) : Int) = (ys.length : Int) + 1 by omega] at ci
      have e14 := (e12.trans e3).trans e13
      refine s_insertR (D := { nx := _, rt := Q }) (R := fun v H' => Simple H' v ∧ v ≠ .ref p) (l := p) (xs := ys) (i := i) (by rw [upd_ne npp]; exact h3) (ev_var rfl) (ev_is (ev_op (cell _ _ 6 rfl e14 (by decide) (by decide)) (ev_op (ev_len (ev_var rfl) (sq_of (by rw [upd_ne npp]; exact h3))) ev_c rv_I0) (rv_I (show (0 : Int) < (ys.length : Int) + 1 by omega))) (congrArg V.int ci)) (fun H5 e5 Q' q' => ?_) (by omega) (by omega) fun v H5 e5 hv => ?_
      · refine ⟨.ref pw, rfl, (ev_is (ev_op (ev_op (cell _ _ 5 rfl (e14.trans e5) (by decide) (by decide)) ev_c (rv_I ⟨by decide, by decide⟩)) ev_c (rv_I (by decide))) (congrArg V.int ck) : Ev (tOp (rI (fun _ j => 0 < j) fun i j => .int (i % j)) (tOp (rI CDiv fun i j => .int (i / j)) (tCall (spLwCell K) [] E0 (tCons (tVar 0) (tCons (tC (.int 5)) tNil))) (tC (.int 5))) (tC (.int 8))) [some (V.ref a), some (V.int (m : Int)), some (V.ref p), some (V.ref pw), none] H5 (.int (k : Int))) H5 (Ex.refl _) _ fun H6 e6 => ?_⟩
        have gk : vs[k]? = some (vs[k]'(by rw [hr.1]; exact dk)) := List.getElem?_eq_getElem _
        obtain ⟨k1, k2⟩ := hr.2 _ (List.mem_of_getElem? gk)
        have e36 := e13.trans (e5.trans e6)
        refine ⟨pw, vs, (k : Int), _, rfl, rfl, sq_of ((e5.trans e6) _ _ upd_same), atI_nat gk, q' _ H6 e6 ⟨k1.mono e36, fun z => ?_⟩⟩
        have := k2 p z
        rw [e2 _ _ h1] at this
        cases this
      · have e15 := e14.trans e5
        refine s_ret (ev_var rfl) fun H6 e6 => ?_
        refine q p (ys.take i ++ [v] ++ ys.drop i) H6 np (fun b o hb => e6 b o ?_) (e6 _ _ upd_same) (fun y hy => ?_) (by rw [List.length_append, List.length_append, List.length_take, List.length_drop]; simp only [List.length_cons, List.length_nil]; omega)
        · rw [upd_ne fun z => by rw [z, np] at hb; cases hb]
          exact e15 b o hb
        · refine Simple.mono e6 ?_
          rcases List.mem_append.mp hy with hy | hy
          · rcases List.mem_append.mp hy with hy | hy
            · exact yS _ y (List.mem_of_mem_take hy)
            · rw [List.mem_singleton.mp hy]
              exact hv.1.upd hv.2
          · exact yS _ y (List.mem_of_mem_drop hy)
    · refine s_ret (ev_var rfl) fun H3 e3 => q p ys H3 np ((e1.trans e2).trans e3) ((e2.trans e3) _ _ h1) (yS _) (by omega)
end
end Sl
namespace Sl
open PySem PySem.Spec PyProof.Rows L2 Evl
section
variable {P : Program} {w : World} {K : PySem.W.Frag} {mg : Str → Option Value} {base : Heap} {t : Adr}
/-! _law_written -/
def spLawWritten (K : PySem.W.Frag) : Sp := fun vs H Q _ => ∃ (a b : Addr) (us : List (List Nat)) (ys : List V), vs = [.ref a, .ref b] ∧ SqL K H a (us.map vtx) ∧ SqL K H b ys ∧ GoodW us ∧ ys.length ≤ 1000 ∧ (∀ y ∈ ys, Thing H y) ∧
  (ys.all (within 0 ((us.length : Int) - 1)) = false → RetU [.str "refused", .str "NoSign"] H Q) ∧ ∀ ss : List Nat, ys = natsV ss → (∀ s ∈ ss, s < us.length) → RetU [.str "text", .str (tx (bitsOf us ss))] H Q
theorem ok_lw_written (T : Top K mg t) : FnOk P w K mg base CX0 2 t.f_lw_written t.d_lw_written ["_law_words_here", "_law_row_here"] (spLawWritten K) := by
  refine T.lw_written.F.ok sc_lw_written (fun vs H Q E h => ?_) (fun cdv A outer s H vs Q E hr h => ?_)
  · obtain ⟨a, b, us, ys, rfl, _⟩ := h
    rfl
  · obtain ⟨a, b, us, ys, rfl, hA, hB, hG, hy, hY, qn, qs⟩ := h
    refine ⟨_, (pss_cons (ps_for PassesOwn.never rfl (pi_list (pv 1)) (pg_name (i := 2) sc_lw_written.nd rfl (.inl rfl)) (pss_one (ps_if (PW.pt (pw_or (pt_not (pt_val (pe_call (ok_lw_whole T) (hr.mono (by decide)) (by rfl) T.lw_whole.g T.lw_whole.F.kp T.lw_whole.b .nil pass0 (pa_cons (pv 2) pa_nil)))) (pw_or (pt_cmpR op_lt (pv 2) pe_int (nomark _)) (pw_or1 (pt_cmpR op_ge (pv 2) (pe_callB (r := rLenS K) call_len_seq (by rfl) T.b.b_len (by decide +kernel) (pa_cons (pv 0) pa_nil)) (nomark _)))))) (pss_one (ps_ret (pe_tup (pa_cons pe_str (pa_cons pe_str pa_nil))))) pss_nil)))
      (pss_one (ps_ret (pe_tup (pa_cons pe_str (pa_cons (pe_bm PySem.F.plainAttrs_str PySem.F.slot_str_join PySem.F.type_str_join (mt_join : MtR _ _ (rJoinS K)) pe_str (pa_cons (pe_lc (own := [("_law_sign", 2)]) (g := gName 2) (tt := tYes) rfl sc_lw_written.nd (pi_list (pv 1)) (blkOk_by (own := [("_law_sign", 2)]) (N := N_lw_written) (sc := defScope s_lw_written) (by decide +kernel)) (fun _ _ _ _ _ => (pg_name (i := 2) sc_lw_written.nd rfl (.inl rfl))) (fun _ _ _ _ _ => pts_nil) (fun _ _ _ _ _ => (pe_ix (r := rIxL K) ix_list (pv 0) (pv 2) (fun _ _ => rfl)))) pa_nil)) pa_nil)))))), ?_⟩
    have l24 := hG.1
    refine q_forLn (xs := ys) (ev_var rfl) hB (fun i σ' H' => Ex H H' ∧ (∃ v2, σ' = [some (.ref a), some (.ref b), v2]) ∧ (ys.take i).all (within 0 ((us.length : Int) - 1)) = true) (fun H2 e2 => ⟨e2, ⟨_, rfl⟩, rfl⟩) (fun i σ' H' _ p => ex_l p.1 hB) (fun i x σ' H' hx p => ?_) (fun σ' H' p => ?_)
    · obtain ⟨e', ⟨v2, rfl⟩, pa⟩ := p
      have hm : x ∈ ys := List.mem_of_getElem? hx
      have et : ys.take (i + 1) = ys.take i ++ [x] := by rw [List.take_add_one, hx]; rfl
      have hw : Ev (tCall spWhole [] E0 (tCons (tVar 2) tNil)) [some (V.ref a), some (V.ref b), some x] H' (.bl (isInt x)) := ev_call (ea_cons (ev_var rfl) ea_nil) (sv_whole ((hY x hm).mono e'))
      have bad : within 0 ((us.length : Int) - 1) x = false → ∀ (D : Ends) (σ : L2.St) (H2 : Hp), D.rt = Q → Ex H' H2 → tRet (tTup (tCons (tC (.str "refused")) (tCons (tC (.str "NoSign")) tNil))) D σ H2 := fun hb D σ H2 hD e2 => by
        refine s_retU (eu_tup (ea_cons ev_c (ea_cons ev_c ea_nil)) (by show 2 ≤ 100000; decide)) fun p H3 hp e3 h3 => ?_
        rw [hD]
        refine qn ?_ p H3 (fresh_back (e'.trans e2) hp) ((e'.trans e2).trans e3) h3
        rw [Bool.eq_false_iff]
        intro h
        rw [List.all_eq_true.mp h x hm] at hb
        cases hb
      have good : within 0 ((us.length : Int) - 1) x = true → (ys.take (i + 1)).all (within 0 ((us.length : Int) - 1)) = true := fun hb => by
        rw [et, List.all_append, pa, List.all_cons, hb]
        rfl
      cases hx' : isInt x with
      | false =>
        rw [hx'] at hw
        refine s_when (b := true) (et_is (et_or (b := true) (et_not (et_B hw)) fun z => by cases z) rfl) (fun _ H2 e2 => bad ?_ _ _ H2 rfl e2) (fun z _ _ => by cases z)
        cases x <;> first | rfl | cases hx'
      | true =>
        rw [hx'] at hw
        obtain ⟨j, rfl⟩ : ∃ j, x = .int j := by
          cases x <;> first | exact ⟨_, rfl⟩ | cases hx'
        refine s_when (et_or (et_not (et_B hw)) fun _ => et_or (et_test (ev_op (ev_var rfl) ev_c rv_I0)) fun _ => et_test (ev_op (ev_var rfl) (ev_is (ev_len (ev_var rfl) (ex_l e' hA)) (by rw [List.length_map])) rv_I0)) (fun hb H2 e2 => bad ?_ _ _ H2 rfl e2) (fun hb H2 e2 => ⟨e'.trans e2, ⟨_, rfl⟩, good ?_⟩)
        · show (decide (0 ≤ j) && decide (j ≤ (us.length : Int) - 1)) = false
          have hb : (decide (j < 0) || decide (j ≥ (us.length : Int))) = true := hb
          rw [Bool.or_eq_true] at hb
          rw [Bool.and_eq_false_iff]
          rcases hb with hb | hb
          · exact .inl (decide_eq_false (by have := of_decide_eq_true hb; omega))
          · exact .inr (decide_eq_false (by have := of_decide_eq_true hb; omega))
        · show (decide (0 ≤ j) && decide (j ≤ (us.length : Int) - 1)) = true
          have hb : (decide (j < 0) || decide (j ≥ (us.length : Int))) = false := hb
          rw [Bool.or_eq_false_iff] at hb
          have h1 := of_decide_eq_false hb.1
          have h2 := of_decide_eq_false hb.2
          rw [decide_eq_true (show 0 ≤ j by omega), decide_eq_true (show j ≤ (us.length : Int) - 1 by omega)]
          rfl
    · obtain ⟨e', ⟨v2, rfl⟩, pa⟩ := p
      rw [List.take_length] at pa
      obtain ⟨ss, rfl, hss⟩ := row_of pa
      have cL := el_lcL (K := K) (σ := [some (V.ref a), some (V.ref b), v2]) (H := H') (a := b) (xs := natsV ss) (tl := tVar 1) (j := 2) (vs := [2]) (t := tYes) (te := tOp (rIxL K) (tVar 0) (tVar 2)) (fun _ => true) (fun i => vtx (us.getD (ss.getD i 0) [])) (ev_var rfl) (ex_l e' hB) (by omega) (fun x => rfl) (fun _ _ _ _ _ => et_yes)
        (fun i x H4 e4 hx _ => by
          unfold natsV at hx
          rw [List.getElem?_map] at hx
          obtain ⟨s, h1, rfl⟩ := Option.map_eq_some_iff.mp hx
          have hs := hss s (List.mem_of_getElem? h1)
          rw [List.getD_eq_getElem?_getD (l := ss), h1]
          refine ev_op (ev_var rfl) (ev_var rfl) (rv_ixL (ex_l (e'.trans e4) hA) (atI_nat ?_))
          rw [List.getElem?_map, List.getElem?_eq_getElem hs, List.getD_eq_getElem?_getD, Option.getD_some, List.getElem?_eq_getElem hs]
          rfl)
      rw [given_every, natsV_len] at cL
      have em : (List.range ss.length).map (fun i => vtx (us.getD (ss.getD i 0) [])) = (ss.map fun s => us.getD s []).map vtx := by
        rw [List.map_map]
        refine List.ext_getElem? fun i => ?_
        rw [List.getElem?_map, List.getElem?_map]
        by_cases hi : i < ss.length
        · rw [List.getElem?_range hi, List.getElem?_eq_getElem hi]
          show some (vtx (us.getD (ss.getD i 0) [])) = some (vtx (us.getD ss[i] []))
          rw [List.getD_eq_getElem?_getD (l := ss), List.getElem?_eq_getElem hi, Option.getD_some]
        · rw [List.getElem?_eq_none (by rw [List.length_range]; omega), List.getElem?_eq_none (by omega)]
          rfl
      rw [em] at cL
      rw [natsV_len] at hy
      have cJ := ev_join (K := K) cL (Nat.le_trans (bits_sum (fun u h => (hG.2.1 u h).2.1) ss) (by omega))
      rw [← List.flatMap_def] at cJ
      exact s_retU (eu_tup (ea_cons ev_c (ea_cons cJ ea_nil)) (by show 2 ≤ 100000; decide)) fun p H4 hp e4 h4 => qs ss rfl hss p H4 (fresh_back e' hp) (e'.trans e4) h4
end
end Sl
namespace Sl
open PySem PySem.Spec PyProof.Rows L2 Evl
section
variable {P : Program} {w : World} {K : PySem.W.Frag} {mg : Str → Option Value} {base : Heap} {t : Adr}
/-! law -/
def spLaw (K : PySem.W.Frag) (PL : Addr) : Sp := fun vs H Q _ => ∃ (a : Addr) (ns : List Int), vs = [.ref a] ∧ SqL K H a (ns.map V.int) ∧ ns.length ≤ 63 ∧ LamX.TabS H PL lamQ ∧ ∀ H', Q (.bl true) H'
section
variable {σ : L2.St} {H : Hp} {te ta tb : TE} {D : Ends} {tz : TS} {E : XK} {x y z : V} {r : R2}
theorem q_dropCall {sp : Sp} {dvs vs : List V} {tA : TA} (h : EvA tA σ H vs) (k : ∀ H1, Ex H H1 → sp (vs ++ dvs) H1 (fun _ H2 => tz D σ H2) E) : tSeq (tDrop (tCall sp dvs E tA)) tz D σ H := h H (Ex.refl H) _ k
theorem q_clear {l : Addr} {xs : List V} (hl : H l = some (.lst xs)) (ha : Ev te σ H (.ref l)) (k : ∀ H1, Ex H H1 → tz D σ (upd H1 l (.lst []))) : tSeq (tDrop (tBM0 K "list" rClear te)) tz D σ H := ha H (Ex.refl H) _ fun H1 e1 => ⟨Or.inl ⟨rfl, xs, sq_of (e1 l _ hl)⟩, l, xs, rfl, rfl, e1 _ _ hl, k H1 e1⟩
/-- [list(..), list(..)] -/
theorem q_asg2L {i : Nat} {xs ys : List V} (ha : EvL ta σ H xs) (hb : ∀ H1, Ex H H1 → EvL tb σ H1 ys) (k : ∀ p r l H1, H p = none → H r = none → H l = none → p ≠ r → l ≠ p → l ≠ r → Ex H H1 → H1 p = some (.lst xs) → H1 r = some (.lst ys) → H1 l = some (.lst [.ref p, .ref r]) → tz D (σ.set i (some (.ref l))) H1) :
    tSeq (tAsg (tLst (tCons ta (tCons tb tNil))) (gName i)) tz D σ H :=
  ha H (Ex.refl H) _ fun p H1 np e1 h1 => hb H1 e1 H1 (Ex.refl H1) _ fun r H2 nr e2 h2 => ⟨sz_of (by show 2 ≤ 100000; decide), fun l nl => by
    have h12 := e2 _ _ h1
    have npr : p ≠ r := fun z => by rw [← z, h1] at nr; cases nr
    have nlp : l ≠ p := fun z => by rw [z, h12] at nl; cases nl
    have nlr : l ≠ r := fun z => by rw [z, h2] at nl; cases nl
    have eN : Ex H2 (upd H2 l (.lst [.ref p, .ref r])) := Ex.new nl
    exact k p r l _ np (fresh_back e1 nr) (fresh_back (e1.trans e2) nl) npr nlp nlr ((e1.trans e2).trans eN) (eN _ _ h12) (eN _ _ h2) upd_same⟩
theorem eu_call {sp : Sp} {dvs vs xs : List V} {tA : TA} (h : EvA tA σ H vs) (hs : ∀ H1, Ex H H1 → ∀ Q : VK, (∀ p H2, H1 p = none → Ex H1 H2 → H2 p = some (.tup xs) → Q (.ref p) H2) → sp (vs ++ dvs) H1 Q E) : EvU (tCall sp dvs E tA) σ H xs := fun H1 e Q q =>
  h H1 e _ fun H2 e2 => hs H2 (e.trans e2) Q fun p H3 hp e3 h3 => q p H3 (fresh_back e2 hp) (e2.trans e3) h3
theorem el_callQ {sp : Sp} {dvs vs xs : List V} {tA : TA} (h : EvA tA σ H vs) (hs : ∀ H1, Ex H H1 → ∀ Q : VK, (∀ p H2, H1 p = none → Ex H1 H2 → H2 p = some (.lst xs) → Q (.ref p) H2) → sp (vs ++ dvs) H1 Q E) : EvL (tCall sp dvs E tA) σ H xs := fun H1 e Q q =>
  h H1 e _ fun H2 e2 => hs H2 (e.trans e2) Q fun p H3 hp e3 h3 => q p H3 (fresh_back e2 hp) (e2.trans e3) h3
theorem ev_opU1 {xs : List V} (ha : EvU ta σ H xs) (hb : ∀ H1, Ex H H1 → Ev tb σ H1 y) (hr : ∀ p H1, H1 p = some (.tup xs) → Ex H H1 → RV r (.ref p) y H1 z) : Ev (tOp r ta tb) σ H z := fun H1 e Q q =>
  ha H1 e _ fun p H2 _ e2 hp => hb H2 (e.trans e2) H2 (Ex.refl H2) _ fun H3 e3 => hr p H3 (e3 p _ hp) ((e.trans e2).trans e3) H3 (Ex.refl H3) Q fun H4 e4 => q H4 ((e2.trans e3).trans e4)
theorem dp_two {p : Addr} {u v : Str} (h : H p = some (.tup [.str u, .str v])) : Dp K H (.ref p) (.tuple [.str u, .str v]) := .tup (st_of h) (.cons (.str _) (.cons (.str _) .nil))
theorem rv_neTwo {p q : Addr} {u v : Str} (hp : H p = some (.tup [.str u, .str v])) (hq : H q = some (.tup [.str u, .str v])) (sh : SeqAt.shaped (.tuple [.str u, .str v]) = true) : RV (rNeD K) (.ref p) (.ref q) H (.bl false) := rv_val fun H1 e Q' q' => by
  refine ⟨_, _, dp_two (e _ _ hp), dp_two (e _ _ hq), sh, sh, ?_⟩
  rw [eqv_same sh]
  exact q'
theorem rv_eqTwo {p q : Addr} {u v : Str} (hp : H p = some (.tup [.str u, .str v])) (hq : H q = some (.tup [.str u, .str v])) (sh : SeqAt.shaped (.tuple [.str u, .str v]) = true) : RV (rEqD K) (.ref p) (.ref q) H (.bl true) := rv_val fun H1 e Q' q' => by
  refine ⟨_, _, dp_two (e _ _ hp), dp_two (e _ _ hq), sh, sh, ?_⟩
  rw [eqv_same sh]
  exact q'
end
theorem shaped_two {u v : Str} (h1 : PyData.canLay0 (.str u) = true) (h2 : PyData.canLay0 (.str v) = true) : SeqAt.shaped (.tuple [.str u, .str v]) = true := shaped_tuple fun d hd => by
  simp only [List.mem_cons, List.not_mem_nil, or_false] at hd
  rcases hd with rfl | rfl
  · exact ⟨h1, Nat.zero_le _⟩
  · exact ⟨h2, Nat.zero_le _⟩
theorem lay_list {xs : List PyData} (h : ∀ d ∈ xs, d.canLay0 = true ∧ d.depth ≤ 60) : (PyData.list xs).canLay0 = true ∧ (PyData.list xs).depth ≤ 61 := by
  have k := lay_all h
  refine ⟨?_, ?_⟩
  · unfold PyData.canLay0
    exact k.1
  · unfold PyData.depth
    have := k.2
    omega
theorem shaped_deep {xs : List PyData} (h : ∀ d ∈ xs, d.canLay0 = true ∧ d.depth ≤ 61) : SeqAt.shaped (.list xs) = true := by
  have k := lay_all h
  unfold SeqAt.shaped PyData.canLay0 PyData.depth
  rw [k.1, decide_eq_true (show PyData.depthAll xs + 1 ≤ 64 by have := k.2; omega)]
  rfl
theorem readX_go {us : List (List Nat)} (hG : GoodW us) (l : List Nat) : readX us (vtx l) = readGo us l [] [] := by
  unfold readX
  by_cases h : isBitsV (vtx l) = true
  · rw [if_pos h]
    rfl
  · rw [if_neg h]
    refine (readGo_bad (fun u hu => (hG.2.1 u hu).2.2) l [] [] ?_).symm
    by_cases k : ∃ c ∈ l, ¬ (c = 48 ∨ c = 49)
    · exact k
    · refine absurd (bits_vtx fun c hc => ?_) h
      by_cases z : c = 48 ∨ c = 49
      · exact z
      · exact absurd ⟨c, hc, z⟩ k
theorem ok_law (T : Top K mg t) (TB : LamX.TabB base mg t.cL t.PL) : FnOk P w K mg base CX0 19 t.f_law t.d_law ["_law_script"] (spLaw K t.PL) := by
  refine T.law.F.ok sc_law (fun vs H Q E h => ?_) (fun cdv A outer s H vs Q E hr h => ?_)
  · obtain ⟨a, ns, rfl, _⟩ := h
    rfl
  · obtain ⟨a, ns, rfl, hS, hlen, hTab, q⟩ := h
    refine ⟨_, (pss_cons (ps_set (i := 1) sc_law.nd rfl (.inl rfl) (pe_call (ok_lw_some T TB) (hr.mono (by decide)) (by rfl) T.lw_some.g T.lw_some.F.kp T.lw_some.b .nil pass0 (pa_cons (pv 0) pa_nil)))
      (pss_cons (ps_expr (pe_call (ok_lw_spoiled T) (hr.mono (by decide)) (by rfl) T.lw_spoiled.g T.lw_spoiled.F.kp T.lw_spoiled.b .nil pass0 (pa_cons (pv 1) (pa_cons (pe_callB (r := rMax2) (call_max2 rfl) (by rfl) T.b.b_max (by decide +kernel) (pa_cons pe_int (pa_cons (pe_op op_sub (pe_op op_mod (pe_call (ok_lw_cell T) (hr.mono (by decide)) (by rfl) T.lw_cell.g T.lw_cell.F.kp T.lw_cell.b .nil pass0 (pa_cons (pv 0) (pa_cons pe_int pa_nil))) pe_int) pe_int) pa_nil))) (pa_cons (pe_call (ok_lw_cell T) (hr.mono (by decide)) (by rfl) T.lw_cell.g T.lw_cell.F.kp T.lw_cell.b .nil pass0 (pa_cons (pv 0) (pa_cons pe_int pa_nil))) pa_nil)))))
      (pss_cons (ps_set (i := 2) sc_law.nd rfl (.inl rfl) (pe_call (ok_lw_row T) (hr.mono (by decide)) (by rfl) T.lw_row.g T.lw_row.F.kp T.lw_row.b .nil pass0 (pa_cons (pv 0) (pa_cons (pe_callB (r := rLenS K) call_len_seq (by rfl) T.b.b_len (by decide +kernel) (pa_cons (pv 1) pa_nil)) pa_nil))))
      (pss_cons (ps_set (i := 3) sc_law.nd rfl (.inl rfl) (pe_lst (pa_cons (pe_callTy (r := rListS K) call_list_of (by rfl) T.b.b_list (by decide +kernel) (pa_cons (pv 1) pa_nil)) (pa_cons (pe_callTy (r := rListS K) call_list_of (by rfl) T.b.b_list (by decide +kernel) (pa_cons (pv 2) pa_nil)) pa_nil))))
      (pss_cons (ps_set (i := 4) sc_law.nd rfl (.inl rfl) (pe_call (ok_lw_told T) (hr.mono (by decide)) (by rfl) T.lw_told.g T.lw_told.F.kp T.lw_told.b .nil pass0 (pa_cons pe_int (pa_cons (pe_ix (r := rIxL K) ix_list (pv 3) pe_int (fun _ _ => rfl)) (pa_cons (pe_ix (r := rIxL K) ix_list (pv 3) pe_int (fun _ _ => rfl)) pa_nil)))))
      (pss_cons (ps_if (pt_not (pt_val (pe_call (ok_lw_good T) (hr.mono (by decide)) (by rfl) T.lw_good.g T.lw_good.F.kp T.lw_good.b .nil pass0 (pa_cons (pv 1) pa_nil)))) (pss_cons (ps_set (i := 5) sc_law.nd rfl (.inl rfl) (pe_ix (r := rIxL K) ix_list (pe_lst (pa_cons pe_str (pa_cons pe_str (pa_cons pe_non (pa_cons pe_str pa_nil))))) (pe_op op_mod (pe_call (ok_lw_cell T) (hr.mono (by decide)) (by rfl) T.lw_cell.g T.lw_cell.F.kp T.lw_cell.b .nil pass0 (pa_cons (pv 0) (pa_cons pe_int pa_nil))) pe_int) (fun _ _ => rfl)))
      (pss_cons (ps_if (PW.pt (pw_or (pt_cmpR (r := rNeD K) (op_neD hr.units) (pv 4) (pe_tup (pa_cons pe_str (pa_cons pe_str pa_nil))) (nomark _)) (pw_or1 (pt_cmpR (r := rNeD K) (op_neD hr.units) (pe_call (ok_lw_told T) (hr.mono (by decide)) (by rfl) T.lw_told.g T.lw_told.F.kp T.lw_told.b .nil pass0 (pa_cons pe_int (pa_cons (pe_ix (r := rIxL K) ix_list (pv 3) pe_int (fun _ _ => rfl)) (pa_cons (pv 5) pa_nil)))) (pv 4) (nomark _))))) (pss_one (ps_ret pe_bl)) pss_nil)
      (pss_cons (ps_if (pt_cmpR (r := rNeD K) (op_neD hr.units) (pe_call (ok_lw_told T) (hr.mono (by decide)) (by rfl) T.lw_told.g T.lw_told.F.kp T.lw_told.b .nil pass0 (pa_cons pe_int (pa_cons (pe_ix (r := rIxL K) ix_list (pv 3) pe_int (fun _ _ => rfl)) (pa_cons pe_str pa_nil)))) (pv 4) (nomark _)) (pss_one (ps_ret pe_bl)) pss_nil)
      (pss_cons (ps_expr (pe_bm0 PySem.F.plainAttrs_list PySem.F.slot_list_clear PySem.F.type_list_clear mt_clear (pe_ix (r := rIxL K) ix_list (pv 3) pe_int (fun _ _ => rfl))))
      (pss_cons (ps_expr (pe_bm PySem.F.plainAttrs_list PySem.F.slot_list_append PySem.F.type_list_append mt_append (pe_ix (r := rIxL K) ix_list (pv 3) pe_int (fun _ _ => rfl)) (pa_cons pe_str pa_nil)))
      (pss_one (ps_ret (pe_cmpR (r := rEqD K) (op_eqD hr.units) (pe_call (ok_lw_told T) (hr.mono (by decide)) (by rfl) T.lw_told.g T.lw_told.F.kp T.lw_told.b .nil pass0 (pa_cons pe_int (pa_cons (pe_ix (r := rIxL K) ix_list (pv 3) pe_int (fun _ _ => rfl)) (pa_cons pe_str pa_nil)))) (pe_lst (pa_cons pe_int (pa_cons pe_int (pa_cons pe_int pa_nil)))) (nomark _))))))))) pss_nil)
      (pss_cons (ps_if (PW.pt (pw_or (pt_cmpR (r := rNeD K) (op_neD hr.units) (pv 4) (pe_call (ok_lw_written T) (hr.mono (by decide)) (by rfl) T.lw_written.g T.lw_written.F.kp T.lw_written.b .nil pass0 (pa_cons (pv 1) (pa_cons (pv 2) pa_nil))) (nomark _)) (pw_or1 (pt_cmpR (r := rNeD K) (op_neD hr.units) (pv 3) (pe_lst (pa_cons (pv 1) (pa_cons (pv 2) pa_nil))) (nomark _))))) (pss_one (ps_ret pe_bl)) pss_nil)
      (pss_cons (ps_if (pt_cmpR op_eq (pe_ix (r := rIxT K) ix_tup (pv 4) pe_int (fun _ _ => rfl)) pe_str (nomark _)) (pss_one (ps_ret (pe_cmpR (r := rEqD K) (op_eqD hr.units) (pe_call (ok_lw_told T) (hr.mono (by decide)) (by rfl) T.lw_told.g T.lw_told.F.kp T.lw_told.b .nil pass0 (pa_cons pe_int (pa_cons (pe_ix (r := rIxL K) ix_list (pv 3) pe_int (fun _ _ => rfl)) (pa_cons (pe_ix (r := rIxL K) ix_list (pe_lst (pa_cons pe_non (pa_cons pe_int (pa_cons (pe_lst (pa_cons pe_str pa_nil)) pa_nil)))) (pe_op op_mod (pe_call (ok_lw_cell T) (hr.mono (by decide)) (by rfl) T.lw_cell.g T.lw_cell.F.kp T.lw_cell.b .nil pass0 (pa_cons (pv 0) (pa_cons pe_int pa_nil))) pe_int) (fun _ _ => rfl)) pa_nil)))) (pe_tup (pa_cons pe_str (pa_cons pe_str pa_nil))) (nomark _)))) pss_nil)
      (pss_cons (ps_if (pt_cmpR (r := rNeD K) (op_neD hr.units) (pe_call (ok_lw_told T) (hr.mono (by decide)) (by rfl) T.lw_told.g T.lw_told.F.kp T.lw_told.b .nil pass0 (pa_cons pe_int (pa_cons (pe_ix (r := rIxL K) ix_list (pv 3) pe_int (fun _ _ => rfl)) (pa_cons (pe_ix (r := rIxT K) ix_tup (pv 4) pe_int (fun _ _ => rfl)) pa_nil)))) (pv 2) (nomark _)) (pss_one (ps_ret pe_bl)) pss_nil)
      (pss_cons (ps_set (i := 5) sc_law.nd rfl (.inl rfl) (pe_call (ok_lw_turned T) (hr.mono (by decide)) (by rfl) T.lw_turned.g T.lw_turned.F.kp T.lw_turned.b .nil pass0 (pa_cons (pe_ix (r := rIxT K) ix_tup (pv 4) pe_int (fun _ _ => rfl)) (pa_cons (pe_call (ok_lw_cell T) (hr.mono (by decide)) (by rfl) T.lw_cell.g T.lw_cell.F.kp T.lw_cell.b .nil pass0 (pa_cons (pv 0) (pa_cons pe_int pa_nil))) pa_nil))))
      (pss_one (ps_ret (pe_and (pe_cmpR (r := rEqD K) (op_eqD hr.units) (pe_call (ok_lw_told T) (hr.mono (by decide)) (by rfl) T.lw_told.g T.lw_told.F.kp T.lw_told.b .nil pass0 (pa_cons pe_int (pa_cons (pe_ix (r := rIxL K) ix_list (pv 3) pe_int (fun _ _ => rfl)) (pa_cons (pv 5) pa_nil)))) (pe_call (ok_lw_read T) (hr.mono (by decide)) (by rfl) T.lw_read.g T.lw_read.F.kp T.lw_read.b .nil pass0 (pa_cons (pv 1) (pa_cons (pv 5) pa_nil))) (nomark _)) (pe_one (pe_cmpR (r := rEqD K) (op_eqD hr.units) (pe_ix (r := rIxL K) ix_list (pv 3) pe_int (fun _ _ => rfl)) (pv 1) (nomark _)))))))))))))))), ?_⟩
    refine q_call (ea_cons (ev_var rfl) ea_nil) fun H1 e1 => ⟨a, ns, rfl, ex_l e1 hS, tab_ex hTab e1, fun us0 hG0 pw H2 npw x2 t2 h2 => ?_⟩
    have hS1 := ex_l e1 hS
    have hS2 := xL x2 hS1
    have cellG : ∀ {H0 : Hp}, SqL K H0 a (ns.map V.int) → ∀ (σ : L2.St) (H1 : Hp) (k : Int), σ[0]? = some (some (V.ref a)) → Ex H0 H1 → 0 ≤ k → k ≤ 1000 → Ev (tCall (spLwCell K) [] E0 (tCons (tVar 0) (tCons (tC (.int k)) tNil))) σ H1 (.int (lwCell ns k)) := fun h0 σ H1 k s0 e k0 k1 =>
      ev_call (ea_cons (ev_var s0) (ea_cons ev_c ea_nil)) (sv_cell (ex_l e h0) k0 (by omega))
    have w16 : 0 ≤ lwCell ns 7 % 16 ∧ lwCell ns 7 % 16 < 16 := by omega
    refine q_dropCall (ea_cons (ev_var rfl) (ea_cons (ev_max2 ev_c (ev_op (ev_op (cellG hS2 _ _ 7 rfl (Ex.refl _) (by decide) (by decide)) ev_c (rv_I (by decide))) ev_c rv_I0)) (ea_cons (cellG hS2 _ _ 8 rfl (Ex.refl _) (by decide) (by decide)) ea_nil))) fun H3 e3 =>
      ⟨pw, us0, _, lwCell ns 8, rfl, e3 _ _ h2, hG0.1, fun u h => ⟨(hG0.2.1 u h).2.1, fun c hc => by rcases (hG0.2.1 u h).2.2 c hc with e | e <;> omega⟩, by split <;> omega, by split <;> omega, fun xs H4 h4 hT4 hl4 ch => ?_⟩
    have x14 : LamX.ExtN H1 H4 := fun b o hb no => ch b o (e3 b o (x2 b o hb no)) (npw.ne hb no)
    have hS4 := xL x14 hS1
    clear hS hS2 x2 t2 hTab h2 e3 ch x14 hG0 e1 hS1
    refine q_call (ea_cons (ev_var rfl) (ea_cons (ev_len (ev_var rfl) (sq_of h4)) ea_nil)) fun H5 e5 => ⟨a, ns, xs.length, rfl, ex_l e5 hS4, by omega, fun pr ys H6 npr e6 h6 hYs hyl => ?_⟩
    have e46 := e5.trans e6
    have h6w := e46 _ _ h4
    have hT6 := hT4.mono e46
    have hS6 := ex_l e46 hS4
    refine q_asg2L (el_list (ev_var rfl) (sq_of h6w)) (fun H7 e7 => el_list (ev_var rfl) (sq_of (e7 _ _ h6))) fun pa pb ph H7 npa npb nph nab nha nhb e7 ha hb hh => ?_
    have h7w := e7 _ _ h6w
    have h7r := e7 _ _ h6
    have hT7 := hT6.mono e7
    have hS7 := ex_l e7 hS6
    have hY7 : ∀ y ∈ ys, Simple H7 y := fun y h => (hYs y h).mono e7
    have npwa : pw ≠ pa := fun z => by rw [z, npa] at h6w; cases h6w
    clear hS4 hS6 h4 h6 h6w hT4 hT6 hYs e46 e5 e6 e7
    have hY7t : ∀ {H' : Hp}, Ex H7 H' → ∀ y ∈ ys, Thing H' y := fun e y h => (hY7 y h).thing.mono e
    have h0 : ∀ {σ : L2.St} {H' : Hp}, σ[3]? = some (some (V.ref ph)) → Ex H7 H' → Ev (tOp (rIxL K) (tVar 3) (tC (.int 0))) σ H' (.ref pa) := fun s3 e => ev_op (ev_var s3) ev_c (rv_ixL (sq_of (e _ _ hh)) rfl)
    have h1 : ∀ {σ : L2.St} {H' : Hp}, σ[3]? = some (some (V.ref ph)) → Ex H7 H' → Ev (tOp (rIxL K) (tVar 3) (tC (.int 1))) σ H' (.ref pb) := fun s3 e => ev_op (ev_var s3) ev_c (rv_ixL (sq_of (e _ _ hh)) rfl)
    have c9 : ∀ (σ : L2.St) (H' : Hp) (m : Nat), 0 < m → σ[0]? = some (some (V.ref a)) → Ex H7 H' → ∃ j : Nat, j < m ∧ Ev (tOp (rI (fun _ j => 0 < j) fun i j => .int (i % j)) (tCall (spLwCell K) [] E0 (tCons (tVar 0) (tCons (tC (.int 9)) tNil))) (tC (.int (m : Int)))) σ H' (.int (j : Int)) := fun σ H' m hm s0 e => by
      obtain ⟨j, cj, dj⟩ := mod_nat (lwCell ns 9) hm
      exact ⟨j, dj, ev_is (ev_op (cellG hS7 _ _ 9 s0 e (by decide) (by decide)) ev_c (rv_I (by show (0 : Int) < (m : Int); omega))) (congrArg V.int cj)⟩
    have shW : SeqAt.shaped (.tuple [.str "refused", .str "BadWords"]) = true := by decide +kernel
    have shB : SeqAt.shaped (.tuple [.str "refused", .str "BadBits"]) = true := by decide +kernel
    have shN : SeqAt.shaped (.tuple [.str "refused", .str "NoSign"]) = true := by decide +kernel
    have hx1k : xs.length ≤ 1000 := by omega
    have hy1k : ys.length ≤ 1000 := by omega
    by_cases hg : GoodX xs
    · obtain ⟨us, rfl, hG⟩ := hg
      have l24 := hG.1
      have hsm : ∀ u ∈ us, ∀ c ∈ u, c < 0x110000 := fun u h c hc => by rcases (hG.2.1 u h).2.2 c hc with e | e <;> omega
      have u12 : ∀ u ∈ us, u.length ≤ 12 := fun u h => (hG.2.1 u h).2.1
      have hgx : GoodX (us.map vtx) := ⟨us, rfl, hG⟩
      have same : ∀ {vs : List (List Nat)}, us.map vtx = vs.map vtx → us = vs := vtx_map_inj
      -- reading told of the bits handed in
      have rdU : ∀ {H' : Hp} {x : V}, Ex H7 H' → Thing H' x → (∀ s, x = .str s → s.cps.size ≤ 800) → readX us x = none → ∀ H1, Ex H' H1 → ∀ Q : VK, (∀ p H2, H1 p = none → Ex H1 H2 → H2 p = some (.tup [.str "refused", .str "BadBits"]) → Q (.ref p) H2) → spTold K ([.int 1, .ref pa, x] ++ []) H1 Q E0 := fun e hx hxl hn H1 e1 Q q' =>
        ⟨1, pa, us.map vtx, _, rfl, sq_of ((e.trans e1) _ _ ha), hx1k, hT7.mono (e.trans e1), fun z => absurd hgx z, .inr (.inr ⟨rfl, hx.mono e1, hxl, fun vs hv _ => by
          have hv := same hv
          subst hv
          exact ⟨fun _ => q', fun ss z => (by rw [hn] at z; cases z)⟩⟩)⟩
      have rdL : ∀ {H' : Hp} {x : V} {ss : List Nat}, Ex H7 H' → Thing H' x → (∀ s, x = .str s → s.cps.size ≤ 800) → readX us x = some ss → ∀ H1, Ex H' H1 → ∀ Q : VK, (∀ p H2, H1 p = none → Ex H1 H2 → H2 p = some (.lst (natsV ss)) → Q (.ref p) H2) → spTold K ([.int 1, .ref pa, x] ++ []) H1 Q E0 := fun e hx hxl hn H1 e1 Q q' =>
        ⟨1, pa, us.map vtx, _, rfl, sq_of ((e.trans e1) _ _ ha), hx1k, hT7.mono (e.trans e1), fun z => absurd hgx z, .inr (.inr ⟨rfl, hx.mono e1, hxl, fun vs hv _ => by
          have hv := same hv
          subst hv
          exact ⟨fun z => (by rw [hn] at z; cases z), fun ss z => (by rw [hn] at z; cases z; exact q')⟩⟩)⟩
      -- what stands behind the call of told
      have cmp : ∀ {σ : L2.St} {H' : Hp}, σ[1]? = some (some (V.ref pw)) → σ[2]? = some (some (V.ref pr)) → σ[3]? = some (some (V.ref ph)) → Ex H7 H' → EvT (tTest (tOp (rNeD K) (tVar 3) (tLst (tCons (tVar 1) (tCons (tVar 2) tNil))))) σ H' false := fun s1 s2 s3 e => et_test (ev_is (ev_opL (ev_var s3) (el_lst (ea_cons (ev_var s1) (ea_cons (ev_var s2) ea_nil)) (by show 2 ≤ 100000; decide)) fun p H1 hp e1 => rv_val fun H2 e2 Q' q' => by
        have e7 := (e.trans e1).trans e2
        obtain ⟨ds, k1, _, k3⟩ := simple_list (K := K) (a := pb) fun y h => (hY7 y h).mono e7
        have lw := lay_list (xs := us.map dtx) fun d hd => by
          obtain ⟨u, hu, rfl⟩ := List.mem_map.mp hd
          exact ⟨canLay_tx (hsm u hu), Nat.zero_le _⟩
        have sh : SeqAt.shaped (.list [.list (us.map dtx), .list ds]) = true := shaped_deep fun d hd => by
          simp only [List.mem_cons, List.not_mem_nil, or_false] at hd
          rcases hd with rfl | rfl
          · exact lw
          · exact lay_list k3
        refine ⟨_, _, .lst (sq_of (e7 _ _ hh)) (.cons (dp_txs (sq_of (e7 _ _ ha))) (.cons (.lst (sq_of (e7 _ _ hb)) k1) .nil)), .lst (sq_of (e2 _ _ hp)) (.cons (dp_txs (sq_of (e7 _ _ h7w))) (.cons (.lst (sq_of (e7 _ _ h7r)) k1) .nil)), sh, sh, ?_⟩
        rw [eqv_same sh]
        exact q') rfl)
      have goodT : ∀ {σ : L2.St} {H' : Hp}, σ[1]? = some (some (V.ref pw)) → Ex H7 H' → Ev (tCall (spGood K) [] E0 (tCons (tVar 1) tNil)) σ H' (.bl true) := fun s1 e => ev_call (ea_cons (ev_var s1) ea_nil) fun H1 e1 Q' q' E' => ⟨pw, us.map vtx, rfl, sq_of ((e.trans e1) _ _ h7w), hx1k, hT7.mono (e.trans e1), fun _ => q', fun z => absurd hgx z⟩
      by_cases hrow : ys.all (within 0 ((us.length : Int) - 1)) = true
      · obtain ⟨ss, rfl, hss⟩ := row_of hrow
        rw [natsV_len] at hyl hy1k
        obtain ⟨l, hl⟩ : ∃ l, l = bitsOf us ss := ⟨_, rfl⟩
        have ll : l.length ≤ 500 := by
          rw [hl]
          have := bitsOf_len u12 ss
          omega
        have lb : ∀ c ∈ l, c = 48 ∨ c = 49 := by
          rw [hl]
          exact bitsOf_bits (fun u h => (hG.2.1 u h).2.2) ss
        have lc : ∀ c ∈ l, c < 0x110000 := fun c h => by rcases lb c h with e | e <;> omega
        have shT : SeqAt.shaped (.tuple [.str "text", .str (tx l)]) = true := shaped_two (by decide +kernel) (canLay_tx lc)
        have rr : readX us (vtx l) = some ss := by
          rw [readX_go hG, hl, readGo_row hG ss [] hss]
          rfl
        refine q_call (ea_cons ev_c (ea_cons (h0 rfl (Ex.refl _)) (ea_cons (h1 rfl (Ex.refl _)) ea_nil))) fun H8 e8 => ⟨0, pa, us.map vtx, .ref pb, rfl, sq_of (e8 _ _ ha), hx1k, hT7.mono e8, fun z => absurd hgx z, .inl ⟨rfl, pb, natsV ss, rfl, sq_of (e8 _ _ hb), by rw [natsV_len]; exact hy1k, hY7t e8, fun vs hv _ => ?_⟩⟩
        have hv := same hv
        subst hv
        refine ⟨fun z => (by rw [hrow] at z; cases z), fun s2 hs2 _ pf H9 npf e9 h9 => ?_⟩
        have hs2 := natsV_inj hs2
        subst hs2
        rw [← hl] at h9
        have e79 := e8.trans e9
        refine q_when (et_not (et_B (goodT rfl e79))) (fun z _ _ => by cases z) fun _ H10 e10 => ?_
        have e710 := e79.trans e10
        have h10 := e10 _ _ h9
        have wr : EvU (tCall (spLawWritten K) [] E0 (tCons (tVar 1) (tCons (tVar 2) tNil))) [some (V.ref a), some (V.ref pw), some (V.ref pr), some (V.ref ph), some (V.ref pf), none] H10 [.str "text", .str (tx l)] := eu_call (ea_cons (ev_var rfl) (ea_cons (ev_var rfl) ea_nil)) fun H1 e1 Q' q' => ⟨pw, pr, us, natsV s2, rfl, sq_of ((e710.trans e1) _ _ h7w), sq_of ((e710.trans e1) _ _ h7r), hG, by rw [natsV_len]; exact hy1k, hY7t (e710.trans e1), fun z => (by rw [hrow] at z; cases z), fun s3 hs3 _ => by
          have hs3 := natsV_inj hs3
          subst hs3
          rw [← hl]
          exact q'⟩
        refine q_when (et_or (et_test (ev_opU (ev_var rfl) wr fun p H1 hp e1 => rv_neTwo (e1 _ _ h10) hp shT)) fun _ => cmp rfl rfl rfl e710) (fun z _ _ => by cases z) fun _ H11 e11 => ?_
        have e711 := e710.trans e11
        have h11 := e11 _ _ h10
        refine q_when (et_test (ev_op (ev_op (ev_var rfl) ev_c (rv_ixT (st_of h11) rfl)) ev_c (rv_eq rfl))) (fun z _ _ => absurd z (by decide)) fun _ H12 e12 => ?_
        have e712 := e711.trans e12
        have h12 := e12 _ _ h11
        have sl : ∀ s, vtx l = .str s → s.cps.size ≤ 800 := fun s hs => by
          cases hs
          show l.toArray.size ≤ 800
          simp
          omega
        have rd : EvL (tCall (spTold K) [] E0 (tCons (tC (.int 1)) (tCons (tOp (rIxL K) (tVar 3) (tC (.int 0))) (tCons (tOp (rIxT K) (tVar 4) (tC (.int 1))) tNil)))) [some (V.ref a), some (V.ref pw), some (V.ref pr), some (V.ref ph), some (V.ref pf), none] H12 (natsV s2) := el_callQ (ea_cons ev_c (ea_cons (h0 rfl e712) (ea_cons (ev_op (ev_var rfl) ev_c (rv_ixT (st_of h12) rfl)) ea_nil))) (rdL e712 (.inr (.inr (.inr (.inl ⟨_, rfl⟩)))) sl rr)
        have r12 := e712 _ _ h7r
        rw [natsV_ints] at r12
        refine q_when (et_test (ev_is (ev_opL1 (z := .bl false) rd (fun H1 _ => ev_var rfl) fun p H1 hp e1 => rv_val fun H2 e2 Q' q' => ?_) rfl)) (fun z _ _ => by cases z) fun _ H13 e13 => ?_
        · have g := e2 _ _ hp
          rw [natsV_ints] at g
          refine ⟨_, _, dp_ints (sq_of g), dp_ints (sq_of ((e1.trans e2) _ _ r12)), shaped_ints _, shaped_ints _, ?_⟩
          rw [eqv_same (shaped_ints _)]
          exact q'
        have e713 := e712.trans e13
        have h13 := e13 _ _ h12
        refine q_call (ea_cons (ev_op (ev_var rfl) ev_c (rv_ixT (st_of h13) rfl)) (ea_cons (cellG hS7 _ _ 9 rfl e713 (by decide) (by decide)) ea_nil)) fun H14 e14 => ⟨l, lwCell ns 9, rfl, ll, lc, fun l' ll' lc' H15 e15 => ?_⟩
        have e715 := (e713.trans e14).trans e15
        have sl' : ∀ s, vtx l' = .str s → s.cps.size ≤ 800 := fun s hs => by
          cases hs
          show l'.toArray.size ≤ 800
          simp
          omega
        have last : ∀ (σ : L2.St) (H16 : Hp), Ex H7 H16 → σ[1]? = some (some (V.ref pw)) → σ[3]? = some (some (V.ref ph)) → Ev (tOp (rEqD K) (tOp (rIxL K) (tVar 3) (tC (.int 0))) (tVar 1)) σ H16 (.bl true) := fun σ H16 e s1 s3 => ev_is (ev_eqD (h0 s3 e) (ev_var s1) (dp_txs (sq_of (e _ _ ha))) (dp_txs (sq_of (e _ _ h7w))) (shaped_txs hsm) (shaped_txs hsm)) (by rw [eqv_same (shaped_txs hsm)])
        have aA : EvA (tCons (tC (.int 1)) (tCons (tOp (rIxL K) (tVar 3) (tC (.int 0))) (tCons (tVar 5) tNil))) [some (V.ref a), some (V.ref pw), some (V.ref pr), some (V.ref ph), some (V.ref pf), some (V.str (tx l'))] H15 [.int 1, .ref pa, vtx l'] := ea_cons ev_c (ea_cons (h0 rfl e715) (ea_cons (ev_var rfl) ea_nil))
        have aB : EvA (tCons (tVar 1) (tCons (tVar 5) tNil)) [some (V.ref a), some (V.ref pw), some (V.ref pr), some (V.ref ph), some (V.ref pf), some (V.str (tx l'))] H15 [.ref pw, vtx l'] := ea_cons (ev_var rfl) (ea_cons (ev_var rfl) ea_nil)
        have hgo := readX_go hG l'
        refine s_ret (v := .bl true) (ev_is (ev_andV (a := true) (b := true) ?_ fun _ => last _ H15 e715 rfl rfl) rfl) fun H16 _ => q H16
        cases hc : readGo us l' [] [] with
        | none =>
          rw [hc] at hgo
          exact ev_opUU (eu_call aA (rdU e715 (.inr (.inr (.inr (.inl ⟨_, rfl⟩)))) sl' hgo)) (eu_call aB fun H1 e1 Q' q' => ⟨pw, us, l', rfl, sq_of ((e715.trans e1) _ _ h7w), hG, by omega, fun _ => q', fun s3 z => (by rw [hc] at z; cases z)⟩) fun p r H1 hp hr' _ => rv_eqTwo hp hr' shB
        | some s3 =>
          rw [hc] at hgo
          refine ev_is (ev_eqLL (d := .list ((s3.map fun (n : Nat) => (n : Int)).map PyData.int)) (e := .list ((s3.map fun (n : Nat) => (n : Int)).map PyData.int)) (el_callQ aA (rdL e715 (.inr (.inr (.inr (.inl ⟨_, rfl⟩)))) sl' hgo)) (el_callQ aB fun H1 e1 Q' q' => ⟨pw, us, l', rfl, sq_of ((e715.trans e1) _ _ h7w), hG, by omega, fun z => (by rw [hc] at z; cases z), fun s4 z => (by rw [hc] at z; cases z; exact q')⟩) (fun p H1 h => ?_) (fun p H1 h => ?_) (shaped_ints _) (shaped_ints _)) ?_
          · rw [natsV_ints] at h
            exact dp_ints (sq_of h)
          · rw [natsV_ints] at h
            exact dp_ints (sq_of h)
          · rw [eqv_same (shaped_ints _)]
      · have hrow : ys.all (within 0 ((us.length : Int) - 1)) = false := by simpa using hrow
        refine q_call (ea_cons ev_c (ea_cons (h0 rfl (Ex.refl _)) (ea_cons (h1 rfl (Ex.refl _)) ea_nil))) fun H8 e8 => ⟨0, pa, us.map vtx, .ref pb, rfl, sq_of (e8 _ _ ha), hx1k, hT7.mono e8, fun z => absurd hgx z, .inl ⟨rfl, pb, ys, rfl, sq_of (e8 _ _ hb), hy1k, hY7t e8, fun vs hv _ => ?_⟩⟩
        have hv := same hv
        subst hv
        refine ⟨fun _ pf H9 npf e9 h9 => ?_, fun s2 hs2 hlt => ?_⟩
        rotate_left
        · subst hs2
          have : (natsV s2).all (within 0 ((us.length : Int) - 1)) = true := List.all_eq_true.mpr fun x hx => by
            obtain ⟨n, hn, rfl⟩ := List.mem_map.mp hx
            have := hlt n hn
            exact within_yes (by omega) (by omega)
          rw [this] at hrow
          cases hrow
        have e79 := e8.trans e9
        refine q_when (et_not (et_B (goodT rfl e79))) (fun z _ _ => by cases z) fun _ H10 e10 => ?_
        have e710 := e79.trans e10
        have h10 := e10 _ _ h9
        have wr : EvU (tCall (spLawWritten K) [] E0 (tCons (tVar 1) (tCons (tVar 2) tNil))) [some (V.ref a), some (V.ref pw), some (V.ref pr), some (V.ref ph), some (V.ref pf), none] H10 [.str "refused", .str "NoSign"] := eu_call (ea_cons (ev_var rfl) (ea_cons (ev_var rfl) ea_nil)) fun H1 e1 Q' q' => ⟨pw, pr, us, ys, rfl, sq_of ((e710.trans e1) _ _ h7w), sq_of ((e710.trans e1) _ _ h7r), hG, hy1k, hY7t (e710.trans e1), fun _ => q', fun s3 hs3 hlt => by
          subst hs3
          have : (natsV s3).all (within 0 ((us.length : Int) - 1)) = true := List.all_eq_true.mpr fun x hx => by
            obtain ⟨n, hn, rfl⟩ := List.mem_map.mp hx
            have := hlt n hn
            exact within_yes (by omega) (by omega)
          rw [this] at hrow
          cases hrow⟩
        refine q_when (et_or (et_test (ev_opU (ev_var rfl) wr fun p H1 hp e1 => rv_neTwo (e1 _ _ h10) hp shN)) fun _ => cmp rfl rfl rfl e710) (fun z _ _ => by cases z) fun _ H11 e11 => ?_
        have e711 := e710.trans e11
        have h11 := e11 _ _ h10
        refine q_when (et_test (ev_op (ev_op (ev_var rfl) ev_c (rv_ixT (st_of h11) rfl)) ev_c (rv_eq rfl))) (fun _ H12 e12 => ?_) fun z _ _ => absurd z (by decide)
        have e712 := e711.trans e12
        have tl : EvU (tCall (spTold K) [] E0 (tCons (tC (.int 1)) (tCons (tOp (rIxL K) (tVar 3) (tC (.int 0))) (tCons (tOp (rIxL K) (tLst (tCons (tC .non) (tCons (tC (.int 0)) (tCons (tLst (tCons (tC (.str "1")) tNil)) tNil)))) (tOp (rI (fun _ j => 0 < j) fun i j => .int (i % j)) (tCall (spLwCell K) [] E0 (tCons (tVar 0) (tCons (tC (.int 9)) tNil))) (tC (.int 3)))) tNil)))) [some (V.ref a), some (V.ref pw), some (V.ref pr), some (V.ref ph), some (V.ref pf), none] H12 [.str "refused", .str "BadBits"] := fun H13 e13 Q' q' => by
          refine h0 rfl e712 H13 e13 _ fun H14 e14 => ?_
          refine ⟨sz_of (by show 1 ≤ 100000; decide), fun q0 hq => ⟨sz_of (by show 3 ≤ 100000; decide), fun p hp => ?_⟩⟩
          have eq0 : Ex H14 (upd H14 q0 (.lst [.str "1"])) := Ex.new hq
          have ep := eq0.trans (Ex.new (o := .lst [.non, .int 0, .ref q0]) hp)
          have ne : q0 ≠ p := fun z => by rw [z, upd_same] at hp; cases hp
          have e714 := e712.trans (e13.trans e14)
          obtain ⟨j, dj, cj⟩ := c9 [some (V.ref a), some (V.ref pw), some (V.ref pr), some (V.ref ph), some (V.ref pf), none] (upd (upd H14 q0 (.lst [.str "1"])) p (.lst [.non, .int 0, .ref q0])) 3 (by decide) rfl (e714.trans ep)
          refine cj _ (Ex.refl _) _ fun H15 e15 => ?_
          have hp15 : H15 p = some (.lst [.non, .int 0, .ref q0]) := e15 _ _ upd_same
          have hq15 : H15 q0 = some (.lst [.str "1"]) := e15 _ _ (by rw [upd_ne ne]; exact upd_same)
          have e715 := (e714.trans ep).trans e15
          have fin : ∀ v : V, ([.non, .int 0, .ref q0] : List V)[j]? = some v → Thing H15 v → isBitsV v = false → (∀ s, v ≠ .str s) → ∀ G : VK, (∀ p H2, H15 p = none → Ex H15 H2 → H2 p = some (.tup [.str "refused", .str "BadBits"]) → G (.ref p) H2) → rIxL K (.ref p) (.int (j : Int)) H15 fun x H1 => spTold K ([.int 1, .ref pa, x] ++ []) H1 G E0 := fun v hv hvT hvb hvs G g =>
            ⟨p, _, (j : Int), v, rfl, rfl, sq_of hp15, atI_nat hv, rdU e715 hvT (fun s z => absurd z (hvs s)) (by unfold readX; rw [hvb]; rfl) H15 (Ex.refl _) G g⟩
          have back : ∀ p H2, H15 p = none → Ex H15 H2 → H2 p = some (.tup [.str "refused", .str "BadBits"]) → Q' (.ref p) H2 := fun p' H2 np2 e2 hh2 => q' p' H2 (fresh_back (e14.trans (ep.trans e15)) np2) ((e14.trans (ep.trans e15)).trans e2) hh2
          have c3 : j = 0 ∨ j = 1 ∨ j = 2 := by omega
          rcases c3 with rfl | rfl | rfl
          · exact fin _ rfl (.inl rfl) rfl (fun s z => by cases z) Q' back
          · exact fin _ rfl (.int _) rfl (fun s z => by cases z) Q' back
          · exact fin _ rfl (.inr (.inr (.inr (.inr ⟨q0, _, rfl, .inl hq15⟩)))) rfl (fun s z => by cases z) Q' back
        exact s_ret (v := .bl true) (ev_opUU tl (eu_tup (ea_cons ev_c (ea_cons ev_c ea_nil)) (by show 2 ≤ 100000; decide)) fun p r H1 hp hr' _ => rv_eqTwo hp hr' shB) fun H13 _ => q H13
    · -- words that are none
      have toldB : ∀ {H' : Hp} (wh : Int) (x : V), Ex H7 H' → (wh = 2 ∨ (wh = 1 ∧ Thing H' x ∧ ∀ s, x = .str s → s.cps.size ≤ 800)) → ∀ H1, Ex H' H1 → ∀ Q : VK, (∀ p H2, H1 p = none → Ex H1 H2 → H2 p = some (.tup [.str "refused", .str "BadWords"]) → Q (.ref p) H2) → spTold K ([.int wh, .ref pa, x] ++ []) H1 Q E0 := fun wh x e hw H1 e1 Q q' =>
        ⟨wh, pa, xs, x, rfl, sq_of ((e.trans e1) _ _ ha), hx1k, hT7.mono (e.trans e1), fun _ => q', .inr (hw.elim (fun h => .inl ⟨h, hg⟩) fun h => .inr ⟨h.1, h.2.1.mono e1, h.2.2, fun us hus hG => absurd ⟨us, hus, hG⟩ hg⟩)⟩
      refine q_call (ea_cons ev_c (ea_cons (h0 rfl (Ex.refl _)) (ea_cons (h1 rfl (Ex.refl _)) ea_nil))) fun H8 e8 => ⟨0, pa, xs, .ref pb, rfl, sq_of (e8 _ _ ha), hx1k, hT7.mono e8, fun _ pf H9 npf e9 h9 => ?_, .inl ⟨rfl, pb, ys, rfl, sq_of (e8 _ _ hb), hy1k, hY7t e8, fun us hus hG => absurd ⟨us, hus, hG⟩ hg⟩⟩
      have e79 := e8.trans e9
      refine q_when (et_not (et_B (ev_call (ea_cons (ev_var rfl) ea_nil) (z := .bl false) fun H1 e1 Q' q' E' => ⟨pw, xs, rfl, sq_of ((e79.trans e1) _ _ h7w), hx1k, hT7.mono (e79.trans e1), fun z => absurd z hg, fun _ => q'⟩))) (fun _ H10 e10 => ?_) (fun z _ _ => by cases z)
      have e710 := e79.trans e10
      obtain ⟨j, dj, cj⟩ := c9 [some (V.ref a), some (V.ref pw), some (V.ref pr), some (V.ref ph), some (V.ref pf), none] H10 4 (by decide) rfl e710
      obtain ⟨v, hv, hvT, hvl⟩ : ∃ v : V, ([.str "01", .str "", .non, .str "x"] : List V)[j]? = some v ∧ (∀ H, Thing H v) ∧ ∀ s, v = .str s → s.cps.size ≤ 800 := by
        have c4 : j = 0 ∨ j = 1 ∨ j = 2 ∨ j = 3 := by omega
        rcases c4 with rfl | rfl | rfl | rfl
        · exact ⟨_, rfl, fun _ => .inr (.inr (.inr (.inl ⟨_, rfl⟩))), fun s hs => by cases hs; decide +kernel⟩
        · exact ⟨_, rfl, fun _ => .inr (.inr (.inr (.inl ⟨_, rfl⟩))), fun s hs => by cases hs; decide +kernel⟩
        · exact ⟨_, rfl, fun _ => .inl rfl, fun s hs => by cases hs⟩
        · exact ⟨_, rfl, fun _ => .inr (.inr (.inr (.inl ⟨_, rfl⟩))), fun s hs => by cases hs; decide +kernel⟩
      refine q_asg (v := v) (ev_pick (el_lst (ea_cons ev_c (ea_cons ev_c (ea_cons ev_c (ea_cons ev_c ea_nil)))) (by show 4 ≤ 100000; decide)) cj hv) fun H11 e11 => ?_
      have e711 := e710.trans e11
      have h11 := (e10.trans e11) _ _ h9
      have t1 : EvU (tCall (spTold K) [] E0 (tCons (tC (.int 1)) (tCons (tOp (rIxL K) (tVar 3) (tC (.int 0))) (tCons (tVar 5) tNil)))) [some (V.ref a), some (V.ref pw), some (V.ref pr), some (V.ref ph), some (V.ref pf), some v] H11 [.str "refused", .str "BadWords"] := eu_call (ea_cons ev_c (ea_cons (h0 rfl e711) (ea_cons (ev_var rfl) ea_nil))) (toldB 1 v e711 (.inr ⟨rfl, hvT _, hvl⟩))
      refine q_when (et_or (et_test (ev_opU (ev_var rfl) (eu_tup (ea_cons ev_c (ea_cons ev_c ea_nil)) (by show 2 ≤ 100000; decide)) fun p H1 hp e1 => rv_neTwo (e1 _ _ h11) hp shW)) fun _ => et_test (ev_opU1 t1 (fun H1 _ => ev_var rfl) fun p H1 hp e1 => rv_neTwo hp (e1 _ _ h11) shW)) (fun z _ _ => by cases z) fun _ H12 e12 => ?_
      have e712 := e711.trans e12
      have h12 := e12 _ _ h11
      have t2 : EvU (tCall (spTold K) [] E0 (tCons (tC (.int 2)) (tCons (tOp (rIxL K) (tVar 3) (tC (.int 0))) (tCons (tC (.str "")) tNil)))) [some (V.ref a), some (V.ref pw), some (V.ref pr), some (V.ref ph), some (V.ref pf), some v] H12 [.str "refused", .str "BadWords"] := eu_call (ea_cons ev_c (ea_cons (h0 rfl e712) (ea_cons ev_c ea_nil))) (toldB 2 (.str "") e712 (.inl rfl))
      refine q_when (et_test (ev_opU1 t2 (fun H1 _ => ev_var rfl) fun p H1 hp e1 => rv_neTwo hp (e1 _ _ h12) shW)) (fun z _ _ => by cases z) fun _ H13 e13 => ?_
      have e713 := e712.trans e13
      refine q_clear (l := pa) (e713 _ _ ha) (h0 rfl e713) fun H14 e14 => ?_
      have hh14 : (upd H14 pa (.lst [])) ph = some (.lst [.ref pa, .ref pb]) := by
        rw [upd_ne nha]
        exact (e713.trans e14) _ _ hh
      refine q_app (l := pa) (xs := []) upd_same (ev_op (ev_var rfl) ev_c (rv_ixL (sq_of hh14) rfl)) ev_c (by decide) fun H15 e15 => ?_
      have hh15 : (upd H15 pa (.lst ([] ++ [.str "1"]))) ph = some (.lst [.ref pa, .ref pb]) := by
        rw [upd_ne nha]
        exact e15 _ _ hh14
      have hp15 : (upd H15 pa (.lst ([] ++ [.str "1"]))) pa = some (.lst ([[49]].map vtx)) := upd_same
      have g1 : GoodW [[49]] := ⟨by decide, by decide, List.pairwise_singleton _ _⟩
      have rr : readX [[49]] (.str "111") = some [0, 0, 0] := by decide +kernel
      have tl : EvL (tCall (spTold K) [] E0 (tCons (tC (.int 1)) (tCons (tOp (rIxL K) (tVar 3) (tC (.int 0))) (tCons (tC (.str "111")) tNil)))) [some (V.ref a), some (V.ref pw), some (V.ref pr), some (V.ref ph), some (V.ref pf), some v] (upd H15 pa (.lst ([] ++ [.str "1"]))) (natsV [0, 0, 0]) := el_callQ (ea_cons ev_c (ea_cons (ev_op (ev_var rfl) ev_c (rv_ixL (sq_of hh15) rfl)) (ea_cons ev_c ea_nil))) fun H1 e1 Q' q' =>
        ⟨1, pa, [[49]].map vtx, .str "111", rfl, sq_of (e1 _ _ hp15), by decide, thw_words (fun u hu => by rw [List.mem_singleton.mp hu]; decide), fun z => absurd ⟨[[49]], rfl, g1⟩ z, .inr (.inr ⟨rfl, .inr (.inr (.inr (.inl ⟨_, rfl⟩))), (fun s hs => by cases hs; decide +kernel), fun vs hvs _ => by
          have hvs := vtx_map_inj hvs
          subst hvs
          exact ⟨fun z => (by rw [rr] at z; cases z), fun ss z => (by rw [rr] at z; cases z; exact q')⟩⟩)⟩
      refine s_ret (v := .bl true) (ev_is (ev_eqLL (d := .list ([0, 0, 0].map PyData.int)) (e := .list ([0, 0, 0].map PyData.int)) tl (ys := [V.int 0, V.int 0, V.int 0]) (el_lst (ea_cons ev_c (ea_cons ev_c (ea_cons ev_c ea_nil))) (by show 3 ≤ 100000; decide)) (fun p H1 h => dp_ints (ns := [0, 0, 0]) (sq_of h)) (fun p H1 h => dp_ints (ns := [0, 0, 0]) (sq_of h)) (shaped_ints _) (shaped_ints _)) (by rw [eqv_same (shaped_ints _)])) fun H16 _ => q H16
end
end Sl
/-! ### what the top has written, and the end -/
namespace Sl
open PySem PySem.Spec PyProof.Rows L2 Evl
theorem all_mk {w : World} {K : PySem.W.Frag} {h : Heap} {mg : Str → Option Value} {fa C_CodeError C_NoWeights C_BadWeight C_BadBound C_NoRoom C_BadLengths C_BadWords C_BadBits C_NoSign C_Reader f_is_number f_is_bits f_check_bound f_check_weights f_check_lengths f_check_words f_check_row f_reader_init f_reader_take f_reader_held f_reader_done f_written f_read f_places f_room f_counted f_barred f_check_room f_u_by_weight f_u_joined f_u_pairs f_packet_rows f_free_lengths f_u_parted f_u_best_part f_u_least f_least_table f_u_run_lengths f_ordered_lengths f_u_check_sum f_u_word_from f_words_by_lengths f_words_in_order f_free_code f_ordered_code f_lw_cell f_lw_whole f_lw_doubled f_lw_weights f_lw_least_bound f_lw_word_of f_lw_words f_lw_apart f_lw_spoiled f_lw_good f_lw_some f_lw_read f_lw_told f_lw_turned f_lw_row f_lw_written f_law cL PL : Addr} (X : K.In h) (G : h.Ns mainGlobals mg) (hfa : mg "law" = some (.ref fa))
    (a_CodeError : PySem.W.nsIn K mainGlobals "CodeError" = some (some (.ref C_CodeError)))
    (x_CodeError : PySem.W.excIn K C_CodeError [.type "ValueError", .type "Exception", .type "BaseException", .type "object"] "ValueError.__new__" = true)
    (k_CodeError : PySem.W.keepIn K (.ref C_CodeError) = true)
    (b_CodeError : PySem.W.subIn K (.ref C_CodeError) (.type "BaseException") = some true)
    (t_CodeError : PySem.W.typeIn K (.ref C_CodeError) = some (.type "type"))
    (a_NoWeights : PySem.W.nsIn K mainGlobals "NoWeights" = some (some (.ref C_NoWeights)))
    (x_NoWeights : PySem.W.excIn K C_NoWeights [.type "ValueError", .type "Exception", .type "BaseException", .type "object"] "ValueError.__new__" = true)
    (k_NoWeights : PySem.W.keepIn K (.ref C_NoWeights) = true)
    (b_NoWeights : PySem.W.subIn K (.ref C_NoWeights) (.type "BaseException") = some true)
    (t_NoWeights : PySem.W.typeIn K (.ref C_NoWeights) = some (.type "type"))
    (a_BadWeight : PySem.W.nsIn K mainGlobals "BadWeight" = some (some (.ref C_BadWeight)))
    (x_BadWeight : PySem.W.excIn K C_BadWeight [.type "ValueError", .type "Exception", .type "BaseException", .type "object"] "ValueError.__new__" = true)
    (k_BadWeight : PySem.W.keepIn K (.ref C_BadWeight) = true)
    (b_BadWeight : PySem.W.subIn K (.ref C_BadWeight) (.type "BaseException") = some true)
    (t_BadWeight : PySem.W.typeIn K (.ref C_BadWeight) = some (.type "type"))
    (a_BadBound : PySem.W.nsIn K mainGlobals "BadBound" = some (some (.ref C_BadBound)))
    (x_BadBound : PySem.W.excIn K C_BadBound [.type "ValueError", .type "Exception", .type "BaseException", .type "object"] "ValueError.__new__" = true)
    (k_BadBound : PySem.W.keepIn K (.ref C_BadBound) = true)
    (b_BadBound : PySem.W.subIn K (.ref C_BadBound) (.type "BaseException") = some true)
    (t_BadBound : PySem.W.typeIn K (.ref C_BadBound) = some (.type "type"))
    (a_NoRoom : PySem.W.nsIn K mainGlobals "NoRoom" = some (some (.ref C_NoRoom)))
    (x_NoRoom : PySem.W.excIn K C_NoRoom [.type "ValueError", .type "Exception", .type "BaseException", .type "object"] "ValueError.__new__" = true)
    (k_NoRoom : PySem.W.keepIn K (.ref C_NoRoom) = true)
    (b_NoRoom : PySem.W.subIn K (.ref C_NoRoom) (.type "BaseException") = some true)
    (t_NoRoom : PySem.W.typeIn K (.ref C_NoRoom) = some (.type "type"))
    (a_BadLengths : PySem.W.nsIn K mainGlobals "BadLengths" = some (some (.ref C_BadLengths)))
    (x_BadLengths : PySem.W.excIn K C_BadLengths [.type "ValueError", .type "Exception", .type "BaseException", .type "object"] "ValueError.__new__" = true)
    (k_BadLengths : PySem.W.keepIn K (.ref C_BadLengths) = true)
    (b_BadLengths : PySem.W.subIn K (.ref C_BadLengths) (.type "BaseException") = some true)
    (t_BadLengths : PySem.W.typeIn K (.ref C_BadLengths) = some (.type "type"))
    (a_BadWords : PySem.W.nsIn K mainGlobals "BadWords" = some (some (.ref C_BadWords)))
    (x_BadWords : PySem.W.excIn K C_BadWords [.type "ValueError", .type "Exception", .type "BaseException", .type "object"] "ValueError.__new__" = true)
    (k_BadWords : PySem.W.keepIn K (.ref C_BadWords) = true)
    (b_BadWords : PySem.W.subIn K (.ref C_BadWords) (.type "BaseException") = some true)
    (t_BadWords : PySem.W.typeIn K (.ref C_BadWords) = some (.type "type"))
    (a_BadBits : PySem.W.nsIn K mainGlobals "BadBits" = some (some (.ref C_BadBits)))
    (x_BadBits : PySem.W.excIn K C_BadBits [.type "ValueError", .type "Exception", .type "BaseException", .type "object"] "ValueError.__new__" = true)
    (k_BadBits : PySem.W.keepIn K (.ref C_BadBits) = true)
    (b_BadBits : PySem.W.subIn K (.ref C_BadBits) (.type "BaseException") = some true)
    (t_BadBits : PySem.W.typeIn K (.ref C_BadBits) = some (.type "type"))
    (a_NoSign : PySem.W.nsIn K mainGlobals "NoSign" = some (some (.ref C_NoSign)))
    (x_NoSign : PySem.W.excIn K C_NoSign [.type "ValueError", .type "Exception", .type "BaseException", .type "object"] "ValueError.__new__" = true)
    (k_NoSign : PySem.W.keepIn K (.ref C_NoSign) = true)
    (b_NoSign : PySem.W.subIn K (.ref C_NoSign) (.type "BaseException") = some true)
    (t_NoSign : PySem.W.typeIn K (.ref C_NoSign) = some (.type "type"))
    (a_Reader : PySem.W.nsIn K mainGlobals "Reader" = some (some (.ref C_Reader)))
    (pg_Reader : PySem.W.plainGet K C_Reader Str.empty = true)
    (hd_Reader : PySem.W.hasDictIn K C_Reader = true)
    (po_Reader : PySem.W.plainOver K C_Reader = true)
    (sa_Reader : PySem.W.findIn K (.ref C_Reader) "__setattr__" = some (some (.builtin "object.__setattr__")))
    (mk_Reader : PySem.W.makesIn K C_Reader = true)
    (kc_Reader : PySem.W.keepIn K (.ref C_Reader) = true)
    (na_Reader__signs : PySem.W.findIn K (.ref C_Reader) "_signs" = some none)
    (na_Reader__held : PySem.W.findIn K (.ref C_Reader) "_held" = some none)
    (na_Reader__done : PySem.W.findIn K (.ref C_Reader) "_done" = some none)
    {oc_is_number kV_is_number dc_is_number pm_is_number cd_is_number ct_is_number : Value} {od_is_number an_is_number : Option Addr} {sl_is_number : Array (Option Value)}
    (a_is_number : PySem.W.nsIn K mainGlobals "is_number" = some (some (.ref f_is_number)))
    (l_is_number : K.lookup f_is_number = some ⟨oc_is_number, od_is_number, .func (PySem.W.fnOf "is_number" "is_number" (defArgs s_is_number) (defBody s_is_number) (defScope s_is_number) .none kV_is_number dc_is_number pm_is_number an_is_number cd_is_number ct_is_number), sl_is_number⟩)
    (c_is_number : PySem.W.codeIn K cd_is_number "is_number" = true)
    (k_is_number : PySem.W.keepIn K (.ref f_is_number) = true)
    {oc_is_bits kV_is_bits dc_is_bits pm_is_bits cd_is_bits ct_is_bits : Value} {od_is_bits an_is_bits : Option Addr} {sl_is_bits : Array (Option Value)}
    (a_is_bits : PySem.W.nsIn K mainGlobals "is_bits" = some (some (.ref f_is_bits)))
    (l_is_bits : K.lookup f_is_bits = some ⟨oc_is_bits, od_is_bits, .func (PySem.W.fnOf "is_bits" "is_bits" (defArgs s_is_bits) (defBody s_is_bits) (defScope s_is_bits) .none kV_is_bits dc_is_bits pm_is_bits an_is_bits cd_is_bits ct_is_bits), sl_is_bits⟩)
    (c_is_bits : PySem.W.codeIn K cd_is_bits "is_bits" = true)
    (k_is_bits : PySem.W.keepIn K (.ref f_is_bits) = true)
    {oc_check_bound kV_check_bound dc_check_bound pm_check_bound cd_check_bound ct_check_bound : Value} {od_check_bound an_check_bound : Option Addr} {sl_check_bound : Array (Option Value)}
    (a_check_bound : PySem.W.nsIn K mainGlobals "check_bound" = some (some (.ref f_check_bound)))
    (l_check_bound : K.lookup f_check_bound = some ⟨oc_check_bound, od_check_bound, .func (PySem.W.fnOf "check_bound" "check_bound" (defArgs s_check_bound) (defBody s_check_bound) (defScope s_check_bound) .none kV_check_bound dc_check_bound pm_check_bound an_check_bound cd_check_bound ct_check_bound), sl_check_bound⟩)
    (c_check_bound : PySem.W.codeIn K cd_check_bound "check_bound" = true)
    (k_check_bound : PySem.W.keepIn K (.ref f_check_bound) = true)
    {oc_check_weights kV_check_weights dc_check_weights pm_check_weights cd_check_weights ct_check_weights : Value} {od_check_weights an_check_weights : Option Addr} {sl_check_weights : Array (Option Value)}
    (a_check_weights : PySem.W.nsIn K mainGlobals "check_weights" = some (some (.ref f_check_weights)))
    (l_check_weights : K.lookup f_check_weights = some ⟨oc_check_weights, od_check_weights, .func (PySem.W.fnOf "check_weights" "check_weights" (defArgs s_check_weights) (defBody s_check_weights) (defScope s_check_weights) .none kV_check_weights dc_check_weights pm_check_weights an_check_weights cd_check_weights ct_check_weights), sl_check_weights⟩)
    (c_check_weights : PySem.W.codeIn K cd_check_weights "check_weights" = true)
    (k_check_weights : PySem.W.keepIn K (.ref f_check_weights) = true)
    {oc_check_lengths kV_check_lengths dc_check_lengths pm_check_lengths cd_check_lengths ct_check_lengths : Value} {od_check_lengths an_check_lengths : Option Addr} {sl_check_lengths : Array (Option Value)}
    (a_check_lengths : PySem.W.nsIn K mainGlobals "check_lengths" = some (some (.ref f_check_lengths)))
    (l_check_lengths : K.lookup f_check_lengths = some ⟨oc_check_lengths, od_check_lengths, .func (PySem.W.fnOf "check_lengths" "check_lengths" (defArgs s_check_lengths) (defBody s_check_lengths) (defScope s_check_lengths) .none kV_check_lengths dc_check_lengths pm_check_lengths an_check_lengths cd_check_lengths ct_check_lengths), sl_check_lengths⟩)
    (c_check_lengths : PySem.W.codeIn K cd_check_lengths "check_lengths" = true)
    (k_check_lengths : PySem.W.keepIn K (.ref f_check_lengths) = true)
    {oc_check_words kV_check_words dc_check_words pm_check_words cd_check_words ct_check_words : Value} {od_check_words an_check_words : Option Addr} {sl_check_words : Array (Option Value)}
    (a_check_words : PySem.W.nsIn K mainGlobals "check_words" = some (some (.ref f_check_words)))
    (l_check_words : K.lookup f_check_words = some ⟨oc_check_words, od_check_words, .func (PySem.W.fnOf "check_words" "check_words" (defArgs s_check_words) (defBody s_check_words) (defScope s_check_words) .none kV_check_words dc_check_words pm_check_words an_check_words cd_check_words ct_check_words), sl_check_words⟩)
    (c_check_words : PySem.W.codeIn K cd_check_words "check_words" = true)
    (k_check_words : PySem.W.keepIn K (.ref f_check_words) = true)
    {oc_check_row kV_check_row dc_check_row pm_check_row cd_check_row ct_check_row : Value} {od_check_row an_check_row : Option Addr} {sl_check_row : Array (Option Value)}
    (a_check_row : PySem.W.nsIn K mainGlobals "check_row" = some (some (.ref f_check_row)))
    (l_check_row : K.lookup f_check_row = some ⟨oc_check_row, od_check_row, .func (PySem.W.fnOf "check_row" "check_row" (defArgs s_check_row) (defBody s_check_row) (defScope s_check_row) .none kV_check_row dc_check_row pm_check_row an_check_row cd_check_row ct_check_row), sl_check_row⟩)
    (c_check_row : PySem.W.codeIn K cd_check_row "check_row" = true)
    (k_check_row : PySem.W.keepIn K (.ref f_check_row) = true)
    {oc_reader_init kV_reader_init dc_reader_init pm_reader_init cd_reader_init ct_reader_init : Value} {od_reader_init an_reader_init : Option Addr} {sl_reader_init : Array (Option Value)}
    (a_reader_init : PySem.W.findIn K (.ref C_Reader) "__init__" = some (some (.ref f_reader_init)))
    (i_reader_init : PySem.W.isFn K (.ref f_reader_init) = true)
    (l_reader_init : K.lookup f_reader_init = some ⟨oc_reader_init, od_reader_init, .func (PySem.W.fnOf "__init__" "Reader.__init__" (defArgs s_reader_init) (defBody s_reader_init) (defScope s_reader_init) .none kV_reader_init dc_reader_init pm_reader_init an_reader_init cd_reader_init ct_reader_init), sl_reader_init⟩)
    (c_reader_init : PySem.W.codeIn K cd_reader_init "Reader.__init__" = true)
    (k_reader_init : PySem.W.keepIn K (.ref f_reader_init) = true)
    {oc_reader_take kV_reader_take dc_reader_take pm_reader_take cd_reader_take ct_reader_take : Value} {od_reader_take an_reader_take : Option Addr} {sl_reader_take : Array (Option Value)}
    (a_reader_take : PySem.W.findIn K (.ref C_Reader) "take" = some (some (.ref f_reader_take)))
    (i_reader_take : PySem.W.isFn K (.ref f_reader_take) = true)
    (l_reader_take : K.lookup f_reader_take = some ⟨oc_reader_take, od_reader_take, .func (PySem.W.fnOf "take" "Reader.take" (defArgs s_reader_take) (defBody s_reader_take) (defScope s_reader_take) .none kV_reader_take dc_reader_take pm_reader_take an_reader_take cd_reader_take ct_reader_take), sl_reader_take⟩)
    (c_reader_take : PySem.W.codeIn K cd_reader_take "Reader.take" = true)
    (k_reader_take : PySem.W.keepIn K (.ref f_reader_take) = true)
    {oc_reader_held kV_reader_held dc_reader_held pm_reader_held cd_reader_held ct_reader_held : Value} {od_reader_held an_reader_held : Option Addr} {sl_reader_held : Array (Option Value)}
    (a_reader_held : PySem.W.findIn K (.ref C_Reader) "held" = some (some (.ref f_reader_held)))
    (i_reader_held : PySem.W.isFn K (.ref f_reader_held) = true)
    (l_reader_held : K.lookup f_reader_held = some ⟨oc_reader_held, od_reader_held, .func (PySem.W.fnOf "held" "Reader.held" (defArgs s_reader_held) (defBody s_reader_held) (defScope s_reader_held) .none kV_reader_held dc_reader_held pm_reader_held an_reader_held cd_reader_held ct_reader_held), sl_reader_held⟩)
    (c_reader_held : PySem.W.codeIn K cd_reader_held "Reader.held" = true)
    (k_reader_held : PySem.W.keepIn K (.ref f_reader_held) = true)
    {oc_reader_done kV_reader_done dc_reader_done pm_reader_done cd_reader_done ct_reader_done : Value} {od_reader_done an_reader_done : Option Addr} {sl_reader_done : Array (Option Value)}
    (a_reader_done : PySem.W.findIn K (.ref C_Reader) "done" = some (some (.ref f_reader_done)))
    (i_reader_done : PySem.W.isFn K (.ref f_reader_done) = true)
    (l_reader_done : K.lookup f_reader_done = some ⟨oc_reader_done, od_reader_done, .func (PySem.W.fnOf "done" "Reader.done" (defArgs s_reader_done) (defBody s_reader_done) (defScope s_reader_done) .none kV_reader_done dc_reader_done pm_reader_done an_reader_done cd_reader_done ct_reader_done), sl_reader_done⟩)
    (c_reader_done : PySem.W.codeIn K cd_reader_done "Reader.done" = true)
    (k_reader_done : PySem.W.keepIn K (.ref f_reader_done) = true)
    {oc_written kV_written dc_written pm_written cd_written ct_written : Value} {od_written an_written : Option Addr} {sl_written : Array (Option Value)}
    (a_written : PySem.W.nsIn K mainGlobals "written" = some (some (.ref f_written)))
    (l_written : K.lookup f_written = some ⟨oc_written, od_written, .func (PySem.W.fnOf "written" "written" (defArgs s_written) (defBody s_written) (defScope s_written) .none kV_written dc_written pm_written an_written cd_written ct_written), sl_written⟩)
    (c_written : PySem.W.codeIn K cd_written "written" = true)
    (k_written : PySem.W.keepIn K (.ref f_written) = true)
    {oc_read kV_read dc_read pm_read cd_read ct_read : Value} {od_read an_read : Option Addr} {sl_read : Array (Option Value)}
    (a_read : PySem.W.nsIn K mainGlobals "read" = some (some (.ref f_read)))
    (l_read : K.lookup f_read = some ⟨oc_read, od_read, .func (PySem.W.fnOf "read" "read" (defArgs s_read) (defBody s_read) (defScope s_read) .none kV_read dc_read pm_read an_read cd_read ct_read), sl_read⟩)
    (c_read : PySem.W.codeIn K cd_read "read" = true)
    (k_read : PySem.W.keepIn K (.ref f_read) = true)
    {oc_places kV_places dc_places pm_places cd_places ct_places : Value} {od_places an_places : Option Addr} {sl_places : Array (Option Value)}
    (a_places : PySem.W.nsIn K mainGlobals "places" = some (some (.ref f_places)))
    (l_places : K.lookup f_places = some ⟨oc_places, od_places, .func (PySem.W.fnOf "places" "places" (defArgs s_places) (defBody s_places) (defScope s_places) .none kV_places dc_places pm_places an_places cd_places ct_places), sl_places⟩)
    (c_places : PySem.W.codeIn K cd_places "places" = true)
    (k_places : PySem.W.keepIn K (.ref f_places) = true)
    {oc_room kV_room dc_room pm_room cd_room ct_room : Value} {od_room an_room : Option Addr} {sl_room : Array (Option Value)}
    (a_room : PySem.W.nsIn K mainGlobals "room" = some (some (.ref f_room)))
    (l_room : K.lookup f_room = some ⟨oc_room, od_room, .func (PySem.W.fnOf "room" "room" (defArgs s_room) (defBody s_room) (defScope s_room) .none kV_room dc_room pm_room an_room cd_room ct_room), sl_room⟩)
    (c_room : PySem.W.codeIn K cd_room "room" = true)
    (k_room : PySem.W.keepIn K (.ref f_room) = true)
    {oc_counted kV_counted dc_counted pm_counted cd_counted ct_counted : Value} {od_counted an_counted : Option Addr} {sl_counted : Array (Option Value)}
    (a_counted : PySem.W.nsIn K mainGlobals "counted" = some (some (.ref f_counted)))
    (l_counted : K.lookup f_counted = some ⟨oc_counted, od_counted, .func (PySem.W.fnOf "counted" "counted" (defArgs s_counted) (defBody s_counted) (defScope s_counted) .none kV_counted dc_counted pm_counted an_counted cd_counted ct_counted), sl_counted⟩)
    (c_counted : PySem.W.codeIn K cd_counted "counted" = true)
    (k_counted : PySem.W.keepIn K (.ref f_counted) = true)
    {oc_barred kV_barred dc_barred pm_barred cd_barred ct_barred : Value} {od_barred an_barred : Option Addr} {sl_barred : Array (Option Value)}
    (a_barred : PySem.W.nsIn K mainGlobals "barred" = some (some (.ref f_barred)))
    (l_barred : K.lookup f_barred = some ⟨oc_barred, od_barred, .func (PySem.W.fnOf "barred" "barred" (defArgs s_barred) (defBody s_barred) (defScope s_barred) .none kV_barred dc_barred pm_barred an_barred cd_barred ct_barred), sl_barred⟩)
    (c_barred : PySem.W.codeIn K cd_barred "barred" = true)
    (k_barred : PySem.W.keepIn K (.ref f_barred) = true)
    {oc_check_room kV_check_room dc_check_room pm_check_room cd_check_room ct_check_room : Value} {od_check_room an_check_room : Option Addr} {sl_check_room : Array (Option Value)}
    (a_check_room : PySem.W.nsIn K mainGlobals "check_room" = some (some (.ref f_check_room)))
    (l_check_room : K.lookup f_check_room = some ⟨oc_check_room, od_check_room, .func (PySem.W.fnOf "check_room" "check_room" (defArgs s_check_room) (defBody s_check_room) (defScope s_check_room) .none kV_check_room dc_check_room pm_check_room an_check_room cd_check_room ct_check_room), sl_check_room⟩)
    (c_check_room : PySem.W.codeIn K cd_check_room "check_room" = true)
    (k_check_room : PySem.W.keepIn K (.ref f_check_room) = true)
    {oc_u_by_weight kV_u_by_weight dc_u_by_weight pm_u_by_weight cd_u_by_weight ct_u_by_weight : Value} {od_u_by_weight an_u_by_weight : Option Addr} {sl_u_by_weight : Array (Option Value)}
    (a_u_by_weight : PySem.W.nsIn K mainGlobals "_by_weight" = some (some (.ref f_u_by_weight)))
    (l_u_by_weight : K.lookup f_u_by_weight = some ⟨oc_u_by_weight, od_u_by_weight, .func (PySem.W.fnOf "_by_weight" "_by_weight" (defArgs s_u_by_weight) (defBody s_u_by_weight) (defScope s_u_by_weight) .none kV_u_by_weight dc_u_by_weight pm_u_by_weight an_u_by_weight cd_u_by_weight ct_u_by_weight), sl_u_by_weight⟩)
    (c_u_by_weight : PySem.W.codeIn K cd_u_by_weight "_by_weight" = true)
    (k_u_by_weight : PySem.W.keepIn K (.ref f_u_by_weight) = true)
    {oc_u_joined kV_u_joined dc_u_joined pm_u_joined cd_u_joined ct_u_joined : Value} {od_u_joined an_u_joined : Option Addr} {sl_u_joined : Array (Option Value)}
    (a_u_joined : PySem.W.nsIn K mainGlobals "_joined" = some (some (.ref f_u_joined)))
    (l_u_joined : K.lookup f_u_joined = some ⟨oc_u_joined, od_u_joined, .func (PySem.W.fnOf "_joined" "_joined" (defArgs s_u_joined) (defBody s_u_joined) (defScope s_u_joined) .none kV_u_joined dc_u_joined pm_u_joined an_u_joined cd_u_joined ct_u_joined), sl_u_joined⟩)
    (c_u_joined : PySem.W.codeIn K cd_u_joined "_joined" = true)
    (k_u_joined : PySem.W.keepIn K (.ref f_u_joined) = true)
    {oc_u_pairs kV_u_pairs dc_u_pairs pm_u_pairs cd_u_pairs ct_u_pairs : Value} {od_u_pairs an_u_pairs : Option Addr} {sl_u_pairs : Array (Option Value)}
    (a_u_pairs : PySem.W.nsIn K mainGlobals "_pairs" = some (some (.ref f_u_pairs)))
    (l_u_pairs : K.lookup f_u_pairs = some ⟨oc_u_pairs, od_u_pairs, .func (PySem.W.fnOf "_pairs" "_pairs" (defArgs s_u_pairs) (defBody s_u_pairs) (defScope s_u_pairs) .none kV_u_pairs dc_u_pairs pm_u_pairs an_u_pairs cd_u_pairs ct_u_pairs), sl_u_pairs⟩)
    (c_u_pairs : PySem.W.codeIn K cd_u_pairs "_pairs" = true)
    (k_u_pairs : PySem.W.keepIn K (.ref f_u_pairs) = true)
    {oc_packet_rows kV_packet_rows dc_packet_rows pm_packet_rows cd_packet_rows ct_packet_rows : Value} {od_packet_rows an_packet_rows : Option Addr} {sl_packet_rows : Array (Option Value)}
    (a_packet_rows : PySem.W.nsIn K mainGlobals "packet_rows" = some (some (.ref f_packet_rows)))
    (l_packet_rows : K.lookup f_packet_rows = some ⟨oc_packet_rows, od_packet_rows, .func (PySem.W.fnOf "packet_rows" "packet_rows" (defArgs s_packet_rows) (defBody s_packet_rows) (defScope s_packet_rows) .none kV_packet_rows dc_packet_rows pm_packet_rows an_packet_rows cd_packet_rows ct_packet_rows), sl_packet_rows⟩)
    (c_packet_rows : PySem.W.codeIn K cd_packet_rows "packet_rows" = true)
    (k_packet_rows : PySem.W.keepIn K (.ref f_packet_rows) = true)
    {oc_free_lengths kV_free_lengths dc_free_lengths pm_free_lengths cd_free_lengths ct_free_lengths : Value} {od_free_lengths an_free_lengths : Option Addr} {sl_free_lengths : Array (Option Value)}
    (a_free_lengths : PySem.W.nsIn K mainGlobals "free_lengths" = some (some (.ref f_free_lengths)))
    (l_free_lengths : K.lookup f_free_lengths = some ⟨oc_free_lengths, od_free_lengths, .func (PySem.W.fnOf "free_lengths" "free_lengths" (defArgs s_free_lengths) (defBody s_free_lengths) (defScope s_free_lengths) .none kV_free_lengths dc_free_lengths pm_free_lengths an_free_lengths cd_free_lengths ct_free_lengths), sl_free_lengths⟩)
    (c_free_lengths : PySem.W.codeIn K cd_free_lengths "free_lengths" = true)
    (k_free_lengths : PySem.W.keepIn K (.ref f_free_lengths) = true)
    {oc_u_parted kV_u_parted dc_u_parted pm_u_parted cd_u_parted ct_u_parted : Value} {od_u_parted an_u_parted : Option Addr} {sl_u_parted : Array (Option Value)}
    (a_u_parted : PySem.W.nsIn K mainGlobals "_parted" = some (some (.ref f_u_parted)))
    (l_u_parted : K.lookup f_u_parted = some ⟨oc_u_parted, od_u_parted, .func (PySem.W.fnOf "_parted" "_parted" (defArgs s_u_parted) (defBody s_u_parted) (defScope s_u_parted) .none kV_u_parted dc_u_parted pm_u_parted an_u_parted cd_u_parted ct_u_parted), sl_u_parted⟩)
    (c_u_parted : PySem.W.codeIn K cd_u_parted "_parted" = true)
    (k_u_parted : PySem.W.keepIn K (.ref f_u_parted) = true)
    {oc_u_best_part kV_u_best_part dc_u_best_part pm_u_best_part cd_u_best_part ct_u_best_part : Value} {od_u_best_part an_u_best_part : Option Addr} {sl_u_best_part : Array (Option Value)}
    (a_u_best_part : PySem.W.nsIn K mainGlobals "_best_part" = some (some (.ref f_u_best_part)))
    (l_u_best_part : K.lookup f_u_best_part = some ⟨oc_u_best_part, od_u_best_part, .func (PySem.W.fnOf "_best_part" "_best_part" (defArgs s_u_best_part) (defBody s_u_best_part) (defScope s_u_best_part) .none kV_u_best_part dc_u_best_part pm_u_best_part an_u_best_part cd_u_best_part ct_u_best_part), sl_u_best_part⟩)
    (c_u_best_part : PySem.W.codeIn K cd_u_best_part "_best_part" = true)
    (k_u_best_part : PySem.W.keepIn K (.ref f_u_best_part) = true)
    {oc_u_least kV_u_least dc_u_least pm_u_least cd_u_least ct_u_least : Value} {od_u_least an_u_least : Option Addr} {sl_u_least : Array (Option Value)}
    (a_u_least : PySem.W.nsIn K mainGlobals "_least" = some (some (.ref f_u_least)))
    (l_u_least : K.lookup f_u_least = some ⟨oc_u_least, od_u_least, .func (PySem.W.fnOf "_least" "_least" (defArgs s_u_least) (defBody s_u_least) (defScope s_u_least) .none kV_u_least dc_u_least pm_u_least an_u_least cd_u_least ct_u_least), sl_u_least⟩)
    (c_u_least : PySem.W.codeIn K cd_u_least "_least" = true)
    (k_u_least : PySem.W.keepIn K (.ref f_u_least) = true)
    {oc_least_table kV_least_table dc_least_table pm_least_table cd_least_table ct_least_table : Value} {od_least_table an_least_table : Option Addr} {sl_least_table : Array (Option Value)}
    (a_least_table : PySem.W.nsIn K mainGlobals "least_table" = some (some (.ref f_least_table)))
    (l_least_table : K.lookup f_least_table = some ⟨oc_least_table, od_least_table, .func (PySem.W.fnOf "least_table" "least_table" (defArgs s_least_table) (defBody s_least_table) (defScope s_least_table) .none kV_least_table dc_least_table pm_least_table an_least_table cd_least_table ct_least_table), sl_least_table⟩)
    (c_least_table : PySem.W.codeIn K cd_least_table "least_table" = true)
    (k_least_table : PySem.W.keepIn K (.ref f_least_table) = true)
    {oc_u_run_lengths kV_u_run_lengths dc_u_run_lengths pm_u_run_lengths cd_u_run_lengths ct_u_run_lengths : Value} {od_u_run_lengths an_u_run_lengths : Option Addr} {sl_u_run_lengths : Array (Option Value)}
    (a_u_run_lengths : PySem.W.nsIn K mainGlobals "_run_lengths" = some (some (.ref f_u_run_lengths)))
    (l_u_run_lengths : K.lookup f_u_run_lengths = some ⟨oc_u_run_lengths, od_u_run_lengths, .func (PySem.W.fnOf "_run_lengths" "_run_lengths" (defArgs s_u_run_lengths) (defBody s_u_run_lengths) (defScope s_u_run_lengths) .none kV_u_run_lengths dc_u_run_lengths pm_u_run_lengths an_u_run_lengths cd_u_run_lengths ct_u_run_lengths), sl_u_run_lengths⟩)
    (c_u_run_lengths : PySem.W.codeIn K cd_u_run_lengths "_run_lengths" = true)
    (k_u_run_lengths : PySem.W.keepIn K (.ref f_u_run_lengths) = true)
    {oc_ordered_lengths kV_ordered_lengths dc_ordered_lengths pm_ordered_lengths cd_ordered_lengths ct_ordered_lengths : Value} {od_ordered_lengths an_ordered_lengths : Option Addr} {sl_ordered_lengths : Array (Option Value)}
    (a_ordered_lengths : PySem.W.nsIn K mainGlobals "ordered_lengths" = some (some (.ref f_ordered_lengths)))
    (l_ordered_lengths : K.lookup f_ordered_lengths = some ⟨oc_ordered_lengths, od_ordered_lengths, .func (PySem.W.fnOf "ordered_lengths" "ordered_lengths" (defArgs s_ordered_lengths) (defBody s_ordered_lengths) (defScope s_ordered_lengths) .none kV_ordered_lengths dc_ordered_lengths pm_ordered_lengths an_ordered_lengths cd_ordered_lengths ct_ordered_lengths), sl_ordered_lengths⟩)
    (c_ordered_lengths : PySem.W.codeIn K cd_ordered_lengths "ordered_lengths" = true)
    (k_ordered_lengths : PySem.W.keepIn K (.ref f_ordered_lengths) = true)
    {oc_u_check_sum kV_u_check_sum dc_u_check_sum pm_u_check_sum cd_u_check_sum ct_u_check_sum : Value} {od_u_check_sum an_u_check_sum : Option Addr} {sl_u_check_sum : Array (Option Value)}
    (a_u_check_sum : PySem.W.nsIn K mainGlobals "_check_sum" = some (some (.ref f_u_check_sum)))
    (l_u_check_sum : K.lookup f_u_check_sum = some ⟨oc_u_check_sum, od_u_check_sum, .func (PySem.W.fnOf "_check_sum" "_check_sum" (defArgs s_u_check_sum) (defBody s_u_check_sum) (defScope s_u_check_sum) .none kV_u_check_sum dc_u_check_sum pm_u_check_sum an_u_check_sum cd_u_check_sum ct_u_check_sum), sl_u_check_sum⟩)
    (c_u_check_sum : PySem.W.codeIn K cd_u_check_sum "_check_sum" = true)
    (k_u_check_sum : PySem.W.keepIn K (.ref f_u_check_sum) = true)
    {oc_u_word_from kV_u_word_from dc_u_word_from pm_u_word_from cd_u_word_from ct_u_word_from : Value} {od_u_word_from an_u_word_from : Option Addr} {sl_u_word_from : Array (Option Value)}
    (a_u_word_from : PySem.W.nsIn K mainGlobals "_word_from" = some (some (.ref f_u_word_from)))
    (l_u_word_from : K.lookup f_u_word_from = some ⟨oc_u_word_from, od_u_word_from, .func (PySem.W.fnOf "_word_from" "_word_from" (defArgs s_u_word_from) (defBody s_u_word_from) (defScope s_u_word_from) .none kV_u_word_from dc_u_word_from pm_u_word_from an_u_word_from cd_u_word_from ct_u_word_from), sl_u_word_from⟩)
    (c_u_word_from : PySem.W.codeIn K cd_u_word_from "_word_from" = true)
    (k_u_word_from : PySem.W.keepIn K (.ref f_u_word_from) = true)
    {oc_words_by_lengths kV_words_by_lengths dc_words_by_lengths pm_words_by_lengths cd_words_by_lengths ct_words_by_lengths : Value} {od_words_by_lengths an_words_by_lengths : Option Addr} {sl_words_by_lengths : Array (Option Value)}
    (a_words_by_lengths : PySem.W.nsIn K mainGlobals "words_by_lengths" = some (some (.ref f_words_by_lengths)))
    (l_words_by_lengths : K.lookup f_words_by_lengths = some ⟨oc_words_by_lengths, od_words_by_lengths, .func (PySem.W.fnOf "words_by_lengths" "words_by_lengths" (defArgs s_words_by_lengths) (defBody s_words_by_lengths) (defScope s_words_by_lengths) .none kV_words_by_lengths dc_words_by_lengths pm_words_by_lengths an_words_by_lengths cd_words_by_lengths ct_words_by_lengths), sl_words_by_lengths⟩)
    (c_words_by_lengths : PySem.W.codeIn K cd_words_by_lengths "words_by_lengths" = true)
    (k_words_by_lengths : PySem.W.keepIn K (.ref f_words_by_lengths) = true)
    {oc_words_in_order kV_words_in_order dc_words_in_order pm_words_in_order cd_words_in_order ct_words_in_order : Value} {od_words_in_order an_words_in_order : Option Addr} {sl_words_in_order : Array (Option Value)}
    (a_words_in_order : PySem.W.nsIn K mainGlobals "words_in_order" = some (some (.ref f_words_in_order)))
    (l_words_in_order : K.lookup f_words_in_order = some ⟨oc_words_in_order, od_words_in_order, .func (PySem.W.fnOf "words_in_order" "words_in_order" (defArgs s_words_in_order) (defBody s_words_in_order) (defScope s_words_in_order) .none kV_words_in_order dc_words_in_order pm_words_in_order an_words_in_order cd_words_in_order ct_words_in_order), sl_words_in_order⟩)
    (c_words_in_order : PySem.W.codeIn K cd_words_in_order "words_in_order" = true)
    (k_words_in_order : PySem.W.keepIn K (.ref f_words_in_order) = true)
    {oc_free_code kV_free_code dc_free_code pm_free_code cd_free_code ct_free_code : Value} {od_free_code an_free_code : Option Addr} {sl_free_code : Array (Option Value)}
    (a_free_code : PySem.W.nsIn K mainGlobals "free_code" = some (some (.ref f_free_code)))
    (l_free_code : K.lookup f_free_code = some ⟨oc_free_code, od_free_code, .func (PySem.W.fnOf "free_code" "free_code" (defArgs s_free_code) (defBody s_free_code) (defScope s_free_code) .none kV_free_code dc_free_code pm_free_code an_free_code cd_free_code ct_free_code), sl_free_code⟩)
    (c_free_code : PySem.W.codeIn K cd_free_code "free_code" = true)
    (k_free_code : PySem.W.keepIn K (.ref f_free_code) = true)
    {oc_ordered_code kV_ordered_code dc_ordered_code pm_ordered_code cd_ordered_code ct_ordered_code : Value} {od_ordered_code an_ordered_code : Option Addr} {sl_ordered_code : Array (Option Value)}
    (a_ordered_code : PySem.W.nsIn K mainGlobals "ordered_code" = some (some (.ref f_ordered_code)))
    (l_ordered_code : K.lookup f_ordered_code = some ⟨oc_ordered_code, od_ordered_code, .func (PySem.W.fnOf "ordered_code" "ordered_code" (defArgs s_ordered_code) (defBody s_ordered_code) (defScope s_ordered_code) .none kV_ordered_code dc_ordered_code pm_ordered_code an_ordered_code cd_ordered_code ct_ordered_code), sl_ordered_code⟩)
    (c_ordered_code : PySem.W.codeIn K cd_ordered_code "ordered_code" = true)
    (k_ordered_code : PySem.W.keepIn K (.ref f_ordered_code) = true)
    {oc_lw_cell kV_lw_cell dc_lw_cell pm_lw_cell cd_lw_cell ct_lw_cell : Value} {od_lw_cell an_lw_cell : Option Addr} {sl_lw_cell : Array (Option Value)}
    (a_lw_cell : PySem.W.nsIn K mainGlobals "_law_cell" = some (some (.ref f_lw_cell)))
    (l_lw_cell : K.lookup f_lw_cell = some ⟨oc_lw_cell, od_lw_cell, .func (PySem.W.fnOf "_law_cell" "_law_cell" (defArgs s_lw_cell) (defBody s_lw_cell) (defScope s_lw_cell) .none kV_lw_cell dc_lw_cell pm_lw_cell an_lw_cell cd_lw_cell ct_lw_cell), sl_lw_cell⟩)
    (c_lw_cell : PySem.W.codeIn K cd_lw_cell "_law_cell" = true)
    (k_lw_cell : PySem.W.keepIn K (.ref f_lw_cell) = true)
    {oc_lw_whole kV_lw_whole dc_lw_whole pm_lw_whole cd_lw_whole ct_lw_whole : Value} {od_lw_whole an_lw_whole : Option Addr} {sl_lw_whole : Array (Option Value)}
    (a_lw_whole : PySem.W.nsIn K mainGlobals "_law_whole" = some (some (.ref f_lw_whole)))
    (l_lw_whole : K.lookup f_lw_whole = some ⟨oc_lw_whole, od_lw_whole, .func (PySem.W.fnOf "_law_whole" "_law_whole" (defArgs s_lw_whole) (defBody s_lw_whole) (defScope s_lw_whole) .none kV_lw_whole dc_lw_whole pm_lw_whole an_lw_whole cd_lw_whole ct_lw_whole), sl_lw_whole⟩)
    (c_lw_whole : PySem.W.codeIn K cd_lw_whole "_law_whole" = true)
    (k_lw_whole : PySem.W.keepIn K (.ref f_lw_whole) = true)
    {oc_lw_doubled kV_lw_doubled dc_lw_doubled pm_lw_doubled cd_lw_doubled ct_lw_doubled : Value} {od_lw_doubled an_lw_doubled : Option Addr} {sl_lw_doubled : Array (Option Value)}
    (a_lw_doubled : PySem.W.nsIn K mainGlobals "_law_doubled" = some (some (.ref f_lw_doubled)))
    (l_lw_doubled : K.lookup f_lw_doubled = some ⟨oc_lw_doubled, od_lw_doubled, .func (PySem.W.fnOf "_law_doubled" "_law_doubled" (defArgs s_lw_doubled) (defBody s_lw_doubled) (defScope s_lw_doubled) .none kV_lw_doubled dc_lw_doubled pm_lw_doubled an_lw_doubled cd_lw_doubled ct_lw_doubled), sl_lw_doubled⟩)
    (c_lw_doubled : PySem.W.codeIn K cd_lw_doubled "_law_doubled" = true)
    (k_lw_doubled : PySem.W.keepIn K (.ref f_lw_doubled) = true)
    {oc_lw_weights kV_lw_weights dc_lw_weights pm_lw_weights cd_lw_weights ct_lw_weights : Value} {od_lw_weights an_lw_weights : Option Addr} {sl_lw_weights : Array (Option Value)}
    (a_lw_weights : PySem.W.nsIn K mainGlobals "_law_weights" = some (some (.ref f_lw_weights)))
    (l_lw_weights : K.lookup f_lw_weights = some ⟨oc_lw_weights, od_lw_weights, .func (PySem.W.fnOf "_law_weights" "_law_weights" (defArgs s_lw_weights) (defBody s_lw_weights) (defScope s_lw_weights) .none kV_lw_weights dc_lw_weights pm_lw_weights an_lw_weights cd_lw_weights ct_lw_weights), sl_lw_weights⟩)
    (c_lw_weights : PySem.W.codeIn K cd_lw_weights "_law_weights" = true)
    (k_lw_weights : PySem.W.keepIn K (.ref f_lw_weights) = true)
    {oc_lw_least_bound kV_lw_least_bound dc_lw_least_bound pm_lw_least_bound cd_lw_least_bound ct_lw_least_bound : Value} {od_lw_least_bound an_lw_least_bound : Option Addr} {sl_lw_least_bound : Array (Option Value)}
    (a_lw_least_bound : PySem.W.nsIn K mainGlobals "_law_least_bound" = some (some (.ref f_lw_least_bound)))
    (l_lw_least_bound : K.lookup f_lw_least_bound = some ⟨oc_lw_least_bound, od_lw_least_bound, .func (PySem.W.fnOf "_law_least_bound" "_law_least_bound" (defArgs s_lw_least_bound) (defBody s_lw_least_bound) (defScope s_lw_least_bound) .none kV_lw_least_bound dc_lw_least_bound pm_lw_least_bound an_lw_least_bound cd_lw_least_bound ct_lw_least_bound), sl_lw_least_bound⟩)
    (c_lw_least_bound : PySem.W.codeIn K cd_lw_least_bound "_law_least_bound" = true)
    (k_lw_least_bound : PySem.W.keepIn K (.ref f_lw_least_bound) = true)
    {oc_lw_word_of kV_lw_word_of dc_lw_word_of pm_lw_word_of cd_lw_word_of ct_lw_word_of : Value} {od_lw_word_of an_lw_word_of : Option Addr} {sl_lw_word_of : Array (Option Value)}
    (a_lw_word_of : PySem.W.nsIn K mainGlobals "_law_word_of" = some (some (.ref f_lw_word_of)))
    (l_lw_word_of : K.lookup f_lw_word_of = some ⟨oc_lw_word_of, od_lw_word_of, .func (PySem.W.fnOf "_law_word_of" "_law_word_of" (defArgs s_lw_word_of) (defBody s_lw_word_of) (defScope s_lw_word_of) .none kV_lw_word_of dc_lw_word_of pm_lw_word_of an_lw_word_of cd_lw_word_of ct_lw_word_of), sl_lw_word_of⟩)
    (c_lw_word_of : PySem.W.codeIn K cd_lw_word_of "_law_word_of" = true)
    (k_lw_word_of : PySem.W.keepIn K (.ref f_lw_word_of) = true)
    {oc_lw_words kV_lw_words dc_lw_words pm_lw_words cd_lw_words ct_lw_words : Value} {od_lw_words an_lw_words : Option Addr} {sl_lw_words : Array (Option Value)}
    (a_lw_words : PySem.W.nsIn K mainGlobals "_law_words" = some (some (.ref f_lw_words)))
    (l_lw_words : K.lookup f_lw_words = some ⟨oc_lw_words, od_lw_words, .func (PySem.W.fnOf "_law_words" "_law_words" (defArgs s_lw_words) (defBody s_lw_words) (defScope s_lw_words) .none kV_lw_words dc_lw_words pm_lw_words an_lw_words cd_lw_words ct_lw_words), sl_lw_words⟩)
    (c_lw_words : PySem.W.codeIn K cd_lw_words "_law_words" = true)
    (k_lw_words : PySem.W.keepIn K (.ref f_lw_words) = true)
    {oc_lw_apart kV_lw_apart dc_lw_apart pm_lw_apart cd_lw_apart ct_lw_apart : Value} {od_lw_apart an_lw_apart : Option Addr} {sl_lw_apart : Array (Option Value)}
    (a_lw_apart : PySem.W.nsIn K mainGlobals "_law_apart" = some (some (.ref f_lw_apart)))
    (l_lw_apart : K.lookup f_lw_apart = some ⟨oc_lw_apart, od_lw_apart, .func (PySem.W.fnOf "_law_apart" "_law_apart" (defArgs s_lw_apart) (defBody s_lw_apart) (defScope s_lw_apart) .none kV_lw_apart dc_lw_apart pm_lw_apart an_lw_apart cd_lw_apart ct_lw_apart), sl_lw_apart⟩)
    (c_lw_apart : PySem.W.codeIn K cd_lw_apart "_law_apart" = true)
    (k_lw_apart : PySem.W.keepIn K (.ref f_lw_apart) = true)
    {oc_lw_spoiled kV_lw_spoiled dc_lw_spoiled pm_lw_spoiled cd_lw_spoiled ct_lw_spoiled : Value} {od_lw_spoiled an_lw_spoiled : Option Addr} {sl_lw_spoiled : Array (Option Value)}
    (a_lw_spoiled : PySem.W.nsIn K mainGlobals "_law_spoiled" = some (some (.ref f_lw_spoiled)))
    (l_lw_spoiled : K.lookup f_lw_spoiled = some ⟨oc_lw_spoiled, od_lw_spoiled, .func (PySem.W.fnOf "_law_spoiled" "_law_spoiled" (defArgs s_lw_spoiled) (defBody s_lw_spoiled) (defScope s_lw_spoiled) .none kV_lw_spoiled dc_lw_spoiled pm_lw_spoiled an_lw_spoiled cd_lw_spoiled ct_lw_spoiled), sl_lw_spoiled⟩)
    (c_lw_spoiled : PySem.W.codeIn K cd_lw_spoiled "_law_spoiled" = true)
    (k_lw_spoiled : PySem.W.keepIn K (.ref f_lw_spoiled) = true)
    {oc_lw_good kV_lw_good dc_lw_good pm_lw_good cd_lw_good ct_lw_good : Value} {od_lw_good an_lw_good : Option Addr} {sl_lw_good : Array (Option Value)}
    (a_lw_good : PySem.W.nsIn K mainGlobals "_law_good" = some (some (.ref f_lw_good)))
    (l_lw_good : K.lookup f_lw_good = some ⟨oc_lw_good, od_lw_good, .func (PySem.W.fnOf "_law_good" "_law_good" (defArgs s_lw_good) (defBody s_lw_good) (defScope s_lw_good) .none kV_lw_good dc_lw_good pm_lw_good an_lw_good cd_lw_good ct_lw_good), sl_lw_good⟩)
    (c_lw_good : PySem.W.codeIn K cd_lw_good "_law_good" = true)
    (k_lw_good : PySem.W.keepIn K (.ref f_lw_good) = true)
    {oc_lw_some kV_lw_some dc_lw_some pm_lw_some cd_lw_some ct_lw_some : Value} {od_lw_some an_lw_some : Option Addr} {sl_lw_some : Array (Option Value)}
    (a_lw_some : PySem.W.nsIn K mainGlobals "_law_some" = some (some (.ref f_lw_some)))
    (l_lw_some : K.lookup f_lw_some = some ⟨oc_lw_some, od_lw_some, .func (PySem.W.fnOf "_law_some" "_law_some" (defArgs s_lw_some) (defBody s_lw_some) (defScope s_lw_some) .none kV_lw_some dc_lw_some pm_lw_some an_lw_some cd_lw_some ct_lw_some), sl_lw_some⟩)
    (c_lw_some : PySem.W.codeIn K cd_lw_some "_law_some" = true)
    (k_lw_some : PySem.W.keepIn K (.ref f_lw_some) = true)
    {oc_lw_read kV_lw_read dc_lw_read pm_lw_read cd_lw_read ct_lw_read : Value} {od_lw_read an_lw_read : Option Addr} {sl_lw_read : Array (Option Value)}
    (a_lw_read : PySem.W.nsIn K mainGlobals "_law_read" = some (some (.ref f_lw_read)))
    (l_lw_read : K.lookup f_lw_read = some ⟨oc_lw_read, od_lw_read, .func (PySem.W.fnOf "_law_read" "_law_read" (defArgs s_lw_read) (defBody s_lw_read) (defScope s_lw_read) .none kV_lw_read dc_lw_read pm_lw_read an_lw_read cd_lw_read ct_lw_read), sl_lw_read⟩)
    (c_lw_read : PySem.W.codeIn K cd_lw_read "_law_read" = true)
    (k_lw_read : PySem.W.keepIn K (.ref f_lw_read) = true)
    {oc_lw_told kV_lw_told dc_lw_told pm_lw_told cd_lw_told ct_lw_told : Value} {od_lw_told an_lw_told : Option Addr} {sl_lw_told : Array (Option Value)}
    (a_lw_told : PySem.W.nsIn K mainGlobals "_law_told" = some (some (.ref f_lw_told)))
    (l_lw_told : K.lookup f_lw_told = some ⟨oc_lw_told, od_lw_told, .func (PySem.W.fnOf "_law_told" "_law_told" (defArgs s_lw_told) (defBody s_lw_told) (defScope s_lw_told) .none kV_lw_told dc_lw_told pm_lw_told an_lw_told cd_lw_told ct_lw_told), sl_lw_told⟩)
    (c_lw_told : PySem.W.codeIn K cd_lw_told "_law_told" = true)
    (k_lw_told : PySem.W.keepIn K (.ref f_lw_told) = true)
    {oc_lw_turned kV_lw_turned dc_lw_turned pm_lw_turned cd_lw_turned ct_lw_turned : Value} {od_lw_turned an_lw_turned : Option Addr} {sl_lw_turned : Array (Option Value)}
    (a_lw_turned : PySem.W.nsIn K mainGlobals "_law_turned" = some (some (.ref f_lw_turned)))
    (l_lw_turned : K.lookup f_lw_turned = some ⟨oc_lw_turned, od_lw_turned, .func (PySem.W.fnOf "_law_turned" "_law_turned" (defArgs s_lw_turned) (defBody s_lw_turned) (defScope s_lw_turned) .none kV_lw_turned dc_lw_turned pm_lw_turned an_lw_turned cd_lw_turned ct_lw_turned), sl_lw_turned⟩)
    (c_lw_turned : PySem.W.codeIn K cd_lw_turned "_law_turned" = true)
    (k_lw_turned : PySem.W.keepIn K (.ref f_lw_turned) = true)
    {oc_lw_row kV_lw_row dc_lw_row pm_lw_row cd_lw_row ct_lw_row : Value} {od_lw_row an_lw_row : Option Addr} {sl_lw_row : Array (Option Value)}
    (a_lw_row : PySem.W.nsIn K mainGlobals "_law_row" = some (some (.ref f_lw_row)))
    (l_lw_row : K.lookup f_lw_row = some ⟨oc_lw_row, od_lw_row, .func (PySem.W.fnOf "_law_row" "_law_row" (defArgs s_lw_row) (defBody s_lw_row) (defScope s_lw_row) .none kV_lw_row dc_lw_row pm_lw_row an_lw_row cd_lw_row ct_lw_row), sl_lw_row⟩)
    (c_lw_row : PySem.W.codeIn K cd_lw_row "_law_row" = true)
    (k_lw_row : PySem.W.keepIn K (.ref f_lw_row) = true)
    {oc_lw_written kV_lw_written dc_lw_written pm_lw_written cd_lw_written ct_lw_written : Value} {od_lw_written an_lw_written : Option Addr} {sl_lw_written : Array (Option Value)}
    (a_lw_written : PySem.W.nsIn K mainGlobals "_law_written" = some (some (.ref f_lw_written)))
    (l_lw_written : K.lookup f_lw_written = some ⟨oc_lw_written, od_lw_written, .func (PySem.W.fnOf "_law_written" "_law_written" (defArgs s_lw_written) (defBody s_lw_written) (defScope s_lw_written) .none kV_lw_written dc_lw_written pm_lw_written an_lw_written cd_lw_written ct_lw_written), sl_lw_written⟩)
    (c_lw_written : PySem.W.codeIn K cd_lw_written "_law_written" = true)
    (k_lw_written : PySem.W.keepIn K (.ref f_lw_written) = true)
    {oc_law kV_law dc_law pm_law cd_law ct_law : Value} {od_law an_law : Option Addr} {sl_law : Array (Option Value)}
    (a_law : PySem.W.nsIn K mainGlobals "law" = some (some (.ref f_law)))
    (l_law : K.lookup f_law = some ⟨oc_law, od_law, .func (PySem.W.fnOf "law" "law" (defArgs s_law) (defBody s_law) (defScope s_law) .none kV_law dc_law pm_law an_law cd_law ct_law), sl_law⟩)
    (c_law : PySem.W.codeIn K cd_law "law" = true)
    (k_law : PySem.W.keepIn K (.ref f_law) = true)
    {tk_MOST_SIGNS : Tok} (n_MOST_SIGNS : PySem.W.nsIn K mainGlobals "MOST_SIGNS" = some (some (.int 24 tk_MOST_SIGNS)))
    {tk_MOST_WEIGHT : Tok} (n_MOST_WEIGHT : PySem.W.nsIn K mainGlobals "MOST_WEIGHT" = some (some (.int 1000000000000 tk_MOST_WEIGHT)))
    {tk_MOST_BITS : Tok} (n_MOST_BITS : PySem.W.nsIn K mainGlobals "MOST_BITS" = some (some (.int 12 tk_MOST_BITS)))
    (z_ValueError : PySem.W.nsIn K mainGlobals "ValueError" = some none)
    (z_all : PySem.W.nsIn K mainGlobals "all" = some none)
    (z_any : PySem.W.nsIn K mainGlobals "any" = some none)
    (z_bool : PySem.W.nsIn K mainGlobals "bool" = some none)
    (z_enumerate : PySem.W.nsIn K mainGlobals "enumerate" = some none)
    (z_int : PySem.W.nsIn K mainGlobals "int" = some none)
    (z_isinstance : PySem.W.nsIn K mainGlobals "isinstance" = some none)
    (z_len : PySem.W.nsIn K mainGlobals "len" = some none)
    (z_list : PySem.W.nsIn K mainGlobals "list" = some none)
    (z_max : PySem.W.nsIn K mainGlobals "max" = some none)
    (z_min : PySem.W.nsIn K mainGlobals "min" = some none)
    (z_range : PySem.W.nsIn K mainGlobals "range" = some none)
    (z_sorted : PySem.W.nsIn K mainGlobals "sorted" = some none)
    (z_str : PySem.W.nsIn K mainGlobals "str" = some none)
    (z_sum : PySem.W.nsIn K mainGlobals "sum" = some none)
    (z_tuple : PySem.W.nsIn K mainGlobals "tuple" = some none)
    (z_zip : PySem.W.nsIn K mainGlobals "zip" = some none)
    (x_hn : PySem.W.specialIn K (.builtin "object.__class__") "__get__" = some (some (.builtin "getset_descriptor.__get__")))
    (x_ht : PySem.W.takesIn K (.builtin "object.__class__") = some true)
    (hd_CodeError : PySem.W.hasDictIn K C_CodeError = true)
    (i_NoSign : PySem.W.isClsIn K C_NoSign = true)
    (i_BadBits : PySem.W.isClsIn K C_BadBits = true)
    (i_BadWords : PySem.W.isClsIn K C_BadWords = true)
    (i_BadLengths : PySem.W.isClsIn K C_BadLengths = true)
    (i_NoRoom : PySem.W.isClsIn K C_NoRoom = true)
    (i_BadBound : PySem.W.isClsIn K C_BadBound = true)
    (i_BadWeight : PySem.W.isClsIn K C_BadWeight = true)
    (i_NoWeights : PySem.W.isClsIn K C_NoWeights = true)
    (e_BadWords_hg : PySem.W.findIn K (.ref C_BadWords) "__getattribute__" = some (some (.builtin "BaseException.__getattribute__")))
    (e_BadWords_hk : PySem.W.findIn K (.ref C_BadWords) "__getattr__" = some none)
    (e_BadWords_hs : PySem.W.subIn K (.ref C_BadWords) (.type "BaseException") = some true)
    (e_BadWords_hd : PySem.W.hasDictIn K C_BadWords = true)
    (e_BadWords_ha : PySem.W.findIn K (.ref C_BadWords) "__class__" = some (some (.builtin "object.__class__")))
    (e_BadWords_hm : PySem.W.mroIn K C_BadWords (.type "object") = some true)
    (e_BadWords_k1 : PySem.W.subIn K (.ref C_BadWords) (.ref C_NoWeights) = some false)
    (e_BadWords_k2 : PySem.W.subIn K (.ref C_BadWords) (.ref C_BadWeight) = some false)
    (e_BadWords_k3 : PySem.W.subIn K (.ref C_BadWords) (.ref C_BadBound) = some false)
    (e_BadWords_k4 : PySem.W.subIn K (.ref C_BadWords) (.ref C_NoRoom) = some false)
    (e_BadWords_k5 : PySem.W.subIn K (.ref C_BadWords) (.ref C_BadLengths) = some false)
    (e_BadWords_k6 : PySem.W.subIn K (.ref C_BadWords) (.ref C_BadWords) = some true)
    (e_BadWords_k7 : PySem.W.subIn K (.ref C_BadWords) (.ref C_BadBits) = some false)
    (e_BadWords_k8 : PySem.W.subIn K (.ref C_BadWords) (.ref C_NoSign) = some false)
    (e_BadWords_kV : PySem.W.subIn K (.ref C_BadWords) (.type "ValueError") = some true)
    (e_BadWords_sub : PySem.W.subIn K (.ref C_BadWords) (.ref C_CodeError) = some true)
    (e_BadBits_hg : PySem.W.findIn K (.ref C_BadBits) "__getattribute__" = some (some (.builtin "BaseException.__getattribute__")))
    (e_BadBits_hk : PySem.W.findIn K (.ref C_BadBits) "__getattr__" = some none)
    (e_BadBits_hs : PySem.W.subIn K (.ref C_BadBits) (.type "BaseException") = some true)
    (e_BadBits_hd : PySem.W.hasDictIn K C_BadBits = true)
    (e_BadBits_ha : PySem.W.findIn K (.ref C_BadBits) "__class__" = some (some (.builtin "object.__class__")))
    (e_BadBits_hm : PySem.W.mroIn K C_BadBits (.type "object") = some true)
    (e_BadBits_k1 : PySem.W.subIn K (.ref C_BadBits) (.ref C_NoWeights) = some false)
    (e_BadBits_k2 : PySem.W.subIn K (.ref C_BadBits) (.ref C_BadWeight) = some false)
    (e_BadBits_k3 : PySem.W.subIn K (.ref C_BadBits) (.ref C_BadBound) = some false)
    (e_BadBits_k4 : PySem.W.subIn K (.ref C_BadBits) (.ref C_NoRoom) = some false)
    (e_BadBits_k5 : PySem.W.subIn K (.ref C_BadBits) (.ref C_BadLengths) = some false)
    (e_BadBits_k6 : PySem.W.subIn K (.ref C_BadBits) (.ref C_BadWords) = some false)
    (e_BadBits_k7 : PySem.W.subIn K (.ref C_BadBits) (.ref C_BadBits) = some true)
    (e_BadBits_k8 : PySem.W.subIn K (.ref C_BadBits) (.ref C_NoSign) = some false)
    (e_BadBits_kV : PySem.W.subIn K (.ref C_BadBits) (.type "ValueError") = some true)
    (e_BadBits_sub : PySem.W.subIn K (.ref C_BadBits) (.ref C_CodeError) = some true)
    (e_NoSign_hg : PySem.W.findIn K (.ref C_NoSign) "__getattribute__" = some (some (.builtin "BaseException.__getattribute__")))
    (e_NoSign_hk : PySem.W.findIn K (.ref C_NoSign) "__getattr__" = some none)
    (e_NoSign_hs : PySem.W.subIn K (.ref C_NoSign) (.type "BaseException") = some true)
    (e_NoSign_hd : PySem.W.hasDictIn K C_NoSign = true)
    (e_NoSign_ha : PySem.W.findIn K (.ref C_NoSign) "__class__" = some (some (.builtin "object.__class__")))
    (e_NoSign_hm : PySem.W.mroIn K C_NoSign (.type "object") = some true)
    (e_NoSign_k1 : PySem.W.subIn K (.ref C_NoSign) (.ref C_NoWeights) = some false)
    (e_NoSign_k2 : PySem.W.subIn K (.ref C_NoSign) (.ref C_BadWeight) = some false)
    (e_NoSign_k3 : PySem.W.subIn K (.ref C_NoSign) (.ref C_BadBound) = some false)
    (e_NoSign_k4 : PySem.W.subIn K (.ref C_NoSign) (.ref C_NoRoom) = some false)
    (e_NoSign_k5 : PySem.W.subIn K (.ref C_NoSign) (.ref C_BadLengths) = some false)
    (e_NoSign_k6 : PySem.W.subIn K (.ref C_NoSign) (.ref C_BadWords) = some false)
    (e_NoSign_k7 : PySem.W.subIn K (.ref C_NoSign) (.ref C_BadBits) = some false)
    (e_NoSign_k8 : PySem.W.subIn K (.ref C_NoSign) (.ref C_NoSign) = some true)
    (e_NoSign_kV : PySem.W.subIn K (.ref C_NoSign) (.type "ValueError") = some true)
    (e_NoSign_sub : PySem.W.subIn K (.ref C_NoSign) (.ref C_CodeError) = some true)
    (q_u_by_weight : cd_u_by_weight = .ref cL)
    (hP : h.get? PL = some (PySem.W.tabObj #[]))
    (nP : K.lookup PL = none)
    (cH : PySem.W.codeHdIn K cL PL = true)
    : LamX.LawAtS PySem.Challenge.rw_shortlimit_k14_whole_bits_read w K CX0 19 63 "_law_script" mg fa h := by
  have e := hfa.symm.trans (PySem.W.mg_of X G a_law)
  cases e
  have F_is_number := fun_mk (st := s_is_number) l_is_number c_is_number k_is_number
  have F_is_bits := fun_mk (st := s_is_bits) l_is_bits c_is_bits k_is_bits
  have F_check_bound := fun_mk (st := s_check_bound) l_check_bound c_check_bound k_check_bound
  have F_check_weights := fun_mk (st := s_check_weights) l_check_weights c_check_weights k_check_weights
  have F_check_lengths := fun_mk (st := s_check_lengths) l_check_lengths c_check_lengths k_check_lengths
  have F_check_words := fun_mk (st := s_check_words) l_check_words c_check_words k_check_words
  have F_check_row := fun_mk (st := s_check_row) l_check_row c_check_row k_check_row
  have F_reader_init := fun_mk (st := s_reader_init) l_reader_init c_reader_init k_reader_init
  have F_reader_take := fun_mk (st := s_reader_take) l_reader_take c_reader_take k_reader_take
  have F_reader_held := fun_mk (st := s_reader_held) l_reader_held c_reader_held k_reader_held
  have F_reader_done := fun_mk (st := s_reader_done) l_reader_done c_reader_done k_reader_done
  have F_written := fun_mk (st := s_written) l_written c_written k_written
  have F_read := fun_mk (st := s_read) l_read c_read k_read
  have F_places := fun_mk (st := s_places) l_places c_places k_places
  have F_room := fun_mk (st := s_room) l_room c_room k_room
  have F_counted := fun_mk (st := s_counted) l_counted c_counted k_counted
  have F_barred := fun_mk (st := s_barred) l_barred c_barred k_barred
  have F_check_room := fun_mk (st := s_check_room) l_check_room c_check_room k_check_room
  have F_u_by_weight := fun_mk (st := s_u_by_weight) l_u_by_weight c_u_by_weight k_u_by_weight
  have F_u_joined := fun_mk (st := s_u_joined) l_u_joined c_u_joined k_u_joined
  have F_u_pairs := fun_mk (st := s_u_pairs) l_u_pairs c_u_pairs k_u_pairs
  have F_packet_rows := fun_mk (st := s_packet_rows) l_packet_rows c_packet_rows k_packet_rows
  have F_free_lengths := fun_mk (st := s_free_lengths) l_free_lengths c_free_lengths k_free_lengths
  have F_u_parted := fun_mk (st := s_u_parted) l_u_parted c_u_parted k_u_parted
  have F_u_best_part := fun_mk (st := s_u_best_part) l_u_best_part c_u_best_part k_u_best_part
  have F_u_least := fun_mk (st := s_u_least) l_u_least c_u_least k_u_least
  have F_least_table := fun_mk (st := s_least_table) l_least_table c_least_table k_least_table
  have F_u_run_lengths := fun_mk (st := s_u_run_lengths) l_u_run_lengths c_u_run_lengths k_u_run_lengths
  have F_ordered_lengths := fun_mk (st := s_ordered_lengths) l_ordered_lengths c_ordered_lengths k_ordered_lengths
  have F_u_check_sum := fun_mk (st := s_u_check_sum) l_u_check_sum c_u_check_sum k_u_check_sum
  have F_u_word_from := fun_mk (st := s_u_word_from) l_u_word_from c_u_word_from k_u_word_from
  have F_words_by_lengths := fun_mk (st := s_words_by_lengths) l_words_by_lengths c_words_by_lengths k_words_by_lengths
  have F_words_in_order := fun_mk (st := s_words_in_order) l_words_in_order c_words_in_order k_words_in_order
  have F_free_code := fun_mk (st := s_free_code) l_free_code c_free_code k_free_code
  have F_ordered_code := fun_mk (st := s_ordered_code) l_ordered_code c_ordered_code k_ordered_code
  have F_lw_cell := fun_mk (st := s_lw_cell) l_lw_cell c_lw_cell k_lw_cell
  have F_lw_whole := fun_mk (st := s_lw_whole) l_lw_whole c_lw_whole k_lw_whole
  have F_lw_doubled := fun_mk (st := s_lw_doubled) l_lw_doubled c_lw_doubled k_lw_doubled
  have F_lw_weights := fun_mk (st := s_lw_weights) l_lw_weights c_lw_weights k_lw_weights
  have F_lw_least_bound := fun_mk (st := s_lw_least_bound) l_lw_least_bound c_lw_least_bound k_lw_least_bound
  have F_lw_word_of := fun_mk (st := s_lw_word_of) l_lw_word_of c_lw_word_of k_lw_word_of
  have F_lw_words := fun_mk (st := s_lw_words) l_lw_words c_lw_words k_lw_words
  have F_lw_apart := fun_mk (st := s_lw_apart) l_lw_apart c_lw_apart k_lw_apart
  have F_lw_spoiled := fun_mk (st := s_lw_spoiled) l_lw_spoiled c_lw_spoiled k_lw_spoiled
  have F_lw_good := fun_mk (st := s_lw_good) l_lw_good c_lw_good k_lw_good
  have F_lw_some := fun_mk (st := s_lw_some) l_lw_some c_lw_some k_lw_some
  have F_lw_read := fun_mk (st := s_lw_read) l_lw_read c_lw_read k_lw_read
  have F_lw_told := fun_mk (st := s_lw_told) l_lw_told c_lw_told k_lw_told
  have F_lw_turned := fun_mk (st := s_lw_turned) l_lw_turned c_lw_turned k_lw_turned
  have F_lw_row := fun_mk (st := s_lw_row) l_lw_row c_lw_row k_lw_row
  have F_lw_written := fun_mk (st := s_lw_written) l_lw_written c_lw_written k_lw_written
  have F_law := fun_mk (st := s_law) l_law c_law k_law
  have T : Top K mg ⟨f_is_number, _, f_is_bits, _, f_check_bound, _, f_check_weights, _, f_check_lengths, _, f_check_words, _, f_check_row, _, f_reader_init, _, f_reader_take, _, f_reader_held, _, f_reader_done, _, f_written, _, f_read, _, f_places, _, f_room, _, f_counted, _, f_barred, _, f_check_room, _, f_u_by_weight, _, f_u_joined, _, f_u_pairs, _, f_packet_rows, _, f_free_lengths, _, f_u_parted, _, f_u_best_part, _, f_u_least, _, f_least_table, _, f_u_run_lengths, _, f_ordered_lengths, _, f_u_check_sum, _, f_u_word_from, _, f_words_by_lengths, _, f_words_in_order, _, f_free_code, _, f_ordered_code, _, f_lw_cell, _, f_lw_whole, _, f_lw_doubled, _, f_lw_weights, _, f_lw_least_bound, _, f_lw_word_of, _, f_lw_words, _, f_lw_apart, _, f_lw_spoiled, _, f_lw_good, _, f_lw_some, _, f_lw_read, _, f_lw_told, _, f_lw_turned, _, f_lw_row, _, f_lw_written, _, fa, _, C_CodeError, C_NoWeights, C_BadWeight, C_BadBound, C_NoRoom, C_BadLengths, C_BadWords, C_BadBits, C_NoSign, C_Reader, cL, PL⟩ := ⟨⟨PySem.W.mg_none_of X G z_ValueError, PySem.W.mg_none_of X G z_all, PySem.W.mg_none_of X G z_any, PySem.W.mg_none_of X G z_bool, PySem.W.mg_none_of X G z_enumerate, PySem.W.mg_none_of X G z_int, PySem.W.mg_none_of X G z_isinstance, PySem.W.mg_none_of X G z_len, PySem.W.mg_none_of X G z_list, PySem.W.mg_none_of X G z_max, PySem.W.mg_none_of X G z_min, PySem.W.mg_none_of X G z_range, PySem.W.mg_none_of X G z_sorted, PySem.W.mg_none_of X G z_str, PySem.W.mg_none_of X G z_sum, PySem.W.mg_none_of X G z_tuple, PySem.W.mg_none_of X G z_zip⟩,
    ⟨F_is_number, PySem.W.mg_of X G a_is_number, F_is_number.binds (ps := ["thing", "least", "most"]) fun _ _ _ _ _ _ us hl => match us, hl with | [_, _, _], _ => rfl⟩,
    ⟨F_is_bits, PySem.W.mg_of X G a_is_bits, F_is_bits.binds (ps := ["thing"]) fun _ _ _ _ _ _ us hl => match us, hl with | [_], _ => rfl⟩,
    ⟨F_check_bound, PySem.W.mg_of X G a_check_bound, F_check_bound.binds (ps := ["bound"]) fun _ _ _ _ _ _ us hl => match us, hl with | [_], _ => rfl⟩,
    ⟨F_check_weights, PySem.W.mg_of X G a_check_weights, F_check_weights.binds (ps := ["weights"]) fun _ _ _ _ _ _ us hl => match us, hl with | [_], _ => rfl⟩,
    ⟨F_check_lengths, PySem.W.mg_of X G a_check_lengths, F_check_lengths.binds (ps := ["lengths", "bound"]) fun _ _ _ _ _ _ us hl => match us, hl with | [_, _], _ => rfl⟩,
    ⟨F_check_words, PySem.W.mg_of X G a_check_words, F_check_words.binds (ps := ["words"]) fun _ _ _ _ _ _ us hl => match us, hl with | [_], _ => rfl⟩,
    ⟨F_check_row, PySem.W.mg_of X G a_check_row, F_check_row.binds (ps := ["row", "many"]) fun _ _ _ _ _ _ us hl => match us, hl with | [_, _], _ => rfl⟩,
    ⟨F_reader_init, F_reader_init.binds (ps := ["self", "words"]) fun _ _ _ _ _ _ us hl => match us, hl with | [_, _], _ => rfl⟩,
    ⟨mk_Reader, a_reader_init, i_reader_init, kc_Reader⟩,
    ⟨F_reader_take, F_reader_take.binds (ps := ["self", "bit"]) fun _ _ _ _ _ _ us hl => match us, hl with | [_, _], _ => rfl⟩,
    ⟨a_reader_take, i_reader_take, k_reader_take⟩,
    ⟨F_reader_held, F_reader_held.binds (ps := ["self"]) fun _ _ _ _ _ _ us hl => match us, hl with | [_], _ => rfl⟩,
    ⟨a_reader_held, i_reader_held, k_reader_held⟩,
    ⟨F_reader_done, F_reader_done.binds (ps := ["self"]) fun _ _ _ _ _ _ us hl => match us, hl with | [_], _ => rfl⟩,
    ⟨a_reader_done, i_reader_done, k_reader_done⟩,
    ⟨F_written, PySem.W.mg_of X G a_written, F_written.binds (ps := ["words", "row"]) fun _ _ _ _ _ _ us hl => match us, hl with | [_, _], _ => rfl⟩,
    ⟨F_read, PySem.W.mg_of X G a_read, F_read.binds (ps := ["words", "bits"]) fun _ _ _ _ _ _ us hl => match us, hl with | [_, _], _ => rfl⟩,
    ⟨F_places, PySem.W.mg_of X G a_places, F_places.binds (ps := ["length", "bound"]) fun _ _ _ _ _ _ us hl => match us, hl with | [_, _], _ => rfl⟩,
    ⟨F_room, PySem.W.mg_of X G a_room, F_room.binds (ps := ["bound"]) fun _ _ _ _ _ _ us hl => match us, hl with | [_], _ => rfl⟩,
    ⟨F_counted, PySem.W.mg_of X G a_counted, F_counted.binds (ps := ["lengths", "bound"]) fun _ _ _ _ _ _ us hl => match us, hl with | [_, _], _ => rfl⟩,
    ⟨F_barred, PySem.W.mg_of X G a_barred, F_barred.binds (ps := ["weights", "bound"]) fun _ _ _ _ _ _ us hl => match us, hl with | [_, _], _ => rfl⟩,
    ⟨F_check_room, PySem.W.mg_of X G a_check_room, F_check_room.binds (ps := ["weights", "bound"]) fun _ _ _ _ _ _ us hl => match us, hl with | [_, _], _ => rfl⟩,
    ⟨F_u_by_weight, PySem.W.mg_of X G a_u_by_weight, F_u_by_weight.binds (ps := ["packets"]) fun _ _ _ _ _ _ us hl => match us, hl with | [_], _ => rfl⟩,
    ⟨F_u_joined, PySem.W.mg_of X G a_u_joined, F_u_joined.binds (ps := ["one", "other"]) fun _ _ _ _ _ _ us hl => match us, hl with | [_, _], _ => rfl⟩,
    ⟨F_u_pairs, PySem.W.mg_of X G a_u_pairs, F_u_pairs.binds (ps := ["row"]) fun _ _ _ _ _ _ us hl => match us, hl with | [_], _ => rfl⟩,
    ⟨F_packet_rows, PySem.W.mg_of X G a_packet_rows, F_packet_rows.binds (ps := ["weights", "bound"]) fun _ _ _ _ _ _ us hl => match us, hl with | [_, _], _ => rfl⟩,
    ⟨F_free_lengths, PySem.W.mg_of X G a_free_lengths, F_free_lengths.binds (ps := ["weights", "bound"]) fun _ _ _ _ _ _ us hl => match us, hl with | [_, _], _ => rfl⟩,
    ⟨F_u_parted, PySem.W.mg_of X G a_u_parted, F_u_parted.binds (ps := ["table", "first", "middle", "last", "depth"]) fun _ _ _ _ _ _ us hl => match us, hl with | [_, _, _, _, _], _ => rfl⟩,
    ⟨F_u_best_part, PySem.W.mg_of X G a_u_best_part, F_u_best_part.binds (ps := ["table", "first", "last", "depth"]) fun _ _ _ _ _ _ us hl => match us, hl with | [_, _, _, _], _ => rfl⟩,
    ⟨F_u_least, PySem.W.mg_of X G a_u_least, F_u_least.binds (ps := ["weights", "table", "first", "last", "depth"]) fun _ _ _ _ _ _ us hl => match us, hl with | [_, _, _, _, _], _ => rfl⟩,
    ⟨F_least_table, PySem.W.mg_of X G a_least_table, F_least_table.binds (ps := ["weights", "bound"]) fun _ _ _ _ _ _ us hl => match us, hl with | [_, _], _ => rfl⟩,
    ⟨F_u_run_lengths, PySem.W.mg_of X G a_u_run_lengths, F_u_run_lengths.binds (ps := ["table", "first", "last", "depth"]) fun _ _ _ _ _ _ us hl => match us, hl with | [_, _, _, _], _ => rfl⟩,
    ⟨F_ordered_lengths, PySem.W.mg_of X G a_ordered_lengths, F_ordered_lengths.binds (ps := ["weights", "bound"]) fun _ _ _ _ _ _ us hl => match us, hl with | [_, _], _ => rfl⟩,
    ⟨F_u_check_sum, PySem.W.mg_of X G a_u_check_sum, F_u_check_sum.binds (ps := ["lengths"]) fun _ _ _ _ _ _ us hl => match us, hl with | [_], _ => rfl⟩,
    ⟨F_u_word_from, PySem.W.mg_of X G a_u_word_from, F_u_word_from.binds (ps := ["first", "length"]) fun _ _ _ _ _ _ us hl => match us, hl with | [_, _], _ => rfl⟩,
    ⟨F_words_by_lengths, PySem.W.mg_of X G a_words_by_lengths, F_words_by_lengths.binds (ps := ["lengths"]) fun _ _ _ _ _ _ us hl => match us, hl with | [_], _ => rfl⟩,
    ⟨F_words_in_order, PySem.W.mg_of X G a_words_in_order, F_words_in_order.binds (ps := ["lengths"]) fun _ _ _ _ _ _ us hl => match us, hl with | [_], _ => rfl⟩,
    ⟨F_free_code, PySem.W.mg_of X G a_free_code, F_free_code.binds (ps := ["weights", "bound"]) fun _ _ _ _ _ _ us hl => match us, hl with | [_, _], _ => rfl⟩,
    ⟨F_ordered_code, PySem.W.mg_of X G a_ordered_code, F_ordered_code.binds (ps := ["weights", "bound"]) fun _ _ _ _ _ _ us hl => match us, hl with | [_, _], _ => rfl⟩,
    ⟨F_lw_cell, PySem.W.mg_of X G a_lw_cell, F_lw_cell.binds (ps := ["_law_script", "_law_k"]) fun _ _ _ _ _ _ us hl => match us, hl with | [_, _], _ => rfl⟩,
    ⟨F_lw_whole, PySem.W.mg_of X G a_lw_whole, F_lw_whole.binds (ps := ["_law_found"]) fun _ _ _ _ _ _ us hl => match us, hl with | [_], _ => rfl⟩,
    ⟨F_lw_doubled, PySem.W.mg_of X G a_lw_doubled, F_lw_doubled.binds (ps := ["_law_times"]) fun _ _ _ _ _ _ us hl => match us, hl with | [_], _ => rfl⟩,
    ⟨F_lw_weights, PySem.W.mg_of X G a_lw_weights, F_lw_weights.binds (ps := ["_law_script", "_law_first", "_law_many", "_law_kind"]) fun _ _ _ _ _ _ us hl => match us, hl with | [_, _, _, _], _ => rfl⟩,
    ⟨F_lw_least_bound, PySem.W.mg_of X G a_lw_least_bound, F_lw_least_bound.binds (ps := ["_law_many"]) fun _ _ _ _ _ _ us hl => match us, hl with | [_], _ => rfl⟩,
    ⟨F_lw_word_of, PySem.W.mg_of X G a_lw_word_of, F_lw_word_of.binds (ps := ["_law_error"]) fun _ _ _ _ _ _ us hl => match us, hl with | [_], _ => rfl⟩,
    ⟨F_lw_words, PySem.W.mg_of X G a_lw_words, F_lw_words.binds (ps := ["_law_script", "_law_first"]) fun _ _ _ _ _ _ us hl => match us, hl with | [_, _], _ => rfl⟩,
    ⟨F_lw_apart, PySem.W.mg_of X G a_lw_apart, F_lw_apart.binds (ps := ["_law_words_here"]) fun _ _ _ _ _ _ us hl => match us, hl with | [_], _ => rfl⟩,
    ⟨F_lw_spoiled, PySem.W.mg_of X G a_lw_spoiled, F_lw_spoiled.binds (ps := ["_law_words_here", "_law_way", "_law_cell_here"]) fun _ _ _ _ _ _ us hl => match us, hl with | [_, _, _], _ => rfl⟩,
    ⟨F_lw_good, PySem.W.mg_of X G a_lw_good, F_lw_good.binds (ps := ["_law_words_here"]) fun _ _ _ _ _ _ us hl => match us, hl with | [_], _ => rfl⟩,
    ⟨F_lw_some, PySem.W.mg_of X G a_lw_some, F_lw_some.binds (ps := ["_law_script"]) fun _ _ _ _ _ _ us hl => match us, hl with | [_], _ => rfl⟩,
    ⟨F_lw_read, PySem.W.mg_of X G a_lw_read, F_lw_read.binds (ps := ["_law_words_here", "_law_bits"]) fun _ _ _ _ _ _ us hl => match us, hl with | [_, _], _ => rfl⟩,
    ⟨F_lw_told, PySem.W.mg_of X G a_lw_told, F_lw_told.binds (ps := ["_law_which", "_law_words_here", "_law_thing"]) fun _ _ _ _ _ _ us hl => match us, hl with | [_, _, _], _ => rfl⟩,
    ⟨F_lw_turned, PySem.W.mg_of X G a_lw_turned, F_lw_turned.binds (ps := ["_law_bits", "_law_cell_here"]) fun _ _ _ _ _ _ us hl => match us, hl with | [_, _], _ => rfl⟩,
    ⟨F_lw_row, PySem.W.mg_of X G a_lw_row, F_lw_row.binds (ps := ["_law_script", "_law_many"]) fun _ _ _ _ _ _ us hl => match us, hl with | [_, _], _ => rfl⟩,
    ⟨F_lw_written, PySem.W.mg_of X G a_lw_written, F_lw_written.binds (ps := ["_law_words_here", "_law_row_here"]) fun _ _ _ _ _ _ us hl => match us, hl with | [_, _], _ => rfl⟩,
    ⟨F_law, PySem.W.mg_of X G a_law, F_law.binds (ps := ["_law_script"]) fun _ _ _ _ _ _ us hl => match us, hl with | [_], _ => rfl⟩,
    ⟨⟨pg_Reader, hd_Reader, po_Reader, sa_Reader⟩, PySem.W.mg_of X G a_Reader⟩,
    na_Reader__signs,
    na_Reader__held,
    na_Reader__done,
    ⟨PySem.W.mg_of X G a_CodeError, x_CodeError, k_CodeError, b_CodeError, t_CodeError⟩,
    ⟨PySem.W.mg_of X G a_NoWeights, x_NoWeights, k_NoWeights, b_NoWeights, t_NoWeights⟩,
    ⟨PySem.W.mg_of X G a_BadWeight, x_BadWeight, k_BadWeight, b_BadWeight, t_BadWeight⟩,
    ⟨PySem.W.mg_of X G a_BadBound, x_BadBound, k_BadBound, b_BadBound, t_BadBound⟩,
    ⟨PySem.W.mg_of X G a_NoRoom, x_NoRoom, k_NoRoom, b_NoRoom, t_NoRoom⟩,
    ⟨PySem.W.mg_of X G a_BadLengths, x_BadLengths, k_BadLengths, b_BadLengths, t_BadLengths⟩,
    ⟨PySem.W.mg_of X G a_BadWords, x_BadWords, k_BadWords, b_BadWords, t_BadWords⟩,
    ⟨PySem.W.mg_of X G a_BadBits, x_BadBits, k_BadBits, b_BadBits, t_BadBits⟩,
    ⟨PySem.W.mg_of X G a_NoSign, x_NoSign, k_NoSign, b_NoSign, t_NoSign⟩,
    ⟨_, PySem.W.mg_of X G n_MOST_SIGNS, ⟨_, rfl⟩⟩,
    ⟨_, PySem.W.mg_of X G n_MOST_WEIGHT, ⟨_, rfl⟩⟩,
    ⟨_, PySem.W.mg_of X G n_MOST_BITS, ⟨_, rfl⟩⟩,
    q_u_by_weight,
    ⟨⟨e_BadWords_hg, e_BadWords_hk, e_BadWords_hs, e_BadWords_hd, e_BadWords_ha, x_hn, x_ht, e_BadWords_hm⟩, by decide +kernel, (kit_no i_NoWeights t_NoWeights e_BadWords_k1 e_BadWords_k6).trans (by decide +kernel), (kit_no i_BadWeight t_BadWeight e_BadWords_k2 e_BadWords_k6).trans (by decide +kernel), (kit_no i_BadBound t_BadBound e_BadWords_k3 e_BadWords_k6).trans (by decide +kernel), (kit_no i_NoRoom t_NoRoom e_BadWords_k4 e_BadWords_k6).trans (by decide +kernel), (kit_no i_BadLengths t_BadLengths e_BadWords_k5 e_BadWords_k6).trans (by decide +kernel), kit_self.trans (by decide +kernel), (kit_no i_BadBits t_BadBits e_BadWords_k7 e_BadWords_k6).trans (by decide +kernel), (kit_no i_NoSign t_NoSign e_BadWords_k8 e_BadWords_k6).trans (by decide +kernel), kit_VE e_BadWords_kV, PySem.W.exm_ref b_CodeError hd_CodeError t_CodeError e_BadWords_sub⟩,
    ⟨⟨e_BadBits_hg, e_BadBits_hk, e_BadBits_hs, e_BadBits_hd, e_BadBits_ha, x_hn, x_ht, e_BadBits_hm⟩, by decide +kernel, (kit_no i_NoWeights t_NoWeights e_BadBits_k1 e_BadBits_k7).trans (by decide +kernel), (kit_no i_BadWeight t_BadWeight e_BadBits_k2 e_BadBits_k7).trans (by decide +kernel), (kit_no i_BadBound t_BadBound e_BadBits_k3 e_BadBits_k7).trans (by decide +kernel), (kit_no i_NoRoom t_NoRoom e_BadBits_k4 e_BadBits_k7).trans (by decide +kernel), (kit_no i_BadLengths t_BadLengths e_BadBits_k5 e_BadBits_k7).trans (by decide +kernel), (kit_no i_BadWords t_BadWords e_BadBits_k6 e_BadBits_k7).trans (by decide +kernel), kit_self.trans (by decide +kernel), (kit_no i_NoSign t_NoSign e_BadBits_k8 e_BadBits_k7).trans (by decide +kernel), kit_VE e_BadBits_kV, PySem.W.exm_ref b_CodeError hd_CodeError t_CodeError e_BadBits_sub⟩,
    ⟨⟨e_NoSign_hg, e_NoSign_hk, e_NoSign_hs, e_NoSign_hd, e_NoSign_ha, x_hn, x_ht, e_NoSign_hm⟩, by decide +kernel, (kit_no i_NoWeights t_NoWeights e_NoSign_k1 e_NoSign_k8).trans (by decide +kernel), (kit_no i_BadWeight t_BadWeight e_NoSign_k2 e_NoSign_k8).trans (by decide +kernel), (kit_no i_BadBound t_BadBound e_NoSign_k3 e_NoSign_k8).trans (by decide +kernel), (kit_no i_NoRoom t_NoRoom e_NoSign_k4 e_NoSign_k8).trans (by decide +kernel), (kit_no i_BadLengths t_BadLengths e_NoSign_k5 e_NoSign_k8).trans (by decide +kernel), (kit_no i_BadWords t_BadWords e_NoSign_k6 e_NoSign_k8).trans (by decide +kernel), (kit_no i_BadBits t_BadBits e_NoSign_k7 e_NoSign_k8).trans (by decide +kernel), kit_self.trans (by decide +kernel), kit_VE e_NoSign_kV, PySem.W.exm_ref b_CodeError hd_CodeError t_CodeError e_NoSign_sub⟩⟩
  have C := PySem.W.codeHd_of_K X cH
  refine ⟨_, [(cL, PL)], spLaw K PL, fun p hp => ?_, fun p hp => ?_, fun p hp => ?_, fun s u => .of_eq rfl, fun H a ns hl _ hp hS => ⟨a, ns, rfl, hS, hl, LamX.TabS.nil (hp _ (List.mem_singleton.mpr rfl)), fun _ => rfl⟩, fun base _ _ TB => ok_law T (TB _ (List.mem_singleton.mpr rfl))⟩ <;> rw [List.mem_singleton.mp hp]
  · exact hP
  · exact nP
  · exact C
end Sl
open PySem PySem.W PyProof.Rows
set_option maxRecDepth 100000 in
set_option maxHeartbeats 0 in
theorem PySem.Challenge.cw_shortlimit_k14_whole_bits_read_holds : PySem.Challenge.rw_shortlimit_k14_whole_bits_read.Holds := by
  w_on; o_law; k_head; (case hw => w_witness2)
  k_fill
  refine LamX.walk_ofTs (l := PySem.Challenge.rw_shortlimit_k14_whole_bits_read) (n := 63) (k := 19) (x := "_law_script") (CX := fun _ => L2.CX0) rfl (by decide) rfl ⟨rfl, by decide, by decide⟩ (fun w h Y => PySem.W.km_in_of Y) ?F (fun _ _ _ _ _ h => h)
  case F =>
    intro w mg fa h Y KX G hmg
    have hT := PySem.W.km_tabs_of Y
    refine' Sl.all_mk KX G hmg ?a_CodeError ?x_CodeError ?k_CodeError ?b_CodeError ?t_CodeError ?a_NoWeights ?x_NoWeights ?k_NoWeights ?b_NoWeights ?t_NoWeights ?a_BadWeight ?x_BadWeight ?k_BadWeight ?b_BadWeight ?t_BadWeight ?a_BadBound ?x_BadBound ?k_BadBound ?b_BadBound ?t_BadBound ?a_NoRoom ?x_NoRoom ?k_NoRoom ?b_NoRoom ?t_NoRoom ?a_BadLengths ?x_BadLengths ?k_BadLengths ?b_BadLengths ?t_BadLengths ?a_BadWords ?x_BadWords ?k_BadWords ?b_BadWords ?t_BadWords ?a_BadBits ?x_BadBits ?k_BadBits ?b_BadBits ?t_BadBits ?a_NoSign ?x_NoSign ?k_NoSign ?b_NoSign ?t_NoSign ?a_Reader ?pg_Reader ?hd_Reader ?po_Reader ?sa_Reader ?mk_Reader ?kc_Reader ?na_Reader__signs ?na_Reader__held ?na_Reader__done ?a_is_number ?l_is_number ?c_is_number ?k_is_number ?a_is_bits ?l_is_bits ?c_is_bits ?k_is_bits ?a_check_bound ?l_check_bound ?c_check_bound ?k_check_bound ?a_check_weights ?l_check_weights ?c_check_weights ?k_check_weights ?a_check_lengths ?l_check_lengths ?c_check_lengths ?k_check_lengths ?a_check_words ?l_check_words ?c_check_words ?k_check_words ?a_check_row ?l_check_row ?c_check_row ?k_check_row ?a_reader_init ?i_reader_init ?l_reader_init ?c_reader_init ?k_reader_init ?a_reader_take ?i_reader_take ?l_reader_take ?c_reader_take ?k_reader_take ?a_reader_held ?i_reader_held ?l_reader_held ?c_reader_held ?k_reader_held ?a_reader_done ?i_reader_done ?l_reader_done ?c_reader_done ?k_reader_done ?a_written ?l_written ?c_written ?k_written ?a_read ?l_read ?c_read ?k_read ?a_places ?l_places ?c_places ?k_places ?a_room ?l_room ?c_room ?k_room ?a_counted ?l_counted ?c_counted ?k_counted ?a_barred ?l_barred ?c_barred ?k_barred ?a_check_room ?l_check_room ?c_check_room ?k_check_room ?a_u_by_weight ?l_u_by_weight ?c_u_by_weight ?k_u_by_weight ?a_u_joined ?l_u_joined ?c_u_joined ?k_u_joined ?a_u_pairs ?l_u_pairs ?c_u_pairs ?k_u_pairs ?a_packet_rows ?l_packet_rows ?c_packet_rows ?k_packet_rows ?a_free_lengths ?l_free_lengths ?c_free_lengths ?k_free_lengths ?a_u_parted ?l_u_parted ?c_u_parted ?k_u_parted ?a_u_best_part ?l_u_best_part ?c_u_best_part ?k_u_best_part ?a_u_least ?l_u_least ?c_u_least ?k_u_least ?a_least_table ?l_least_table ?c_least_table ?k_least_table ?a_u_run_lengths ?l_u_run_lengths ?c_u_run_lengths ?k_u_run_lengths ?a_ordered_lengths ?l_ordered_lengths ?c_ordered_lengths ?k_ordered_lengths ?a_u_check_sum ?l_u_check_sum ?c_u_check_sum ?k_u_check_sum ?a_u_word_from ?l_u_word_from ?c_u_word_from ?k_u_word_from ?a_words_by_lengths ?l_words_by_lengths ?c_words_by_lengths ?k_words_by_lengths ?a_words_in_order ?l_words_in_order ?c_words_in_order ?k_words_in_order ?a_free_code ?l_free_code ?c_free_code ?k_free_code ?a_ordered_code ?l_ordered_code ?c_ordered_code ?k_ordered_code ?a_lw_cell ?l_lw_cell ?c_lw_cell ?k_lw_cell ?a_lw_whole ?l_lw_whole ?c_lw_whole ?k_lw_whole ?a_lw_doubled ?l_lw_doubled ?c_lw_doubled ?k_lw_doubled ?a_lw_weights ?l_lw_weights ?c_lw_weights ?k_lw_weights ?a_lw_least_bound ?l_lw_least_bound ?c_lw_least_bound ?k_lw_least_bound ?a_lw_word_of ?l_lw_word_of ?c_lw_word_of ?k_lw_word_of ?a_lw_words ?l_lw_words ?c_lw_words ?k_lw_words ?a_lw_apart ?l_lw_apart ?c_lw_apart ?k_lw_apart ?a_lw_spoiled ?l_lw_spoiled ?c_lw_spoiled ?k_lw_spoiled ?a_lw_good ?l_lw_good ?c_lw_good ?k_lw_good ?a_lw_some ?l_lw_some ?c_lw_some ?k_lw_some ?a_lw_read ?l_lw_read ?c_lw_read ?k_lw_read ?a_lw_told ?l_lw_told ?c_lw_told ?k_lw_told ?a_lw_turned ?l_lw_turned ?c_lw_turned ?k_lw_turned ?a_lw_row ?l_lw_row ?c_lw_row ?k_lw_row ?a_lw_written ?l_lw_written ?c_lw_written ?k_lw_written ?a_law ?l_law ?c_law ?k_law ?n_MOST_SIGNS ?n_MOST_WEIGHT ?n_MOST_BITS ?z_ValueError ?z_all ?z_any ?z_bool ?z_enumerate ?z_int ?z_isinstance ?z_len ?z_list ?z_max ?z_min ?z_range ?z_sorted ?z_str ?z_sum ?z_tuple ?z_zip ?x_hn ?x_ht ?hd_CodeError ?i_NoSign ?i_BadBits ?i_BadWords ?i_BadLengths ?i_NoRoom ?i_BadBound ?i_BadWeight ?i_NoWeights ?e_BadWords_hg ?e_BadWords_hk ?e_BadWords_hs ?e_BadWords_hd ?e_BadWords_ha ?e_BadWords_hm ?e_BadWords_k1 ?e_BadWords_k2 ?e_BadWords_k3 ?e_BadWords_k4 ?e_BadWords_k5 ?e_BadWords_k6 ?e_BadWords_k7 ?e_BadWords_k8 ?e_BadWords_kV ?e_BadWords_sub ?e_BadBits_hg ?e_BadBits_hk ?e_BadBits_hs ?e_BadBits_hd ?e_BadBits_ha ?e_BadBits_hm ?e_BadBits_k1 ?e_BadBits_k2 ?e_BadBits_k3 ?e_BadBits_k4 ?e_BadBits_k5 ?e_BadBits_k6 ?e_BadBits_k7 ?e_BadBits_k8 ?e_BadBits_kV ?e_BadBits_sub ?e_NoSign_hg ?e_NoSign_hk ?e_NoSign_hs ?e_NoSign_hd ?e_NoSign_ha ?e_NoSign_hm ?e_NoSign_k1 ?e_NoSign_k2 ?e_NoSign_k3 ?e_NoSign_k4 ?e_NoSign_k5 ?e_NoSign_k6 ?e_NoSign_k7 ?e_NoSign_k8 ?e_NoSign_kV ?e_NoSign_sub ?q_u_by_weight ?hP ?nP ?cH
    (case a_CodeError => k_is)
    (case x_CodeError => k_exc)
    (case k_CodeError => k_is)
    (case b_CodeError => k_is)
    (case t_CodeError => k_is)
    (case a_NoWeights => k_is)
    (case x_NoWeights => k_exc)
    (case k_NoWeights => k_is)
    (case b_NoWeights => k_is)
    (case t_NoWeights => k_is)
    (case a_BadWeight => k_is)
    (case x_BadWeight => k_exc)
    (case k_BadWeight => k_is)
    (case b_BadWeight => k_is)
    (case t_BadWeight => k_is)
    (case a_BadBound => k_is)
    (case x_BadBound => k_exc)
    (case k_BadBound => k_is)
    (case b_BadBound => k_is)
    (case t_BadBound => k_is)
    (case a_NoRoom => k_is)
    (case x_NoRoom => k_exc)
    (case k_NoRoom => k_is)
    (case b_NoRoom => k_is)
    (case t_NoRoom => k_is)
    (case a_BadLengths => k_is)
    (case x_BadLengths => k_exc)
    (case k_BadLengths => k_is)
    (case b_BadLengths => k_is)
    (case t_BadLengths => k_is)
    (case a_BadWords => k_is)
    (case x_BadWords => k_exc)
    (case k_BadWords => k_is)
    (case b_BadWords => k_is)
    (case t_BadWords => k_is)
    (case a_BadBits => k_is)
    (case x_BadBits => k_exc)
    (case k_BadBits => k_is)
    (case b_BadBits => k_is)
    (case t_BadBits => k_is)
    (case a_NoSign => k_is)
    (case x_NoSign => k_exc)
    (case k_NoSign => k_is)
    (case b_NoSign => k_is)
    (case t_NoSign => k_is)
    (case a_Reader => k_is)
    (case pg_Reader => k_is)
    (case hd_Reader => k_is)
    (case po_Reader => k_is)
    (case sa_Reader => k_is)
    (case mk_Reader => k_is)
    (case kc_Reader => k_is)
    (case na_Reader__signs => k_is)
    (case na_Reader__held => k_is)
    (case na_Reader__done => k_is)
    (case a_is_number => k_is)
    (case l_is_number => k_is)
    (case c_is_number => k_is)
    (case k_is_number => k_is)
    (case a_is_bits => k_is)
    (case l_is_bits => k_is)
    (case c_is_bits => k_is)
    (case k_is_bits => k_is)
    (case a_check_bound => k_is)
    (case l_check_bound => k_is)
    (case c_check_bound => k_is)
    (case k_check_bound => k_is)
    (case a_check_weights => k_is)
    (case l_check_weights => k_is)
    (case c_check_weights => k_is)
    (case k_check_weights => k_is)
    (case a_check_lengths => k_is)
    (case l_check_lengths => k_is)
    (case c_check_lengths => k_is)
    (case k_check_lengths => k_is)
    (case a_check_words => k_is)
    (case l_check_words => k_is)
    (case c_check_words => k_is)
    (case k_check_words => k_is)
    (case a_check_row => k_is)
    (case l_check_row => k_is)
    (case c_check_row => k_is)
    (case k_check_row => k_is)
    (case a_reader_init => k_is)
    (case i_reader_init => k_is)
    (case l_reader_init => k_is)
    (case c_reader_init => k_is)
    (case k_reader_init => k_is)
    (case a_reader_take => k_is)
    (case i_reader_take => k_is)
    (case l_reader_take => k_is)
    (case c_reader_take => k_is)
    (case k_reader_take => k_is)
    (case a_reader_held => k_is)
    (case i_reader_held => k_is)
    (case l_reader_held => k_is)
    (case c_reader_held => k_is)
    (case k_reader_held => k_is)
    (case a_reader_done => k_is)
    (case i_reader_done => k_is)
    (case l_reader_done => k_is)
    (case c_reader_done => k_is)
    (case k_reader_done => k_is)
    (case a_written => k_is)
    (case l_written => k_is)
    (case c_written => k_is)
    (case k_written => k_is)
    (case a_read => k_is)
    (case l_read => k_is)
    (case c_read => k_is)
    (case k_read => k_is)
    (case a_places => k_is)
    (case l_places => k_is)
    (case c_places => k_is)
    (case k_places => k_is)
    (case a_room => k_is)
    (case l_room => k_is)
    (case c_room => k_is)
    (case k_room => k_is)
    (case a_counted => k_is)
    (case l_counted => k_is)
    (case c_counted => k_is)
    (case k_counted => k_is)
    (case a_barred => k_is)
    (case l_barred => k_is)
    (case c_barred => k_is)
    (case k_barred => k_is)
    (case a_check_room => k_is)
    (case l_check_room => k_is)
    (case c_check_room => k_is)
    (case k_check_room => k_is)
    (case a_u_by_weight => k_is)
    (case l_u_by_weight => k_is)
    (case c_u_by_weight => k_is)
    (case k_u_by_weight => k_is)
    (case a_u_joined => k_is)
    (case l_u_joined => k_is)
    (case c_u_joined => k_is)
    (case k_u_joined => k_is)
    (case a_u_pairs => k_is)
    (case l_u_pairs => k_is)
    (case c_u_pairs => k_is)
    (case k_u_pairs => k_is)
    (case a_packet_rows => k_is)
    (case l_packet_rows => k_is)
    (case c_packet_rows => k_is)
    (case k_packet_rows => k_is)
    (case a_free_lengths => k_is)
    (case l_free_lengths => k_is)
    (case c_free_lengths => k_is)
    (case k_free_lengths => k_is)
    (case a_u_parted => k_is)
    (case l_u_parted => k_is)
    (case c_u_parted => k_is)
    (case k_u_parted => k_is)
    (case a_u_best_part => k_is)
    (case l_u_best_part => k_is)
    (case c_u_best_part => k_is)
    (case k_u_best_part => k_is)
    (case a_u_least => k_is)
    (case l_u_least => k_is)
    (case c_u_least => k_is)
    (case k_u_least => k_is)
    (case a_least_table => k_is)
    (case l_least_table => k_is)
    (case c_least_table => k_is)
    (case k_least_table => k_is)
    (case a_u_run_lengths => k_is)
    (case l_u_run_lengths => k_is)
    (case c_u_run_lengths => k_is)
    (case k_u_run_lengths => k_is)
    (case a_ordered_lengths => k_is)
    (case l_ordered_lengths => k_is)
    (case c_ordered_lengths => k_is)
    (case k_ordered_lengths => k_is)
    (case a_u_check_sum => k_is)
    (case l_u_check_sum => k_is)
    (case c_u_check_sum => k_is)
    (case k_u_check_sum => k_is)
    (case a_u_word_from => k_is)
    (case l_u_word_from => k_is)
    (case c_u_word_from => k_is)
    (case k_u_word_from => k_is)
    (case a_words_by_lengths => k_is)
    (case l_words_by_lengths => k_is)
    (case c_words_by_lengths => k_is)
    (case k_words_by_lengths => k_is)
    (case a_words_in_order => k_is)
    (case l_words_in_order => k_is)
    (case c_words_in_order => k_is)
    (case k_words_in_order => k_is)
    (case a_free_code => k_is)
    (case l_free_code => k_is)
    (case c_free_code => k_is)
    (case k_free_code => k_is)
    (case a_ordered_code => k_is)
    (case l_ordered_code => k_is)
    (case c_ordered_code => k_is)
    (case k_ordered_code => k_is)
    (case a_lw_cell => k_is)
    (case l_lw_cell => k_is)
    (case c_lw_cell => k_is)
    (case k_lw_cell => k_is)
    (case a_lw_whole => k_is)
    (case l_lw_whole => k_is)
    (case c_lw_whole => k_is)
    (case k_lw_whole => k_is)
    (case a_lw_doubled => k_is)
    (case l_lw_doubled => k_is)
    (case c_lw_doubled => k_is)
    (case k_lw_doubled => k_is)
    (case a_lw_weights => k_is)
    (case l_lw_weights => k_is)
    (case c_lw_weights => k_is)
    (case k_lw_weights => k_is)
    (case a_lw_least_bound => k_is)
    (case l_lw_least_bound => k_is)
    (case c_lw_least_bound => k_is)
    (case k_lw_least_bound => k_is)
    (case a_lw_word_of => k_is)
    (case l_lw_word_of => k_is)
    (case c_lw_word_of => k_is)
    (case k_lw_word_of => k_is)
    (case a_lw_words => k_is)
    (case l_lw_words => k_is)
    (case c_lw_words => k_is)
    (case k_lw_words => k_is)
    (case a_lw_apart => k_is)
    (case l_lw_apart => k_is)
    (case c_lw_apart => k_is)
    (case k_lw_apart => k_is)
    (case a_lw_spoiled => k_is)
    (case l_lw_spoiled => k_is)
    (case c_lw_spoiled => k_is)
    (case k_lw_spoiled => k_is)
    (case a_lw_good => k_is)
    (case l_lw_good => k_is)
    (case c_lw_good => k_is)
    (case k_lw_good => k_is)
    (case a_lw_some => k_is)
    (case l_lw_some => k_is)
    (case c_lw_some => k_is)
    (case k_lw_some => k_is)
    (case a_lw_read => k_is)
    (case l_lw_read => k_is)
    (case c_lw_read => k_is)
    (case k_lw_read => k_is)
    (case a_lw_told => k_is)
    (case l_lw_told => k_is)
    (case c_lw_told => k_is)
    (case k_lw_told => k_is)
    (case a_lw_turned => k_is)
    (case l_lw_turned => k_is)
    (case c_lw_turned => k_is)
    (case k_lw_turned => k_is)
    (case a_lw_row => k_is)
    (case l_lw_row => k_is)
    (case c_lw_row => k_is)
    (case k_lw_row => k_is)
    (case a_lw_written => k_is)
    (case l_lw_written => k_is)
    (case c_lw_written => k_is)
    (case k_lw_written => k_is)
    (case a_law => k_is)
    (case l_law => k_is)
    (case c_law => k_is)
    (case k_law => k_is)
    (case n_MOST_SIGNS => k_is)
    (case n_MOST_WEIGHT => k_is)
    (case n_MOST_BITS => k_is)
    (case z_ValueError => k_is)
    (case z_all => k_is)
    (case z_any => k_is)
    (case z_bool => k_is)
    (case z_enumerate => k_is)
    (case z_int => k_is)
    (case z_isinstance => k_is)
    (case z_len => k_is)
    (case z_list => k_is)
    (case z_max => k_is)
    (case z_min => k_is)
    (case z_range => k_is)
    (case z_sorted => k_is)
    (case z_str => k_is)
    (case z_sum => k_is)
    (case z_tuple => k_is)
    (case z_zip => k_is)
    (case x_hn => k_is)
    (case x_ht => k_is)
    (case hd_CodeError => k_is)
    (case i_NoSign => k_is)
    (case i_BadBits => k_is)
    (case i_BadWords => k_is)
    (case i_BadLengths => k_is)
    (case i_NoRoom => k_is)
    (case i_BadBound => k_is)
    (case i_BadWeight => k_is)
    (case i_NoWeights => k_is)
    (case e_BadWords_hg => k_is)
    (case e_BadWords_hk => k_is)
    (case e_BadWords_hs => k_is)
    (case e_BadWords_hd => k_is)
    (case e_BadWords_ha => k_is)
    (case e_BadWords_hm => k_is)
    (case e_BadWords_k1 => first | rfl | k_is)
    (case e_BadWords_k2 => first | rfl | k_is)
    (case e_BadWords_k3 => first | rfl | k_is)
    (case e_BadWords_k4 => first | rfl | k_is)
    (case e_BadWords_k5 => first | rfl | k_is)
    (case e_BadWords_k6 => first | rfl | k_is)
    (case e_BadWords_k7 => first | rfl | k_is)
    (case e_BadWords_k8 => first | rfl | k_is)
    (case e_BadWords_kV => k_is)
    (case e_BadWords_sub => k_is)
    (case e_BadBits_hg => k_is)
    (case e_BadBits_hk => k_is)
    (case e_BadBits_hs => k_is)
    (case e_BadBits_hd => k_is)
    (case e_BadBits_ha => k_is)
    (case e_BadBits_hm => k_is)
    (case e_BadBits_k1 => first | rfl | k_is)
    (case e_BadBits_k2 => first | rfl | k_is)
    (case e_BadBits_k3 => first | rfl | k_is)
    (case e_BadBits_k4 => first | rfl | k_is)
    (case e_BadBits_k5 => first | rfl | k_is)
    (case e_BadBits_k6 => first | rfl | k_is)
    (case e_BadBits_k7 => first | rfl | k_is)
    (case e_BadBits_k8 => first | rfl | k_is)
    (case e_BadBits_kV => k_is)
    (case e_BadBits_sub => k_is)
    (case e_NoSign_hg => k_is)
    (case e_NoSign_hk => k_is)
    (case e_NoSign_hs => k_is)
    (case e_NoSign_hd => k_is)
    (case e_NoSign_ha => k_is)
    (case e_NoSign_hm => k_is)
    (case e_NoSign_k1 => first | rfl | k_is)
    (case e_NoSign_k2 => first | rfl | k_is)
    (case e_NoSign_k3 => first | rfl | k_is)
    (case e_NoSign_k4 => first | rfl | k_is)
    (case e_NoSign_k5 => first | rfl | k_is)
    (case e_NoSign_k6 => first | rfl | k_is)
    (case e_NoSign_k7 => first | rfl | k_is)
    (case e_NoSign_k8 => first | rfl | k_is)
    (case e_NoSign_kV => k_is)
    (case e_NoSign_sub => k_is)
    (case q_u_by_weight => rfl)
    (case hP => exact hT _ List.mem_cons_self)
    (case nP => first | rfl | k_is)
    (case cH => first | kernel_rfl | rfl | k_is)

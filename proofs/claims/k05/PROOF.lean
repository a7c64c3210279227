import PyProof.Rows.All
import Wide.All
import OpenK.AllK
import Wide.FinOn
import HandS.ForMost
import HandS.ForExc
import HandS.Evl
import HandS.IsInst
import HandS.FStr
import HandS.RaiseMore
import HandS.More
import HandS.Conv
import HandS.HotCalls
import HandS.ExcIs
import HandS.StrMore
import HandS.SortRule
import HandS.SortInts
import HandS.TupAny
import PySem.Challenge.RW_shortlimit_k05_words_in_order
set_option Elab.async false
set_option linter.all false
set_option maxRecDepth 100000
set_option maxHeartbeats 4000000
/-! ### own words over the hand layer: what more evaluates, and a search along a reading -/
namespace Sl
open PySem L2 Evl
theorem et_yes {σ : L2.St} {H : Hp} : EvT tYes σ H true := fun H1 _ _ q => q H1 (Ex.refl H1)
theorem ex_of {H H' : Hp} (e : Same H H') : Ex H H' := e
section
variable {K : PySem.W.Frag} {σ : L2.St} {H H' : Hp} {ta tb te tx tc : TE} {t u : TT} {x y z v : V}
/-- two lists joined: both operands new -/
theorem el_cat {xs ys : List V} (ha : EvL ta σ H xs) (hb : EvL tb σ H ys) (hl : xs.length + ys.length ≤ 100000) : EvL (tOp rCat ta tb) σ H (xs ++ ys) := fun H1 e Q q =>
  ha H1 e _ fun p H2 hp e2 h2 => hb H2 (e.trans e2) _ fun r H3 hr e3 h3 =>
    ⟨p, r, xs, ys, rfl, rfl, e3 p _ h2, h3, sz_of hl, fun l hl' => q l _ (fresh_back e2 (fresh_back e3 hl')) ((e2.trans e3).trans (Ex.new hl')) upd_same⟩
/-- a list of one repeated -/
theorem el_rep {xs : List V} {n : Nat} (ha : EvL ta σ H xs) (hb : Ev tb σ H (.int (n : Int))) (hl : xs.length * n ≤ 100000) (hn : n ≤ 100000) : EvL (tOp rRep ta tb) σ H (List.replicate n xs).flatten := fun H1 e Q q =>
  ha H1 e _ fun p H2 hp e2 h2 => hb H2 (e.trans e2) _ fun H3 e3 =>
    ⟨p, (n : Int), xs, rfl, rfl, e3 p _ h2, by omega, by omega, sz_of (by simpa using hl), fun l hl' => q l _ (fresh_back e2 (fresh_back e3 hl')) ((e2.trans e3).trans (Ex.new hl')) (by rw [upd_same]; simp)⟩
/-- a slice of a new list -/
theorem el_slN {xs : List V} {tl th : TO} {lo hi : Option Int} (h : EvL te σ H xs) (h1 : EvO tl σ H lo) (h2 : EvO th σ H hi) : EvL (tSl (rSlL K) te tl th) σ H (cutV xs lo hi) := fun H1 e Q q =>
  h H1 e _ fun a H2 ha e2 hx => h1 H2 (e.trans e2) _ fun H3 e3 => h2 H3 ((e.trans e2).trans e3) _ fun H4 e4 =>
    ⟨a, xs, rfl, sq_of (e4 a _ (e3 a _ hx)), fun p hp => q p _ (fresh_back ((e2.trans e3).trans e4) hp) (((e2.trans e3).trans e4).trans (Ex.new hp)) upd_same⟩
/-- a chain of two comparisons of whole numbers -/
theorem ev_chain {g g' : Int → Int → Bool} {i j k : Int} (ha : Ev ta σ H (.int i)) (hb : Ev tb σ H (.int j)) (hc : Ev tc σ H (.int k)) :
    Ev (tChain (rI0 fun i j => .bl (g i j)) (rI0 fun i j => .bl (g' i j)) ta tb tc) σ H (.bl (g i j && g' j k)) := fun H1 e Q q =>
  ha H1 e _ fun H2 e2 => hb H2 (e.trans e2) _ fun H3 e3 => ⟨i, j, rfl, rfl, g i j, rfl, by
    cases hg : g i j with
    | true =>
      rw [hg, Bool.true_and] at q
      show tc σ H3 _
      exact hc H3 ((e.trans e2).trans e3) _ fun H4 e4 => ⟨j, k, rfl, rfl, q H4 ((e2.trans e3).trans e4)⟩
    | false =>
      rw [hg, Bool.false_and] at q
      show Q (.bl false) H3
      exact q H3 (e2.trans e3)⟩
theorem ev_sum {ns : List Int} (h : EvL ta σ H (ns.map V.int)) : Ev (tCB (rSum K) (tCons ta tNil)) σ H (.int ns.sum) := fun H1 e Q q =>
  h H1 e _ fun a H2 _ e2 hx => ⟨a, ns, rfl, sq_of hx, q H2 e2⟩
theorem cutV_from1 (xs : List V) : cutV xs (some 1) none = xs.drop 1 := by
  unfold cutV
  rw [show HT.sIx xs.length 0 (some 1) = min 1 xs.length from HT.sIx_nat xs.length 0 1, HT.sIx_none]
  cases xs with
  | nil => rfl
  | cons x r =>
    simp
theorem cutV_to (xs : List V) (n : Nat) : cutV xs none (some (n : Int)) = xs.take n := by
  unfold cutV
  rw [HT.sIx_none, show HT.sIx xs.length xs.length (some (n : Int)) = min n xs.length from HT.sIx_nat xs.length _ n]
  simp
end
/-! ### what a thing handed in may be -/
def Thing (H : Hp) (x : V) : Prop := x = .non ∨ (∃ b, x = .bl b) ∨ (∃ i, x = .int i) ∨ (∃ s, x = .str s) ∨ ∃ a xs, x = .ref a ∧ (H a = some (.lst xs) ∨ H a = some (.tup xs))
theorem Thing.mono {H H' : Hp} {x : V} (e : Ex H H') (h : Thing H x) : Thing H' x := by
  rcases h with h | h | h | h | ⟨a, xs, h, g⟩
  · exact .inl h
  · exact .inr (.inl h)
  · exact .inr (.inr (.inl h))
  · exact .inr (.inr (.inr (.inl h)))
  · exact .inr (.inr (.inr (.inr ⟨a, xs, h, g.elim (fun g => .inl (e _ _ g)) fun g => .inr (e _ _ g)⟩)))
theorem Thing.int {H : Hp} (i : Int) : Thing H (.int i) := .inr (.inr (.inl ⟨i, rfl⟩))
def isBl : V → Bool
  | .bl _ => true
  | _ => false
def isNum : V → Bool
  | .bl _ => true
  | .int _ => true
  | _ => false
/-- a whole number from lo to hi -/
def within (lo hi : Int) : V → Bool
  | .int i => decide (lo ≤ i) && decide (i ≤ hi)
  | _ => false
theorem Thing.isi_bool {K : PySem.W.Frag} {H : Hp} {x : V} (h : Thing H x) : ∃ t, TyX K H x (.type t) ∧ PySem.W.kitOne K (.type t) (.type "bool") = some (isBl x) ∧ PySem.W.kitOne K (.type t) (.type "int") = some (isNum x) := by
  rcases h with rfl | ⟨b, rfl⟩ | ⟨i, rfl⟩ | ⟨s, rfl⟩ | ⟨a, xs, rfl, g | g⟩
  · exact ⟨_, .base .non, kit_ty (show kitB "NoneType" "bool" = some false by decide +kernel), kit_ty (show kitB "NoneType" "int" = some false by decide +kernel)⟩
  · exact ⟨_, .base (.bl _), kit_ty (show kitB "bool" "bool" = some true by decide +kernel), kit_ty (show kitB "bool" "int" = some true by decide +kernel)⟩
  · exact ⟨_, .base (.int _), kit_ty (show kitB "int" "bool" = some false by decide +kernel), kit_ty (show kitB "int" "int" = some true by decide +kernel)⟩
  · exact ⟨_, .base (.str _), kit_ty (show kitB "str" "bool" = some false by decide +kernel), kit_ty (show kitB "str" "int" = some false by decide +kernel)⟩
  · exact ⟨_, .base (.lst g), kit_ty (show kitB "list" "bool" = some false by decide +kernel), kit_ty (show kitB "list" "int" = some false by decide +kernel)⟩
  · exact ⟨_, .base (.tup g), kit_ty (show kitB "tuple" "bool" = some false by decide +kernel), kit_ty (show kitB "tuple" "int" = some false by decide +kernel)⟩
section
variable {K : PySem.W.Frag} {σ : L2.St} {H H' : Hp} {te : TE} {x : V}
theorem ev_isBool (h : Ev te σ H x) (k : Thing H x) : Ev (tCB (rIsi K) (tCons te (tCons (tC (.ty "bool")) tNil))) σ H (.bl (isBl x)) := fun H1 e Q q =>
  h H1 e _ fun H2 e2 => by
    obtain ⟨t, h1, h2, _⟩ := (k.mono (e.trans e2)).isi_bool (K := K)
    exact ⟨x, .ty "bool", _, _, _, rfl, .ty _, h1, h2, q H2 e2⟩
theorem ev_isInt (h : Ev te σ H x) (k : Thing H x) : Ev (tCB (rIsi K) (tCons te (tCons (tC (.ty "int")) tNil))) σ H (.bl (isNum x)) := fun H1 e Q q =>
  h H1 e _ fun H2 e2 => by
    obtain ⟨t, h1, _, h2⟩ := (k.mono (e.trans e2)).isi_bool (K := K)
    exact ⟨x, .ty "int", _, _, _, rfl, .ty _, h1, h2, q H2 e2⟩
end
/-! ### data compared -/
section
variable {K : PySem.W.Frag} {σ : L2.St} {H H' : Hp} {ta tb : TE} {x y : V}
theorem lay_all {n : Nat} : ∀ {xs : List PyData}, (∀ d ∈ xs, d.canLay0 = true ∧ d.depth ≤ n) → PyData.canLayAll0 xs = true ∧ PyData.depthAll xs ≤ n
  | [], _ => ⟨rfl, Nat.zero_le _⟩
  | d :: r, h => by
    have h1 := h d List.mem_cons_self
    have h2 := lay_all fun z hz => h z (List.mem_cons_of_mem _ hz)
    refine ⟨?_, ?_⟩
    · unfold PyData.canLayAll0
      rw [h1.1, h2.1]
      rfl
    · unfold PyData.depthAll
      exact Nat.max_le.mpr ⟨h1.2, h2.2⟩
theorem shaped_list {xs : List PyData} (h : ∀ d ∈ xs, d.canLay0 = true ∧ d.depth ≤ 60) : SeqAt.shaped (.list xs) = true := by
  have k := lay_all h
  unfold SeqAt.shaped PyData.canLay0 PyData.depth
  rw [k.1, decide_eq_true (show PyData.depthAll xs + 1 ≤ 64 by have := k.2; omega)]
  rfl
theorem shaped_tuple {xs : List PyData} (h : ∀ d ∈ xs, d.canLay0 = true ∧ d.depth ≤ 60) : SeqAt.shaped (.tuple xs) = true := by
  have k := lay_all h
  unfold SeqAt.shaped PyData.canLay0 PyData.depth
  rw [k.1, decide_eq_true (show PyData.depthAll xs + 1 ≤ 64 by have := k.2; omega)]
  rfl
theorem dpAll_map {α : Type} {f : α → V} {g : α → PyData} : ∀ {xs : List α}, (∀ z ∈ xs, Dp K H (f z) (g z)) → DpAll K H (xs.map f) (xs.map g)
  | [], _ => .nil
  | z :: r, h => .cons (h z List.mem_cons_self) (dpAll_map fun w hw => h w (List.mem_cons_of_mem _ hw))
mutual
theorem dp_mono (e : Ex H H') : ∀ (d : PyData) (v : V), Dp K H v d → Dp K H' v d
  | .none, _, h => by cases h; exact .non
  | .bool _, _, h => by cases h; exact .bl _
  | .int _, _, h => by cases h; exact .int _
  | .str _, _, h => by cases h; exact .str _
  | .list ds, _, h => by
    cases h with
    | lst hs ha => exact .lst (ex_l e hs) (dp_monoAll e ds _ ha)
  | .tuple ds, _, h => by
    cases h with
    | tup hs ha => exact .tup (ex_t e hs) (dp_monoAll e ds _ ha)
  | .dict _, _, h => by cases h
theorem dp_monoAll (e : Ex H H') : ∀ (ds : List PyData) (vs : List V), DpAll K H vs ds → DpAll K H' vs ds
  | [], _, h => by cases h; exact .nil
  | d :: ds, _, h => by
    cases h with
    | cons h1 h2 => exact .cons (dp_mono e d _ h1) (dp_monoAll e ds _ h2)
end
theorem dp_ints {a : Addr} {ns : List Int} (h : SqL K H a (ns.map V.int)) : Dp K H (.ref a) (.list (ns.map PyData.int)) := .lst h (dpAll_map fun _ _ => .int _)
theorem shaped_ints (ns : List Int) : SeqAt.shaped (.list (ns.map PyData.int)) = true := shaped_list fun d hd => by
  obtain ⟨i, _, rfl⟩ := List.mem_map.mp hd
  exact ⟨rfl, Nat.zero_le _⟩
theorem eqv_same {d : PyData} (h : SeqAt.shaped d = true) : PyData.eqv d d = true := SeqAt.eqv_refl d (Bool.and_eq_true_iff.mp h).1
theorem ev_eqD {d e : PyData} (ha : Ev ta σ H x) (hb : Ev tb σ H y) (hd : Dp K H x d) (he : Dp K H y e) (sd : SeqAt.shaped d = true) (se : SeqAt.shaped e = true) : Ev (tOp (rEqD K) ta tb) σ H (.bl (PyData.eqv d e)) := fun H1 g Q q =>
  ha H1 g _ fun H2 e2 => hb H2 (g.trans e2) _ fun H3 e3 => ⟨d, e, dp_mono ((g.trans e2).trans e3) d _ hd, dp_mono ((g.trans e2).trans e3) e _ he, sd, se, q H3 (e2.trans e3)⟩
theorem ev_neD {d e : PyData} (ha : Ev ta σ H x) (hb : Ev tb σ H y) (hd : Dp K H x d) (he : Dp K H y e) (sd : SeqAt.shaped d = true) (se : SeqAt.shaped e = true) : Ev (tOp (rNeD K) ta tb) σ H (.bl (!PyData.eqv d e)) := fun H1 g Q q =>
  ha H1 g _ fun H2 e2 => hb H2 (g.trans e2) _ fun H3 e3 => ⟨d, e, dp_mono ((g.trans e2).trans e3) d _ hd, dp_mono ((g.trans e2).trans e3) e _ he, sd, se, q H3 (e2.trans e3)⟩
end
end Sl

/-! ### a whole number's binary text: f'{n:b}' -/
namespace Sl
open PySem PySem.W PySem.Calls PyProof.Rows Builtin Builtin.Str Builtin.Int Builtin.Float
/-- the signs of a number's binary text -/
def binCps (n : Nat) : List Nat := (Nat.toDigits 2 n).map Char.toNat
def binText (n : Nat) : PySem.Str := ⟨(binCps n).toArray⟩
theorem spec_b : parseFormatSpec (PySem.Str.ofString "b").cps.toList "int" 62 = .ok { align := 62, type := some 98 } := by rfl
section
variable {prog : Program} {w : World} {A : Around} {E : Value → Shared → Prop} {s : Shared} {t : Tok} {a : Int}
theorem txt_of {M : Model} {A : Around} {E : Value → Shared → Prop} {s : Shared} {X T : PySem.Str} {Q : Value → Shared → Prop} (e : X = T) (hL : T.length ≤ sizeLine) (h : ∀ t k, Q (.str T t) { s with toks := k }) : wpAny M A (mkStr X) Q E s := by
  subst e
  exact wpAny_mkStr (h _ _) hL
theorem field_b {Q : Value → Shared → Prop} (hd : decide (a < 0) = false) (c : Nat) (cs : List Nat) (hl : binCps a.natAbs = c :: cs) (hz : (binText a.natAbs).length ≤ sizeLine) (h : ∀ t' k, Q (.str (binText a.natAbs) t') { s with toks := k }) : wpAny (model prog w) A (formatField (.int a t) (PySem.Str.ofString "b")) Q E s := by
  refine KXf.field_int (spec' := PySem.Str.ofString "b") rfl (by decide +kernel) (by decide +kernel) ?g h
  intro _
  apply KPc.meets_of
  intro _ _ _ _ _ _ hq
  unfold Builtin.«int.__format__»
  refine wpAny_bind (wpAny_of_eq (a := (_, _)) rfl ?_)
  refine wpAny_bind (wpAny_of_eq (a := _) rfl ?_)
  refine wpAny_ite (KPc.ite_no Bool.false_ne_true ?_)
  refine wpAny_bind (wpAny_typeNameOf (T := "str") (typeIs_str _ _ _) (by decide) fun _ => ?_)
  refine wpAny_bind (wpAny_of_eq (a := some _) rfl ?_)
  refine wpAny_ite (KPc.ite_no (by decide +kernel) ?_)
  refine wpAny_ite (KPc.ite_no (by decide +kernel) ?_)
  refine wpAny_bind (wpAny_typeNameOfCut_int ?_)
  rw [spec_b]
  refine wpAny_ite (KPc.ite_yes (by decide +kernel) ?_)
  conv => arg 3; whnf
  rw [hd]
  generalize hds : List.map _ (Nat.toDigits 2 a.natAbs) = ds
  have e : ds = c :: cs := by rw [← hds, ← hl]; rfl
  subst e
  refine wpAny_bind (txt_of (T := binText a.natAbs) ?e hz fun t' k => wpAny_pure (hq t' k))
  unfold binText
  rw [hl]
  conv => lhs; whnf
  simp
  omega
end
end Sl
namespace Sl
open PySem PySem.Spec PyProof.Rows L2 Evl
theorem digit_code {d : Nat} (h : d < 2) : (Nat.digitChar d).toNat = 48 + d := by
  have k : d = 0 ∨ d = 1 := by omega
  rcases k with rfl | rfl <;> rfl
theorem binCps_small {n : Nat} (h : n < 2) : binCps n = [48 + n] := by
  unfold binCps
  rw [Nat.toDigits_of_lt_base h]
  show [(Nat.digitChar n).toNat] = _
  rw [digit_code h]
theorem binCps_step {n : Nat} (h : 2 ≤ n) : binCps n = binCps (n / 2) ++ [48 + n % 2] := by
  unfold binCps
  rw [Nat.toDigits_of_base_le (by decide) h, List.map_append]
  show _ ++ [(Nat.digitChar (n % 2)).toNat] = _
  rw [digit_code (Nat.mod_lt _ (by decide))]
theorem binCps_ne (n : Nat) : ∃ c cs, binCps n = c :: cs := by
  cases e : binCps n with
  | nil =>
    have z : Nat.toDigits 2 n = [] := List.map_eq_nil_iff.mp e
    exact absurd z Nat.toDigits_ne_nil
  | cons c cs => exact ⟨c, cs, rfl⟩
section
variable {X : Cx}
def tFmtB (te : TE) : TE := fun σ H Q => te σ H fun x H1 => ∃ n : Nat, x = .int (n : Int) ∧ (binCps n).length ≤ 100000 ∧ Q (.str (binText n)) H1
theorem pe_fmtb {e : Expr} {te : TE} {k : Nat} {p1 p2 pos : Pos} (he : PE X e te) : PE X (.FormattedValue e (-1) (some (.JoinedStr [.Constant (.str (Str.ofString "b")) k p1] p2)) pos) (tFmtB te) := by
  refine ⟨fun pins s σ H Q I h => ?_⟩
  refine wpAny_FormattedValue_spec (thn (he.run pins s σ H _ I h) fun v s1 hv => ?_)
  obtain ⟨x, H1, I1, r1, n, rfl, hz, q⟩ := hv
  obtain ⟨tk, rfl⟩ := r1
  have hs : PE X (.JoinedStr [.Constant (.str (Str.ofString "b")) k p1] p2) (tC (.str (Str.ofString "b"))) := pe_joined1 pe_str
  refine thn (hs.run pins s1 σ H1 (fun y H2 => y = .str (Str.ofString "b") ∧ H2 = H1) I1 ⟨rfl, rfl⟩) fun r s2 hr => ?_
  obtain ⟨y, H2, I2, r2, rfl, rfl⟩ := hr
  obtain ⟨t2, rfl⟩ := r2
  obtain ⟨c, cs, hc⟩ := binCps_ne n
  refine ⟨_, _, rfl, field_b (a := (n : Int)) (decide_eq_false (by omega)) c cs hc ?_ fun t' k' => ?_⟩
  · show (binCps n).toArray.size ≤ sizeLine
    rw [List.size_toArray]
    exact sz_of hz
  · exact ⟨.str (binText n), H2, I2.tok _, ⟨_, rfl⟩, q⟩
end
end Sl

/-! ### bits of a number, most significant first -/
namespace Sl
open PySem
/-- k signs 0, 1 (as codes) of n's last k bits -/
def bits (n : Nat) : Nat → List Nat
  | 0 => []
  | k + 1 => bits (n / 2) k ++ [48 + n % 2]
theorem bits_len (k : Nat) : ∀ n, (bits n k).length = k := by
  induction k with
  | zero => intro n; rfl
  | succ k ih => intro n; unfold bits; rw [List.length_append, ih]; rfl
theorem bits_zero (k : Nat) : bits 0 k = List.replicate k 48 := by
  induction k with
  | zero => rfl
  | succ k ih =>
    unfold bits
    rw [show 0 / 2 = 0 from rfl, ih, List.replicate_succ']
theorem bits_take (a : Nat) : ∀ (b n : Nat), (bits n (a + b)).take a = bits (n / 2 ^ b) a := by
  intro b
  induction b with
  | zero =>
    intro n
    rw [Nat.add_zero, Nat.pow_zero, Nat.div_one, List.take_of_length_le (Nat.le_of_eq (bits_len a n))]
  | succ b ih =>
    intro n
    show (bits (n / 2) (a + b) ++ [48 + n % 2]).take a = _
    rw [List.take_append_of_le_length (by rw [bits_len]; omega), ih, Nat.div_div_eq_div_mul, Nat.pow_succ, Nat.mul_comm]
theorem bits_inj (k : Nat) : ∀ {n m : Nat}, n < 2 ^ k → m < 2 ^ k → bits n k = bits m k → n = m := by
  induction k with
  | zero => intro n m hn hm _; rw [Nat.pow_zero] at hn hm; omega
  | succ k ih =>
    intro n m hn hm h
    unfold bits at h
    have h1 := List.append_inj' h rfl
    have h2 : n % 2 = m % 2 := by
      have := List.cons.inj h1.2
      omega
    have h3 := ih (n := n / 2) (m := m / 2) (by rw [Nat.pow_succ] at hn; omega) (by rw [Nat.pow_succ] at hm; omega) h1.1
    omega
theorem bits_mod (k : Nat) : ∀ n, bits n k = bits (n % 2 ^ k) k := by
  induction k with
  | zero => intro n; rfl
  | succ k ih =>
    intro n
    unfold bits
    have e1 : n % 2 ^ (k + 1) % 2 = n % 2 := by
      rw [Nat.pow_succ, Nat.mul_comm, Nat.mod_mul_right_mod]
    have e2 : n % 2 ^ (k + 1) / 2 = n / 2 % 2 ^ k := by
      rw [Nat.pow_succ, Nat.mul_comm, Nat.mod_mul_right_div_self]
    rw [e1, e2, ← ih]
theorem bits_mem {c : Nat} : ∀ {k n : Nat}, c ∈ bits n k → c = 48 ∨ c = 49 := by
  intro k
  induction k with
  | zero => intro n h; cases h
  | succ k ih =>
    intro n h
    unfold bits at h
    rcases List.mem_append.mp h with h | h
    · exact ih h
    · have := List.mem_singleton.mp h
      omega
end Sl

/-! ### f'{n:b}'.zfill(12) -/
namespace Sl
open PySem PySem.Spec PyProof.Rows L2 Evl
theorem pad_bits (k : Nat) : ∀ n, 1 ≤ k → n < 2 ^ k → (binCps n).length ≤ k ∧ List.replicate (k - (binCps n).length) 48 ++ binCps n = bits n k := by
  induction k with
  | zero => intro n h; omega
  | succ k ih =>
    intro n _ hn
    by_cases h : n < 2
    · rw [binCps_small h]
      refine ⟨by show 1 ≤ k + 1; omega, ?_⟩
      show List.replicate (k + 1 - 1) 48 ++ [48 + n] = bits (n / 2) k ++ [48 + n % 2]
      rw [show n / 2 = 0 by omega, show n % 2 = n by omega, bits_zero, Nat.add_sub_cancel]
    · have hk : 1 ≤ k := by
        rcases Nat.eq_zero_or_pos k with e | e
        · subst e; rw [Nat.pow_succ, Nat.pow_zero] at hn; omega
        · exact e
      obtain ⟨h1, h2⟩ := ih (n / 2) hk (by rw [Nat.pow_succ] at hn; omega)
      rw [binCps_step (by omega), List.length_append]
      refine ⟨by show _ + 1 ≤ k + 1; omega, ?_⟩
      show List.replicate (k + 1 - ((binCps (n / 2)).length + 1)) 48 ++ (binCps (n / 2) ++ [48 + n % 2]) = bits (n / 2) k ++ [48 + n % 2]
      rw [← List.append_assoc, show k + 1 - ((binCps (n / 2)).length + 1) = k - (binCps (n / 2)).length by omega, h2]
theorem binCps_head {n c : Nat} {cs : List Nat} (h : binCps n = c :: cs) : c = 48 ∨ c = 49 := by
  have k : ∀ m : Nat, ∀ d ∈ binCps m, d = 48 ∨ d = 49 := by
    intro m
    induction m using Nat.strongRecOn with
    | ind m ih =>
      intro d hd
      by_cases hm : m < 2
      · rw [binCps_small hm] at hd
        have := List.mem_singleton.mp hd
        omega
      · rw [binCps_step (by omega)] at hd
        rcases List.mem_append.mp hd with hd | hd
        · exact ih (m / 2) (by omega) d hd
        · have := List.mem_singleton.mp hd
          omega
  exact k n c (by rw [h]; exact List.mem_cons_self)
/-- a text by its codes -/
def tx (l : List Nat) : Str := ⟨l.toArray⟩
theorem tx_len (l : List Nat) : (tx l).length = l.length := by
  show l.toArray.size = _
  rw [List.size_toArray]
theorem tx_cps (l : List Nat) : (tx l).cps.toList = l := rfl
theorem zfill_bin {n : Nat} (h : n < 2 ^ 12) : Txt.zfill (binText n) 12 = tx (bits n 12) := by
  obtain ⟨h1, h2⟩ := pad_bits 12 n (by decide) h
  have el : (binText n).length = (binCps n).length := tx_len _
  unfold Txt.zfill
  by_cases hle : (12 : Int) ≤ ((binText n).length : Nat)
  · rw [if_pos hle]
    have e0 : 12 - (binCps n).length = 0 := by
      rw [el] at hle
      omega
    rw [e0] at h2
    show tx (binCps n) = _
    rw [← h2]
    rfl
  · rw [if_neg hle]
    obtain ⟨c, cs, hc⟩ := binCps_ne n
    have ec : (binText n).cps[0]? = some c := by
      show (binCps n).toArray[0]? = _
      rw [hc]
      rfl
    have hz : zfilled (binText n) ((12 : Int).toNat - (binText n).length) = Builtin.Str.padded (binText n) ((12 : Int).toNat - (binText n).length) 0 48 := by
      unfold zfilled
      rw [ec]
      rcases binCps_head hc with e | e <;> rw [e] <;> rfl
    rw [hz, el]
    show Builtin.Str.padded (binText n) (12 - (binCps n).length) 0 48 = _
    unfold Builtin.Str.padded
    rw [← h2]
    unfold tx binText
    simp
end Sl

/-! ### a def that is called within an except suite and looks at the error that is held there -/
namespace Sl
open PySem PySem.Spec PyProof.Rows L2 Evl L2H
/-- a promise that may hang on the held error: its address and its class -/
abbrev SpE := Addr → Value → Sp
structure FnE (P : Program) (w : World) (K : PySem.W.Frag) (mg : Str → Option Value) (base : Heap) (k : Nat) (f : Addr) (fd : FuncData) (ps : List Str) (sp : SpE) : Prop where
  len : ∀ a c vs H Q E, sp a c vs H Q E → vs.length = ps.length
  run : ∀ (A : Around) (outer : List Env) (s : Shared) (H : Hp) (args : Args) (us : List Value) (vs : List V) (Q : VK) (E : XK) (p : Addr × Obj) (c : Value), RoomH k A → PinOk outer H s p → Zc c none p.2 → (∃ fs, p.2.data = .fields fs) →
    Env0 P w K mg base A outer s H → BindsTo s fd args (ps.zip us) → Vals vs us → sp p.1 c vs H Q E → codeAny (model P w) A (.call (.ref f) args) (CR CX0 outer P w H s Q E) s
theorem kind_of {h : Heap} {scope : Scope} {N ps : List Str} {us : List Value} (S : FnScope N ps scope) : ∀ y ∈ ps.zip us, scope.names.lookup y.1 = some .local ∨ (scope.names.lookup y.1 = some .cell ∧ ((cellsFrom (h.objs.size + 1) scope.names []).lookup y.1).isSome = true) := by
  rintro ⟨n, v⟩ hy
  rcases S.par n (List.of_mem_zip hy).1 with q | q
  · exact .inl q
  · exact .inr ⟨q, PySem.W.cellsFrom_some _ _ _ (.inl q)⟩
section
variable {P : Program} {w : World} {K : PySem.W.Frag} {mg : Str → Option Value} {base : Heap}
/-- such a def, by its body -/
theorem fnE_of {x qual : Str} {st : Stmt} {f : Addr} {fd : FuncData} {N ps : List Str} {k : Nat} {sp : SpE} (F : Fun K x qual st f fd) (S : FnScope N ps (defScope st)) (len : ∀ a c vs H Q E, sp a c vs H Q E → vs.length = ps.length)
    (hbody : ∀ (cdv : Value) (A : Around) (outer : List Env) (s : Shared) (H : Hp) (vs : List V) (Q : VK) (E : XK) (p : Addr × Obj) (c : Value), Zc c none p.2 → (∃ fs, p.2.data = .fields fs) → RoomH k (A.deeper (envOfC qual (defScope st) s.heap.objs.size f cdv)) → sp p.1 c vs H Q E →
      ∃ t, PSs (cxH CX0 P w K mg base N qual (defScope st) f cdv A outer s H E p) (defBody st) t ∧ t { nx := fun _ H' => Q .non H', rt := Q } (L2.start N vs) H) : FnE P w K mg base (k + 1) f fd ps sp := by
  obtain ⟨oc, od, kV, doc, pm, an, cdv, ct, osl, rfl, lk, hcd⟩ := F.ex
  refine ⟨len, fun A outer s H args us vs Q E p c hr hpin hz hf e0 hb r hsp => ?_⟩
  have KX : K.In s.heap := e0.mod.kin.keeps fun b o e => (e0.bs b o e).1
  have lim := e0.mod.nolimit.keeps fun b o e => (e0.bs b o e).1
  refine codeAny_call_function hr.depth (KX _ _ lk) rfl S.co S.gen rfl (PySem.W.codeRec_of KX hcd) (hb _ _ _ _ ?_)
  refine wpAny_newFunctionEnv_cells S.kind (kind_of S) fun env he s1 i1 => ?_
  subst he
  refine ⟨lim.keeps i1.toInCall.keep, codeAny_func ?_⟩
  obtain ⟨t, ht, hq⟩ := hbody cdv A outer s H vs Q E p c hz hf (hr.deeper _) hsp
  have I := inv_startH (CX := CX0) (f := f) (cd := cdv) (E := E) S hpin e0 (len _ _ _ _ _ _ hsp) r i1
  refine wpAny_mono (ht.run [] s1 _ H _ I hq) (fun fl s' hs => ?_) fun e s' hs => hs
  cases fl with
  | ret u =>
    obtain ⟨v, σ', H', J, rv, q⟩ := hs
    exact (⟨v, H', J.os, J.bare, J.base, J.hok, rv, q⟩ : CE outer P w H s Q u s')
  | next =>
    obtain ⟨σ', H', J, q⟩ := hs
    exact (⟨.non, H', J.os, J.bare, J.base, J.hok, rfl, q⟩ : CE outer P w H s Q .none s')
  | brk => exact hs.elim fun _ z => z.elim fun _ z => z.2.elim
  | cont => exact hs.elim fun _ z => z.elim fun _ z => z.2.elim
end
section
variable {X : Cx} {k : Nat} {f : Addr} {fd : FuncData} {ps : List Str} {sp : SpE} {E : L2.St → XK} {x : Str} {q pos : Pos} {e : Expr} {es : List Expr} {ta : TE} {t : TA}
/-- its call, within the suite that holds p -/
theorem pe_callE (F : FnE X.prog X.w X.K X.mg X.base k f fd ps sp) (hr : RoomH k X.A) {p : Addr × Obj} {c : Value} (hp : p ∈ X.pn) (hz : Zc c none p.2) (hf : ∃ fs, p.2.data = .fields fs) (hg : Gl X x) (hm : X.mg x = some (.ref f)) (hk : PySem.W.keepIn X.K (.ref f) = true)
    (hb : Binds X.K fd ps []) (ha : PA X (e :: es) t) (hdb : (x == ("__debug__" : Str)) = false := by decide) (he : starEach (e :: es) X.env = (false, eval e X.env) :: starEach es X.env := by rfl) (hpl : (backTo pos (starEach es X.env)).any (·.1) = false := by rfl) :
    PE X (.Call (.Name x q) (e :: es) [] pos) (tCall (sp p.1 c) [] E0 t) := by
  refine ⟨fun pins s σ H Q I h => ?_⟩
  refine wpAny_Call_Name_kw (ld_glob I hg hm ?_ hdb)
  refine PySem.W.callWith_K (h₀ := X.base) I.ok.mod.kin hk (thn (ha.run pos pins s σ H _ I h) fun us s1 hu => ?_) he hpl
  obtain ⟨vs, H1, I1, r, qq⟩ := hu
  refine ⟨I1.kIn, ?_⟩
  have qq' : sp p.1 c vs H1 Q E0 := by rw [List.append_nil] at qq; exact qq
  have hl : us.length = ps.length := by rw [← r.length]; exact F.len _ _ _ _ _ _ qq'
  have b := hb s1 us I1.kIn (by rw [List.append_nil]; exact hl)
  rw [List.append_nil] at b
  have P1 := I1.pin p (List.mem_append_left _ hp)
  have hpin : PinOk X.stack H1 s1 p := ⟨P1.1, P1.2.1, fun hm => (List.mem_cons.mp (I1.stkSub p.1 hm)).elim P1.2.2.1 P1.2.2.2.1, P1.2.2.2.2⟩
  refine wpAny_call (codeAny_mono (F.run X.A X.stack s1 H1 ⟨us, []⟩ us vs Q E0 p c hr hpin hz hf I1.env0 b r qq') fun r s' hq => ?_)
  cases r with
  | error e => exact hq.elim
  | ok fl =>
    cases fl with
    | ret u => exact I1.after hq
    | next => exact False.elim hq
    | brk => exact False.elim hq
    | cont => exact False.elim hq
/-- isinstance(e, c), e the error that the context bears -/
def rIsP (K : PySem.W.Frag) (a : Addr) (d : Value) : List V → Hp → VK → Prop := fun xs H Q => ∃ (D : Addr) (c : V) (cv : Value) (b : Bool), d = .ref D ∧ ExcC K D ∧ xs = [.ref a, c] ∧ (∀ u, RelV c u → u = cv) ∧ PySem.W.kitOne K (.ref D) cv = some b ∧ Q (.bl b) H
theorem call_isP {p : Addr × Obj} {c : Value} (hp : p ∈ X.pn) (hz : Zc c none p.2) (hf : ∃ fs, p.2.data = .fields fs) : CallR X (.builtin "isinstance") (rIsP X.K p.1 c) := by
  intro pins s σ H xs us Q I r h
  obtain ⟨D, cc, cv, b, hD, C, rfl, hcv, e, q⟩ := h
  subst hD
  obtain ⟨u1, u2, rfl, rx, rt⟩ := vals2 r
  cases rx
  have ec := hcv _ rt
  subst ec
  have hget := (I.pin p (List.mem_append_left _ hp)).1
  obtain ⟨fs, hv⟩ := hf
  have J : PySem.W.InstAt s.heap p.1 p.2 D none := by
    obtain ⟨pa, oc, od, oda, osl⟩ := p
    obtain ⟨h1, h2⟩ := hz
    dsimp only at h1 h2 hv hget
    subst h1 h2 hv
    exact ⟨hget, rfl, rfl, trivial⟩
  exact PySem.W.kia_one (PySem.W.handS_kitx_exc C.hg C.hk C.hs C.hd C.ha C.hn C.ht C.hm) I.kIn J e (fun z => nomatch z) fun tk => ⟨.bl b, H, I.kept (t' := tk) fun _ _ z => z, rfl, q⟩
/-- a block under a premise -/
theorem pss_given {sts : List Stmt} {t : TS} {p : Prop} (h : p → PSs X sts t) : PSs X sts (fun D σ H => p ∧ t D σ H) := ⟨fun pins s σ H D I ht => (h ht.1).run pins s σ H D I ht.2⟩
end
theorem kit_self {K : PySem.W.Frag} {D : Addr} : PySem.W.kitOne K (.ref D) (.ref D) = some true := if_pos (beq_self_eq_true _)
theorem kit_no {K : PySem.W.Frag} {D C : Addr} (i : PySem.W.isClsIn K C = true) (t : PySem.W.typeIn K (.ref C) = some (.type "type")) (n : PySem.W.subIn K (.ref D) (.ref C) = some false) (y : PySem.W.subIn K (.ref D) (.ref D) = some true) : PySem.W.kitOne K (.ref D) (.ref C) = some false := by
  have ne : D ≠ C := fun e => by
    rw [← e, y] at n
    cases n
  have nb : (Value.ref D == Value.ref C) = false := Bool.eq_false_iff.mpr fun z => ne (Value.ref.inj (beq_iff_eq.mp z))
  have ci : ((PySem.W.clsIn K C).isSome && PySem.W.typeIn K (.ref C) == some (.type "type")) = true := by
    have i' : (PySem.W.clsIn K C).isSome = true := i
    rw [i', t]
    decide +kernel
  unfold PySem.W.kitOne
  rw [nb, if_neg Bool.false_ne_true]
  show (if ((PySem.W.clsIn K C).isSome && PySem.W.typeIn K (.ref C) == some (.type "type")) = true then PySem.W.subIn K (.ref D) (.ref C) else none) = some false
  rw [if_pos ci]
  exact n
theorem kit_VE {K : PySem.W.Frag} {D : Addr} (n : PySem.W.subIn K (.ref D) (.type "ValueError") = some true) : PySem.W.kitOne K (.ref D) (.type "ValueError") = some true := by
  have nb : (Value.ref D == Value.type "ValueError") = false := rfl
  unfold PySem.W.kitOne
  rw [nb, if_neg Bool.false_ne_true]
  show (if PySem.W.kitMeta "ValueError" = true then PySem.W.subIn K (.ref D) (.type "ValueError") else none) = some true
  rw [if_pos (by decide +kernel)]
  exact n
end Sl

/-! ### words by lengths: places one behind the other -/
namespace Sl
open PySem
def sz (l : Int) : Nat := 2 ^ (12 - l).toNat
/-- a word of length l that begins at place p of the room of 12 bits, by its codes -/
def word (p : Nat) (l : Int) : List Nat := (bits p 12).take l.toNat
def LensOk (ls : List Int) : Prop := ∀ l ∈ ls, 1 ≤ l ∧ l ≤ 12
def pairs (ls : List Int) : List (Int × Nat) := (List.range ls.length).map fun i => (ls.getD i 0, i)
def atLen (ls : List Int) (L : Int) : List (Int × Nat) := ((List.range ls.length).filter fun k => decide (ls.getD k 0 = L)).map fun k => (L, k)
def lawSeq (ls : List Int) : List (Int × Nat) := (List.range 12).flatMap fun (j : Nat) => atLen ls ((j : Int) + 1)
def stepW (st : List (List Nat) × Nat) (q : Int × Nat) : List (List Nat) × Nat := (st.1.set q.2 (word st.2 q.1), st.2 + sz q.1)
def runW (st : List (List Nat) × Nat) (qs : List (Int × Nat)) : List (List Nat) × Nat := qs.foldl stepW st
def startW (n : Nat) : List (List Nat) × Nat := (List.replicate n [], 0)
def byLen (ls : List Int) : List (List Nat) := (runW (startW ls.length) (lawSeq ls)).1
def lexP (a b : Int × Nat) : Prop := a.1 < b.1 ∨ (a.1 = b.1 ∧ a.2 < b.2)
theorem mem_atLen {ls : List Int} {L : Int} {q : Int × Nat} : q ∈ atLen ls L ↔ q.1 = L ∧ q.2 < ls.length ∧ ls.getD q.2 0 = L := by
  unfold atLen
  rw [List.mem_map]
  constructor
  · rintro ⟨k, hk, rfl⟩
    obtain ⟨h1, h2⟩ := List.mem_filter.mp hk
    exact ⟨rfl, List.mem_range.mp h1, of_decide_eq_true h2⟩
  · rintro ⟨h1, h2, h3⟩
    exact ⟨q.2, List.mem_filter.mpr ⟨List.mem_range.mpr h2, decide_eq_true h3⟩, by rw [← h1]⟩
theorem mem_lawSeq {ls : List Int} {q : Int × Nat} : q ∈ lawSeq ls ↔ 1 ≤ q.1 ∧ q.1 ≤ 12 ∧ q.2 < ls.length ∧ ls.getD q.2 0 = q.1 := by
  unfold lawSeq
  rw [List.mem_flatMap]
  constructor
  · rintro ⟨j, hj, h⟩
    have hj' := List.mem_range.mp hj
    obtain ⟨h1, h2, h3⟩ := mem_atLen.mp h
    exact ⟨by omega, by omega, h2, by rw [h3, h1]⟩
  · rintro ⟨h1, h2, h3, h4⟩
    refine ⟨(q.1 - 1).toNat, List.mem_range.mpr (by omega), mem_atLen.mpr ⟨?_, h3, ?_⟩⟩
    · omega
    · rw [h4]; omega
theorem atLen_sorted (ls : List Int) (L : Int) : (atLen ls L).Pairwise lexP := by
  unfold atLen
  rw [List.pairwise_map]
  refine List.Pairwise.imp (R := fun a b => a < b) (fun h => .inr ⟨rfl, h⟩) ?_
  exact List.Pairwise.filter _ List.pairwise_lt_range
theorem lawSeq_sorted (ls : List Int) : (lawSeq ls).Pairwise lexP := by
  unfold lawSeq
  have gen : ∀ js : List Nat, js.Pairwise (· < ·) → (js.flatMap fun (j : Nat) => atLen ls ((j : Int) + 1)).Pairwise lexP := by
    intro js
    induction js with
    | nil => intro _; exact List.Pairwise.nil
    | cons j r ih =>
      intro h
      rw [List.flatMap_cons, List.pairwise_append]
      refine ⟨atLen_sorted _ _, ih (List.pairwise_cons.mp h).2, fun a ha b hb => ?_⟩
      obtain ⟨k, hk, hb⟩ := List.mem_flatMap.mp hb
      have hlt := (List.pairwise_cons.mp h).1 k hk
      have e1 := (mem_atLen.mp ha).1
      have e2 := (mem_atLen.mp hb).1
      exact .inl (by omega)
  exact gen _ List.pairwise_lt_range
theorem lawSeq_nodup (ls : List Int) : (lawSeq ls).Nodup := List.Pairwise.imp (fun {a b} h e => by
  subst e
  rcases h with h | h
  · exact absurd h (Int.lt_irrefl _)
  · exact absurd h.2 (Nat.lt_irrefl _)) (lawSeq_sorted ls)
theorem pairs_nodup (ls : List Int) : (pairs ls).Nodup := by
  unfold pairs
  refine List.pairwise_map.mpr (List.Pairwise.imp (fun {a b} h e => ?_) List.pairwise_lt_range)
  have := congrArg Prod.snd e
  simp at this
  omega
theorem mem_pairs {ls : List Int} {q : Int × Nat} : q ∈ pairs ls ↔ q.2 < ls.length ∧ ls.getD q.2 0 = q.1 := by
  unfold pairs
  rw [List.mem_map]
  constructor
  · rintro ⟨k, hk, rfl⟩
    exact ⟨List.mem_range.mp hk, rfl⟩
  · rintro ⟨h1, h2⟩
    exact ⟨q.2, List.mem_range.mpr h1, by rw [h2]⟩
theorem getD_mem {ls : List Int} {k : Nat} (h : k < ls.length) : ls.getD k 0 ∈ ls := by
  rw [List.getD_eq_getElem?_getD, List.getElem?_eq_getElem h]
  exact List.getElem_mem h
theorem lawSeq_perm {ls : List Int} (h : LensOk ls) : (lawSeq ls).Perm (pairs ls) := by
  refine (List.perm_ext_iff_of_nodup (lawSeq_nodup ls) (pairs_nodup ls)).mpr fun q => ?_
  rw [mem_lawSeq, mem_pairs]
  constructor
  · rintro ⟨_, _, h3, h4⟩
    exact ⟨h3, h4⟩
  · rintro ⟨h3, h4⟩
    have := h _ (getD_mem h3)
    rw [h4] at this
    exact ⟨this.1, this.2, h3, h4⟩
theorem runW_snd : ∀ (qs : List (Int × Nat)) (st : List (List Nat) × Nat), (runW st qs).2 = st.2 + (qs.map fun q => sz q.1).sum
  | [], st => by simp [runW]
  | q :: r, st => by
    show (runW (stepW st q) r).2 = _
    rw [runW_snd r]
    show st.2 + sz q.1 + _ = _
    rw [List.map_cons, List.sum_cons]
    omega
theorem runW_len : ∀ (qs : List (Int × Nat)) (st : List (List Nat) × Nat), (runW st qs).1.length = st.1.length
  | [], st => rfl
  | q :: r, st => by
    show (runW (stepW st q) r).1.length = _
    rw [runW_len r]
    exact List.length_set
theorem runW_app (a b : List (Int × Nat)) (st : List (List Nat) × Nat) : runW st (a ++ b) = runW (runW st a) b := List.foldl_append
theorem runW_off : ∀ (qs : List (Int × Nat)) (st : List (List Nat) × Nat) (k : Nat), (∀ q ∈ qs, q.2 ≠ k) → (runW st qs).1[k]? = st.1[k]?
  | [], st, k, _ => rfl
  | q :: r, st, k, h => by
    show (runW (stepW st q) r).1[k]? = _
    rw [runW_off r _ k fun z hz => h z (List.mem_cons_of_mem _ hz)]
    exact List.getElem?_set_ne (h q List.mem_cons_self)
theorem runW_at (a b : List (Int × Nat)) (q : Int × Nat) (st : List (List Nat) × Nat) (hq : q.2 < st.1.length) (hb : ∀ z ∈ b, z.2 ≠ q.2) : (runW st (a ++ q :: b)).1[q.2]? = some (word (st.2 + (a.map fun z => sz z.1).sum) q.1) := by
  rw [runW_app]
  show (runW (stepW (runW st a) q) b).1[q.2]? = _
  rw [runW_off b _ _ hb]
  show ((runW st a).1.set q.2 _)[q.2]? = _
  rw [List.getElem?_set_self (by rw [runW_len]; exact hq), runW_snd]
theorem sum_pairs (ls : List Int) : ((pairs ls).map fun q => sz q.1).sum = (ls.map sz).sum := by
  congr 1
  unfold pairs
  rw [List.map_map]
  refine List.ext_getElem? fun i => ?_
  rw [List.getElem?_map, List.getElem?_map]
  by_cases hi : i < ls.length
  · rw [List.getElem?_range hi, List.getElem?_eq_getElem hi]
    show some (sz (ls.getD i 0)) = some (sz ls[i])
    rw [List.getD_eq_getElem?_getD, List.getElem?_eq_getElem hi]
    rfl
  · rw [List.getElem?_eq_none (by simpa using hi), List.getElem?_eq_none (by simpa using hi)]
    rfl
theorem sum_lawSeq {ls : List Int} (h : LensOk ls) : ((lawSeq ls).map fun q => sz q.1).sum = (ls.map sz).sum := by
  rw [← sum_pairs]
  exact ((lawSeq_perm h).map _).sum_nat
theorem byLen_len (ls : List Int) : (byLen ls).length = ls.length := by
  unfold byLen
  rw [runW_len]
  exact List.length_replicate
/-- what the k-th word is -/
theorem byLen_at {ls : List Int} {a b : List (Int × Nat)} {q : Int × Nat} (e : lawSeq ls = a ++ q :: b) : (byLen ls)[q.2]? = some (word (a.map fun z => sz z.1).sum q.1) ∧ 1 ≤ q.1 ∧ q.1 ≤ 12 ∧ q.2 < ls.length ∧ ls.getD q.2 0 = q.1 := by
  have hm := mem_lawSeq.mp (show q ∈ lawSeq ls by rw [e]; exact List.mem_append_right _ List.mem_cons_self)
  refine ⟨?_, hm⟩
  unfold byLen
  rw [e, runW_at a b q (startW ls.length) (by show q.2 < (List.replicate ls.length []).length; rw [List.length_replicate]; exact hm.2.2.1) fun z hz ez => ?_]
  · show some (word (0 + _) _) = _
    rw [Nat.zero_add]
  · have s := lawSeq_sorted ls
    rw [e, List.pairwise_append] at s
    have hz' := (List.pairwise_cons.mp s.2.1).1 z hz
    have m2 := mem_lawSeq.mp (show z ∈ lawSeq ls by rw [e]; exact List.mem_append_right _ (List.mem_cons_of_mem _ hz))
    rcases hz' with h | h
    · rw [ez, hm.2.2.2] at m2
      omega
    · omega
theorem word_len {p : Nat} {l : Int} (h1 : 0 ≤ l) (h2 : l ≤ 12) : (word p l).length = l.toNat := by
  unfold word
  rw [List.length_take, bits_len]
  omega
theorem word_eq {p : Nat} {l : Int} (h1 : 0 ≤ l) (h2 : l ≤ 12) : word p l = bits (p / sz l) l.toNat := by
  unfold word sz
  have e : (12 : Nat) = l.toNat + (12 - l).toNat := by omega
  have k := bits_take l.toNat (12 - l).toNat p
  rw [← e] at k
  exact k
/-- two words at places that are apart: the one whose places lie ahead, then the other -/
theorem word_apart {p r : Nat} {l m : Int} (hl : 1 ≤ l) (hm : m ≤ 12) (hlm : l ≤ m) (hp : p < 4096) (hr : r < 4096) (h : p + sz l ≤ r ∨ (r + sz l ≤ p)) : (word r m).take l.toNat ≠ word p l := by
  intro e
  have l2 : l ≤ 12 := by omega
  have e1 : (word r m).take l.toNat = word r l := by
    unfold word
    rw [List.take_take, Nat.min_eq_left (by omega)]
  rw [e1, word_eq (by omega) l2, word_eq (by omega) l2] at e
  have pos : 0 < sz l := Nat.pow_pos (by decide)
  have e4096 : sz l * 2 ^ l.toNat = 4096 := by
    unfold sz
    rw [← Nat.pow_add]
    have : (12 - l).toNat + l.toNat = 12 := by omega
    rw [this]
  have b1 : p / sz l < 2 ^ l.toNat := Nat.div_lt_of_lt_mul (by rw [e4096]; exact hp)
  have b2 : r / sz l < 2 ^ l.toNat := Nat.div_lt_of_lt_mul (by rw [e4096]; exact hr)
  have k := bits_inj _ b2 b1 e
  rcases h with h | h
  · have : (p + sz l) / sz l ≤ r / sz l := Nat.div_le_div_right h
    rw [Nat.add_div_right _ pos] at this
    omega
  · have : (r + sz l) / sz l ≤ p / sz l := Nat.div_le_div_right h
    rw [Nat.add_div_right _ pos] at this
    omega
theorem sz_mono {l m : Int} (h : l ≤ m) : sz m ≤ sz l := Nat.pow_le_pow_right (by decide) (by omega)
theorem sz_pos (l : Int) : 0 < sz l := Nat.pow_pos (by decide)
/-- the j-th word does not begin with the i-th -/
theorem byLen_apart {ls : List Int} (h : LensOk ls) (hs : (ls.map sz).sum ≤ 4096) {i j : Nat} {u v : List Nat} (hij : i ≠ j) (hu : (byLen ls)[i]? = some u) (hv : (byLen ls)[j]? = some v) : v.take u.length ≠ u := by
  have hi : i < ls.length := by
    have := (List.getElem?_eq_some_iff.mp hu).1
    rw [byLen_len] at this
    exact this
  have hj : j < ls.length := by
    have := (List.getElem?_eq_some_iff.mp hv).1
    rw [byLen_len] at this
    exact this
  have mi : (ls.getD i 0, i) ∈ lawSeq ls := (lawSeq_perm h).mem_iff.mpr (mem_pairs.mpr ⟨hi, rfl⟩)
  have mj : (ls.getD j 0, j) ∈ lawSeq ls := (lawSeq_perm h).mem_iff.mpr (mem_pairs.mpr ⟨hj, rfl⟩)
  have tot := sum_lawSeq h
  obtain ⟨a, b, e⟩ := List.append_of_mem mi
  obtain ⟨wi, i1, i2, _, _⟩ := byLen_at e
  obtain ⟨c, d, e'⟩ := List.append_of_mem mj
  obtain ⟨wj, j1, j2, _, _⟩ := byLen_at e'
  dsimp only at wi wj i1 i2 j1 j2
  have eu : u = word (a.map fun z => sz z.1).sum (ls.getD i 0) := Option.some.inj (hu.symm.trans wi)
  have ev : v = word (c.map fun z => sz z.1).sum (ls.getD j 0) := Option.some.inj (hv.symm.trans wj)
  have ta : (a.map fun z => sz z.1).sum + sz (ls.getD i 0) ≤ 4096 := by
    rw [e, List.map_append, List.sum_append, List.map_cons, List.sum_cons] at tot
    dsimp only at tot ⊢
    omega
  have tc : (c.map fun z => sz z.1).sum + sz (ls.getD j 0) ≤ 4096 := by
    rw [e', List.map_append, List.sum_append, List.map_cons, List.sum_cons] at tot
    dsimp only at tot ⊢
    omega
  have pi := sz_pos (ls.getD i 0)
  have pj := sz_pos (ls.getD j 0)
  have lu : u.length = (ls.getD i 0).toNat := by rw [eu]; exact word_len (by omega) i2
  have lv : v.length = (ls.getD j 0).toNat := by rw [ev]; exact word_len (by omega) j2
  by_cases hlm : ls.getD i 0 ≤ ls.getD j 0
  · rw [lu, ev, eu]
    refine word_apart i1 j2 hlm (by omega) (by omega) ?_
    -- which stands ahead
    have srt := lawSeq_sorted ls
    have mj' := mj
    rw [e] at mj'
    rcases List.mem_append.mp mj' with hm | hm
    · -- j ahead of i: then of equal lengths
      right
      have lt : lexP (ls.getD j 0, j) (ls.getD i 0, i) := by
        rw [e, List.pairwise_append] at srt
        exact srt.2.2 _ hm _ List.mem_cons_self
      have eq : ls.getD j 0 = ls.getD i 0 := by
        rcases lt with z | z
        · have z' : ls.getD j 0 < ls.getD i 0 := z
          omega
        · exact z.1
      obtain ⟨a1, a2, ea⟩ := List.append_of_mem hm
      have ec : a1 = c := by
        have nd := lawSeq_nodup ls
        have e2 : lawSeq ls = a1 ++ (ls.getD j 0, j) :: (a2 ++ (ls.getD i 0, i) :: b) := by rw [e, ea]; simp
        rw [e2] at nd
        exact split_uniq nd (e2.symm.trans e')
      rw [ea, List.map_append, List.sum_append, List.map_cons, List.sum_cons, ec]
      dsimp only
      rw [eq]
      omega
    · left
      rcases List.mem_cons.mp hm with hm | hm
      · exact absurd (congrArg Prod.snd hm).symm hij
      · obtain ⟨b1, b2, eb⟩ := List.append_of_mem hm
        have ec : a ++ (ls.getD i 0, i) :: b1 = c := by
          have nd := lawSeq_nodup ls
          have e2 : lawSeq ls = (a ++ (ls.getD i 0, i) :: b1) ++ (ls.getD j 0, j) :: b2 := by rw [e, eb]; simp
          rw [e2] at nd
          exact split_uniq nd (e2.symm.trans e')
        rw [← ec, List.map_append, List.sum_append, List.map_cons, List.sum_cons]
        dsimp only
        omega
  · intro z
    have := congrArg List.length z
    rw [List.length_take, lu, lv] at this
    omega
where
  split_uniq {α : Type} {x : α} : ∀ {a b c d : List α}, (a ++ x :: b).Nodup → a ++ x :: b = c ++ x :: d → a = c
    | [], b, [], d, _, _ => rfl
    | [], b, y :: c, d, nd, e => by
      have h := List.cons.inj e
      have nd' := (List.nodup_cons.mp nd).1
      rw [h.2] at nd'
      exact absurd (List.mem_append_right _ List.mem_cons_self) nd'
    | y :: a, b, [], d, nd, e => by
      have h := List.cons.inj e
      have nd' := (List.nodup_cons.mp nd).1
      rw [h.1] at nd'
      exact absurd (List.mem_append_right _ List.mem_cons_self) nd'
    | y :: a, b, z :: c, d, nd, e => by
      have h := List.cons.inj e
      rw [h.1, split_uniq (List.nodup_cons.mp nd).2 h.2]
/-- a sorted rearrangement of the pairs is that sequence -/
theorem sorted_is_law {ls : List Int} (h : LensOk ls) {zs : List (Int × Int)} (hs : zs.Pairwise fun x y => ¬ (y.1 < x.1 ∨ (y.1 = x.1 ∧ y.2 < x.2))) (hp : zs.Perm ((pairs ls).map fun q => (q.1, (q.2 : Int)))) : zs = (lawSeq ls).map fun q => (q.1, (q.2 : Int)) := by
  refine List.Perm.eq_of_pairwise (le := fun x y => ¬ (y.1 < x.1 ∨ (y.1 = x.1 ∧ y.2 < x.2))) (fun x y _ _ h1 h2 => ?_) hs ?_ (hp.trans ((lawSeq_perm h).map _).symm)
  · obtain ⟨x1, x2⟩ := x
    obtain ⟨y1, y2⟩ := y
    simp only at h1 h2
    have : x1 = y1 ∧ x2 = y2 := by omega
    rw [this.1, this.2]
  · rw [List.pairwise_map]
    refine List.Pairwise.imp (fun {a b} z => ?_) (lawSeq_sorted ls)
    unfold lexP at z
    show ¬ (b.1 < a.1 ∨ (b.1 = a.1 ∧ (b.2 : Int) < (a.2 : Int)))
    omega
theorem bits_small {k n c : Nat} (h : c ∈ bits n k) : c < 0x110000 := by
  rcases bits_mem h with e | e <;> omega
/-- the words are texts of 0 and 1 -/
theorem byLen_small {ls : List Int} (h : LensOk ls) : ∀ u ∈ byLen ls, (∀ c ∈ u, c < 0x110000) ∧ u.length ≤ 12 := by
  intro u hu
  obtain ⟨i, hi, rfl⟩ := List.getElem_of_mem hu
  have hi' : i < ls.length := by rw [byLen_len] at hi; exact hi
  have mi : (ls.getD i 0, i) ∈ lawSeq ls := (lawSeq_perm h).mem_iff.mpr (mem_pairs.mpr ⟨hi', rfl⟩)
  obtain ⟨a, b, e⟩ := List.append_of_mem mi
  obtain ⟨wi, i1, i2, _, _⟩ := byLen_at e
  dsimp only at wi i1 i2
  rw [List.getElem?_eq_getElem hi] at wi
  rw [Option.some.inj wi]
  refine ⟨fun c hc => ?_, ?_⟩
  · unfold word at hc
    exact bits_small (List.mem_of_mem_take hc)
  · rw [word_len (by omega) i2]
    omega
end Sl

/-! ### lists of tuples made, sorted, walked -/
namespace Sl
open PySem L2 Evl
section
variable {K : PySem.W.Frag} {σ : L2.St} {H H' : Hp} {ta tb te tl : TE} {x y z v : V} {D : Ends} {g : TG} {tu : TS}
/-- gives a new list of which R holds -/
def EvX (te : TE) (σ : L2.St) (H : Hp) (R : List V → Hp → Prop) : Prop := ∀ H1, Ex H H1 → ∀ Q : VK, (∀ p xs H2, H1 p = none → Ex H1 H2 → H2 p = some (.lst xs) → R xs H2 → Q (.ref p) H2) → te σ H1 Q
theorem EvL.toX {xs : List V} (h : EvL te σ H xs) : EvX te σ H fun ys _ => ys = xs := fun H1 e Q q => h H1 e Q fun p H2 hp e2 h2 => q p xs H2 hp e2 h2 rfl
/-- the pairs of whole numbers that a list's tuples hold -/
def Tups (H : Hp) (zs : List V) (qs : List (Int × Int)) : Prop := zs.length = qs.length ∧ ∀ (i : Nat) (q : Int × Int), qs[i]? = some q → ∃ t, zs[i]? = some (.ref t) ∧ H t = some (.tup [.int q.1, .int q.2])
theorem Tups.mono {zs : List V} {qs : List (Int × Int)} (e : Ex H H') (h : Tups H zs qs) : Tups H' zs qs := ⟨h.1, fun i q hq => by
  obtain ⟨t, h1, h2⟩ := h.2 i q hq
  exact ⟨t, h1, e _ _ h2⟩⟩
def keyOf (H : Hp) : V → Int × Int
  | .ref t => match H t with
    | some (.tup [.int i, .int j]) => (i, j)
    | _ => (0, 0)
  | _ => (0, 0)
theorem keyOf_ref {t : Addr} {i j : Int} (h : H t = some (.tup [.int i, .int j])) : keyOf H (.ref t) = (i, j) := by
  show (match H t with | some (.tup [.int i, .int j]) => (i, j) | _ => (0, 0)) = (i, j)
  rw [h]
theorem Tups.keys {zs : List V} {qs : List (Int × Int)} (h : Tups H zs qs) : zs.map (keyOf H) = qs := by
  refine List.ext_getElem? fun i => ?_
  rw [List.getElem?_map]
  cases e : qs[i]? with
  | none =>
    rw [List.getElem?_eq_none (by rw [h.1]; exact List.getElem?_eq_none_iff.mp e)]
    rfl
  | some q =>
    obtain ⟨t, h1, h2⟩ := h.2 i q e
    rw [h1]
    show some (keyOf H (.ref t)) = some q
    rw [keyOf_ref h2]
theorem Tups.mem {zs : List V} {qs : List (Int × Int)} (h : Tups H zs qs) : ∀ z ∈ zs, ∃ t, z = .ref t ∧ H t = some (.tup [.int (keyOf H z).1, .int (keyOf H z).2]) := fun z hz => by
  obtain ⟨i, hi, e⟩ := List.getElem_of_mem hz
  have hq : i < qs.length := by rw [← h.1]; exact hi
  obtain ⟨t, h1, h2⟩ := h.2 i _ (List.getElem?_eq_getElem hq)
  rw [List.getElem?_eq_getElem hi] at h1
  have ez : z = .ref t := e.symm.trans (Option.some.inj h1)
  refine ⟨t, ez, ?_⟩
  rw [ez]
  have : keyOf H (.ref t) = qs[i] := keyOf_ref h2
  rw [this]
  exact h2
theorem tups_of {zs : List V} (h : ∀ z ∈ zs, ∃ t, z = .ref t ∧ H t = some (.tup [.int (keyOf H z).1, .int (keyOf H z).2])) : Tups H zs (zs.map (keyOf H)) := by
  refine ⟨(List.length_map _).symm, fun i q hq => ?_⟩
  rw [List.getElem?_map] at hq
  obtain ⟨z, hz, rfl⟩ := Option.map_eq_some_iff.mp hq
  obtain ⟨t, rfl, h2⟩ := h z (List.mem_of_getElem? hz)
  exact ⟨t, hz, h2⟩
/-- [.. for s, l in enumerate(xs)], a new pair each turn -/
theorem ex_lcEnum {ta : TA} {a : Addr} {xs : List V} {s l : Nat} {vs : List Nat} (gv : Nat → V → Int × Int) (h : EvA ta σ H [.ref a]) (hS : SqL K H a xs) (hz : xs.length ≤ 40000) (hw : ∀ v w, wipe (((wipe σ vs).set s (some v)).set l (some w)) vs = wipe σ vs)
    (he : ∀ (i : Nat) (x : V) H1, Ex H H1 → xs[i]? = some x → EvU te (((wipe σ vs).set s (some (.int (i : Int)))).set l (some x)) H1 [.int (gv i x).1, .int (gv i x).2]) :
    EvX (tLc (iEnum K ta) (gTup K 2 (gCons (gName s) (gCons (gName l) gNil))) tYes te vs) σ H fun ys H2 => ∃ qs : List (Int × Int), Tups H2 ys qs ∧ qs.length = xs.length ∧ ∀ (i : Nat) (x : V), xs[i]? = some x → qs[i]? = some (gv i x) := fun H0 e0 Q q =>
  h H0 e0 _ fun H1 e1 => by
    have e01 := e0.trans e1
    refine ⟨a, xs, rfl, ex_l e01 hS, fun Dl hD => ?_⟩
    refine ⟨fun i m H' => m = xs.length - i ∧ i ≤ xs.length ∧ Ex H1 H' ∧ ∃ ys qs, H' Dl = some (.lst ys) ∧ Tups H' ys qs ∧ qs.length = i ∧ ∀ (j : Nat) (x : V), j < i → xs[j]? = some x → qs[j]? = some (gv j x),
      ⟨xs.length, rfl, Nat.zero_le _, Ex.new hD, [], [], upd_same, ⟨rfl, fun i q hq => by simp at hq⟩, rfl, fun j x hj => absurd hj (Nat.not_lt_zero _)⟩, ?_⟩
    rintro i m H' ⟨rfl, hi, e', ys, qs, hd, ht, hl', hq⟩
    have hS' := ex_l (e01.trans e') hS
    by_cases hlt : i < xs.length
    · refine .inr ⟨⟨xs, xs[i], hS', List.getElem?_eq_getElem hlt⟩, _, fun H'' w => ⟨xs.length - (i + 1), by omega, rfl, hlt, w⟩, ?_⟩
      rintro w H'' ⟨T, x, rfl, hT, rfl, hx⟩
      have hx' := hx xs hS'
      have e'' : Ex H' (upd H' T (.tup [.int (i : Nat), x])) := Ex.new hT
      refine ⟨T, [.int (i : Nat), x], rfl, .inl (.inl upd_same), rfl, .int (i : Nat), [x], rfl, x, [], rfl, rfl, hw _ _, ?_⟩
      show te _ _ _
      refine he i x _ ((e01.trans e').trans e'') hx' _ (Ex.refl _) _ fun t H3 hn e3 h3 => ?_
      have h3d := e3 _ _ (e'' _ _ hd)
      have hyl : ys.length = i := ht.1.trans hl'
      have tD : t ≠ Dl := fun z => by rw [z] at hn; rw [e'' _ _ hd] at hn; cases hn
      have keep : ∀ b o, b ≠ Dl → H3 b = some o → (upd H3 Dl (.lst (ys ++ [.ref t]))) b = some o := fun b o hb ho => by rw [upd_ne hb]; exact ho
      refine ⟨ys, h3d, sz_lt (by omega), ?_, ys ++ [.ref t], qs ++ [gv i x], upd_same, ⟨by rw [List.length_append, List.length_append, ht.1]; rfl, fun j q hj => ?_⟩, by rw [List.length_append, hl']; rfl, fun j y hj hy => ?_⟩
      · exact Ex.mut ((e'.trans e'').trans e3) hD
      · by_cases hji : j < qs.length
        · rw [List.getElem?_append_left hji] at hj
          obtain ⟨u, h1, h2⟩ := ht.2 j q hj
          refine ⟨u, by rw [List.getElem?_append_left (by omega)]; exact h1, keep _ _ (fun z => ?_) (e3 _ _ (e'' _ _ h2))⟩
          rw [z, hd] at h2
          cases h2
        · rw [List.getElem?_append_right (by omega)] at hj
          have ej : j - qs.length = 0 := by
            have := (List.getElem?_eq_some_iff.mp hj).1
            simp at this
            omega
          rw [ej] at hj
          cases hj
          refine ⟨t, ?_, keep _ _ tD h3⟩
          rw [List.getElem?_append_right (by omega), show j - ys.length = 0 by omega]
          rfl
      · by_cases hji : j < i
        · rw [List.getElem?_append_left (by omega)]
          exact hq j y hji hy
        · have ej : j = i := by omega
          subst ej
          rw [List.getElem?_append_right (by omega), show j - qs.length = 0 by omega]
          rw [hx'] at hy
          cases hy
          rfl
    · have ei : i = xs.length := by omega
      refine .inl ⟨⟨xs, hS', by omega⟩, q Dl ys H' (fresh_back e1 hD) (e1.trans e') hd ⟨qs, ht, by omega, fun j x hx => hq j x (by rw [ei]; exact (List.getElem?_eq_some_iff.mp hx).1) hx⟩⟩
/-- sorted of a new list of pairs of whole numbers -/
theorem ex_sortedP {R : List V → Hp → Prop} {P : List (Int × Int) → Prop} (h : EvX te σ H R) (hR : ∀ ys H2, R ys H2 → ∃ qs, Tups H2 ys qs ∧ P qs) :
    EvX (tCB (rSortedPO K) (tCons te tNil)) σ H fun zs H3 => ∃ qs ps, Tups H3 zs qs ∧ P ps ∧ qs.Perm ps ∧ qs.Pairwise fun x y => ¬ (y.1 < x.1 ∨ (y.1 = x.1 ∧ y.2 < x.2)) := fun H1 e Q q =>
  h H1 e _ fun p ys H2 hp e2 h2 r => by
    obtain ⟨ps, ht, hP⟩ := hR ys H2 r
    refine ⟨p, ys, keyOf H2, rfl, sq_of h2, ht.mem, fun zs p' hs hb hn => ?_⟩
    have hz : Tups H2 zs (zs.map (keyOf H2)) := tups_of fun z hz => ht.mem z (hb.perm.mem_iff.mp hz)
    refine q p' zs _ (fresh_back e2 hn) (e2.trans (Ex.new hn)) upd_same ⟨zs.map (keyOf H2), ps, hz.mono (Ex.new hn), hP, ?_, ?_⟩
    · rw [← ht.keys]
      exact hb.perm.map _
    · rw [List.pairwise_map]
      exact List.Pairwise.imp (fun {a b} z => SrtO.lexB_no.mp z) hs
/-- a loop over a new list -/
theorem s_forX {R : List V → Hp → Prop} (h : EvX tl σ H R) (Pv : Addr → List V → Nat → L2.St → Hp → Prop) (h0 : ∀ p xs H1, H p = none → Ex H H1 → H1 p = some (.lst xs) → R xs H1 → Pv p xs 0 σ H1) (hl : ∀ p xs i σ' H', i ≤ xs.length → Pv p xs i σ' H' → SqL K H' p xs)
    (hs : ∀ p xs i x σ' H', xs[i]? = some x → Pv p xs i σ' H' → g x σ' H' fun σ2 H2 => tu { D with nx := Pv p xs (i + 1), ct := Pv p xs (i + 1), bk := D.nx } σ2 H2) (hd : ∀ p xs σ' H', Pv p xs xs.length σ' H' → D.nx σ' H') : tFor (iList K tl) g tu D σ H :=
  h H (Ex.refl H) _ fun p xs H1 hp e h1 r => ⟨p, rfl, ⟨xs, sq_of h1⟩, for_list (Pv p xs) (h0 p xs H1 hp e h1 r) (hl p xs) (hs p xs) (hd p xs)⟩
theorem q_forX {tz : TS} {R : List V → Hp → Prop} (h : EvX tl σ H R) (Pv : Addr → List V → Nat → L2.St → Hp → Prop) (h0 : ∀ p xs H1, H p = none → Ex H H1 → H1 p = some (.lst xs) → R xs H1 → Pv p xs 0 σ H1) (hl : ∀ p xs i σ' H', i ≤ xs.length → Pv p xs i σ' H' → SqL K H' p xs)
    (hs : ∀ p xs i x σ' H', xs[i]? = some x → Pv p xs i σ' H' → g x σ' H' fun σ2 H2 => tu { D with nx := Pv p xs (i + 1), ct := Pv p xs (i + 1), bk := tz D } σ2 H2) (hd : ∀ p xs σ' H', Pv p xs xs.length σ' H' → tz D σ' H') : tSeq (tFor (iList K tl) g tu) tz D σ H :=
  s_forX (D := { D with nx := tz D }) h Pv h0 hl hs hd
/-- all but one object as it was -/
def ExB (b : Addr) (H H' : Hp) : Prop := ∀ c o, H c = some o → c ≠ b → H' c = some o
theorem ExB.then {b : Addr} {H1 H2 : Hp} (h : ExB b H H1) (e : Ex H1 H2) : ExB b H H2 := fun c o hc hb => e _ _ (h c o hc hb)
theorem ExB.set {b : Addr} {o : HO} (h : ExB b H H') : ExB b H (upd H' b o) := fun c u hc hb => by rw [upd_ne hb]; exact h c u hc hb
theorem ExB.back {b : Addr} {H0 : Hp} (e : Ex H0 H) (hn : H0 b = none) (h : ExB b H H') : Ex H0 H' := fun c o hc => h c o (e _ _ hc) fun z => by rw [z, hn] at hc; cases hc
theorem ExB.refl (b : Addr) (H : Hp) : ExB b H H := fun _ _ h _ => h
end
end Sl

/-! ### things handed in: plain ones, or lists and tuples of whole numbers -/
namespace Sl
open PySem L2 Evl
def Simple (H : Hp) (x : V) : Prop := x = .non ∨ (∃ b, x = .bl b) ∨ (∃ i, x = .int i) ∨ (∃ s, x = .str s ∧ PyData.canLay0 (.str s) = true) ∨ ∃ (a : Addr) (ns : List Int), x = .ref a ∧ (H a = some (.lst (ns.map V.int)) ∨ H a = some (.tup (ns.map V.int)))
section
variable {K : PySem.W.Frag} {σ : L2.St} {H H' : Hp} {ta tb te tl : TE} {x y z v : V} {D : Ends} {g : TG} {tu tz : TS} {t : TT}
theorem Simple.thing (h : Simple H x) : Thing H x := by
  rcases h with h | h | h | ⟨s, h, _⟩ | ⟨a, ns, h, g | g⟩
  · exact .inl h
  · exact .inr (.inl h)
  · exact .inr (.inr (.inl h))
  · exact .inr (.inr (.inr (.inl ⟨s, h⟩)))
  · exact .inr (.inr (.inr (.inr ⟨a, _, h, .inl g⟩)))
  · exact .inr (.inr (.inr (.inr ⟨a, _, h, .inr g⟩)))
theorem Simple.mono (e : Ex H H') (h : Simple H x) : Simple H' x := by
  rcases h with h | h | h | h | ⟨a, ns, h, g⟩
  · exact .inl h
  · exact .inr (.inl h)
  · exact .inr (.inr (.inl h))
  · exact .inr (.inr (.inr (.inl h)))
  · exact .inr (.inr (.inr (.inr ⟨a, ns, h, g.elim (fun g => .inl (e _ _ g)) fun g => .inr (e _ _ g)⟩)))
theorem Simple.int (i : Int) : Simple H (.int i) := .inr (.inr (.inl ⟨i, rfl⟩))
theorem Simple.bl (b : Bool) : Simple H (.bl b) := .inr (.inl ⟨b, rfl⟩)
theorem Simple.non : Simple H .non := .inl rfl
theorem Simple.str (s : Str) (h : PyData.canLay0 (.str s) = true) : Simple H (.str s) := .inr (.inr (.inr (.inl ⟨s, rfl, h⟩)))
theorem Simple.lst {a : Addr} {ns : List Int} (h : H a = some (.lst (ns.map V.int))) : Simple H (.ref a) := .inr (.inr (.inr (.inr ⟨a, ns, rfl, .inl h⟩)))
theorem Simple.tup {a : Addr} {ns : List Int} (h : H a = some (.tup (ns.map V.int))) : Simple H (.ref a) := .inr (.inr (.inr (.inr ⟨a, ns, rfl, .inr h⟩)))
theorem flat_ints (ns : List Int) : ∀ d ∈ ns.map PyData.int, d.canLay0 = true ∧ d.depth ≤ 0 := fun d hd => by
  obtain ⟨i, _, rfl⟩ := List.mem_map.mp hd
  exact ⟨rfl, Nat.le_refl _⟩
theorem Simple.data (h : Simple H x) : ∃ d, Dp K H x d ∧ d.canLay0 = true ∧ d.depth ≤ 60 := by
  rcases h with rfl | ⟨b, rfl⟩ | ⟨i, rfl⟩ | ⟨s, rfl, k⟩ | ⟨a, ns, rfl, g | g⟩
  · exact ⟨_, .non, rfl, Nat.zero_le _⟩
  · exact ⟨_, .bl _, rfl, Nat.zero_le _⟩
  · exact ⟨_, .int _, rfl, Nat.zero_le _⟩
  · exact ⟨_, .str _, k, Nat.zero_le _⟩
  · have z := lay_all (flat_ints ns)
    refine ⟨.list (ns.map PyData.int), dp_ints (sq_of g), ?_, ?_⟩
    · unfold PyData.canLay0
      exact z.1
    · unfold PyData.depth
      have := z.2
      omega
  · have z := lay_all (flat_ints ns)
    refine ⟨.tuple (ns.map PyData.int), .tup (st_of g) (dpAll_map fun _ _ => .int _), ?_, ?_⟩
    · unfold PyData.canLay0
      exact z.1
    · unfold PyData.depth
      have := z.2
      omega
/-- the data of a list of such things -/
theorem simple_list {a : Addr} : ∀ {xs : List V}, (∀ x ∈ xs, Simple H x) → ∃ ds : List PyData, DpAll K H xs ds ∧ ds.length = xs.length ∧ ∀ d ∈ ds, d.canLay0 = true ∧ d.depth ≤ 60
  | [], _ => ⟨[], .nil, rfl, fun _ h => by cases h⟩
  | x :: r, h => by
    obtain ⟨d, h1, h2, h3⟩ := (h x List.mem_cons_self).data (K := K)
    obtain ⟨ds, k1, k2, k3⟩ := simple_list (a := a) fun z hz => h z (List.mem_cons_of_mem _ hz)
    refine ⟨d :: ds, .cons h1 k1, by simp [k2], fun e he => ?_⟩
    rcases List.mem_cons.mp he with rfl | he
    · exact ⟨h2, h3⟩
    · exact k3 e he
/-- two lists of the same things are equal -/
theorem ev_neSame {a b : Addr} {xs : List V} (ha : Ev ta σ H (.ref a)) (hb : Ev tb σ H (.ref b)) (hA : SqL K H a xs) (hB : SqL K H b xs) (hx : ∀ x ∈ xs, Simple H x) : Ev (tOp (rNeD K) ta tb) σ H (.bl false) := by
  obtain ⟨ds, h1, _, h3⟩ := simple_list (K := K) (a := a) hx
  have s := shaped_list h3
  exact ev_is (ev_neD ha hb (.lst hA h1) (.lst hB h1) s s) (by rw [eqv_same s]; rfl)
/-- a list compared with a new empty one -/
theorem ev_eqNil {xs : List V} (ha : EvX ta σ H fun ys H2 => ys = xs ∧ ∀ x ∈ xs, Simple H2 x) (hb : ∀ H1, Ex H H1 → EvL tb σ H1 []) : Ev (tOp (rEqD K) ta tb) σ H (.bl xs.isEmpty) := fun H1 e Q q =>
  ha H1 e _ fun p ys H2 hp e2 h2 r => by
    obtain ⟨rfl, hs⟩ := r
    refine hb H2 (e.trans e2) H2 (Ex.refl _) _ fun b H3 hb' e3 h3 => ?_
    obtain ⟨ds, k1, k2, k3⟩ := simple_list (K := K) (a := p) hs
    refine ⟨.list ds, .list [], .lst (sq_of (e3 _ _ h2)) (dp_monoAll e3 _ _ k1), .lst (sq_of h3) .nil, shaped_list k3, rfl, ?_⟩
    have z : PyData.eqv (.list ds) (.list []) = ys.isEmpty := by
      cases ys with
      | nil =>
        have : ds = [] := List.length_eq_zero_iff.mp k2
        rw [this]
        rfl
      | cons y r =>
        cases ds with
        | nil => simp at k2
        | cons d r2 => rfl
    rw [z]
    exact q H3 (e2.trans e3)
theorem ev_eqNilI {r : Addr} {ks : List Int} (ha : Ev ta σ H (.ref r)) (h : SqL K H r (ks.map V.int)) (hb : ∀ H1, Ex H H1 → EvL tb σ H1 []) : Ev (tOp (rEqD K) ta tb) σ H (.bl ks.isEmpty) := fun H1 e Q q =>
  ha H1 e _ fun H2 e2 => hb H2 (e.trans e2) H2 (Ex.refl _) _ fun b H3 hb' e3 h3 => by
    refine ⟨.list (ks.map PyData.int), .list [], dp_ints (ex_l ((e.trans e2).trans e3) h), .lst (sq_of h3) .nil, shaped_ints ks, rfl, ?_⟩
    have z : PyData.eqv (.list (ks.map PyData.int)) (.list []) = ks.isEmpty := by cases ks <;> rfl
    rw [z]
    exact q H3 (e2.trans e3)
theorem cutV_from (xs : List V) (n : Nat) : cutV xs (some (n : Int)) none = xs.drop n := by
  unfold cutV
  rw [show HT.sIx xs.length 0 (some (n : Int)) = min n xs.length from HT.sIx_nat xs.length 0 n, HT.sIx_none]
  by_cases h : n ≤ xs.length
  · rw [Nat.min_eq_left h, List.take_of_length_le (by rw [List.length_drop]; omega)]
  · rw [Nat.min_eq_right (by omega), List.drop_of_length_le (Nat.le_refl _), List.drop_of_length_le (by omega)]
    exact List.take_nil
/-! ### argument lists whose items are things -/
def EvS (ta : TA) (σ : L2.St) (H : Hp) (R : List V → Hp → Prop) : Prop := ∀ H1, Ex H H1 → ∀ Q : List V → Hp → Prop, (∀ vs H2, Ex H1 H2 → R vs H2 → Q vs H2) → ta σ H1 Q
theorem es_nil : EvS tNil σ H fun vs _ => vs = [] := fun H1 _ Q q => q [] H1 (Ex.refl _) rfl
/-- n things, none an object of H -/
def AllS (H0 : Hp) (n : Nat) (vs : List V) (H : Hp) : Prop := vs.length = n ∧ ∀ v ∈ vs, Simple H v ∧ ∀ b, v = .ref b → H0 b = none
theorem es0 : EvS tNil σ H (AllS H 0) := fun H1 _ Q q => q [] H1 (Ex.refl _) ⟨rfl, fun _ h => by cases h⟩
theorem AllS.cons {H0 : Hp} {n : Nat} {vs : List V} (h : Simple H v) (f : ∀ b, v = .ref b → H0 b = none) (k : AllS H0 n vs H) : AllS H0 (n + 1) (v :: vs) H := ⟨by rw [List.length_cons, k.1], fun w hw => (List.mem_cons.mp hw).elim (fun e => e ▸ ⟨h, f⟩) (k.2 w)⟩
theorem es_v {tr : TA} {n : Nat} (h : Ev te σ H v) (hs : Simple H v) (k : EvS tr σ H (AllS H n)) (f : ∀ b, v = .ref b → H b = none := by intro _ z; cases z) : EvS (tCons te tr) σ H (AllS H (n + 1)) := fun H1 e Q q =>
  h H1 e _ fun H2 e2 => k H2 (e.trans e2) _ fun vs H3 e3 r => q _ H3 (e2.trans e3) (AllS.cons (hs.mono ((e.trans e2).trans e3)) f r)
theorem es_l {tr : TA} {n : Nat} {ns : List Int} (h : EvL te σ H (ns.map V.int)) (k : EvS tr σ H (AllS H n)) : EvS (tCons te tr) σ H (AllS H (n + 1)) := fun H1 e Q q =>
  h H1 e _ fun p H2 hp e2 h2 => k H2 (e.trans e2) _ fun vs H3 e3 r => q _ H3 (e2.trans e3) (AllS.cons (Simple.lst (e3 _ _ h2)) (fun b z => by cases z; exact fresh_back e hp) r)
theorem es_u {tr : TA} {n : Nat} {ns : List Int} (h : EvU te σ H (ns.map V.int)) (k : EvS tr σ H (AllS H n)) : EvS (tCons te tr) σ H (AllS H (n + 1)) := fun H1 e Q q =>
  h H1 e _ fun p H2 hp e2 h2 => k H2 (e.trans e2) _ fun vs H3 e3 r => q _ H3 (e2.trans e3) (AllS.cons (Simple.tup (e3 _ _ h2)) (fun b z => by cases z; exact fresh_back e hp) r)
/-- a thing is told, none of the objects that were there -/
def RetS (H : Hp) (Q : VK) : Prop := ∀ v H2, Ex H H2 → Simple H2 v → (∀ b, v = .ref b → H b = none) → Q v H2
/-- an item of a list of things written there -/
theorem s_retItem {ts : TA} {n : Nat} {j : Nat} (h : EvS ts σ H (AllS H n)) (hi : Ev te σ H (.int (j : Int))) (hj : j < n) (hn : n ≤ 1000) (q : RetS H D.rt) : tRet (tOp (rIxL K) (tLst ts) te) D σ H :=
  h H (Ex.refl _) _ fun vs H2 e2 r => ⟨sz_of (by rw [r.1]; omega), fun p hp => hi (upd H2 p (.lst vs)) (e2.trans (Ex.new hp)) _ fun H3 e3 => by
    have hjl : j < vs.length := by rw [r.1]; exact hj
    refine ⟨p, vs, (j : Int), vs[j], rfl, rfl, sq_of (e3 _ _ upd_same), ?_, ?_⟩
    · unfold atI
      rw [ixN_nat hjl]
      exact List.getElem?_eq_getElem hjl
    · exact q _ H3 ((e2.trans (Ex.new hp)).trans e3) ((r.2 _ (List.getElem_mem hjl)).1.mono ((Ex.new hp).trans e3)) (r.2 _ (List.getElem_mem hjl)).2⟩
/-! ### more of the same, small -/
theorem el_range {n : Nat} {ta : TE} (h : Ev ta σ H (.int (n : Int))) (hn : n ≤ 10000) : EvL (tLstRg (tRg1 ta)) σ H ((List.range n).map fun (i : Nat) => V.int (i : Int)) := fun H1 e Q q =>
  h H1 e _ fun H2 e2 => ⟨(n : Int), rfl, ⟨by omega, by omega, by omega, by omega, by omega⟩, fun p hp => by
    refine q p _ (fresh_back e2 hp) (e2.trans (Ex.new hp)) ?_
    rw [upd_same]
    unfold rgV
    rw [show ((n : Int) - 0).toNat = n by omega]
    congr 2
    refine List.map_congr_left fun i _ => ?_
    rw [Int.zero_add]⟩
/-- if b: xs.append(v) -/
theorem q_ifApp {b : Bool} {l : Addr} {xs : List V} (hl : H l = some (.lst xs)) (ht : EvT t σ H b) (ha : Ev ta σ H (.ref l)) (hv : Ev te σ H v) (hz : xs.length < 1000) (k : ∀ H1, ExB l H H1 → H1 l = some (.lst (xs ++ if b = true then [v] else [])) → tz D σ H1) :
    tSeq (tIfS t (tDrop (tBM K "list" rAppend ta (tCons te tNil))) tNext) tz D σ H := by
  refine q_when ht (fun hb H1 e1 => ?_) (fun hb H1 e1 => ?_)
  · refine s_app (D := { D with nx := tz D }) (e1 _ _ hl) (fun H2 e => ha H2 (e1.trans e)) (fun H2 e => hv H2 (e1.trans e)) (by omega) fun H2 e2 => ?_
    refine k _ (fun c o hc hb => ?_) ?_
    · rw [upd_ne hb]
      exact e2 _ _ (e1 _ _ hc)
    · rw [upd_same, if_pos hb]
  · refine k H1 (fun c o hc _ => e1 _ _ hc) ?_
    rw [e1 _ _ hl, hb]
    simp
theorem ev_isP {a : Addr} {D : Addr} {c : V} {cv : Value} {b : Bool} (C : ExcC K D) (ha : Ev ta σ H (.ref a)) (hc : Ev tb σ H c) (hr : ∀ u, RelV c u → u = cv) (hk : PySem.W.kitOne K (.ref D) cv = some b) : Ev (tCB (rIsP K a (.ref D)) (tCons ta (tCons tb tNil))) σ H (.bl b) := fun H1 e Q q =>
  ha H1 e _ fun H2 e2 => hc H2 (e.trans e2) _ fun H3 e3 => ⟨D, c, cv, b, rfl, C, rfl, hr, hk, q H3 (e2.trans e3)⟩
/-- a new tuple is told -/
def RetU (xs : List V) (H : Hp) (Q : VK) : Prop := ∀ p H2, H p = none → Ex H H2 → H2 p = some (.tup xs) → Q (.ref p) H2
theorem RetU.go {xs : List V} {Q : VK} (k : RetU xs H Q) (e : Ex H H') {p : Addr} {H2 : Hp} (hp : H' p = none) (e2 : Ex H' H2) (h : H2 p = some (.tup xs)) : Q (.ref p) H2 := k p H2 (fresh_back e hp) (e.trans e2) h
theorem ev_isList {a : Addr} {xs : List V} (h : Ev te σ H (.ref a)) (k : H a = some (.lst xs)) : Ev (tCB (rIsi K) (tCons te (tCons (tC (.ty "list")) tNil))) σ H (.bl true) := fun H1 e Q q =>
  h H1 e _ fun H2 e2 => ⟨.ref a, .ty "list", _, _, true, rfl, .ty _, .base (.lst ((e.trans e2) _ _ k)), kit_ty (by decide +kernel), q H2 e2⟩
theorem ev_isListU {a : Addr} {xs : List V} (h : Ev te σ H (.ref a)) (k : H a = some (.tup xs)) : Ev (tCB (rIsi K) (tCons te (tCons (tC (.ty "list")) tNil))) σ H (.bl false) := fun H1 e Q q =>
  h H1 e _ fun H2 e2 => ⟨.ref a, .ty "list", _, _, false, rfl, .ty _, .base (.tup ((e.trans e2) _ _ k)), kit_ty (by decide +kernel), q H2 e2⟩
def rMin2 : List V → Hp → VK → Prop := fun xs H Q => ∃ i j, xs = [.int i, .int j] ∧ Q (.int (if j < i then j else i)) H
theorem ev_min2 {i j : Int} (ha : Ev ta σ H (.int i)) (hb : Ev tb σ H (.int j)) : Ev (tCB rMin2 (tCons ta (tCons tb tNil))) σ H (.int (if j < i then j else i)) := fun H1 e Q q =>
  ha H1 e _ fun H2 e2 => hb H2 (e.trans e2) _ fun H3 e3 => ⟨i, j, rfl, q H3 (e2.trans e3)⟩
def rLenTx : List V → Hp → VK → Prop := fun xs H Q => ∃ z, xs = [.str z] ∧ z.length ≤ sizeLine ∧ Q (.int z.length) H
theorem ev_lenTx {l : List Nat} (ha : Ev ta σ H (.str (tx l))) (hl : l.length ≤ 100000) : Ev (tCB rLenTx (tCons ta tNil)) σ H (.int (l.length : Int)) := fun H1 e Q q =>
  ha H1 e _ fun H2 e2 => ⟨tx l, rfl, by rw [tx_len]; exact sz_of hl, by rw [tx_len]; exact q H2 e2⟩
theorem cutS_to (l : List Nat) (n : Nat) : cutS (tx l) none (some (n : Int)) = tx (l.take n) := by
  unfold cutS
  rw [HT.sIx_none, show HT.sIx (tx l).length (tx l).length (some (n : Int)) = min n (tx l).length from HT.sIx_nat _ _ n, tx_len]
  show tx ((l.drop 0).take (min n l.length - 0)) = _
  rw [List.drop_zero, Nat.sub_zero]
  congr 1
  by_cases h : n ≤ l.length
  · rw [Nat.min_eq_left h]
  · rw [Nat.min_eq_right (by omega), List.take_length, List.take_of_length_le (by omega)]
theorem ev_slTo {l : List Nat} {n : Nat} {th : TO} (ha : Ev ta σ H (.str (tx l))) (hh : EvO th σ H (some (n : Int))) (hl : l.length ≤ 100000) : Ev (tSl rSlS ta tNoPart th) σ H (.str (tx (l.take n))) := fun H1 e Q q =>
  ha H1 e _ fun H2 e2 => hh H2 (e.trans e2) _ fun H3 e3 => ⟨tx l, rfl, by rw [tx_len]; exact sz_of hl, by rw [cutS_to]; exact q H3 (e2.trans e3)⟩
theorem tx_app (a b : List Nat) : tx a ++ tx b = tx (a ++ b) := by
  show (⟨a.toArray ++ b.toArray⟩ : Str) = ⟨(a ++ b).toArray⟩
  rw [List.append_toArray]
theorem tx_inj {a b : List Nat} (h : tx a = tx b) : a = b := by
  have := congrArg (fun z : Str => z.cps.toList) h
  exact this
theorem rv_addTx {a b : List Nat} (h : a.length + b.length ≤ 100000) : RV (fun x y H Q => ∃ i j, x = .str i ∧ y = .str j ∧ i.length + j.length ≤ sizeLine ∧ Q (.str (i ++ j)) H) (.str (tx a)) (.str (tx b)) H (.str (tx (a ++ b))) := fun H1 _ _ q =>
  ⟨tx a, tx b, rfl, rfl, by rw [tx_len, tx_len]; exact sz_of h, by rw [tx_app]; exact q H1 (Ex.refl _)⟩
theorem canLay_tx {l : List Nat} (h : ∀ c ∈ l, c < 0x110000) : PyData.canLay0 (.str (tx l)) = true := by
  unfold PyData.canLay0
  unfold PyData.strOk
  rw [Array.all_eq_true]
  intro i hi
  exact decide_eq_true (h _ (List.getElem_mem (by simpa [tx] using hi)))
theorem ev_eqLL {xs ys : List V} {d e : PyData} (ha : EvL ta σ H xs) (hb : EvL tb σ H ys) (hd : ∀ p H1, H1 p = some (.lst xs) → Dp K H1 (.ref p) d) (he : ∀ p H1, H1 p = some (.lst ys) → Dp K H1 (.ref p) e) (sd : SeqAt.shaped d = true) (se : SeqAt.shaped e = true) : Ev (tOp (rEqD K) ta tb) σ H (.bl (PyData.eqv d e)) :=
  ev_opLL ha hb fun p q H1 h1 h2 _ H2 e2 Q k => ⟨d, e, dp_mono e2 d _ (hd p H1 h1), dp_mono e2 e _ (he q H1 h2), sd, se, k H2 (Ex.refl _)⟩
def vtx (l : List Nat) : V := .str (tx l)
def dtx (l : List Nat) : PyData := .str (tx l)
theorem dp_txs {a : Addr} {ws : List (List Nat)} (h : SqL K H a (ws.map vtx)) : Dp K H (.ref a) (.list (ws.map dtx)) := .lst h (dpAll_map fun _ _ => .str _)
theorem shaped_txs {ws : List (List Nat)} (h : ∀ u ∈ ws, ∀ c ∈ u, c < 0x110000) : SeqAt.shaped (.list (ws.map dtx)) = true := shaped_list fun d hd => by
  obtain ⟨u, hu, rfl⟩ := List.mem_map.mp hd
  exact ⟨canLay_tx (h u hu), Nat.zero_le _⟩
end
end Sl

/-! ### the depths of a tree's leaves, in their order -/
namespace Sl
inductive Leafs : Int → List Int → Prop where
  | leaf (d : Int) : Leafs d [d]
  | node {d : Int} {a b : List Int} : Leafs (d + 1) a → Leafs (d + 1) b → Leafs d (a ++ b)
theorem Leafs.ne {d : Int} {a : List Int} (h : Leafs d a) : a ≠ [] := by
  induction h with
  | leaf d => exact List.cons_ne_nil _ _
  | node _ _ ih1 ih2 => exact fun e => ih1 (List.append_eq_nil_iff.mp e).1
theorem Leafs.le {d : Int} {a : List Int} (h : Leafs d a) : ∀ x ∈ a, d ≤ x := by
  induction h with
  | leaf d => intro x hx; rw [List.mem_singleton.mp hx]; exact Int.le_refl _
  | node _ _ ih1 ih2 =>
    intro x hx
    rcases List.mem_append.mp hx with hx | hx
    · have := ih1 x hx; omega
    · have := ih2 x hx; omega
/-- a leaf becomes a fork -/
theorem Leafs.split {d : Int} {xs : List Int} (h : Leafs d xs) : ∀ {l r : List Int} {e : Int}, xs = l ++ e :: r → Leafs d (l ++ (e + 1) :: (e + 1) :: r) := by
  induction h with
  | leaf d =>
    intro l r e he
    cases l with
    | nil =>
      have := List.cons.inj he
      rw [← this.1, ← this.2]
      show Leafs d ([d + 1] ++ [d + 1])
      exact .node (.leaf _) (.leaf _)
    | cons y l =>
      have := (List.cons.inj he).2
      exact absurd this.symm (by simp)
  | @node d a b ha hb ih1 ih2 =>
    intro l r e he
    rcases List.append_eq_append_iff.mp he with ⟨m, h1, h2⟩ | ⟨m, h1, h2⟩
    · -- l = a ++ m
      rw [h1]
      have := Leafs.node ha (ih2 h2)
      rw [List.append_assoc]
      exact this
    · cases m with
      | nil =>
        rw [List.append_nil] at h1
        have h2' : e :: r = b := h2
        rw [← h1]
        have := Leafs.node ha (ih2 (l := []) h2'.symm)
        exact this
      | cons y m =>
        have hy := List.cons.inj h2
        rw [← hy.1] at h1
        have := Leafs.node (ih1 h1) hb
        rw [hy.2]
        rw [List.append_assoc] at this
        exact this
/-- what all leaves weigh -/
theorem Leafs.kraft {B : Nat} {d : Int} {xs : List Int} (h : Leafs d xs) (hd : 0 ≤ d) (hx : ∀ x ∈ xs, x ≤ (B : Int)) : (xs.map fun x => 2 ^ ((B : Int) - x).toNat).sum = 2 ^ ((B : Int) - d).toNat := by
  induction h with
  | leaf d => simp
  | @node d a b ha hb ih1 ih2 =>
    rw [List.map_append, List.sum_append, ih1 (by omega) fun x h => hx x (List.mem_append_left _ h), ih2 (by omega) fun x h => hx x (List.mem_append_right _ h)]
    obtain ⟨x, r, e⟩ : ∃ x r, a = x :: r := by
      cases a with
      | nil => exact absurd rfl ha.ne
      | cons x r => exact ⟨x, r, rfl⟩
    have h1 : d + 1 ≤ x := ha.le x (by rw [e]; exact List.mem_cons_self)
    have h2 : x ≤ (B : Int) := hx x (List.mem_append_left _ (by rw [e]; exact List.mem_cons_self))
    rw [show ((B : Int) - d).toNat = ((B : Int) - (d + 1)).toNat + 1 by omega, Nat.pow_succ]
    omega
end Sl

/-! ### words in order: each at the first place behind that its length allows -/
namespace Sl
open PySem L2 Evl
/-- the first multiple of s from p on -/
def up (p s : Nat) : Nat := (p + s - 1) / s * s
def endO (p : Nat) : List Int → Nat
  | [] => p
  | l :: r => endO (up p (sz l) + sz l) r
def wordsO (p : Nat) : List Int → List (List Nat)
  | [] => []
  | l :: r => word (up p (sz l)) l :: wordsO (up p (sz l) + sz l) r
theorem up_le {p s : Nat} (h : 0 < s) : p ≤ up p s := by
  unfold up
  have h1 := Nat.div_add_mod (p + s - 1) s
  have h2 := Nat.mod_lt (p + s - 1) h
  rw [Nat.mul_comm] at h1
  omega
theorem up_mod (p s : Nat) : up p s = up p s / s * s := by
  unfold up
  rcases Nat.eq_zero_or_pos s with h | h
  · subst h; simp
  · rw [Nat.mul_div_cancel _ h]
/-- the same by the remainder -/
theorem up_eq {p s : Nat} (h : 0 < s) : up p s = if 0 < p % s then p + s - p % s else p := by
  unfold up
  have h1 := Nat.div_add_mod p s
  have h2 := Nat.mod_lt p h
  split
  · rename_i hp
    have e : (p + s - 1) / s = p / s + 1 := by
      rw [show p + s - 1 = (p % s - 1) + s * (p / s + 1) by rw [Nat.mul_add, Nat.mul_one]; omega, Nat.add_mul_div_left _ _ h, Nat.div_eq_of_lt (by omega)]
      omega
    rw [e, Nat.add_mul, Nat.one_mul, Nat.mul_comm]
    omega
  · rename_i hp
    have e : (p + s - 1) / s = p / s := by
      rw [show p + s - 1 = (s - 1) + s * (p / s) by omega, Nat.add_mul_div_left _ _ h, Nat.div_eq_of_lt (by omega)]
      omega
    rw [e, Nat.mul_comm]
    omega
theorem endO_le : ∀ (ls : List Int) (p : Nat), p ≤ endO p ls
  | [], p => Nat.le_refl p
  | l :: r, p => Nat.le_trans (Nat.le_trans (up_le (sz_pos l)) (Nat.le_add_right _ _)) (endO_le r _)
theorem endO_sum : ∀ (ls : List Int) (p : Nat), p + (ls.map sz).sum ≤ endO p ls
  | [], p => Nat.le_refl p
  | l :: r, p => by
    have h := endO_sum r (up p (sz l) + sz l)
    have k := up_le (p := p) (sz_pos l)
    show p + (sz l :: r.map sz).sum ≤ endO (up p (sz l) + sz l) r
    rw [List.sum_cons]
    omega
theorem endO_app : ∀ (a b : List Int) (p : Nat), endO p (a ++ b) = endO (endO p a) b
  | [], _, _ => rfl
  | l :: r, b, p => endO_app r b _
theorem wordsO_app : ∀ (a b : List Int) (p : Nat), wordsO p (a ++ b) = wordsO p a ++ wordsO (endO p a) b
  | [], _, _ => rfl
  | l :: r, b, p => by
    show word _ l :: wordsO _ (r ++ b) = word _ l :: (wordsO _ r ++ wordsO (endO _ r) b)
    rw [wordsO_app r b]
theorem wordsO_len : ∀ (ls : List Int) (p : Nat), (wordsO p ls).length = ls.length
  | [], _ => rfl
  | l :: r, p => congrArg (· + 1) (wordsO_len r _)
theorem endO_take (ls : List Int) (i : Nat) : endO 0 (ls.take i) ≤ endO 0 ls := by
  conv => rhs; rw [← List.take_append_drop i ls, endO_app]
  exact endO_le _ _
theorem endO_step {ls : List Int} {i : Nat} {l : Int} (h : ls[i]? = some l) : endO 0 (ls.take (i + 1)) = up (endO 0 (ls.take i)) (sz l) + sz l := by
  rw [List.take_add_one, h, endO_app]
  rfl
theorem wordsO_step {ls : List Int} {i : Nat} {l : Int} (h : ls[i]? = some l) : wordsO 0 (ls.take (i + 1)) = wordsO 0 (ls.take i) ++ [word (up (endO 0 (ls.take i)) (sz l)) l] := by
  rw [List.take_add_one, h, wordsO_app]
  rfl
theorem wordsO_at {ls : List Int} {i : Nat} {l : Int} (h : ls[i]? = some l) : (wordsO 0 ls)[i]? = some (word (up (endO 0 (ls.take i)) (sz l)) l) := by
  have hi := (List.getElem?_eq_some_iff.mp h).1
  have e : ls = ls.take i ++ l :: ls.drop (i + 1) := by
    have := (List.getElem?_eq_some_iff.mp h).2
    rw [← this, ← List.drop_eq_getElem_cons hi, List.take_append_drop]
  conv => lhs; rw [e, wordsO_app]
  rw [List.getElem?_append_right (by rw [wordsO_len, List.length_take]; omega), wordsO_len, List.length_take, show i - min i ls.length = 0 by omega]
  rfl
/-- places of an earlier sign lie ahead of a later one's -/
theorem placesO_lt {ls : List Int} {i j : Nat} {l m : Int} (hij : i < j) (hi : ls[i]? = some l) (hj : ls[j]? = some m) : up (endO 0 (ls.take i)) (sz l) + sz l ≤ up (endO 0 (ls.take j)) (sz m) := by
  have h1 := endO_step hi
  have h2 : endO 0 (ls.take (i + 1)) ≤ endO 0 (ls.take j) := by
    have := endO_take (ls.take j) (i + 1)
    rw [List.take_take, Nat.min_eq_left (by omega)] at this
    exact this
  have h3 := up_le (p := endO 0 (ls.take j)) (sz_pos m)
  omega
/-- two words at places whose quotients differ -/
theorem word_apartQ {p r : Nat} {l m : Int} (hl : 1 ≤ l) (hm : m ≤ 12) (hlm : l ≤ m) (hp : p < 4096) (hr : r < 4096) (h : p / sz l ≠ r / sz l) : (word r m).take l.toNat ≠ word p l := by
  intro e
  have l2 : l ≤ 12 := by omega
  have e1 : (word r m).take l.toNat = word r l := by
    unfold word
    rw [List.take_take, Nat.min_eq_left (by omega)]
  rw [e1, word_eq (by omega) l2, word_eq (by omega) l2] at e
  have e4096 : sz l * 2 ^ l.toNat = 4096 := by
    unfold sz
    rw [← Nat.pow_add]
    have : (12 - l).toNat + l.toNat = 12 := by omega
    rw [this]
  have b1 : p / sz l < 2 ^ l.toNat := Nat.div_lt_of_lt_mul (by rw [e4096]; exact hp)
  have b2 : r / sz l < 2 ^ l.toNat := Nat.div_lt_of_lt_mul (by rw [e4096]; exact hr)
  exact h (bits_inj _ b2 b1 e).symm
theorem wordsO_apart {ls : List Int} (h : LensOk ls) (hs : endO 0 ls ≤ 4096) {i j : Nat} {u v : List Nat} (hij : i ≠ j) (hu : (wordsO 0 ls)[i]? = some u) (hv : (wordsO 0 ls)[j]? = some v) : v.take u.length ≠ u := by
  have hi : i < ls.length := by
    have := (List.getElem?_eq_some_iff.mp hu).1
    rw [wordsO_len] at this
    exact this
  have hj : j < ls.length := by
    have := (List.getElem?_eq_some_iff.mp hv).1
    rw [wordsO_len] at this
    exact this
  have gi := List.getElem?_eq_getElem hi
  have gj := List.getElem?_eq_getElem hj
  obtain ⟨l, hl⟩ : ∃ l, l = ls[i] := ⟨_, rfl⟩
  obtain ⟨m, hm⟩ : ∃ m, m = ls[j] := ⟨_, rfl⟩
  rw [← hl] at gi
  rw [← hm] at gj
  have li := h l (List.mem_of_getElem? gi)
  have mj := h m (List.mem_of_getElem? gj)
  have eu : u = _ := Option.some.inj (hu.symm.trans (wordsO_at gi))
  have ev : v = _ := Option.some.inj (hv.symm.trans (wordsO_at gj))
  have bi : up (endO 0 (ls.take i)) (sz l) + sz l ≤ 4096 := by
    rw [← endO_step gi]
    exact Nat.le_trans (endO_take ls _) hs
  have bj : up (endO 0 (ls.take j)) (sz m) + sz m ≤ 4096 := by
    rw [← endO_step gj]
    exact Nat.le_trans (endO_take ls _) hs
  have pl := sz_pos l
  have pm := sz_pos m
  have lu : u.length = l.toNat := by rw [eu]; exact word_len (by omega) li.2
  have lv : v.length = m.toNat := by rw [ev]; exact word_len (by omega) mj.2
  by_cases hlm : l ≤ m
  · rw [lu, ev, eu]
    refine word_apartQ li.1 mj.2 hlm (by omega) (by omega) ?_
    rcases Nat.lt_or_gt_of_ne hij with q | q
    · have := placesO_lt q gi gj
      have : (up (endO 0 (ls.take i)) (sz l) + sz l) / sz l ≤ up (endO 0 (ls.take j)) (sz m) / sz l := Nat.div_le_div_right this
      rw [Nat.add_div_right _ pl] at this
      omega
    · have k := placesO_lt q gj gi
      have e := up_mod (endO 0 (ls.take i)) (sz l)
      have : up (endO 0 (ls.take j)) (sz m) / sz l < up (endO 0 (ls.take i)) (sz l) / sz l := by
        rw [Nat.div_lt_iff_lt_mul pl, ← e]
        omega
      omega
  · intro z
    have := congrArg List.length z
    rw [List.length_take, lu, lv] at this
    omega
/-! ### words rise as texts do -/
theorem bits_headO (i : Nat) : ∀ n, bits n (i + 1) = (48 + n / 2 ^ i % 2) :: bits n i := by
  induction i with
  | zero => intro n; show [] ++ [48 + n % 2] = _; rw [Nat.pow_zero, Nat.div_one]; rfl
  | succ i ih =>
    intro n
    show bits (n / 2) (i + 1) ++ [48 + n % 2] = _
    rw [ih, Nat.div_div_eq_div_mul, Nat.pow_succ, Nat.mul_comm (2 ^ i) 2]
    rfl
theorem bits_modO : ∀ (k n : Nat), bits (n % 2 ^ k) k = bits n k
  | 0, _ => rfl
  | k + 1, n => by
    show bits (n % 2 ^ (k + 1) / 2) k ++ [48 + n % 2 ^ (k + 1) % 2] = bits (n / 2) k ++ [48 + n % 2]
    have e1 : n % 2 ^ (k + 1) / 2 = n / 2 % 2 ^ k := by
      rw [Nat.pow_succ, Nat.mul_comm (2 ^ k) 2]
      exact Nat.mod_mul_right_div_self n 2 (2 ^ k)
    have e2 : n % 2 ^ (k + 1) % 2 = n % 2 := Nat.mod_mod_of_dvd n (by rw [Nat.pow_succ]; exact Nat.dvd_mul_left 2 _)
    rw [e1, e2, bits_modO k]
theorem bits_lt : ∀ (k n m : Nat), n < m → m < 2 ^ k → bits n k < bits m k
  | 0, n, m, h1, h2 => by rw [Nat.pow_zero] at h2; omega
  | k + 1, n, m, h1, h2 => by
    rw [bits_headO, bits_headO]
    have pk : 0 < 2 ^ k := Nat.pow_pos (by decide)
    have tn : n / 2 ^ k < 2 := Nat.div_lt_of_lt_mul (by rw [Nat.pow_succ] at h2; omega)
    have tm : m / 2 ^ k < 2 := Nat.div_lt_of_lt_mul (by rw [Nat.pow_succ] at h2; omega)
    have le : n / 2 ^ k ≤ m / 2 ^ k := Nat.div_le_div_right (Nat.le_of_lt h1)
    rw [Nat.mod_eq_of_lt tn, Nat.mod_eq_of_lt tm]
    rcases Nat.lt_or_eq_of_le le with q | q
    · exact List.Lex.rel (by omega)
    · rw [q, ← bits_modO k n, ← bits_modO k m]
      refine List.Lex.cons (bits_lt k _ _ ?_ (Nat.mod_lt _ pk))
      have e1 := Nat.div_add_mod n (2 ^ k)
      have e2 := Nat.div_add_mod m (2 ^ k)
      rw [q] at e1
      omega
/-- of two lists that differ, one less: so are beginnings of them that are no beginnings of each other -/
theorem take_lt : ∀ {A B : List Nat} {a b : Nat}, A < B → (B.take b).take (A.take a).length ≠ A.take a → (A.take a).take (B.take b).length ≠ B.take b → A.take a < B.take b
  | [], B, a, b, h, h1, _ => by
    exact absurd (by simp) h1
  | x :: A, [], a, b, h, _, _ => by cases h
  | x :: A, y :: B, 0, b, h, h1, _ => absurd (by simp) h1
  | x :: A, y :: B, a + 1, 0, h, _, h2 => absurd (by simp) h2
  | x :: A, y :: B, a + 1, b + 1, h, h1, h2 => by
    show x :: A.take a < y :: B.take b
    cases h with
    | rel h => exact List.Lex.rel h
    | cons h =>
      refine List.Lex.cons (take_lt h (fun z => h1 ?_) (fun z => h2 ?_))
      · show x :: (B.take b).take (A.take a).length = x :: A.take a
        rw [z]
      · show x :: (A.take a).take (B.take b).length = x :: B.take b
        rw [z]
theorem wordsO_rise {ls : List Int} (h : LensOk ls) (hs : endO 0 ls ≤ 4096) : (wordsO 0 ls).Pairwise (· < ·) := by
  rw [List.pairwise_iff_getElem]
  intro i j hi hj hij
  have gi := List.getElem?_eq_getElem hi
  have gj := List.getElem?_eq_getElem hj
  have a1 := wordsO_apart h hs (Nat.ne_of_lt hij) gi gj
  have a2 := wordsO_apart h hs (Nat.ne_of_gt hij) gj gi
  rw [wordsO_len] at hi hj
  have li := wordsO_at (List.getElem?_eq_getElem hi)
  have lj := wordsO_at (List.getElem?_eq_getElem hj)
  rw [gi] at li
  rw [gj] at lj
  have ei := Option.some.inj li
  have ej := Option.some.inj lj
  rw [ei, ej] at a1 a2 ⊢
  unfold word at a1 a2 ⊢
  refine take_lt (bits_lt 12 _ _ ?_ ?_) a1 a2
  · have := placesO_lt hij (List.getElem?_eq_getElem hi) (List.getElem?_eq_getElem hj)
    have := sz_pos ls[i]
    omega
  · have b := endO_step (List.getElem?_eq_getElem hj)
    have c := endO_take ls (j + 1)
    have := sz_pos ls[j]
    show _ < 4096
    omega
theorem wordsO_small {ls : List Int} (h : LensOk ls) : ∀ u ∈ wordsO 0 ls, (∀ c ∈ u, c < 0x110000) ∧ u.length ≤ 12 := by
  intro u hu
  obtain ⟨i, hi, rfl⟩ := List.getElem_of_mem hu
  have gi := List.getElem?_eq_getElem hi
  rw [wordsO_len] at hi
  have li := wordsO_at (List.getElem?_eq_getElem hi)
  rw [gi] at li
  rw [Option.some.inj li]
  have hl := h ls[i] (List.getElem_mem hi)
  refine ⟨fun c hc => ?_, ?_⟩
  · unfold word at hc
    exact bits_small (List.mem_of_mem_take hc)
  · rw [word_len (by omega) hl.2]
    omega
/-! ### sorted of texts that rise -/
theorem rising_pairs : ∀ (p : Str) (l : List Str), PyProof.Rows.sortedS (p :: l) = true → (p :: l).Pairwise fun a b => ¬ b.cps.toList < a.cps.toList
  | p, [], _ => List.pairwise_singleton _ _
  | p, x :: r, h => by
    have h' : (!PySem.Spec.ltCps x.cps.toList p.cps.toList && PyProof.Rows.sortedS (x :: r)) = true := h
    rw [Bool.and_eq_true] at h'
    have ih := rising_pairs x r h'.2
    have h1 : ¬ x.cps.toList < p.cps.toList := by
      have := h'.1
      rw [PyProof.Rows.ltCps_eq] at this
      simpa using this
    refine List.pairwise_cons.mpr ⟨fun y hy => ?_, ih⟩
    rcases List.mem_cons.mp hy with rfl | hy
    · exact h1
    · have h2 := (List.pairwise_cons.mp ih).1 y hy
      exact List.le_trans (l₁ := p.cps.toList) (l₂ := x.cps.toList) (l₃ := y.cps.toList) h1 h2
theorem sorted_same {ws : List (List Nat)} (h : ws.Pairwise (· < ·)) {ys : List Str} (hp : ys.Perm (ws.map tx)) (hs : PyProof.Rows.sortedS ys = true) : ys = ws.map tx := by
  refine List.Perm.eq_of_pairwise (le := fun a b : Str => ¬ b.cps.toList < a.cps.toList) (fun a b ha hb h1 h2 => ?_) ?_ ?_ hp
  · have e : a.cps.toList = b.cps.toList := List.le_antisymm h1 h2
    obtain ⟨u, _, rfl⟩ := List.mem_map.mp (hp.mem_iff.mp ha)
    obtain ⟨v, _, rfl⟩ := List.mem_map.mp hb
    have e' : u = v := e
    rw [e']
  · cases ys with
    | nil => exact List.Pairwise.nil
    | cons p l => exact rising_pairs p l hs
  · rw [List.pairwise_map]
    refine List.Pairwise.imp (fun {a b} k => ?_) h
    show ¬ b < a
    exact fun z => List.lt_irrefl a (List.lt_trans k z)
theorem el_sortedS {K : PySem.W.Frag} {σ : L2.St} {H : Hp} {ta : TE} {a : Addr} {ws : List (List Nat)} (ha : Ev ta σ H (.ref a)) (hS : SqL K H a (ws.map vtx)) (hl : ws.length < 64) (h : ws.Pairwise (· < ·)) : EvL (tCB (rSortedS K) (tCons ta tNil)) σ H (ws.map vtx) := fun H1 e Q q =>
  ha H1 e _ fun H2 e2 => ⟨a, ws.map tx, rfl, by
    rw [List.map_map]
    exact ex_l (e.trans e2) hS, by rw [List.length_map]; exact hl, fun ys p hp hs hn => by
    rw [sorted_same h hp hs, List.map_map]
    exact q p _ (fresh_back e2 hn) (e2.trans (Ex.new hn)) upd_same⟩

end Sl

/-! ### the text by places -/
namespace Sl
open PySem PySem.Spec PyProof.Rows L2 Evl
def topS (i : Nat) : Stmt := PySem.Challenge.pw_shortlimit_k05_words_in_order.main.body.getD i (.Pass ⟨0, 0, 0, 0⟩)
abbrev s_is_number : Stmt := topS 13
abbrev N_is_number : List Str := ["thing", "least", "most"]
theorem sc_is_number : FnScope N_is_number ["thing", "least", "most"] (defScope s_is_number) := ⟨rfl, rfl, rfl, by decide +kernel, rfl, by decide +kernel, by decide +kernel⟩
abbrev s_check_bound : Stmt := topS 14
abbrev N_check_bound : List Str := ["bound"]
theorem sc_check_bound : FnScope N_check_bound ["bound"] (defScope s_check_bound) := ⟨rfl, rfl, rfl, by decide +kernel, rfl, by decide +kernel, by decide +kernel⟩
abbrev s_check_lengths : Stmt := topS 15
abbrev N_check_lengths : List Str := ["lengths", "bound", "length"]
theorem sc_check_lengths : FnScope N_check_lengths ["lengths", "bound"] (defScope s_check_lengths) := ⟨rfl, rfl, rfl, by decide +kernel, rfl, by decide +kernel, by decide +kernel⟩
abbrev s_places : Stmt := topS 17
abbrev N_places : List Str := ["length", "bound"]
theorem sc_places : FnScope N_places ["length", "bound"] (defScope s_places) := ⟨rfl, rfl, rfl, by decide +kernel, rfl, by decide +kernel, by decide +kernel⟩
abbrev s_room : Stmt := topS 18
abbrev N_room : List Str := ["bound"]
theorem sc_room : FnScope N_room ["bound"] (defScope s_room) := ⟨rfl, rfl, rfl, by decide +kernel, rfl, by decide +kernel, by decide +kernel⟩
abbrev s_counted : Stmt := topS 19
abbrev N_counted : List Str := ["lengths", "bound", "length"]
theorem sc_counted : FnScope N_counted ["lengths", "bound"] (defScope s_counted) := ⟨rfl, rfl, rfl, by decide +kernel, rfl, by decide +kernel, by decide +kernel⟩
abbrev s_u_check_sum : Stmt := topS 21
abbrev N_u_check_sum : List Str := ["lengths"]
theorem sc_u_check_sum : FnScope N_u_check_sum ["lengths"] (defScope s_u_check_sum) := ⟨rfl, rfl, rfl, by decide +kernel, rfl, by decide +kernel, by decide +kernel⟩
abbrev s_u_word_from : Stmt := topS 22
abbrev N_u_word_from : List Str := ["first", "length"]
theorem sc_u_word_from : FnScope N_u_word_from ["first", "length"] (defScope s_u_word_from) := ⟨rfl, rfl, rfl, by decide +kernel, rfl, by decide +kernel, by decide +kernel⟩
abbrev s_words_in_order : Stmt := topS 23
abbrev N_words_in_order : List Str := ["lengths", "words", "behind", "length", "size", "first"]
theorem sc_words_in_order : FnScope N_words_in_order ["lengths"] (defScope s_words_in_order) := ⟨rfl, rfl, rfl, by decide +kernel, rfl, by decide +kernel, by decide +kernel⟩
abbrev s_lw_cell : Stmt := topS 25
abbrev N_lw_cell : List Str := ["_law_script", "_law_k", "_law_number"]
theorem sc_lw_cell : FnScope N_lw_cell ["_law_script", "_law_k"] (defScope s_lw_cell) := ⟨rfl, rfl, rfl, by decide +kernel, rfl, by decide +kernel, by decide +kernel⟩
abbrev s_lw_whole : Stmt := topS 26
abbrev N_lw_whole : List Str := ["_law_found"]
theorem sc_lw_whole : FnScope N_lw_whole ["_law_found"] (defScope s_lw_whole) := ⟨rfl, rfl, rfl, by decide +kernel, rfl, by decide +kernel, by decide +kernel⟩
abbrev s_lw_doubled : Stmt := topS 27
abbrev N_lw_doubled : List Str := ["_law_times", "_law_found", "_law_turn"]
theorem sc_lw_doubled : FnScope N_lw_doubled ["_law_times"] (defScope s_lw_doubled) := ⟨rfl, rfl, rfl, by decide +kernel, rfl, by decide +kernel, by decide +kernel⟩
abbrev s_lw_strange : Stmt := topS 28
abbrev N_lw_strange : List Str := ["_law_cell_here", "_law_low", "_law_high", "_law_far"]
theorem sc_lw_strange : FnScope N_lw_strange ["_law_cell_here", "_law_low", "_law_high"] (defScope s_lw_strange) := ⟨rfl, rfl, rfl, by decide +kernel, rfl, by decide +kernel, by decide +kernel⟩
abbrev s_lw_is : Stmt := topS 29
abbrev N_lw_is : List Str := ["_law_thing", "_law_low", "_law_high"]
theorem sc_lw_is : FnScope N_lw_is ["_law_thing", "_law_low", "_law_high"] (defScope s_lw_is) := ⟨rfl, rfl, rfl, by decide +kernel, rfl, by decide +kernel, by decide +kernel⟩
abbrev s_lw_all : Stmt := topS 30
abbrev N_lw_all : List Str := ["_law_things", "_law_low", "_law_high", "_law_thing"]
theorem sc_lw_all : FnScope N_lw_all ["_law_things", "_law_low", "_law_high"] (defScope s_lw_all) := ⟨rfl, rfl, rfl, by decide +kernel, rfl, by decide +kernel, by decide +kernel⟩
abbrev s_lw_word_of : Stmt := topS 31
abbrev N_lw_word_of : List Str := ["_law_error", "_law_found"]
theorem sc_lw_word_of : FnScope N_lw_word_of ["_law_error"] (defScope s_lw_word_of) := ⟨rfl, rfl, rfl, by decide +kernel, rfl, by decide +kernel, by decide +kernel⟩
abbrev s_lw_leaves : Stmt := topS 32
abbrev N_lw_leaves : List Str := ["_law_script", "_law_first", "_law_many", "_law_bound", "_law_depths", "_law_k", "_law_at", "_law_shallow"]
theorem sc_lw_leaves : FnScope N_lw_leaves ["_law_script", "_law_first", "_law_many", "_law_bound"] (defScope s_lw_leaves) := ⟨rfl, rfl, rfl, by decide +kernel, rfl, by decide +kernel, by decide +kernel⟩
abbrev s_lw_order : Stmt := topS 33
abbrev N_lw_order : List Str := ["_law_script", "_law_first", "_law_many", "_law_left", "_law_found", "_law_k"]
theorem sc_lw_order : FnScope N_lw_order ["_law_script", "_law_first", "_law_many"] (defScope s_lw_order) := ⟨rfl, rfl, rfl, by decide +kernel, rfl, by decide +kernel, by decide +kernel⟩
abbrev s_lw_lengths : Stmt := topS 34
abbrev N_lw_lengths : List Str := ["_law_script", "_law_many", "_law_way", "_law_lengths_here", "_law_order_here", "_law_k", "_law_at"]
theorem sc_lw_lengths : FnScope N_lw_lengths ["_law_script"] (defScope s_lw_lengths) := ⟨rfl, rfl, rfl, by decide +kernel, rfl, by decide +kernel, by decide +kernel⟩
abbrev s_lw_bits : Stmt := topS 35
abbrev N_lw_bits : List Str := ["_law_number", "_law_length", "_law_word", "_law_k"]
theorem sc_lw_bits : FnScope N_lw_bits ["_law_number", "_law_length"] (defScope s_lw_bits) := ⟨rfl, rfl, rfl, by decide +kernel, rfl, by decide +kernel, by decide +kernel⟩
abbrev s_lw_apart : Stmt := topS 36
abbrev N_lw_apart : List Str := ["_law_words", "_law_at", "_law_here"]
theorem sc_lw_apart : FnScope N_lw_apart ["_law_words"] (defScope s_lw_apart) := ⟨rfl, rfl, rfl, by decide +kernel, rfl, by decide +kernel, by decide +kernel⟩
abbrev s_lw_due : Stmt := topS 37
abbrev N_lw_due : List Str := ["_law_lengths_here", "_law_length", "_law_words", "_law_place", "_law_many"]
theorem sc_lw_due : FnScope N_lw_due ["_law_lengths_here"] (defScope s_lw_due) := ⟨rfl, rfl, rfl, by decide +kernel, rfl, by decide +kernel, by decide +kernel⟩
abbrev s_lw_told : Stmt := topS 38
abbrev N_lw_told : List Str := ["_law_lengths_here", "_law_error"]
theorem sc_lw_told : FnScope N_lw_told ["_law_lengths_here"] (defScope s_lw_told) := ⟨rfl, rfl, rfl, by decide +kernel, rfl, by decide +kernel, by decide +kernel⟩
abbrev s_law : Stmt := topS 39
abbrev N_law : List Str := ["_law_script", "_law_lengths_here", "_law_handed", "_law_found", "_law_due_here"]
theorem sc_law : FnScope N_law ["_law_script"] (defScope s_law) := ⟨rfl, rfl, rfl, by decide +kernel, rfl, by decide +kernel, by decide +kernel⟩
/-- a def behind the top -/
structure Def (K : PySem.W.Frag) (mg : Str → Option Value) (x : Str) (st : Stmt) (f : Addr) (fd : FuncData) (ps : List Str) : Prop where
  F : Fun K x x st f fd
  g : mg x = some (.ref f)
  b : Binds K fd ps []
/-- an own class of errors -/
structure XCls (K : PySem.W.Frag) (mg : Str → Option Value) (x : Str) (C : Addr) : Prop where
  gC : mg x = some (.ref C)
  xC : PySem.W.excIn K C [.type "ValueError", .type "Exception", .type "BaseException", .type "object"] "ValueError.__new__" = true
  kC : PySem.W.keepIn K (.ref C) = true
  bC : PySem.W.subIn K (.ref C) (.type "BaseException") = some true
  tC : PySem.W.typeIn K (.ref C) = some (.type "type")
structure Blt (mg : Str → Option Value) : Prop where
  b_ValueError : mg "ValueError" = none
  b_bool : mg "bool" = none
  b_int : mg "int" = none
  b_isinstance : mg "isinstance" = none
  b_len : mg "len" = none
  b_list : mg "list" = none
  b_max : mg "max" = none
  b_min : mg "min" = none
  b_range : mg "range" = none
  b_sorted : mg "sorted" = none
  b_sum : mg "sum" = none
structure Adr where
  f_is_number : Addr
  d_is_number : FuncData
  f_check_bound : Addr
  d_check_bound : FuncData
  f_check_lengths : Addr
  d_check_lengths : FuncData
  f_places : Addr
  d_places : FuncData
  f_room : Addr
  d_room : FuncData
  f_counted : Addr
  d_counted : FuncData
  f_u_check_sum : Addr
  d_u_check_sum : FuncData
  f_u_word_from : Addr
  d_u_word_from : FuncData
  f_words_in_order : Addr
  d_words_in_order : FuncData
  f_lw_cell : Addr
  d_lw_cell : FuncData
  f_lw_whole : Addr
  d_lw_whole : FuncData
  f_lw_doubled : Addr
  d_lw_doubled : FuncData
  f_lw_strange : Addr
  d_lw_strange : FuncData
  f_lw_is : Addr
  d_lw_is : FuncData
  f_lw_all : Addr
  d_lw_all : FuncData
  f_lw_word_of : Addr
  d_lw_word_of : FuncData
  f_lw_leaves : Addr
  d_lw_leaves : FuncData
  f_lw_order : Addr
  d_lw_order : FuncData
  f_lw_lengths : Addr
  d_lw_lengths : FuncData
  f_lw_bits : Addr
  d_lw_bits : FuncData
  f_lw_apart : Addr
  d_lw_apart : FuncData
  f_lw_due : Addr
  d_lw_due : FuncData
  f_lw_told : Addr
  d_lw_told : FuncData
  f_law : Addr
  d_law : FuncData
  C_CodeError : Addr
  C_NoWeights : Addr
  C_BadWeight : Addr
  C_BadBound : Addr
  C_NoRoom : Addr
  C_BadLengths : Addr
  C_BadWords : Addr
  C_BadBits : Addr
  C_NoSign : Addr
def errNames : List Str := ["NoWeights", "BadWeight", "BadBound", "NoRoom", "BadLengths", "BadWords", "BadBits", "NoSign"]
/-- what is asked of a class of errors, nm its name -/
structure Err (K : PySem.W.Frag) (t : Adr) (D : Addr) (nm : Str) : Prop where
  C : ExcC K D
  one : nm ∈ errNames
  k1 : PySem.W.kitOne K (.ref D) (.ref t.C_NoWeights) = some (decide (nm = ("NoWeights" : Str)))
  k2 : PySem.W.kitOne K (.ref D) (.ref t.C_BadWeight) = some (decide (nm = ("BadWeight" : Str)))
  k3 : PySem.W.kitOne K (.ref D) (.ref t.C_BadBound) = some (decide (nm = ("BadBound" : Str)))
  k4 : PySem.W.kitOne K (.ref D) (.ref t.C_NoRoom) = some (decide (nm = ("NoRoom" : Str)))
  k5 : PySem.W.kitOne K (.ref D) (.ref t.C_BadLengths) = some (decide (nm = ("BadLengths" : Str)))
  k6 : PySem.W.kitOne K (.ref D) (.ref t.C_BadWords) = some (decide (nm = ("BadWords" : Str)))
  k7 : PySem.W.kitOne K (.ref D) (.ref t.C_BadBits) = some (decide (nm = ("BadBits" : Str)))
  k8 : PySem.W.kitOne K (.ref D) (.ref t.C_NoSign) = some (decide (nm = ("NoSign" : Str)))
  kV : PySem.W.kitOne K (.ref D) (.type "ValueError") = some true
  sub : PySem.W.exmOne K (.ref D) (.ref t.C_CodeError) = some true
structure Top (K : PySem.W.Frag) (mg : Str → Option Value) (t : Adr) : Prop where
  b : Blt mg
  is_number : Def K mg "is_number" s_is_number t.f_is_number t.d_is_number ["thing", "least", "most"]
  check_bound : Def K mg "check_bound" s_check_bound t.f_check_bound t.d_check_bound ["bound"]
  check_lengths : Def K mg "check_lengths" s_check_lengths t.f_check_lengths t.d_check_lengths ["lengths", "bound"]
  places : Def K mg "places" s_places t.f_places t.d_places ["length", "bound"]
  room : Def K mg "room" s_room t.f_room t.d_room ["bound"]
  counted : Def K mg "counted" s_counted t.f_counted t.d_counted ["lengths", "bound"]
  u_check_sum : Def K mg "_check_sum" s_u_check_sum t.f_u_check_sum t.d_u_check_sum ["lengths"]
  u_word_from : Def K mg "_word_from" s_u_word_from t.f_u_word_from t.d_u_word_from ["first", "length"]
  words_in_order : Def K mg "words_in_order" s_words_in_order t.f_words_in_order t.d_words_in_order ["lengths"]
  lw_cell : Def K mg "_law_cell" s_lw_cell t.f_lw_cell t.d_lw_cell ["_law_script", "_law_k"]
  lw_whole : Def K mg "_law_whole" s_lw_whole t.f_lw_whole t.d_lw_whole ["_law_found"]
  lw_doubled : Def K mg "_law_doubled" s_lw_doubled t.f_lw_doubled t.d_lw_doubled ["_law_times"]
  lw_strange : Def K mg "_law_strange" s_lw_strange t.f_lw_strange t.d_lw_strange ["_law_cell_here", "_law_low", "_law_high"]
  lw_is : Def K mg "_law_is" s_lw_is t.f_lw_is t.d_lw_is ["_law_thing", "_law_low", "_law_high"]
  lw_all : Def K mg "_law_all" s_lw_all t.f_lw_all t.d_lw_all ["_law_things", "_law_low", "_law_high"]
  lw_word_of : Def K mg "_law_word_of" s_lw_word_of t.f_lw_word_of t.d_lw_word_of ["_law_error"]
  lw_leaves : Def K mg "_law_leaves" s_lw_leaves t.f_lw_leaves t.d_lw_leaves ["_law_script", "_law_first", "_law_many", "_law_bound"]
  lw_order : Def K mg "_law_order" s_lw_order t.f_lw_order t.d_lw_order ["_law_script", "_law_first", "_law_many"]
  lw_lengths : Def K mg "_law_lengths" s_lw_lengths t.f_lw_lengths t.d_lw_lengths ["_law_script"]
  lw_bits : Def K mg "_law_bits" s_lw_bits t.f_lw_bits t.d_lw_bits ["_law_number", "_law_length"]
  lw_apart : Def K mg "_law_apart" s_lw_apart t.f_lw_apart t.d_lw_apart ["_law_words"]
  lw_due : Def K mg "_law_due" s_lw_due t.f_lw_due t.d_lw_due ["_law_lengths_here"]
  lw_told : Def K mg "_law_told" s_lw_told t.f_lw_told t.d_lw_told ["_law_lengths_here"]
  law : Def K mg "law" s_law t.f_law t.d_law ["_law_script"]
  C_CodeError : XCls K mg "CodeError" t.C_CodeError
  C_NoWeights : XCls K mg "NoWeights" t.C_NoWeights
  C_BadWeight : XCls K mg "BadWeight" t.C_BadWeight
  C_BadBound : XCls K mg "BadBound" t.C_BadBound
  C_NoRoom : XCls K mg "NoRoom" t.C_NoRoom
  C_BadLengths : XCls K mg "BadLengths" t.C_BadLengths
  C_BadWords : XCls K mg "BadWords" t.C_BadWords
  C_BadBits : XCls K mg "BadBits" t.C_BadBits
  C_NoSign : XCls K mg "NoSign" t.C_NoSign
  c_MOST_SIGNS : ∃ u, mg "MOST_SIGNS" = some u ∧ RelV (.int 24) u
  c_MOST_BITS : ∃ u, mg "MOST_BITS" = some u ∧ RelV (.int 12) u
  E_BadLengths : Err K t t.C_BadLengths "BadLengths"
variable {P : Program} {w : World} {K : PySem.W.Frag} {mg : Str → Option Value} {base : Heap} {t : Adr}
end Sl
namespace Sl
open PySem PySem.Spec PyProof.Rows L2 Evl
section
variable {P : Program} {w : World} {K : PySem.W.Frag} {mg : Str → Option Value} {base : Heap} {t : Adr}
/-! is_number -/
def spNumber : Sp := fun vs H Q _ => ∃ (x : V) (lo hi : Int), vs = [x, .int lo, .int hi] ∧ Thing H x ∧ RetV (.bl (within lo hi x)) H Q
theorem sv_number {H : Hp} {x : V} {lo hi : Int} (k : Thing H x) : SpV spNumber ([x, .int lo, .int hi] ++ []) H (.bl (within lo hi x)) := fun H1 e Q q E => ⟨x, lo, hi, rfl, k.mono e, q⟩
theorem ok_is_number (T : Top K mg t) : FnOk P w K mg base CX0 1 t.f_is_number t.d_is_number ["thing", "least", "most"] spNumber := by
  refine T.is_number.F.ok sc_is_number (fun vs H Q E h => ?_) (fun cdv A outer s H vs Q E hr h => ?_)
  · obtain ⟨x, lo, hi, rfl, _⟩ := h
    rfl
  · obtain ⟨x, lo, hi, rfl, k, q⟩ := h
    refine ⟨_, (pss_cons (ps_if (PW.pt (pw_or (pt_val (pe_callB (r := rIsi K) call_isi (by rfl) T.b.b_isinstance (by decide +kernel) (pa_cons (pv 0) (pa_cons (pe_bltn (v := .ty "bool") (by rfl) T.b.b_bool (by decide +kernel) rfl) pa_nil)))) (pw_or1 (pt_not (pt_val (pe_callB (r := rIsi K) call_isi (by rfl) T.b.b_isinstance (by decide +kernel) (pa_cons (pv 0) (pa_cons (pe_bltn (v := .ty "int") (by rfl) T.b.b_int (by decide +kernel) rfl) pa_nil)))))))) (pss_one (ps_ret pe_bl)) pss_nil)
      (pss_one (ps_ret (pe_chain op_le op_le (pv 1) (pv 0) (pv 2))))), ?_⟩
    refine q_when (et_or (et_B (ev_isBool (ev_var rfl) k)) fun _ => et_not (et_B (ev_isInt (ev_var rfl) k))) (fun hb H1 e1 => ?_) (fun hb H1 e1 => ?_)
    · refine s_ret ev_c fun H2 e2 => ?_
      have z : within lo hi x = false := by
        cases x <;> first | rfl | (exact absurd (show false = true from hb) (by decide))
      rw [z] at q
      exact q H2 (e1.trans e2)
    · cases x with
      | int i =>
        refine s_ret (ev_chain (ev_var rfl) (ev_var rfl) (ev_var rfl)) fun H2 e2 => ?_
        exact q H2 (e1.trans e2)
      | _ => exact absurd (show true = false from hb) (by decide)
end
end Sl
namespace Sl
open PySem PySem.Spec PyProof.Rows L2 Evl
section
variable {P : Program} {w : World} {K : PySem.W.Frag} {mg : Str → Option Value} {base : Heap} {t : Adr}
/-! check_bound -/
def spCheckBound (C : Addr) : Sp := fun vs H Q E => ∃ x : V, vs = [x] ∧ Thing H x ∧ (within 1 12 x = true → RetV .non H Q) ∧ (within 1 12 x = false → ∀ H1, Ex H H1 → E (.ref C) none H1)
theorem sv_bound {C : Addr} {H : Hp} {b : Int} (h : 1 ≤ b ∧ b ≤ 12) : SpV (spCheckBound C) ([.int b] ++ []) H .non := fun H1 e Q q E =>
  ⟨.int b, rfl, .int b, fun _ => q, fun z => absurd z (by show ¬ (decide (1 ≤ b) && decide (b ≤ 12)) = false; rw [decide_eq_true h.1, decide_eq_true h.2]; decide)⟩
theorem ok_check_bound (T : Top K mg t) : FnOk P w K mg base (L2.CX P w) 2 t.f_check_bound t.d_check_bound ["bound"] (spCheckBound t.C_BadBound) := by
  refine T.check_bound.F.okX sc_check_bound (fun vs H Q E h => ?_) (fun cdv A outer s H vs Q E hr h => ?_)
  · obtain ⟨x, rfl, _⟩ := h
    rfl
  · obtain ⟨x, rfl, k, q, r⟩ := h
    refine ⟨_, (pss_one (ps_if (pt_not (pt_val (pe_call (ok_is_number T) (hr.mono (by decide)) (by rfl) T.is_number.g T.is_number.F.kp T.is_number.b .nil pass0 (pa_cons (pv 0) (pa_cons pe_int (pa_cons (pe_glob (v := .int 12) rfl T.c_MOST_BITS.choose_spec.1 T.c_MOST_BITS.choose_spec.2) pa_nil)))))) (pss_one (ps_raise rfl (takes_of rfl rfl rfl rfl) (SkE.pmk_own1 PySem.F.excBase_ValueError T.C_BadBound.xC T.C_BadBound.gC T.C_BadBound.kC (raises_own T.C_BadBound.bC T.C_BadBound.tC) rfl (pe_joined (.cons pe_str (.cons (pe_fmt (pe_glob (v := .int 12) rfl T.c_MOST_BITS.choose_spec.1 T.c_MOST_BITS.choose_spec.2)) .nil)))))) pss_nil)), ?_⟩
    refine s_when (et_not (et_B (ev_call (ea_cons (ev_var rfl) (ea_cons ev_c (ea_cons ev_c ea_nil))) (sv_number k)))) (fun hb H1 e1 => ?_) (fun hb H1 e1 => ?_)
    · refine ⟨_, rfl, by decide +kernel, .inr ⟨12, rfl, by decide, _, rfl, by decide +kernel, ?_⟩⟩
      exact r (by simpa using hb) H1 e1
    · exact q (by simpa using hb) H1 e1
end
end Sl
namespace Sl
open PySem PySem.Spec PyProof.Rows L2 Evl
section
variable {P : Program} {w : World} {K : PySem.W.Frag} {mg : Str → Option Value} {base : Heap} {t : Adr}
/-! check_lengths -/
def okLens (lo hi : Int) (xs : List V) : Bool := decide (xs.length ≤ 24) && xs.all (within lo hi)
def spCheckLengths (K : PySem.W.Frag) (C : Addr) : Sp := fun vs H Q E => ∃ (a : Addr) (xs : List V) (b : Int), vs = [.ref a, .int b] ∧ SqL K H a xs ∧ (∀ x ∈ xs, Thing H x) ∧ 1 ≤ b ∧ b ≤ 12 ∧
  (okLens 1 b xs = true → RetV .non H Q) ∧ (okLens 1 b xs = false → ∀ H1, Ex H H1 → E (.ref C) none H1)
theorem text12 {b : Int} (h1 : 1 ≤ b) (h2 : b ≤ 12) (z : Str) (hz : z.length ≤ 100) : (z ++ (toString b : Str)).length ≤ sizeLine := by
  have k : ((toString b : Str)).length ≤ 2 := by
    have h : b = 1 ∨ b = 2 ∨ b = 3 ∨ b = 4 ∨ b = 5 ∨ b = 6 ∨ b = 7 ∨ b = 8 ∨ b = 9 ∨ b = 10 ∨ b = 11 ∨ b = 12 := by omega
    rcases h with rfl | rfl | rfl | rfl | rfl | rfl | rfl | rfl | rfl | rfl | rfl | rfl <;> decide +kernel
  have e : (z ++ (toString b : Str)).length = z.length + (toString b : Str).length := by
    show (z.cps ++ (toString b : Str).cps).size = z.cps.size + (toString b : Str).cps.size
    exact Array.size_append
  rw [e]
  exact Nat.le_trans (Nat.add_le_add hz k) (by decide)
theorem log12 {b : Int} (h1 : 1 ≤ b) (h2 : b ≤ 12) : b.natAbs.log2 < 1920 := by
  have h : b = 1 ∨ b = 2 ∨ b = 3 ∨ b = 4 ∨ b = 5 ∨ b = 6 ∨ b = 7 ∨ b = 8 ∨ b = 9 ∨ b = 10 ∨ b = 11 ∨ b = 12 := by omega
  rcases h with rfl | rfl | rfl | rfl | rfl | rfl | rfl | rfl | rfl | rfl | rfl | rfl <;> decide
theorem ok_check_lengths (T : Top K mg t) : FnOk P w K mg base (L2.CX P w) 2 t.f_check_lengths t.d_check_lengths ["lengths", "bound"] (spCheckLengths K t.C_BadLengths) := by
  refine T.check_lengths.F.okX sc_check_lengths (fun vs H Q E h => ?_) (fun cdv A outer s H vs Q E hr h => ?_)
  · obtain ⟨a, xs, b, rfl, _⟩ := h
    rfl
  · obtain ⟨a, xs, b, rfl, hS, hT, h1, h2, q, r⟩ := h
    refine ⟨_, (pss_cons (ps_if (pt_cmpR op_gt (pe_callB (r := rLenS K) call_len_seq (by rfl) T.b.b_len (by decide +kernel) (pa_cons (pv 0) pa_nil)) (pe_glob (v := .int 24) rfl T.c_MOST_SIGNS.choose_spec.1 T.c_MOST_SIGNS.choose_spec.2) (nomark _)) (pss_one (ps_raise rfl (takes_of rfl rfl rfl rfl) (SkE.pmk_own1 PySem.F.excBase_ValueError T.C_BadLengths.xC T.C_BadLengths.gC T.C_BadLengths.kC (raises_own T.C_BadLengths.bC T.C_BadLengths.tC) rfl (pe_joined (.cons pe_str (.cons (pe_fmt (pe_glob (v := .int 24) rfl T.c_MOST_SIGNS.choose_spec.1 T.c_MOST_SIGNS.choose_spec.2)) (.cons pe_str .nil))))))) pss_nil)
      (pss_one (ps_for (passes_of rfl) rfl (pi_list (pv 0)) (pg_name (i := 2) sc_check_lengths.nd rfl (.inl rfl)) (pss_one (ps_if (pt_not (pt_val (pe_call (ok_is_number T) (hr.mono (by decide)) (by rfl) T.is_number.g T.is_number.F.kp T.is_number.b .nil pass0 (pa_cons (pv 2) (pa_cons pe_int (pa_cons (pv 1) pa_nil)))))) (pss_one (ps_raise rfl (takes_of rfl rfl rfl rfl) (SkE.pmk_own1 PySem.F.excBase_ValueError T.C_BadLengths.xC T.C_BadLengths.gC T.C_BadLengths.kC (raises_own T.C_BadLengths.bC T.C_BadLengths.tC) rfl (pe_joined (.cons pe_str (.cons (pe_fmt (pv 1)) .nil)))))) pss_nil))))), ?_⟩
    refine q_when (et_test (ev_op (ev_len (ev_var rfl) hS) ev_c rv_I0)) (fun hb H1 e1 => ?_) (fun hb H1 e1 => ?_)
    · refine ⟨_, rfl, by decide +kernel, .inr ⟨24, rfl, by decide, _, rfl, by decide +kernel, _, rfl, by decide +kernel, ?_⟩⟩
      refine r ?_ H1 e1
      have z : ¬ xs.length ≤ 24 := by
        have := of_decide_eq_true hb
        omega
      unfold okLens
      rw [decide_eq_false z]
      rfl
    · have hl : xs.length ≤ 24 := by
        have := of_decide_eq_false hb
        omega
      refine s_forLn (ev_var rfl) (ex_l e1 hS) (fun i σ' H' => Ex H H' ∧ (∃ v2, σ' = [some (.ref a), some (.int b), v2]) ∧ (xs.take i).all (within 1 b) = true) (fun H2 e2 => ⟨e1.trans e2, ⟨_, rfl⟩, rfl⟩) (fun i σ' H' _ p => ex_l p.1 hS) (fun i x σ' H' hx p => ?_) (fun σ' H' p => ?_)
      · obtain ⟨e', ⟨v2, rfl⟩, pa⟩ := p
        have hm : x ∈ xs := List.mem_of_getElem? hx
        have hi : i < xs.length := (List.getElem?_eq_some_iff.mp hx).1
        have et : xs.take (i + 1) = xs.take i ++ [x] := by rw [List.take_add_one, hx]; rfl
        refine s_when (et_not (et_B (ev_call (ea_cons (ev_var rfl) (ea_cons ev_c (ea_cons (ev_var rfl) ea_nil))) (sv_number ((hT x hm).mono e'))))) (fun hb H2 e2 => ?_) (fun hb H2 e2 => ?_)
        · refine ⟨_, rfl, by decide +kernel, ⟨_, rfl, .inr ⟨b, rfl, log12 h1 h2, _, rfl, text12 h1 h2 _ (by decide +kernel), ?_⟩⟩⟩
          refine r ?_ H2 (e'.trans e2)
          have hb' : within 1 b x = false := by simpa using hb
          have z : xs.all (within 1 b) = false := by
            rw [Bool.eq_false_iff]
            intro h
            rw [List.all_eq_true.mp h x hm] at hb'
            cases hb'
          unfold okLens
          rw [z, Bool.and_false]
        · have hb' : within 1 b x = true := by simpa using hb
          refine ⟨e'.trans e2, ⟨_, rfl⟩, ?_⟩
          rw [et, List.all_append, pa, List.all_cons, hb']
          rfl
      · obtain ⟨e', _, pa⟩ := p
        rw [List.take_length] at pa
        refine q ?_ H' e'
        unfold okLens
        rw [pa, decide_eq_true hl]
        rfl
end
end Sl
namespace Sl
open PySem PySem.Spec PyProof.Rows L2 Evl
section
variable {P : Program} {w : World} {K : PySem.W.Frag} {mg : Str → Option Value} {base : Heap} {t : Adr}
/-! places -/
def spPlaces : Sp := fun vs H Q _ => ∃ l b : Int, vs = [.int l, .int b] ∧ l ≤ b ∧ b ≤ 1000 ∧ 0 ≤ l ∧ RetV (.int (2 ^ (b - l).toNat)) H Q
theorem sv_places {H : Hp} {l b : Int} (h1 : l ≤ b) (h2 : b ≤ 1000) (h3 : 0 ≤ l) : SpV spPlaces ([.int l, .int b] ++ []) H (.int (2 ^ (b - l).toNat)) := fun H1 e Q q E => ⟨l, b, rfl, h1, h2, h3, q⟩
theorem ok_places (T : Top K mg t) : FnOk P w K mg base CX0 1 t.f_places t.d_places ["length", "bound"] spPlaces := by
  refine T.places.F.ok sc_places (fun vs H Q E h => ?_) (fun cdv A outer s H vs Q E hr h => ?_)
  · obtain ⟨l, b, rfl, _⟩ := h
    rfl
  · obtain ⟨l, b, rfl, h1, h2, h3, q⟩ := h
    refine ⟨_, (pss_one (ps_ret (pe_op op_shl pe_int (pe_op op_sub (pv 1) (pv 0))))), ?_⟩
    refine s_ret (ev_op ev_c (ev_op (ev_var rfl) (ev_var rfl) rv_I0) (rv_I ⟨by omega, by omega, by decide⟩)) fun H1 e1 => ?_
    have z := q H1 e1
    rw [← Int.one_mul (2 ^ (b - l).toNat)] at z
    exact z
end
end Sl
namespace Sl
open PySem PySem.Spec PyProof.Rows L2 Evl
section
variable {P : Program} {w : World} {K : PySem.W.Frag} {mg : Str → Option Value} {base : Heap} {t : Adr}
/-! room -/
def spRoom (C : Addr) : Sp := fun vs H Q E => ∃ x : V, vs = [x] ∧ Thing H x ∧ (∀ b : Int, x = .int b → 1 ≤ b → b ≤ 12 → RetV (.int (2 ^ b.toNat)) H Q) ∧ (within 1 12 x = false → ∀ H1, Ex H H1 → E (.ref C) none H1)
theorem within_int {lo hi : Int} {x : V} (h : within lo hi x = true) : ∃ i, x = .int i ∧ lo ≤ i ∧ i ≤ hi := by
  cases x with
  | int i =>
    have z : (decide (lo ≤ i) && decide (i ≤ hi)) = true := h
    rw [Bool.and_eq_true] at z
    exact ⟨i, rfl, of_decide_eq_true z.1, of_decide_eq_true z.2⟩
  | _ => exact absurd (show false = true from h) (by decide)
theorem within_yes {lo hi i : Int} (h1 : lo ≤ i) (h2 : i ≤ hi) : within lo hi (.int i) = true := by
  show (decide (lo ≤ i) && decide (i ≤ hi)) = true
  rw [decide_eq_true h1, decide_eq_true h2]
  rfl
theorem sv_room {C : Addr} {H : Hp} {b : Int} (h1 : 1 ≤ b) (h2 : b ≤ 12) : SpV (spRoom C) ([.int b] ++ []) H (.int (2 ^ b.toNat)) := fun H1 e Q q E =>
  ⟨.int b, rfl, .int b, fun c hc _ _ => by cases hc; exact q, fun z => absurd z (by rw [within_yes h1 h2]; decide)⟩
theorem ok_room (T : Top K mg t) : FnOk P w K mg base (L2.CX P w) 3 t.f_room t.d_room ["bound"] (spRoom t.C_BadBound) := by
  refine T.room.F.okX sc_room (fun vs H Q E h => ?_) (fun cdv A outer s H vs Q E hr h => ?_)
  · obtain ⟨x, rfl, _⟩ := h
    rfl
  · obtain ⟨x, rfl, k, q, r⟩ := h
    refine ⟨_, (pss_cons (ps_expr (pe_call (ok_check_bound T) (hr.mono (by decide)) (by rfl) T.check_bound.g T.check_bound.F.kp T.check_bound.b .nil (passes_call (takes_of rfl rfl rfl rfl) fun _ _ _ _ h => h) (pa_cons (pv 0) pa_nil)))
      (pss_one (ps_ret (pe_op op_shl pe_int (pv 0))))), ?_⟩
    refine ⟨x, rfl, x, rfl, k, fun hw H1 e1 => ?_, r⟩
    obtain ⟨b, rfl, h1, h2⟩ := within_int hw
    refine s_ret (ev_op ev_c (ev_var rfl) (rv_I ⟨by omega, by omega, by decide⟩)) fun H2 e2 => ?_
    have z := q b rfl h1 h2 H2 (e1.trans e2)
    rw [← Int.one_mul (2 ^ b.toNat)] at z
    exact z
end
end Sl
namespace Sl
open PySem PySem.Spec PyProof.Rows L2 Evl
section
variable {P : Program} {w : World} {K : PySem.W.Frag} {mg : Str → Option Value} {base : Heap} {t : Adr}
/-! counted -/
def placesOf (b : Int) : V → Int
  | .int l => 2 ^ (b - l).toNat
  | _ => 0
def sumOf (b : Int) (xs : List V) : Int := (xs.map (placesOf b)).sum
/-- a list of things and a whole number as a bound -/
def spCounted (K : PySem.W.Frag) (CL CB : Addr) : Sp := fun vs H Q E => ∃ (a : Addr) (xs : List V) (y : V), vs = [.ref a, y] ∧ SqL K H a xs ∧ (∀ x ∈ xs, Thing H x) ∧ Thing H y ∧
  (∀ b : Int, y = .int b → 1 ≤ b → b ≤ 12 → okLens 1 b xs = true → RetV (.int (sumOf b xs)) H Q) ∧
  (∀ b : Int, y = .int b → 1 ≤ b → b ≤ 12 → okLens 1 b xs = false → ∀ H1, Ex H H1 → E (.ref CL) none H1) ∧
  (within 1 12 y = false → ∀ H1, Ex H H1 → E (.ref CB) none H1)
theorem given_all (n : Nat) (v : Nat → V) : given n (fun _ => true) v = (List.range n).map v := by
  unfold given
  rw [List.filter_eq_self.mpr fun _ _ => rfl]
theorem map_range_of {α β : Type} (xs : List α) (f : α → β) (g : Nat → β) (h : ∀ i x, xs[i]? = some x → g i = f x) : (List.range xs.length).map g = xs.map f := by
  refine List.ext_getElem? fun i => ?_
  rw [List.getElem?_map, List.getElem?_map]
  by_cases hi : i < xs.length
  · rw [List.getElem?_range hi, List.getElem?_eq_getElem hi]
    show some (g i) = some (f xs[i])
    rw [h i xs[i] (List.getElem?_eq_getElem hi)]
  · rw [List.getElem?_eq_none (by simpa using hi), List.getElem?_eq_none (by simpa using hi)]
    rfl
theorem ok_counted (T : Top K mg t) : FnOk P w K mg base (L2.CX P w) 3 t.f_counted t.d_counted ["lengths", "bound"] (spCounted K t.C_BadLengths t.C_BadBound) := by
  refine T.counted.F.okX sc_counted (fun vs H Q E h => ?_) (fun cdv A outer s H vs Q E hr h => ?_)
  · obtain ⟨a, xs, y, rfl, _⟩ := h
    rfl
  · obtain ⟨a, xs, y, rfl, hS, hT, ky, q, r1, r2⟩ := h
    refine ⟨_, (pss_cons (ps_expr (pe_call (ok_check_bound T) (hr.mono (by decide)) (by rfl) T.check_bound.g T.check_bound.F.kp T.check_bound.b .nil (passes_call (takes_of rfl rfl rfl rfl) fun _ _ _ _ h => h) (pa_cons (pv 1) pa_nil)))
      (pss_cons (ps_expr (pe_call (ok_check_lengths T) (hr.mono (by decide)) (by rfl) T.check_lengths.g T.check_lengths.F.kp T.check_lengths.b .nil (passes_call (takes_of rfl rfl rfl rfl) fun _ _ _ _ h => h) (pa_cons (pv 0) (pa_cons (pv 1) pa_nil))))
      (pss_one (ps_ret (pe_callB (r := rSum K) (cr_sum rfl) (by rfl) T.b.b_sum (by decide +kernel) (pa_cons (pe_lc (own := [("length", 2)]) (g := gName 2) (tt := tYes) rfl sc_counted.nd (pi_list (pv 0)) (blkOk_by (own := [("length", 2)]) (N := N_counted) (sc := defScope s_counted) (by decide +kernel)) (fun _ _ _ _ _ => (pg_name (i := 2) sc_counted.nd rfl (.inl rfl))) (fun _ _ _ _ _ => pts_nil) (fun _ _ _ _ _ => (pe_call (ok_places T) (hr.mono (by decide)) (by rfl) T.places.g T.places.F.kp T.places.b .nil pass0 (pa_cons (pv 2) (pa_cons (pv 1) pa_nil))))) pa_nil)))))), ?_⟩
    refine ⟨y, rfl, y, rfl, ky, fun hw H1 e1 => ?_, r2⟩
    obtain ⟨b, rfl, h1, h2⟩ := within_int hw
    refine ⟨.ref a, rfl, .int b, rfl, a, xs, b, rfl, ex_l e1 hS, fun x hx => (hT x hx).mono e1, h1, h2, fun hk H2 e2 => ?_, fun hk H2 e2 => r1 b rfl h1 h2 hk H2 (e1.trans e2)⟩
    have hl : xs.length ≤ 24 ∧ xs.all (within 1 b) = true := by
      have z := hk
      unfold okLens at z
      rw [Bool.and_eq_true] at z
      exact ⟨of_decide_eq_true z.1, z.2⟩
    have e12 := e1.trans e2
    have ha : ∀ (i : Nat) (x : V), xs[i]? = some x → ∃ l : Int, x = .int l ∧ 1 ≤ l ∧ l ≤ b := fun i x hx => within_int (List.all_eq_true.mp hl.2 x (List.mem_of_getElem? hx))
    have hc := el_lcL (σ := [some (V.ref a), some (V.int b), none]) (H := H2) (j := 2) (vs := [2]) (te := tCall spPlaces [] E0 (tCons (tVar 2) (tCons (tVar 1) tNil))) (t := tYes) (K := K) (tl := tVar 0) (fun _ => true) (fun i => .int (placesOf b (xs.getD i .non)))
      (ev_var rfl) (ex_l e12 hS) (by omega) (fun x => rfl) (fun i x H3 e3 hx => et_yes) (fun i x H3 e3 hx _ => by
        obtain ⟨l, rfl, l1, l2⟩ := ha i x hx
        have eg : xs.getD i .non = .int l := by rw [List.getD_eq_getElem?_getD, hx]; rfl
        rw [eg]
        exact ev_call (ea_cons (ev_var rfl) (ea_cons (ev_var rfl) ea_nil)) (sv_places l2 (by omega) (by omega)))
    rw [given_all, map_range_of xs (fun x => V.int (placesOf b x)) _ fun i x hx => by rw [List.getD_eq_getElem?_getD, hx]; rfl] at hc
    have hc' := ev_sum (K := K) (ns := xs.map (placesOf b)) (by rw [List.map_map]; exact hc)
    refine s_ret hc' fun H3 e3 => ?_
    exact q b rfl h1 h2 hk H3 (e12.trans e3)
end
end Sl
namespace Sl
open PySem PySem.Spec PyProof.Rows L2 Evl
section
variable {P : Program} {w : World} {K : PySem.W.Frag} {mg : Str → Option Value} {base : Heap} {t : Adr}
/-! _check_sum -/
def okSum (xs : List V) : Bool := okLens 1 12 xs && decide (sumOf 12 xs ≤ 4096)
def spCheckSum (K : PySem.W.Frag) (C : Addr) : Sp := fun vs H Q E => ∃ (a : Addr) (xs : List V), vs = [.ref a] ∧ SqL K H a xs ∧ (∀ x ∈ xs, Thing H x) ∧ (okSum xs = true → RetV .non H Q) ∧ (okSum xs = false → ∀ H1, Ex H H1 → E (.ref C) none H1)
theorem ok_u_check_sum (T : Top K mg t) : FnOk P w K mg base (L2.CX P w) 4 t.f_u_check_sum t.d_u_check_sum ["lengths"] (spCheckSum K t.C_BadLengths) := by
  refine T.u_check_sum.F.okX sc_u_check_sum (fun vs H Q E h => ?_) (fun cdv A outer s H vs Q E hr h => ?_)
  · obtain ⟨a, xs, rfl, _⟩ := h
    rfl
  · obtain ⟨a, xs, rfl, hS, hT, q, r⟩ := h
    refine ⟨_, (pss_one (ps_if (pt_cmpR op_gt (pe_call (ok_counted T) (hr.mono (by decide)) (by rfl) T.counted.g T.counted.F.kp T.counted.b .nil (passes_call (takes_of rfl rfl rfl rfl) fun _ _ _ _ h => h) (pa_cons (pv 0) (pa_cons (pe_glob (v := .int 12) rfl T.c_MOST_BITS.choose_spec.1 T.c_MOST_BITS.choose_spec.2) pa_nil))) (pe_call (ok_room T) (hr.mono (by decide)) (by rfl) T.room.g T.room.F.kp T.room.b .nil (passes_call (takes_of rfl rfl rfl rfl) fun _ _ _ _ h => h) (pa_cons (pe_glob (v := .int 12) rfl T.c_MOST_BITS.choose_spec.1 T.c_MOST_BITS.choose_spec.2) pa_nil)) (nomark _)) (pss_one (ps_raise rfl (takes_of rfl rfl rfl rfl) (SkE.pmk_own1 PySem.F.excBase_ValueError T.C_BadLengths.xC T.C_BadLengths.gC T.C_BadLengths.kC (raises_own T.C_BadLengths.bC T.C_BadLengths.tC) rfl pe_str))) pss_nil)), ?_⟩
    refine ⟨.ref a, rfl, a, xs, .int 12, rfl, hS, hT, .int 12, fun b hb _ _ hk H1 e1 => ?_, fun b hb _ _ hk H1 e1 => ?_, fun hf => absurd hf (by decide)⟩
    · cases hb
      refine (ev_call (σ := [some (V.ref a)]) (H := H1) (ea_cons (ev_c (v := .int 12)) ea_nil) (sv_room (by decide) (by decide))) H1 (Ex.refl _) _ fun H2 e2 => ?_
      refine ⟨_, _, rfl, rfl, _, rfl, ?_⟩
      have e12 := e1.trans e2
      refine ite2 (fun h => ?_) (fun h => ?_)
      · have h' : (4096 : Int) < sumOf 12 xs := of_decide_eq_true h
        refine r ?_ H2 e12
        unfold okSum
        rw [hk, decide_eq_false (by omega)]
        rfl
      · have h' : ¬ (4096 : Int) < sumOf 12 xs := fun z => h (decide_eq_true z)
        refine q ?_ H2 e12
        unfold okSum
        rw [hk, decide_eq_true (by omega)]
        rfl
    · cases hb
      refine r ?_ H1 e1
      unfold okSum
      rw [hk]
      rfl
end
end Sl
namespace Sl
open PySem PySem.Spec PyProof.Rows L2 Evl
section
variable {P : Program} {w : World} {K : PySem.W.Frag} {mg : Str → Option Value} {base : Heap} {t : Adr}
/-! _word_from -/
def spWordFrom : Sp := fun vs H Q _ => ∃ (p : Nat) (l : Int), vs = [.int (p : Int), .int l] ∧ p < 4096 ∧ 0 ≤ l ∧ l ≤ 12 ∧ RetV (.str (tx (word p l))) H Q
theorem sv_wordFrom {H : Hp} {p : Nat} {l : Int} (h : p < 4096) (h0 : 0 ≤ l) (h1 : l ≤ 12) : SpV spWordFrom ([.int (p : Int), .int l] ++ []) H (.str (tx (word p l))) := fun H1 e Q q E => ⟨p, l, rfl, h, h0, h1, q⟩
theorem ok_u_word_from (T : Top K mg t) : FnOk P w K mg base CX0 1 t.f_u_word_from t.d_u_word_from ["first", "length"] spWordFrom := by
  refine T.u_word_from.F.ok sc_u_word_from (fun vs H Q E h => ?_) (fun cdv A outer s H vs Q E hr h => ?_)
  · obtain ⟨p, l, rfl, _⟩ := h
    rfl
  · obtain ⟨p, l, rfl, hp, h0, h1, q⟩ := h
    refine ⟨_, (pss_one (ps_ret (pe_slice sl_str (pe_bm PySem.F.plainAttrs_str PySem.F.slot_str_zfill PySem.F.type_str_zfill mt_zfill (pe_joined1 (pe_fmtb (pv 0))) (pa_cons (pe_glob (v := .int 12) rfl T.c_MOST_BITS.choose_spec.1 T.c_MOST_BITS.choose_spec.2) pa_nil)) po_none (po_some (pv 1))))), ?_⟩
    obtain ⟨n, rfl⟩ := Int.eq_ofNat_of_zero_le h0
    have b := pad_bits 12 p (by decide) hp
    refine ⟨_, rfl, p, rfl, by omega, rfl, _, 12, rfl, rfl, rfl, _, rfl, _, rfl, _, rfl, ?_, ?_⟩
    · rw [zfill_bin hp, tx_len, bits_len]
      decide
    · rw [zfill_bin hp, cutS_to]
      exact q H (Ex.refl H)
end
end Sl
namespace Sl
open PySem PySem.Spec PyProof.Rows L2 Evl
section
variable {P : Program} {w : World} {K : PySem.W.Frag} {mg : Str → Option Value} {base : Heap} {t : Adr}
/-! words_in_order -/
def numsOf : List V → List Int
  | [] => []
  | .int i :: r => i :: numsOf r
  | _ :: r => numsOf r
theorem numsOf_map (ls : List Int) : numsOf (ls.map V.int) = ls := by
  induction ls with
  | nil => rfl
  | cons a r ih => show a :: numsOf (r.map V.int) = _; rw [ih]
/-- a good list's numbers -/
theorem okLens_ints {b : Int} {xs : List V} (h : okLens 1 b xs = true) : ∃ ls : List Int, xs = ls.map V.int ∧ (∀ l ∈ ls, 1 ≤ l ∧ l ≤ b) ∧ ls.length ≤ 24 := by
  unfold okLens at h
  rw [Bool.and_eq_true] at h
  have hl := of_decide_eq_true h.1
  have ha := List.all_eq_true.mp h.2
  have gen : ∀ ys : List V, (∀ y ∈ ys, within 1 b y = true) → ∃ ls : List Int, ys = ls.map V.int ∧ ∀ l ∈ ls, 1 ≤ l ∧ l ≤ b := by
    intro ys
    induction ys with
    | nil => intro _; exact ⟨[], rfl, fun _ h => by cases h⟩
    | cons y r ih =>
      intro hy
      obtain ⟨i, rfl, h1, h2⟩ := within_int (hy y List.mem_cons_self)
      obtain ⟨ls, rfl, h3⟩ := ih fun z hz => hy z (List.mem_cons_of_mem _ hz)
      refine ⟨i :: ls, rfl, fun l hl => ?_⟩
      rcases List.mem_cons.mp hl with rfl | hl
      · exact ⟨h1, h2⟩
      · exact h3 l hl
  obtain ⟨ls, rfl, h3⟩ := gen xs ha
  exact ⟨ls, rfl, h3, by rw [List.length_map] at hl; exact hl⟩
theorem sumOf_sz (ls : List Int) : sumOf 12 (ls.map V.int) = (((ls.map sz).sum : Nat) : Int) := by
  unfold sumOf
  induction ls with
  | nil => rfl
  | cons a r ih =>
    rw [List.map_cons, List.map_cons, List.sum_cons, ih, List.map_cons, List.sum_cons, Int.natCast_add]
    congr 1
/-- do the words of these lengths find room in their order -/
def okO (xs : List V) : Bool := okSum xs && decide (endO 0 (numsOf xs) ≤ 4096)
def spInOrder (K : PySem.W.Frag) (C : Addr) : Sp := fun vs H Q E => ∃ (a : Addr) (xs : List V), vs = [.ref a] ∧ SqL K H a xs ∧ (∀ x ∈ xs, Thing H x) ∧
  (okO xs = true → RetL ((wordsO 0 (numsOf xs)).map vtx) H Q) ∧ (okO xs = false → ∀ H1, Ex H H1 → E (.ref C) none H1)
theorem up_int {p s : Nat} (h : 0 < s) : ((p : Int) + (s : Int) - 1) / (s : Int) * (s : Int) = ((up p s : Nat) : Int) := by
  unfold up
  rw [Int.natCast_mul, Int.natCast_ediv, show ((p + s - 1 : Nat) : Int) = (p : Int) + (s : Int) - 1 by omega]
theorem sz_int (l : Int) : V.int ((2 : Int) ^ (12 - l).toNat) = V.int ((sz l : Nat) : Int) := by
  show _ = V.int ((2 ^ (12 - l).toNat : Nat) : Int)
  rw [Int.natCast_pow]
  try rfl
theorem sz_le (l : Int) (h : 1 ≤ l) : sz l ≤ 2048 := by
  have : sz l ≤ 2 ^ 11 := Nat.pow_le_pow_right (by decide) (by omega)
  omega
theorem ok_words_in_order (T : Top K mg t) : FnOk P w K mg base (L2.CX P w) 5 t.f_words_in_order t.d_words_in_order ["lengths"] (spInOrder K t.C_BadLengths) := by
  refine T.words_in_order.F.okX sc_words_in_order (fun vs H Q E h => ?_) (fun cdv A outer s H vs Q E hr h => ?_)
  · obtain ⟨a, xs, rfl, _⟩ := h
    rfl
  · obtain ⟨a, xs, rfl, hS, hT, q, r⟩ := h
    refine ⟨_, (pss_cons (ps_expr (pe_call (ok_u_check_sum T) (hr.mono (by decide)) (by rfl) T.u_check_sum.g T.u_check_sum.F.kp T.u_check_sum.b .nil (passes_call (takes_of rfl rfl rfl rfl) fun _ _ _ _ h => h) (pa_cons (pv 0) pa_nil)))
      (pss_cons (ps_set (i := 1) sc_words_in_order.nd rfl (.inl rfl) (pe_lst pa_nil))
      (pss_cons (ps_set (i := 2) sc_words_in_order.nd rfl (.inl rfl) pe_int)
      (pss_cons (ps_for (passes_of rfl) rfl (pi_list (pv 0)) (pg_name (i := 3) sc_words_in_order.nd rfl (.inl rfl)) (pss_cons (ps_set (i := 4) sc_words_in_order.nd rfl (.inl rfl) (pe_call (ok_places T) (hr.mono (by decide)) (by rfl) T.places.g T.places.F.kp T.places.b .nil pass0 (pa_cons (pv 3) (pa_cons (pe_glob (v := .int 12) rfl T.c_MOST_BITS.choose_spec.1 T.c_MOST_BITS.choose_spec.2) pa_nil))))
      (pss_cons (ps_set (i := 5) sc_words_in_order.nd rfl (.inl rfl) (pe_op op_mul (pe_op op_fdiv (pe_op op_sub (pe_op op_add (pv 2) (pv 4)) pe_int) (pv 4)) (pv 4)))
      (pss_cons (ps_set (i := 2) sc_words_in_order.nd rfl (.inl rfl) (pe_op op_add (pv 5) (pv 4)))
      (pss_cons (ps_if (pt_cmpR op_gt (pv 2) (pe_call (ok_room T) (hr.mono (by decide)) (by rfl) T.room.g T.room.F.kp T.room.b .nil (passes_call (takes_of rfl rfl rfl rfl) fun _ _ _ _ h => h) (pa_cons (pe_glob (v := .int 12) rfl T.c_MOST_BITS.choose_spec.1 T.c_MOST_BITS.choose_spec.2) pa_nil)) (nomark _)) (pss_one (ps_raise rfl (takes_of rfl rfl rfl rfl) (SkE.pmk_own1 PySem.F.excBase_ValueError T.C_BadLengths.xC T.C_BadLengths.gC T.C_BadLengths.kC (raises_own T.C_BadLengths.bC T.C_BadLengths.tC) rfl pe_str))) pss_nil)
      (pss_one (ps_expr (pe_bm PySem.F.plainAttrs_list PySem.F.slot_list_append PySem.F.type_list_append mt_append (pv 1) (pa_cons (pe_call (ok_u_word_from T) (hr.mono (by decide)) (by rfl) T.u_word_from.g T.u_word_from.F.kp T.u_word_from.b .nil pass0 (pa_cons (pv 5) (pa_cons (pv 3) pa_nil))) pa_nil)))))))))
      (pss_one (ps_ret (pv 1))))))), ?_⟩
    refine ⟨.ref a, rfl, a, xs, rfl, hS, hT, fun hk H1 e1 => ?_, fun hk => r ?_⟩
    · have hk' := hk
      unfold okSum at hk'
      rw [Bool.and_eq_true] at hk'
      obtain ⟨ls, rfl, hls, hlen⟩ := okLens_ints hk'.1
      unfold okO at q r
      rw [numsOf_map, hk, Bool.true_and] at q r
      refine q_asgL (el_lst ea_nil (by decide)) fun pw H2 hpw e2 h2 => ?_
      have npw : H pw = none := fresh_back e1 hpw
      refine q_asg ev_c fun H3 e3 => ?_
      have e13 := (e1.trans e2).trans e3
      refine q_forL (xs := ls.map V.int) (ev_var rfl) (ex_l e13 hS) (fun i σ' H' => Ex H H' ∧ H' pw = some (.lst ((wordsO 0 (ls.take i)).map vtx)) ∧ endO 0 (ls.take i) ≤ 4096 ∧
        ∃ v3 v4 v5, σ' = [some (V.ref a), some (V.ref pw), some (V.int ((endO 0 (ls.take i) : Nat) : Int)), v3, v4, v5]) (fun H4 e4 => ⟨e13.trans e4, (e3.trans e4) _ _ h2, Nat.zero_le _, none, none, none, rfl⟩) (fun i σ' H' _ hP => ex_l hP.1 hS) (fun i x σ' H' hx hP => ?_) fun σ' H' hP => ?_
      · obtain ⟨e4, hw, hend, v3, v4, v5, rfl⟩ := hP
        rw [List.getElem?_map] at hx
        obtain ⟨l, hl, rfl⟩ := Option.map_eq_some_iff.mp hx
        have hi : i < ls.length := (List.getElem?_eq_some_iff.mp hl).1
        have lok := hls l (List.mem_of_getElem? hl)
        have pz := sz_pos l
        have lz := sz_le l lok.1
        have stE := endO_step hl
        have stW := wordsO_step hl
        generalize endO 0 (ls.take i) = e at hend stE stW ⊢
        refine q_asg (ev_is (ev_call (ea_cons (ev_var rfl) (ea_cons ev_c ea_nil)) (sv_places (by omega) (by decide) (by omega))) (sz_int l)) fun H5 e5 => ?_
        refine q_asg (ev_is (ev_op (ev_op (ev_op (ev_op (ev_var rfl) (ev_var rfl) rv_I0) ev_c rv_I0) (ev_var rfl) (rv_I ⟨by omega, by omega⟩)) (ev_var rfl) (rv_I (.inr ⟨by omega, by omega⟩))) (congrArg V.int (up_int pz))) fun H6 e6 => ?_
        refine q_asg (ev_is (ev_op (ev_var rfl) (ev_var rfl) rv_I0) (w := .int ((up e (sz l) + sz l : Nat) : Int)) (congrArg V.int (Int.natCast_add _ _).symm)) fun H7 e7 => ?_
        have e47 := ((e4.trans e5).trans e6).trans e7
        refine q_when (et_test (ev_op (ev_var rfl) (ev_call (ea_cons (ev_c (v := .int 12)) ea_nil) (sv_room (by decide) (by decide))) rv_I0)) (fun hb H8 e8 => ?_) (fun hb H8 e8 => ?_)
        · refine r (decide_eq_false fun z => ?_) H8 (e47.trans e8)
          have hb' := of_decide_eq_true hb
          have k := endO_take ls (i + 1)
          rw [stE] at k
          have : (4096 : Int) < ((up e (sz l) + sz l : Nat) : Int) := hb'
          omega
        · have hb' : ¬ (4096 : Int) < ((up e (sz l) + sz l : Nat) : Int) := of_decide_eq_false hb
          have hw8 := ((((e5.trans e6).trans e7).trans e8) _ _ hw)
          refine s_app hw8 (ev_var rfl) (ev_call (ea_cons (ev_var rfl) (ea_cons (ev_var rfl) ea_nil)) (sv_wordFrom (by omega) (by omega) (by omega))) (by rw [List.length_map, wordsO_len, List.length_take]; omega) fun H9 e9 => ?_
          refine ⟨Ex.mut ((e47.trans e8).trans e9) npw, ?_, by rw [stE]; omega, some (.int l), some (.int ((sz l : Nat) : Int)), some (.int ((up e (sz l) : Nat) : Int)), by rw [stE]; rfl⟩
          rw [upd_same, stW, List.map_append]
          rfl
      · obtain ⟨e4, hw, hend, v3, v4, v5, rfl⟩ := hP
        rw [List.length_map, List.take_length] at hend hw
        refine s_ret (ev_var rfl) fun H7 e7 => ?_
        exact q (decide_eq_true hend) pw H7 npw (e4.trans e7) (e7 _ _ hw)
    · unfold okO
      rw [hk]
      rfl
end
end Sl
namespace Sl
open PySem PySem.Spec PyProof.Rows L2 Evl
section
variable {P : Program} {w : World} {K : PySem.W.Frag} {mg : Str → Option Value} {base : Heap} {t : Adr}
/-! _law_cell -/
def lwSeed (ns : List Int) (k : Int) : Int := if 0 < ns.length then (ns.getD (k * 7 % (ns.length : Int)).toNat 0 * 48271 + k * 7919) % 2147483647 else k * 7919 + 5
def lwCell (ns : List Int) (k : Int) : Int := if k < (ns.length : Int) then ns.getD k.toNat 0 else lwSeed ns k * lwSeed ns k % 2147483629
def spLwCell (K : PySem.W.Frag) : Sp := fun vs H Q _ => ∃ (a : Addr) (ns : List Int) (k : Int), vs = [.ref a, .int k] ∧ SqL K H a (ns.map V.int) ∧ 0 ≤ k ∧ k ≤ 1000000 ∧ RetV (.int (lwCell ns k)) H Q
theorem sv_cell {H : Hp} {a : Addr} {ns : List Int} {k : Int} (hS : SqL K H a (ns.map V.int)) (h0 : 0 ≤ k) (h1 : k ≤ 1000000) : SpV (spLwCell K) ([.ref a, .int k] ++ []) H (.int (lwCell ns k)) := fun H1 e Q q E =>
  ⟨a, ns, k, rfl, ex_l e hS, h0, h1, q⟩
theorem at_getD {ns : List Int} {j : Int} (h0 : 0 ≤ j) (h : j < (ns.length : Int)) : atI (ns.map V.int) j = some (.int (ns.getD j.toNat 0)) := by
  obtain ⟨n, rfl⟩ := Int.eq_ofNat_of_zero_le h0
  have hn : n < ns.length := by omega
  refine atI_nat ?_
  rw [List.getElem?_map, Int.toNat_natCast, List.getD_eq_getElem?_getD, List.getElem?_eq_getElem hn]
  rfl
theorem ok_lw_cell (T : Top K mg t) : FnOk P w K mg base CX0 1 t.f_lw_cell t.d_lw_cell ["_law_script", "_law_k"] (spLwCell K) := by
  refine T.lw_cell.F.ok sc_lw_cell (fun vs H Q E h => ?_) (fun cdv A outer s H vs Q E hr h => ?_)
  · obtain ⟨a, ns, k, rfl, _⟩ := h
    rfl
  · obtain ⟨a, ns, k, rfl, hS, h0, h1, q⟩ := h
    refine ⟨_, (pss_cons (ps_if (pt_cmpR op_lt (pv 1) (pe_callB (r := rLenS K) call_len_seq (by rfl) T.b.b_len (by decide +kernel) (pa_cons (pv 0) pa_nil)) (nomark _)) (pss_one (ps_ret (pe_ix (r := rIxL K) ix_list (pv 0) (pv 1) (fun _ _ => rfl)))) pss_nil)
      (pss_cons (ps_set (i := 2) sc_lw_cell.nd rfl (.inl rfl) (pe_op op_add (pe_op op_mul (pv 1) pe_int) pe_int))
      (pss_cons (ps_if (pt_cmpR op_gt (pe_callB (r := rLenS K) call_len_seq (by rfl) T.b.b_len (by decide +kernel) (pa_cons (pv 0) pa_nil)) pe_int (nomark _)) (pss_one (ps_set (i := 2) sc_lw_cell.nd rfl (.inl rfl) (pe_op op_mod (pe_op op_add (pe_op op_mul (pe_ix (r := rIxL K) ix_list (pv 0) (pe_op op_mod (pe_op op_mul (pv 1) pe_int) (pe_callB (r := rLenS K) call_len_seq (by rfl) T.b.b_len (by decide +kernel) (pa_cons (pv 0) pa_nil))) (fun _ _ => rfl)) pe_int) (pe_op op_mul (pv 1) pe_int)) pe_int))) pss_nil)
      (pss_one (ps_ret (pe_op op_mod (pe_op op_mul (pv 2) (pv 2)) pe_int)))))), ?_⟩
    have el : ((ns.map V.int).length : Int) = (ns.length : Int) := by rw [List.length_map]
    refine q_when (et_test (ev_op (ev_var rfl) (ev_len (ev_var rfl) hS) rv_I0)) (fun hb H1 e1 => ?_) (fun hb H1 e1 => ?_)
    · have hk : k < (ns.length : Int) := by
        have := of_decide_eq_true hb
        omega
      refine s_ret (ev_op (ev_var rfl) (ev_var rfl) (rv_ixL (ex_l e1 hS) (at_getD h0 hk))) fun H2 e2 => ?_
      have z := q H2 (e1.trans e2)
      unfold lwCell at z
      rw [if_pos hk] at z
      exact z
    · have hk : ¬ k < (ns.length : Int) := by
        have := of_decide_eq_false hb
        omega
      refine q_asg (ev_op (ev_op (ev_var rfl) ev_c (rv_I (.inr ⟨by decide, by decide⟩))) ev_c rv_I0) fun H2 e2 => ?_
      have e12 := e1.trans e2
      have fin : ∀ H3, Ex H H3 → ∀ n : Int, n = lwSeed ns k → -(2 ^ 64) < n ∧ n < 2 ^ 64 → tRet (tOp (rI (fun _ j => 0 < j) fun i j => .int (i % j)) (tOp (rI CMul fun i j => .int (i * j)) (tVar 2) (tVar 2)) (tC (.int 2147483629))) { nx := fun _ H' => Q .non H', rt := Q } [some (V.ref a), some (V.int k), some (V.int n)] H3 := by
        intro H3 e3 n hn hb
        refine s_ret (ev_op (ev_op (ev_var rfl) (ev_var rfl) (rv_I (.inl hb))) ev_c (rv_I (by decide))) fun H4 e4 => ?_
        have z := q H4 (e3.trans e4)
        unfold lwCell at z
        rw [if_neg hk, ← hn] at z
        exact z
      refine q_when (et_test (ev_op (ev_len (ev_var rfl) (ex_l e12 hS)) ev_c rv_I0)) (fun hb H3 e3 => ?_) (fun hb H3 e3 => ?_)
      · have hp : 0 < ns.length := by
          have := of_decide_eq_true hb
          omega
        have hm0 : 0 ≤ k * 7 % (ns.length : Int) := Int.emod_nonneg _ (by omega)
        have hm1 : k * 7 % (ns.length : Int) < (ns.length : Int) := Int.emod_lt_of_pos _ (by omega)
        refine s_asg (ev_op (ev_op (ev_op (ev_op (ev_var rfl) (ev_op (ev_op (ev_var rfl) ev_c (rv_I (.inr ⟨by decide, by decide⟩))) (ev_len (ev_var rfl) (ex_l (e12.trans e3) hS)) (rv_I (by rw [el]; omega))) (rv_ixL (ex_l (e12.trans e3) hS) (by rw [el]; exact at_getD hm0 hm1))) ev_c (rv_I (.inr ⟨by decide, by decide⟩)))
          (ev_op (ev_var rfl) ev_c (rv_I (.inr ⟨by decide, by decide⟩))) rv_I0) ev_c (rv_I (by decide))) fun H4 e4 => ?_
        have hs : lwSeed ns k = (ns.getD (k * 7 % (ns.length : Int)).toNat 0 * 48271 + k * 7919) % 2147483647 := if_pos hp
        have b0 := Int.emod_nonneg (ns.getD (k * 7 % (ns.length : Int)).toNat 0 * 48271 + k * 7919) (show (2147483647 : Int) ≠ 0 by decide)
        have b1 := Int.emod_lt_of_pos (ns.getD (k * 7 % (ns.length : Int)).toNat 0 * 48271 + k * 7919) (show (0 : Int) < 2147483647 by decide)
        exact fin H4 ((e12.trans e3).trans e4) _ hs.symm ⟨by omega, by omega⟩
      · have hp : ¬ 0 < ns.length := by
          have := of_decide_eq_false hb
          omega
        have hs : lwSeed ns k = k * 7919 + 5 := if_neg hp
        exact fin H3 (e12.trans e3) _ hs.symm ⟨by omega, by omega⟩
end
end Sl
namespace Sl
open PySem PySem.Spec PyProof.Rows L2 Evl
section
variable {P : Program} {w : World} {K : PySem.W.Frag} {mg : Str → Option Value} {base : Heap} {t : Adr}
/-! _law_whole -/
def isInt : V → Bool
  | .int _ => true
  | _ => false
def spWhole : Sp := fun vs H Q _ => ∃ x : V, vs = [x] ∧ Thing H x ∧ RetV (.bl (isInt x)) H Q
theorem sv_whole {H : Hp} {x : V} (k : Thing H x) : SpV spWhole ([x] ++ []) H (.bl (isInt x)) := fun H1 e Q q E => ⟨x, rfl, k.mono e, q⟩
theorem ok_lw_whole (T : Top K mg t) : FnOk P w K mg base CX0 1 t.f_lw_whole t.d_lw_whole ["_law_found"] spWhole := by
  refine T.lw_whole.F.ok sc_lw_whole (fun vs H Q E h => ?_) (fun cdv A outer s H vs Q E hr h => ?_)
  · obtain ⟨x, rfl, _⟩ := h
    rfl
  · obtain ⟨x, rfl, k, q⟩ := h
    refine ⟨_, (pss_one (ps_ret (pe_and (pe_callB (r := rIsi K) call_isi (by rfl) T.b.b_isinstance (by decide +kernel) (pa_cons (pv 0) (pa_cons (pe_bltn (v := .ty "int") (by rfl) T.b.b_int (by decide +kernel) rfl) pa_nil))) (pe_one (pe_not (pe_callB (r := rIsi K) call_isi (by rfl) T.b.b_isinstance (by decide +kernel) (pa_cons (pv 0) (pa_cons (pe_bltn (v := .ty "bool") (by rfl) T.b.b_bool (by decide +kernel) rfl) pa_nil)))))))), ?_⟩
    refine s_ret (ev_andV (ev_isInt (ev_var rfl) k) fun _ => ev_notV (ev_isBool (ev_var rfl) k)) fun H1 e1 => ?_
    have z : (isNum x && !isBl x) = isInt x := by cases x <;> rfl
    rw [z]
    exact q H1 e1
end
end Sl
namespace Sl
open PySem PySem.Spec PyProof.Rows L2 Evl
section
variable {P : Program} {w : World} {K : PySem.W.Frag} {mg : Str → Option Value} {base : Heap} {t : Adr}
/-! _law_doubled -/
def spDoubled : Sp := fun vs H Q _ => ∃ n : Int, vs = [.int n] ∧ n ≤ 60 ∧ -1000 ≤ n ∧ RetV (.int (2 ^ n.toNat)) H Q
theorem sv_doubled {H : Hp} {n : Int} (h : n ≤ 60) (h' : -1000 ≤ n) : SpV spDoubled ([.int n] ++ []) H (.int (2 ^ n.toNat)) := fun H1 e Q q E => ⟨n, rfl, h, h', q⟩
theorem s_forR1n {D : Ends} {tu : TS} {σ : L2.St} {H : Hp} {ta : TA} {j : Nat} {n : Int} (h : EvA ta σ H [.int n]) (hn : -100000 ≤ n ∧ n ≤ 100000) (Pv : Nat → L2.St → Hp → Prop) (h0 : ∀ H1, Ex H H1 → Pv 0 σ H1)
    (hs : ∀ (i : Nat) σ' H', (i : Int) < n → Pv i σ' H' → tu { D with nx := Pv (i + 1), ct := Pv (i + 1), bk := D.nx } (σ'.set j (some (.int (i : Int)))) H') (hd : ∀ σ' H', Pv n.toNat σ' H' → D.nx σ' H') : tFor (iRng1 ta) (gName j) tu D σ H :=
  h H (Ex.refl H) _ fun H1 e => ⟨n, rfl, by omega, by omega, for_range (lo := 0) (n := n.toNat) Pv (h0 H1 e) (fun i σ' H' hi p => by
    have e0 : (0 : Int) + (i : Int) = (i : Int) := Int.zero_add _
    show tu _ (σ'.set j (some (.int ((0 : Int) + (i : Int))))) H'
    rw [e0]
    exact hs i σ' H' (by omega) p) hd⟩
theorem ok_lw_doubled (T : Top K mg t) : FnOk P w K mg base CX0 1 t.f_lw_doubled t.d_lw_doubled ["_law_times"] spDoubled := by
  refine T.lw_doubled.F.ok sc_lw_doubled (fun vs H Q E h => ?_) (fun cdv A outer s H vs Q E hr h => ?_)
  · obtain ⟨n, rfl, _⟩ := h
    rfl
  · obtain ⟨n, rfl, hn, hn', q⟩ := h
    refine ⟨_, (pss_cons (ps_set (i := 1) sc_lw_doubled.nd rfl (.inl rfl) pe_int)
      (pss_cons (ps_for PassesOwn.never rfl (pi_range1 (by rfl) T.b.b_range (pa_cons (pv 0) pa_nil)) (pg_name (i := 2) sc_lw_doubled.nd rfl (.inl rfl)) (pss_one (ps_set (i := 1) sc_lw_doubled.nd rfl (.inl rfl) (pe_op op_mul (pv 1) pe_int))))
      (pss_one (ps_ret (pv 1))))), ?_⟩
    refine q_asg ev_c fun H1 e1 => ?_
    refine s_forR1n (D := { nx := _, rt := _ }) (ea_cons (ev_var rfl) ea_nil) ⟨by omega, by omega⟩ (fun i σ' H' => Ex H H' ∧ ∃ v2, σ' = [some (.int n), some (.int (2 ^ i)), v2]) (fun H2 e2 => ⟨e1.trans e2, _, rfl⟩) (fun i σ' H' hi p => ?_) (fun σ' H' p => ?_)
    · obtain ⟨e', v2, rfl⟩ := p
      refine s_asg (ev_op (ev_var rfl) ev_c (rv_I (.inr ⟨by decide, by decide⟩))) fun H3 e3 => ?_
      exact ⟨e'.trans e3, _, rfl⟩
    · obtain ⟨e', v2, rfl⟩ := p
      exact s_ret (ev_var rfl) fun H3 e3 => q H3 (e'.trans e3)
end
end Sl
namespace Sl
open PySem PySem.Spec PyProof.Rows L2 Evl
section
variable {P : Program} {w : World} {K : PySem.W.Frag} {mg : Str → Option Value} {base : Heap} {t : Adr}
/-! _law_strange -/
def spStrange : Sp := fun vs H Q _ => ∃ c lo hi : Int, vs = [.int c, .int lo, .int hi] ∧ RetS H Q
theorem ok_lw_strange (T : Top K mg t) : FnOk P w K mg base CX0 1 t.f_lw_strange t.d_lw_strange ["_law_cell_here", "_law_low", "_law_high"] spStrange := by
  refine T.lw_strange.F.ok sc_lw_strange (fun vs H Q E h => ?_) (fun cdv A outer s H vs Q E hr h => ?_)
  · obtain ⟨c, lo, hi, rfl, _⟩ := h
    rfl
  · obtain ⟨c, lo, hi, rfl, q⟩ := h
    refine ⟨_, (pss_cons (ps_set (i := 3) sc_lw_strange.nd rfl (.inl rfl) (pe_op op_mod (pe_op op_mul (pe_op op_fdiv (pv 0) pe_int) pe_int) pe_int))
      (pss_one (ps_ret (pe_ix (r := rIxL K) ix_list (pe_lst (pa_cons (pe_op op_sub (pv 1) pe_int) (pa_cons (pe_op op_add (pv 2) pe_int) (pa_cons pe_bl (pa_cons pe_bl (pa_cons pe_str (pa_cons pe_non (pa_cons (pe_lst (pa_cons pe_int pa_nil)) (pa_cons (pe_tup (pa_cons pe_int pa_nil)) (pa_cons (pe_op op_sub (pe_op op_sub (pv 1) pe_int) (pv 3)) (pa_cons (pe_op op_add (pe_op op_add (pv 2) pe_int) (pv 3)) pa_nil))))))))))) (pe_op op_mod (pv 0) pe_int) (fun _ _ => rfl))))), ?_⟩
    refine q_asg (ev_op (ev_op (ev_op (ev_var rfl) ev_c (rv_I ⟨by decide, by decide⟩)) ev_c (rv_I (.inr ⟨by decide, by decide⟩))) ev_c (rv_I (by decide))) fun H1 e1 => ?_
    have hm : 0 ≤ c % 10 ∧ c % 10 < 10 := ⟨Int.emod_nonneg _ (by decide), Int.emod_lt_of_pos _ (by decide)⟩
    refine s_retItem (j := (c % 10).toNat) (n := 10)
      (es_v (ev_op (ev_var rfl) ev_c rv_I0) (.int _) (es_v (ev_op (ev_var rfl) ev_c rv_I0) (.int _) (es_v ev_c (.bl _) (es_v ev_c (.bl _) (es_v ev_c (.str _ (by decide +kernel)) (es_v ev_c .non (es_l (ns := [1]) (el_lst (ea_cons ev_c ea_nil) (by decide)) (es_u (ns := [1]) (eu_tup (ea_cons ev_c ea_nil) (by decide))
        (es_v (ev_op (ev_op (ev_var rfl) ev_c rv_I0) (ev_var rfl) rv_I0) (.int _) (es_v (ev_op (ev_op (ev_var rfl) ev_c rv_I0) (ev_var rfl) rv_I0) (.int _) es0))))))))))
      (ev_is (ev_op (ev_var rfl) ev_c (rv_I (by decide))) (by rw [Int.toNat_of_nonneg hm.1])) (by omega) (by decide) fun v H2 e2 hs hf => q v H2 (e1.trans e2) hs fun b z => fresh_back e1 (hf b z)
end
end Sl
namespace Sl
open PySem PySem.Spec PyProof.Rows L2 Evl
section
variable {P : Program} {w : World} {K : PySem.W.Frag} {mg : Str → Option Value} {base : Heap} {t : Adr}
/-! _law_is -/
def spIs : Sp := fun vs H Q _ => ∃ (x : V) (lo hi : Int), vs = [x, .int lo, .int hi] ∧ Thing H x ∧ RetV (.bl (within lo hi x)) H Q
theorem sv_is {H : Hp} {x : V} {lo hi : Int} (k : Thing H x) : SpV spIs ([x, .int lo, .int hi] ++ []) H (.bl (within lo hi x)) := fun H1 e Q q E => ⟨x, lo, hi, rfl, k.mono e, q⟩
theorem ok_lw_is (T : Top K mg t) : FnOk P w K mg base CX0 2 t.f_lw_is t.d_lw_is ["_law_thing", "_law_low", "_law_high"] spIs := by
  refine T.lw_is.F.ok sc_lw_is (fun vs H Q E h => ?_) (fun cdv A outer s H vs Q E hr h => ?_)
  · obtain ⟨x, lo, hi, rfl, _⟩ := h
    rfl
  · obtain ⟨x, lo, hi, rfl, k, q⟩ := h
    refine ⟨_, (pss_one (ps_ret (pe_and (pe_call (ok_lw_whole T) (hr.mono (by decide)) (by rfl) T.lw_whole.g T.lw_whole.F.kp T.lw_whole.b .nil pass0 (pa_cons (pv 0) pa_nil)) (pe_and (pe_cmpR op_le (pv 1) (pv 0) (nomark _)) (pe_one (pe_cmpR op_le (pv 0) (pv 2) (nomark _))))))), ?_⟩
    by_cases hx : ∃ i, x = .int i
    · obtain ⟨i, rfl⟩ := hx
      refine s_ret (ev_andV (ev_call (ea_cons (ev_var rfl) ea_nil) (sv_whole k)) fun _ => ev_andV (ev_op (ev_var rfl) (ev_var rfl) rv_I0) fun _ => ev_op (ev_var rfl) (ev_var rfl) rv_I0) fun H1 e1 => ?_
      exact q H1 e1
    · have hi' : isInt x = false := by
        cases x <;> first | rfl | exact absurd ⟨_, rfl⟩ hx
      refine s_ret (ev_andV (b := false) (ev_call (ea_cons (ev_var rfl) ea_nil) (sv_whole k)) fun z => by rw [hi'] at z; cases z) fun H1 e1 => ?_
      have z : (isInt x && false) = within lo hi x := by
        cases x <;> first | rfl | exact absurd ⟨_, rfl⟩ hx
      rw [z]
      exact q H1 e1
end
end Sl
namespace Sl
open PySem PySem.Spec PyProof.Rows L2 Evl
section
variable {P : Program} {w : World} {K : PySem.W.Frag} {mg : Str → Option Value} {base : Heap} {t : Adr}
/-! _law_all -/
def spAll (K : PySem.W.Frag) : Sp := fun vs H Q _ => ∃ (a : Addr) (xs : List V) (lo hi : Int), vs = [.ref a, .int lo, .int hi] ∧ SqL K H a xs ∧ (∀ x ∈ xs, Simple H x) ∧ xs.length ≤ 1000 ∧ RetV (.bl (xs.all (within lo hi))) H Q
theorem sv_all {H : Hp} {a : Addr} {xs : List V} {lo hi : Int} (hS : SqL K H a xs) (hx : ∀ x ∈ xs, Simple H x) (hl : xs.length ≤ 1000) : SpV (spAll K) ([.ref a, .int lo, .int hi] ++ []) H (.bl (xs.all (within lo hi))) := fun H1 e Q q E =>
  ⟨a, xs, lo, hi, rfl, ex_l e hS, fun x h => (hx x h).mono e, hl, q⟩
theorem given_filter {n : Nat} (xs : List V) (f : Nat → Bool) (v : Nat → V) (p : V → Bool) (hn : n = xs.length) (hv : ∀ i x, xs[i]? = some x → v i = x ∧ f i = p x) : given n f v = xs.filter p := by
  subst hn
  unfold given
  have e : xs = (List.range xs.length).map fun i => xs.getD i .non := by
    have := map_range_of xs (fun x => x) (fun i => xs.getD i .non) fun i x hx => by rw [List.getD_eq_getElem?_getD, hx]; rfl
    rw [List.map_id'] at this
    exact this.symm
  conv => rhs; rw [e, List.filter_map]
  have h1 : (List.range xs.length).filter f = (List.range xs.length).filter (p ∘ fun i => xs.getD i .non) := by
    refine List.filter_congr fun i hi => ?_
    have hi' := List.mem_range.mp hi
    have k := (hv i xs[i] (List.getElem?_eq_getElem hi')).2
    rw [k]
    show p _ = p (xs.getD i .non)
    rw [List.getD_eq_getElem?_getD, List.getElem?_eq_getElem hi']
    rfl
  rw [h1]
  refine List.map_congr_left fun i hi => ?_
  have hi' := List.mem_range.mp (List.mem_filter.mp hi).1
  rw [(hv i xs[i] (List.getElem?_eq_getElem hi')).1, List.getD_eq_getElem?_getD, List.getElem?_eq_getElem hi']
  rfl
theorem ok_lw_all (T : Top K mg t) : FnOk P w K mg base CX0 3 t.f_lw_all t.d_lw_all ["_law_things", "_law_low", "_law_high"] (spAll K) := by
  refine T.lw_all.F.ok sc_lw_all (fun vs H Q E h => ?_) (fun cdv A outer s H vs Q E hr h => ?_)
  · obtain ⟨a, xs, lo, hi, rfl, _⟩ := h
    rfl
  · obtain ⟨a, xs, lo, hi, rfl, hS, hx, hl, q⟩ := h
    refine ⟨_, (pss_one (ps_ret (pe_cmpR (r := rEqD K) (op_eqD hr.units) (pe_lc (own := [("_law_thing", 3)]) (g := gName 3)  rfl sc_lw_all.nd (pi_list (pv 0)) (blkOk_by (own := [("_law_thing", 3)]) (N := N_lw_all) (sc := defScope s_lw_all) (by decide +kernel)) (fun _ _ _ _ _ => (pg_name (i := 3) sc_lw_all.nd rfl (.inl rfl))) (fun _ _ _ _ _ => (pts_one (pt_not (pt_val (pe_call (ok_lw_is T) (hr.mono (by decide)) (by rfl) T.lw_is.g T.lw_is.F.kp T.lw_is.b .nil pass0 (pa_cons (pv 3) (pa_cons (pv 1) (pa_cons (pv 2) pa_nil)))))))) (fun _ _ _ _ _ => (pv 3))) (pe_lst pa_nil) (nomark _)))), ?_⟩
    have hc := el_lcL (σ := [some (V.ref a), some (V.int lo), some (V.int hi), none]) (H := H) (j := 3) (vs := [3]) (te := tVar 3) (t := tNot (tB (tCall spIs [] E0 (tCons (tVar 3) (tCons (tVar 1) (tCons (tVar 2) tNil)))))) (K := K) (tl := tVar 0)
      (fun i => !within lo hi (xs.getD i .non)) (fun i => xs.getD i .non) (ev_var rfl) hS (by omega) (fun x => rfl) (fun i x H3 e3 h3 => by
        rw [List.getD_eq_getElem?_getD, h3]
        exact et_not (et_B (ev_call (ea_cons (ev_var rfl) (ea_cons (ev_var rfl) (ea_cons (ev_var rfl) ea_nil))) (sv_is ((hx x (List.mem_of_getElem? h3)).mono e3).thing)))) (fun i x H3 e3 h3 _ => by
        rw [List.getD_eq_getElem?_getD, h3]
        exact ev_var rfl)
    rw [given_filter xs _ _ (fun x => !within lo hi x) rfl fun i x h3 => by rw [List.getD_eq_getElem?_getD, h3]; exact ⟨rfl, rfl⟩] at hc
    have hc' : EvX (tLc (iList K (tVar 0)) (gName 3) (tNot (tB (tCall spIs [] E0 (tCons (tVar 3) (tCons (tVar 1) (tCons (tVar 2) tNil)))))) (tVar 3) [3]) [some (V.ref a), some (V.int lo), some (V.int hi), none] H
        (fun ys H2 => ys = xs.filter (fun x => !within lo hi x) ∧ ∀ x ∈ xs.filter (fun x => !within lo hi x), Simple H2 x) := fun H1 e1 Q' q' =>
      hc H1 e1 Q' fun p H2 hp e2 h2 => q' p _ H2 hp e2 h2 ⟨rfl, fun x hm => (hx x (List.mem_filter.mp hm).1).mono (e1.trans e2)⟩
    refine s_ret (ev_eqNil hc' fun H1 e1 => el_lst ea_nil (by decide)) fun H1 e1 => ?_
    have z : (xs.filter (fun x => !within lo hi x)).isEmpty = xs.all (within lo hi) := by
      rw [Bool.eq_iff_iff, List.isEmpty_iff, List.filter_eq_nil_iff, List.all_eq_true]
      constructor
      · intro h x hx
        have := h x hx
        simpa using this
      · intro h x hx
        rw [h x hx]
        decide
    rw [z]
    exact q H1 e1
end
end Sl
namespace Sl
open PySem PySem.Spec PyProof.Rows L2 Evl
section
variable {P : Program} {w : World} {K : PySem.W.Frag} {mg : Str → Option Value} {base : Heap} {t : Adr}
/-! _law_word_of -/
def spWordOf (K : PySem.W.Frag) (t : Adr) : SpE := fun a c vs H Q _ => ∃ (D : Addr) (nm : Str), c = .ref D ∧ vs = [.ref a] ∧ Err K t D nm ∧ RetU [.str "refused", .str nm] H Q
def told (nm : Str) (n : Str) : List V := if decide (nm = n) = true then [.str n] else []
theorem told_all {nm : Str} (h : nm ∈ errNames) : ((((((([] ++ told nm "NoWeights") ++ told nm "BadWeight") ++ told nm "BadBound") ++ told nm "NoRoom") ++ told nm "BadLengths") ++ told nm "BadWords") ++ told nm "BadBits") ++ told nm "NoSign" = [.str nm] := by
  unfold errNames at h
  simp only [List.mem_cons, List.not_mem_nil, or_false] at h
  rcases h with rfl | rfl | rfl | rfl | rfl | rfl | rfl | rfl <;> rfl
theorem told_len (nm n : Str) : (told nm n).length ≤ 1 := by
  unfold told
  split
  · exact Nat.le_refl _
  · exact Nat.zero_le _
theorem ok_lw_word_of (T : Top K mg t) : FnE P w K mg base 1 t.f_lw_word_of t.d_lw_word_of ["_law_error"] (spWordOf K t) := by
  refine fnE_of T.lw_word_of.F sc_lw_word_of (fun a c vs H Q E h => ?_) (fun cdv A outer s H vs Q E p c hz hf hr h => ?_)
  · obtain ⟨D, nm, rfl, rfl, _⟩ := h
    rfl
  · obtain ⟨D, nm, rfl, rfl, W, q⟩ := h
    refine ⟨_, (pss_cons (ps_set (i := 1) sc_lw_word_of.nd rfl (.inl rfl) (pe_lst pa_nil))
      (pss_cons (ps_if (pt_val (pe_callB (call_isP (List.mem_singleton.mpr rfl) hz hf) (by rfl) T.b.b_isinstance (by decide +kernel) (pa_cons (pv 0) (pa_cons (pe_glob (v := .ref t.C_NoWeights) rfl T.C_NoWeights.gC rfl) pa_nil)))) (pss_one (ps_expr (pe_bm PySem.F.plainAttrs_list PySem.F.slot_list_append PySem.F.type_list_append mt_append (pv 1) (pa_cons pe_str pa_nil)))) pss_nil)
      (pss_cons (ps_if (pt_val (pe_callB (call_isP (List.mem_singleton.mpr rfl) hz hf) (by rfl) T.b.b_isinstance (by decide +kernel) (pa_cons (pv 0) (pa_cons (pe_glob (v := .ref t.C_BadWeight) rfl T.C_BadWeight.gC rfl) pa_nil)))) (pss_one (ps_expr (pe_bm PySem.F.plainAttrs_list PySem.F.slot_list_append PySem.F.type_list_append mt_append (pv 1) (pa_cons pe_str pa_nil)))) pss_nil)
      (pss_cons (ps_if (pt_val (pe_callB (call_isP (List.mem_singleton.mpr rfl) hz hf) (by rfl) T.b.b_isinstance (by decide +kernel) (pa_cons (pv 0) (pa_cons (pe_glob (v := .ref t.C_BadBound) rfl T.C_BadBound.gC rfl) pa_nil)))) (pss_one (ps_expr (pe_bm PySem.F.plainAttrs_list PySem.F.slot_list_append PySem.F.type_list_append mt_append (pv 1) (pa_cons pe_str pa_nil)))) pss_nil)
      (pss_cons (ps_if (pt_val (pe_callB (call_isP (List.mem_singleton.mpr rfl) hz hf) (by rfl) T.b.b_isinstance (by decide +kernel) (pa_cons (pv 0) (pa_cons (pe_glob (v := .ref t.C_NoRoom) rfl T.C_NoRoom.gC rfl) pa_nil)))) (pss_one (ps_expr (pe_bm PySem.F.plainAttrs_list PySem.F.slot_list_append PySem.F.type_list_append mt_append (pv 1) (pa_cons pe_str pa_nil)))) pss_nil)
      (pss_cons (ps_if (pt_val (pe_callB (call_isP (List.mem_singleton.mpr rfl) hz hf) (by rfl) T.b.b_isinstance (by decide +kernel) (pa_cons (pv 0) (pa_cons (pe_glob (v := .ref t.C_BadLengths) rfl T.C_BadLengths.gC rfl) pa_nil)))) (pss_one (ps_expr (pe_bm PySem.F.plainAttrs_list PySem.F.slot_list_append PySem.F.type_list_append mt_append (pv 1) (pa_cons pe_str pa_nil)))) pss_nil)
      (pss_cons (ps_if (pt_val (pe_callB (call_isP (List.mem_singleton.mpr rfl) hz hf) (by rfl) T.b.b_isinstance (by decide +kernel) (pa_cons (pv 0) (pa_cons (pe_glob (v := .ref t.C_BadWords) rfl T.C_BadWords.gC rfl) pa_nil)))) (pss_one (ps_expr (pe_bm PySem.F.plainAttrs_list PySem.F.slot_list_append PySem.F.type_list_append mt_append (pv 1) (pa_cons pe_str pa_nil)))) pss_nil)
      (pss_cons (ps_if (pt_val (pe_callB (call_isP (List.mem_singleton.mpr rfl) hz hf) (by rfl) T.b.b_isinstance (by decide +kernel) (pa_cons (pv 0) (pa_cons (pe_glob (v := .ref t.C_BadBits) rfl T.C_BadBits.gC rfl) pa_nil)))) (pss_one (ps_expr (pe_bm PySem.F.plainAttrs_list PySem.F.slot_list_append PySem.F.type_list_append mt_append (pv 1) (pa_cons pe_str pa_nil)))) pss_nil)
      (pss_cons (ps_if (pt_val (pe_callB (call_isP (List.mem_singleton.mpr rfl) hz hf) (by rfl) T.b.b_isinstance (by decide +kernel) (pa_cons (pv 0) (pa_cons (pe_glob (v := .ref t.C_NoSign) rfl T.C_NoSign.gC rfl) pa_nil)))) (pss_one (ps_expr (pe_bm PySem.F.plainAttrs_list PySem.F.slot_list_append PySem.F.type_list_append mt_append (pv 1) (pa_cons pe_str pa_nil)))) pss_nil)
      (pss_cons (ps_if (PW.pt (pw_or (pt_cmpR op_ne (pe_callB (r := rLenS K) call_len_seq (by rfl) T.b.b_len (by decide +kernel) (pa_cons (pv 1) pa_nil)) pe_int (nomark _)) (pw_or1 (pt_not (pt_val (pe_callB (call_isP (List.mem_singleton.mpr rfl) hz hf) (by rfl) T.b.b_isinstance (by decide +kernel) (pa_cons (pv 0) (pa_cons (pe_bltn (v := .ty "ValueError") (by rfl) T.b.b_ValueError (by decide +kernel) rfl) pa_nil)))))))) (pss_one (ps_ret (pe_tup (pa_cons pe_str (pa_cons (pv 1) pa_nil))))) pss_nil)
      (pss_one (ps_ret (pe_tup (pa_cons pe_str (pa_cons (pe_ix (r := rIxL K) ix_list (pv 1) pe_int (fun _ _ => rfl)) pa_nil))))))))))))))), ?_⟩
    refine q_asgL (el_lst ea_nil (by decide)) fun l H1 hl e1 h1 => ?_
    have l1 := fun n => told_len nm n
    refine q_ifApp h1 (et_B (ev_isP W.C (ev_var rfl) ev_c (fun _ z => z) W.k1)) (ev_var rfl) ev_c (by simp) fun H2 b2 h2 => ?_
    refine q_ifApp h2 (et_B (ev_isP W.C (ev_var rfl) ev_c (fun _ z => z) W.k2)) (ev_var rfl) ev_c (by have := l1 "NoWeights"; unfold told at this; simp only [List.length_append, List.length_nil]; omega) fun H3 b3 h3 => ?_
    refine q_ifApp h3 (et_B (ev_isP W.C (ev_var rfl) ev_c (fun _ z => z) W.k3)) (ev_var rfl) ev_c (by have := l1 "NoWeights"; have := l1 "BadWeight"; unfold told at *; simp only [List.length_append, List.length_nil]; omega) fun H4 b4 h4 => ?_
    refine q_ifApp h4 (et_B (ev_isP W.C (ev_var rfl) ev_c (fun _ z => z) W.k4)) (ev_var rfl) ev_c (by have := l1 "NoWeights"; have := l1 "BadWeight"; have := l1 "BadBound"; unfold told at *; simp only [List.length_append, List.length_nil]; omega) fun H5 b5 h5 => ?_
    refine q_ifApp h5 (et_B (ev_isP W.C (ev_var rfl) ev_c (fun _ z => z) W.k5)) (ev_var rfl) ev_c (by have := l1 "NoWeights"; have := l1 "BadWeight"; have := l1 "BadBound"; have := l1 "NoRoom"; unfold told at *; simp only [List.length_append, List.length_nil]; omega) fun H6 b6 h6 => ?_
    refine q_ifApp h6 (et_B (ev_isP W.C (ev_var rfl) ev_c (fun _ z => z) W.k6)) (ev_var rfl) ev_c (by have := l1 "NoWeights"; have := l1 "BadWeight"; have := l1 "BadBound"; have := l1 "NoRoom"; have := l1 "BadLengths"; unfold told at *; simp only [List.length_append, List.length_nil]; omega) fun H7 b7 h7 => ?_
    refine q_ifApp h7 (et_B (ev_isP W.C (ev_var rfl) ev_c (fun _ z => z) W.k7)) (ev_var rfl) ev_c (by have := l1 "NoWeights"; have := l1 "BadWeight"; have := l1 "BadBound"; have := l1 "NoRoom"; have := l1 "BadLengths"; have := l1 "BadWords"; unfold told at *; simp only [List.length_append, List.length_nil]; omega) fun H8 b8 h8 => ?_
    refine q_ifApp h8 (et_B (ev_isP W.C (ev_var rfl) ev_c (fun _ z => z) W.k8)) (ev_var rfl) ev_c (by have := l1 "NoWeights"; have := l1 "BadWeight"; have := l1 "BadBound"; have := l1 "NoRoom"; have := l1 "BadLengths"; have := l1 "BadWords"; have := l1 "BadBits"; unfold told at *; simp only [List.length_append, List.length_nil]; omega) fun H9 b9 h9 => ?_
    have hx : H9 l = some (.lst [.str nm]) := h9.trans (congrArg (fun z => some (HO.lst z)) (told_all W.one))
    have step : ∀ {Ha Hb : Hp}, ExB l Ha Hb → Ex H Ha → Ex H Hb := fun {Ha Hb} eb ea c o hc => eb c o (ea c o hc) fun z => by rw [z, hl] at hc; cases hc
    have e9 : Ex H H9 := step b9 (step b8 (step b7 (step b6 (step b5 (step b4 (step b3 (step b2 e1)))))))
    refine q_when (et_or (et_test (ev_op (ev_len (ev_var rfl) (sq_of hx)) ev_c (rv_ne rfl))) fun _ => et_not (et_B (ev_isP W.C (ev_var rfl) ev_c (fun _ z => z) W.kV))) (fun hb _ _ => ?_) (fun hb H10 e10 => ?_)
    · exact absurd (show false = true from hb) (by decide)
    · refine s_retU (eu_tup (ea_cons ev_c (ea_cons (ev_op (ev_var rfl) ev_c (rv_ixL (sq_of (e10 _ _ hx)) rfl)) ea_nil)) (by show 2 ≤ 100000; decide)) fun r H11 hr e11 h11 => ?_
      exact q r H11 (fresh_back (e9.trans e10) hr) ((e9.trans e10).trans e11) h11
end
end Sl
namespace Sl
open PySem PySem.Spec PyProof.Rows L2 Evl
section
variable {P : Program} {w : World} {K : PySem.W.Frag} {mg : Str → Option Value} {base : Heap} {t : Adr}
/-! _law_leaves -/
/-- what is told: the depths of a tree's leaves, none deeper than the bound; a lone leaf has depth 1; as many as asked for, where there is room -/
def Grown (bound : Int) (many : Int) (ds : List Int) : Prop := (ds = [1] ∧ (many ≤ 1 ∨ bound ≤ 0)) ∨ (Leafs 0 ds ∧ 2 ≤ ds.length ∧ (ds.length : Int) ≤ many ∧ (∀ d ∈ ds, d ≤ bound) ∧ ((ds.length : Int) = many ∨ ∀ d ∈ ds, bound ≤ d))
def spLeaves (K : PySem.W.Frag) : Sp := fun vs H Q _ => ∃ (a : Addr) (ns : List Int) (first many bound : Int), vs = [.ref a, .int first, .int many, .int bound] ∧ SqL K H a (ns.map V.int) ∧ 0 ≤ first ∧ first ≤ 1000 ∧ -1000 ≤ many ∧ many ≤ 1000 ∧ 1 ≤ bound ∧
  ∀ ds, Grown bound many ds → RetL (ds.map V.int) H Q
theorem leafs_one {d : Int} (h : Leafs 0 [d]) : d = 0 := by
  generalize e : [d] = xs at h
  cases h with
  | leaf => exact (List.cons.inj e).1
  | @node _ a b ha hb =>
    have := congrArg List.length e
    have h1 := List.length_pos_iff.mpr ha.ne
    have h2 := List.length_pos_iff.mpr hb.ne
    simp at this
    omega
theorem mod_in (i : Int) {m : Int} (h : 0 < m) : 0 ≤ i % m ∧ i % m < m := ⟨Int.emod_nonneg _ (by omega), Int.emod_lt_of_pos _ h⟩
theorem ok_lw_leaves (T : Top K mg t) : FnOk P w K mg base CX0 2 t.f_lw_leaves t.d_lw_leaves ["_law_script", "_law_first", "_law_many", "_law_bound"] (spLeaves K) := by
  refine T.lw_leaves.F.ok sc_lw_leaves (fun vs H Q E h => ?_) (fun cdv A outer s H vs Q E hr h => ?_)
  · obtain ⟨a, ns, first, many, bound, rfl, _⟩ := h
    rfl
  · obtain ⟨a, ns, first, many, bound, rfl, hS, f0, f1, m0, m1, b0, q⟩ := h
    refine ⟨_, (pss_cons (ps_set (i := 4) sc_lw_leaves.nd rfl (.inr rfl) (pe_lst (pa_cons pe_int pa_nil)))
      (pss_cut (ps_for PassesOwn.never rfl (pi_range1 (by rfl) T.b.b_range (pa_cons (pe_op op_sub (pv 2) pe_int) pa_nil)) (pg_name (i := 5) sc_lw_leaves.nd rfl (.inl rfl)) (pss_cons (ps_setLc (i := 7) (own := [("_law_at", 6)]) (g := gName 6)  rfl sc_lw_leaves.nd rfl rfl (sw_true rfl rfl rfl (by decide +kernel)) (pi_range1 (by rfl) T.b.b_range (pa_cons (pe_callB (r := rLenS K) call_len_seq (by rfl) T.b.b_len (by decide +kernel) (pa_cons (pv 4) pa_nil)) pa_nil)) (blkOk_by (own := [("_law_at", 6)]) (N := N_lw_leaves) (sc := defScope s_lw_leaves) (by decide +kernel)) (fun _ _ _ _ _ => (pg_name (i := 6) sc_lw_leaves.nd rfl (.inl rfl))) (fun _ _ _ _ _ => (pts_one (pt_cmpR op_lt (pe_ix (r := rIxL K) ix_list (pv 4) (pv 6) (fun _ _ => rfl)) (pv 3) (nomark _)))) (fun _ _ _ _ _ => (pv 6)))
      (pss_cons (ps_if (pt_cmpR (r := rEqD K) (op_eqD hr.units) (pv 7) (pe_lst pa_nil) (nomark _)) (pss_one (ps_ret (pv 4))) pss_nil)
      (pss_cons (ps_set (i := 6) sc_lw_leaves.nd rfl (.inl rfl) (pe_ix (r := rIxL K) ix_list (pv 7) (pe_op op_mod (pe_call (ok_lw_cell T) (hr.mono (by decide)) (by rfl) T.lw_cell.g T.lw_cell.F.kp T.lw_cell.b .nil pass0 (pa_cons (pv 0) (pa_cons (pe_op op_add (pv 1) (pv 5)) pa_nil))) (pe_callB (r := rLenS K) call_len_seq (by rfl) T.b.b_len (by decide +kernel) (pa_cons (pv 7) pa_nil))) (fun _ _ => rfl)))
      (pss_one (ps_set (i := 4) sc_lw_leaves.nd rfl (.inr rfl) (pe_op op_cat (pe_op op_cat (pe_slice (r := rSlL K) sl_list (pv 4) po_none (po_some (pv 6))) (pe_lst (pa_cons (pe_op op_add (pe_ix (r := rIxL K) ix_list (pv 4) (pv 6) (fun _ _ => rfl)) pe_int) (pa_cons (pe_op op_add (pe_ix (r := rIxL K) ix_list (pv 4) (pv 6) (fun _ _ => rfl)) pe_int) pa_nil)))) (pe_slice (r := rSlL K) sl_list (pv 4) (po_some (pe_op op_add (pv 6) pe_int)) po_none))))))))
      (pss_cons (ps_if (pt_cmpR op_eq (pe_callB (r := rLenS K) call_len_seq (by rfl) T.b.b_len (by decide +kernel) (pa_cons (pv 4) pa_nil)) pe_int (nomark _)) (pss_one (ps_ret (pe_lst (pa_cons pe_int pa_nil)))) pss_nil)
      (pss_one (ps_ret (pv 4)))))), ?_⟩
    refine q_asgL (xs := [0].map V.int) (el_lst (ea_cons ev_c ea_nil) (by decide)) fun p H1 hp e1 h1 => ?_
    have hn : -100000 ≤ many - 1 ∧ many - 1 ≤ 100000 := ⟨by omega, by omega⟩
    refine q_cut (M := fun σ' H' => Ex H H' ∧ ∃ (p : Addr) (ds : List Int) (v5 v6 v7 : Option V), σ' = [some (V.ref a), some (V.int first), some (V.int many), some (V.int bound), some (V.ref p), v5, v6, v7] ∧ H p = none ∧ H' p = some (.lst (ds.map V.int)) ∧ Leafs 0 ds ∧ (∀ d ∈ ds, d ≤ bound) ∧ ((ds.length : Int) = many ∨ (ds.length = 1 ∧ many ≤ 1))) ?_ fun σ' H' hM => ?_
    · refine s_forR1n (ea_cons (ev_op (ev_var rfl) ev_c rv_I0) ea_nil) hn (fun i σ' H' => Ex H H' ∧ ∃ (p : Addr) (ds : List Int) (v5 v6 v7 : Option V), σ' = [some (V.ref a), some (V.int first), some (V.int many), some (V.int bound), some (V.ref p), v5, v6, v7] ∧ H p = none ∧ H' p = some (.lst (ds.map V.int)) ∧ Leafs 0 ds ∧ (∀ d ∈ ds, d ≤ bound) ∧ ds.length = i + 1) (fun H2 e2 => ⟨e1.trans e2, p, [0], none, none, none, rfl, hp, e2 _ _ h1, .leaf 0, fun d hd => by rw [List.mem_singleton.mp hd]; omega, rfl⟩) (fun i σ' H' hi hP => ?_) (fun σ' H' hP => ?_)
      · obtain ⟨e2, p, ds, v5, v6, v7, rfl, hp, h2, hL, hB, hlen⟩ := hP
        have el : ((ds.map V.int).length : Int) = (ds.length : Int) := by rw [List.length_map]
        -- the leaves that may grow
        have cS := el_lcR1 (σ := [some (V.ref a), some (V.int first), some (V.int many), some (V.int bound), some (V.ref p), some (V.int (i : Int)), v6, v7]) (H := H') (j := 6) (vs := [6]) (n := (ds.length : Int)) (te := tVar 6)
          (t := tTest (tOp (rI0 fun i j => .bl (decide (i < j))) (tOp (rIxL K) (tVar 4) (tVar 6)) (tVar 3))) (ta := tCons (tCB (rLenS K) (tCons (tVar 4) tNil)) tNil)
          (fun k => decide (ds.getD k 0 < bound)) (fun k => .int (k : Int)) (ea_cons (ev_is (ev_len (ev_var rfl) (sq_of h2)) (by rw [List.length_map])) ea_nil) ⟨by omega, by omega⟩ (fun x => rfl)
          (fun k H3 e3 hk => et_test (ev_op (ev_op (ev_var rfl) (ev_var rfl) (rv_ixL (sq_of (e3 _ _ h2)) (at_getD (j := (k : Int)) (by omega) hk))) (ev_var rfl) rv_I0)) (fun k H3 e3 hk _ => ev_var rfl)
        obtain ⟨ks, hks, hmem⟩ : ∃ ks : List Int, given ((ds.length : Int)).toNat (fun k => decide (ds.getD k 0 < bound)) (fun k => V.int (k : Int)) = ks.map V.int ∧ ∀ k ∈ ks, ∃ j : Nat, k = (j : Int) ∧ j < ds.length ∧ ds.getD j 0 < bound := by
          refine ⟨((List.range ((ds.length : Int)).toNat).filter fun k => decide (ds.getD k 0 < bound)).map fun (k : Nat) => (k : Int), by unfold given; rw [List.map_map]; rfl, fun k hk => ?_⟩
          obtain ⟨j, hj, rfl⟩ := List.mem_map.mp hk
          obtain ⟨h1, h2⟩ := List.mem_filter.mp hj
          exact ⟨j, rfl, by have := List.mem_range.mp h1; omega, of_decide_eq_true h2⟩
        have hnone : ks = [] → ∀ d ∈ ds, ¬ d < bound := by
          rintro rfl d hd hlt
          obtain ⟨j, hj, rfl⟩ := List.getElem_of_mem hd
          have : V.int (j : Int) ∈ given ((ds.length : Int)).toNat (fun k => decide (ds.getD k 0 < bound)) (fun k => V.int (k : Int)) := by
            unfold given
            refine List.mem_map.mpr ⟨j, List.mem_filter.mpr ⟨List.mem_range.mpr (by omega), ?_⟩, rfl⟩
            rw [List.getD_eq_getElem?_getD, List.getElem?_eq_getElem hj]
            exact decide_eq_true hlt
          rw [hks] at this
          cases this
        rw [hks] at cS
        refine q_asgL cS fun r H3 hr e3 h3 => ?_
        have e23 := e2.trans e3
        have h23 := e3 _ _ h2
        refine q_when (et_test (ev_eqNilI (ev_var rfl) (sq_of h3) fun H4 e4 => el_lst ea_nil (by decide))) (fun hb H4 e4 => ?_) (fun hb H4 e4 => ?_)
        · -- no leaf may grow
          have hall := hnone (List.isEmpty_iff.mp hb)
          refine s_ret (ev_var rfl) fun H5 e5 => ?_
          have e25 := (e23.trans e4).trans e5
          refine q ds ?_ p H5 hp e25 (e5 _ _ (e4 _ _ h23))
          have h2len : 2 ≤ ds.length := by
            rcases Nat.lt_or_ge ds.length 2 with z | z
            · have h1 : ds.length = 1 := by omega
              obtain ⟨d, rfl⟩ := List.length_eq_one_iff.mp h1
              have := leafs_one hL
              have := hall d List.mem_cons_self
              omega
            · exact z
          exact .inr ⟨hL, h2len, by omega, hB, .inr fun d hd => by have := hall d hd; omega⟩
        · -- one of them does
          have hne : ks ≠ [] := fun z => by rw [z] at hb; cases hb
          have hkl : 0 < ks.length := List.length_pos_iff.mpr hne
          have elk : ((ks.map V.int).length : Int) = (ks.length : Int) := by rw [List.length_map]
          have hm := mod_in (lwCell ns (first + (i : Int))) (show (0 : Int) < (ks.length : Int) by omega)
          have e24 := e23.trans e4
          have hx : ks.getD (lwCell ns (first + (i : Int)) % (ks.length : Int)).toNat 0 ∈ ks := getD_mem (by omega)
          obtain ⟨j, hj, hjl, hjb⟩ := hmem _ hx
          refine q_asg (v := .int (j : Int)) (ev_is (ev_op (ev_var rfl) (ev_op (ev_call (ea_cons (ev_var rfl) (ea_cons (ev_op (ev_var rfl) (ev_var rfl) rv_I0) ea_nil)) (sv_cell (ex_l e24 hS) (by omega) (by omega))) (ev_len (ev_var rfl) (sq_of (e4 _ _ h3))) (rv_I (by rw [elk]; omega))) (rv_ixL (sq_of (e4 _ _ h3)) (by rw [elk]; exact at_getD hm.1 hm.2))) (by rw [hj])) fun H5 e5 => ?_
          have h5 := e5 _ _ (e4 _ _ h23)
          have e25 := e24.trans e5
          have cA := el_sl (K := K) (σ := [some (V.ref a), some (V.int first), some (V.int many), some (V.int bound), some (V.ref p), some (V.int (i : Int)), some (V.int (j : Int)), some (V.ref r)]) (H := H5) (te := tVar 4) (tl := tNoPart) (th := tPart (tVar 6)) (ev_var rfl) eo_none (eo_some (ev_var rfl)) (sq_of h5)
          have cB := el_sl (K := K) (σ := [some (V.ref a), some (V.int first), some (V.int many), some (V.int bound), some (V.ref p), some (V.int (i : Int)), some (V.int (j : Int)), some (V.ref r)]) (H := H5) (te := tVar 4) (tl := tPart (tOp (rI0 fun i j => .int (i + j)) (tVar 6) (tC (.int 1)))) (th := tNoPart) (ev_var rfl) (eo_some (ev_op (ev_var rfl) ev_c rv_I0)) eo_none (sq_of h5)
          rw [cutV_to] at cA
          rw [show (j : Int) + 1 = ((j + 1 : Nat) : Int) by omega, cutV_from] at cB
          have hd0 : Ev (tOp (rI0 fun i j => .int (i + j)) (tOp (rIxL K) (tVar 4) (tVar 6)) (tC (.int 1))) [some (V.ref a), some (V.int first), some (V.int many), some (V.int bound), some (V.ref p), some (V.int (i : Int)), some (V.int (j : Int)), some (V.ref r)] H5 (.int (ds.getD j 0 + 1)) :=
            ev_op (ev_op (ev_var rfl) (ev_var rfl) (rv_ixL (sq_of h5) (at_getD (j := (j : Int)) (by omega) (by omega)))) ev_c rv_I0
          refine s_asgL (el_cat (el_cat cA (el_lst (ea_cons hd0 (ea_cons hd0 ea_nil)) (by show 2 ≤ 100000; decide)) (by simp; omega)) cB (by simp; omega)) fun u H6 hu e6 h6 => ?_
          have hsp : ds = ds.take j ++ ds.getD j 0 :: ds.drop (j + 1) := by
            rw [List.getD_eq_getElem?_getD, List.getElem?_eq_getElem hjl]
            show ds = ds.take j ++ ds[j] :: ds.drop (j + 1)
            rw [← List.drop_eq_getElem_cons hjl, List.take_append_drop]
          refine ⟨e25.trans e6, u, ds.take j ++ (ds.getD j 0 + 1) :: (ds.getD j 0 + 1) :: ds.drop (j + 1), _, _, _, rfl, fresh_back e25 hu, ?_, hL.split hsp, fun d hd => ?_, ?_⟩
          · rw [h6]
            simp [List.map_take, List.map_drop]
          · rcases List.mem_append.mp hd with h | h
            · exact hB d (List.mem_of_mem_take h)
            · rcases List.mem_cons.mp h with rfl | h
              · omega
              · rcases List.mem_cons.mp h with rfl | h
                · omega
                · exact hB d (List.mem_of_mem_drop h)
          · simp
            omega
      · obtain ⟨e2, p, ds, v5, v6, v7, rfl, hp, h2, hL, hB, hlen⟩ := hP
        refine ⟨e2, p, ds, v5, v6, v7, rfl, hp, h2, hL, hB, ?_⟩
        omega
    · obtain ⟨e2, p, ds, v5, v6, v7, rfl, hp, h2, hL, hB, hlen⟩ := hM
      refine q_when (et_test (ev_op (ev_is (ev_len (ev_var rfl) (sq_of h2)) (by rw [List.length_map])) ev_c (rv_eq (x := .int (ds.length : Int)) rfl))) (fun hb H4 e4 => ?_) (fun hb H4 e4 => ?_)
      · have h1 : (ds.length : Int) = 1 := V.int.inj (of_decide_eq_true hb)
        refine s_retL (xs := [1].map V.int) (el_lst (ea_cons ev_c ea_nil) (by decide)) fun u H5 hu e5 h5 => ?_
        exact (q [1] (.inl ⟨rfl, .inl (by omega)⟩)).go (e2.trans e4) hu e5 h5
      · have h1 : ¬ (ds.length : Int) = 1 := fun z => (of_decide_eq_false hb) (congrArg V.int z)
        have h0 : 0 < ds.length := List.length_pos_iff.mpr hL.ne
        refine s_ret (ev_var rfl) fun H5 e5 => ?_
        refine q ds (.inr ⟨hL, by omega, by omega, hB, .inl (by omega)⟩) p H5 hp ((e2.trans e4).trans e5) (e5 _ _ (e4 _ _ h2))
end
end Sl
namespace Sl
open PySem PySem.Spec PyProof.Rows L2 Evl
section
variable {P : Program} {w : World} {K : PySem.W.Frag} {mg : Str → Option Value} {base : Heap} {t : Adr}
/-! _law_order -/
def spOrder (K : PySem.W.Frag) : Sp := fun vs H Q _ => ∃ (a : Addr) (ns : List Int) (first : Int) (n : Nat), vs = [.ref a, .int first, .int (n : Int)] ∧ SqL K H a (ns.map V.int) ∧ 0 ≤ first ∧ first ≤ 1000 ∧ n ≤ 1000 ∧
  ∀ os : List Nat, os.Perm (List.range n) → RetL (os.map fun (i : Nat) => V.int (i : Int)) H Q
theorem seqIndex_nat {j n : Nat} (h : j < n) : seqIndex? (j : Int) n = some j := by
  unfold seqIndex?
  simp [show ¬ ((j : Int) < 0) by omega, h]
theorem ok_lw_order (T : Top K mg t) : FnOk P w K mg base CX0 2 t.f_lw_order t.d_lw_order ["_law_script", "_law_first", "_law_many"] (spOrder K) := by
  refine T.lw_order.F.ok sc_lw_order (fun vs H Q E h => ?_) (fun cdv A outer s H vs Q E hr h => ?_)
  · obtain ⟨a, ns, first, n, rfl, _⟩ := h
    rfl
  · obtain ⟨a, ns, first, n, rfl, hS, f0, f1, hn, q⟩ := h
    refine ⟨_, (pss_cons (ps_set (i := 3) sc_lw_order.nd rfl (.inl rfl) (pe_listRg rfl (by rfl) T.b.b_list (prg_1 (by rfl) T.b.b_range (pv 2))))
      (pss_cons (ps_set (i := 4) sc_lw_order.nd rfl (.inl rfl) (pe_lst pa_nil))
      (pss_cons (ps_for PassesOwn.never rfl (pi_range1 (by rfl) T.b.b_range (pa_cons (pv 2) pa_nil)) (pg_name (i := 5) sc_lw_order.nd rfl (.inl rfl)) (pss_one (ps_expr (pe_bm PySem.F.plainAttrs_list PySem.F.slot_list_append PySem.F.type_list_append mt_append (pv 4) (pa_cons (pe_bm PySem.F.plainAttrs_list PySem.F.slot_list_pop PySem.F.type_list_pop mt_popAt (pv 3) (pa_cons (pe_op op_mod (pe_call (ok_lw_cell T) (hr.mono (by decide)) (by rfl) T.lw_cell.g T.lw_cell.F.kp T.lw_cell.b .nil pass0 (pa_cons (pv 0) (pa_cons (pe_op op_add (pv 1) (pv 5)) pa_nil))) (pe_callB (r := rLenS K) call_len_seq (by rfl) T.b.b_len (by decide +kernel) (pa_cons (pv 3) pa_nil))) pa_nil)) pa_nil)))))
      (pss_one (ps_ret (pv 4)))))), ?_⟩
    refine q_asgL (el_range (ev_var rfl) (by omega)) fun pl H1 hpl e1 h1 => ?_
    refine q_asgL (el_lst ea_nil (by decide)) fun pf H2 hpf e2 h2 => ?_
    have e12 := e1.trans e2
    have npf : H pf = none := fresh_back e1 hpf
    have hne : pl ≠ pf := fun z => by rw [z] at h1; rw [hpf] at h1; cases h1
    refine q_forR1 (ea_cons (ev_var rfl) ea_nil) ⟨by omega, by omega⟩ (fun i σ' H' => Ex H H' ∧ ∃ (L F : List Nat) (v : Option V), σ' = [some (V.ref a), some (V.int first), some (V.int (n : Int)), some (V.ref pl), some (V.ref pf), v] ∧ H' pl = some (.lst (L.map fun (i : Nat) => V.int (i : Int))) ∧ H' pf = some (.lst (F.map fun (i : Nat) => V.int (i : Int))) ∧ (F ++ L).Perm (List.range n) ∧ F.length = i)
      (fun H3 e3 => ⟨e12.trans e3, List.range n, [], none, rfl, e3 _ _ (e2 _ _ h1), e3 _ _ h2, List.Perm.refl _, rfl⟩) (fun i σ' H' hi hP => ?_) (fun σ' H' hP => ?_)
    · obtain ⟨e3, L, F, v, rfl, hL, hF, hp, hl⟩ := hP
      have hlen : F.length + L.length = n := by
        have := hp.length_eq
        rw [List.length_append, List.length_range] at this
        exact this
      have hLp : 0 < L.length := by omega
      have hm : 0 ≤ lwCell ns (first + (i : Int)) % (L.length : Int) ∧ lwCell ns (first + (i : Int)) % (L.length : Int) < (L.length : Int) := ⟨Int.emod_nonneg _ (by omega), Int.emod_lt_of_pos _ (by omega)⟩
      obtain ⟨j, hj⟩ := Int.eq_ofNat_of_zero_le hm.1
      rw [hj] at hm
      have hjl : j < L.length := by omega
      have hix := ev_op (r := rI (fun _ j => 0 < j) fun i j => .int (i % j)) (σ := [some (V.ref a), some (V.int first), some (V.int (n : Int)), some (V.ref pl), some (V.ref pf), some (V.int (i : Int))]) (H := H')
        (ev_call (E := E0) (sp := spLwCell K) (dvs := []) (ea_cons (ev_var (i := 0) rfl) (ea_cons (ev_op (r := rI0 fun i j => .int (i + j)) (ev_var (i := 1) rfl) (ev_var (i := 5) rfl) rv_I0) ea_nil)) (sv_cell (ex_l e3 hS) (by omega) (by omega)))
        (ev_is (ev_len (K := K) (ev_var (i := 3) rfl) (sq_of hL)) (by rw [List.length_map])) (rv_I (show (0 : Int) < (L.length : Int) by omega))
      rw [hj] at hix
      refine ⟨.ref pf, rfl, .inl ⟨rfl, _, sq_of hF⟩, .ref pl, rfl, .inl ⟨rfl, _, sq_of hL⟩, ?_⟩
      refine hix H' (Ex.refl _) _ fun H4 e4 => ?_
      have hL4 := e4 _ _ hL
      have hF4 := e4 _ _ hF
      refine ⟨pl, _, (j : Int), j, V.int ((L[j] : Nat) : Int), rfl, rfl, hL4, by omega, by omega, ?_, ?_, ?_⟩
      · rw [List.length_map]
        exact seqIndex_nat hjl
      · rw [List.getElem?_map, List.getElem?_eq_getElem hjl]
        rfl
      · refine ⟨pf, _, _, rfl, rfl, by rw [upd_ne (Ne.symm hne)]; exact hF4, sz_lt (by rw [List.length_map]; omega), ?_⟩
        refine ⟨Ex.mut (Ex.mut (e3.trans e4) hpl) npf, L.eraseIdx j, F ++ [L[j]], some (V.int (i : Int)), rfl, ?_, ?_, ?_, ?_⟩
        · rw [upd_ne hne, upd_same, map_eraseIdx]
        · rw [upd_same, List.map_append]
          rfl
        · refine List.Perm.trans ?_ hp
          rw [List.append_assoc]
          refine List.Perm.append_left F ?_
          show (L[j] :: L.eraseIdx j).Perm L
          exact perm_eraseIdx hjl
        · rw [List.length_append, hl]
          rfl
    · obtain ⟨e3, L, F, v, rfl, hL, hF, hp, hl⟩ := hP
      have hL0 : L = [] := by
        have := hp.length_eq
        rw [List.length_append, List.length_range] at this
        exact List.length_eq_zero_iff.mp (by omega)
      rw [hL0, List.append_nil] at hp
      refine s_ret (ev_var rfl) fun H4 e4 => ?_
      exact q F hp pf H4 npf (e3.trans e4) (e4 _ _ hF)
where
  map_eraseIdx {α β : Type} (f : α → β) : ∀ (l : List α) (j : Nat), (l.map f).eraseIdx j = (l.eraseIdx j).map f
    | [], _ => rfl
    | _ :: _, 0 => rfl
    | x :: l, j + 1 => by
      show f x :: (l.map f).eraseIdx j = f x :: (l.eraseIdx j).map f
      rw [map_eraseIdx f l j]
  perm_eraseIdx {α : Type} : ∀ {l : List α} {j : Nat} (h : j < l.length), (l[j] :: l.eraseIdx j).Perm l
    | [], j, h => absurd h (Nat.not_lt_zero _)
    | x :: l, 0, _ => List.Perm.refl _
    | x :: l, j + 1, h => by
      have hj : j < l.length := Nat.lt_of_succ_lt_succ h
      have ih := perm_eraseIdx hj
      show (l[j] :: x :: l.eraseIdx j).Perm (x :: l)
      exact (List.Perm.swap _ _ _).trans (List.Perm.cons _ ih)
end
end Sl
namespace Sl
open PySem PySem.Spec PyProof.Rows L2 Evl
section
variable {P : Program} {w : World} {K : PySem.W.Frag} {mg : Str → Option Value} {base : Heap} {t : Adr}
/-! _law_lengths -/
def spLengths (K : PySem.W.Frag) : Sp := fun vs H Q _ => ∃ (a : Addr) (ns : List Int), vs = [.ref a] ∧ SqL K H a (ns.map V.int) ∧
  ∀ (p : Addr) (xs : List V) (H2 : Hp), H p = none → Ex H H2 → H2 p = some (.lst xs) → (∀ x ∈ xs, Simple H2 x) → xs.length ≤ 40 → Q (.ref p) H2
theorem given_ints (n : Nat) (f : Nat → Int) : (List.range n).map (fun k => V.int (f k)) = ((List.range n).map f).map V.int := by rw [List.map_map]; rfl
theorem simple_ints {H : Hp} (ls : List Int) : ∀ x ∈ ls.map V.int, Simple H x := fun x hx => by
  obtain ⟨i, _, rfl⟩ := List.mem_map.mp hx
  exact .int i
theorem ok_lw_lengths (T : Top K mg t) : FnOk P w K mg base CX0 3 t.f_lw_lengths t.d_lw_lengths ["_law_script"] (spLengths K) := by
  refine T.lw_lengths.F.ok sc_lw_lengths (fun vs H Q E h => ?_) (fun cdv A outer s H vs Q E hr h => ?_)
  · obtain ⟨a, ns, rfl, _⟩ := h
    rfl
  · obtain ⟨a, ns, rfl, hS, q⟩ := h
    refine ⟨_, (pss_cons (ps_set (i := 1) sc_lw_lengths.nd rfl (.inl rfl) (pe_op op_add pe_int (pe_op op_mod (pe_call (ok_lw_cell T) (hr.mono (by decide)) (by rfl) T.lw_cell.g T.lw_cell.F.kp T.lw_cell.b .nil pass0 (pa_cons (pv 0) (pa_cons pe_int pa_nil))) pe_int)))
      (pss_cut (ps_if (pt_cmpR op_eq (pe_op op_mod (pe_op op_fdiv (pe_call (ok_lw_cell T) (hr.mono (by decide)) (by rfl) T.lw_cell.g T.lw_cell.F.kp T.lw_cell.b .nil pass0 (pa_cons (pv 0) (pa_cons pe_int pa_nil))) pe_int) pe_int) pe_int (nomark _)) (pss_one (ps_set (i := 1) sc_lw_lengths.nd rfl (.inl rfl) (pe_op op_mod (pe_op op_fdiv (pe_call (ok_lw_cell T) (hr.mono (by decide)) (by rfl) T.lw_cell.g T.lw_cell.F.kp T.lw_cell.b .nil pass0 (pa_cons (pv 0) (pa_cons pe_int pa_nil))) pe_int) pe_int))) pss_nil)
      (pss_cons (ps_set (i := 2) sc_lw_lengths.nd rfl (.inl rfl) (pe_op op_mod (pe_call (ok_lw_cell T) (hr.mono (by decide)) (by rfl) T.lw_cell.g T.lw_cell.F.kp T.lw_cell.b .nil pass0 (pa_cons (pv 0) (pa_cons pe_int pa_nil))) pe_int))
      (pss_cons (ps_if (pt_cmpR op_eq (pv 2) pe_int (nomark _)) (pss_one (ps_ret (pe_lc (own := [("_law_k", 5)]) (g := gName 5) (tt := tYes) rfl sc_lw_lengths.nd (pi_range1 (by rfl) T.b.b_range (pa_cons (pv 1) pa_nil)) (blkOk_by (own := [("_law_k", 5)]) (N := N_lw_lengths) (sc := defScope s_lw_lengths) (by decide +kernel)) (fun _ _ _ _ _ => (pg_name (i := 5) sc_lw_lengths.nd rfl (.inl rfl))) (fun _ _ _ _ _ => pts_nil) (fun _ _ _ _ _ => (pe_op op_add pe_int (pe_op op_mod (pe_call (ok_lw_cell T) (hr.mono (by decide)) (by rfl) T.lw_cell.g T.lw_cell.F.kp T.lw_cell.b .nil pass0 (pa_cons (pv 0) (pa_cons (pe_op op_add pe_int (pv 5)) pa_nil))) pe_int)))))) pss_nil)
      (pss_cons (ps_if (pt_cmpR op_eq (pv 2) pe_int (nomark _)) (pss_one (ps_ret (pe_lc (own := [("_law_k", 5)]) (g := gName 5) (tt := tYes) rfl sc_lw_lengths.nd (pi_range1 (by rfl) T.b.b_range (pa_cons (pv 1) pa_nil)) (blkOk_by (own := [("_law_k", 5)]) (N := N_lw_lengths) (sc := defScope s_lw_lengths) (by decide +kernel)) (fun _ _ _ _ _ => (pg_name (i := 5) sc_lw_lengths.nd rfl (.inl rfl))) (fun _ _ _ _ _ => pts_nil) (fun _ _ _ _ _ => (pe_callB (r := rMin2) (call_min2 rfl) (by rfl) T.b.b_min (by decide +kernel) (pa_cons pe_int (pa_cons (pe_op op_add (pe_op op_add (pe_op op_mod (pe_call (ok_lw_cell T) (hr.mono (by decide)) (by rfl) T.lw_cell.g T.lw_cell.F.kp T.lw_cell.b .nil pass0 (pa_cons (pv 0) (pa_cons pe_int pa_nil))) pe_int) pe_int) (pe_op op_mod (pe_call (ok_lw_cell T) (hr.mono (by decide)) (by rfl) T.lw_cell.g T.lw_cell.F.kp T.lw_cell.b .nil pass0 (pa_cons (pv 0) (pa_cons (pe_op op_add pe_int (pv 5)) pa_nil))) pe_int)) pa_nil))))))) pss_nil)
      (pss_cons (ps_set (i := 3) sc_lw_lengths.nd rfl (.inr rfl) (pe_call (ok_lw_leaves T) (hr.mono (by decide)) (by rfl) T.lw_leaves.g T.lw_leaves.F.kp T.lw_leaves.b .nil pass0 (pa_cons (pv 0) (pa_cons pe_int (pa_cons (pe_callB (r := rMax2) (call_max2 rfl) (by rfl) T.b.b_max (by decide +kernel) (pa_cons pe_int (pa_cons (pv 1) pa_nil))) (pa_cons pe_int pa_nil))))))
      (pss_cut (ps_if (pt_cmpR op_gt (pv 2) pe_int (nomark _)) (pss_cons (ps_set (i := 4) sc_lw_lengths.nd rfl (.inl rfl) (pe_call (ok_lw_order T) (hr.mono (by decide)) (by rfl) T.lw_order.g T.lw_order.F.kp T.lw_order.b .nil pass0 (pa_cons (pv 0) (pa_cons pe_int (pa_cons (pe_callB (r := rLenS K) call_len_seq (by rfl) T.b.b_len (by decide +kernel) (pa_cons (pv 3) pa_nil)) pa_nil)))))
      (pss_one (ps_set (i := 3) sc_lw_lengths.nd rfl (.inr rfl) (pe_lc (own := [("_law_at", 6)]) (g := gName 6) (tt := tYes) rfl sc_lw_lengths.nd (pi_list (pv 4)) (blkOk_by (own := [("_law_at", 6)]) (N := N_lw_lengths) (sc := defScope s_lw_lengths) (by decide +kernel)) (fun _ _ _ _ _ => (pg_name (i := 6) sc_lw_lengths.nd rfl (.inl rfl))) (fun _ _ _ _ _ => pts_nil) (fun _ _ _ _ _ => (pe_ix (r := rIxL K) ix_list (pv 3) (pv 6) (fun _ _ => rfl))))))) pss_nil)
      (pss_cut (ps_if (pt_cmpR op_eq (pe_op op_mod (pv 2) pe_int) pe_int (nomark _)) (pss_one (ps_set (i := 3) sc_lw_lengths.nd rfl (.inr rfl) (pe_slice (r := rSlL K) sl_list (pv 3) po_none (po_some (pe_op op_mod (pe_call (ok_lw_cell T) (hr.mono (by decide)) (by rfl) T.lw_cell.g T.lw_cell.F.kp T.lw_cell.b .nil pass0 (pa_cons (pv 0) (pa_cons pe_int pa_nil))) (pe_op op_add (pe_callB (r := rLenS K) call_len_seq (by rfl) T.b.b_len (by decide +kernel) (pa_cons (pv 3) pa_nil)) pe_int)))))) pss_nil)
      (pss_cut (ps_if (pt_cmpR op_eq (pe_op op_mod (pe_call (ok_lw_cell T) (hr.mono (by decide)) (by rfl) T.lw_cell.g T.lw_cell.F.kp T.lw_cell.b .nil pass0 (pa_cons (pv 0) (pa_cons pe_int pa_nil))) pe_int) pe_int (nomark _)) (pss_one (ps_expr (pe_bm PySem.F.plainAttrs_list PySem.F.slot_list_insert PySem.F.type_list_insert mt_insert (pv 3) (pa_cons (pe_op op_mod (pe_op op_fdiv (pe_call (ok_lw_cell T) (hr.mono (by decide)) (by rfl) T.lw_cell.g T.lw_cell.F.kp T.lw_cell.b .nil pass0 (pa_cons (pv 0) (pa_cons pe_int pa_nil))) pe_int) (pe_op op_add (pe_callB (r := rLenS K) call_len_seq (by rfl) T.b.b_len (by decide +kernel) (pa_cons (pv 3) pa_nil)) pe_int)) (pa_cons (pe_call (ok_lw_strange T) (hr.mono (by decide)) (by rfl) T.lw_strange.g T.lw_strange.F.kp T.lw_strange.b .nil pass0 (pa_cons (pe_call (ok_lw_cell T) (hr.mono (by decide)) (by rfl) T.lw_cell.g T.lw_cell.F.kp T.lw_cell.b .nil pass0 (pa_cons (pv 0) (pa_cons pe_int pa_nil))) (pa_cons pe_int (pa_cons pe_int pa_nil)))) pa_nil))))) pss_nil)
      (pss_one (ps_ret (pv 3)))))))))))), ?_⟩
    have cell : ∀ (σ : L2.St) (H1 : Hp) (k : Int), σ[0]? = some (some (V.ref a)) → Ex H H1 → 0 ≤ k → k ≤ 1000 → Ev (tCall (spLwCell K) [] E0 (tCons (tVar 0) (tCons (tC (.int k)) tNil))) σ H1 (.int (lwCell ns k)) := fun σ H1 k h0 e k0 k1 =>
      ev_call (ea_cons (ev_var h0) (ea_cons ev_c ea_nil)) (sv_cell (ex_l e hS) k0 (by omega))
    refine q_asg (ev_op ev_c (ev_op (cell _ _ 0 rfl (Ex.refl _) (by decide) (by decide)) ev_c (rv_I (by decide))) rv_I0) fun H1 e1 => ?_
    refine q_cut (M := fun σ' H' => Ex H H' ∧ ∃ n : Nat, n ≤ 26 ∧ σ' = [some (V.ref a), some (V.int (n : Int)), none, none, none, none, none]) ?_ fun σ' H' hM => ?_
    · refine s_when (et_test (ev_op (ev_op (ev_op (cell _ _ 0 rfl e1 (by decide) (by decide)) ev_c (rv_I ⟨by decide, by decide⟩)) ev_c (rv_I (by decide))) ev_c (rv_eq rfl))) (fun hb H2 e2 => ?_) (fun hb H2 e2 => ?_)
      · refine s_asg (ev_op (ev_op (cell _ _ 0 rfl (e1.trans e2) (by decide) (by decide)) ev_c (rv_I ⟨by decide, by decide⟩)) ev_c (rv_I (by decide))) fun H3 e3 => ?_
        have hm := mod_in (lwCell ns 0 / 48) (show (0 : Int) < 27 by decide)
        exact ⟨(e1.trans e2).trans e3, (lwCell ns 0 / 48 % 27).toNat, by omega, by rw [Int.toNat_of_nonneg hm.1]; rfl⟩
      · have hm := mod_in (lwCell ns 0) (show (0 : Int) < 12 by decide)
        exact ⟨e1.trans e2, (1 + lwCell ns 0 % 12).toNat, by omega, by rw [Int.toNat_of_nonneg (by omega)]; rfl⟩
    obtain ⟨e2, n, hn, rfl⟩ := hM
    refine q_asg (ev_op (cell _ _ 1 rfl e2 (by decide) (by decide)) ev_c (rv_I (by decide))) fun H3 e3 => ?_
    have e23 := e2.trans e3
    obtain ⟨way, hway⟩ : ∃ way, way = lwCell ns 1 % 6 := ⟨_, rfl⟩
    rw [← hway]
    have fin : ∀ (D : Ends) (σ : L2.St) (H4 : Hp) (te : TE) (f : Nat → Int), D.rt = Q → Ex H H4 → EvL te σ H4 ((List.range n).map fun k => V.int (f k)) → tRet te D σ H4 := fun D σ H4 te f hD e4 hl => by
      refine s_retL hl fun p H5 hp e5 h5 => ?_
      rw [hD]
      exact q p _ H5 (fresh_back e4 hp) (e4.trans e5) h5 (by rw [given_ints]; exact simple_ints _) (by rw [List.length_map, List.length_range]; omega)
    -- the ways by draws
    refine q_when (et_test (ev_op (ev_var rfl) ev_c (rv_eq rfl))) (fun hb H4 e4 => ?_) (fun hb H4 e4 => ?_)
    · have c1 := el_lcR1 (σ := [some (V.ref a), some (V.int (n : Int)), some (V.int way), none, none, none, none]) (H := H4) (j := 5) (vs := [5]) (t := tYes) (n := (n : Int)) (ta := tCons (tVar 1) tNil)
        (te := tOp (rI0 fun i j => .int (i + j)) (tC (.int 1)) (tOp (rI (fun _ j => 0 < j) fun i j => .int (i % j)) (tCall (spLwCell K) [] E0 (tCons (tVar 0) (tCons (tOp (rI0 fun i j => .int (i + j)) (tC (.int 6)) (tVar 5)) tNil))) (tC (.int 12))))
        (fun _ => true) (fun i => .int (1 + lwCell ns (6 + (i : Int)) % 12)) (ea_cons (ev_var rfl) ea_nil) ⟨by omega, by omega⟩ (fun x => rfl) (fun i H5 e5 hi => et_yes)
        (fun i H5 e5 hi _ => ev_op ev_c (ev_op (ev_call (ea_cons (ev_var rfl) (ea_cons (ev_op ev_c (ev_var rfl) rv_I0) ea_nil)) (sv_cell (ex_l ((e23.trans e4).trans e5) hS) (by omega) (by omega))) ev_c (rv_I (by decide))) rv_I0)
      rw [given_all, Int.toNat_natCast] at c1
      exact fin _ _ H4 _ _ rfl (e23.trans e4) c1
    have e24 := e23.trans e4
    refine q_when (et_test (ev_op (ev_var rfl) ev_c (rv_eq rfl))) (fun hb2 H5 e5 => ?_) (fun hb2 H5 e5 => ?_)
    · have c1 := el_lcR1 (σ := [some (V.ref a), some (V.int (n : Int)), some (V.int way), none, none, none, none]) (H := H5) (j := 5) (vs := [5]) (t := tYes) (n := (n : Int)) (ta := tCons (tVar 1) tNil)
        (te := tCB rMin2 (tCons (tC (.int 12)) (tCons (tOp (rI0 fun i j => .int (i + j)) (tOp (rI0 fun i j => .int (i + j)) (tOp (rI (fun _ j => 0 < j) fun i j => .int (i % j)) (tCall (spLwCell K) [] E0 (tCons (tVar 0) (tCons (tC (.int 2)) tNil))) (tC (.int 4))) (tC (.int 1)))
          (tOp (rI (fun _ j => 0 < j) fun i j => .int (i % j)) (tCall (spLwCell K) [] E0 (tCons (tVar 0) (tCons (tOp (rI0 fun i j => .int (i + j)) (tC (.int 6)) (tVar 5)) tNil))) (tC (.int 8)))) tNil)))
        (fun _ => true) (fun i => .int (if lwCell ns 2 % 4 + 1 + lwCell ns (6 + (i : Int)) % 8 < 12 then lwCell ns 2 % 4 + 1 + lwCell ns (6 + (i : Int)) % 8 else 12)) (ea_cons (ev_var rfl) ea_nil) ⟨by omega, by omega⟩ (fun x => rfl) (fun i H6 e6 hi => et_yes)
        (fun i H6 e6 hi _ => ev_min2 ev_c (ev_op (ev_op (ev_op (cell _ _ 2 rfl ((e24.trans e5).trans e6) (by decide) (by decide)) ev_c (rv_I (by decide))) ev_c rv_I0) (ev_op (ev_call (ea_cons (ev_var rfl) (ea_cons (ev_op ev_c (ev_var rfl) rv_I0) ea_nil)) (sv_cell (ex_l ((e24.trans e5).trans e6) hS) (by omega) (by omega))) ev_c (rv_I (by decide))) rv_I0))
      rw [given_all, Int.toNat_natCast] at c1
      exact fin _ _ H5 _ _ rfl (e24.trans e5) c1
    have e25 := e24.trans e5
    -- a tree's leaves
    refine ⟨_, rfl, ?_⟩
    refine ev_max2 (σ := [some (V.ref a), some (V.int (n : Int)), some (V.int way), none, none, none, none]) (H := H5) ev_c (ev_var rfl) H5 (Ex.refl _) _ fun H6 e6' => ?_
    have hmax : -1000 ≤ (if (n : Int) > 1 then (n : Int) else 1) ∧ (if (n : Int) > 1 then (n : Int) else 1) ≤ 26 := by
      split <;> omega
    refine ⟨a, ns, 6, _, 12, rfl, ex_l (e25.trans e6') hS, by decide, by decide, hmax.1, by omega, by decide, fun ds hG p H7 hp e7' h6 => ?_⟩
    have hds : ds.length ≤ 26 := by
      rcases hG with ⟨rfl, _⟩ | ⟨_, _, h3, _⟩
      · decide
      · omega
    have e6 := e6'.trans e7'
    have hp := fresh_back e6' hp
    have e26 := e25.trans e6
    refine q_cut (M := fun σ' H' => Ex H H' ∧ ∃ (p : Addr) (ds : List Int) (v4 : Option V), σ' = [some (V.ref a), some (V.int (n : Int)), some (V.int way), some (V.ref p), v4, none, none] ∧ H p = none ∧ H' p = some (.lst (ds.map V.int)) ∧ ds.length ≤ 26) ?_ fun σ' H' hM => ?_
    · refine s_when (et_test (ev_op (ev_var rfl) ev_c rv_I0)) (fun hb H8 e7 => ?_) (fun hb H8 e7 => ⟨e26.trans e7, p, ds, none, rfl, fresh_back e25 hp, e7 _ _ h6, hds⟩)
      have h7 := e7 _ _ h6
      refine ⟨_, rfl, ?_⟩
      refine (ev_is (ev_len (K := K) (σ := [some (V.ref a), some (V.int (n : Int)), some (V.int way), some (V.ref p), none, none, none]) (H := H8) (ta := tVar 3) (ev_var rfl) (sq_of h7)) (by rw [List.length_map])) H8 (Ex.refl _) _ fun H9 e9' => ?_
      refine ⟨a, ns, 30, ds.length, rfl, ex_l ((e26.trans e7).trans e9') hS, by decide, by decide, by omega, fun os ho r H8 hr e9 h8 => ?_⟩
      have e8 := e9'.trans e9
      have e28 := (e26.trans e7).trans e8
      have h78 := e8 _ _ h7
      have hlo : os.length = ds.length := by have := ho.length_eq; rw [List.length_range] at this; exact this
      have cO := el_lcL (K := K) (σ := [some (V.ref a), some (V.int (n : Int)), some (V.int way), some (V.ref p), some (V.ref r), none, none]) (H := H8) (a := r) (xs := os.map fun (i : Nat) => V.int (i : Int)) (j := 6) (vs := [6]) (t := tYes) (tl := tVar 4) (te := tOp (rIxL K) (tVar 3) (tVar 6))
        (fun _ => true) (fun i => .int (ds.getD (os.getD i 0) 0)) (ev_var rfl) (sq_of h8) (by rw [List.length_map]; omega) (fun x => rfl) (fun i x H9 e9 hx => et_yes) (fun i x H9 e9 hx _ => by
          rw [List.getElem?_map] at hx
          obtain ⟨m, hm, rfl⟩ := Option.map_eq_some_iff.mp hx
          have em : os.getD i 0 = m := by rw [List.getD_eq_getElem?_getD, hm]; rfl
          rw [em]
          have hml : m < ds.length := List.mem_range.mp (ho.mem_iff.mp (List.mem_of_getElem? hm))
          exact ev_op (ev_var rfl) (ev_var rfl) (rv_ixL (sq_of (e9 _ _ h78)) (at_getD (j := (m : Int)) (by omega) (by omega))))
      rw [given_all, given_ints] at cO
      refine s_asgL cO fun u H9 hu e9 h9 => ⟨e28.trans e9, u, _, _, rfl, fresh_back e28 hu, h9, ?_⟩
      rw [List.length_map, List.length_range, List.length_map]
      omega
    obtain ⟨e7, p, ds, v4, rfl, hp, h7, hds⟩ := hM
    -- some left out
    refine q_cut (M := fun σ' H' => Ex H H' ∧ ∃ (p : Addr) (ds : List Int), σ' = [some (V.ref a), some (V.int (n : Int)), some (V.int way), some (V.ref p), v4, none, none] ∧ H p = none ∧ H' p = some (.lst (ds.map V.int)) ∧ ds.length ≤ 26) ?_ fun σ' H' hM => ?_
    · refine s_when (et_test (ev_op (ev_op (ev_var rfl) ev_c (rv_I (by decide))) ev_c (rv_eq rfl))) (fun hb H8 e8 => ?_) (fun hb H8 e8 => ⟨e7.trans e8, p, ds, rfl, hp, e8 _ _ h7, hds⟩)
      have hm := mod_in (lwCell ns 3) (show (0 : Int) < (ds.length : Int) + 1 by omega)
      obtain ⟨m, hmm⟩ := Int.eq_ofNat_of_zero_le hm.1
      have cS := el_sl (K := K) (σ := [some (V.ref a), some (V.int (n : Int)), some (V.int way), some (V.ref p), v4, none, none]) (H := H8) (te := tVar 3) (tl := tNoPart) (th := tPart (tOp (rI (fun _ j => 0 < j) fun i j => .int (i % j)) (tCall (spLwCell K) [] E0 (tCons (tVar 0) (tCons (tC (.int 3)) tNil))) (tOp (rI0 fun i j => .int (i + j)) (tCB (rLenS K) (tCons (tVar 3) tNil)) (tC (.int 1)))))
        (ev_var rfl) eo_none (eo_some (ev_op (cell _ _ 3 rfl (e7.trans e8) (by decide) (by decide)) (ev_op (ev_is (ev_len (ev_var rfl) (sq_of (e8 _ _ h7))) (by rw [List.length_map])) ev_c rv_I0) (rv_I (show (0 : Int) < (ds.length : Int) + 1 by omega)))) (sq_of (e8 _ _ h7))
      rw [hmm, cutV_to] at cS
      refine s_asgL cS fun u H9 hu e9 h9 => ⟨(e7.trans e8).trans e9, u, ds.take m, rfl, fresh_back (e7.trans e8) hu, by rw [h9, List.map_take], by rw [List.length_take]; omega⟩
    obtain ⟨e8, p, ds, rfl, hp, h8, hds⟩ := hM
    -- a strange thing put in
    refine q_cut (M := fun σ' H' => Ex H H' ∧ ∃ (xs : List V), σ' = [some (V.ref a), some (V.int (n : Int)), some (V.int way), some (V.ref p), v4, none, none] ∧ H' p = some (.lst xs) ∧ xs.length ≤ 27 ∧ ∀ x ∈ xs, Simple H' x) ?_ fun σ' H' hM => ?_
    · refine s_when (et_test (ev_op (ev_op (cell _ _ 4 rfl e8 (by decide) (by decide)) ev_c (rv_I (by decide))) ev_c (rv_eq rfl))) (fun hb H9 e9 => ?_) (fun hb H9 e9 => ⟨e8.trans e9, ds.map V.int, rfl, e9 _ _ h8, by rw [List.length_map]; omega, simple_ints ds⟩)
      have h9 := e9 _ _ h8
      have e89 := e8.trans e9
      have hm := mod_in (lwCell ns 4 / 5) (show (0 : Int) < (ds.length : Int) + 1 by omega)
      refine ⟨.ref p, rfl, .inl ⟨rfl, _, sq_of h9⟩, ?_⟩
      refine (ev_op (r := rI (fun _ j => 0 < j) fun i j => .int (i % j)) (σ := [some (V.ref a), some (V.int (n : Int)), some (V.int way), some (V.ref p), v4, none, none]) (H := H9) (ev_op (r := rI CDiv fun i j => .int (i / j)) (cell _ _ 4 rfl e89 (by decide) (by decide)) ev_c (rv_I ⟨by decide, by decide⟩))
        (ev_op (r := rI0 fun i j => .int (i + j)) (ev_is (ev_len (K := K) (ev_var rfl) (sq_of h9)) (by rw [List.length_map])) ev_c rv_I0) (rv_I (show (0 : Int) < (ds.length : Int) + 1 by omega))) H9 (Ex.refl _) _ fun H10 e10 => ?_
      refine cell _ H10 5 rfl (e89.trans e10) (by decide) (by decide) H10 (Ex.refl _) _ fun H11 e11 => ?_
      refine ⟨_, 1, 12, rfl, fun v H12 e12 hv hf => ?_⟩
      have h12 := e12 _ _ (e11 _ _ (e10 _ _ h9))
      refine ⟨p, _, _, _, rfl, rfl, h12, sz_lt (by rw [List.length_map]; omega), hm.1, by omega, ?_⟩
      have eH := ((e89.trans e10).trans e11).trans e12
      have nv : ∀ x, Simple H12 x → (∀ b, x = .ref b → b ≠ p) → Simple (upd H12 p (.lst ((ds.map V.int).take (lwCell ns 4 / 5 % ((ds.length : Int) + 1)).toNat ++ [v] ++ (ds.map V.int).drop (lwCell ns 4 / 5 % ((ds.length : Int) + 1)).toNat))) x := fun x hx hb => by
        rcases hx with h | h | h | h | ⟨b, zs, h, g⟩
        · exact .inl h
        · exact .inr (.inl h)
        · exact .inr (.inr (.inl h))
        · exact .inr (.inr (.inr (.inl h)))
        · refine .inr (.inr (.inr (.inr ⟨b, zs, h, ?_⟩)))
          rw [upd_ne (hb b h)]
          exact g
      refine ⟨Ex.mut eH hp, _, rfl, upd_same, ?_, fun x hx => ?_⟩
      · simp
        omega
      · rcases List.mem_append.mp hx with hx | hx
        · rcases List.mem_append.mp hx with hx | hx
          · obtain ⟨i, _, rfl⟩ := List.mem_map.mp (List.mem_of_mem_take hx)
            exact .int i
          · rw [List.mem_singleton.mp hx]
            refine nv v hv fun b z w => ?_
            subst w
            have := hf b z
            rw [e11 _ _ (e10 _ _ h9)] at this
            cases this
        · obtain ⟨i, _, rfl⟩ := List.mem_map.mp (List.mem_of_mem_drop hx)
          exact .int i
    · obtain ⟨e9, xs, rfl, h9, hl, hs⟩ := hM
      refine s_ret (ev_var rfl) fun H10 e10 => ?_
      exact q p xs H10 hp (e9.trans e10) (e10 _ _ h9) (fun x hx => (hs x hx).mono e10) (by omega)
end
end Sl
namespace Sl
open PySem PySem.Spec PyProof.Rows L2 Evl
section
variable {P : Program} {w : World} {K : PySem.W.Frag} {mg : Str → Option Value} {base : Heap} {t : Adr}
/-! _law_bits -/
theorem bits_head (i : Nat) : ∀ n, bits n (i + 1) = (48 + n / 2 ^ i % 2) :: bits n i := by
  induction i with
  | zero => intro n; show [] ++ [48 + n % 2] = _; rw [Nat.pow_zero, Nat.div_one]; rfl
  | succ i ih =>
    intro n
    show bits (n / 2) (i + 1) ++ [48 + n % 2] = _
    rw [ih, Nat.div_div_eq_div_mul, Nat.pow_succ, Nat.mul_comm (2 ^ i) 2]
    rfl
def spBits : Sp := fun vs H Q _ => ∃ n k : Nat, vs = [.int (n : Int), .int (k : Int)] ∧ k ≤ 1000 ∧ RetV (.str (tx (bits n k))) H Q
theorem sv_bits {H : Hp} {n k : Nat} (h : k ≤ 1000) : SpV spBits ([.int (n : Int), .int (k : Int)] ++ []) H (.str (tx (bits n k))) := fun H1 e Q q E => ⟨n, k, rfl, h, q⟩
theorem ok_lw_bits (T : Top K mg t) : FnOk P w K mg base CX0 1 t.f_lw_bits t.d_lw_bits ["_law_number", "_law_length"] spBits := by
  refine T.lw_bits.F.ok sc_lw_bits (fun vs H Q E h => ?_) (fun cdv A outer s H vs Q E hr h => ?_)
  · obtain ⟨n, k, rfl, _⟩ := h
    rfl
  · obtain ⟨n, k, rfl, hk, q⟩ := h
    refine ⟨_, (pss_cons (ps_set (i := 2) sc_lw_bits.nd rfl (.inl rfl) pe_str)
      (pss_cons (ps_for PassesOwn.never rfl (pi_range1 (by rfl) T.b.b_range (pa_cons (pv 1) pa_nil)) (pg_name (i := 3) sc_lw_bits.nd rfl (.inl rfl)) (pss_cons (ps_set (i := 2) sc_lw_bits.nd rfl (.inl rfl) (pe_op op_add_str (pe_ix ix_str pe_str (pe_op op_mod (pv 0) pe_int) (fun _ _ => rfl)) (pv 2)))
      (pss_one (ps_set (i := 0) sc_lw_bits.nd rfl (.inl rfl) (pe_op op_fdiv (pv 0) pe_int)))))
      (pss_one (ps_ret (pv 2))))), ?_⟩
    refine q_asg ev_c fun H1 e1 => ?_
    refine q_forR1 (ea_cons (ev_var rfl) ea_nil) ⟨by omega, by omega⟩ (fun i σ' H' => Ex H H' ∧ ∃ v, σ' = [some (V.int ((n / 2 ^ i : Nat) : Int)), some (V.int (k : Int)), some (V.str (tx (bits n i))), v]) (fun H2 e2 => ⟨e1.trans e2, none, ?_⟩) (fun i σ' H' hi hP => ?_) (fun σ' H' hP => ?_)
    · rw [Nat.pow_zero, Nat.div_one]
      rfl
    · obtain ⟨e2, v, rfl⟩ := hP
      have hm : (((n / 2 ^ i : Nat) : Int)) % 2 = ((n / 2 ^ i % 2 : Nat) : Int) := by omega
      have hd : (((n / 2 ^ i : Nat) : Int)) / 2 = ((n / 2 ^ (i + 1) : Nat) : Int) := by
        rw [Nat.pow_succ, ← Nat.div_div_eq_div_mul]
        omega
      have hc : atI (Str.ofString "01").cps.toList (((n / 2 ^ i : Nat) : Int) % 2) = some (48 + n / 2 ^ i % 2) := by
        rw [hm]
        have h2 : n / 2 ^ i % 2 < 2 := Nat.mod_lt _ (by decide)
        obtain ⟨m, hmm⟩ : ∃ m, m = n / 2 ^ i % 2 := ⟨_, rfl⟩
        rw [← hmm] at h2 ⊢
        have : m = 0 ∨ m = 1 := by omega
        rcases this with rfl | rfl <;> rfl
      refine q_asg (ev_op (ev_op ev_c (ev_op (ev_var rfl) ev_c (rv_I (by decide))) (rv_ixS (by decide +kernel) hc)) (ev_var rfl) (rv_addTx (a := [48 + n / 2 ^ i % 2]) (b := bits n i) (by rw [bits_len]; show 1 + i ≤ _; omega))) fun H3 e3 => ?_
      refine s_asg (ev_op (ev_var rfl) ev_c (rv_I ⟨by decide, by decide⟩)) fun H4 e4 => ?_
      refine ⟨(e2.trans e3).trans e4, some (V.int (i : Int)), ?_⟩
      rw [hd, bits_head]
      rfl
    · obtain ⟨e2, v, rfl⟩ := hP
      exact s_ret (ev_var rfl) fun H3 e3 => q H3 (e2.trans e3)
end
end Sl
namespace Sl
open PySem PySem.Spec PyProof.Rows L2 Evl
section
variable {P : Program} {w : World} {K : PySem.W.Frag} {mg : Str → Option Value} {base : Heap} {t : Adr}
/-! _law_apart -/
def Apart (ws : List (List Nat)) : Prop := ∀ (i j : Nat) (u v : List Nat), i ≠ j → ws[i]? = some u → ws[j]? = some v → v.take u.length ≠ u
def spApart (K : PySem.W.Frag) : Sp := fun vs H Q _ => ∃ (a : Addr) (ws : List (List Nat)), vs = [.ref a] ∧ SqL K H a (ws.map vtx) ∧ ws.length ≤ 1000 ∧ (∀ u ∈ ws, u.length ≤ 1000) ∧ Apart ws ∧ RetV (.bl true) H Q
theorem sv_apart {H : Hp} {a : Addr} {ws : List (List Nat)} (h : SqL K H a (ws.map vtx)) (h1 : ws.length ≤ 1000) (h2 : ∀ u ∈ ws, u.length ≤ 1000) (h3 : Apart ws) : SpV (spApart K) ([.ref a] ++ []) H (.bl true) := fun H1 e Q q E => ⟨a, ws, rfl, ex_l e h, h1, h2, h3, q⟩
theorem at_vtx {ws : List (List Nat)} {i : Nat} {u : List Nat} (h : ws[i]? = some u) : atI (ws.map vtx) (i : Int) = some (.str (tx u)) := by
  refine atI_nat ?_
  rw [List.getElem?_map, h]
  rfl
theorem ok_lw_apart (T : Top K mg t) : FnOk P w K mg base CX0 1 t.f_lw_apart t.d_lw_apart ["_law_words"] (spApart K) := by
  refine T.lw_apart.F.ok sc_lw_apart (fun vs H Q E h => ?_) (fun cdv A outer s H vs Q E hr h => ?_)
  · obtain ⟨a, ws, rfl, _⟩ := h
    rfl
  · obtain ⟨a, ws, rfl, hS, h1, h2, h3, q⟩ := h
    refine ⟨_, (pss_cons (ps_for PassesOwn.never rfl (pi_range1 (by rfl) T.b.b_range (pa_cons (pe_callB (r := rLenS K) call_len_seq (by rfl) T.b.b_len (by decide +kernel) (pa_cons (pv 0) pa_nil)) pa_nil)) (pg_name (i := 1) sc_lw_apart.nd rfl (.inl rfl)) (pss_one (ps_for PassesOwn.never rfl (pi_range1 (by rfl) T.b.b_range (pa_cons (pe_callB (r := rLenS K) call_len_seq (by rfl) T.b.b_len (by decide +kernel) (pa_cons (pv 0) pa_nil)) pa_nil)) (pg_name (i := 2) sc_lw_apart.nd rfl (.inl rfl)) (pss_one (ps_if (PW.pt (pw_and (pt_cmpR op_ne (pv 1) (pv 2) (nomark _)) (pw_and1 (pt_cmpR op_eq (pe_slice sl_str (pe_ix (r := rIxL K) ix_list (pv 0) (pv 2) (fun _ _ => rfl)) po_none (po_some (pe_callB (r := rLenTx) call_len_str (by rfl) T.b.b_len (by decide +kernel) (pa_cons (pe_ix (r := rIxL K) ix_list (pv 0) (pv 1) (fun _ _ => rfl)) pa_nil)))) (pe_ix (r := rIxL K) ix_list (pv 0) (pv 1) (fun _ _ => rfl)) (nomark _))))) (pss_one (ps_ret pe_bl)) pss_nil)))))
      (pss_one (ps_ret pe_bl))), ?_⟩
    refine q_forR1 (n := (ws.length : Int)) (ea_cons (ev_is (ev_len (ev_var rfl) hS) (by rw [List.length_map])) ea_nil) ⟨by omega, by omega⟩ (fun i σ' H' => Ex H H' ∧ ∃ v1 v2, σ' = [some (V.ref a), v1, v2]) (fun H2 e2 => ⟨e2, none, none, rfl⟩) (fun i σ' H' hi hP => ?_) (fun σ' H' hP => ?_)
    · obtain ⟨e2, v1, v2, rfl⟩ := hP
      refine s_forR1 (n := (ws.length : Int)) (ea_cons (ev_is (ev_len (ev_var rfl) (ex_l e2 hS)) (by rw [List.length_map])) ea_nil) ⟨by omega, by omega⟩ (fun j σ' H' => Ex H H' ∧ ∃ v2, σ' = [some (V.ref a), some (V.int (i : Int)), v2]) (fun H3 e3 => ⟨e2.trans e3, v2, rfl⟩) (fun j σ' H' hj hP => ?_) (fun σ' H' hP => ?_)
      · obtain ⟨e3, v2, rfl⟩ := hP
        have gi : ws[i]? = some ws[i] := List.getElem?_eq_getElem (by omega)
        have gj : ws[j]? = some ws[j] := List.getElem?_eq_getElem (by omega)
        refine s_when (et_and (et_test (ev_op (ev_var rfl) (ev_var rfl) (rv_ne rfl))) fun _ => et_test (ev_op (ev_slTo (ev_op (ev_var rfl) (ev_var rfl) (rv_ixL (ex_l e3 hS) (at_vtx gj))) (eo_some (ev_lenTx (ev_op (ev_var rfl) (ev_var rfl) (rv_ixL (ex_l e3 hS) (at_vtx gi))) (by have := h2 _ (List.mem_of_getElem? gi); omega))) (by have := h2 _ (List.mem_of_getElem? gj); omega)) (ev_op (ev_var rfl) (ev_var rfl) (rv_ixL (ex_l e3 hS) (at_vtx gi))) (rv_eq rfl))) (fun hb H4 e4 => ?_) (fun hb H4 e4 => ⟨e3.trans e4, _, rfl⟩)
        rw [Bool.and_eq_true] at hb
        have n1 : i ≠ j := fun z => by
          subst z
          have := hb.1
          simp at this
        have n2 := V.str.inj (of_decide_eq_true hb.2)
        exact absurd (tx_inj n2) (h3 i j _ _ n1 gi gj)
      · obtain ⟨e3, v2, rfl⟩ := hP
        exact ⟨e3, _, _, rfl⟩
    · obtain ⟨e2, v1, v2, rfl⟩ := hP
      exact s_ret ev_c fun H3 e3 => q H3 (e2.trans e3)
end
end Sl
namespace Sl
open PySem PySem.Spec PyProof.Rows L2 Evl
section
variable {P : Program} {w : World} {K : PySem.W.Frag} {mg : Str → Option Value} {base : Heap} {t : Adr}
/-! _law_due -/
def spDue (K : PySem.W.Frag) : Sp := fun vs H Q _ => ∃ (a : Addr) (xs : List V), vs = [.ref a] ∧ SqL K H a xs ∧ (∀ x ∈ xs, Simple H x) ∧ xs.length ≤ 1000 ∧
  (okO xs = true → RetL ((wordsO 0 (numsOf xs)).map vtx) H Q) ∧ (okO xs = false → RetU [.str "refused", .str "BadLengths"] H Q)
theorem sum_all {ls : List Int} : (((List.range ls.length).map fun i => ((sz (ls.getD i 0) : Nat) : Int)).sum) = (((ls.map sz).sum : Nat) : Int) := by
  have e : ((List.range ls.length).map fun i => ((sz (ls.getD i 0) : Nat) : Int)) = (ls.map sz).map fun n => ((n : Nat) : Int) := by
    refine List.ext_getElem? fun i => ?_
    rw [List.map_map, List.getElem?_map, List.getElem?_map]
    by_cases hi : i < ls.length
    · rw [List.getElem?_range hi, List.getElem?_eq_getElem hi]
      show some ((sz (ls.getD i 0) : Nat) : Int) = some ((sz ls[i] : Nat) : Int)
      rw [List.getD_eq_getElem?_getD, List.getElem?_eq_getElem hi]
      rfl
    · rw [List.getElem?_eq_none (by simpa using hi), List.getElem?_eq_none (by simpa using hi)]
      rfl
  rw [e]
  generalize ls.map sz = ns
  induction ns with
  | nil => rfl
  | cons n r ih => rw [List.map_cons, List.sum_cons, List.sum_cons, ih, Int.natCast_add]
theorem up_mod_yes {p s : Nat} (h : 0 < s) (k : 0 < p % s) : p + s - p % s = up p s := by
  rw [up_eq h, if_pos k]
theorem up_mod_no {p s : Nat} (h : 0 < s) (k : ¬ 0 < p % s) : p = up p s := by
  rw [up_eq h, if_neg k]
theorem ok_lw_due (T : Top K mg t) : FnOk P w K mg base CX0 4 t.f_lw_due t.d_lw_due ["_law_lengths_here"] (spDue K) := by
  refine T.lw_due.F.ok sc_lw_due (fun vs H Q E h => ?_) (fun cdv A outer s H vs Q E hr h => ?_)
  · obtain ⟨a, xs, rfl, _⟩ := h
    rfl
  · obtain ⟨a, xs, rfl, hS, hx, hl, q, r⟩ := h
    refine ⟨_, (pss_cons (ps_if (PW.pt (pw_or (pt_cmpR op_gt (pe_callB (r := rLenS K) call_len_seq (by rfl) T.b.b_len (by decide +kernel) (pa_cons (pv 0) pa_nil)) pe_int (nomark _)) (pw_or1 (pt_not (pt_val (pe_call (ok_lw_all T) (hr.mono (by decide)) (by rfl) T.lw_all.g T.lw_all.F.kp T.lw_all.b .nil pass0 (pa_cons (pv 0) (pa_cons pe_int (pa_cons pe_int pa_nil))))))))) (pss_one (ps_ret (pe_tup (pa_cons pe_str (pa_cons pe_str pa_nil))))) pss_nil)
      (pss_cons (ps_if (pt_cmpR op_gt (pe_callB (r := rSum K) (cr_sum rfl) (by rfl) T.b.b_sum (by decide +kernel) (pa_cons (pe_lc (own := [("_law_length", 1)]) (g := gName 1) (tt := tYes) rfl sc_lw_due.nd (pi_list (pv 0)) (blkOk_by (own := [("_law_length", 1)]) (N := N_lw_due) (sc := defScope s_lw_due) (by decide +kernel)) (fun _ _ _ _ _ => (pg_name (i := 1) sc_lw_due.nd rfl (.inl rfl))) (fun _ _ _ _ _ => pts_nil) (fun _ _ _ _ _ => (pe_call (ok_lw_doubled T) (hr.mono (by decide)) (by rfl) T.lw_doubled.g T.lw_doubled.F.kp T.lw_doubled.b .nil pass0 (pa_cons (pe_op op_sub pe_int (pv 1)) pa_nil)))) pa_nil)) pe_int (nomark _)) (pss_one (ps_ret (pe_tup (pa_cons pe_str (pa_cons pe_str pa_nil))))) pss_nil)
      (pss_cons (ps_set (i := 2) sc_lw_due.nd rfl (.inl rfl) (pe_lst pa_nil))
      (pss_cons (ps_set (i := 3) sc_lw_due.nd rfl (.inl rfl) pe_int)
      (pss_cons (ps_for PassesOwn.never rfl (pi_list (pv 0)) (pg_name (i := 1) sc_lw_due.nd rfl (.inl rfl)) (pss_cons (ps_set (i := 4) sc_lw_due.nd rfl (.inl rfl) (pe_call (ok_lw_doubled T) (hr.mono (by decide)) (by rfl) T.lw_doubled.g T.lw_doubled.F.kp T.lw_doubled.b .nil pass0 (pa_cons (pe_op op_sub pe_int (pv 1)) pa_nil)))
      (pss_cons (ps_if (pt_cmpR op_gt (pe_op op_mod (pv 3) (pv 4)) pe_int (nomark _)) (pss_one (ps_set (i := 3) sc_lw_due.nd rfl (.inl rfl) (pe_op op_sub (pe_op op_add (pv 3) (pv 4)) (pe_op op_mod (pv 3) (pv 4))))) pss_nil)
      (pss_cons (ps_if (pt_cmpR op_gt (pe_op op_add (pv 3) (pv 4)) pe_int (nomark _)) (pss_one (ps_ret (pe_tup (pa_cons pe_str (pa_cons pe_str pa_nil))))) pss_nil)
      (pss_cons (ps_expr (pe_bm PySem.F.plainAttrs_list PySem.F.slot_list_append PySem.F.type_list_append mt_append (pv 2) (pa_cons (pe_slice sl_str (pe_call (ok_lw_bits T) (hr.mono (by decide)) (by rfl) T.lw_bits.g T.lw_bits.F.kp T.lw_bits.b .nil pass0 (pa_cons (pv 3) (pa_cons pe_int pa_nil))) po_none (po_some (pv 1))) pa_nil)))
      (pss_one (ps_set (i := 3) sc_lw_due.nd rfl (.inl rfl) (pe_op op_add (pv 3) (pv 4)))))))))
      (pss_one (ps_ret (pv 2)))))))), ?_⟩
    have refused : ∀ (D : Ends) (σ : L2.St) (H1 : Hp), D.rt = Q → Ex H H1 → okO xs = false → tRet (tTup (tCons (tC (.str "refused")) (tCons (tC (.str "BadLengths")) tNil))) D σ H1 := fun D σ H1 hD e1 hk => by
      refine s_retU (eu_tup (ea_cons ev_c (ea_cons ev_c ea_nil)) (by show 2 ≤ 100000; decide)) fun p H2 hp e2 h2 => ?_
      rw [hD]
      exact (r hk).go e1 hp e2 h2
    refine q_when (et_or (et_test (ev_op (ev_len (ev_var rfl) hS) ev_c rv_I0)) fun _ => et_not (et_B (ev_call (ea_cons (ev_var rfl) (ea_cons ev_c (ea_cons ev_c ea_nil))) (sv_all hS hx hl)))) (fun hb H1 e1 => ?_) (fun hb H1 e1 => ?_)
    · refine refused _ _ H1 rfl e1 ?_
      unfold okO okSum okLens
      rw [Bool.or_eq_true] at hb
      rcases hb with h | h
      · have := of_decide_eq_true h
        rw [decide_eq_false (show ¬ xs.length ≤ 24 by omega)]
        rfl
      · rw [show xs.all (within 1 12) = false by simpa using h, Bool.and_false]
        rfl
    have hk : okLens 1 12 xs = true := by
      rw [Bool.or_eq_false_iff] at hb
      have h1 := of_decide_eq_false hb.1
      unfold okLens
      rw [decide_eq_true (show xs.length ≤ 24 by omega), show xs.all (within 1 12) = true by simpa using hb.2]
      rfl
    obtain ⟨ls, rfl, hls, hlen⟩ := okLens_ints hk
    rw [numsOf_map] at q
    have okE : okO (ls.map V.int) = (decide ((ls.map sz).sum ≤ 4096) && decide (endO 0 ls ≤ 4096)) := by
      unfold okO okSum
      rw [hk, sumOf_sz, numsOf_map, Bool.true_and]
      congr 1
      exact decide_eq_decide.mpr ⟨fun h => by omega, fun h => by omega⟩
    have dbl : ∀ (l : Int) (σ : L2.St) (H2 : Hp) (i : Nat), 1 ≤ l → l ≤ 12 → σ[i]? = some (some (V.int l)) → Ev (tCall spDoubled [] E0 (tCons (tOp (rI0 fun i j => .int (i - j)) (tC (.int 12)) (tVar i)) tNil)) σ H2 (.int ((sz l : Nat) : Int)) := fun l σ H2 i l1 l2 hi => by
      refine ev_is (ev_call (ea_cons (ev_op ev_c (ev_var hi) rv_I0) ea_nil) (sv_doubled (by omega) (by omega))) ?_
      unfold sz
      rw [Int.natCast_pow]
      rfl
    have c1 := el_lcL (K := K) (σ := [some (V.ref a), none, none, none, none]) (H := H1) (a := a) (xs := ls.map V.int) (tl := tVar 0) (j := 1) (vs := [1]) (t := tYes)
      (te := tCall spDoubled [] E0 (tCons (tOp (rI0 fun i j => .int (i - j)) (tC (.int 12)) (tVar 1)) tNil)) (fun _ => true) (fun i => .int ((sz (ls.getD i 0) : Nat) : Int)) (ev_var rfl) (ex_l e1 hS) (by rw [List.length_map]; omega) (fun x => rfl) (fun i x H2 e2 hi => et_yes)
      (fun i x H2 e2 hi _ => by
        rw [List.getElem?_map] at hi
        obtain ⟨l, hl, rfl⟩ := Option.map_eq_some_iff.mp hi
        have lok := hls l (List.mem_of_getElem? hl)
        rw [List.getD_eq_getElem?_getD, hl]
        exact dbl l _ _ 1 lok.1 lok.2 rfl)
    rw [List.length_map, given_all, given_ints ls.length fun i => ((sz (ls.getD i 0) : Nat) : Int)] at c1
    refine q_when (et_test (ev_op (ev_sum c1) ev_c rv_I0)) (fun hb H2 e2 => ?_) (fun hb H2 e2 => ?_)
    · refine refused _ _ H2 rfl (e1.trans e2) ?_
      have := of_decide_eq_true hb
      rw [sum_all] at this
      rw [okE, decide_eq_false (by omega)]
      rfl
    have hsum : (ls.map sz).sum ≤ 4096 := by
      have := of_decide_eq_false hb
      rw [sum_all] at this
      omega
    rw [decide_eq_true hsum, Bool.true_and] at okE
    refine q_asgL (el_lst ea_nil (by decide)) fun pw H3 hpw e3 h3 => ?_
    have npw : H pw = none := fresh_back (e1.trans e2) hpw
    refine q_asg ev_c fun H4 e4 => ?_
    have e14 := ((e1.trans e2).trans e3).trans e4
    refine q_forL (xs := ls.map V.int) (ev_var rfl) (ex_l e14 hS) (fun i σ' H' => Ex H H' ∧ H' pw = some (.lst ((wordsO 0 (ls.take i)).map vtx)) ∧ endO 0 (ls.take i) ≤ 4096 ∧
      ∃ v1 v4, σ' = [some (V.ref a), v1, some (V.ref pw), some (V.int ((endO 0 (ls.take i) : Nat) : Int)), v4]) (fun H5 e5 => ⟨e14.trans e5, (e4.trans e5) _ _ h3, Nat.zero_le _, none, none, rfl⟩) (fun i σ' H' _ hP => ex_l hP.1 hS) (fun i x σ' H' hx hP => ?_) fun σ' H' hP => ?_
    · obtain ⟨e5, hw, hend, v1, v4, rfl⟩ := hP
      rw [List.getElem?_map] at hx
      obtain ⟨l, hl, rfl⟩ := Option.map_eq_some_iff.mp hx
      have hi : i < ls.length := (List.getElem?_eq_some_iff.mp hl).1
      have lok := hls l (List.mem_of_getElem? hl)
      have pz := sz_pos l
      have lz := sz_le l lok.1
      have stE := endO_step hl
      have stW := wordsO_step hl
      generalize endO 0 (ls.take i) = e at hend stE stW ⊢
      refine q_asg (dbl l _ _ 1 lok.1 lok.2 rfl) fun H6 e6 => ?_
      have hlt := Nat.mod_lt e pz
      refine q_ifAsg (v := .int ((up e (sz l) : Nat) : Int)) (et_test (ev_op (ev_op (ev_var rfl) (ev_var rfl) (rv_I (by omega))) ev_c rv_I0)) (fun hb => ev_is (ev_op (ev_op (ev_var rfl) (ev_var rfl) rv_I0) (ev_op (ev_var rfl) (ev_var rfl) (rv_I (by omega))) rv_I0) (congrArg V.int ?_)) (fun hb => ?_) fun H7 e7' => ?_
      · have hm := of_decide_eq_true hb
        have hm' : 0 < e % sz l := by omega
        rw [← up_mod_yes pz hm']
        omega
      · have hm := of_decide_eq_false hb
        have hm' : ¬ 0 < e % sz l := by omega
        rw [← up_mod_no pz hm']
        rfl
      · have e7 := e6.trans e7'
        refine q_when (et_test (ev_op (ev_op (ev_var rfl) (ev_var rfl) rv_I0) ev_c rv_I0)) (fun hb H8 e8 => ?_) (fun hb H8 e8 => ?_)
        · refine refused _ _ H8 rfl ((e5.trans e7).trans e8) ?_
          rw [okE]
          refine decide_eq_false fun z => ?_
          have hb' := of_decide_eq_true hb
          have k := endO_take ls (i + 1)
          rw [stE] at k
          omega
        · have hb' := of_decide_eq_false hb
          refine q_app (l := pw) ((e7.trans e8) _ _ hw) (v := vtx (word (up e (sz l)) l)) (ev_var rfl) (ev_is (ev_slTo (n := l.toNat) (ev_call (ea_cons (ev_var rfl) (ea_cons (ev_c (v := .int ((12 : Nat) : Int))) ea_nil)) (sv_bits (by decide))) (eo_some (ev_is (ev_var rfl) (by congr 1; omega))) (by rw [bits_len]; decide)) (by unfold vtx word; rfl)) (by rw [List.length_map, wordsO_len, List.length_take]; omega) fun H9 e9 => ?_
          refine s_asg (ev_is (ev_op (ev_var rfl) (ev_var rfl) rv_I0) (w := .int ((up e (sz l) + sz l : Nat) : Int)) (congrArg V.int (Int.natCast_add _ _).symm)) fun H10 e10 => ?_
          refine ⟨(Ex.mut ((((e5.trans e7).trans e8)).trans e9) npw).trans e10, ?_, by rw [stE]; omega, some (.int l), some (.int ((sz l : Nat) : Int)), by rw [stE]; rfl⟩
          rw [e10 _ _ upd_same, stW, List.map_append]
          rfl
    · obtain ⟨e5, hw, hend, v1, v4, rfl⟩ := hP
      rw [List.length_map, List.take_length] at hend hw
      refine s_ret (ev_var rfl) fun H7 e7 => ?_
      exact q (okE.trans (decide_eq_true hend)) pw H7 npw (e5.trans e7) (e7 _ _ hw)
end
end Sl
namespace Sl
open PySem PySem.Spec PyProof.Rows L2 Evl
section
variable {P : Program} {w : World} {K : PySem.W.Frag} {mg : Str → Option Value} {base : Heap} {t : Adr}
/-! _law_told -/
def spTold (K : PySem.W.Frag) : Sp := fun vs H Q _ => ∃ (a : Addr) (xs : List V), vs = [.ref a] ∧ SqL K H a xs ∧ (∀ x ∈ xs, Simple H x) ∧
  (okO xs = true → RetL ((wordsO 0 (numsOf xs)).map vtx) H Q) ∧ (okO xs = false → RetU [.str "refused", .str "BadLengths"] H Q)
theorem roomS {j k : Nat} {A : Around} {h : Option Value} (r : Room k A) (e : j ≤ k) : L2H.RoomH j (A.mark h) := ⟨(r.mono e).dp, (r.mono e).un⟩
theorem ok_lw_told (T : Top K mg t) : FnOk P w K mg base CX0 6 t.f_lw_told t.d_lw_told ["_law_lengths_here"] (spTold K) := by
  refine T.lw_told.F.ok sc_lw_told (fun vs H Q E h => ?_) (fun cdv A outer s H vs Q E hr h => ?_)
  · obtain ⟨a, xs, rfl, _⟩ := h
    rfl
  · obtain ⟨a, xs, rfl, hS, hx, q, r⟩ := h
    refine ⟨_, pss_one (ps_try_as (i := 1) (tb := fun W => tRet (tCallS (spInOrder K t.C_BadLengths) (WE W) (tCons (tVar 0) tNil))) (ts := fun a c d => fun D σ H => d = none ∧ tRet (tCall (spWordOf K t a c) [] E0 (tCons (tVar 1) tNil)) D σ H) (Wout := fun _ _ _ _ => False) rfl rfl sc_lw_told.nd rfl rfl ⟨rfl, by decide, .inl T.C_CodeError.gC⟩ takes0
      (fun W pn xe tk _ => pss_one (ps_ret (pe_callS (ok_words_in_order T) (hr.mono (by decide)) (by rfl) T.words_in_order.g T.words_in_order.F.kp T.words_in_order.b (fun σ => passAt tk σ) (pa_cons (pv 0) pa_nil))))
      (fun a oe c d pn hz hf => pss_given fun hd => pss_one (ps_ret (pe_callE (p := (a, oe)) (c := c) (ok_lw_word_of T) (roomS hr (by decide)) List.mem_cons_self (hd ▸ hz) hf (by rfl) T.lw_word_of.g T.lw_word_of.F.kp T.lw_word_of.b (pa_cons (pv 1) pa_nil))))), ?_⟩
    refine ⟨.ref a, rfl, a, xs, rfl, hS, fun x h => (hx x h).thing, q, fun hk H1 e1 => ?_⟩
    refine ⟨true, T.E_BadLengths.sub, fun _ b hb => ⟨rfl, .ref b, rfl, _, _, rfl, rfl, T.E_BadLengths, fun p H2 hp e2 h2 => ?_⟩, fun z => nomatch z⟩
    exact r hk p H2 (fresh_back e1 hp) (e1.trans e2) h2
end
end Sl
namespace Sl
open PySem PySem.Spec PyProof.Rows L2 Evl
section
variable {P : Program} {w : World} {K : PySem.W.Frag} {mg : Str → Option Value} {base : Heap} {t : Adr}
/-! law -/
def spLaw (K : PySem.W.Frag) : Sp := fun vs H Q _ => ∃ (a : Addr) (ns : List Int), vs = [.ref a] ∧ SqL K H a (ns.map V.int) ∧ ns.length ≤ 63 ∧ ∀ H', Q (.bl true) H'
theorem okO_lens {xs : List V} (h : okO xs = true) : ∃ ls : List Int, xs = ls.map V.int ∧ LensOk ls ∧ ls.length ≤ 24 ∧ endO 0 ls ≤ 4096 := by
  unfold okO okSum at h
  rw [Bool.and_eq_true, Bool.and_eq_true] at h
  obtain ⟨ls, rfl, h1, h2⟩ := okLens_ints h.1.1
  have := of_decide_eq_true h.2
  rw [numsOf_map] at this
  exact ⟨ls, rfl, h1, h2, this⟩
theorem good_after : okO [.int 2, .int 1] = true ∧ wordsO 0 (numsOf [.int 2, .int 1]) = [[48, 48], [49]] := by
  constructor <;> decide +kernel
theorem ev_neSort {σ : L2.St} {H : Hp} {j : Nat} {u : Addr} {ws : List (List Nat)} (hj : σ[j]? = some (some (V.ref u))) (hS : SqL K H u (ws.map vtx)) (hl : ws.length < 64) (h : ws.Pairwise (· < ·)) (hc : ∀ v ∈ ws, ∀ c ∈ v, c < 0x110000) :
    Ev (tOp (rNeD K) (tVar j) (tCB (rSortedS K) (tCons (tVar j) tNil))) σ H (.bl false) :=
  ev_is (ev_opL (ev_var hj) (el_sortedS (ev_var hj) hS hl h) fun p H1 h1 e1 => rv_val fun H2 e2 Q q => by
    refine ⟨_, _, dp_txs (ex_l (e1.trans e2) hS), dp_txs (sq_of (e2 _ _ h1)), shaped_txs hc, shaped_txs hc, q⟩) (by rw [eqv_same (shaped_txs hc)]; rfl)
theorem ok_law (T : Top K mg t) : FnOk P w K mg base CX0 7 t.f_law t.d_law ["_law_script"] (spLaw K) := by
  refine T.law.F.ok sc_law (fun vs H Q E h => ?_) (fun cdv A outer s H vs Q E hr h => ?_)
  · obtain ⟨a, ns, rfl, _⟩ := h
    rfl
  · obtain ⟨a, ns, rfl, hS, hlen, q⟩ := h
    refine ⟨_, (pss_cons (ps_set (i := 1) sc_law.nd rfl (.inl rfl) (pe_call (ok_lw_lengths T) (hr.mono (by decide)) (by rfl) T.lw_lengths.g T.lw_lengths.F.kp T.lw_lengths.b .nil pass0 (pa_cons (pv 0) pa_nil)))
      (pss_cons (ps_set (i := 2) sc_law.nd rfl (.inl rfl) (pe_callTy (r := rListS K) call_list_of (by rfl) T.b.b_list (by decide +kernel) (pa_cons (pv 1) pa_nil)))
      (pss_cons (ps_set (i := 3) sc_law.nd rfl (.inl rfl) (pe_call (ok_lw_told T) (hr.mono (by decide)) (by rfl) T.lw_told.g T.lw_told.F.kp T.lw_told.b .nil pass0 (pa_cons (pv 2) pa_nil)))
      (pss_cons (ps_set (i := 4) sc_law.nd rfl (.inl rfl) (pe_call (ok_lw_due T) (hr.mono (by decide)) (by rfl) T.lw_due.g T.lw_due.F.kp T.lw_due.b .nil pass0 (pa_cons (pv 1) pa_nil)))
      (pss_cons (ps_if (PW.pt (pw_or (pt_cmpR (r := rNeD K) (op_neD hr.units) (pv 2) (pv 1) (nomark _)) (pw_or1 (pt_cmpR (r := rNeD K) (op_neD hr.units) (pv 3) (pv 4) (nomark _))))) (pss_one (ps_ret pe_bl)) pss_nil)
      (pss_cons (ps_if (PW.pt (pw_and (pt_val (pe_callB (r := rIsi K) call_isi (by rfl) T.b.b_isinstance (by decide +kernel) (pa_cons (pv 4) (pa_cons (pe_bltn (v := .ty "list") (by rfl) T.b.b_list (by decide +kernel) rfl) pa_nil)))) (pw_and1 (PW.pt (pw_or (pt_not (pt_val (pe_callB (r := rIsi K) call_isi (by rfl) T.b.b_isinstance (by decide +kernel) (pa_cons (pv 3) (pa_cons (pe_bltn (v := .ty "list") (by rfl) T.b.b_list (by decide +kernel) rfl) pa_nil))))) (pw_or (pt_not (pt_val (pe_call (ok_lw_apart T) (hr.mono (by decide)) (by rfl) T.lw_apart.g T.lw_apart.F.kp T.lw_apart.b .nil pass0 (pa_cons (pv 3) pa_nil)))) (pw_or1 (pt_cmpR (r := rNeD K) (op_neD hr.units) (pv 3) (pe_callB (r := rSortedS K) cr_sortedS (by rfl) T.b.b_sorted (by decide +kernel) (pa_cons (pv 3) pa_nil)) (nomark _))))))))) (pss_one (ps_ret pe_bl)) pss_nil)
      (pss_cons (ps_expr (pe_bm0 PySem.F.plainAttrs_list PySem.F.slot_list_clear PySem.F.type_list_clear mt_clear (pv 2)))
      (pss_cons (ps_expr (pe_bm PySem.F.plainAttrs_list PySem.F.slot_list_append PySem.F.type_list_append mt_append (pv 2) (pa_cons pe_int pa_nil)))
      (pss_cons (ps_expr (pe_bm PySem.F.plainAttrs_list PySem.F.slot_list_append PySem.F.type_list_append mt_append (pv 2) (pa_cons pe_int pa_nil)))
      (pss_one (ps_ret (pe_cmpR (r := rEqD K) (op_eqD hr.units) (pe_call (ok_lw_told T) (hr.mono (by decide)) (by rfl) T.lw_told.g T.lw_told.F.kp T.lw_told.b .nil pass0 (pa_cons (pv 2) pa_nil)) (pe_lst (pa_cons pe_str (pa_cons pe_str pa_nil))) (nomark _))))))))))))), ?_⟩
    refine ⟨.ref a, rfl, a, ns, rfl, hS, fun p xs H1 hp e1 h1 hx hl => ?_⟩
    refine q_asgL (el_list (ev_var rfl) (sq_of h1)) fun r H2 hr2 e2 h2 => ?_
    have h12 := e2 _ _ h1
    have hx2 : ∀ x ∈ xs, Simple H2 x := fun x h => (hx x h).mono e2
    have nr : H r = none := fresh_back e1 hr2
    -- what stands behind both: the same list made good
    have last : ∀ (D : Ends) (v3 v4 : Option V) (H5 : Hp) (ys : List V), D.rt = Q → H5 r = some (.lst ys) →
        tSeq (tDrop (tBM0 K "list" rClear (tVar 2))) (tSeq (tDrop (tBM K "list" rAppend (tVar 2) (tCons (tC (.int 2)) tNil))) (tSeq (tDrop (tBM K "list" rAppend (tVar 2) (tCons (tC (.int 1)) tNil)))
          (tRet (tOp (rEqD K) (tCall (spTold K) [] E0 (tCons (tVar 2) tNil)) (tLst (tCons (tC (.str "00")) (tCons (tC (.str "1")) tNil))))))) D [some (V.ref a), some (V.ref p), some (V.ref r), v3, v4] H5 := fun D v3 v4 H5 ys hD h5 => by
      refine ⟨.ref r, rfl, .inl ⟨rfl, _, sq_of h5⟩, r, _, rfl, rfl, h5, ?_⟩
      refine q_app (l := r) (xs := []) upd_same (ev_var rfl) ev_c (by decide) fun H6 e6 => ?_
      refine q_app (l := r) (xs := [.int 2]) upd_same (ev_var rfl) ev_c (by decide) fun H7 e7 => ?_
      have h7 : (upd H7 r (.lst ([V.int 2] ++ [V.int 1]))) r = some (.lst [V.int 2, V.int 1]) := upd_same
      have c1 := el_call (σ := [some (V.ref a), some (V.ref p), some (V.ref r), v3, v4]) (H := upd H7 r (.lst ([V.int 2] ++ [V.int 1]))) (sp := spTold K) (dvs := []) (E := E0) (ta := tCons (tVar 2) tNil) (xs := [[48, 48], [49]].map vtx) (ea_cons (ev_var rfl) ea_nil) (fun H8 e8 Q8 q8 E8 =>
        ⟨r, [.int 2, .int 1], rfl, sq_of (e8 _ _ h7), simple_ints [2, 1], fun _ => by rw [good_after.2]; exact q8, fun z => by rw [good_after.1] at z; cases z⟩)
      refine s_ret (ev_eqLL c1 (el_lst (ea_cons (x := vtx [48, 48]) (ev_c) (ea_cons (x := vtx [49]) ev_c ea_nil)) (by decide)) (fun p H1 h => dp_txs (ws := [[48, 48], [49]]) (sq_of h)) (fun p H1 h => dp_txs (ws := [[48, 48], [49]]) (sq_of h)) (shaped_txs (by decide)) (shaped_txs (by decide))) fun H9 e9 => ?_
      rw [hD, eqv_same (shaped_txs (by decide))]
      exact q H9
    by_cases hk : okO xs = true
    · obtain ⟨ls, rfl, hls, hlen2, hsum⟩ := okO_lens hk
      have hsm := wordsO_small hls
      refine ⟨.ref r, rfl, r, _, rfl, sq_of h2, hx2, fun _ u H3 hu e3 h3 => ?_, fun z => by rw [hk] at z; cases z⟩
      refine ⟨.ref p, rfl, p, _, rfl, sq_of (e3 _ _ h12), fun x h => (hx2 x h).mono e3, by omega, fun _ v H4 hv e4 h4 => ?_, fun z => by rw [hk] at z; cases z⟩
      rw [numsOf_map] at h3 h4
      have e34 := e3.trans e4
      have sh := shaped_txs fun u hu => (hsm u hu).1
      refine q_when (et_or (et_test (ev_neSame (ev_var rfl) (ev_var rfl) (sq_of (e34 _ _ h2)) (sq_of (e34 _ _ h12)) (fun x h => (hx2 x h).mono e34))) fun _ => et_test (ev_neD (ev_var rfl) (ev_var rfl) (dp_txs (sq_of (e4 _ _ h3))) (dp_txs (sq_of h4)) sh sh)) (fun hb _ _ => ?_) (fun hb H5 e5 => ?_)
      · rw [eqv_same sh] at hb
        exact absurd hb (by decide)
      · have hap : Apart (wordsO 0 ls) := fun i j u v hij hu hv => wordsO_apart hls hsum hij hu hv
        refine q_when (et_and (et_B (ev_isList (ev_var rfl) (e5 _ _ h4))) fun _ => et_or (et_not (et_B (ev_isList (ev_var rfl) (e5 _ _ (e4 _ _ h3))))) fun _ => et_or (et_not (et_B (ev_call (ea_cons (ev_var rfl) ea_nil) (sv_apart (sq_of (e5 _ _ (e4 _ _ h3))) (by rw [wordsO_len]; omega) (fun u hu => by have := (hsm u hu).2; omega) hap)))) fun _ => et_test (ev_neSort rfl (sq_of (e5 _ _ (e4 _ _ h3))) (by rw [wordsO_len]; omega) (wordsO_rise hls hsum) fun u hu => (hsm u hu).1)) (fun hb _ _ => ?_) (fun hb H6 e6 => ?_)
        · exact absurd hb (by decide)
        · exact last _ _ _ H6 _ rfl (e6 _ _ (e5 _ _ (e34 _ _ h2)))
    · have hk' : okO xs = false := by simpa using hk
      refine ⟨.ref r, rfl, r, _, rfl, sq_of h2, hx2, fun z => absurd z hk, fun _ u H3 hu e3 h3 => ?_⟩
      refine ⟨.ref p, rfl, p, _, rfl, sq_of (e3 _ _ h12), fun x h => (hx2 x h).mono e3, by omega, fun z => absurd z hk, fun _ v H4 hv e4 h4 => ?_⟩
      have e34 := e3.trans e4
      have dt : ∀ (b : Addr) (H5 : Hp), H5 b = some (.tup [V.str "refused", V.str "BadLengths"]) → Dp K H5 (.ref b) (.tuple [.str "refused", .str "BadLengths"]) := fun b H5 h => .tup (st_of h) (.cons (.str _) (.cons (.str _) .nil))
      have sh : SeqAt.shaped (.tuple [.str "refused", .str "BadLengths"]) = true := by decide +kernel
      refine q_when (et_or (et_test (ev_neSame (ev_var rfl) (ev_var rfl) (sq_of (e34 _ _ h2)) (sq_of (e34 _ _ h12)) (fun x h => (hx2 x h).mono e34))) fun _ => et_test (ev_neD (ev_var rfl) (ev_var rfl) (dt _ _ (e4 _ _ h3)) (dt _ _ h4) sh sh)) (fun hb _ _ => ?_) (fun hb H5 e5 => ?_)
      · rw [eqv_same sh] at hb
        exact absurd hb (by decide)
      · refine q_when (et_and (b := false) (et_B (ev_isListU (ev_var rfl) (e5 _ _ h4))) fun z => by cases z) (fun hb _ _ => ?_) (fun hb H6 e6 => ?_)
        · exact absurd hb (by decide)
        · exact last _ _ _ H6 _ rfl (e6 _ _ (e5 _ _ (e34 _ _ h2)))
end
end Sl
/-! ### what the top has written, and the end -/
namespace Sl
open PySem PySem.Spec PyProof.Rows L2 Evl
theorem all_mk {P : Program} {w : World} {K : PySem.W.Frag} {h : Heap} {mg : Str → Option Value} {fa C_CodeError C_NoWeights C_BadWeight C_BadBound C_NoRoom C_BadLengths C_BadWords C_BadBits C_NoSign f_is_number f_check_bound f_check_lengths f_places f_room f_counted f_u_check_sum f_u_word_from f_words_in_order f_lw_cell f_lw_whole f_lw_doubled f_lw_strange f_lw_is f_lw_all f_lw_word_of f_lw_leaves f_lw_order f_lw_lengths f_lw_bits f_lw_apart f_lw_due f_lw_told f_law : Addr} (X : K.In h) (G : h.Ns mainGlobals mg) (hfa : mg "law" = some (.ref fa))
    (a_CodeError : PySem.W.nsIn K mainGlobals "CodeError" = some (some (.ref C_CodeError)))
    (x_CodeError : PySem.W.excIn K C_CodeError [.type "ValueError", .type "Exception", .type "BaseException", .type "object"] "ValueError.__new__" = true)
    (k_CodeError : PySem.W.keepIn K (.ref C_CodeError) = true)
    (b_CodeError : PySem.W.subIn K (.ref C_CodeError) (.type "BaseException") = some true)
    (t_CodeError : PySem.W.typeIn K (.ref C_CodeError) = some (.type "type"))
    (a_NoWeights : PySem.W.nsIn K mainGlobals "NoWeights" = some (some (.ref C_NoWeights)))
    (x_NoWeights : PySem.W.excIn K C_NoWeights [.type "ValueError", .type "Exception", .type "BaseException", .type "object"] "ValueError.__new__" = true)
    (k_NoWeights : PySem.W.keepIn K (.ref C_NoWeights) = true)
    (b_NoWeights : PySem.W.subIn K (.ref C_NoWeights) (.type "BaseException") = some true)
    (t_NoWeights : PySem.W.typeIn K (.ref C_NoWeights) = some (.type "type"))
    (a_BadWeight : PySem.W.nsIn K mainGlobals "BadWeight" = some (some (.ref C_BadWeight)))
    (x_BadWeight : PySem.W.excIn K C_BadWeight [.type "ValueError", .type "Exception", .type "BaseException", .type "object"] "ValueError.__new__" = true)
    (k_BadWeight : PySem.W.keepIn K (.ref C_BadWeight) = true)
    (b_BadWeight : PySem.W.subIn K (.ref C_BadWeight) (.type "BaseException") = some true)
    (t_BadWeight : PySem.W.typeIn K (.ref C_BadWeight) = some (.type "type"))
    (a_BadBound : PySem.W.nsIn K mainGlobals "BadBound" = some (some (.ref C_BadBound)))
    (x_BadBound : PySem.W.excIn K C_BadBound [.type "ValueError", .type "Exception", .type "BaseException", .type "object"] "ValueError.__new__" = true)
    (k_BadBound : PySem.W.keepIn K (.ref C_BadBound) = true)
    (b_BadBound : PySem.W.subIn K (.ref C_BadBound) (.type "BaseException") = some true)
    (t_BadBound : PySem.W.typeIn K (.ref C_BadBound) = some (.type "type"))
    (a_NoRoom : PySem.W.nsIn K mainGlobals "NoRoom" = some (some (.ref C_NoRoom)))
    (x_NoRoom : PySem.W.excIn K C_NoRoom [.type "ValueError", .type "Exception", .type "BaseException", .type "object"] "ValueError.__new__" = true)
    (k_NoRoom : PySem.W.keepIn K (.ref C_NoRoom) = true)
    (b_NoRoom : PySem.W.subIn K (.ref C_NoRoom) (.type "BaseException") = some true)
    (t_NoRoom : PySem.W.typeIn K (.ref C_NoRoom) = some (.type "type"))
    (a_BadLengths : PySem.W.nsIn K mainGlobals "BadLengths" = some (some (.ref C_BadLengths)))
    (x_BadLengths : PySem.W.excIn K C_BadLengths [.type "ValueError", .type "Exception", .type "BaseException", .type "object"] "ValueError.__new__" = true)
    (k_BadLengths : PySem.W.keepIn K (.ref C_BadLengths) = true)
    (b_BadLengths : PySem.W.subIn K (.ref C_BadLengths) (.type "BaseException") = some true)
    (t_BadLengths : PySem.W.typeIn K (.ref C_BadLengths) = some (.type "type"))
    (a_BadWords : PySem.W.nsIn K mainGlobals "BadWords" = some (some (.ref C_BadWords)))
    (x_BadWords : PySem.W.excIn K C_BadWords [.type "ValueError", .type "Exception", .type "BaseException", .type "object"] "ValueError.__new__" = true)
    (k_BadWords : PySem.W.keepIn K (.ref C_BadWords) = true)
    (b_BadWords : PySem.W.subIn K (.ref C_BadWords) (.type "BaseException") = some true)
    (t_BadWords : PySem.W.typeIn K (.ref C_BadWords) = some (.type "type"))
    (a_BadBits : PySem.W.nsIn K mainGlobals "BadBits" = some (some (.ref C_BadBits)))
    (x_BadBits : PySem.W.excIn K C_BadBits [.type "ValueError", .type "Exception", .type "BaseException", .type "object"] "ValueError.__new__" = true)
    (k_BadBits : PySem.W.keepIn K (.ref C_BadBits) = true)
    (b_BadBits : PySem.W.subIn K (.ref C_BadBits) (.type "BaseException") = some true)
    (t_BadBits : PySem.W.typeIn K (.ref C_BadBits) = some (.type "type"))
    (a_NoSign : PySem.W.nsIn K mainGlobals "NoSign" = some (some (.ref C_NoSign)))
    (x_NoSign : PySem.W.excIn K C_NoSign [.type "ValueError", .type "Exception", .type "BaseException", .type "object"] "ValueError.__new__" = true)
    (k_NoSign : PySem.W.keepIn K (.ref C_NoSign) = true)
    (b_NoSign : PySem.W.subIn K (.ref C_NoSign) (.type "BaseException") = some true)
    (t_NoSign : PySem.W.typeIn K (.ref C_NoSign) = some (.type "type"))
    {oc_is_number kV_is_number dc_is_number pm_is_number cd_is_number ct_is_number : Value} {od_is_number an_is_number : Option Addr} {sl_is_number : Array (Option Value)}
    (a_is_number : PySem.W.nsIn K mainGlobals "is_number" = some (some (.ref f_is_number)))
    (l_is_number : K.lookup f_is_number = some ⟨oc_is_number, od_is_number, .func (PySem.W.fnOf "is_number" "is_number" (defArgs s_is_number) (defBody s_is_number) (defScope s_is_number) .none kV_is_number dc_is_number pm_is_number an_is_number cd_is_number ct_is_number), sl_is_number⟩)
    (c_is_number : PySem.W.codeIn K cd_is_number "is_number" = true)
    (k_is_number : PySem.W.keepIn K (.ref f_is_number) = true)
    {oc_check_bound kV_check_bound dc_check_bound pm_check_bound cd_check_bound ct_check_bound : Value} {od_check_bound an_check_bound : Option Addr} {sl_check_bound : Array (Option Value)}
    (a_check_bound : PySem.W.nsIn K mainGlobals "check_bound" = some (some (.ref f_check_bound)))
    (l_check_bound : K.lookup f_check_bound = some ⟨oc_check_bound, od_check_bound, .func (PySem.W.fnOf "check_bound" "check_bound" (defArgs s_check_bound) (defBody s_check_bound) (defScope s_check_bound) .none kV_check_bound dc_check_bound pm_check_bound an_check_bound cd_check_bound ct_check_bound), sl_check_bound⟩)
    (c_check_bound : PySem.W.codeIn K cd_check_bound "check_bound" = true)
    (k_check_bound : PySem.W.keepIn K (.ref f_check_bound) = true)
    {oc_check_lengths kV_check_lengths dc_check_lengths pm_check_lengths cd_check_lengths ct_check_lengths : Value} {od_check_lengths an_check_lengths : Option Addr} {sl_check_lengths : Array (Option Value)}
    (a_check_lengths : PySem.W.nsIn K mainGlobals "check_lengths" = some (some (.ref f_check_lengths)))
    (l_check_lengths : K.lookup f_check_lengths = some ⟨oc_check_lengths, od_check_lengths, .func (PySem.W.fnOf "check_lengths" "check_lengths" (defArgs s_check_lengths) (defBody s_check_lengths) (defScope s_check_lengths) .none kV_check_lengths dc_check_lengths pm_check_lengths an_check_lengths cd_check_lengths ct_check_lengths), sl_check_lengths⟩)
    (c_check_lengths : PySem.W.codeIn K cd_check_lengths "check_lengths" = true)
    (k_check_lengths : PySem.W.keepIn K (.ref f_check_lengths) = true)
    {oc_places kV_places dc_places pm_places cd_places ct_places : Value} {od_places an_places : Option Addr} {sl_places : Array (Option Value)}
    (a_places : PySem.W.nsIn K mainGlobals "places" = some (some (.ref f_places)))
    (l_places : K.lookup f_places = some ⟨oc_places, od_places, .func (PySem.W.fnOf "places" "places" (defArgs s_places) (defBody s_places) (defScope s_places) .none kV_places dc_places pm_places an_places cd_places ct_places), sl_places⟩)
    (c_places : PySem.W.codeIn K cd_places "places" = true)
    (k_places : PySem.W.keepIn K (.ref f_places) = true)
    {oc_room kV_room dc_room pm_room cd_room ct_room : Value} {od_room an_room : Option Addr} {sl_room : Array (Option Value)}
    (a_room : PySem.W.nsIn K mainGlobals "room" = some (some (.ref f_room)))
    (l_room : K.lookup f_room = some ⟨oc_room, od_room, .func (PySem.W.fnOf "room" "room" (defArgs s_room) (defBody s_room) (defScope s_room) .none kV_room dc_room pm_room an_room cd_room ct_room), sl_room⟩)
    (c_room : PySem.W.codeIn K cd_room "room" = true)
    (k_room : PySem.W.keepIn K (.ref f_room) = true)
    {oc_counted kV_counted dc_counted pm_counted cd_counted ct_counted : Value} {od_counted an_counted : Option Addr} {sl_counted : Array (Option Value)}
    (a_counted : PySem.W.nsIn K mainGlobals "counted" = some (some (.ref f_counted)))
    (l_counted : K.lookup f_counted = some ⟨oc_counted, od_counted, .func (PySem.W.fnOf "counted" "counted" (defArgs s_counted) (defBody s_counted) (defScope s_counted) .none kV_counted dc_counted pm_counted an_counted cd_counted ct_counted), sl_counted⟩)
    (c_counted : PySem.W.codeIn K cd_counted "counted" = true)
    (k_counted : PySem.W.keepIn K (.ref f_counted) = true)
    {oc_u_check_sum kV_u_check_sum dc_u_check_sum pm_u_check_sum cd_u_check_sum ct_u_check_sum : Value} {od_u_check_sum an_u_check_sum : Option Addr} {sl_u_check_sum : Array (Option Value)}
    (a_u_check_sum : PySem.W.nsIn K mainGlobals "_check_sum" = some (some (.ref f_u_check_sum)))
    (l_u_check_sum : K.lookup f_u_check_sum = some ⟨oc_u_check_sum, od_u_check_sum, .func (PySem.W.fnOf "_check_sum" "_check_sum" (defArgs s_u_check_sum) (defBody s_u_check_sum) (defScope s_u_check_sum) .none kV_u_check_sum dc_u_check_sum pm_u_check_sum an_u_check_sum cd_u_check_sum ct_u_check_sum), sl_u_check_sum⟩)
    (c_u_check_sum : PySem.W.codeIn K cd_u_check_sum "_check_sum" = true)
    (k_u_check_sum : PySem.W.keepIn K (.ref f_u_check_sum) = true)
    {oc_u_word_from kV_u_word_from dc_u_word_from pm_u_word_from cd_u_word_from ct_u_word_from : Value} {od_u_word_from an_u_word_from : Option Addr} {sl_u_word_from : Array (Option Value)}
    (a_u_word_from : PySem.W.nsIn K mainGlobals "_word_from" = some (some (.ref f_u_word_from)))
    (l_u_word_from : K.lookup f_u_word_from = some ⟨oc_u_word_from, od_u_word_from, .func (PySem.W.fnOf "_word_from" "_word_from" (defArgs s_u_word_from) (defBody s_u_word_from) (defScope s_u_word_from) .none kV_u_word_from dc_u_word_from pm_u_word_from an_u_word_from cd_u_word_from ct_u_word_from), sl_u_word_from⟩)
    (c_u_word_from : PySem.W.codeIn K cd_u_word_from "_word_from" = true)
    (k_u_word_from : PySem.W.keepIn K (.ref f_u_word_from) = true)
    {oc_words_in_order kV_words_in_order dc_words_in_order pm_words_in_order cd_words_in_order ct_words_in_order : Value} {od_words_in_order an_words_in_order : Option Addr} {sl_words_in_order : Array (Option Value)}
    (a_words_in_order : PySem.W.nsIn K mainGlobals "words_in_order" = some (some (.ref f_words_in_order)))
    (l_words_in_order : K.lookup f_words_in_order = some ⟨oc_words_in_order, od_words_in_order, .func (PySem.W.fnOf "words_in_order" "words_in_order" (defArgs s_words_in_order) (defBody s_words_in_order) (defScope s_words_in_order) .none kV_words_in_order dc_words_in_order pm_words_in_order an_words_in_order cd_words_in_order ct_words_in_order), sl_words_in_order⟩)
    (c_words_in_order : PySem.W.codeIn K cd_words_in_order "words_in_order" = true)
    (k_words_in_order : PySem.W.keepIn K (.ref f_words_in_order) = true)
    {oc_lw_cell kV_lw_cell dc_lw_cell pm_lw_cell cd_lw_cell ct_lw_cell : Value} {od_lw_cell an_lw_cell : Option Addr} {sl_lw_cell : Array (Option Value)}
    (a_lw_cell : PySem.W.nsIn K mainGlobals "_law_cell" = some (some (.ref f_lw_cell)))
    (l_lw_cell : K.lookup f_lw_cell = some ⟨oc_lw_cell, od_lw_cell, .func (PySem.W.fnOf "_law_cell" "_law_cell" (defArgs s_lw_cell) (defBody s_lw_cell) (defScope s_lw_cell) .none kV_lw_cell dc_lw_cell pm_lw_cell an_lw_cell cd_lw_cell ct_lw_cell), sl_lw_cell⟩)
    (c_lw_cell : PySem.W.codeIn K cd_lw_cell "_law_cell" = true)
    (k_lw_cell : PySem.W.keepIn K (.ref f_lw_cell) = true)
    {oc_lw_whole kV_lw_whole dc_lw_whole pm_lw_whole cd_lw_whole ct_lw_whole : Value} {od_lw_whole an_lw_whole : Option Addr} {sl_lw_whole : Array (Option Value)}
    (a_lw_whole : PySem.W.nsIn K mainGlobals "_law_whole" = some (some (.ref f_lw_whole)))
    (l_lw_whole : K.lookup f_lw_whole = some ⟨oc_lw_whole, od_lw_whole, .func (PySem.W.fnOf "_law_whole" "_law_whole" (defArgs s_lw_whole) (defBody s_lw_whole) (defScope s_lw_whole) .none kV_lw_whole dc_lw_whole pm_lw_whole an_lw_whole cd_lw_whole ct_lw_whole), sl_lw_whole⟩)
    (c_lw_whole : PySem.W.codeIn K cd_lw_whole "_law_whole" = true)
    (k_lw_whole : PySem.W.keepIn K (.ref f_lw_whole) = true)
    {oc_lw_doubled kV_lw_doubled dc_lw_doubled pm_lw_doubled cd_lw_doubled ct_lw_doubled : Value} {od_lw_doubled an_lw_doubled : Option Addr} {sl_lw_doubled : Array (Option Value)}
    (a_lw_doubled : PySem.W.nsIn K mainGlobals "_law_doubled" = some (some (.ref f_lw_doubled)))
    (l_lw_doubled : K.lookup f_lw_doubled = some ⟨oc_lw_doubled, od_lw_doubled, .func (PySem.W.fnOf "_law_doubled" "_law_doubled" (defArgs s_lw_doubled) (defBody s_lw_doubled) (defScope s_lw_doubled) .none kV_lw_doubled dc_lw_doubled pm_lw_doubled an_lw_doubled cd_lw_doubled ct_lw_doubled), sl_lw_doubled⟩)
    (c_lw_doubled : PySem.W.codeIn K cd_lw_doubled "_law_doubled" = true)
    (k_lw_doubled : PySem.W.keepIn K (.ref f_lw_doubled) = true)
    {oc_lw_strange kV_lw_strange dc_lw_strange pm_lw_strange cd_lw_strange ct_lw_strange : Value} {od_lw_strange an_lw_strange : Option Addr} {sl_lw_strange : Array (Option Value)}
    (a_lw_strange : PySem.W.nsIn K mainGlobals "_law_strange" = some (some (.ref f_lw_strange)))
    (l_lw_strange : K.lookup f_lw_strange = some ⟨oc_lw_strange, od_lw_strange, .func (PySem.W.fnOf "_law_strange" "_law_strange" (defArgs s_lw_strange) (defBody s_lw_strange) (defScope s_lw_strange) .none kV_lw_strange dc_lw_strange pm_lw_strange an_lw_strange cd_lw_strange ct_lw_strange), sl_lw_strange⟩)
    (c_lw_strange : PySem.W.codeIn K cd_lw_strange "_law_strange" = true)
    (k_lw_strange : PySem.W.keepIn K (.ref f_lw_strange) = true)
    {oc_lw_is kV_lw_is dc_lw_is pm_lw_is cd_lw_is ct_lw_is : Value} {od_lw_is an_lw_is : Option Addr} {sl_lw_is : Array (Option Value)}
    (a_lw_is : PySem.W.nsIn K mainGlobals "_law_is" = some (some (.ref f_lw_is)))
    (l_lw_is : K.lookup f_lw_is = some ⟨oc_lw_is, od_lw_is, .func (PySem.W.fnOf "_law_is" "_law_is" (defArgs s_lw_is) (defBody s_lw_is) (defScope s_lw_is) .none kV_lw_is dc_lw_is pm_lw_is an_lw_is cd_lw_is ct_lw_is), sl_lw_is⟩)
    (c_lw_is : PySem.W.codeIn K cd_lw_is "_law_is" = true)
    (k_lw_is : PySem.W.keepIn K (.ref f_lw_is) = true)
    {oc_lw_all kV_lw_all dc_lw_all pm_lw_all cd_lw_all ct_lw_all : Value} {od_lw_all an_lw_all : Option Addr} {sl_lw_all : Array (Option Value)}
    (a_lw_all : PySem.W.nsIn K mainGlobals "_law_all" = some (some (.ref f_lw_all)))
    (l_lw_all : K.lookup f_lw_all = some ⟨oc_lw_all, od_lw_all, .func (PySem.W.fnOf "_law_all" "_law_all" (defArgs s_lw_all) (defBody s_lw_all) (defScope s_lw_all) .none kV_lw_all dc_lw_all pm_lw_all an_lw_all cd_lw_all ct_lw_all), sl_lw_all⟩)
    (c_lw_all : PySem.W.codeIn K cd_lw_all "_law_all" = true)
    (k_lw_all : PySem.W.keepIn K (.ref f_lw_all) = true)
    {oc_lw_word_of kV_lw_word_of dc_lw_word_of pm_lw_word_of cd_lw_word_of ct_lw_word_of : Value} {od_lw_word_of an_lw_word_of : Option Addr} {sl_lw_word_of : Array (Option Value)}
    (a_lw_word_of : PySem.W.nsIn K mainGlobals "_law_word_of" = some (some (.ref f_lw_word_of)))
    (l_lw_word_of : K.lookup f_lw_word_of = some ⟨oc_lw_word_of, od_lw_word_of, .func (PySem.W.fnOf "_law_word_of" "_law_word_of" (defArgs s_lw_word_of) (defBody s_lw_word_of) (defScope s_lw_word_of) .none kV_lw_word_of dc_lw_word_of pm_lw_word_of an_lw_word_of cd_lw_word_of ct_lw_word_of), sl_lw_word_of⟩)
    (c_lw_word_of : PySem.W.codeIn K cd_lw_word_of "_law_word_of" = true)
    (k_lw_word_of : PySem.W.keepIn K (.ref f_lw_word_of) = true)
    {oc_lw_leaves kV_lw_leaves dc_lw_leaves pm_lw_leaves cd_lw_leaves ct_lw_leaves : Value} {od_lw_leaves an_lw_leaves : Option Addr} {sl_lw_leaves : Array (Option Value)}
    (a_lw_leaves : PySem.W.nsIn K mainGlobals "_law_leaves" = some (some (.ref f_lw_leaves)))
    (l_lw_leaves : K.lookup f_lw_leaves = some ⟨oc_lw_leaves, od_lw_leaves, .func (PySem.W.fnOf "_law_leaves" "_law_leaves" (defArgs s_lw_leaves) (defBody s_lw_leaves) (defScope s_lw_leaves) .none kV_lw_leaves dc_lw_leaves pm_lw_leaves an_lw_leaves cd_lw_leaves ct_lw_leaves), sl_lw_leaves⟩)
    (c_lw_leaves : PySem.W.codeIn K cd_lw_leaves "_law_leaves" = true)
    (k_lw_leaves : PySem.W.keepIn K (.ref f_lw_leaves) = true)
    {oc_lw_order kV_lw_order dc_lw_order pm_lw_order cd_lw_order ct_lw_order : Value} {od_lw_order an_lw_order : Option Addr} {sl_lw_order : Array (Option Value)}
    (a_lw_order : PySem.W.nsIn K mainGlobals "_law_order" = some (some (.ref f_lw_order)))
    (l_lw_order : K.lookup f_lw_order = some ⟨oc_lw_order, od_lw_order, .func (PySem.W.fnOf "_law_order" "_law_order" (defArgs s_lw_order) (defBody s_lw_order) (defScope s_lw_order) .none kV_lw_order dc_lw_order pm_lw_order an_lw_order cd_lw_order ct_lw_order), sl_lw_order⟩)
    (c_lw_order : PySem.W.codeIn K cd_lw_order "_law_order" = true)
    (k_lw_order : PySem.W.keepIn K (.ref f_lw_order) = true)
    {oc_lw_lengths kV_lw_lengths dc_lw_lengths pm_lw_lengths cd_lw_lengths ct_lw_lengths : Value} {od_lw_lengths an_lw_lengths : Option Addr} {sl_lw_lengths : Array (Option Value)}
    (a_lw_lengths : PySem.W.nsIn K mainGlobals "_law_lengths" = some (some (.ref f_lw_lengths)))
    (l_lw_lengths : K.lookup f_lw_lengths = some ⟨oc_lw_lengths, od_lw_lengths, .func (PySem.W.fnOf "_law_lengths" "_law_lengths" (defArgs s_lw_lengths) (defBody s_lw_lengths) (defScope s_lw_lengths) .none kV_lw_lengths dc_lw_lengths pm_lw_lengths an_lw_lengths cd_lw_lengths ct_lw_lengths), sl_lw_lengths⟩)
    (c_lw_lengths : PySem.W.codeIn K cd_lw_lengths "_law_lengths" = true)
    (k_lw_lengths : PySem.W.keepIn K (.ref f_lw_lengths) = true)
    {oc_lw_bits kV_lw_bits dc_lw_bits pm_lw_bits cd_lw_bits ct_lw_bits : Value} {od_lw_bits an_lw_bits : Option Addr} {sl_lw_bits : Array (Option Value)}
    (a_lw_bits : PySem.W.nsIn K mainGlobals "_law_bits" = some (some (.ref f_lw_bits)))
    (l_lw_bits : K.lookup f_lw_bits = some ⟨oc_lw_bits, od_lw_bits, .func (PySem.W.fnOf "_law_bits" "_law_bits" (defArgs s_lw_bits) (defBody s_lw_bits) (defScope s_lw_bits) .none kV_lw_bits dc_lw_bits pm_lw_bits an_lw_bits cd_lw_bits ct_lw_bits), sl_lw_bits⟩)
    (c_lw_bits : PySem.W.codeIn K cd_lw_bits "_law_bits" = true)
    (k_lw_bits : PySem.W.keepIn K (.ref f_lw_bits) = true)
    {oc_lw_apart kV_lw_apart dc_lw_apart pm_lw_apart cd_lw_apart ct_lw_apart : Value} {od_lw_apart an_lw_apart : Option Addr} {sl_lw_apart : Array (Option Value)}
    (a_lw_apart : PySem.W.nsIn K mainGlobals "_law_apart" = some (some (.ref f_lw_apart)))
    (l_lw_apart : K.lookup f_lw_apart = some ⟨oc_lw_apart, od_lw_apart, .func (PySem.W.fnOf "_law_apart" "_law_apart" (defArgs s_lw_apart) (defBody s_lw_apart) (defScope s_lw_apart) .none kV_lw_apart dc_lw_apart pm_lw_apart an_lw_apart cd_lw_apart ct_lw_apart), sl_lw_apart⟩)
    (c_lw_apart : PySem.W.codeIn K cd_lw_apart "_law_apart" = true)
    (k_lw_apart : PySem.W.keepIn K (.ref f_lw_apart) = true)
    {oc_lw_due kV_lw_due dc_lw_due pm_lw_due cd_lw_due ct_lw_due : Value} {od_lw_due an_lw_due : Option Addr} {sl_lw_due : Array (Option Value)}
    (a_lw_due : PySem.W.nsIn K mainGlobals "_law_due" = some (some (.ref f_lw_due)))
    (l_lw_due : K.lookup f_lw_due = some ⟨oc_lw_due, od_lw_due, .func (PySem.W.fnOf "_law_due" "_law_due" (defArgs s_lw_due) (defBody s_lw_due) (defScope s_lw_due) .none kV_lw_due dc_lw_due pm_lw_due an_lw_due cd_lw_due ct_lw_due), sl_lw_due⟩)
    (c_lw_due : PySem.W.codeIn K cd_lw_due "_law_due" = true)
    (k_lw_due : PySem.W.keepIn K (.ref f_lw_due) = true)
    {oc_lw_told kV_lw_told dc_lw_told pm_lw_told cd_lw_told ct_lw_told : Value} {od_lw_told an_lw_told : Option Addr} {sl_lw_told : Array (Option Value)}
    (a_lw_told : PySem.W.nsIn K mainGlobals "_law_told" = some (some (.ref f_lw_told)))
    (l_lw_told : K.lookup f_lw_told = some ⟨oc_lw_told, od_lw_told, .func (PySem.W.fnOf "_law_told" "_law_told" (defArgs s_lw_told) (defBody s_lw_told) (defScope s_lw_told) .none kV_lw_told dc_lw_told pm_lw_told an_lw_told cd_lw_told ct_lw_told), sl_lw_told⟩)
    (c_lw_told : PySem.W.codeIn K cd_lw_told "_law_told" = true)
    (k_lw_told : PySem.W.keepIn K (.ref f_lw_told) = true)
    {oc_law kV_law dc_law pm_law cd_law ct_law : Value} {od_law an_law : Option Addr} {sl_law : Array (Option Value)}
    (a_law : PySem.W.nsIn K mainGlobals "law" = some (some (.ref f_law)))
    (l_law : K.lookup f_law = some ⟨oc_law, od_law, .func (PySem.W.fnOf "law" "law" (defArgs s_law) (defBody s_law) (defScope s_law) .none kV_law dc_law pm_law an_law cd_law ct_law), sl_law⟩)
    (c_law : PySem.W.codeIn K cd_law "law" = true)
    (k_law : PySem.W.keepIn K (.ref f_law) = true)
    {tk_MOST_SIGNS : Tok} (n_MOST_SIGNS : PySem.W.nsIn K mainGlobals "MOST_SIGNS" = some (some (.int 24 tk_MOST_SIGNS)))
    {tk_MOST_BITS : Tok} (n_MOST_BITS : PySem.W.nsIn K mainGlobals "MOST_BITS" = some (some (.int 12 tk_MOST_BITS)))
    (z_ValueError : PySem.W.nsIn K mainGlobals "ValueError" = some none)
    (z_bool : PySem.W.nsIn K mainGlobals "bool" = some none)
    (z_int : PySem.W.nsIn K mainGlobals "int" = some none)
    (z_isinstance : PySem.W.nsIn K mainGlobals "isinstance" = some none)
    (z_len : PySem.W.nsIn K mainGlobals "len" = some none)
    (z_list : PySem.W.nsIn K mainGlobals "list" = some none)
    (z_max : PySem.W.nsIn K mainGlobals "max" = some none)
    (z_min : PySem.W.nsIn K mainGlobals "min" = some none)
    (z_range : PySem.W.nsIn K mainGlobals "range" = some none)
    (z_sorted : PySem.W.nsIn K mainGlobals "sorted" = some none)
    (z_sum : PySem.W.nsIn K mainGlobals "sum" = some none)
    (x_hn : PySem.W.specialIn K (.builtin "object.__class__") "__get__" = some (some (.builtin "getset_descriptor.__get__")))
    (x_ht : PySem.W.takesIn K (.builtin "object.__class__") = some true)
    (hd_CodeError : PySem.W.hasDictIn K C_CodeError = true)
    (i_NoSign : PySem.W.isClsIn K C_NoSign = true)
    (i_BadBits : PySem.W.isClsIn K C_BadBits = true)
    (i_BadWords : PySem.W.isClsIn K C_BadWords = true)
    (i_BadLengths : PySem.W.isClsIn K C_BadLengths = true)
    (i_NoRoom : PySem.W.isClsIn K C_NoRoom = true)
    (i_BadBound : PySem.W.isClsIn K C_BadBound = true)
    (i_BadWeight : PySem.W.isClsIn K C_BadWeight = true)
    (i_NoWeights : PySem.W.isClsIn K C_NoWeights = true)
    (e_BadLengths_hg : PySem.W.findIn K (.ref C_BadLengths) "__getattribute__" = some (some (.builtin "BaseException.__getattribute__")))
    (e_BadLengths_hk : PySem.W.findIn K (.ref C_BadLengths) "__getattr__" = some none)
    (e_BadLengths_hs : PySem.W.subIn K (.ref C_BadLengths) (.type "BaseException") = some true)
    (e_BadLengths_hd : PySem.W.hasDictIn K C_BadLengths = true)
    (e_BadLengths_ha : PySem.W.findIn K (.ref C_BadLengths) "__class__" = some (some (.builtin "object.__class__")))
    (e_BadLengths_hm : PySem.W.mroIn K C_BadLengths (.type "object") = some true)
    (e_BadLengths_k1 : PySem.W.subIn K (.ref C_BadLengths) (.ref C_NoWeights) = some false)
    (e_BadLengths_k2 : PySem.W.subIn K (.ref C_BadLengths) (.ref C_BadWeight) = some false)
    (e_BadLengths_k3 : PySem.W.subIn K (.ref C_BadLengths) (.ref C_BadBound) = some false)
    (e_BadLengths_k4 : PySem.W.subIn K (.ref C_BadLengths) (.ref C_NoRoom) = some false)
    (e_BadLengths_k5 : PySem.W.subIn K (.ref C_BadLengths) (.ref C_BadLengths) = some true)
    (e_BadLengths_k6 : PySem.W.subIn K (.ref C_BadLengths) (.ref C_BadWords) = some false)
    (e_BadLengths_k7 : PySem.W.subIn K (.ref C_BadLengths) (.ref C_BadBits) = some false)
    (e_BadLengths_k8 : PySem.W.subIn K (.ref C_BadLengths) (.ref C_NoSign) = some false)
    (e_BadLengths_kV : PySem.W.subIn K (.ref C_BadLengths) (.type "ValueError") = some true)
    (e_BadLengths_sub : PySem.W.subIn K (.ref C_BadLengths) (.ref C_CodeError) = some true)
    : ∃ fd : FuncData, (∀ (s : Shared) (u : Value), BindsTo s fd ⟨[u], []⟩ [("_law_script", u)]) ∧ ∀ base : Heap, K.In base → base.Ns mainGlobals mg → FnOk P w K mg base CX0 7 fa fd ["_law_script"] (spLaw K) := by
  have e := hfa.symm.trans (PySem.W.mg_of X G a_law)
  cases e
  have F_is_number := fun_mk (st := s_is_number) l_is_number c_is_number k_is_number
  have F_check_bound := fun_mk (st := s_check_bound) l_check_bound c_check_bound k_check_bound
  have F_check_lengths := fun_mk (st := s_check_lengths) l_check_lengths c_check_lengths k_check_lengths
  have F_places := fun_mk (st := s_places) l_places c_places k_places
  have F_room := fun_mk (st := s_room) l_room c_room k_room
  have F_counted := fun_mk (st := s_counted) l_counted c_counted k_counted
  have F_u_check_sum := fun_mk (st := s_u_check_sum) l_u_check_sum c_u_check_sum k_u_check_sum
  have F_u_word_from := fun_mk (st := s_u_word_from) l_u_word_from c_u_word_from k_u_word_from
  have F_words_in_order := fun_mk (st := s_words_in_order) l_words_in_order c_words_in_order k_words_in_order
  have F_lw_cell := fun_mk (st := s_lw_cell) l_lw_cell c_lw_cell k_lw_cell
  have F_lw_whole := fun_mk (st := s_lw_whole) l_lw_whole c_lw_whole k_lw_whole
  have F_lw_doubled := fun_mk (st := s_lw_doubled) l_lw_doubled c_lw_doubled k_lw_doubled
  have F_lw_strange := fun_mk (st := s_lw_strange) l_lw_strange c_lw_strange k_lw_strange
  have F_lw_is := fun_mk (st := s_lw_is) l_lw_is c_lw_is k_lw_is
  have F_lw_all := fun_mk (st := s_lw_all) l_lw_all c_lw_all k_lw_all
  have F_lw_word_of := fun_mk (st := s_lw_word_of) l_lw_word_of c_lw_word_of k_lw_word_of
  have F_lw_leaves := fun_mk (st := s_lw_leaves) l_lw_leaves c_lw_leaves k_lw_leaves
  have F_lw_order := fun_mk (st := s_lw_order) l_lw_order c_lw_order k_lw_order
  have F_lw_lengths := fun_mk (st := s_lw_lengths) l_lw_lengths c_lw_lengths k_lw_lengths
  have F_lw_bits := fun_mk (st := s_lw_bits) l_lw_bits c_lw_bits k_lw_bits
  have F_lw_apart := fun_mk (st := s_lw_apart) l_lw_apart c_lw_apart k_lw_apart
  have F_lw_due := fun_mk (st := s_lw_due) l_lw_due c_lw_due k_lw_due
  have F_lw_told := fun_mk (st := s_lw_told) l_lw_told c_lw_told k_lw_told
  have F_law := fun_mk (st := s_law) l_law c_law k_law
  have T : Top K mg ⟨f_is_number, _, f_check_bound, _, f_check_lengths, _, f_places, _, f_room, _, f_counted, _, f_u_check_sum, _, f_u_word_from, _, f_words_in_order, _, f_lw_cell, _, f_lw_whole, _, f_lw_doubled, _, f_lw_strange, _, f_lw_is, _, f_lw_all, _, f_lw_word_of, _, f_lw_leaves, _, f_lw_order, _, f_lw_lengths, _, f_lw_bits, _, f_lw_apart, _, f_lw_due, _, f_lw_told, _, fa, _, C_CodeError, C_NoWeights, C_BadWeight, C_BadBound, C_NoRoom, C_BadLengths, C_BadWords, C_BadBits, C_NoSign⟩ := ⟨⟨PySem.W.mg_none_of X G z_ValueError, PySem.W.mg_none_of X G z_bool, PySem.W.mg_none_of X G z_int, PySem.W.mg_none_of X G z_isinstance, PySem.W.mg_none_of X G z_len, PySem.W.mg_none_of X G z_list, PySem.W.mg_none_of X G z_max, PySem.W.mg_none_of X G z_min, PySem.W.mg_none_of X G z_range, PySem.W.mg_none_of X G z_sorted, PySem.W.mg_none_of X G z_sum⟩,
    ⟨F_is_number, PySem.W.mg_of X G a_is_number, F_is_number.binds (ps := ["thing", "least", "most"]) fun _ _ _ _ _ _ us hl => match us, hl with | [_, _, _], _ => rfl⟩,
    ⟨F_check_bound, PySem.W.mg_of X G a_check_bound, F_check_bound.binds (ps := ["bound"]) fun _ _ _ _ _ _ us hl => match us, hl with | [_], _ => rfl⟩,
    ⟨F_check_lengths, PySem.W.mg_of X G a_check_lengths, F_check_lengths.binds (ps := ["lengths", "bound"]) fun _ _ _ _ _ _ us hl => match us, hl with | [_, _], _ => rfl⟩,
    ⟨F_places, PySem.W.mg_of X G a_places, F_places.binds (ps := ["length", "bound"]) fun _ _ _ _ _ _ us hl => match us, hl with | [_, _], _ => rfl⟩,
    ⟨F_room, PySem.W.mg_of X G a_room, F_room.binds (ps := ["bound"]) fun _ _ _ _ _ _ us hl => match us, hl with | [_], _ => rfl⟩,
    ⟨F_counted, PySem.W.mg_of X G a_counted, F_counted.binds (ps := ["lengths", "bound"]) fun _ _ _ _ _ _ us hl => match us, hl with | [_, _], _ => rfl⟩,
    ⟨F_u_check_sum, PySem.W.mg_of X G a_u_check_sum, F_u_check_sum.binds (ps := ["lengths"]) fun _ _ _ _ _ _ us hl => match us, hl with | [_], _ => rfl⟩,
    ⟨F_u_word_from, PySem.W.mg_of X G a_u_word_from, F_u_word_from.binds (ps := ["first", "length"]) fun _ _ _ _ _ _ us hl => match us, hl with | [_, _], _ => rfl⟩,
    ⟨F_words_in_order, PySem.W.mg_of X G a_words_in_order, F_words_in_order.binds (ps := ["lengths"]) fun _ _ _ _ _ _ us hl => match us, hl with | [_], _ => rfl⟩,
    ⟨F_lw_cell, PySem.W.mg_of X G a_lw_cell, F_lw_cell.binds (ps := ["_law_script", "_law_k"]) fun _ _ _ _ _ _ us hl => match us, hl with | [_, _], _ => rfl⟩,
    ⟨F_lw_whole, PySem.W.mg_of X G a_lw_whole, F_lw_whole.binds (ps := ["_law_found"]) fun _ _ _ _ _ _ us hl => match us, hl with | [_], _ => rfl⟩,
    ⟨F_lw_doubled, PySem.W.mg_of X G a_lw_doubled, F_lw_doubled.binds (ps := ["_law_times"]) fun _ _ _ _ _ _ us hl => match us, hl with | [_], _ => rfl⟩,
    ⟨F_lw_strange, PySem.W.mg_of X G a_lw_strange, F_lw_strange.binds (ps := ["_law_cell_here", "_law_low", "_law_high"]) fun _ _ _ _ _ _ us hl => match us, hl with | [_, _, _], _ => rfl⟩,
    ⟨F_lw_is, PySem.W.mg_of X G a_lw_is, F_lw_is.binds (ps := ["_law_thing", "_law_low", "_law_high"]) fun _ _ _ _ _ _ us hl => match us, hl with | [_, _, _], _ => rfl⟩,
    ⟨F_lw_all, PySem.W.mg_of X G a_lw_all, F_lw_all.binds (ps := ["_law_things", "_law_low", "_law_high"]) fun _ _ _ _ _ _ us hl => match us, hl with | [_, _, _], _ => rfl⟩,
    ⟨F_lw_word_of, PySem.W.mg_of X G a_lw_word_of, F_lw_word_of.binds (ps := ["_law_error"]) fun _ _ _ _ _ _ us hl => match us, hl with | [_], _ => rfl⟩,
    ⟨F_lw_leaves, PySem.W.mg_of X G a_lw_leaves, F_lw_leaves.binds (ps := ["_law_script", "_law_first", "_law_many", "_law_bound"]) fun _ _ _ _ _ _ us hl => match us, hl with | [_, _, _, _], _ => rfl⟩,
    ⟨F_lw_order, PySem.W.mg_of X G a_lw_order, F_lw_order.binds (ps := ["_law_script", "_law_first", "_law_many"]) fun _ _ _ _ _ _ us hl => match us, hl with | [_, _, _], _ => rfl⟩,
    ⟨F_lw_lengths, PySem.W.mg_of X G a_lw_lengths, F_lw_lengths.binds (ps := ["_law_script"]) fun _ _ _ _ _ _ us hl => match us, hl with | [_], _ => rfl⟩,
    ⟨F_lw_bits, PySem.W.mg_of X G a_lw_bits, F_lw_bits.binds (ps := ["_law_number", "_law_length"]) fun _ _ _ _ _ _ us hl => match us, hl with | [_, _], _ => rfl⟩,
    ⟨F_lw_apart, PySem.W.mg_of X G a_lw_apart, F_lw_apart.binds (ps := ["_law_words"]) fun _ _ _ _ _ _ us hl => match us, hl with | [_], _ => rfl⟩,
    ⟨F_lw_due, PySem.W.mg_of X G a_lw_due, F_lw_due.binds (ps := ["_law_lengths_here"]) fun _ _ _ _ _ _ us hl => match us, hl with | [_], _ => rfl⟩,
    ⟨F_lw_told, PySem.W.mg_of X G a_lw_told, F_lw_told.binds (ps := ["_law_lengths_here"]) fun _ _ _ _ _ _ us hl => match us, hl with | [_], _ => rfl⟩,
    ⟨F_law, PySem.W.mg_of X G a_law, F_law.binds (ps := ["_law_script"]) fun _ _ _ _ _ _ us hl => match us, hl with | [_], _ => rfl⟩,
    ⟨PySem.W.mg_of X G a_CodeError, x_CodeError, k_CodeError, b_CodeError, t_CodeError⟩,
    ⟨PySem.W.mg_of X G a_NoWeights, x_NoWeights, k_NoWeights, b_NoWeights, t_NoWeights⟩,
    ⟨PySem.W.mg_of X G a_BadWeight, x_BadWeight, k_BadWeight, b_BadWeight, t_BadWeight⟩,
    ⟨PySem.W.mg_of X G a_BadBound, x_BadBound, k_BadBound, b_BadBound, t_BadBound⟩,
    ⟨PySem.W.mg_of X G a_NoRoom, x_NoRoom, k_NoRoom, b_NoRoom, t_NoRoom⟩,
    ⟨PySem.W.mg_of X G a_BadLengths, x_BadLengths, k_BadLengths, b_BadLengths, t_BadLengths⟩,
    ⟨PySem.W.mg_of X G a_BadWords, x_BadWords, k_BadWords, b_BadWords, t_BadWords⟩,
    ⟨PySem.W.mg_of X G a_BadBits, x_BadBits, k_BadBits, b_BadBits, t_BadBits⟩,
    ⟨PySem.W.mg_of X G a_NoSign, x_NoSign, k_NoSign, b_NoSign, t_NoSign⟩,
    ⟨_, PySem.W.mg_of X G n_MOST_SIGNS, ⟨_, rfl⟩⟩,
    ⟨_, PySem.W.mg_of X G n_MOST_BITS, ⟨_, rfl⟩⟩,
    ⟨⟨e_BadLengths_hg, e_BadLengths_hk, e_BadLengths_hs, e_BadLengths_hd, e_BadLengths_ha, x_hn, x_ht, e_BadLengths_hm⟩, by decide +kernel, (kit_no i_NoWeights t_NoWeights e_BadLengths_k1 e_BadLengths_k5).trans (by decide +kernel), (kit_no i_BadWeight t_BadWeight e_BadLengths_k2 e_BadLengths_k5).trans (by decide +kernel), (kit_no i_BadBound t_BadBound e_BadLengths_k3 e_BadLengths_k5).trans (by decide +kernel), (kit_no i_NoRoom t_NoRoom e_BadLengths_k4 e_BadLengths_k5).trans (by decide +kernel), kit_self.trans (by decide +kernel), (kit_no i_BadWords t_BadWords e_BadLengths_k6 e_BadLengths_k5).trans (by decide +kernel), (kit_no i_BadBits t_BadBits e_BadLengths_k7 e_BadLengths_k5).trans (by decide +kernel), (kit_no i_NoSign t_NoSign e_BadLengths_k8 e_BadLengths_k5).trans (by decide +kernel), kit_VE e_BadLengths_kV, PySem.W.exm_ref b_CodeError hd_CodeError t_CodeError e_BadLengths_sub⟩⟩
  exact ⟨_, fun s u => .of_eq rfl, fun base _ _ => ok_law T⟩
end Sl
open PySem PySem.W PyProof.Rows
set_option maxRecDepth 100000 in
set_option maxHeartbeats 0 in
theorem PySem.Challenge.cw_shortlimit_k05_words_in_order_holds : PySem.Challenge.rw_shortlimit_k05_words_in_order.Holds := by
  w_on; o_law; k_head; (case hw => w_witness2)
  k_fill
  refine L2.walk_of (l := PySem.Challenge.rw_shortlimit_k05_words_in_order) (n := 63) (k := 7) (x := "_law_script") (CX := fun _ => L2.CX0) (sp := fun w => Sl.spLaw _) rfl (by decide) rfl ⟨rfl, by decide, by decide⟩ (fun w h Y => PySem.W.kIn_of Y) ?F (fun _ _ a ns hl _ hS => ⟨a, ns, rfl, hS, hl, fun _ => rfl⟩) (fun _ _ _ _ _ h => h)
  case F =>
    intro w mg fa h KX G hmg
    refine' Sl.all_mk KX G hmg ?a_CodeError ?x_CodeError ?k_CodeError ?b_CodeError ?t_CodeError ?a_NoWeights ?x_NoWeights ?k_NoWeights ?b_NoWeights ?t_NoWeights ?a_BadWeight ?x_BadWeight ?k_BadWeight ?b_BadWeight ?t_BadWeight ?a_BadBound ?x_BadBound ?k_BadBound ?b_BadBound ?t_BadBound ?a_NoRoom ?x_NoRoom ?k_NoRoom ?b_NoRoom ?t_NoRoom ?a_BadLengths ?x_BadLengths ?k_BadLengths ?b_BadLengths ?t_BadLengths ?a_BadWords ?x_BadWords ?k_BadWords ?b_BadWords ?t_BadWords ?a_BadBits ?x_BadBits ?k_BadBits ?b_BadBits ?t_BadBits ?a_NoSign ?x_NoSign ?k_NoSign ?b_NoSign ?t_NoSign ?a_is_number ?l_is_number ?c_is_number ?k_is_number ?a_check_bound ?l_check_bound ?c_check_bound ?k_check_bound ?a_check_lengths ?l_check_lengths ?c_check_lengths ?k_check_lengths ?a_places ?l_places ?c_places ?k_places ?a_room ?l_room ?c_room ?k_room ?a_counted ?l_counted ?c_counted ?k_counted ?a_u_check_sum ?l_u_check_sum ?c_u_check_sum ?k_u_check_sum ?a_u_word_from ?l_u_word_from ?c_u_word_from ?k_u_word_from ?a_words_in_order ?l_words_in_order ?c_words_in_order ?k_words_in_order ?a_lw_cell ?l_lw_cell ?c_lw_cell ?k_lw_cell ?a_lw_whole ?l_lw_whole ?c_lw_whole ?k_lw_whole ?a_lw_doubled ?l_lw_doubled ?c_lw_doubled ?k_lw_doubled ?a_lw_strange ?l_lw_strange ?c_lw_strange ?k_lw_strange ?a_lw_is ?l_lw_is ?c_lw_is ?k_lw_is ?a_lw_all ?l_lw_all ?c_lw_all ?k_lw_all ?a_lw_word_of ?l_lw_word_of ?c_lw_word_of ?k_lw_word_of ?a_lw_leaves ?l_lw_leaves ?c_lw_leaves ?k_lw_leaves ?a_lw_order ?l_lw_order ?c_lw_order ?k_lw_order ?a_lw_lengths ?l_lw_lengths ?c_lw_lengths ?k_lw_lengths ?a_lw_bits ?l_lw_bits ?c_lw_bits ?k_lw_bits ?a_lw_apart ?l_lw_apart ?c_lw_apart ?k_lw_apart ?a_lw_due ?l_lw_due ?c_lw_due ?k_lw_due ?a_lw_told ?l_lw_told ?c_lw_told ?k_lw_told ?a_law ?l_law ?c_law ?k_law ?n_MOST_SIGNS ?n_MOST_BITS ?z_ValueError ?z_bool ?z_int ?z_isinstance ?z_len ?z_list ?z_max ?z_min ?z_range ?z_sorted ?z_sum ?x_hn ?x_ht ?hd_CodeError ?i_NoSign ?i_BadBits ?i_BadWords ?i_BadLengths ?i_NoRoom ?i_BadBound ?i_BadWeight ?i_NoWeights ?e_BadLengths_hg ?e_BadLengths_hk ?e_BadLengths_hs ?e_BadLengths_hd ?e_BadLengths_ha ?e_BadLengths_hm ?e_BadLengths_k1 ?e_BadLengths_k2 ?e_BadLengths_k3 ?e_BadLengths_k4 ?e_BadLengths_k5 ?e_BadLengths_k6 ?e_BadLengths_k7 ?e_BadLengths_k8 ?e_BadLengths_kV ?e_BadLengths_sub
    (case a_CodeError => k_is)
    (case x_CodeError => k_exc)
    (case k_CodeError => k_is)
    (case b_CodeError => k_is)
    (case t_CodeError => k_is)
    (case a_NoWeights => k_is)
    (case x_NoWeights => k_exc)
    (case k_NoWeights => k_is)
    (case b_NoWeights => k_is)
    (case t_NoWeights => k_is)
    (case a_BadWeight => k_is)
    (case x_BadWeight => k_exc)
    (case k_BadWeight => k_is)
    (case b_BadWeight => k_is)
    (case t_BadWeight => k_is)
    (case a_BadBound => k_is)
    (case x_BadBound => k_exc)
    (case k_BadBound => k_is)
    (case b_BadBound => k_is)
    (case t_BadBound => k_is)
    (case a_NoRoom => k_is)
    (case x_NoRoom => k_exc)
    (case k_NoRoom => k_is)
    (case b_NoRoom => k_is)
    (case t_NoRoom => k_is)
    (case a_BadLengths => k_is)
    (case x_BadLengths => k_exc)
    (case k_BadLengths => k_is)
    (case b_BadLengths => k_is)
    (case t_BadLengths => k_is)
    (case a_BadWords => k_is)
    (case x_BadWords => k_exc)
    (case k_BadWords => k_is)
    (case b_BadWords => k_is)
    (case t_BadWords => k_is)
    (case a_BadBits => k_is)
    (case x_BadBits => k_exc)
    (case k_BadBits => k_is)
    (case b_BadBits => k_is)
    (case t_BadBits => k_is)
    (case a_NoSign => k_is)
    (case x_NoSign => k_exc)
    (case k_NoSign => k_is)
    (case b_NoSign => k_is)
    (case t_NoSign => k_is)
    (case a_is_number => k_is)
    (case l_is_number => k_is)
    (case c_is_number => k_is)
    (case k_is_number => k_is)
    (case a_check_bound => k_is)
    (case l_check_bound => k_is)
    (case c_check_bound => k_is)
    (case k_check_bound => k_is)
    (case a_check_lengths => k_is)
    (case l_check_lengths => k_is)
    (case c_check_lengths => k_is)
    (case k_check_lengths => k_is)
    (case a_places => k_is)
    (case l_places => k_is)
    (case c_places => k_is)
    (case k_places => k_is)
    (case a_room => k_is)
    (case l_room => k_is)
    (case c_room => k_is)
    (case k_room => k_is)
    (case a_counted => k_is)
    (case l_counted => k_is)
    (case c_counted => k_is)
    (case k_counted => k_is)
    (case a_u_check_sum => k_is)
    (case l_u_check_sum => k_is)
    (case c_u_check_sum => k_is)
    (case k_u_check_sum => k_is)
    (case a_u_word_from => k_is)
    (case l_u_word_from => k_is)
    (case c_u_word_from => k_is)
    (case k_u_word_from => k_is)
    (case a_words_in_order => k_is)
    (case l_words_in_order => k_is)
    (case c_words_in_order => k_is)
    (case k_words_in_order => k_is)
    (case a_lw_cell => k_is)
    (case l_lw_cell => k_is)
    (case c_lw_cell => k_is)
    (case k_lw_cell => k_is)
    (case a_lw_whole => k_is)
    (case l_lw_whole => k_is)
    (case c_lw_whole => k_is)
    (case k_lw_whole => k_is)
    (case a_lw_doubled => k_is)
    (case l_lw_doubled => k_is)
    (case c_lw_doubled => k_is)
    (case k_lw_doubled => k_is)
    (case a_lw_strange => k_is)
    (case l_lw_strange => k_is)
    (case c_lw_strange => k_is)
    (case k_lw_strange => k_is)
    (case a_lw_is => k_is)
    (case l_lw_is => k_is)
    (case c_lw_is => k_is)
    (case k_lw_is => k_is)
    (case a_lw_all => k_is)
    (case l_lw_all => k_is)
    (case c_lw_all => k_is)
    (case k_lw_all => k_is)
    (case a_lw_word_of => k_is)
    (case l_lw_word_of => k_is)
    (case c_lw_word_of => k_is)
    (case k_lw_word_of => k_is)
    (case a_lw_leaves => k_is)
    (case l_lw_leaves => k_is)
    (case c_lw_leaves => k_is)
    (case k_lw_leaves => k_is)
    (case a_lw_order => k_is)
    (case l_lw_order => k_is)
    (case c_lw_order => k_is)
    (case k_lw_order => k_is)
    (case a_lw_lengths => k_is)
    (case l_lw_lengths => k_is)
    (case c_lw_lengths => k_is)
    (case k_lw_lengths => k_is)
    (case a_lw_bits => k_is)
    (case l_lw_bits => k_is)
    (case c_lw_bits => k_is)
    (case k_lw_bits => k_is)
    (case a_lw_apart => k_is)
    (case l_lw_apart => k_is)
    (case c_lw_apart => k_is)
    (case k_lw_apart => k_is)
    (case a_lw_due => k_is)
    (case l_lw_due => k_is)
    (case c_lw_due => k_is)
    (case k_lw_due => k_is)
    (case a_lw_told => k_is)
    (case l_lw_told => k_is)
    (case c_lw_told => k_is)
    (case k_lw_told => k_is)
    (case a_law => k_is)
    (case l_law => k_is)
    (case c_law => k_is)
    (case k_law => k_is)
    (case n_MOST_SIGNS => k_is)
    (case n_MOST_BITS => k_is)
    (case z_ValueError => k_is)
    (case z_bool => k_is)
    (case z_int => k_is)
    (case z_isinstance => k_is)
    (case z_len => k_is)
    (case z_list => k_is)
    (case z_max => k_is)
    (case z_min => k_is)
    (case z_range => k_is)
    (case z_sorted => k_is)
    (case z_sum => k_is)
    (case x_hn => k_is)
    (case x_ht => k_is)
    (case hd_CodeError => k_is)
    (case i_NoSign => k_is)
    (case i_BadBits => k_is)
    (case i_BadWords => k_is)
    (case i_BadLengths => k_is)
    (case i_NoRoom => k_is)
    (case i_BadBound => k_is)
    (case i_BadWeight => k_is)
    (case i_NoWeights => k_is)
    (case e_BadLengths_hg => k_is)
    (case e_BadLengths_hk => k_is)
    (case e_BadLengths_hs => k_is)
    (case e_BadLengths_hd => k_is)
    (case e_BadLengths_ha => k_is)
    (case e_BadLengths_hm => k_is)
    (case e_BadLengths_k1 => first | rfl | k_is)
    (case e_BadLengths_k2 => first | rfl | k_is)
    (case e_BadLengths_k3 => first | rfl | k_is)
    (case e_BadLengths_k4 => first | rfl | k_is)
    (case e_BadLengths_k5 => first | rfl | k_is)
    (case e_BadLengths_k6 => first | rfl | k_is)
    (case e_BadLengths_k7 => first | rfl | k_is)
    (case e_BadLengths_k8 => first | rfl | k_is)
    (case e_BadLengths_kV => k_is)
    (case e_BadLengths_sub => k_is)

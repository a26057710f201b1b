import PyProof.Rows.All
import Wide.All
import OpenK.AllK
import Wide.FinOn
import Open.SpecLaws
import KE.OsGo
import HandS.ForSpec
import HandS.ForMost
import HandS.TryMany
import HandS.WideBits
import HandS.Wide
import HandS.Deep
import HandS.Conv
import HandS.SortOrd
import HandS.SortInts
import HandS.TupLe
import HandS.Walk
import KE.SortData
import PySw64
import PySem.Challenge.RW_saidnumbers_s01_answers
set_option Elab.async false
set_option maxRecDepth 100000
set_option maxHeartbeats 2000000
set_option linter.all false
/-! words that the layer lacks -/
namespace Sn
open PySem PySem.Spec PyProof.Rows L2

section
variable {X : Cx}
/-! ### bits of numbers that are not negative -/
theorem nat_and (m n : Nat) : Builtin.bitAnd (m : Int) (n : Int) = ((m &&& n : Nat) : Int) := by
  rw [bitAnd_pp (by omega) (by omega), Int.toNat_natCast, Int.toNat_natCast]
theorem nat_or (m n : Nat) : Builtin.bitOr (m : Int) (n : Int) = ((m ||| n : Nat) : Int) := by
  rw [Bits.bitOr_pp (by omega) (by omega), Int.toNat_natCast, Int.toNat_natCast]
theorem nat_xor (m n : Nat) : Builtin.bitXor (m : Int) (n : Int) = ((m ^^^ n : Nat) : Int) := by
  rw [Bits.bitXor_pp (by omega) (by omega), Int.toNat_natCast, Int.toNat_natCast]
def rNN (f : Nat → Nat → V) : R2 := fun x y H Q => ∃ m n : Nat, x = .int (m : Int) ∧ y = .int (n : Int) ∧ Q (f m n) H
theorem op_andN : OpR X (binaryOp .BitAnd) (rNN fun m n => .int ((m &&& n : Nat) : Int)) := fun pins s σ H x y v u Q I rx ry ⟨m, n, ex, ey, q⟩ =>
  op_and pins s σ H x y v u Q I rx ry ⟨m, n, ex, ey, by show Q (.int (Builtin.bitAnd (m : Int) (n : Int))) H; rw [nat_and]; exact q⟩
theorem op_orN : OpR X (binaryOp .BitOr) (rNN fun m n => .int ((m ||| n : Nat) : Int)) := fun pins s σ H x y v u Q I rx ry ⟨m, n, ex, ey, q⟩ =>
  op_or pins s σ H x y v u Q I rx ry ⟨m, n, ex, ey, by show Q (.int (Builtin.bitOr (m : Int) (n : Int))) H; rw [nat_or]; exact q⟩
theorem op_xorN : OpR X (binaryOp .BitXor) (rNN fun m n => .int ((m ^^^ n : Nat) : Int)) := fun pins s σ H x y v u Q I rx ry ⟨m, n, ex, ey, q⟩ =>
  op_xor pins s σ H x y v u Q I rx ry ⟨m, n, ex, ey, by show Q (.int (Builtin.bitXor (m : Int) (n : Int))) H; rw [nat_xor]; exact q⟩
theorem op_shrNN : OpR X (binaryOp .RShift) (rNN fun m n => .int ((m >>> n : Nat) : Int)) := fun pins s σ H x y v u Q I rx ry ⟨m, n, ex, ey, q⟩ =>
  op_shrN pins s σ H x y v u Q I rx ry ⟨m, n, ex, ey, by
    have e : ((m : Int) / 2 ^ n) = ((m >>> n : Nat) : Int) := by rw [Nat.shiftRight_eq_div_pow, Int.natCast_ediv, Int.natCast_pow]; rfl
    rw [e]; exact q⟩
/-- so many bits a number may have: m << n -/
def rShl : R2 := fun x y H Q => ∃ m n : Nat, x = .int (m : Int) ∧ y = .int (n : Int) ∧ (∃ k, m < 2 ^ k ∧ k ≤ 10000 ∧ n ≤ 10000) ∧ Q (.int ((m <<< n : Nat) : Int)) H
theorem op_shlNN : OpR X (binaryOp .LShift) rShl := fun pins s σ H x y v u Q I rx ry ⟨m, n, ex, ey, ⟨k, h1, h3, h2⟩, q⟩ =>
  op_shlN pins s σ H x y v u Q I rx ry ⟨m, n, ex, ey, by
    refine ⟨by omega, ?_⟩
    have hb : Builtin.Int.intBits (m : Int) ≤ 10000 := by
      by_cases h0 : m = 0
      · subst h0; decide
      · rw [Builtin.Int.intBits, if_neg (by simpa using h0), Int.natAbs_natCast]
        have := (Nat.log2_lt h0).mpr h1
        omega
    have : (2 : Int) ^ 27 = 134217728 := by decide
    omega, by
    have e : ((m : Int) * 2 ^ n) = ((m <<< n : Nat) : Int) := by rw [Nat.shiftLeft_eq, Int.natCast_mul, Int.natCast_pow]; rfl
    rw [e]; exact q⟩
def ipNN (f : Nat → Nat → Nat) : TIp := fun x y H Q => ∃ m n : Nat, x = .int (m : Int) ∧ y = .int (n : Int) ∧ Q (.int (f m n : Nat)) H
theorem ip_or : PIp X .BitOr (ipNN fun m n => m ||| n) := by
  intro pins s σ H x y v u Q I r1 r2 h
  obtain ⟨i, j, e1, e2, q⟩ := h
  subst e1; subst e2
  obtain ⟨t, rfl⟩ := r1
  obtain ⟨t', rfl⟩ := r2
  rw [← nat_or] at q
  exact ior_int ⟨.int _, H, I.tok _, ⟨_, rfl⟩, q⟩
theorem ip_and : PIp X .BitAnd (ipNN fun m n => m &&& n) := by
  intro pins s σ H x y v u Q I r1 r2 h
  obtain ⟨i, j, e1, e2, q⟩ := h
  subst e1; subst e2
  obtain ⟨t, rfl⟩ := r1
  obtain ⟨t', rfl⟩ := r2
  rw [← nat_and] at q
  exact iand_int ⟨.int _, H, I.tok _, ⟨_, rfl⟩, q⟩
/-! ### a number in floor and rest -/
/-- n // d, n % d of numbers that are not negative -/
def rDivN : R2 := fun x y H Q => ∃ n d : Nat, x = .int (n : Int) ∧ y = .int (d : Int) ∧ (0 < d ∧ d < 2 ^ 64) ∧ Q (.int ((n / d : Nat) : Int)) H
theorem op_divN : OpR X (binaryOp .FloorDiv) rDivN := fun pins s σ H x y v u Q I rx ry ⟨n, d, ex, ey, ⟨h1, h2⟩, q⟩ =>
  op_fdivW pins s σ H x y v u Q I rx ry ⟨n, d, ex, ey, ⟨by omega, by
    rw [Int.natAbs_natCast]
    exact Nat.lt_trans ((Nat.log2_lt (by omega)).mpr h2) (by decide)⟩, by
    show Q (.int ((n : Int) / (d : Int))) H
    rw [← Int.natCast_ediv]; exact q⟩
def rModN : R2 := fun x y H Q => ∃ n d : Nat, x = .int (n : Int) ∧ y = .int (d : Int) ∧ 0 < d ∧ Q (.int ((n % d : Nat) : Int)) H
theorem op_mdN : OpR X (binaryOp .Mod) rModN := fun pins s σ H x y v u Q I rx ry ⟨n, d, ex, ey, h1, q⟩ =>
  op_modN pins s σ H x y v u Q I rx ry ⟨n, d, ex, ey, (show (d : Int) ≠ 0 by omega), by
    show Q (.int ((n : Int).fmod (d : Int))) H
    rw [Int.fmod_eq_emod_of_nonneg _ (by omega), ← Int.natCast_emod]; exact q⟩
/-! ### x in (xs, ys, ..): data of any depth -/
def rInDT (K : PySem.W.Frag) : R2 := fun x y H Q => ∃ d ds, Dp K H x d ∧ Dp K H y (.tuple ds) ∧ SeqAt.shaped d = true ∧ SeqAt.shaped (.tuple ds) = true ∧ Q (.bl (ds.any fun z => PyData.eqv z d)) H
theorem op_inDT (hu : X.A.units + 65 < cLine) : OpR X (compareOp .In) (rInDT X.K) := by
  intro pins s σ H x y v u Q I rx ry h
  obtain ⟨d, ds, hd, he, sd, se, q⟩ := h
  obtain ⟨as, r1⟩ := Dp.reads I d x v hd rx
  obtain ⟨bs, r2⟩ := Dp.reads I (.tuple ds) y u he ry
  exact SeqAt.in_tuple_reads r2 r1 (SeqAt.canLay_of_shaped se) (SeqAt.canLay_of_shaped sd) (room_in_shaped sd hu) ⟨.bl _, H, I, rfl, q⟩
end

theorem units65 {k : Nat} {A : Around} (r : Room k A) : A.units + 65 < cLine := by have := r.un; omega
/-! ### raise X() of an own class without __init__ -/
section
variable {X : Cx} {C : Addr} {bmB : List Value} {B newId initId : String}
theorem pmk_own0 {x : Str} {p pos : Pos} (F : ExcBaseFacts B newId initId bmB) (q : PySem.W.excIn X.K C bmB newId = true) (gC : X.mg x = some (.ref C)) (kC : PySem.W.keepIn X.K (.ref C) = true) (r : Raises X (.ref C)) (hg : Gl X x)
    (hdb : (x == ("__debug__" : Str)) = false := by decide) : PMk X (.Call (.Name x p) [] [] pos) (fun _ H Q => Q (.ref C) none H) := by
  intro pins s σ H Q I h
  refine wpAny_Call_Name_kw (ld_glob I hg gC ?_ hdb)
  refine PySem.W.callWith_K0 I.kIn kC ?_
  show wpAny _ _ (call (.ref C) []) _ _ _
  obtain ⟨bm, N, nm, qn, bs, hdct, sn, sub, ab, col, dd, k0, k1, k2, k3, k5, mN, hC, hN, hni, T⟩ := exc_obj I.kIn q
  refine wpAny_call_exc_subT F T hC hN hni (fun h' e hm => ?_) (by show 0 ≤ sizeLine; rw [sizeLine_eq]; omega)
  exact mk_of I hm r h (I.hok.gone hm.new)
end

/-! ### a call within a try of a local name that holds one of several defs -/
section
variable {X : Cx} {CX : CXT} {k i : Nat} {x : Str} {p pos : Pos} {e : Expr} {es : List Expr} {t : TA}
structure HeldS (P : Program) (w : World) (K : PySem.W.Frag) (mg : Str → Option Value) (base : Heap) (CX : CXT) (k : Nat) (f : Addr) (sp : Sp) : Prop where
  ex : ∃ (fd : FuncData) (ps : List Str), FnOk P w K mg base CX k f fd ps sp ∧ PySem.W.keepIn K (.ref f) = true ∧ Binds K fd ps []
def tCallLS (i : Nat) (S : Addr → Option Sp) (E : L2.St → XK) (t : TA) : TE := fun σ H Q => ∃ f sp, σ[i]? = some (some (.ref f)) ∧ S f = some sp ∧ t σ H fun vs H1 => sp vs H1 Q (E σ)
theorem pe_callLS {S : Addr → Option Sp} {E : L2.St → XK} (A : ∀ f sp, S f = some sp → HeldS X.prog X.w X.K X.mg X.base CX k f sp) (hr : Room k X.A) (hN : X.N[i]? = some x) (hv : Vis X.env.scope x) (hx : ∀ σ, PassesAt CX X σ (E σ)) (ha : PA X (e :: es) t)
    (hdb : (x == ("__debug__" : Str)) = false := by decide) (hcd : (x == ("__classdict__" : Str)) = false := by decide)
    (he : starEach (e :: es) X.env = (false, eval e X.env) :: starEach es X.env := by rfl) (hpl : (backTo pos (starEach es X.env)).any (·.1) = false := by rfl) : PE X (.Call (.Name x p) (e :: es) [] pos) (tCallLS i S E t) := by
  refine ⟨fun pins s σ H Q I h => ?_⟩
  obtain ⟨f, sp, hs, hS, ht⟩ := h
  obtain ⟨fd, ps, F, hk, hb⟩ := (A f sp hS).ex
  refine wpAny_Call_Name_kw (thn ((pe_var (pos := p) hN hv hdb hcd).run pins s σ H (fun v H1 => v = .ref f ∧ H1 = H) I ⟨.ref f, hs, rfl, rfl⟩) fun u s1 ⟨v, H1, I1, r1, q1⟩ => ?_)
  obtain ⟨rfl, rfl⟩ := q1
  cases r1
  refine PySem.W.callWith_K (h₀ := X.base) I.ok.mod.kin hk (thn (ha.run pos pins s1 σ _ _ I1 ht) fun us s2 ⟨vs, H2, I2, r, q⟩ => ⟨I2.kIn, ?_⟩) he hpl
  exact run_fnS F hr hb (hx σ) I2 r q
end
end Sn
/-! the program's text by places; what its top leaves -/
namespace Sn
open PySem PySem.Spec PyProof.Rows L2
def topS (i : Nat) : Stmt := PySem.Challenge.pw_saidnumbers_s01_answers.main.body.getD i (.Pass ⟨0, 0, 0, 0⟩)
abbrev s_Row_init : Stmt := inClass (topS 1) 0
abbrev s_Row_has_more : Stmt := inClass (topS 1) 1
abbrev s_Row_one : Stmt := inClass (topS 1) 2
abbrev s_Row_told : Stmt := inClass (topS 1) 3
abbrev s_Piece_init : Stmt := inClass (topS 17) 0
abbrev s_Shape_init : Stmt := inClass (topS 18) 0
abbrev s_Shape_fits : Stmt := inClass (topS 18) 1
abbrev s_Shape_add_piece : Stmt := inClass (topS 18) 2
abbrev s_Rule_init : Stmt := inClass (topS 19) 0
abbrev s_stands_for : Stmt := topS 20
abbrev s_q_runs : Stmt := topS 21
abbrev s_r_runs : Stmt := topS 22
abbrev s_shapes_of : Stmt := topS 23
abbrev s_rules_up_to : Stmt := topS 24
abbrev s_may_be_piece : Stmt := topS 25
abbrev s_may_say_base : Stmt := topS 26
abbrev s_may_say_parts : Stmt := topS 27
abbrev s_may_be_rule : Stmt := topS 28
abbrev s_told_piece : Stmt := topS 29
abbrev s_told_rule : Stmt := topS 30
abbrev s_told_rules : Stmt := topS 31
abbrev s_rule_for : Stmt := topS 34
abbrev s_shape_for : Stmt := topS 35
abbrev s_say_onto : Stmt := topS 36
abbrev s_text_of : Stmt := topS 37
abbrev s_text_or_none : Stmt := topS 39
abbrev s_those_not_said : Stmt := topS 40
abbrev s_first_alike : Stmt := topS 41
abbrev s_longest_said : Stmt := topS 42
abbrev s_by_their_texts : Stmt := topS 43
abbrev s_Stretch_init : Stmt := inClass (topS 45) 0
abbrev s_Way_init : Stmt := inClass (topS 46) 0
abbrev s_Way_add_slot : Stmt := inClass (topS 46) 1
abbrev s_boxes_of : Stmt := topS 47
abbrev s_common_run : Stmt := topS 48
abbrev s_Stretches_init : Stmt := inClass (topS 49) 0
abbrev s_Stretches_stretch : Stmt := inClass (topS 49) 1
abbrev s_Stretches_ways_in : Stmt := inClass (topS 49) 2
abbrev s_Stretches_rule_ways : Stmt := inClass (topS 49) 3
abbrev s_Stretches_part_ways : Stmt := inClass (topS 49) 4
abbrev s_Stretches_shape_way : Stmt := inClass (topS 49) 5
abbrev s_places_of : Stmt := topS 51
abbrev s_has_place : Stmt := topS 52
abbrev s_Reading_init : Stmt := inClass (topS 53) 0
abbrev s_Reading_mask_of : Stmt := inClass (topS 53) 1
abbrev s_Reading_ways_of : Stmt := inClass (topS 53) 2
abbrev s_Reading_ends_of : Stmt := inClass (topS 53) 3
abbrev s_Reading_ends_from : Stmt := inClass (topS 53) 4
abbrev s_Reading_way_ends : Stmt := inClass (topS 53) 5
abbrev s_Reading_can_be : Stmt := inClass (topS 53) 6
abbrev s_Reading_numbers_of : Stmt := inClass (topS 53) 7
abbrev s_Reading_way_numbers : Stmt := inClass (topS 53) 8
abbrev s_Reading_pair_numbers : Stmt := inClass (topS 53) 9
abbrev s_numbers_that_say : Stmt := topS 54
abbrev s_begins : Stmt := topS 59
abbrev s_rules : Stmt := topS 60
abbrev s_say : Stmt := topS 61
abbrev s_read : Stmt := topS 62
abbrev s_gaps : Stmt := topS 63
abbrev s_alike : Stmt := topS 64
abbrev s_longest : Stmt := topS 65
abbrev s_in_order : Stmt := topS 66
abbrev s_listed : Stmt := topS 68
abbrev s_told_run : Stmt := topS 69
abbrev s_check_set : Stmt := topS 70
abbrev s_check_number : Stmt := topS 71
abbrev s_answer : Stmt := topS 72
abbrev s_answers : Stmt := topS 73
abbrev N_Row_init : List Str := ["self", "numbers"]
abbrev P_Row_init : List Str := ["self", "numbers"]
abbrev N_Row_has_more : List Str := ["self"]
abbrev P_Row_has_more : List Str := ["self"]
abbrev N_Row_one : List Str := ["self"]
abbrev P_Row_one : List Str := ["self"]
abbrev N_Row_told : List Str := ["self", "count"]
abbrev P_Row_told : List Str := ["self"]
abbrev N_Piece_init : List Str := ["self", "stands", "kind", "letters", "by"]
abbrev P_Piece_init : List Str := ["self", "stands", "kind", "letters", "by"]
abbrev N_Shape_init : List Str := ["self", "q_run", "r_run"]
abbrev P_Shape_init : List Str := ["self", "q_run", "r_run"]
abbrev N_Shape_fits : List Str := ["self", "q", "r"]
abbrev P_Shape_fits : List Str := ["self", "q", "r"]
abbrev N_Shape_add_piece : List Str := ["self", "piece"]
abbrev P_Shape_add_piece : List Str := ["self", "piece"]
abbrev N_Rule_init : List Str := ["self", "base", "divisor", "pieces"]
abbrev P_Rule_init : List Str := ["self", "base", "divisor", "pieces"]
abbrev N_stands_for : List Str := ["piece", "q", "r"]
abbrev P_stands_for : List Str := ["piece", "q", "r"]
abbrev N_q_runs : List Str := ["pieces", "piece"]
abbrev P_q_runs : List Str := ["pieces"]
abbrev N_r_runs : List Str := ["pieces", "piece"]
abbrev P_r_runs : List Str := ["pieces"]
abbrev N_shapes_of : List Str := ["pieces", "shapes", "q_run", "r_run", "shape", "piece"]
abbrev P_shapes_of : List Str := ["pieces"]
abbrev N_rules_up_to : List Str := ["rules", "n", "low", "high", "middle"]
abbrev P_rules_up_to : List Str := ["rules", "n"]
abbrev N_may_be_piece : List Str := ["piece"]
abbrev P_may_be_piece : List Str := ["piece"]
abbrev N_may_say_base : List Str := ["pieces", "piece"]
abbrev P_may_say_base : List Str := ["pieces"]
abbrev N_may_say_parts : List Str := ["pieces", "q_stands", "r_stands", "always_letters", "piece"]
abbrev P_may_say_parts : List Str := ["pieces"]
abbrev N_may_be_rule : List Str := ["base", "divisor", "pieces", "piece"]
abbrev P_may_be_rule : List Str := ["base", "divisor", "pieces"]
abbrev N_told_piece : List Str := ["row", "stands", "kind"]
abbrev P_told_piece : List Str := ["row"]
abbrev N_told_rule : List Str := ["row", "base", "divisor", "pieces", "k"]
abbrev P_told_rule : List Str := ["row"]
abbrev N_told_rules : List Str := ["numbers", "row", "how_many", "rules", "k", "rule", "before"]
abbrev P_told_rules : List Str := ["numbers"]
abbrev N_rule_for : List Str := ["rules", "n", "how_many"]
abbrev P_rule_for : List Str := ["rules", "n"]
abbrev N_shape_for : List Str := ["rule", "q", "r", "shape"]
abbrev P_shape_for : List Str := ["rule", "q", "r"]
abbrev N_say_onto : List Str := ["text", "sets", "by", "n", "rule", "q", "r", "shape", "k", "slot"]
abbrev P_say_onto : List Str := ["text", "sets", "by", "n"]
abbrev N_text_of : List Str := ["sets", "by", "n", "text"]
abbrev P_text_of : List Str := ["sets", "by", "n"]
abbrev N_text_or_none : List Str := ["sets", "by", "n"]
abbrev P_text_or_none : List Str := ["sets", "by", "n"]
abbrev N_those_not_said : List Str := ["sets", "by", "numbers", "n"]
abbrev P_those_not_said : List Str := ["sets", "by", "numbers"]
abbrev N_first_alike : List Str := ["sets", "by", "numbers", "numbers_by_text", "n", "text", "key"]
abbrev P_first_alike : List Str := ["sets", "by", "numbers"]
abbrev N_longest_said : List Str := ["sets", "by", "numbers", "found", "n", "text"]
abbrev P_longest_said : List Str := ["sets", "by", "numbers"]
abbrev N_by_their_texts : List Str := ["sets", "by", "numbers", "said", "not_said", "n", "text", "pair"]
abbrev P_by_their_texts : List Str := ["sets", "by", "numbers"]
abbrev N_Stretch_init : List Str := ["self", "by", "low", "high"]
abbrev P_Stretch_init : List Str := ["self", "by", "low", "high"]
abbrev N_Way_init : List Str := ["self", "fixed", "letters"]
abbrev P_Way_init : List Str := ["self", "fixed", "letters"]
abbrev N_Way_add_slot : List Str := ["self", "weight", "stretch"]
abbrev P_Way_add_slot : List Str := ["self", "weight", "stretch"]
abbrev N_boxes_of : List Str := ["divisor", "low", "high", "q_low", "q_high", "r_low", "r_high", "boxes"]
abbrev P_boxes_of : List Str := ["divisor", "low", "high"]
abbrev N_common_run : List Str := ["one", "other"]
abbrev P_common_run : List Str := ["one", "other"]
abbrev N_Stretches_init : List Str := ["self", "sets"]
abbrev P_Stretches_init : List Str := ["self", "sets"]
abbrev N_Stretches_stretch : List Str := ["self", "by", "low", "high", "key"]
abbrev P_Stretches_stretch : List Str := ["self", "by", "low", "high"]
abbrev N_Stretches_ways_in : List Str := ["self", "stretch", "rules", "first", "ways", "rule", "low", "high"]
abbrev P_Stretches_ways_in : List Str := ["self", "stretch"]
abbrev N_Stretches_rule_ways : List Str := ["self", "by", "rule", "low", "high", "key"]
abbrev P_Stretches_rule_ways : List Str := ["self", "by", "rule", "low", "high"]
abbrev N_Stretches_part_ways : List Str := ["self", "rule", "low", "high", "ways", "box", "shape", "q_run", "r_run"]
abbrev P_Stretches_part_ways : List Str := ["self", "rule", "low", "high"]
abbrev N_Stretches_shape_way : List Str := ["self", "rule", "shape", "q_run", "r_run", "slot", "says_q", "way"]
abbrev P_Stretches_shape_way : List Str := ["self", "rule", "shape", "q_run", "r_run"]
abbrev N_places_of : List Str := ["mask", "places", "others"]
abbrev P_places_of : List Str := ["mask"]
abbrev N_has_place : List Str := ["mask", "place"]
abbrev P_has_place : List Str := ["mask", "place"]
abbrev N_Reading_init : List Str := ["self", "sets", "text", "place", "byte"]
abbrev P_Reading_init : List Str := ["self", "sets", "text"]
abbrev N_Reading_mask_of : List Str := ["self", "letters", "mask", "k", "byte"]
abbrev P_Reading_mask_of : List Str := ["self", "letters"]
abbrev N_Reading_ways_of : List Str := ["self", "stretch", "way", "letters", "mask"]
abbrev P_Reading_ways_of : List Str := ["self", "stretch"]
abbrev N_Reading_ends_of : List Str := ["self", "stretch", "starts", "ends", "known", "start"]
abbrev P_Reading_ends_of : List Str := ["self", "stretch", "starts"]
abbrev N_Reading_ends_from : List Str := ["self", "stretch", "start", "ends", "way"]
abbrev P_Reading_ends_from : List Str := ["self", "stretch", "start"]
abbrev N_Reading_way_ends : List Str := ["self", "way", "start", "ends", "k", "stretch"]
abbrev P_Reading_way_ends : List Str := ["self", "way", "start"]
abbrev N_Reading_can_be : List Str := ["self", "stretch", "start", "end"]
abbrev P_Reading_can_be : List Str := ["self", "stretch", "start", "end"]
abbrev N_Reading_numbers_of : List Str := ["self", "stretch", "start", "end", "key", "numbers", "way"]
abbrev P_Reading_numbers_of : List Str := ["self", "stretch", "start", "end"]
abbrev N_Reading_way_numbers : List Str := ["self", "way", "start", "end", "first", "last", "weight", "numbers", "middle", "after", "part"]
abbrev P_Reading_way_numbers : List Str := ["self", "way", "start", "end"]
abbrev N_Reading_pair_numbers : List Str := ["self", "way", "one", "other", "parts", "part", "others", "numbers", "ahead", "more"]
abbrev P_Reading_pair_numbers : List Str := ["self", "way", "one", "other"]
abbrev N_numbers_that_say : List Str := ["sets", "by", "most", "text", "reading", "stretch"]
abbrev P_numbers_that_say : List Str := ["sets", "by", "most", "text"]
abbrev N_begins : List Str := ["sets", "row", "k"]
abbrev P_begins : List Str := ["sets", "row"]
abbrev N_rules : List Str := ["sets", "row", "by", "told"]
abbrev P_rules : List Str := ["sets", "row"]
abbrev N_say : List Str := ["sets", "row", "by", "n", "text"]
abbrev P_say : List Str := ["sets", "row"]
abbrev N_read : List Str := ["sets", "row", "by", "most", "text"]
abbrev P_read : List Str := ["sets", "row"]
abbrev N_gaps : List Str := ["sets", "row", "by", "numbers"]
abbrev P_gaps : List Str := ["sets", "row"]
abbrev N_alike : List Str := ["sets", "row", "by", "numbers", "found"]
abbrev P_alike : List Str := ["sets", "row"]
abbrev N_longest : List Str := ["sets", "row", "by", "numbers", "found"]
abbrev P_longest : List Str := ["sets", "row"]
abbrev N_in_order : List Str := ["sets", "row", "by", "numbers", "n"]
abbrev P_in_order : List Str := ["sets", "row"]
abbrev N_listed : List Str := ["numbers"]
abbrev P_listed : List Str := ["numbers"]
abbrev N_told_run : List Str := ["row", "a", "b"]
abbrev P_told_run : List Str := ["row"]
abbrev N_check_set : List Str := ["by"]
abbrev P_check_set : List Str := ["by"]
abbrev N_check_number : List Str := ["n"]
abbrev P_check_number : List Str := ["n"]
abbrev N_answer : List Str := ["sets", "row", "call"]
abbrev P_answer : List Str := ["sets", "row"]
abbrev N_answers : List Str := ["calls", "row", "sets", "answered", "numbers", "k"]
abbrev P_answers : List Str := ["calls"]
/-- where the top has put what it makes -/
structure Ad where
  C_Row : Addr
  C_Piece : Addr
  C_Shape : Addr
  C_Rule : Addr
  C_Stretch : Addr
  C_Way : Addr
  C_Stretches : Addr
  C_Reading : Addr
  C_NotAsTold : Addr
  C_NotSaid : Addr
  f_Row_init : Addr
  d_Row_init : FuncData
  f_Row_has_more : Addr
  d_Row_has_more : FuncData
  f_Row_one : Addr
  d_Row_one : FuncData
  f_Row_told : Addr
  d_Row_told : FuncData
  f_Piece_init : Addr
  d_Piece_init : FuncData
  f_Shape_init : Addr
  d_Shape_init : FuncData
  f_Shape_fits : Addr
  d_Shape_fits : FuncData
  f_Shape_add_piece : Addr
  d_Shape_add_piece : FuncData
  f_Rule_init : Addr
  d_Rule_init : FuncData
  f_stands_for : Addr
  d_stands_for : FuncData
  f_q_runs : Addr
  d_q_runs : FuncData
  f_r_runs : Addr
  d_r_runs : FuncData
  f_shapes_of : Addr
  d_shapes_of : FuncData
  f_rules_up_to : Addr
  d_rules_up_to : FuncData
  f_may_be_piece : Addr
  d_may_be_piece : FuncData
  f_may_say_base : Addr
  d_may_say_base : FuncData
  f_may_say_parts : Addr
  d_may_say_parts : FuncData
  f_may_be_rule : Addr
  d_may_be_rule : FuncData
  f_told_piece : Addr
  d_told_piece : FuncData
  f_told_rule : Addr
  d_told_rule : FuncData
  f_told_rules : Addr
  d_told_rules : FuncData
  f_rule_for : Addr
  d_rule_for : FuncData
  f_shape_for : Addr
  d_shape_for : FuncData
  f_say_onto : Addr
  d_say_onto : FuncData
  f_text_of : Addr
  d_text_of : FuncData
  f_text_or_none : Addr
  d_text_or_none : FuncData
  f_those_not_said : Addr
  d_those_not_said : FuncData
  f_first_alike : Addr
  d_first_alike : FuncData
  f_longest_said : Addr
  d_longest_said : FuncData
  f_by_their_texts : Addr
  d_by_their_texts : FuncData
  f_Stretch_init : Addr
  d_Stretch_init : FuncData
  f_Way_init : Addr
  d_Way_init : FuncData
  f_Way_add_slot : Addr
  d_Way_add_slot : FuncData
  f_boxes_of : Addr
  d_boxes_of : FuncData
  f_common_run : Addr
  d_common_run : FuncData
  f_Stretches_init : Addr
  d_Stretches_init : FuncData
  f_Stretches_stretch : Addr
  d_Stretches_stretch : FuncData
  f_Stretches_ways_in : Addr
  d_Stretches_ways_in : FuncData
  f_Stretches_rule_ways : Addr
  d_Stretches_rule_ways : FuncData
  f_Stretches_part_ways : Addr
  d_Stretches_part_ways : FuncData
  f_Stretches_shape_way : Addr
  d_Stretches_shape_way : FuncData
  f_places_of : Addr
  d_places_of : FuncData
  f_has_place : Addr
  d_has_place : FuncData
  f_Reading_init : Addr
  d_Reading_init : FuncData
  f_Reading_mask_of : Addr
  d_Reading_mask_of : FuncData
  f_Reading_ways_of : Addr
  d_Reading_ways_of : FuncData
  f_Reading_ends_of : Addr
  d_Reading_ends_of : FuncData
  f_Reading_ends_from : Addr
  d_Reading_ends_from : FuncData
  f_Reading_way_ends : Addr
  d_Reading_way_ends : FuncData
  f_Reading_can_be : Addr
  d_Reading_can_be : FuncData
  f_Reading_numbers_of : Addr
  d_Reading_numbers_of : FuncData
  f_Reading_way_numbers : Addr
  d_Reading_way_numbers : FuncData
  f_Reading_pair_numbers : Addr
  d_Reading_pair_numbers : FuncData
  f_numbers_that_say : Addr
  d_numbers_that_say : FuncData
  f_begins : Addr
  d_begins : FuncData
  f_rules : Addr
  d_rules : FuncData
  f_say : Addr
  d_say : FuncData
  f_read : Addr
  d_read : FuncData
  f_gaps : Addr
  d_gaps : FuncData
  f_alike : Addr
  d_alike : FuncData
  f_longest : Addr
  d_longest : FuncData
  f_in_order : Addr
  d_in_order : FuncData
  f_listed : Addr
  d_listed : FuncData
  f_told_run : Addr
  d_told_run : FuncData
  f_check_set : Addr
  d_check_set : FuncData
  f_check_number : Addr
  d_check_number : FuncData
  f_answer : Addr
  d_answer : FuncData
  f_answers : Addr
  d_answers : FuncData
  CALLS : Addr
structure Top (K : PySem.W.Frag) (mg : Str → Option Value) (A : Ad) : Prop where
  c_Row : Cls K A.C_Row
  g_Row : mg "Row" = some (.ref A.C_Row)
  m_Row : Mk K A.C_Row A.f_Row_init
  n_Row_numbers : NoAttr K A.C_Row "numbers"
  n_Row_place : NoAttr K A.C_Row "place"
  c_Piece : Cls K A.C_Piece
  g_Piece : mg "Piece" = some (.ref A.C_Piece)
  m_Piece : Mk K A.C_Piece A.f_Piece_init
  n_Piece_stands : NoAttr K A.C_Piece "stands"
  n_Piece_kind : NoAttr K A.C_Piece "kind"
  n_Piece_letters : NoAttr K A.C_Piece "letters"
  n_Piece_by : NoAttr K A.C_Piece "by"
  c_Shape : Cls K A.C_Shape
  g_Shape : mg "Shape" = some (.ref A.C_Shape)
  m_Shape : Mk K A.C_Shape A.f_Shape_init
  n_Shape_q_run : NoAttr K A.C_Shape "q_run"
  n_Shape_r_run : NoAttr K A.C_Shape "r_run"
  n_Shape_letters : NoAttr K A.C_Shape "letters"
  n_Shape_slots : NoAttr K A.C_Shape "slots"
  c_Rule : Cls K A.C_Rule
  g_Rule : mg "Rule" = some (.ref A.C_Rule)
  m_Rule : Mk K A.C_Rule A.f_Rule_init
  n_Rule_base : NoAttr K A.C_Rule "base"
  n_Rule_last : NoAttr K A.C_Rule "last"
  n_Rule_divisor : NoAttr K A.C_Rule "divisor"
  n_Rule_shapes : NoAttr K A.C_Rule "shapes"
  c_Stretch : Cls K A.C_Stretch
  g_Stretch : mg "Stretch" = some (.ref A.C_Stretch)
  m_Stretch : Mk K A.C_Stretch A.f_Stretch_init
  n_Stretch_by : NoAttr K A.C_Stretch "by"
  n_Stretch_low : NoAttr K A.C_Stretch "low"
  n_Stretch_high : NoAttr K A.C_Stretch "high"
  n_Stretch_ways : NoAttr K A.C_Stretch "ways"
  n_Stretch_known_ends : NoAttr K A.C_Stretch "known_ends"
  n_Stretch_known_numbers : NoAttr K A.C_Stretch "known_numbers"
  c_Way : Cls K A.C_Way
  g_Way : mg "Way" = some (.ref A.C_Way)
  m_Way : Mk K A.C_Way A.f_Way_init
  n_Way_fixed : NoAttr K A.C_Way "fixed"
  n_Way_letters : NoAttr K A.C_Way "letters"
  n_Way_weights : NoAttr K A.C_Way "weights"
  n_Way_stretches : NoAttr K A.C_Way "stretches"
  n_Way_masks : NoAttr K A.C_Way "masks"
  n_Way_known_ends : NoAttr K A.C_Way "known_ends"
  c_Stretches : Cls K A.C_Stretches
  g_Stretches : mg "Stretches" = some (.ref A.C_Stretches)
  m_Stretches : Mk K A.C_Stretches A.f_Stretches_init
  n_Stretches_sets : NoAttr K A.C_Stretches "sets"
  n_Stretches_made_stretches : NoAttr K A.C_Stretches "made_stretches"
  n_Stretches_made_ways : NoAttr K A.C_Stretches "made_ways"
  c_Reading : Cls K A.C_Reading
  g_Reading : mg "Reading" = some (.ref A.C_Reading)
  m_Reading : Mk K A.C_Reading A.f_Reading_init
  n_Reading_made : NoAttr K A.C_Reading "made"
  n_Reading_size : NoAttr K A.C_Reading "size"
  n_Reading_byte_masks : NoAttr K A.C_Reading "byte_masks"
  g_NotAsTold : mg "NotAsTold" = some (.ref A.C_NotAsTold)
  x_NotAsTold : PySem.W.excIn K A.C_NotAsTold [.type "Exception", .type "BaseException", .type "object"] "Exception.__new__" = true
  kp_NotAsTold : PySem.W.keepIn K (.ref A.C_NotAsTold) = true
  b_NotAsTold : PySem.W.subIn K (.ref A.C_NotAsTold) (.type "BaseException") = some true
  t_NotAsTold : PySem.W.typeIn K (.ref A.C_NotAsTold) = some (.type "type")
  e_NotAsTold_NotAsTold : PySem.W.exmOne K (.ref A.C_NotAsTold) (.ref A.C_NotAsTold) = some true
  e_NotAsTold_NotSaid : PySem.W.exmOne K (.ref A.C_NotAsTold) (.ref A.C_NotSaid) = some false
  g_NotSaid : mg "NotSaid" = some (.ref A.C_NotSaid)
  x_NotSaid : PySem.W.excIn K A.C_NotSaid [.type "Exception", .type "BaseException", .type "object"] "Exception.__new__" = true
  kp_NotSaid : PySem.W.keepIn K (.ref A.C_NotSaid) = true
  b_NotSaid : PySem.W.subIn K (.ref A.C_NotSaid) (.type "BaseException") = some true
  t_NotSaid : PySem.W.typeIn K (.ref A.C_NotSaid) = some (.type "type")
  e_NotSaid_NotAsTold : PySem.W.exmOne K (.ref A.C_NotSaid) (.ref A.C_NotAsTold) = some false
  e_NotSaid_NotSaid : PySem.W.exmOne K (.ref A.C_NotSaid) (.ref A.C_NotSaid) = some true
  F_Row_init : Fun K "__init__" "Row.__init__" s_Row_init A.f_Row_init A.d_Row_init
  F_Row_has_more : Fun K "has_more" "Row.has_more" s_Row_has_more A.f_Row_has_more A.d_Row_has_more
  M_Row_has_more : Meth K A.C_Row "has_more" A.f_Row_has_more
  F_Row_one : Fun K "one" "Row.one" s_Row_one A.f_Row_one A.d_Row_one
  M_Row_one : Meth K A.C_Row "one" A.f_Row_one
  F_Row_told : Fun K "told" "Row.told" s_Row_told A.f_Row_told A.d_Row_told
  M_Row_told : Meth K A.C_Row "told" A.f_Row_told
  F_Piece_init : Fun K "__init__" "Piece.__init__" s_Piece_init A.f_Piece_init A.d_Piece_init
  F_Shape_init : Fun K "__init__" "Shape.__init__" s_Shape_init A.f_Shape_init A.d_Shape_init
  F_Shape_fits : Fun K "fits" "Shape.fits" s_Shape_fits A.f_Shape_fits A.d_Shape_fits
  M_Shape_fits : Meth K A.C_Shape "fits" A.f_Shape_fits
  F_Shape_add_piece : Fun K "add_piece" "Shape.add_piece" s_Shape_add_piece A.f_Shape_add_piece A.d_Shape_add_piece
  M_Shape_add_piece : Meth K A.C_Shape "add_piece" A.f_Shape_add_piece
  F_Rule_init : Fun K "__init__" "Rule.__init__" s_Rule_init A.f_Rule_init A.d_Rule_init
  F_stands_for : Fun K "stands_for" "stands_for" s_stands_for A.f_stands_for A.d_stands_for
  g_stands_for : mg "stands_for" = some (.ref A.f_stands_for)
  F_q_runs : Fun K "q_runs" "q_runs" s_q_runs A.f_q_runs A.d_q_runs
  g_q_runs : mg "q_runs" = some (.ref A.f_q_runs)
  F_r_runs : Fun K "r_runs" "r_runs" s_r_runs A.f_r_runs A.d_r_runs
  g_r_runs : mg "r_runs" = some (.ref A.f_r_runs)
  F_shapes_of : Fun K "shapes_of" "shapes_of" s_shapes_of A.f_shapes_of A.d_shapes_of
  g_shapes_of : mg "shapes_of" = some (.ref A.f_shapes_of)
  F_rules_up_to : Fun K "rules_up_to" "rules_up_to" s_rules_up_to A.f_rules_up_to A.d_rules_up_to
  g_rules_up_to : mg "rules_up_to" = some (.ref A.f_rules_up_to)
  F_may_be_piece : Fun K "may_be_piece" "may_be_piece" s_may_be_piece A.f_may_be_piece A.d_may_be_piece
  g_may_be_piece : mg "may_be_piece" = some (.ref A.f_may_be_piece)
  F_may_say_base : Fun K "may_say_base" "may_say_base" s_may_say_base A.f_may_say_base A.d_may_say_base
  g_may_say_base : mg "may_say_base" = some (.ref A.f_may_say_base)
  F_may_say_parts : Fun K "may_say_parts" "may_say_parts" s_may_say_parts A.f_may_say_parts A.d_may_say_parts
  g_may_say_parts : mg "may_say_parts" = some (.ref A.f_may_say_parts)
  F_may_be_rule : Fun K "may_be_rule" "may_be_rule" s_may_be_rule A.f_may_be_rule A.d_may_be_rule
  g_may_be_rule : mg "may_be_rule" = some (.ref A.f_may_be_rule)
  F_told_piece : Fun K "told_piece" "told_piece" s_told_piece A.f_told_piece A.d_told_piece
  g_told_piece : mg "told_piece" = some (.ref A.f_told_piece)
  F_told_rule : Fun K "told_rule" "told_rule" s_told_rule A.f_told_rule A.d_told_rule
  g_told_rule : mg "told_rule" = some (.ref A.f_told_rule)
  F_told_rules : Fun K "told_rules" "told_rules" s_told_rules A.f_told_rules A.d_told_rules
  g_told_rules : mg "told_rules" = some (.ref A.f_told_rules)
  F_rule_for : Fun K "rule_for" "rule_for" s_rule_for A.f_rule_for A.d_rule_for
  g_rule_for : mg "rule_for" = some (.ref A.f_rule_for)
  F_shape_for : Fun K "shape_for" "shape_for" s_shape_for A.f_shape_for A.d_shape_for
  g_shape_for : mg "shape_for" = some (.ref A.f_shape_for)
  F_say_onto : Fun K "say_onto" "say_onto" s_say_onto A.f_say_onto A.d_say_onto
  g_say_onto : mg "say_onto" = some (.ref A.f_say_onto)
  F_text_of : Fun K "text_of" "text_of" s_text_of A.f_text_of A.d_text_of
  g_text_of : mg "text_of" = some (.ref A.f_text_of)
  F_text_or_none : Fun K "text_or_none" "text_or_none" s_text_or_none A.f_text_or_none A.d_text_or_none
  g_text_or_none : mg "text_or_none" = some (.ref A.f_text_or_none)
  F_those_not_said : Fun K "those_not_said" "those_not_said" s_those_not_said A.f_those_not_said A.d_those_not_said
  g_those_not_said : mg "those_not_said" = some (.ref A.f_those_not_said)
  F_first_alike : Fun K "first_alike" "first_alike" s_first_alike A.f_first_alike A.d_first_alike
  g_first_alike : mg "first_alike" = some (.ref A.f_first_alike)
  F_longest_said : Fun K "longest_said" "longest_said" s_longest_said A.f_longest_said A.d_longest_said
  g_longest_said : mg "longest_said" = some (.ref A.f_longest_said)
  F_by_their_texts : Fun K "by_their_texts" "by_their_texts" s_by_their_texts A.f_by_their_texts A.d_by_their_texts
  g_by_their_texts : mg "by_their_texts" = some (.ref A.f_by_their_texts)
  F_Stretch_init : Fun K "__init__" "Stretch.__init__" s_Stretch_init A.f_Stretch_init A.d_Stretch_init
  F_Way_init : Fun K "__init__" "Way.__init__" s_Way_init A.f_Way_init A.d_Way_init
  F_Way_add_slot : Fun K "add_slot" "Way.add_slot" s_Way_add_slot A.f_Way_add_slot A.d_Way_add_slot
  M_Way_add_slot : Meth K A.C_Way "add_slot" A.f_Way_add_slot
  F_boxes_of : Fun K "boxes_of" "boxes_of" s_boxes_of A.f_boxes_of A.d_boxes_of
  g_boxes_of : mg "boxes_of" = some (.ref A.f_boxes_of)
  F_common_run : Fun K "common_run" "common_run" s_common_run A.f_common_run A.d_common_run
  g_common_run : mg "common_run" = some (.ref A.f_common_run)
  F_Stretches_init : Fun K "__init__" "Stretches.__init__" s_Stretches_init A.f_Stretches_init A.d_Stretches_init
  F_Stretches_stretch : Fun K "stretch" "Stretches.stretch" s_Stretches_stretch A.f_Stretches_stretch A.d_Stretches_stretch
  M_Stretches_stretch : Meth K A.C_Stretches "stretch" A.f_Stretches_stretch
  F_Stretches_ways_in : Fun K "ways_in" "Stretches.ways_in" s_Stretches_ways_in A.f_Stretches_ways_in A.d_Stretches_ways_in
  M_Stretches_ways_in : Meth K A.C_Stretches "ways_in" A.f_Stretches_ways_in
  F_Stretches_rule_ways : Fun K "rule_ways" "Stretches.rule_ways" s_Stretches_rule_ways A.f_Stretches_rule_ways A.d_Stretches_rule_ways
  M_Stretches_rule_ways : Meth K A.C_Stretches "rule_ways" A.f_Stretches_rule_ways
  F_Stretches_part_ways : Fun K "part_ways" "Stretches.part_ways" s_Stretches_part_ways A.f_Stretches_part_ways A.d_Stretches_part_ways
  M_Stretches_part_ways : Meth K A.C_Stretches "part_ways" A.f_Stretches_part_ways
  F_Stretches_shape_way : Fun K "shape_way" "Stretches.shape_way" s_Stretches_shape_way A.f_Stretches_shape_way A.d_Stretches_shape_way
  M_Stretches_shape_way : Meth K A.C_Stretches "shape_way" A.f_Stretches_shape_way
  F_places_of : Fun K "places_of" "places_of" s_places_of A.f_places_of A.d_places_of
  g_places_of : mg "places_of" = some (.ref A.f_places_of)
  F_has_place : Fun K "has_place" "has_place" s_has_place A.f_has_place A.d_has_place
  g_has_place : mg "has_place" = some (.ref A.f_has_place)
  F_Reading_init : Fun K "__init__" "Reading.__init__" s_Reading_init A.f_Reading_init A.d_Reading_init
  F_Reading_mask_of : Fun K "mask_of" "Reading.mask_of" s_Reading_mask_of A.f_Reading_mask_of A.d_Reading_mask_of
  M_Reading_mask_of : Meth K A.C_Reading "mask_of" A.f_Reading_mask_of
  F_Reading_ways_of : Fun K "ways_of" "Reading.ways_of" s_Reading_ways_of A.f_Reading_ways_of A.d_Reading_ways_of
  M_Reading_ways_of : Meth K A.C_Reading "ways_of" A.f_Reading_ways_of
  F_Reading_ends_of : Fun K "ends_of" "Reading.ends_of" s_Reading_ends_of A.f_Reading_ends_of A.d_Reading_ends_of
  M_Reading_ends_of : Meth K A.C_Reading "ends_of" A.f_Reading_ends_of
  F_Reading_ends_from : Fun K "ends_from" "Reading.ends_from" s_Reading_ends_from A.f_Reading_ends_from A.d_Reading_ends_from
  M_Reading_ends_from : Meth K A.C_Reading "ends_from" A.f_Reading_ends_from
  F_Reading_way_ends : Fun K "way_ends" "Reading.way_ends" s_Reading_way_ends A.f_Reading_way_ends A.d_Reading_way_ends
  M_Reading_way_ends : Meth K A.C_Reading "way_ends" A.f_Reading_way_ends
  F_Reading_can_be : Fun K "can_be" "Reading.can_be" s_Reading_can_be A.f_Reading_can_be A.d_Reading_can_be
  M_Reading_can_be : Meth K A.C_Reading "can_be" A.f_Reading_can_be
  F_Reading_numbers_of : Fun K "numbers_of" "Reading.numbers_of" s_Reading_numbers_of A.f_Reading_numbers_of A.d_Reading_numbers_of
  M_Reading_numbers_of : Meth K A.C_Reading "numbers_of" A.f_Reading_numbers_of
  F_Reading_way_numbers : Fun K "way_numbers" "Reading.way_numbers" s_Reading_way_numbers A.f_Reading_way_numbers A.d_Reading_way_numbers
  M_Reading_way_numbers : Meth K A.C_Reading "way_numbers" A.f_Reading_way_numbers
  F_Reading_pair_numbers : Fun K "pair_numbers" "Reading.pair_numbers" s_Reading_pair_numbers A.f_Reading_pair_numbers A.d_Reading_pair_numbers
  M_Reading_pair_numbers : Meth K A.C_Reading "pair_numbers" A.f_Reading_pair_numbers
  F_numbers_that_say : Fun K "numbers_that_say" "numbers_that_say" s_numbers_that_say A.f_numbers_that_say A.d_numbers_that_say
  g_numbers_that_say : mg "numbers_that_say" = some (.ref A.f_numbers_that_say)
  F_begins : Fun K "begins" "begins" s_begins A.f_begins A.d_begins
  g_begins : mg "begins" = some (.ref A.f_begins)
  F_rules : Fun K "rules" "rules" s_rules A.f_rules A.d_rules
  g_rules : mg "rules" = some (.ref A.f_rules)
  F_say : Fun K "say" "say" s_say A.f_say A.d_say
  g_say : mg "say" = some (.ref A.f_say)
  F_read : Fun K "read" "read" s_read A.f_read A.d_read
  g_read : mg "read" = some (.ref A.f_read)
  F_gaps : Fun K "gaps" "gaps" s_gaps A.f_gaps A.d_gaps
  g_gaps : mg "gaps" = some (.ref A.f_gaps)
  F_alike : Fun K "alike" "alike" s_alike A.f_alike A.d_alike
  g_alike : mg "alike" = some (.ref A.f_alike)
  F_longest : Fun K "longest" "longest" s_longest A.f_longest A.d_longest
  g_longest : mg "longest" = some (.ref A.f_longest)
  F_in_order : Fun K "in_order" "in_order" s_in_order A.f_in_order A.d_in_order
  g_in_order : mg "in_order" = some (.ref A.f_in_order)
  F_listed : Fun K "listed" "listed" s_listed A.f_listed A.d_listed
  g_listed : mg "listed" = some (.ref A.f_listed)
  F_told_run : Fun K "told_run" "told_run" s_told_run A.f_told_run A.d_told_run
  g_told_run : mg "told_run" = some (.ref A.f_told_run)
  F_check_set : Fun K "check_set" "check_set" s_check_set A.f_check_set A.d_check_set
  g_check_set : mg "check_set" = some (.ref A.f_check_set)
  F_check_number : Fun K "check_number" "check_number" s_check_number A.f_check_number A.d_check_number
  g_check_number : mg "check_number" = some (.ref A.f_check_number)
  F_answer : Fun K "answer" "answer" s_answer A.f_answer A.d_answer
  g_answer : mg "answer" = some (.ref A.f_answer)
  F_answers : Fun K "answers" "answers" s_answers A.f_answers A.d_answers
  g_answers : mg "answers" = some (.ref A.f_answers)
  k_HIGHEST : ∃ t, mg "HIGHEST" = some (.int 1000000000000000 t)
  k_HOW_MANY_SETS : ∃ t, mg "HOW_MANY_SETS" = some (.int 8 t)
  k_MOST_RULES : ∃ t, mg "MOST_RULES" = some (.int 60 t)
  k_MOST_PIECES : ∃ t, mg "MOST_PIECES" = some (.int 8 t)
  k_MOST_BYTES : ∃ t, mg "MOST_BYTES" = some (.int 40 t)
  k_ALWAYS : ∃ t, mg "ALWAYS" = some (.int 0 t)
  k_IF_R : ∃ t, mg "IF_R" = some (.int 1 t)
  k_IF_NO_R : ∃ t, mg "IF_NO_R" = some (.int 2 t)
  k_IF_NOT_ONE : ∃ t, mg "IF_NOT_ONE" = some (.int 3 t)
  k_IF_ONE : ∃ t, mg "IF_ONE" = some (.int 4 t)
  k_LETTERS : ∃ t, mg "LETTERS" = some (.int 0 t)
  k_Q : ∃ t, mg "Q" = some (.int 1 t)
  k_R : ∃ t, mg "R" = some (.int 2 t)
  k_MOST_TEXT : ∃ t, mg "MOST_TEXT" = some (.int 300 t)
  k_MOST_APART : ∃ t, mg "MOST_APART" = some (.int 2999 t)
  k_MOST_SORTED : ∃ t, mg "MOST_SORTED" = some (.int 200 t)
  n_len : mg "len" = none
  n_any : mg "any" = none
  n_all : mg "all" = none
  n_max : mg "max" = none
  n_min : mg "min" = none
  n_sorted : mg "sorted" = none
  n_tuple : mg "tuple" = none
  n_list : mg "list" = none
  n_range : mg "range" = none
  n_enumerate : mg "enumerate" = none
  g_CALLS : mg "CALLS" = some (.ref A.CALLS)
  q_CALLS : ∀ H : Hp, SqT K H A.CALLS [.ref A.f_begins, .ref A.f_rules, .ref A.f_say, .ref A.f_read, .ref A.f_gaps, .ref A.f_alike, .ref A.f_longest, .ref A.f_in_order]
theorem pe_gi {X : Cx} {x : Str} {n : Int} {pos : Pos} (hg : Gl X x) (h : ∃ t, X.mg x = some (.int n t)) (hd : (x == ("__debug__" : Str)) = false := by decide) : PE X (.Name x pos) (tC (.int n)) :=
  let ⟨t, e⟩ := h
  pe_glob hg e ⟨t, rfl⟩ hd
section
variable {K : PySem.W.Frag} {mg : Str → Option Value} {A : Ad}
theorem sc_Row_init : FnScope N_Row_init P_Row_init (defScope s_Row_init) := ⟨rfl, rfl, rfl, by decide +kernel, rfl, by decide +kernel, by decide +kernel⟩
theorem b_Row_init (T : Top K mg A) : Binds K A.d_Row_init P_Row_init [] := T.F_Row_init.binds fun _ _ _ _ _ _ us hl => match us, hl with | [_, _], _ => rfl
theorem sc_Row_has_more : FnScope N_Row_has_more P_Row_has_more (defScope s_Row_has_more) := ⟨rfl, rfl, rfl, by decide +kernel, rfl, by decide +kernel, by decide +kernel⟩
theorem b_Row_has_more (T : Top K mg A) : Binds K A.d_Row_has_more P_Row_has_more [] := T.F_Row_has_more.binds fun _ _ _ _ _ _ us hl => match us, hl with | [_], _ => rfl
theorem sc_Row_one : FnScope N_Row_one P_Row_one (defScope s_Row_one) := ⟨rfl, rfl, rfl, by decide +kernel, rfl, by decide +kernel, by decide +kernel⟩
theorem b_Row_one (T : Top K mg A) : Binds K A.d_Row_one P_Row_one [] := T.F_Row_one.binds fun _ _ _ _ _ _ us hl => match us, hl with | [_], _ => rfl
theorem sc_Row_told : FnScope N_Row_told P_Row_told (defScope s_Row_told) := ⟨rfl, rfl, rfl, by decide +kernel, rfl, by decide +kernel, by decide +kernel⟩
theorem b_Row_told (T : Top K mg A) : Binds K A.d_Row_told P_Row_told [] := T.F_Row_told.binds fun _ _ _ _ _ _ us hl => match us, hl with | [_], _ => rfl
theorem sc_Piece_init : FnScope N_Piece_init P_Piece_init (defScope s_Piece_init) := ⟨rfl, rfl, rfl, by decide +kernel, rfl, by decide +kernel, by decide +kernel⟩
theorem b_Piece_init (T : Top K mg A) : Binds K A.d_Piece_init P_Piece_init [] := T.F_Piece_init.binds fun _ _ _ _ _ _ us hl => match us, hl with | [_, _, _, _, _], _ => rfl
theorem sc_Shape_init : FnScope N_Shape_init P_Shape_init (defScope s_Shape_init) := ⟨rfl, rfl, rfl, by decide +kernel, rfl, by decide +kernel, by decide +kernel⟩
theorem b_Shape_init (T : Top K mg A) : Binds K A.d_Shape_init P_Shape_init [] := T.F_Shape_init.binds fun _ _ _ _ _ _ us hl => match us, hl with | [_, _, _], _ => rfl
theorem sc_Shape_fits : FnScope N_Shape_fits P_Shape_fits (defScope s_Shape_fits) := ⟨rfl, rfl, rfl, by decide +kernel, rfl, by decide +kernel, by decide +kernel⟩
theorem b_Shape_fits (T : Top K mg A) : Binds K A.d_Shape_fits P_Shape_fits [] := T.F_Shape_fits.binds fun _ _ _ _ _ _ us hl => match us, hl with | [_, _, _], _ => rfl
theorem sc_Shape_add_piece : FnScope N_Shape_add_piece P_Shape_add_piece (defScope s_Shape_add_piece) := ⟨rfl, rfl, rfl, by decide +kernel, rfl, by decide +kernel, by decide +kernel⟩
theorem b_Shape_add_piece (T : Top K mg A) : Binds K A.d_Shape_add_piece P_Shape_add_piece [] := T.F_Shape_add_piece.binds fun _ _ _ _ _ _ us hl => match us, hl with | [_, _], _ => rfl
theorem sc_Rule_init : FnScope N_Rule_init P_Rule_init (defScope s_Rule_init) := ⟨rfl, rfl, rfl, by decide +kernel, rfl, by decide +kernel, by decide +kernel⟩
theorem b_Rule_init (T : Top K mg A) : Binds K A.d_Rule_init P_Rule_init [] := T.F_Rule_init.binds fun _ _ _ _ _ _ us hl => match us, hl with | [_, _, _, _], _ => rfl
theorem sc_stands_for : FnScope N_stands_for P_stands_for (defScope s_stands_for) := ⟨rfl, rfl, rfl, by decide +kernel, rfl, by decide +kernel, by decide +kernel⟩
theorem b_stands_for (T : Top K mg A) : Binds K A.d_stands_for P_stands_for [] := T.F_stands_for.binds fun _ _ _ _ _ _ us hl => match us, hl with | [_, _, _], _ => rfl
theorem sc_q_runs : FnScope N_q_runs P_q_runs (defScope s_q_runs) := ⟨rfl, rfl, rfl, by decide +kernel, rfl, by decide +kernel, by decide +kernel⟩
theorem b_q_runs (T : Top K mg A) : Binds K A.d_q_runs P_q_runs [] := T.F_q_runs.binds fun _ _ _ _ _ _ us hl => match us, hl with | [_], _ => rfl
theorem sc_r_runs : FnScope N_r_runs P_r_runs (defScope s_r_runs) := ⟨rfl, rfl, rfl, by decide +kernel, rfl, by decide +kernel, by decide +kernel⟩
theorem b_r_runs (T : Top K mg A) : Binds K A.d_r_runs P_r_runs [] := T.F_r_runs.binds fun _ _ _ _ _ _ us hl => match us, hl with | [_], _ => rfl
theorem sc_shapes_of : FnScope N_shapes_of P_shapes_of (defScope s_shapes_of) := ⟨rfl, rfl, rfl, by decide +kernel, rfl, by decide +kernel, by decide +kernel⟩
theorem b_shapes_of (T : Top K mg A) : Binds K A.d_shapes_of P_shapes_of [] := T.F_shapes_of.binds fun _ _ _ _ _ _ us hl => match us, hl with | [_], _ => rfl
theorem sc_rules_up_to : FnScope N_rules_up_to P_rules_up_to (defScope s_rules_up_to) := ⟨rfl, rfl, rfl, by decide +kernel, rfl, by decide +kernel, by decide +kernel⟩
theorem b_rules_up_to (T : Top K mg A) : Binds K A.d_rules_up_to P_rules_up_to [] := T.F_rules_up_to.binds fun _ _ _ _ _ _ us hl => match us, hl with | [_, _], _ => rfl
theorem sc_may_be_piece : FnScope N_may_be_piece P_may_be_piece (defScope s_may_be_piece) := ⟨rfl, rfl, rfl, by decide +kernel, rfl, by decide +kernel, by decide +kernel⟩
theorem b_may_be_piece (T : Top K mg A) : Binds K A.d_may_be_piece P_may_be_piece [] := T.F_may_be_piece.binds fun _ _ _ _ _ _ us hl => match us, hl with | [_], _ => rfl
theorem sc_may_say_base : FnScope N_may_say_base P_may_say_base (defScope s_may_say_base) := ⟨rfl, rfl, rfl, by decide +kernel, rfl, by decide +kernel, by decide +kernel⟩
theorem b_may_say_base (T : Top K mg A) : Binds K A.d_may_say_base P_may_say_base [] := T.F_may_say_base.binds fun _ _ _ _ _ _ us hl => match us, hl with | [_], _ => rfl
theorem sc_may_say_parts : FnScope N_may_say_parts P_may_say_parts (defScope s_may_say_parts) := ⟨rfl, rfl, rfl, by decide +kernel, rfl, by decide +kernel, by decide +kernel⟩
theorem b_may_say_parts (T : Top K mg A) : Binds K A.d_may_say_parts P_may_say_parts [] := T.F_may_say_parts.binds fun _ _ _ _ _ _ us hl => match us, hl with | [_], _ => rfl
theorem sc_may_be_rule : FnScope N_may_be_rule P_may_be_rule (defScope s_may_be_rule) := ⟨rfl, rfl, rfl, by decide +kernel, rfl, by decide +kernel, by decide +kernel⟩
theorem b_may_be_rule (T : Top K mg A) : Binds K A.d_may_be_rule P_may_be_rule [] := T.F_may_be_rule.binds fun _ _ _ _ _ _ us hl => match us, hl with | [_, _, _], _ => rfl
theorem sc_told_piece : FnScope N_told_piece P_told_piece (defScope s_told_piece) := ⟨rfl, rfl, rfl, by decide +kernel, rfl, by decide +kernel, by decide +kernel⟩
theorem b_told_piece (T : Top K mg A) : Binds K A.d_told_piece P_told_piece [] := T.F_told_piece.binds fun _ _ _ _ _ _ us hl => match us, hl with | [_], _ => rfl
theorem sc_told_rule : FnScope N_told_rule P_told_rule (defScope s_told_rule) := ⟨rfl, rfl, rfl, by decide +kernel, rfl, by decide +kernel, by decide +kernel⟩
theorem b_told_rule (T : Top K mg A) : Binds K A.d_told_rule P_told_rule [] := T.F_told_rule.binds fun _ _ _ _ _ _ us hl => match us, hl with | [_], _ => rfl
theorem sc_told_rules : FnScope N_told_rules P_told_rules (defScope s_told_rules) := ⟨rfl, rfl, rfl, by decide +kernel, rfl, by decide +kernel, by decide +kernel⟩
theorem b_told_rules (T : Top K mg A) : Binds K A.d_told_rules P_told_rules [] := T.F_told_rules.binds fun _ _ _ _ _ _ us hl => match us, hl with | [_], _ => rfl
theorem sc_rule_for : FnScope N_rule_for P_rule_for (defScope s_rule_for) := ⟨rfl, rfl, rfl, by decide +kernel, rfl, by decide +kernel, by decide +kernel⟩
theorem b_rule_for (T : Top K mg A) : Binds K A.d_rule_for P_rule_for [] := T.F_rule_for.binds fun _ _ _ _ _ _ us hl => match us, hl with | [_, _], _ => rfl
theorem sc_shape_for : FnScope N_shape_for P_shape_for (defScope s_shape_for) := ⟨rfl, rfl, rfl, by decide +kernel, rfl, by decide +kernel, by decide +kernel⟩
theorem b_shape_for (T : Top K mg A) : Binds K A.d_shape_for P_shape_for [] := T.F_shape_for.binds fun _ _ _ _ _ _ us hl => match us, hl with | [_, _, _], _ => rfl
theorem sc_say_onto : FnScope N_say_onto P_say_onto (defScope s_say_onto) := ⟨rfl, rfl, rfl, by decide +kernel, rfl, by decide +kernel, by decide +kernel⟩
theorem b_say_onto (T : Top K mg A) : Binds K A.d_say_onto P_say_onto [] := T.F_say_onto.binds fun _ _ _ _ _ _ us hl => match us, hl with | [_, _, _, _], _ => rfl
theorem sc_text_of : FnScope N_text_of P_text_of (defScope s_text_of) := ⟨rfl, rfl, rfl, by decide +kernel, rfl, by decide +kernel, by decide +kernel⟩
theorem b_text_of (T : Top K mg A) : Binds K A.d_text_of P_text_of [] := T.F_text_of.binds fun _ _ _ _ _ _ us hl => match us, hl with | [_, _, _], _ => rfl
theorem sc_text_or_none : FnScope N_text_or_none P_text_or_none (defScope s_text_or_none) := ⟨rfl, rfl, rfl, by decide +kernel, rfl, by decide +kernel, by decide +kernel⟩
theorem b_text_or_none (T : Top K mg A) : Binds K A.d_text_or_none P_text_or_none [] := T.F_text_or_none.binds fun _ _ _ _ _ _ us hl => match us, hl with | [_, _, _], _ => rfl
theorem sc_those_not_said : FnScope N_those_not_said P_those_not_said (defScope s_those_not_said) := ⟨rfl, rfl, rfl, by decide +kernel, rfl, by decide +kernel, by decide +kernel⟩
theorem b_those_not_said (T : Top K mg A) : Binds K A.d_those_not_said P_those_not_said [] := T.F_those_not_said.binds fun _ _ _ _ _ _ us hl => match us, hl with | [_, _, _], _ => rfl
theorem sc_first_alike : FnScope N_first_alike P_first_alike (defScope s_first_alike) := ⟨rfl, rfl, rfl, by decide +kernel, rfl, by decide +kernel, by decide +kernel⟩
theorem b_first_alike (T : Top K mg A) : Binds K A.d_first_alike P_first_alike [] := T.F_first_alike.binds fun _ _ _ _ _ _ us hl => match us, hl with | [_, _, _], _ => rfl
theorem sc_longest_said : FnScope N_longest_said P_longest_said (defScope s_longest_said) := ⟨rfl, rfl, rfl, by decide +kernel, rfl, by decide +kernel, by decide +kernel⟩
theorem b_longest_said (T : Top K mg A) : Binds K A.d_longest_said P_longest_said [] := T.F_longest_said.binds fun _ _ _ _ _ _ us hl => match us, hl with | [_, _, _], _ => rfl
theorem sc_by_their_texts : FnScope N_by_their_texts P_by_their_texts (defScope s_by_their_texts) := ⟨rfl, rfl, rfl, by decide +kernel, rfl, by decide +kernel, by decide +kernel⟩
theorem b_by_their_texts (T : Top K mg A) : Binds K A.d_by_their_texts P_by_their_texts [] := T.F_by_their_texts.binds fun _ _ _ _ _ _ us hl => match us, hl with | [_, _, _], _ => rfl
theorem sc_Stretch_init : FnScope N_Stretch_init P_Stretch_init (defScope s_Stretch_init) := ⟨rfl, rfl, rfl, by decide +kernel, rfl, by decide +kernel, by decide +kernel⟩
theorem b_Stretch_init (T : Top K mg A) : Binds K A.d_Stretch_init P_Stretch_init [] := T.F_Stretch_init.binds fun _ _ _ _ _ _ us hl => match us, hl with | [_, _, _, _], _ => rfl
theorem sc_Way_init : FnScope N_Way_init P_Way_init (defScope s_Way_init) := ⟨rfl, rfl, rfl, by decide +kernel, rfl, by decide +kernel, by decide +kernel⟩
theorem b_Way_init (T : Top K mg A) : Binds K A.d_Way_init P_Way_init [] := T.F_Way_init.binds fun _ _ _ _ _ _ us hl => match us, hl with | [_, _, _], _ => rfl
theorem sc_Way_add_slot : FnScope N_Way_add_slot P_Way_add_slot (defScope s_Way_add_slot) := ⟨rfl, rfl, rfl, by decide +kernel, rfl, by decide +kernel, by decide +kernel⟩
theorem b_Way_add_slot (T : Top K mg A) : Binds K A.d_Way_add_slot P_Way_add_slot [] := T.F_Way_add_slot.binds fun _ _ _ _ _ _ us hl => match us, hl with | [_, _, _], _ => rfl
theorem sc_boxes_of : FnScope N_boxes_of P_boxes_of (defScope s_boxes_of) := ⟨rfl, rfl, rfl, by decide +kernel, rfl, by decide +kernel, by decide +kernel⟩
theorem b_boxes_of (T : Top K mg A) : Binds K A.d_boxes_of P_boxes_of [] := T.F_boxes_of.binds fun _ _ _ _ _ _ us hl => match us, hl with | [_, _, _], _ => rfl
theorem sc_common_run : FnScope N_common_run P_common_run (defScope s_common_run) := ⟨rfl, rfl, rfl, by decide +kernel, rfl, by decide +kernel, by decide +kernel⟩
theorem b_common_run (T : Top K mg A) : Binds K A.d_common_run P_common_run [] := T.F_common_run.binds fun _ _ _ _ _ _ us hl => match us, hl with | [_, _], _ => rfl
theorem sc_Stretches_init : FnScope N_Stretches_init P_Stretches_init (defScope s_Stretches_init) := ⟨rfl, rfl, rfl, by decide +kernel, rfl, by decide +kernel, by decide +kernel⟩
theorem b_Stretches_init (T : Top K mg A) : Binds K A.d_Stretches_init P_Stretches_init [] := T.F_Stretches_init.binds fun _ _ _ _ _ _ us hl => match us, hl with | [_, _], _ => rfl
theorem sc_Stretches_stretch : FnScope N_Stretches_stretch P_Stretches_stretch (defScope s_Stretches_stretch) := ⟨rfl, rfl, rfl, by decide +kernel, rfl, by decide +kernel, by decide +kernel⟩
theorem b_Stretches_stretch (T : Top K mg A) : Binds K A.d_Stretches_stretch P_Stretches_stretch [] := T.F_Stretches_stretch.binds fun _ _ _ _ _ _ us hl => match us, hl with | [_, _, _, _], _ => rfl
theorem sc_Stretches_ways_in : FnScope N_Stretches_ways_in P_Stretches_ways_in (defScope s_Stretches_ways_in) := ⟨rfl, rfl, rfl, by decide +kernel, rfl, by decide +kernel, by decide +kernel⟩
theorem b_Stretches_ways_in (T : Top K mg A) : Binds K A.d_Stretches_ways_in P_Stretches_ways_in [] := T.F_Stretches_ways_in.binds fun _ _ _ _ _ _ us hl => match us, hl with | [_, _], _ => rfl
theorem sc_Stretches_rule_ways : FnScope N_Stretches_rule_ways P_Stretches_rule_ways (defScope s_Stretches_rule_ways) := ⟨rfl, rfl, rfl, by decide +kernel, rfl, by decide +kernel, by decide +kernel⟩
theorem b_Stretches_rule_ways (T : Top K mg A) : Binds K A.d_Stretches_rule_ways P_Stretches_rule_ways [] := T.F_Stretches_rule_ways.binds fun _ _ _ _ _ _ us hl => match us, hl with | [_, _, _, _, _], _ => rfl
theorem sc_Stretches_part_ways : FnScope N_Stretches_part_ways P_Stretches_part_ways (defScope s_Stretches_part_ways) := ⟨rfl, rfl, rfl, by decide +kernel, rfl, by decide +kernel, by decide +kernel⟩
theorem b_Stretches_part_ways (T : Top K mg A) : Binds K A.d_Stretches_part_ways P_Stretches_part_ways [] := T.F_Stretches_part_ways.binds fun _ _ _ _ _ _ us hl => match us, hl with | [_, _, _, _], _ => rfl
theorem sc_Stretches_shape_way : FnScope N_Stretches_shape_way P_Stretches_shape_way (defScope s_Stretches_shape_way) := ⟨rfl, rfl, rfl, by decide +kernel, rfl, by decide +kernel, by decide +kernel⟩
theorem b_Stretches_shape_way (T : Top K mg A) : Binds K A.d_Stretches_shape_way P_Stretches_shape_way [] := T.F_Stretches_shape_way.binds fun _ _ _ _ _ _ us hl => match us, hl with | [_, _, _, _, _], _ => rfl
theorem sc_places_of : FnScope N_places_of P_places_of (defScope s_places_of) := ⟨rfl, rfl, rfl, by decide +kernel, rfl, by decide +kernel, by decide +kernel⟩
theorem b_places_of (T : Top K mg A) : Binds K A.d_places_of P_places_of [] := T.F_places_of.binds fun _ _ _ _ _ _ us hl => match us, hl with | [_], _ => rfl
theorem sc_has_place : FnScope N_has_place P_has_place (defScope s_has_place) := ⟨rfl, rfl, rfl, by decide +kernel, rfl, by decide +kernel, by decide +kernel⟩
theorem b_has_place (T : Top K mg A) : Binds K A.d_has_place P_has_place [] := T.F_has_place.binds fun _ _ _ _ _ _ us hl => match us, hl with | [_, _], _ => rfl
theorem sc_Reading_init : FnScope N_Reading_init P_Reading_init (defScope s_Reading_init) := ⟨rfl, rfl, rfl, by decide +kernel, rfl, by decide +kernel, by decide +kernel⟩
theorem b_Reading_init (T : Top K mg A) : Binds K A.d_Reading_init P_Reading_init [] := T.F_Reading_init.binds fun _ _ _ _ _ _ us hl => match us, hl with | [_, _, _], _ => rfl
theorem sc_Reading_mask_of : FnScope N_Reading_mask_of P_Reading_mask_of (defScope s_Reading_mask_of) := ⟨rfl, rfl, rfl, by decide +kernel, rfl, by decide +kernel, by decide +kernel⟩
theorem b_Reading_mask_of (T : Top K mg A) : Binds K A.d_Reading_mask_of P_Reading_mask_of [] := T.F_Reading_mask_of.binds fun _ _ _ _ _ _ us hl => match us, hl with | [_, _], _ => rfl
theorem sc_Reading_ways_of : FnScope N_Reading_ways_of P_Reading_ways_of (defScope s_Reading_ways_of) := ⟨rfl, rfl, rfl, by decide +kernel, rfl, by decide +kernel, by decide +kernel⟩
theorem b_Reading_ways_of (T : Top K mg A) : Binds K A.d_Reading_ways_of P_Reading_ways_of [] := T.F_Reading_ways_of.binds fun _ _ _ _ _ _ us hl => match us, hl with | [_, _], _ => rfl
theorem sc_Reading_ends_of : FnScope N_Reading_ends_of P_Reading_ends_of (defScope s_Reading_ends_of) := ⟨rfl, rfl, rfl, by decide +kernel, rfl, by decide +kernel, by decide +kernel⟩
theorem b_Reading_ends_of (T : Top K mg A) : Binds K A.d_Reading_ends_of P_Reading_ends_of [] := T.F_Reading_ends_of.binds fun _ _ _ _ _ _ us hl => match us, hl with | [_, _, _], _ => rfl
theorem sc_Reading_ends_from : FnScope N_Reading_ends_from P_Reading_ends_from (defScope s_Reading_ends_from) := ⟨rfl, rfl, rfl, by decide +kernel, rfl, by decide +kernel, by decide +kernel⟩
theorem b_Reading_ends_from (T : Top K mg A) : Binds K A.d_Reading_ends_from P_Reading_ends_from [] := T.F_Reading_ends_from.binds fun _ _ _ _ _ _ us hl => match us, hl with | [_, _, _], _ => rfl
theorem sc_Reading_way_ends : FnScope N_Reading_way_ends P_Reading_way_ends (defScope s_Reading_way_ends) := ⟨rfl, rfl, rfl, by decide +kernel, rfl, by decide +kernel, by decide +kernel⟩
theorem b_Reading_way_ends (T : Top K mg A) : Binds K A.d_Reading_way_ends P_Reading_way_ends [] := T.F_Reading_way_ends.binds fun _ _ _ _ _ _ us hl => match us, hl with | [_, _, _], _ => rfl
theorem sc_Reading_can_be : FnScope N_Reading_can_be P_Reading_can_be (defScope s_Reading_can_be) := ⟨rfl, rfl, rfl, by decide +kernel, rfl, by decide +kernel, by decide +kernel⟩
theorem b_Reading_can_be (T : Top K mg A) : Binds K A.d_Reading_can_be P_Reading_can_be [] := T.F_Reading_can_be.binds fun _ _ _ _ _ _ us hl => match us, hl with | [_, _, _, _], _ => rfl
theorem sc_Reading_numbers_of : FnScope N_Reading_numbers_of P_Reading_numbers_of (defScope s_Reading_numbers_of) := ⟨rfl, rfl, rfl, by decide +kernel, rfl, by decide +kernel, by decide +kernel⟩
theorem b_Reading_numbers_of (T : Top K mg A) : Binds K A.d_Reading_numbers_of P_Reading_numbers_of [] := T.F_Reading_numbers_of.binds fun _ _ _ _ _ _ us hl => match us, hl with | [_, _, _, _], _ => rfl
theorem sc_Reading_way_numbers : FnScope N_Reading_way_numbers P_Reading_way_numbers (defScope s_Reading_way_numbers) := ⟨rfl, rfl, rfl, by decide +kernel, rfl, by decide +kernel, by decide +kernel⟩
theorem b_Reading_way_numbers (T : Top K mg A) : Binds K A.d_Reading_way_numbers P_Reading_way_numbers [] := T.F_Reading_way_numbers.binds fun _ _ _ _ _ _ us hl => match us, hl with | [_, _, _, _], _ => rfl
theorem sc_Reading_pair_numbers : FnScope N_Reading_pair_numbers P_Reading_pair_numbers (defScope s_Reading_pair_numbers) := ⟨rfl, rfl, rfl, by decide +kernel, rfl, by decide +kernel, by decide +kernel⟩
theorem b_Reading_pair_numbers (T : Top K mg A) : Binds K A.d_Reading_pair_numbers P_Reading_pair_numbers [] := T.F_Reading_pair_numbers.binds fun _ _ _ _ _ _ us hl => match us, hl with | [_, _, _, _], _ => rfl
theorem sc_numbers_that_say : FnScope N_numbers_that_say P_numbers_that_say (defScope s_numbers_that_say) := ⟨rfl, rfl, rfl, by decide +kernel, rfl, by decide +kernel, by decide +kernel⟩
theorem b_numbers_that_say (T : Top K mg A) : Binds K A.d_numbers_that_say P_numbers_that_say [] := T.F_numbers_that_say.binds fun _ _ _ _ _ _ us hl => match us, hl with | [_, _, _, _], _ => rfl
theorem sc_begins : FnScope N_begins P_begins (defScope s_begins) := ⟨rfl, rfl, rfl, by decide +kernel, rfl, by decide +kernel, by decide +kernel⟩
theorem b_begins (T : Top K mg A) : Binds K A.d_begins P_begins [] := T.F_begins.binds fun _ _ _ _ _ _ us hl => match us, hl with | [_, _], _ => rfl
theorem sc_rules : FnScope N_rules P_rules (defScope s_rules) := ⟨rfl, rfl, rfl, by decide +kernel, rfl, by decide +kernel, by decide +kernel⟩
theorem b_rules (T : Top K mg A) : Binds K A.d_rules P_rules [] := T.F_rules.binds fun _ _ _ _ _ _ us hl => match us, hl with | [_, _], _ => rfl
theorem sc_say : FnScope N_say P_say (defScope s_say) := ⟨rfl, rfl, rfl, by decide +kernel, rfl, by decide +kernel, by decide +kernel⟩
theorem b_say (T : Top K mg A) : Binds K A.d_say P_say [] := T.F_say.binds fun _ _ _ _ _ _ us hl => match us, hl with | [_, _], _ => rfl
theorem sc_read : FnScope N_read P_read (defScope s_read) := ⟨rfl, rfl, rfl, by decide +kernel, rfl, by decide +kernel, by decide +kernel⟩
theorem b_read (T : Top K mg A) : Binds K A.d_read P_read [] := T.F_read.binds fun _ _ _ _ _ _ us hl => match us, hl with | [_, _], _ => rfl
theorem sc_gaps : FnScope N_gaps P_gaps (defScope s_gaps) := ⟨rfl, rfl, rfl, by decide +kernel, rfl, by decide +kernel, by decide +kernel⟩
theorem b_gaps (T : Top K mg A) : Binds K A.d_gaps P_gaps [] := T.F_gaps.binds fun _ _ _ _ _ _ us hl => match us, hl with | [_, _], _ => rfl
theorem sc_alike : FnScope N_alike P_alike (defScope s_alike) := ⟨rfl, rfl, rfl, by decide +kernel, rfl, by decide +kernel, by decide +kernel⟩
theorem b_alike (T : Top K mg A) : Binds K A.d_alike P_alike [] := T.F_alike.binds fun _ _ _ _ _ _ us hl => match us, hl with | [_, _], _ => rfl
theorem sc_longest : FnScope N_longest P_longest (defScope s_longest) := ⟨rfl, rfl, rfl, by decide +kernel, rfl, by decide +kernel, by decide +kernel⟩
theorem b_longest (T : Top K mg A) : Binds K A.d_longest P_longest [] := T.F_longest.binds fun _ _ _ _ _ _ us hl => match us, hl with | [_, _], _ => rfl
theorem sc_in_order : FnScope N_in_order P_in_order (defScope s_in_order) := ⟨rfl, rfl, rfl, by decide +kernel, rfl, by decide +kernel, by decide +kernel⟩
theorem b_in_order (T : Top K mg A) : Binds K A.d_in_order P_in_order [] := T.F_in_order.binds fun _ _ _ _ _ _ us hl => match us, hl with | [_, _], _ => rfl
theorem sc_listed : FnScope N_listed P_listed (defScope s_listed) := ⟨rfl, rfl, rfl, by decide +kernel, rfl, by decide +kernel, by decide +kernel⟩
theorem b_listed (T : Top K mg A) : Binds K A.d_listed P_listed [] := T.F_listed.binds fun _ _ _ _ _ _ us hl => match us, hl with | [_], _ => rfl
theorem sc_told_run : FnScope N_told_run P_told_run (defScope s_told_run) := ⟨rfl, rfl, rfl, by decide +kernel, rfl, by decide +kernel, by decide +kernel⟩
theorem b_told_run (T : Top K mg A) : Binds K A.d_told_run P_told_run [] := T.F_told_run.binds fun _ _ _ _ _ _ us hl => match us, hl with | [_], _ => rfl
theorem sc_check_set : FnScope N_check_set P_check_set (defScope s_check_set) := ⟨rfl, rfl, rfl, by decide +kernel, rfl, by decide +kernel, by decide +kernel⟩
theorem b_check_set (T : Top K mg A) : Binds K A.d_check_set P_check_set [] := T.F_check_set.binds fun _ _ _ _ _ _ us hl => match us, hl with | [_], _ => rfl
theorem sc_check_number : FnScope N_check_number P_check_number (defScope s_check_number) := ⟨rfl, rfl, rfl, by decide +kernel, rfl, by decide +kernel, by decide +kernel⟩
theorem b_check_number (T : Top K mg A) : Binds K A.d_check_number P_check_number [] := T.F_check_number.binds fun _ _ _ _ _ _ us hl => match us, hl with | [_], _ => rfl
theorem sc_answer : FnScope N_answer P_answer (defScope s_answer) := ⟨rfl, rfl, rfl, by decide +kernel, rfl, by decide +kernel, by decide +kernel⟩
theorem b_answer (T : Top K mg A) : Binds K A.d_answer P_answer [] := T.F_answer.binds fun _ _ _ _ _ _ us hl => match us, hl with | [_, _], _ => rfl
theorem sc_answers : FnScope N_answers P_answers (defScope s_answers) := ⟨rfl, rfl, rfl, by decide +kernel, rfl, by decide +kernel, by decide +kernel⟩
theorem b_answers (T : Top K mg A) : Binds K A.d_answers P_answers [] := T.F_answers.binds fun _ _ _ _ _ _ us hl => match us, hl with | [_], _ => rfl
end
end Sn
/-! the attributes of each class, in the order in which __init__ sets them -/
namespace Sn
open PySem PySem.Spec PyProof.Rows L2
theorem lk_here {k : Str} {v : V} {r : List (Str × V)} : List.lookup k ((k, v) :: r) = some v := by
  have e : (k == k) = true := beq_self_eq_true k
  simp only [List.lookup, e]
theorem lk_past {k g : Str} {v : V} {r : List (Str × V)} (h : (k == g) = false) : List.lookup k ((g, v) :: r) = List.lookup k r := by
  simp only [List.lookup, h]
theorem put_here {f : Str} {v x : V} {r : List (Str × V)} : putF f v ((f, x) :: r) = (f, v) :: r := if_pos rfl
theorem put_past {f g : Str} {v x : V} {r : List (Str × V)} (h : ¬ g = f) : putF f v ((g, x) :: r) = (g, x) :: putF f v r := if_neg h
theorem if_true_of {c : Bool} {A B : Prop} (hc : c = true) (h : A) : if c = true then A else B := by
  rw [if_pos hc]
  exact h
theorem if_false_of {c : Bool} {A B : Prop} (hc : c = false) (h : B) : if c = true then A else B := by
  rw [hc, if_neg Bool.false_ne_true]
  exact h
theorem ne_add_piece__letters : (("add_piece" : Str) == ("letters" : Str)) = false := by decide +kernel
theorem ne_add_piece__letters' : ¬ (("letters" : Str) = ("add_piece" : Str)) := by decide +kernel
theorem ne_add_piece__q_run : (("add_piece" : Str) == ("q_run" : Str)) = false := by decide +kernel
theorem ne_add_piece__q_run' : ¬ (("q_run" : Str) = ("add_piece" : Str)) := by decide +kernel
theorem ne_add_piece__r_run : (("add_piece" : Str) == ("r_run" : Str)) = false := by decide +kernel
theorem ne_add_piece__r_run' : ¬ (("r_run" : Str) = ("add_piece" : Str)) := by decide +kernel
theorem ne_add_piece__slots : (("add_piece" : Str) == ("slots" : Str)) = false := by decide +kernel
theorem ne_add_piece__slots' : ¬ (("slots" : Str) = ("add_piece" : Str)) := by decide +kernel
theorem ne_add_slot__fixed : (("add_slot" : Str) == ("fixed" : Str)) = false := by decide +kernel
theorem ne_add_slot__fixed' : ¬ (("fixed" : Str) = ("add_slot" : Str)) := by decide +kernel
theorem ne_add_slot__known_ends : (("add_slot" : Str) == ("known_ends" : Str)) = false := by decide +kernel
theorem ne_add_slot__known_ends' : ¬ (("known_ends" : Str) = ("add_slot" : Str)) := by decide +kernel
theorem ne_add_slot__letters : (("add_slot" : Str) == ("letters" : Str)) = false := by decide +kernel
theorem ne_add_slot__letters' : ¬ (("letters" : Str) = ("add_slot" : Str)) := by decide +kernel
theorem ne_add_slot__masks : (("add_slot" : Str) == ("masks" : Str)) = false := by decide +kernel
theorem ne_add_slot__masks' : ¬ (("masks" : Str) = ("add_slot" : Str)) := by decide +kernel
theorem ne_add_slot__stretches : (("add_slot" : Str) == ("stretches" : Str)) = false := by decide +kernel
theorem ne_add_slot__stretches' : ¬ (("stretches" : Str) = ("add_slot" : Str)) := by decide +kernel
theorem ne_add_slot__weights : (("add_slot" : Str) == ("weights" : Str)) = false := by decide +kernel
theorem ne_add_slot__weights' : ¬ (("weights" : Str) = ("add_slot" : Str)) := by decide +kernel
theorem ne_by__kind : (("by" : Str) == ("kind" : Str)) = false := by decide +kernel
theorem ne_by__kind' : ¬ (("kind" : Str) = ("by" : Str)) := by decide +kernel
theorem ne_by__letters : (("by" : Str) == ("letters" : Str)) = false := by decide +kernel
theorem ne_by__letters' : ¬ (("letters" : Str) = ("by" : Str)) := by decide +kernel
theorem ne_by__stands : (("by" : Str) == ("stands" : Str)) = false := by decide +kernel
theorem ne_by__stands' : ¬ (("stands" : Str) = ("by" : Str)) := by decide +kernel
theorem ne_byte_masks__made : (("byte_masks" : Str) == ("made" : Str)) = false := by decide +kernel
theorem ne_byte_masks__made' : ¬ (("made" : Str) = ("byte_masks" : Str)) := by decide +kernel
theorem ne_byte_masks__size : (("byte_masks" : Str) == ("size" : Str)) = false := by decide +kernel
theorem ne_byte_masks__size' : ¬ (("size" : Str) = ("byte_masks" : Str)) := by decide +kernel
theorem ne_can_be__byte_masks : (("can_be" : Str) == ("byte_masks" : Str)) = false := by decide +kernel
theorem ne_can_be__byte_masks' : ¬ (("byte_masks" : Str) = ("can_be" : Str)) := by decide +kernel
theorem ne_can_be__made : (("can_be" : Str) == ("made" : Str)) = false := by decide +kernel
theorem ne_can_be__made' : ¬ (("made" : Str) = ("can_be" : Str)) := by decide +kernel
theorem ne_can_be__size : (("can_be" : Str) == ("size" : Str)) = false := by decide +kernel
theorem ne_can_be__size' : ¬ (("size" : Str) = ("can_be" : Str)) := by decide +kernel
theorem ne_divisor__base : (("divisor" : Str) == ("base" : Str)) = false := by decide +kernel
theorem ne_divisor__base' : ¬ (("base" : Str) = ("divisor" : Str)) := by decide +kernel
theorem ne_divisor__last : (("divisor" : Str) == ("last" : Str)) = false := by decide +kernel
theorem ne_divisor__last' : ¬ (("last" : Str) = ("divisor" : Str)) := by decide +kernel
theorem ne_ends_from__byte_masks : (("ends_from" : Str) == ("byte_masks" : Str)) = false := by decide +kernel
theorem ne_ends_from__byte_masks' : ¬ (("byte_masks" : Str) = ("ends_from" : Str)) := by decide +kernel
theorem ne_ends_from__made : (("ends_from" : Str) == ("made" : Str)) = false := by decide +kernel
theorem ne_ends_from__made' : ¬ (("made" : Str) = ("ends_from" : Str)) := by decide +kernel
theorem ne_ends_from__size : (("ends_from" : Str) == ("size" : Str)) = false := by decide +kernel
theorem ne_ends_from__size' : ¬ (("size" : Str) = ("ends_from" : Str)) := by decide +kernel
theorem ne_ends_of__byte_masks : (("ends_of" : Str) == ("byte_masks" : Str)) = false := by decide +kernel
theorem ne_ends_of__byte_masks' : ¬ (("byte_masks" : Str) = ("ends_of" : Str)) := by decide +kernel
theorem ne_ends_of__made : (("ends_of" : Str) == ("made" : Str)) = false := by decide +kernel
theorem ne_ends_of__made' : ¬ (("made" : Str) = ("ends_of" : Str)) := by decide +kernel
theorem ne_ends_of__size : (("ends_of" : Str) == ("size" : Str)) = false := by decide +kernel
theorem ne_ends_of__size' : ¬ (("size" : Str) = ("ends_of" : Str)) := by decide +kernel
theorem ne_fits__letters : (("fits" : Str) == ("letters" : Str)) = false := by decide +kernel
theorem ne_fits__letters' : ¬ (("letters" : Str) = ("fits" : Str)) := by decide +kernel
theorem ne_fits__q_run : (("fits" : Str) == ("q_run" : Str)) = false := by decide +kernel
theorem ne_fits__q_run' : ¬ (("q_run" : Str) = ("fits" : Str)) := by decide +kernel
theorem ne_fits__r_run : (("fits" : Str) == ("r_run" : Str)) = false := by decide +kernel
theorem ne_fits__r_run' : ¬ (("r_run" : Str) = ("fits" : Str)) := by decide +kernel
theorem ne_fits__slots : (("fits" : Str) == ("slots" : Str)) = false := by decide +kernel
theorem ne_fits__slots' : ¬ (("slots" : Str) = ("fits" : Str)) := by decide +kernel
theorem ne_has_more__numbers : (("has_more" : Str) == ("numbers" : Str)) = false := by decide +kernel
theorem ne_has_more__numbers' : ¬ (("numbers" : Str) = ("has_more" : Str)) := by decide +kernel
theorem ne_has_more__place : (("has_more" : Str) == ("place" : Str)) = false := by decide +kernel
theorem ne_has_more__place' : ¬ (("place" : Str) = ("has_more" : Str)) := by decide +kernel
theorem ne_high__by : (("high" : Str) == ("by" : Str)) = false := by decide +kernel
theorem ne_high__by' : ¬ (("by" : Str) = ("high" : Str)) := by decide +kernel
theorem ne_high__low : (("high" : Str) == ("low" : Str)) = false := by decide +kernel
theorem ne_high__low' : ¬ (("low" : Str) = ("high" : Str)) := by decide +kernel
theorem ne_kind__stands : (("kind" : Str) == ("stands" : Str)) = false := by decide +kernel
theorem ne_kind__stands' : ¬ (("stands" : Str) = ("kind" : Str)) := by decide +kernel
theorem ne_known_ends__by : (("known_ends" : Str) == ("by" : Str)) = false := by decide +kernel
theorem ne_known_ends__by' : ¬ (("by" : Str) = ("known_ends" : Str)) := by decide +kernel
theorem ne_known_ends__fixed : (("known_ends" : Str) == ("fixed" : Str)) = false := by decide +kernel
theorem ne_known_ends__fixed' : ¬ (("fixed" : Str) = ("known_ends" : Str)) := by decide +kernel
theorem ne_known_ends__high : (("known_ends" : Str) == ("high" : Str)) = false := by decide +kernel
theorem ne_known_ends__high' : ¬ (("high" : Str) = ("known_ends" : Str)) := by decide +kernel
theorem ne_known_ends__letters : (("known_ends" : Str) == ("letters" : Str)) = false := by decide +kernel
theorem ne_known_ends__letters' : ¬ (("letters" : Str) = ("known_ends" : Str)) := by decide +kernel
theorem ne_known_ends__low : (("known_ends" : Str) == ("low" : Str)) = false := by decide +kernel
theorem ne_known_ends__low' : ¬ (("low" : Str) = ("known_ends" : Str)) := by decide +kernel
theorem ne_known_ends__masks : (("known_ends" : Str) == ("masks" : Str)) = false := by decide +kernel
theorem ne_known_ends__masks' : ¬ (("masks" : Str) = ("known_ends" : Str)) := by decide +kernel
theorem ne_known_ends__stretches : (("known_ends" : Str) == ("stretches" : Str)) = false := by decide +kernel
theorem ne_known_ends__stretches' : ¬ (("stretches" : Str) = ("known_ends" : Str)) := by decide +kernel
theorem ne_known_ends__ways : (("known_ends" : Str) == ("ways" : Str)) = false := by decide +kernel
theorem ne_known_ends__ways' : ¬ (("ways" : Str) = ("known_ends" : Str)) := by decide +kernel
theorem ne_known_ends__weights : (("known_ends" : Str) == ("weights" : Str)) = false := by decide +kernel
theorem ne_known_ends__weights' : ¬ (("weights" : Str) = ("known_ends" : Str)) := by decide +kernel
theorem ne_known_numbers__by : (("known_numbers" : Str) == ("by" : Str)) = false := by decide +kernel
theorem ne_known_numbers__by' : ¬ (("by" : Str) = ("known_numbers" : Str)) := by decide +kernel
theorem ne_known_numbers__high : (("known_numbers" : Str) == ("high" : Str)) = false := by decide +kernel
theorem ne_known_numbers__high' : ¬ (("high" : Str) = ("known_numbers" : Str)) := by decide +kernel
theorem ne_known_numbers__known_ends : (("known_numbers" : Str) == ("known_ends" : Str)) = false := by decide +kernel
theorem ne_known_numbers__known_ends' : ¬ (("known_ends" : Str) = ("known_numbers" : Str)) := by decide +kernel
theorem ne_known_numbers__low : (("known_numbers" : Str) == ("low" : Str)) = false := by decide +kernel
theorem ne_known_numbers__low' : ¬ (("low" : Str) = ("known_numbers" : Str)) := by decide +kernel
theorem ne_known_numbers__ways : (("known_numbers" : Str) == ("ways" : Str)) = false := by decide +kernel
theorem ne_known_numbers__ways' : ¬ (("ways" : Str) = ("known_numbers" : Str)) := by decide +kernel
theorem ne_last__base : (("last" : Str) == ("base" : Str)) = false := by decide +kernel
theorem ne_last__base' : ¬ (("base" : Str) = ("last" : Str)) := by decide +kernel
theorem ne_letters__fixed : (("letters" : Str) == ("fixed" : Str)) = false := by decide +kernel
theorem ne_letters__fixed' : ¬ (("fixed" : Str) = ("letters" : Str)) := by decide +kernel
theorem ne_letters__kind : (("letters" : Str) == ("kind" : Str)) = false := by decide +kernel
theorem ne_letters__kind' : ¬ (("kind" : Str) = ("letters" : Str)) := by decide +kernel
theorem ne_letters__q_run : (("letters" : Str) == ("q_run" : Str)) = false := by decide +kernel
theorem ne_letters__q_run' : ¬ (("q_run" : Str) = ("letters" : Str)) := by decide +kernel
theorem ne_letters__r_run : (("letters" : Str) == ("r_run" : Str)) = false := by decide +kernel
theorem ne_letters__r_run' : ¬ (("r_run" : Str) = ("letters" : Str)) := by decide +kernel
theorem ne_letters__stands : (("letters" : Str) == ("stands" : Str)) = false := by decide +kernel
theorem ne_letters__stands' : ¬ (("stands" : Str) = ("letters" : Str)) := by decide +kernel
theorem ne_low__by : (("low" : Str) == ("by" : Str)) = false := by decide +kernel
theorem ne_low__by' : ¬ (("by" : Str) = ("low" : Str)) := by decide +kernel
theorem ne_made_stretches__sets : (("made_stretches" : Str) == ("sets" : Str)) = false := by decide +kernel
theorem ne_made_stretches__sets' : ¬ (("sets" : Str) = ("made_stretches" : Str)) := by decide +kernel
theorem ne_made_ways__made_stretches : (("made_ways" : Str) == ("made_stretches" : Str)) = false := by decide +kernel
theorem ne_made_ways__made_stretches' : ¬ (("made_stretches" : Str) = ("made_ways" : Str)) := by decide +kernel
theorem ne_made_ways__sets : (("made_ways" : Str) == ("sets" : Str)) = false := by decide +kernel
theorem ne_made_ways__sets' : ¬ (("sets" : Str) = ("made_ways" : Str)) := by decide +kernel
theorem ne_mask_of__byte_masks : (("mask_of" : Str) == ("byte_masks" : Str)) = false := by decide +kernel
theorem ne_mask_of__byte_masks' : ¬ (("byte_masks" : Str) = ("mask_of" : Str)) := by decide +kernel
theorem ne_mask_of__made : (("mask_of" : Str) == ("made" : Str)) = false := by decide +kernel
theorem ne_mask_of__made' : ¬ (("made" : Str) = ("mask_of" : Str)) := by decide +kernel
theorem ne_mask_of__size : (("mask_of" : Str) == ("size" : Str)) = false := by decide +kernel
theorem ne_mask_of__size' : ¬ (("size" : Str) = ("mask_of" : Str)) := by decide +kernel
theorem ne_masks__fixed : (("masks" : Str) == ("fixed" : Str)) = false := by decide +kernel
theorem ne_masks__fixed' : ¬ (("fixed" : Str) = ("masks" : Str)) := by decide +kernel
theorem ne_masks__letters : (("masks" : Str) == ("letters" : Str)) = false := by decide +kernel
theorem ne_masks__letters' : ¬ (("letters" : Str) = ("masks" : Str)) := by decide +kernel
theorem ne_masks__stretches : (("masks" : Str) == ("stretches" : Str)) = false := by decide +kernel
theorem ne_masks__stretches' : ¬ (("stretches" : Str) = ("masks" : Str)) := by decide +kernel
theorem ne_masks__weights : (("masks" : Str) == ("weights" : Str)) = false := by decide +kernel
theorem ne_masks__weights' : ¬ (("weights" : Str) = ("masks" : Str)) := by decide +kernel
theorem ne_numbers_of__byte_masks : (("numbers_of" : Str) == ("byte_masks" : Str)) = false := by decide +kernel
theorem ne_numbers_of__byte_masks' : ¬ (("byte_masks" : Str) = ("numbers_of" : Str)) := by decide +kernel
theorem ne_numbers_of__made : (("numbers_of" : Str) == ("made" : Str)) = false := by decide +kernel
theorem ne_numbers_of__made' : ¬ (("made" : Str) = ("numbers_of" : Str)) := by decide +kernel
theorem ne_numbers_of__size : (("numbers_of" : Str) == ("size" : Str)) = false := by decide +kernel
theorem ne_numbers_of__size' : ¬ (("size" : Str) = ("numbers_of" : Str)) := by decide +kernel
theorem ne_one__numbers : (("one" : Str) == ("numbers" : Str)) = false := by decide +kernel
theorem ne_one__numbers' : ¬ (("numbers" : Str) = ("one" : Str)) := by decide +kernel
theorem ne_one__place : (("one" : Str) == ("place" : Str)) = false := by decide +kernel
theorem ne_one__place' : ¬ (("place" : Str) = ("one" : Str)) := by decide +kernel
theorem ne_pair_numbers__byte_masks : (("pair_numbers" : Str) == ("byte_masks" : Str)) = false := by decide +kernel
theorem ne_pair_numbers__byte_masks' : ¬ (("byte_masks" : Str) = ("pair_numbers" : Str)) := by decide +kernel
theorem ne_pair_numbers__made : (("pair_numbers" : Str) == ("made" : Str)) = false := by decide +kernel
theorem ne_pair_numbers__made' : ¬ (("made" : Str) = ("pair_numbers" : Str)) := by decide +kernel
theorem ne_pair_numbers__size : (("pair_numbers" : Str) == ("size" : Str)) = false := by decide +kernel
theorem ne_pair_numbers__size' : ¬ (("size" : Str) = ("pair_numbers" : Str)) := by decide +kernel
theorem ne_part_ways__made_stretches : (("part_ways" : Str) == ("made_stretches" : Str)) = false := by decide +kernel
theorem ne_part_ways__made_stretches' : ¬ (("made_stretches" : Str) = ("part_ways" : Str)) := by decide +kernel
theorem ne_part_ways__made_ways : (("part_ways" : Str) == ("made_ways" : Str)) = false := by decide +kernel
theorem ne_part_ways__made_ways' : ¬ (("made_ways" : Str) = ("part_ways" : Str)) := by decide +kernel
theorem ne_part_ways__sets : (("part_ways" : Str) == ("sets" : Str)) = false := by decide +kernel
theorem ne_part_ways__sets' : ¬ (("sets" : Str) = ("part_ways" : Str)) := by decide +kernel
theorem ne_place__numbers : (("place" : Str) == ("numbers" : Str)) = false := by decide +kernel
theorem ne_place__numbers' : ¬ (("numbers" : Str) = ("place" : Str)) := by decide +kernel
theorem ne_r_run__q_run : (("r_run" : Str) == ("q_run" : Str)) = false := by decide +kernel
theorem ne_r_run__q_run' : ¬ (("q_run" : Str) = ("r_run" : Str)) := by decide +kernel
theorem ne_rule_ways__made_stretches : (("rule_ways" : Str) == ("made_stretches" : Str)) = false := by decide +kernel
theorem ne_rule_ways__made_stretches' : ¬ (("made_stretches" : Str) = ("rule_ways" : Str)) := by decide +kernel
theorem ne_rule_ways__made_ways : (("rule_ways" : Str) == ("made_ways" : Str)) = false := by decide +kernel
theorem ne_rule_ways__made_ways' : ¬ (("made_ways" : Str) = ("rule_ways" : Str)) := by decide +kernel
theorem ne_rule_ways__sets : (("rule_ways" : Str) == ("sets" : Str)) = false := by decide +kernel
theorem ne_rule_ways__sets' : ¬ (("sets" : Str) = ("rule_ways" : Str)) := by decide +kernel
theorem ne_shape_way__made_stretches : (("shape_way" : Str) == ("made_stretches" : Str)) = false := by decide +kernel
theorem ne_shape_way__made_stretches' : ¬ (("made_stretches" : Str) = ("shape_way" : Str)) := by decide +kernel
theorem ne_shape_way__made_ways : (("shape_way" : Str) == ("made_ways" : Str)) = false := by decide +kernel
theorem ne_shape_way__made_ways' : ¬ (("made_ways" : Str) = ("shape_way" : Str)) := by decide +kernel
theorem ne_shape_way__sets : (("shape_way" : Str) == ("sets" : Str)) = false := by decide +kernel
theorem ne_shape_way__sets' : ¬ (("sets" : Str) = ("shape_way" : Str)) := by decide +kernel
theorem ne_shapes__base : (("shapes" : Str) == ("base" : Str)) = false := by decide +kernel
theorem ne_shapes__base' : ¬ (("base" : Str) = ("shapes" : Str)) := by decide +kernel
theorem ne_shapes__divisor : (("shapes" : Str) == ("divisor" : Str)) = false := by decide +kernel
theorem ne_shapes__divisor' : ¬ (("divisor" : Str) = ("shapes" : Str)) := by decide +kernel
theorem ne_shapes__last : (("shapes" : Str) == ("last" : Str)) = false := by decide +kernel
theorem ne_shapes__last' : ¬ (("last" : Str) = ("shapes" : Str)) := by decide +kernel
theorem ne_size__made : (("size" : Str) == ("made" : Str)) = false := by decide +kernel
theorem ne_size__made' : ¬ (("made" : Str) = ("size" : Str)) := by decide +kernel
theorem ne_slots__letters : (("slots" : Str) == ("letters" : Str)) = false := by decide +kernel
theorem ne_slots__letters' : ¬ (("letters" : Str) = ("slots" : Str)) := by decide +kernel
theorem ne_slots__q_run : (("slots" : Str) == ("q_run" : Str)) = false := by decide +kernel
theorem ne_slots__q_run' : ¬ (("q_run" : Str) = ("slots" : Str)) := by decide +kernel
theorem ne_slots__r_run : (("slots" : Str) == ("r_run" : Str)) = false := by decide +kernel
theorem ne_slots__r_run' : ¬ (("r_run" : Str) = ("slots" : Str)) := by decide +kernel
theorem ne_stretch__made_stretches : (("stretch" : Str) == ("made_stretches" : Str)) = false := by decide +kernel
theorem ne_stretch__made_stretches' : ¬ (("made_stretches" : Str) = ("stretch" : Str)) := by decide +kernel
theorem ne_stretch__made_ways : (("stretch" : Str) == ("made_ways" : Str)) = false := by decide +kernel
theorem ne_stretch__made_ways' : ¬ (("made_ways" : Str) = ("stretch" : Str)) := by decide +kernel
theorem ne_stretch__sets : (("stretch" : Str) == ("sets" : Str)) = false := by decide +kernel
theorem ne_stretch__sets' : ¬ (("sets" : Str) = ("stretch" : Str)) := by decide +kernel
theorem ne_stretches__fixed : (("stretches" : Str) == ("fixed" : Str)) = false := by decide +kernel
theorem ne_stretches__fixed' : ¬ (("fixed" : Str) = ("stretches" : Str)) := by decide +kernel
theorem ne_stretches__letters : (("stretches" : Str) == ("letters" : Str)) = false := by decide +kernel
theorem ne_stretches__letters' : ¬ (("letters" : Str) = ("stretches" : Str)) := by decide +kernel
theorem ne_stretches__weights : (("stretches" : Str) == ("weights" : Str)) = false := by decide +kernel
theorem ne_stretches__weights' : ¬ (("weights" : Str) = ("stretches" : Str)) := by decide +kernel
theorem ne_told__numbers : (("told" : Str) == ("numbers" : Str)) = false := by decide +kernel
theorem ne_told__numbers' : ¬ (("numbers" : Str) = ("told" : Str)) := by decide +kernel
theorem ne_told__place : (("told" : Str) == ("place" : Str)) = false := by decide +kernel
theorem ne_told__place' : ¬ (("place" : Str) = ("told" : Str)) := by decide +kernel
theorem ne_way_ends__byte_masks : (("way_ends" : Str) == ("byte_masks" : Str)) = false := by decide +kernel
theorem ne_way_ends__byte_masks' : ¬ (("byte_masks" : Str) = ("way_ends" : Str)) := by decide +kernel
theorem ne_way_ends__made : (("way_ends" : Str) == ("made" : Str)) = false := by decide +kernel
theorem ne_way_ends__made' : ¬ (("made" : Str) = ("way_ends" : Str)) := by decide +kernel
theorem ne_way_ends__size : (("way_ends" : Str) == ("size" : Str)) = false := by decide +kernel
theorem ne_way_ends__size' : ¬ (("size" : Str) = ("way_ends" : Str)) := by decide +kernel
theorem ne_way_numbers__byte_masks : (("way_numbers" : Str) == ("byte_masks" : Str)) = false := by decide +kernel
theorem ne_way_numbers__byte_masks' : ¬ (("byte_masks" : Str) = ("way_numbers" : Str)) := by decide +kernel
theorem ne_way_numbers__made : (("way_numbers" : Str) == ("made" : Str)) = false := by decide +kernel
theorem ne_way_numbers__made' : ¬ (("made" : Str) = ("way_numbers" : Str)) := by decide +kernel
theorem ne_way_numbers__size : (("way_numbers" : Str) == ("size" : Str)) = false := by decide +kernel
theorem ne_way_numbers__size' : ¬ (("size" : Str) = ("way_numbers" : Str)) := by decide +kernel
theorem ne_ways__by : (("ways" : Str) == ("by" : Str)) = false := by decide +kernel
theorem ne_ways__by' : ¬ (("by" : Str) = ("ways" : Str)) := by decide +kernel
theorem ne_ways__high : (("ways" : Str) == ("high" : Str)) = false := by decide +kernel
theorem ne_ways__high' : ¬ (("high" : Str) = ("ways" : Str)) := by decide +kernel
theorem ne_ways__low : (("ways" : Str) == ("low" : Str)) = false := by decide +kernel
theorem ne_ways__low' : ¬ (("low" : Str) = ("ways" : Str)) := by decide +kernel
theorem ne_ways_in__made_stretches : (("ways_in" : Str) == ("made_stretches" : Str)) = false := by decide +kernel
theorem ne_ways_in__made_stretches' : ¬ (("made_stretches" : Str) = ("ways_in" : Str)) := by decide +kernel
theorem ne_ways_in__made_ways : (("ways_in" : Str) == ("made_ways" : Str)) = false := by decide +kernel
theorem ne_ways_in__made_ways' : ¬ (("made_ways" : Str) = ("ways_in" : Str)) := by decide +kernel
theorem ne_ways_in__sets : (("ways_in" : Str) == ("sets" : Str)) = false := by decide +kernel
theorem ne_ways_in__sets' : ¬ (("sets" : Str) = ("ways_in" : Str)) := by decide +kernel
theorem ne_ways_of__byte_masks : (("ways_of" : Str) == ("byte_masks" : Str)) = false := by decide +kernel
theorem ne_ways_of__byte_masks' : ¬ (("byte_masks" : Str) = ("ways_of" : Str)) := by decide +kernel
theorem ne_ways_of__made : (("ways_of" : Str) == ("made" : Str)) = false := by decide +kernel
theorem ne_ways_of__made' : ¬ (("made" : Str) = ("ways_of" : Str)) := by decide +kernel
theorem ne_ways_of__size : (("ways_of" : Str) == ("size" : Str)) = false := by decide +kernel
theorem ne_ways_of__size' : ¬ (("size" : Str) = ("ways_of" : Str)) := by decide +kernel
theorem ne_weights__fixed : (("weights" : Str) == ("fixed" : Str)) = false := by decide +kernel
theorem ne_weights__fixed' : ¬ (("fixed" : Str) = ("weights" : Str)) := by decide +kernel
theorem ne_weights__letters : (("weights" : Str) == ("letters" : Str)) = false := by decide +kernel
theorem ne_weights__letters' : ¬ (("letters" : Str) = ("weights" : Str)) := by decide +kernel
def F_Row (v0 v1 : V) : List (Str × V) := [("numbers", v0), ("place", v1)]
section
variable {v0 v1 x : V}
theorem F_Row_numbers : (F_Row v0 v1).lookup ("numbers" : Str) = some v0 := lk_here
theorem F_Row_put_numbers : putF "numbers" x (F_Row v0 v1) = F_Row x v1 := put_here
theorem F_Row_ini_numbers : putF "numbers" v0 [] = [(("numbers" : Str), v0)] := rfl
theorem F_Row_place : (F_Row v0 v1).lookup ("place" : Str) = some v1 := (lk_past ne_place__numbers).trans (lk_here)
theorem F_Row_put_place : putF "place" x (F_Row v0 v1) = F_Row v0 x := (put_past ne_place__numbers').trans (congrArg _ (put_here))
theorem F_Row_ini_place : putF "place" v1 [(("numbers" : Str), v0)] = [(("numbers" : Str), v0), (("place" : Str), v1)] := (put_past ne_place__numbers').trans (congrArg _ (rfl))
theorem F_Row_no_has_more : (F_Row v0 v1).lookup ("has_more" : Str) = none := (lk_past ne_has_more__numbers).trans ((lk_past ne_has_more__place).trans (rfl))
theorem F_Row_no_one : (F_Row v0 v1).lookup ("one" : Str) = none := (lk_past ne_one__numbers).trans ((lk_past ne_one__place).trans (rfl))
theorem F_Row_no_told : (F_Row v0 v1).lookup ("told" : Str) = none := (lk_past ne_told__numbers).trans ((lk_past ne_told__place).trans (rfl))
end
def F_Piece (v0 v1 v2 v3 : V) : List (Str × V) := [("stands", v0), ("kind", v1), ("letters", v2), ("by", v3)]
section
variable {v0 v1 v2 v3 x : V}
theorem F_Piece_stands : (F_Piece v0 v1 v2 v3).lookup ("stands" : Str) = some v0 := lk_here
theorem F_Piece_put_stands : putF "stands" x (F_Piece v0 v1 v2 v3) = F_Piece x v1 v2 v3 := put_here
theorem F_Piece_ini_stands : putF "stands" v0 [] = [(("stands" : Str), v0)] := rfl
theorem F_Piece_kind : (F_Piece v0 v1 v2 v3).lookup ("kind" : Str) = some v1 := (lk_past ne_kind__stands).trans (lk_here)
theorem F_Piece_put_kind : putF "kind" x (F_Piece v0 v1 v2 v3) = F_Piece v0 x v2 v3 := (put_past ne_kind__stands').trans (congrArg _ (put_here))
theorem F_Piece_ini_kind : putF "kind" v1 [(("stands" : Str), v0)] = [(("stands" : Str), v0), (("kind" : Str), v1)] := (put_past ne_kind__stands').trans (congrArg _ (rfl))
theorem F_Piece_letters : (F_Piece v0 v1 v2 v3).lookup ("letters" : Str) = some v2 := (lk_past ne_letters__stands).trans ((lk_past ne_letters__kind).trans (lk_here))
theorem F_Piece_put_letters : putF "letters" x (F_Piece v0 v1 v2 v3) = F_Piece v0 v1 x v3 := (put_past ne_letters__stands').trans (congrArg _ ((put_past ne_letters__kind').trans (congrArg _ (put_here))))
theorem F_Piece_ini_letters : putF "letters" v2 [(("stands" : Str), v0), (("kind" : Str), v1)] = [(("stands" : Str), v0), (("kind" : Str), v1), (("letters" : Str), v2)] := (put_past ne_letters__stands').trans (congrArg _ ((put_past ne_letters__kind').trans (congrArg _ (rfl))))
theorem F_Piece_by : (F_Piece v0 v1 v2 v3).lookup ("by" : Str) = some v3 := (lk_past ne_by__stands).trans ((lk_past ne_by__kind).trans ((lk_past ne_by__letters).trans (lk_here)))
theorem F_Piece_put_by : putF "by" x (F_Piece v0 v1 v2 v3) = F_Piece v0 v1 v2 x := (put_past ne_by__stands').trans (congrArg _ ((put_past ne_by__kind').trans (congrArg _ ((put_past ne_by__letters').trans (congrArg _ (put_here))))))
theorem F_Piece_ini_by : putF "by" v3 [(("stands" : Str), v0), (("kind" : Str), v1), (("letters" : Str), v2)] = [(("stands" : Str), v0), (("kind" : Str), v1), (("letters" : Str), v2), (("by" : Str), v3)] := (put_past ne_by__stands').trans (congrArg _ ((put_past ne_by__kind').trans (congrArg _ ((put_past ne_by__letters').trans (congrArg _ (rfl))))))
end
def F_Shape (v0 v1 v2 v3 : V) : List (Str × V) := [("q_run", v0), ("r_run", v1), ("letters", v2), ("slots", v3)]
section
variable {v0 v1 v2 v3 x : V}
theorem F_Shape_q_run : (F_Shape v0 v1 v2 v3).lookup ("q_run" : Str) = some v0 := lk_here
theorem F_Shape_put_q_run : putF "q_run" x (F_Shape v0 v1 v2 v3) = F_Shape x v1 v2 v3 := put_here
theorem F_Shape_ini_q_run : putF "q_run" v0 [] = [(("q_run" : Str), v0)] := rfl
theorem F_Shape_r_run : (F_Shape v0 v1 v2 v3).lookup ("r_run" : Str) = some v1 := (lk_past ne_r_run__q_run).trans (lk_here)
theorem F_Shape_put_r_run : putF "r_run" x (F_Shape v0 v1 v2 v3) = F_Shape v0 x v2 v3 := (put_past ne_r_run__q_run').trans (congrArg _ (put_here))
theorem F_Shape_ini_r_run : putF "r_run" v1 [(("q_run" : Str), v0)] = [(("q_run" : Str), v0), (("r_run" : Str), v1)] := (put_past ne_r_run__q_run').trans (congrArg _ (rfl))
theorem F_Shape_letters : (F_Shape v0 v1 v2 v3).lookup ("letters" : Str) = some v2 := (lk_past ne_letters__q_run).trans ((lk_past ne_letters__r_run).trans (lk_here))
theorem F_Shape_put_letters : putF "letters" x (F_Shape v0 v1 v2 v3) = F_Shape v0 v1 x v3 := (put_past ne_letters__q_run').trans (congrArg _ ((put_past ne_letters__r_run').trans (congrArg _ (put_here))))
theorem F_Shape_ini_letters : putF "letters" v2 [(("q_run" : Str), v0), (("r_run" : Str), v1)] = [(("q_run" : Str), v0), (("r_run" : Str), v1), (("letters" : Str), v2)] := (put_past ne_letters__q_run').trans (congrArg _ ((put_past ne_letters__r_run').trans (congrArg _ (rfl))))
theorem F_Shape_slots : (F_Shape v0 v1 v2 v3).lookup ("slots" : Str) = some v3 := (lk_past ne_slots__q_run).trans ((lk_past ne_slots__r_run).trans ((lk_past ne_slots__letters).trans (lk_here)))
theorem F_Shape_put_slots : putF "slots" x (F_Shape v0 v1 v2 v3) = F_Shape v0 v1 v2 x := (put_past ne_slots__q_run').trans (congrArg _ ((put_past ne_slots__r_run').trans (congrArg _ ((put_past ne_slots__letters').trans (congrArg _ (put_here))))))
theorem F_Shape_ini_slots : putF "slots" v3 [(("q_run" : Str), v0), (("r_run" : Str), v1), (("letters" : Str), v2)] = [(("q_run" : Str), v0), (("r_run" : Str), v1), (("letters" : Str), v2), (("slots" : Str), v3)] := (put_past ne_slots__q_run').trans (congrArg _ ((put_past ne_slots__r_run').trans (congrArg _ ((put_past ne_slots__letters').trans (congrArg _ (rfl))))))
theorem F_Shape_no_fits : (F_Shape v0 v1 v2 v3).lookup ("fits" : Str) = none := (lk_past ne_fits__q_run).trans ((lk_past ne_fits__r_run).trans ((lk_past ne_fits__letters).trans ((lk_past ne_fits__slots).trans (rfl))))
theorem F_Shape_no_add_piece : (F_Shape v0 v1 v2 v3).lookup ("add_piece" : Str) = none := (lk_past ne_add_piece__q_run).trans ((lk_past ne_add_piece__r_run).trans ((lk_past ne_add_piece__letters).trans ((lk_past ne_add_piece__slots).trans (rfl))))
end
def F_Rule (v0 v1 v2 v3 : V) : List (Str × V) := [("base", v0), ("last", v1), ("divisor", v2), ("shapes", v3)]
section
variable {v0 v1 v2 v3 x : V}
theorem F_Rule_base : (F_Rule v0 v1 v2 v3).lookup ("base" : Str) = some v0 := lk_here
theorem F_Rule_put_base : putF "base" x (F_Rule v0 v1 v2 v3) = F_Rule x v1 v2 v3 := put_here
theorem F_Rule_ini_base : putF "base" v0 [] = [(("base" : Str), v0)] := rfl
theorem F_Rule_last : (F_Rule v0 v1 v2 v3).lookup ("last" : Str) = some v1 := (lk_past ne_last__base).trans (lk_here)
theorem F_Rule_put_last : putF "last" x (F_Rule v0 v1 v2 v3) = F_Rule v0 x v2 v3 := (put_past ne_last__base').trans (congrArg _ (put_here))
theorem F_Rule_ini_last : putF "last" v1 [(("base" : Str), v0)] = [(("base" : Str), v0), (("last" : Str), v1)] := (put_past ne_last__base').trans (congrArg _ (rfl))
theorem F_Rule_divisor : (F_Rule v0 v1 v2 v3).lookup ("divisor" : Str) = some v2 := (lk_past ne_divisor__base).trans ((lk_past ne_divisor__last).trans (lk_here))
theorem F_Rule_put_divisor : putF "divisor" x (F_Rule v0 v1 v2 v3) = F_Rule v0 v1 x v3 := (put_past ne_divisor__base').trans (congrArg _ ((put_past ne_divisor__last').trans (congrArg _ (put_here))))
theorem F_Rule_ini_divisor : putF "divisor" v2 [(("base" : Str), v0), (("last" : Str), v1)] = [(("base" : Str), v0), (("last" : Str), v1), (("divisor" : Str), v2)] := (put_past ne_divisor__base').trans (congrArg _ ((put_past ne_divisor__last').trans (congrArg _ (rfl))))
theorem F_Rule_shapes : (F_Rule v0 v1 v2 v3).lookup ("shapes" : Str) = some v3 := (lk_past ne_shapes__base).trans ((lk_past ne_shapes__last).trans ((lk_past ne_shapes__divisor).trans (lk_here)))
theorem F_Rule_put_shapes : putF "shapes" x (F_Rule v0 v1 v2 v3) = F_Rule v0 v1 v2 x := (put_past ne_shapes__base').trans (congrArg _ ((put_past ne_shapes__last').trans (congrArg _ ((put_past ne_shapes__divisor').trans (congrArg _ (put_here))))))
theorem F_Rule_ini_shapes : putF "shapes" v3 [(("base" : Str), v0), (("last" : Str), v1), (("divisor" : Str), v2)] = [(("base" : Str), v0), (("last" : Str), v1), (("divisor" : Str), v2), (("shapes" : Str), v3)] := (put_past ne_shapes__base').trans (congrArg _ ((put_past ne_shapes__last').trans (congrArg _ ((put_past ne_shapes__divisor').trans (congrArg _ (rfl))))))
end
def F_Stretch (v0 v1 v2 v3 v4 v5 : V) : List (Str × V) := [("by", v0), ("low", v1), ("high", v2), ("ways", v3), ("known_ends", v4), ("known_numbers", v5)]
section
variable {v0 v1 v2 v3 v4 v5 x : V}
theorem F_Stretch_by : (F_Stretch v0 v1 v2 v3 v4 v5).lookup ("by" : Str) = some v0 := lk_here
theorem F_Stretch_put_by : putF "by" x (F_Stretch v0 v1 v2 v3 v4 v5) = F_Stretch x v1 v2 v3 v4 v5 := put_here
theorem F_Stretch_ini_by : putF "by" v0 [] = [(("by" : Str), v0)] := rfl
theorem F_Stretch_low : (F_Stretch v0 v1 v2 v3 v4 v5).lookup ("low" : Str) = some v1 := (lk_past ne_low__by).trans (lk_here)
theorem F_Stretch_put_low : putF "low" x (F_Stretch v0 v1 v2 v3 v4 v5) = F_Stretch v0 x v2 v3 v4 v5 := (put_past ne_low__by').trans (congrArg _ (put_here))
theorem F_Stretch_ini_low : putF "low" v1 [(("by" : Str), v0)] = [(("by" : Str), v0), (("low" : Str), v1)] := (put_past ne_low__by').trans (congrArg _ (rfl))
theorem F_Stretch_high : (F_Stretch v0 v1 v2 v3 v4 v5).lookup ("high" : Str) = some v2 := (lk_past ne_high__by).trans ((lk_past ne_high__low).trans (lk_here))
theorem F_Stretch_put_high : putF "high" x (F_Stretch v0 v1 v2 v3 v4 v5) = F_Stretch v0 v1 x v3 v4 v5 := (put_past ne_high__by').trans (congrArg _ ((put_past ne_high__low').trans (congrArg _ (put_here))))
theorem F_Stretch_ini_high : putF "high" v2 [(("by" : Str), v0), (("low" : Str), v1)] = [(("by" : Str), v0), (("low" : Str), v1), (("high" : Str), v2)] := (put_past ne_high__by').trans (congrArg _ ((put_past ne_high__low').trans (congrArg _ (rfl))))
theorem F_Stretch_ways : (F_Stretch v0 v1 v2 v3 v4 v5).lookup ("ways" : Str) = some v3 := (lk_past ne_ways__by).trans ((lk_past ne_ways__low).trans ((lk_past ne_ways__high).trans (lk_here)))
theorem F_Stretch_put_ways : putF "ways" x (F_Stretch v0 v1 v2 v3 v4 v5) = F_Stretch v0 v1 v2 x v4 v5 := (put_past ne_ways__by').trans (congrArg _ ((put_past ne_ways__low').trans (congrArg _ ((put_past ne_ways__high').trans (congrArg _ (put_here))))))
theorem F_Stretch_ini_ways : putF "ways" v3 [(("by" : Str), v0), (("low" : Str), v1), (("high" : Str), v2)] = [(("by" : Str), v0), (("low" : Str), v1), (("high" : Str), v2), (("ways" : Str), v3)] := (put_past ne_ways__by').trans (congrArg _ ((put_past ne_ways__low').trans (congrArg _ ((put_past ne_ways__high').trans (congrArg _ (rfl))))))
theorem F_Stretch_known_ends : (F_Stretch v0 v1 v2 v3 v4 v5).lookup ("known_ends" : Str) = some v4 := (lk_past ne_known_ends__by).trans ((lk_past ne_known_ends__low).trans ((lk_past ne_known_ends__high).trans ((lk_past ne_known_ends__ways).trans (lk_here))))
theorem F_Stretch_put_known_ends : putF "known_ends" x (F_Stretch v0 v1 v2 v3 v4 v5) = F_Stretch v0 v1 v2 v3 x v5 := (put_past ne_known_ends__by').trans (congrArg _ ((put_past ne_known_ends__low').trans (congrArg _ ((put_past ne_known_ends__high').trans (congrArg _ ((put_past ne_known_ends__ways').trans (congrArg _ (put_here))))))))
theorem F_Stretch_ini_known_ends : putF "known_ends" v4 [(("by" : Str), v0), (("low" : Str), v1), (("high" : Str), v2), (("ways" : Str), v3)] = [(("by" : Str), v0), (("low" : Str), v1), (("high" : Str), v2), (("ways" : Str), v3), (("known_ends" : Str), v4)] := (put_past ne_known_ends__by').trans (congrArg _ ((put_past ne_known_ends__low').trans (congrArg _ ((put_past ne_known_ends__high').trans (congrArg _ ((put_past ne_known_ends__ways').trans (congrArg _ (rfl))))))))
theorem F_Stretch_known_numbers : (F_Stretch v0 v1 v2 v3 v4 v5).lookup ("known_numbers" : Str) = some v5 := (lk_past ne_known_numbers__by).trans ((lk_past ne_known_numbers__low).trans ((lk_past ne_known_numbers__high).trans ((lk_past ne_known_numbers__ways).trans ((lk_past ne_known_numbers__known_ends).trans (lk_here)))))
theorem F_Stretch_put_known_numbers : putF "known_numbers" x (F_Stretch v0 v1 v2 v3 v4 v5) = F_Stretch v0 v1 v2 v3 v4 x := (put_past ne_known_numbers__by').trans (congrArg _ ((put_past ne_known_numbers__low').trans (congrArg _ ((put_past ne_known_numbers__high').trans (congrArg _ ((put_past ne_known_numbers__ways').trans (congrArg _ ((put_past ne_known_numbers__known_ends').trans (congrArg _ (put_here))))))))))
theorem F_Stretch_ini_known_numbers : putF "known_numbers" v5 [(("by" : Str), v0), (("low" : Str), v1), (("high" : Str), v2), (("ways" : Str), v3), (("known_ends" : Str), v4)] = [(("by" : Str), v0), (("low" : Str), v1), (("high" : Str), v2), (("ways" : Str), v3), (("known_ends" : Str), v4), (("known_numbers" : Str), v5)] := (put_past ne_known_numbers__by').trans (congrArg _ ((put_past ne_known_numbers__low').trans (congrArg _ ((put_past ne_known_numbers__high').trans (congrArg _ ((put_past ne_known_numbers__ways').trans (congrArg _ ((put_past ne_known_numbers__known_ends').trans (congrArg _ (rfl))))))))))
end
def F_Way (v0 v1 v2 v3 v4 v5 : V) : List (Str × V) := [("fixed", v0), ("letters", v1), ("weights", v2), ("stretches", v3), ("masks", v4), ("known_ends", v5)]
section
variable {v0 v1 v2 v3 v4 v5 x : V}
theorem F_Way_fixed : (F_Way v0 v1 v2 v3 v4 v5).lookup ("fixed" : Str) = some v0 := lk_here
theorem F_Way_put_fixed : putF "fixed" x (F_Way v0 v1 v2 v3 v4 v5) = F_Way x v1 v2 v3 v4 v5 := put_here
theorem F_Way_ini_fixed : putF "fixed" v0 [] = [(("fixed" : Str), v0)] := rfl
theorem F_Way_letters : (F_Way v0 v1 v2 v3 v4 v5).lookup ("letters" : Str) = some v1 := (lk_past ne_letters__fixed).trans (lk_here)
theorem F_Way_put_letters : putF "letters" x (F_Way v0 v1 v2 v3 v4 v5) = F_Way v0 x v2 v3 v4 v5 := (put_past ne_letters__fixed').trans (congrArg _ (put_here))
theorem F_Way_ini_letters : putF "letters" v1 [(("fixed" : Str), v0)] = [(("fixed" : Str), v0), (("letters" : Str), v1)] := (put_past ne_letters__fixed').trans (congrArg _ (rfl))
theorem F_Way_weights : (F_Way v0 v1 v2 v3 v4 v5).lookup ("weights" : Str) = some v2 := (lk_past ne_weights__fixed).trans ((lk_past ne_weights__letters).trans (lk_here))
theorem F_Way_put_weights : putF "weights" x (F_Way v0 v1 v2 v3 v4 v5) = F_Way v0 v1 x v3 v4 v5 := (put_past ne_weights__fixed').trans (congrArg _ ((put_past ne_weights__letters').trans (congrArg _ (put_here))))
theorem F_Way_ini_weights : putF "weights" v2 [(("fixed" : Str), v0), (("letters" : Str), v1)] = [(("fixed" : Str), v0), (("letters" : Str), v1), (("weights" : Str), v2)] := (put_past ne_weights__fixed').trans (congrArg _ ((put_past ne_weights__letters').trans (congrArg _ (rfl))))
theorem F_Way_stretches : (F_Way v0 v1 v2 v3 v4 v5).lookup ("stretches" : Str) = some v3 := (lk_past ne_stretches__fixed).trans ((lk_past ne_stretches__letters).trans ((lk_past ne_stretches__weights).trans (lk_here)))
theorem F_Way_put_stretches : putF "stretches" x (F_Way v0 v1 v2 v3 v4 v5) = F_Way v0 v1 v2 x v4 v5 := (put_past ne_stretches__fixed').trans (congrArg _ ((put_past ne_stretches__letters').trans (congrArg _ ((put_past ne_stretches__weights').trans (congrArg _ (put_here))))))
theorem F_Way_ini_stretches : putF "stretches" v3 [(("fixed" : Str), v0), (("letters" : Str), v1), (("weights" : Str), v2)] = [(("fixed" : Str), v0), (("letters" : Str), v1), (("weights" : Str), v2), (("stretches" : Str), v3)] := (put_past ne_stretches__fixed').trans (congrArg _ ((put_past ne_stretches__letters').trans (congrArg _ ((put_past ne_stretches__weights').trans (congrArg _ (rfl))))))
theorem F_Way_masks : (F_Way v0 v1 v2 v3 v4 v5).lookup ("masks" : Str) = some v4 := (lk_past ne_masks__fixed).trans ((lk_past ne_masks__letters).trans ((lk_past ne_masks__weights).trans ((lk_past ne_masks__stretches).trans (lk_here))))
theorem F_Way_put_masks : putF "masks" x (F_Way v0 v1 v2 v3 v4 v5) = F_Way v0 v1 v2 v3 x v5 := (put_past ne_masks__fixed').trans (congrArg _ ((put_past ne_masks__letters').trans (congrArg _ ((put_past ne_masks__weights').trans (congrArg _ ((put_past ne_masks__stretches').trans (congrArg _ (put_here))))))))
theorem F_Way_ini_masks : putF "masks" v4 [(("fixed" : Str), v0), (("letters" : Str), v1), (("weights" : Str), v2), (("stretches" : Str), v3)] = [(("fixed" : Str), v0), (("letters" : Str), v1), (("weights" : Str), v2), (("stretches" : Str), v3), (("masks" : Str), v4)] := (put_past ne_masks__fixed').trans (congrArg _ ((put_past ne_masks__letters').trans (congrArg _ ((put_past ne_masks__weights').trans (congrArg _ ((put_past ne_masks__stretches').trans (congrArg _ (rfl))))))))
theorem F_Way_known_ends : (F_Way v0 v1 v2 v3 v4 v5).lookup ("known_ends" : Str) = some v5 := (lk_past ne_known_ends__fixed).trans ((lk_past ne_known_ends__letters).trans ((lk_past ne_known_ends__weights).trans ((lk_past ne_known_ends__stretches).trans ((lk_past ne_known_ends__masks).trans (lk_here)))))
theorem F_Way_put_known_ends : putF "known_ends" x (F_Way v0 v1 v2 v3 v4 v5) = F_Way v0 v1 v2 v3 v4 x := (put_past ne_known_ends__fixed').trans (congrArg _ ((put_past ne_known_ends__letters').trans (congrArg _ ((put_past ne_known_ends__weights').trans (congrArg _ ((put_past ne_known_ends__stretches').trans (congrArg _ ((put_past ne_known_ends__masks').trans (congrArg _ (put_here))))))))))
theorem F_Way_ini_known_ends : putF "known_ends" v5 [(("fixed" : Str), v0), (("letters" : Str), v1), (("weights" : Str), v2), (("stretches" : Str), v3), (("masks" : Str), v4)] = [(("fixed" : Str), v0), (("letters" : Str), v1), (("weights" : Str), v2), (("stretches" : Str), v3), (("masks" : Str), v4), (("known_ends" : Str), v5)] := (put_past ne_known_ends__fixed').trans (congrArg _ ((put_past ne_known_ends__letters').trans (congrArg _ ((put_past ne_known_ends__weights').trans (congrArg _ ((put_past ne_known_ends__stretches').trans (congrArg _ ((put_past ne_known_ends__masks').trans (congrArg _ (rfl))))))))))
theorem F_Way_no_add_slot : (F_Way v0 v1 v2 v3 v4 v5).lookup ("add_slot" : Str) = none := (lk_past ne_add_slot__fixed).trans ((lk_past ne_add_slot__letters).trans ((lk_past ne_add_slot__weights).trans ((lk_past ne_add_slot__stretches).trans ((lk_past ne_add_slot__masks).trans ((lk_past ne_add_slot__known_ends).trans (rfl))))))
end
def F_Stretches (v0 v1 v2 : V) : List (Str × V) := [("sets", v0), ("made_stretches", v1), ("made_ways", v2)]
section
variable {v0 v1 v2 x : V}
theorem F_Stretches_sets : (F_Stretches v0 v1 v2).lookup ("sets" : Str) = some v0 := lk_here
theorem F_Stretches_put_sets : putF "sets" x (F_Stretches v0 v1 v2) = F_Stretches x v1 v2 := put_here
theorem F_Stretches_ini_sets : putF "sets" v0 [] = [(("sets" : Str), v0)] := rfl
theorem F_Stretches_made_stretches : (F_Stretches v0 v1 v2).lookup ("made_stretches" : Str) = some v1 := (lk_past ne_made_stretches__sets).trans (lk_here)
theorem F_Stretches_put_made_stretches : putF "made_stretches" x (F_Stretches v0 v1 v2) = F_Stretches v0 x v2 := (put_past ne_made_stretches__sets').trans (congrArg _ (put_here))
theorem F_Stretches_ini_made_stretches : putF "made_stretches" v1 [(("sets" : Str), v0)] = [(("sets" : Str), v0), (("made_stretches" : Str), v1)] := (put_past ne_made_stretches__sets').trans (congrArg _ (rfl))
theorem F_Stretches_made_ways : (F_Stretches v0 v1 v2).lookup ("made_ways" : Str) = some v2 := (lk_past ne_made_ways__sets).trans ((lk_past ne_made_ways__made_stretches).trans (lk_here))
theorem F_Stretches_put_made_ways : putF "made_ways" x (F_Stretches v0 v1 v2) = F_Stretches v0 v1 x := (put_past ne_made_ways__sets').trans (congrArg _ ((put_past ne_made_ways__made_stretches').trans (congrArg _ (put_here))))
theorem F_Stretches_ini_made_ways : putF "made_ways" v2 [(("sets" : Str), v0), (("made_stretches" : Str), v1)] = [(("sets" : Str), v0), (("made_stretches" : Str), v1), (("made_ways" : Str), v2)] := (put_past ne_made_ways__sets').trans (congrArg _ ((put_past ne_made_ways__made_stretches').trans (congrArg _ (rfl))))
theorem F_Stretches_no_stretch : (F_Stretches v0 v1 v2).lookup ("stretch" : Str) = none := (lk_past ne_stretch__sets).trans ((lk_past ne_stretch__made_stretches).trans ((lk_past ne_stretch__made_ways).trans (rfl)))
theorem F_Stretches_no_ways_in : (F_Stretches v0 v1 v2).lookup ("ways_in" : Str) = none := (lk_past ne_ways_in__sets).trans ((lk_past ne_ways_in__made_stretches).trans ((lk_past ne_ways_in__made_ways).trans (rfl)))
theorem F_Stretches_no_rule_ways : (F_Stretches v0 v1 v2).lookup ("rule_ways" : Str) = none := (lk_past ne_rule_ways__sets).trans ((lk_past ne_rule_ways__made_stretches).trans ((lk_past ne_rule_ways__made_ways).trans (rfl)))
theorem F_Stretches_no_part_ways : (F_Stretches v0 v1 v2).lookup ("part_ways" : Str) = none := (lk_past ne_part_ways__sets).trans ((lk_past ne_part_ways__made_stretches).trans ((lk_past ne_part_ways__made_ways).trans (rfl)))
theorem F_Stretches_no_shape_way : (F_Stretches v0 v1 v2).lookup ("shape_way" : Str) = none := (lk_past ne_shape_way__sets).trans ((lk_past ne_shape_way__made_stretches).trans ((lk_past ne_shape_way__made_ways).trans (rfl)))
end
def F_Reading (v0 v1 v2 : V) : List (Str × V) := [("made", v0), ("size", v1), ("byte_masks", v2)]
section
variable {v0 v1 v2 x : V}
theorem F_Reading_made : (F_Reading v0 v1 v2).lookup ("made" : Str) = some v0 := lk_here
theorem F_Reading_put_made : putF "made" x (F_Reading v0 v1 v2) = F_Reading x v1 v2 := put_here
theorem F_Reading_ini_made : putF "made" v0 [] = [(("made" : Str), v0)] := rfl
theorem F_Reading_size : (F_Reading v0 v1 v2).lookup ("size" : Str) = some v1 := (lk_past ne_size__made).trans (lk_here)
theorem F_Reading_put_size : putF "size" x (F_Reading v0 v1 v2) = F_Reading v0 x v2 := (put_past ne_size__made').trans (congrArg _ (put_here))
theorem F_Reading_ini_size : putF "size" v1 [(("made" : Str), v0)] = [(("made" : Str), v0), (("size" : Str), v1)] := (put_past ne_size__made').trans (congrArg _ (rfl))
theorem F_Reading_byte_masks : (F_Reading v0 v1 v2).lookup ("byte_masks" : Str) = some v2 := (lk_past ne_byte_masks__made).trans ((lk_past ne_byte_masks__size).trans (lk_here))
theorem F_Reading_put_byte_masks : putF "byte_masks" x (F_Reading v0 v1 v2) = F_Reading v0 v1 x := (put_past ne_byte_masks__made').trans (congrArg _ ((put_past ne_byte_masks__size').trans (congrArg _ (put_here))))
theorem F_Reading_ini_byte_masks : putF "byte_masks" v2 [(("made" : Str), v0), (("size" : Str), v1)] = [(("made" : Str), v0), (("size" : Str), v1), (("byte_masks" : Str), v2)] := (put_past ne_byte_masks__made').trans (congrArg _ ((put_past ne_byte_masks__size').trans (congrArg _ (rfl))))
theorem F_Reading_no_mask_of : (F_Reading v0 v1 v2).lookup ("mask_of" : Str) = none := (lk_past ne_mask_of__made).trans ((lk_past ne_mask_of__size).trans ((lk_past ne_mask_of__byte_masks).trans (rfl)))
theorem F_Reading_no_ways_of : (F_Reading v0 v1 v2).lookup ("ways_of" : Str) = none := (lk_past ne_ways_of__made).trans ((lk_past ne_ways_of__size).trans ((lk_past ne_ways_of__byte_masks).trans (rfl)))
theorem F_Reading_no_ends_of : (F_Reading v0 v1 v2).lookup ("ends_of" : Str) = none := (lk_past ne_ends_of__made).trans ((lk_past ne_ends_of__size).trans ((lk_past ne_ends_of__byte_masks).trans (rfl)))
theorem F_Reading_no_ends_from : (F_Reading v0 v1 v2).lookup ("ends_from" : Str) = none := (lk_past ne_ends_from__made).trans ((lk_past ne_ends_from__size).trans ((lk_past ne_ends_from__byte_masks).trans (rfl)))
theorem F_Reading_no_way_ends : (F_Reading v0 v1 v2).lookup ("way_ends" : Str) = none := (lk_past ne_way_ends__made).trans ((lk_past ne_way_ends__size).trans ((lk_past ne_way_ends__byte_masks).trans (rfl)))
theorem F_Reading_no_can_be : (F_Reading v0 v1 v2).lookup ("can_be" : Str) = none := (lk_past ne_can_be__made).trans ((lk_past ne_can_be__size).trans ((lk_past ne_can_be__byte_masks).trans (rfl)))
theorem F_Reading_no_numbers_of : (F_Reading v0 v1 v2).lookup ("numbers_of" : Str) = none := (lk_past ne_numbers_of__made).trans ((lk_past ne_numbers_of__size).trans ((lk_past ne_numbers_of__byte_masks).trans (rfl)))
theorem F_Reading_no_way_numbers : (F_Reading v0 v1 v2).lookup ("way_numbers" : Str) = none := (lk_past ne_way_numbers__made).trans ((lk_past ne_way_numbers__size).trans ((lk_past ne_way_numbers__byte_masks).trans (rfl)))
theorem F_Reading_no_pair_numbers : (F_Reading v0 v1 v2).lookup ("pair_numbers" : Str) = none := (lk_past ne_pair_numbers__made).trans ((lk_past ne_pair_numbers__size).trans ((lk_past ne_pair_numbers__byte_masks).trans (rfl)))
end
end Sn
/-! lists that are read from the front -/
namespace Sn
open PySem PySem.Spec PyProof.Rows L2
def nums (l : List Nat) : List V := l.map fun (n : Nat) => V.int (n : Int)
theorem nums_length (l : List Nat) : (nums l).length = l.length := List.length_map _
theorem nums_get {l : List Nat} {i n : Nat} (h : l[i]? = some n) : (nums l)[i]? = some (.int (n : Int)) := by
  unfold nums
  rw [List.getElem?_map, h] <;> rfl
def rowF (l : Addr) (i : Nat) : List (Str × V) := F_Row (.ref l) (.int (i : Int))
section
variable {P : Program} {w : World} {K : PySem.W.Frag} {mg : Str → Option Value} {base : Heap} {A : Ad}
theorem seq_upd {H : Hp} {l a : Addr} {xs : List V} {C dx : Addr} {fs : List (Str × V)} {o : HO} (h : SqL K H l xs) (ha : H a = some (.ins C dx fs)) : SqL K (upd H a o) l xs := by
  rcases h with h | h
  · refine .inl ?_
    rcases h with h | ⟨o', h⟩
    · exact .inl (by rw [upd_ne (ne_of h ha (by intro z; cases z))]; exact h)
    · exact .inr ⟨o', by rw [upd_ne (ne_of h ha (by intro z; cases z))]; exact h⟩
  · exact .inr h
theorem cut_nat {xs : List V} {i j : Nat} (hj : j ≤ xs.length) (hi : i ≤ j) : cutV xs (some (i : Int)) (some (j : Int)) = (xs.drop i).take (j - i) := by
  have e : ∀ k : Nat, k ≤ xs.length → ∀ d, HT.sIx xs.length d (some (k : Int)) = k := fun k hk d => by
    rw [HT.sIx_nat]; exact Nat.min_eq_left hk
  unfold cutV
  rw [e i (by omega), e j hj]
def spRow_init (A : Ad) : Sp := fun vs H Q _ => ∃ (p dx l : Addr), vs = [.ref p, .ref l] ∧ H p = some (.ins A.C_Row dx []) ∧ Q .non (upd H p (.ins A.C_Row dx (rowF l 0)))
theorem ok_Row_init (T : Top K mg A) : FnOk P w K mg base CX0 1 A.f_Row_init A.d_Row_init P_Row_init (spRow_init A) := by
  refine T.F_Row_init.ok sc_Row_init (fun vs H Q E h => ?_) (fun cdv _ outer s H vs Q E hr h => ⟨_, (pss_cons (ps_fld (pv 0) (pv 1) rfl)
    (pss_one (ps_fld (pv 0) pe_int rfl))), ?_⟩)
  · obtain ⟨p, dx, l, rfl, _⟩ := h
    rfl
  obtain ⟨p, dx, l, rfl, hp, q⟩ := h
  refine ⟨_, rfl, _, rfl, _, _, _, _, rfl, hp, T.c_Row, T.n_Row_numbers, (by decide), ?_⟩
  refine ⟨_, rfl, p, A.C_Row, dx, _, rfl, upd_same, T.c_Row, T.n_Row_place, (by rw [F_Row_ini_numbers]; show 1 < 1000; decide), ?_⟩
  rw [upd_upd, F_Row_ini_numbers, F_Row_ini_place]
  exact q
def spRow_has_more (A : Ad) (K : PySem.W.Frag) : Sp := fun vs H Q _ => ∃ (a dx l : Addr) (xs : List Nat) (i : Nat), vs = [.ref a] ∧ H a = some (.ins A.C_Row dx (rowF l i)) ∧ SqL K H l (nums xs) ∧ Q (.bl (decide (i < xs.length))) H
theorem ok_Row_has_more (T : Top K mg A) : FnOk P w K mg base CX0 1 A.f_Row_has_more A.d_Row_has_more P_Row_has_more (spRow_has_more A K) := by
  refine T.F_Row_has_more.ok sc_Row_has_more (fun vs H Q E h => ?_) (fun cdv _ outer s H vs Q E hr h => ⟨_, (pss_one (ps_ret (pe_cmpR op_lt (pe_fld (pv 0) rfl) (pe_callB call_len_seq (by rfl) T.n_len PySem.boot_len (pa_cons (pe_fld (pv 0) rfl) pa_nil)) (nomark _)))), ?_⟩)
  · obtain ⟨p, dx, l, xs, i, rfl, _⟩ := h
    rfl
  obtain ⟨a, dx, l, xs, i, rfl, ha, hS, q⟩ := h
  refine ⟨_, rfl, _, _, _, _, _, rfl, ha, T.c_Row, T.n_Row_place, F_Row_place, _, rfl, _, _, _, _, _, rfl, ha, T.c_Row, T.n_Row_numbers, F_Row_numbers, l, _, rfl, .inl hS, _, _, rfl, rfl, ?_⟩
  have e : decide ((i : Int) < ((nums xs).length : Int)) = decide (i < xs.length) := by rw [nums_length]; exact decide_eq_decide.mpr (by omega)
  show Q (.bl (decide ((i : Int) < ((nums xs).length : Int)))) H
  rw [e]; exact q
def spRow_one (A : Ad) (K : PySem.W.Frag) : Sp := fun vs H Q _ => ∃ (a dx l : Addr) (xs : List Nat) (i n : Nat), vs = [.ref a] ∧ H a = some (.ins A.C_Row dx (rowF l i)) ∧ SqL K H l (nums xs) ∧ xs[i]? = some n ∧ Q (.int (n : Int)) (upd H a (.ins A.C_Row dx (rowF l (i + 1))))
theorem ok_Row_one (T : Top K mg A) : FnOk P w K mg base CX0 1 A.f_Row_one A.d_Row_one P_Row_one (spRow_one A K) := by
  refine T.F_Row_one.ok sc_Row_one (fun vs H Q E h => ?_) (fun cdv _ outer s H vs Q E hr h => ⟨_, (pss_cons (ps_fldaug (pv 0) pe_int in_add)
    (pss_one (ps_ret (pe_ix ix_list (pe_fld (pv 0) rfl) (pe_op op_sub (pe_fld (pv 0) rfl) pe_int) (fun _ _ => rfl))))), ?_⟩)
  · obtain ⟨p, dx, l, xs, i, n, rfl, _⟩ := h
    rfl
  obtain ⟨a, dx, l, xs, i, n, rfl, ha, hS, hn, q⟩ := h
  refine ⟨_, rfl, a, A.C_Row, dx, _, _, rfl, ha, T.c_Row, T.n_Row_place, F_Row_place, _, _, rfl, rfl, _, _, ha, (by show 2 < 1000; decide), ?_⟩
  have e : putF "place" (V.int ((i : Int) + 1)) (rowF l i) = rowF l (i + 1) := F_Row_put_place.trans (by rw [← Int.natCast_succ] <;> rfl)
  rw [e]
  have h1 : upd H a (.ins A.C_Row dx (rowF l (i + 1))) a = some (.ins A.C_Row dx (rowF l (i + 1))) := upd_same
  refine ⟨_, rfl, _, _, _, _, _, rfl, h1, T.c_Row, T.n_Row_numbers, F_Row_numbers, _, rfl, _, _, _, _, _, rfl, h1, T.c_Row, T.n_Row_place, F_Row_place, _, _, rfl, rfl, l, _, _, _, rfl, rfl, seq_upd hS ha, ?_, q⟩
  have z : ((i + 1 : Nat) : Int) - 1 = (i : Int) := by omega
  show atI (nums xs) (((i + 1 : Nat) : Int) - 1) = _
  rw [z]
  exact atI_nat (nums_get hn)
def spRow_told (A : Ad) (K : PySem.W.Frag) : Sp := fun vs H Q _ => ∃ (a dx l : Addr) (xs : List Nat) (i c : Nat), vs = [.ref a] ∧ H a = some (.ins A.C_Row dx (rowF l i)) ∧ SqL K H l (nums xs) ∧ xs[i]? = some c ∧ i + 1 + c ≤ xs.length ∧
  ∀ p, H p = none → Q (.ref p) (upd (upd H a (.ins A.C_Row dx (rowF l (i + 1 + c)))) p (.lst (nums ((xs.drop (i + 1)).take c))))
theorem ok_Row_told (T : Top K mg A) : FnOk P w K mg base CX0 2 A.f_Row_told A.d_Row_told P_Row_told (spRow_told A K) := by
  refine T.F_Row_told.ok sc_Row_told (fun vs H Q E h => ?_) (fun cdv _ outer s H vs Q E hr h => ⟨_, (pss_cons (ps_set (i := 1) sc_Row_told.nd rfl (Or.inl rfl) (pe_meth0 (pv 0) T.c_Row T.M_Row_one (ok_Row_one T) (hr.mono (by omega)) (b_Row_one T) .nil pass0))
    (pss_cons (ps_fldaug (pv 0) (pv 1) in_add)
    (pss_one (ps_ret (pe_slice sl_list (pe_fld (pv 0) rfl) (po_some (pe_op op_sub (pe_fld (pv 0) rfl) (pv 1))) (po_some (pe_fld (pv 0) rfl))))))), ?_⟩)
  · obtain ⟨p, dx, l, xs, i, n, rfl, _⟩ := h
    rfl
  obtain ⟨a, dx, l, xs, i, c, rfl, ha, hS, hn, hl, q⟩ := h
  refine ⟨_, rfl, _, _, _, rfl, ha, F_Row_no_one, a, dx, l, xs, i, c, rfl, ha, hS, hn, ?_⟩
  have h1 : upd H a (.ins A.C_Row dx (rowF l (i + 1))) a = some (.ins A.C_Row dx (rowF l (i + 1))) := upd_same
  refine ⟨_, rfl, a, A.C_Row, dx, _, _, rfl, h1, T.c_Row, T.n_Row_place, F_Row_place, _, rfl, _, _, rfl, rfl, _, _, h1, (by show 2 < 1000; decide), ?_⟩
  have e : putF "place" (V.int (((i + 1 : Nat) : Int) + (c : Int))) (rowF l (i + 1)) = rowF l (i + 1 + c) := F_Row_put_place.trans (by rw [← Int.natCast_add] <;> rfl)
  rw [upd_upd]
  rw [e]
  have h2 : upd H a (.ins A.C_Row dx (rowF l (i + 1 + c))) a = some (.ins A.C_Row dx (rowF l (i + 1 + c))) := upd_same
  refine ⟨_, rfl, _, _, _, _, _, rfl, h2, T.c_Row, T.n_Row_numbers, F_Row_numbers, _, rfl, _, _, _, _, _, rfl, h2, T.c_Row, T.n_Row_place, F_Row_place, _, rfl, _, _, rfl, rfl, _, rfl, _, rfl, _, _, _, _, _, rfl, h2, T.c_Row, T.n_Row_place, F_Row_place, _, rfl, l, _, rfl, seq_upd hS ha, fun p hp => ?_⟩
  have hp' : H p = none := by
    have : p ≠ a := fun z => by rw [z, h2] at hp; cases hp
    rwa [upd_ne this] at hp
  have e2 : cutV (nums xs) (some (((i + 1 + c : Nat) : Int) - (c : Int))) (some ((i + 1 + c : Nat) : Int)) = nums ((xs.drop (i + 1)).take c) := by
    have z1 : ((i + 1 + c : Nat) : Int) - (c : Int) = ((i + 1 : Nat) : Int) := by omega
    rw [z1, cut_nat (by rw [nums_length]; omega) (by omega)]
    unfold nums
    rw [← List.map_drop, ← List.map_take]
    congr 2
    omega
  have := q p hp'
  show Q _ (upd _ p (.lst (cutV (nums xs) (some (((i + 1 + c : Nat) : Int) - (c : Int))) (some ((i + 1 + c : Nat) : Int)))))
  rw [e2]
  exact this
end
end Sn
/-! Facts of the specification alone: what a set says, and that reading gives just the numbers that are said so. -/
namespace SpecMath
open Sw64

/-- all sets are as the document tells -/
def Good (S : Sets) : Prop := ∀ k, setOk (S.getD k []) = true

theorem Good.rule {S : Sets} (g : Good S) {k : Nat} {R : Rule} (h : R ∈ S.getD k []) : ruleOk R = true := by
  have h1 := g k
  simp only [setOk, Bool.and_eq_true, List.all_eq_true] at h1
  exact h1.2.1 R h
theorem Good.rising {S : Sets} (g : Good S) (k : Nat) : rising ((S.getD k []).map fun r => r.base) = true := by
  have h1 := g k
  simp only [setOk, Bool.and_eq_true] at h1
  exact h1.2.2

theorem rule_base {R : Rule} (h : ruleOk R = true) : R.base ≤ MOST := by
  simp only [ruleOk, Bool.and_eq_true, decide_eq_true_eq] at h
  exact h.1
theorem rule_pieces {R : Rule} (h : ruleOk R = true) : R.pieces.length ≤ 8 ∧ ∀ x ∈ R.pieces, pieceOk x = true := by
  simp only [ruleOk, Bool.and_eq_true, decide_eq_true_eq, List.all_eq_true] at h
  exact ⟨h.2.1, h.2.2.1⟩
theorem rule_by {R : Rule} (h : ruleOk R = true) (h0 : R.by_ ≠ 0) : 2 ≤ R.by_ ∧ R.by_ ≤ R.base ∧ marked R = true ∧ (R.pieces.filter fun x => isTimes x.2).length ≤ 1 ∧ (R.pieces.filter fun x => isLeft x.2).length = 1 := by
  simp only [ruleOk, Bool.and_eq_true, decide_eq_true_eq, if_neg h0] at h
  exact ⟨h.2.2.2.1, h.2.2.2.2.1, h.2.2.2.2.2.1, h.2.2.2.2.2.2.1, h.2.2.2.2.2.2.2⟩

/-! ### the rule that a number falls to -/
theorem ruleFor_mem {s : RSet} {n : Nat} {R : Rule} (h : ruleFor s n = some R) : R ∈ s ∧ R.base ≤ n := by
  unfold ruleFor at h
  have := List.mem_of_getLast? h
  simpa using this

theorem rising_tail {a : Nat} {l : List Nat} (h : rising (a :: l) = true) : rising l = true := by
  cases l with
  | nil => rfl
  | cons b l => simp only [rising, Bool.and_eq_true] at h; exact h.2
theorem rising_lt : ∀ {a : Nat} {l : List Nat}, rising (a :: l) = true → ∀ x ∈ l, a < x
  | _, [], _, _, h => absurd h (List.not_mem_nil)
  | a, b :: l, h, x, hx => by
    simp only [rising, Bool.and_eq_true, decide_eq_true_eq] at h
    cases hx with
    | head => exact h.1
    | tail _ hx => exact Nat.lt_trans h.1 (rising_lt h.2 x hx)

theorem ruleFor_cons {R : Rule} {s : RSet} {n : Nat} (h : rising ((R :: s).map fun r => r.base) = true) :
    ruleFor (R :: s) n = if R.base ≤ n then (match ruleFor s n with | some x => some x | none => some R) else none := by
  unfold ruleFor
  by_cases c : R.base ≤ n
  · rw [if_pos c, List.filter_cons_of_pos (by simpa using c), List.getLast?_cons]
    cases (List.filter (fun r => decide (r.base ≤ n)) s).getLast? <;> rfl
  · rw [if_neg c, List.filter_cons_of_neg (by simpa using c)]
    have : List.filter (fun r => decide (r.base ≤ n)) s = [] := by
      rw [List.filter_eq_nil_iff]
      intro x hx
      have : R.base < x.base := rising_lt h x.base (List.mem_map_of_mem hx)
      simp; omega
    rw [this]; rfl
theorem upTo_cons {R X : Rule} {s : RSet} (h : rising ((R :: s).map fun r => r.base) = true) (hX : X ∈ s) : upTo (R :: s) X = upTo s X := by
  have : R.base < X.base := rising_lt h X.base (List.mem_map_of_mem hX)
  unfold upTo
  rw [List.filter_cons_of_neg (by simp; omega)]
theorem upTo_head {R : Rule} {s : RSet} (h : rising ((R :: s).map fun r => r.base) = true) : upTo (R :: s) R = match s with | [] => MOST | X :: _ => X.base - 1 := by
  unfold upTo
  rw [List.filter_cons_of_neg (by simp)]
  have : List.filter (fun x => decide (R.base < x.base)) s = s := by
    rw [List.filter_eq_self]
    intro x hx
    have := rising_lt h x.base (List.mem_map_of_mem hx)
    simpa using this
  rw [this]
  cases s <;> rfl
/-- the last rule whose base isn't above n is the one whose stretch holds n -/
theorem ruleFor_iff : ∀ {s : RSet} {n : Nat} {R : Rule}, rising (s.map fun r => r.base) = true → n ≤ MOST → (ruleFor s n = some R ↔ R ∈ s ∧ R.base ≤ n ∧ n ≤ upTo s R)
  | [], n, R, _, _ => by simp [ruleFor]
  | X :: s, n, R, h, hn => by
    have ht : rising (s.map fun r => r.base) = true := rising_tail h
    have ih := fun R => ruleFor_iff (s := s) (n := n) (R := R) ht hn
    rw [ruleFor_cons h]
    constructor
    · intro e
      by_cases c : X.base ≤ n
      · rw [if_pos c] at e
        cases e2 : ruleFor s n with
        | some Y =>
          rw [e2] at e
          cases e
          obtain ⟨h1, h2, h3⟩ := (ih R).mp e2
          exact ⟨List.mem_cons_of_mem _ h1, h2, by rw [upTo_cons h h1]; exact h3⟩
        | none =>
          rw [e2] at e
          cases e
          refine ⟨List.mem_cons_self, c, ?_⟩
          rw [upTo_head h]
          cases s with
          | nil => exact hn
          | cons Y s =>
            show n ≤ Y.base - 1
            rw [ruleFor_cons ht] at e2
            by_cases d : Y.base ≤ n
            · rw [if_pos d] at e2
              cases e3 : ruleFor s n <;> rw [e3] at e2 <;> cases e2
            · omega
      · rw [if_neg c] at e; cases e
    · rintro ⟨h1, h2, h3⟩
      cases h1 with
      | head =>
        rw [if_pos h2]
        have : ruleFor s n = none := by
          rw [upTo_head h] at h3
          cases s with
          | nil => rfl
          | cons Y s =>
            have hb : X.base < Y.base := rising_lt h Y.base (by simp)
            rw [ruleFor_cons ht, if_neg (by simp only at h3; omega)]
        rw [this]
      | tail _ h1 =>
        have hb : X.base < R.base := rising_lt h R.base (List.mem_map_of_mem h1)
        rw [upTo_cons h h1] at h3
        have := (ih R).mpr ⟨h1, h2, h3⟩
        rw [if_pos (by omega), this]

/-! ### said, unfolded -/
/-- what one piece says -/
def sayP (g : Nat → Nat → Option Bytes) (q r : Nat) : Piece → Option Bytes
  | .text b => some b
  | .times j => g j q
  | .left j => g j r
/-- one turn of say over any function for the parts -/
def body (S : Sets) (g : Nat → Nat → Option Bytes) (k n : Nat) : Option Bytes := (ruleFor (S.getD k []) n).bind fun R =>
  if R.by_ = 0 then (if n = R.base then join (R.pieces.map fun x => match x.2 with
    | .text b => some b
    | _ => none) else none)
  else if n / R.by_ ≠ 1 ∧ (R.pieces.any fun x => isTimes x.2) = false then none else
    join (((R.pieces.filter fun x => stands (n / R.by_) (n % R.by_) x.1).map fun x => x.2).map (sayP g (n / R.by_) (n % R.by_)))
theorem say_body (S : Sets) (f k n : Nat) : say S (f + 1) k n = body S (say S f) k n := by
  unfold body
  rw [say]
  cases ruleFor (S.getD k []) n with
  | none => rfl
  | some R =>
    simp only [Option.bind_some]
    split
    · rfl
    · split
      · rfl
      · rw [List.map_map]
        congr 1
theorem part_lt {n d f : Nat} (hd : 2 ≤ d) (hdn : d ≤ n) (h : n < 2 ^ (f + 1)) : n / d < 2 ^ f ∧ n % d < 2 ^ f := by
  have h1 : n / d ≤ n / 2 := Nat.div_le_div_left hd (by decide)
  have h2 : n % d < d := Nat.mod_lt _ (by omega)
  have h3 := Nat.div_add_mod n d
  have h4 : 1 ≤ n / d := (Nat.le_div_iff_mul_le (by omega)).mpr (by omega)
  have h5 : d * 1 ≤ d * (n / d) := Nat.mul_le_mul_left d h4
  rw [Nat.pow_succ] at h
  constructor <;> omega
theorem body_congr {S : Sets} (G : Good S) {g g' : Nat → Nat → Option Bytes} {f n : Nat} (k : Nat) (hn : n < 2 ^ (f + 1)) (h : ∀ j m, m < 2 ^ f → g j m = g' j m) : body S g k n = body S g' k n := by
  unfold body
  cases e : ruleFor (S.getD k []) n with
  | none => rfl
  | some R =>
    obtain ⟨hm, hb⟩ := ruleFor_mem e
    simp only [Option.bind_some]
    by_cases h0 : R.by_ = 0
    · rw [if_pos h0, if_pos h0]
    · rw [if_neg h0, if_neg h0]
      obtain ⟨h2, h3, _⟩ := rule_by (G.rule hm) h0
      obtain ⟨p1, p2⟩ := part_lt h2 (by omega) hn
      split
      · rfl
      · congr 1
        apply List.map_congr_left
        intro x _
        cases x <;> simp only [sayP]
        · exact h _ _ p1
        · exact h _ _ p2
theorem body_small {S : Sets} (G : Good S) (g g' : Nat → Nat → Option Bytes) {n : Nat} (k : Nat) (hn : n < 2) : body S g k n = body S g' k n := by
  unfold body
  cases e : ruleFor (S.getD k []) n with
  | none => rfl
  | some R =>
    obtain ⟨hm, hb⟩ := ruleFor_mem e
    simp only [Option.bind_some]
    by_cases h0 : R.by_ = 0
    · rw [if_pos h0, if_pos h0]
    · obtain ⟨h2, h3, _⟩ := rule_by (G.rule hm) h0
      omega
theorem say_more {S : Sets} (G : Good S) : ∀ (f k n : Nat), n < 2 ^ (f + 1) → ∀ f', f ≤ f' → say S (f + 1) k n = say S (f' + 1) k n
  | 0, k, n, hn, f', _ => by rw [say_body, say_body]; exact body_small G _ _ k (by simpa using hn)
  | f + 1, k, n, hn, 0, h => by omega
  | f + 1, k, n, hn, f' + 1, h => by
    rw [say_body, say_body]
    exact body_congr G (f := f + 1) k hn fun j m hm => say_more G f j m hm f' (by omega)
theorem said_of {S : Sets} (G : Good S) {f k n : Nat} (hn : n < 2 ^ (f + 1)) (hf : f + 1 ≤ 20000) : say S (f + 1) k n = said S k n :=
  say_more G f k n hn 19999 (by omega)
theorem MOST_lt : MOST < 2 ^ 50 := by decide
theorem said_body {S : Sets} (G : Good S) {k n : Nat} (hn : n < 2 ^ 60) : said S k n = body S (said S) k n := by
  rw [← said_of G (f := 60) (k := k) (n := n) (Nat.lt_trans hn (by decide)) (by decide), say_body]
  exact body_congr G (f := 60) k (Nat.lt_trans hn (by decide)) fun j m hm => said_of G (f := 59) hm (by decide)
end SpecMath
/-! the program's rules, shapes, as plain Lean -/
namespace Sn
open Sw64
def wc : When → Nat
  | .always => 0 | .rest => 1 | .even => 2 | .many => 3 | .once => 4
theorem wc_inj {a b : When} (h : wc a = wc b) : a = b := by cases a <;> cases b <;> first | rfl | cases h
def pk : Piece → Nat
  | .text _ => 0 | .times _ => 1 | .left _ => 2
def plet : Piece → Bytes
  | .text b => b | _ => []
def pby : Piece → Nat
  | .text _ => 0 | .times k => k | .left k => k
abbrev Pc := When × Piece
structure Sh where
  q : Nat × Nat
  r : Nat × Nat
  /-- the letters ahead of each slot; those behind the last -/
  ls : List Bytes
  lz : Bytes
  sl : List Piece
/-- all letters, as the program keeps them -/
def Sh.letters (s : Sh) : List Bytes := s.ls ++ [s.lz]
def Sh.new (q r : Nat × Nat) : Sh := ⟨q, r, [], [], []⟩
def Sh.add (s : Sh) : Piece → Sh
  | .text b => { s with lz := s.lz ++ b }
  | p => { s with ls := s.ls ++ [s.lz], lz := [], sl := s.sl ++ [p] }
def qruns (ps : List Pc) : List (Nat × Nat) :=
  if (ps.any fun x => decide (pk x.2 = 1)) = false then [(1, 1)]
  else if (ps.any fun x => decide (wc x.1 = 3) || decide (wc x.1 = 4)) = true then [(1, 1), (2, MOST)] else [(1, MOST)]
def rruns (ps : List Pc) : List (Nat × Nat) :=
  if (ps.any fun x => decide (wc x.1 = 1) || decide (wc x.1 = 2)) = true then [(0, 0), (1, MOST)] else [(0, MOST)]
def stand (ps : List Pc) (q r : Nat) : List Piece := (ps.filter fun x => stands q r x.1).map fun x => x.2
def shOf (ps : List Pc) (q r : Nat × Nat) : Sh := (stand ps q.1 r.1).foldl Sh.add (Sh.new q r)
def shapesOf (ps : List Pc) : List Sh := (qruns ps).flatMap fun q => (rruns ps).map (shOf ps q)
def Sh.fits (s : Sh) (q r : Nat) : Bool := decide (s.q.1 ≤ q ∧ q ≤ s.q.2) && decide (s.r.1 ≤ r ∧ r ≤ s.r.2)
end Sn
/-! how the program's things lie in the heap -/
namespace Sn
open PySem PySem.Spec PyProof.Rows L2
/-! ### parts of heaps -/
theorem Same.rfl {H : Hp} : Same H H := fun _ _ h => h
theorem Same.upd_new {F H : Hp} {p : Addr} {o : HO} (h : Same F H) (hp : F p = none) : Same F (upd H p o) := fun b u q => by
  rw [upd_ne (ne_of_none q hp)]; exact h b u q
theorem same_new {H : Hp} {p : Addr} (h : H p = none) (o : HO) : Same H (upd H p o) := fun b u q => by rw [upd_ne (ne_of_none q h)]; exact q
theorem Same.free {F H : Hp} {p : Addr} (h : Same F H) (hp : H p = none) : F p = none := by
  cases e : F p with
  | none => exact Eq.refl none
  | some o => rw [h p o e] at hp; cases hp
/-- what is new in H' -/
def Nw (H H' : Hp) : Hp := fun b => match H b with
  | none => H' b
  | some _ => none
theorem Nw.at {H H' : Hp} {b : Addr} {o : HO} (h : H b = none) (h' : H' b = some o) : Nw H H' b = some o := by unfold Nw; rw [h]; exact h'
theorem Nw.old {H H' : Hp} {b : Addr} {o : HO} (h : Nw H H' b = some o) : H b = none := by
  unfold Nw at h
  cases e : H b with
  | none => exact Eq.refl none
  | some _ => rw [e] at h; cases h
theorem Nw.is {H H' : Hp} {b : Addr} {o : HO} (h : Nw H H' b = some o) : H' b = some o := by
  have e := Nw.old h
  unfold Nw at h
  rw [e] at h; exact h
theorem Nw.same {H H' : Hp} : Same (Nw H H') H' := fun _ _ h => Nw.is h
/-- all that H tracks is still tracked -/
def Dom (H H' : Hp) : Prop := ∀ b, H' b = none → H b = none
theorem Dom.rfl {H : Hp} : Dom H H := fun _ h => h
theorem Dom.trans {H H1 H2 : Hp} (a : Dom H H1) (b : Dom H1 H2) : Dom H H2 := fun x h => a x (b x h)
theorem Same.dom {H H' : Hp} (h : Same H H') : Dom H H' := fun _ e => Same.free h e
theorem Dom.upd {H H' : Hp} {a : Addr} {o : HO} (h : Dom H H') : Dom H (upd H' a o) := fun b e => by
  by_cases c : b = a
  · subst c; rw [upd_same] at e; cases e
  · rw [upd_ne c] at e; exact h b e
theorem Nw.back {H H1 H2 : Hp} (d : Dom H H1) : Same (Nw H1 H2) (Nw H H2) := fun b _ h => Nw.at (d b (Nw.old h)) (Nw.is h)
theorem Nw.fwd {H H1 H2 : Hp} (h : ∀ b o, H b = none → H1 b = some o → H2 b = some o) : Same (Nw H H1) (Nw H H2) := fun b o q => Nw.at (Nw.old q) (h b o (Nw.old q) (Nw.is q))
/-- H but for some places -/
def Keep (S : Addr → Prop) (H H' : Hp) : Prop := ∀ b o, H b = some o → ¬ S b → H' b = some o
/-- H without a place -/
def Wo (H : Hp) (a : Addr) : Hp := fun b => if b = a then none else H b
theorem Wo.ne {H : Hp} {a b : Addr} (h : b ≠ a) : Wo H a b = H b := if_neg h
theorem Wo.eq {H : Hp} {a : Addr} : Wo H a a = none := if_pos (Eq.refl a)
theorem Wo.same {H : Hp} {a : Addr} : Same (Wo H a) H := fun b o h => by
  by_cases c : b = a
  · subst c; rw [Wo.eq] at h; cases h
  · rw [Wo.ne c] at h; exact h
theorem seq_same {K : PySem.W.Frag} {H H' : Hp} {a : Addr} {xs : List V} (e : Same H H') (h : SqL K H a xs) : SqL K H' a xs := e.seq h
/-! ### lists of objects -/
def refs (as : List Addr) : List V := as.map V.ref
theorem refs_get {as : List Addr} {i : Nat} {a : Addr} (h : as[i]? = some a) : (refs as)[i]? = some (.ref a) := by
  unfold refs; rw [List.getElem?_map, h] <;> exact Eq.refl _
theorem refs_length (as : List Addr) : (refs as).length = as.length := List.length_map _
inductive All2 {α : Type} (R : Addr → α → Prop) : List Addr → List α → Prop
  | nil : All2 R [] []
  | cons {a : Addr} {x : α} {as : List Addr} {xs : List α} : R a x → All2 R as xs → All2 R (a :: as) (x :: xs)
theorem All2.mono {α : Type} {R R' : Addr → α → Prop} {as : List Addr} {xs : List α} (h : All2 R as xs) (m : ∀ a x, a ∈ as → x ∈ xs → R a x → R' a x) : All2 R' as xs := by
  induction h with
  | nil => exact .nil
  | cons h1 _ ih => exact .cons (m _ _ List.mem_cons_self List.mem_cons_self h1) (ih fun a x ha hx => m a x (List.mem_cons_of_mem _ ha) (List.mem_cons_of_mem _ hx))
theorem All2.length {α : Type} {R : Addr → α → Prop} {as : List Addr} {xs : List α} (h : All2 R as xs) : as.length = xs.length := by
  induction h with
  | nil => exact Eq.refl _
  | cons _ _ ih => rw [List.length_cons, List.length_cons, ih]
theorem All2.get {α : Type} {R : Addr → α → Prop} {as : List Addr} {xs : List α} (h : All2 R as xs) : ∀ {i : Nat} {a : Addr}, as[i]? = some a → ∃ x, xs[i]? = some x ∧ R a x := by
  induction h with
  | nil => intro i a e; simp at e
  | cons h1 _ ih =>
    intro i a e
    cases i with
    | zero => simp at e; subst e; exact ⟨_, Eq.refl _, h1⟩
    | succ i => simp at e; obtain ⟨x, h2, h3⟩ := ih e; exact ⟨x, by simpa using h2, h3⟩
theorem All2.getx {α : Type} {R : Addr → α → Prop} {as : List Addr} {xs : List α} (h : All2 R as xs) : ∀ {i : Nat} {x : α}, xs[i]? = some x → ∃ a, as[i]? = some a ∧ R a x := by
  induction h with
  | nil => intro i a e; simp at e
  | cons h1 _ ih =>
    intro i a e
    cases i with
    | zero => simp at e; subst e; exact ⟨_, Eq.refl _, h1⟩
    | succ i => simp at e; obtain ⟨x, h2, h3⟩ := ih e; exact ⟨x, by simpa using h2, h3⟩
theorem All2.append {α : Type} {R : Addr → α → Prop} {as bs : List Addr} {xs ys : List α} (h : All2 R as xs) (h' : All2 R bs ys) : All2 R (as ++ bs) (xs ++ ys) := by
  induction h with
  | nil => exact h'
  | cons h1 _ ih => exact .cons h1 ih
theorem All2.snoc {α : Type} {R : Addr → α → Prop} {as : List Addr} {xs : List α} {a : Addr} {x : α} (h : All2 R as xs) (h1 : R a x) : All2 R (as ++ [a]) (xs ++ [x]) := h.append (.cons h1 .nil)
theorem All2.take {α : Type} {R : Addr → α → Prop} {as : List Addr} {xs : List α} (h : All2 R as xs) : ∀ n, All2 R (as.take n) (xs.take n) := by
  induction h with
  | nil => intro n; simp; exact .nil
  | cons h1 _ ih =>
    intro n
    cases n with
    | zero => exact .nil
    | succ n => exact .cons h1 (ih n)
theorem All2.drop {α : Type} {R : Addr → α → Prop} {as : List Addr} {xs : List α} (h : All2 R as xs) : ∀ n, All2 R (as.drop n) (xs.drop n) := by
  induction h with
  | nil => intro n; simp; exact .nil
  | cons h1 h2 ih =>
    intro n
    cases n with
    | zero => exact .cons h1 h2
    | succ n => exact ih n
theorem All2.map {α β : Type} {R : Addr → α → Prop} {R' : Addr → β → Prop} {f : α → β} {as : List Addr} {xs : List α} (h : All2 R as xs) (m : ∀ a x, R a x → R' a (f x)) : All2 R' as (xs.map f) := by
  induction h with
  | nil => exact .nil
  | cons h1 _ ih => exact .cons (m _ _ h1) ih
/-! ### bytes -/
def bnums (b : Sw64.Bytes) : List V := nums (b.map UInt8.toNat)
theorem bnums_length (b : Sw64.Bytes) : (bnums b).length = b.length := by unfold bnums; rw [nums_length, List.length_map]
theorem bnums_append (a b : Sw64.Bytes) : bnums (a ++ b) = bnums a ++ bnums b := by unfold bnums nums; rw [List.map_append, List.map_append]
def BytesAt (H : Hp) (l : Addr) (b : Sw64.Bytes) : Prop := H l = some (.lst (bnums b))
/-! ### pieces, shapes, rules -/
def pieceF (x : Pc) (l : Addr) : List (Str × V) := F_Piece (.int (wc x.1 : Nat)) (.int (pk x.2 : Nat)) (.ref l) (.int (pby x.2 : Nat))
def PieceAt (A : Ad) (H : Hp) (a : Addr) (x : Pc) : Prop := ∃ dx l, H a = some (.ins A.C_Piece dx (pieceF x l)) ∧ BytesAt H l (plet x.2)
theorem PieceAt.mono {A : Ad} {H H' : Hp} {a : Addr} {x : Pc} (h : PieceAt A H a x) (e : Same H H') : PieceAt A H' a x :=
  let ⟨dx, l, h1, h2⟩ := h
  ⟨dx, l, e _ _ h1, e _ _ h2⟩
def SlotAt (A : Ad) (H : Hp) (a : Addr) (y : Sw64.Piece) : Prop := ∃ w, PieceAt A H a (w, y)
theorem SlotAt.mono {A : Ad} {H H' : Hp} {a : Addr} {x : Sw64.Piece} (h : SlotAt A H a x) (e : Same H H') : SlotAt A H' a x :=
  let ⟨w, h1⟩ := h
  ⟨w, h1.mono e⟩
def RunAt (H : Hp) (t : Addr) (q : Nat × Nat) : Prop := H t = some (.tup [.int (q.1 : Nat), .int (q.2 : Nat)])
structure ShapeAt (A : Ad) (H : Hp) (a : Addr) (s : Sh) : Prop where
  ex : ∃ dx t1 t2 ll sl las ps, H a = some (.ins A.C_Shape dx (F_Shape (.ref t1) (.ref t2) (.ref ll) (.ref sl))) ∧ RunAt H t1 s.q ∧ RunAt H t2 s.r ∧
    H ll = some (.lst (refs las)) ∧ All2 (BytesAt H) las s.letters ∧ H sl = some (.lst (refs ps)) ∧ All2 (SlotAt A H) ps s.sl
theorem ShapeAt.mono {A : Ad} {H H' : Hp} {a : Addr} {s : Sh} (h : ShapeAt A H a s) (e : Same H H') : ShapeAt A H' a s := by
  obtain ⟨dx, t1, t2, ll, sl, las, ps, h1, h2, h3, h4, h5, h6, h7⟩ := h.ex
  exact ⟨dx, t1, t2, ll, sl, las, ps, e _ _ h1, e _ _ h2, e _ _ h3, e _ _ h4, h5.mono fun _ _ _ _ z => e _ _ z, e _ _ h6, h7.mono fun _ _ _ _ z => z.mono e⟩
def ShapesAt (A : Ad) (H : Hp) (l : Addr) (ss : List Sh) : Prop := ∃ as, H l = some (.lst (refs as)) ∧ All2 (ShapeAt A H) as ss
theorem ShapesAt.mono {A : Ad} {H H' : Hp} {l : Addr} {ss : List Sh} (h : ShapesAt A H l ss) (e : Same H H') : ShapesAt A H' l ss :=
  let ⟨as, h1, h2⟩ := h
  ⟨as, e _ _ h1, h2.mono fun _ _ _ _ z => z.mono e⟩
def ruleF (R : Sw64.Rule) (last : Nat) (ls : Addr) : List (Str × V) := F_Rule (.int (R.base : Nat)) (.int (last : Nat)) (.int (R.by_ : Nat)) (.ref ls)
/-- a rule and the last of the numbers that fall to it -/
def RuleAt (A : Ad) (H : Hp) (a : Addr) (x : Sw64.Rule × Nat) : Prop := ∃ dx ls, H a = some (.ins A.C_Rule dx (ruleF x.1 x.2 ls)) ∧ ShapesAt A H ls (shapesOf x.1.pieces)
theorem RuleAt.mono {A : Ad} {H H' : Hp} {a : Addr} {x : Sw64.Rule × Nat} (h : RuleAt A H a x) (e : Same H H') : RuleAt A H' a x :=
  let ⟨dx, ls, h1, h2⟩ := h
  ⟨dx, ls, e _ _ h1, h2.mono e⟩
/-- a set's rules, each with its last -/
def withLast (s : Sw64.RSet) : List (Sw64.Rule × Nat) := s.map fun R => (R, Sw64.upTo s R)
def SetAt (A : Ad) (H : Hp) (l : Addr) (s : Sw64.RSet) : Prop := ∃ as, H l = some (.lst (refs as)) ∧ All2 (RuleAt A H) as (withLast s)
theorem SetAt.mono {A : Ad} {H H' : Hp} {l : Addr} {s : Sw64.RSet} (h : SetAt A H l s) (e : Same H H') : SetAt A H' l s :=
  let ⟨as, h1, h2⟩ := h
  ⟨as, e _ _ h1, h2.mono fun _ _ _ _ z => z.mono e⟩
/-- the sets: the list itself stands in H, all else in a part F that stays -/
def SetsAt (A : Ad) (F H : Hp) (a : Addr) (S : Sw64.Sets) : Prop := ∃ ls, H a = some (.lst (refs ls)) ∧ All2 (SetAt A F) ls S
end Sn
/-! comprehensions whose parts only read -/
namespace Sn
open PySem PySem.Spec PyProof.Rows L2
def rLen (K : PySem.W.Frag) : List V → Hp → VK → Prop := fun xs H Q => ∃ p ys, xs = [V.ref p] ∧ (SqL K H p ys ∨ SqT K H p ys) ∧ Q (.int (List.length ys)) H
theorem take_more {α : Type} {l : List α} {i : Nat} {x : α} (h : l[i]? = some x) : l.take (i + 1) = l.take i ++ [x] := by
  rw [List.take_succ, h] <;> rfl
theorem filt_more {α β : Type} {l : List α} {i : Nat} {x : α} {f : α → Bool} {g : α → β} (h : l[i]? = some x) : ((l.take (i + 1)).filter f).map g = ((l.take i).filter f).map g ++ (if f x = true then [g x] else []) := by
  rw [take_more h, List.filter_append, List.map_append]
  congr 1
  by_cases c : f x = true
  · rw [if_pos c, List.filter_cons_of_pos c] <;> rfl
  · rw [if_neg c, List.filter_cons_of_neg c] <;> rfl
theorem lc_gen {α : Type} {K : PySem.W.Frag} {a : Addr} {xs : List V} {j : Nat} {tt : TT} {te : TE} {vs : List Nat} {σ : L2.St} {H1 : Hp} {D : Addr} {Qd : Hp → Prop} (hD : H1 D = none) (hx : SqL K H1 a xs) (hz : xs.length ≤ sizeLine) (ps : List α) (hlen : xs.length = ps.length) (f : α → Bool) (g : α → V)
    (hw : ∀ x : V, wipe ((wipe σ vs).set j (some x)) vs = wipe σ vs)
    (ht : ∀ (i : Nat) (x : V) (p : α), xs[i]? = some x → ps[i]? = some p → ∀ H2, Same H1 H2 → ∀ R : Bool → Hp → Prop, (∀ H3, Same H2 H3 → R (f p) H3) → tt ((wipe σ vs).set j (some x)) H2 R)
    (he : ∀ (i : Nat) (x : V) (p : α), xs[i]? = some x → ps[i]? = some p → f p = true → ∀ H2, Same H1 H2 → ∀ R : VK, (∀ H3, Same H2 H3 → R (g p) H3) → te ((wipe σ vs).set j (some x)) H2 R)
    (hd : ∀ H', Same H1 H' → H' D = some (.lst ((ps.filter f).map g)) → Qd H') :
    ∃ W : Nat → Nat → Hp → Prop, (∃ m, W 0 m (upd H1 D (.lst []))) ∧ ∀ i m H, W i m H →
      ((Itl K a).stop i H ∧ Qd H) ∨ ((Itl K a).go i H ∧ ∃ Nx : Hp → Prop, (∀ H', Nx H' → ∃ m', m' < m ∧ W (i + 1) m' H') ∧ ∀ x H', (Itl K a).yld i H x H' → gName j x (wipe σ vs) H' fun σ2 H2 => wipe σ2 vs = wipe σ vs ∧ tt σ2 H2 fun b H3 =>
        if b = true then te σ2 H3 fun y H4 => ∃ acc, H4 D = some (.lst acc) ∧ acc.length < sizeLine ∧ Nx (upd H4 D (.lst (acc ++ [y]))) else Nx H3) := by
  refine lc_list (K := K) (a := a) (xs := xs) (fun i H => Same H1 H ∧ H D = some (.lst (((ps.take i).filter f).map g)) ∧ (((ps.take i).filter f).map g).length ≤ i) ⟨same_new hD _, upd_same, Nat.le_refl _⟩ (fun i H _ p => p.1.seq hx) ?_ ?_
  · intro i x H hi ⟨s1, h1, hl⟩
    have hlt : i < xs.length := (List.getElem?_eq_some_iff.mp hi).1
    obtain ⟨p, hp⟩ : ∃ p, ps[i]? = some p := ⟨ps[i]'(by omega), List.getElem?_eq_getElem (by omega)⟩
    refine ⟨hw x, ht i x p hi hp H s1 _ fun H3 s3 => ?_⟩
    have e := filt_more (f := f) (g := g) hp
    by_cases c : f p = true
    · refine if_true_of c (he i x p hi hp c H3 (s1.trans s3) _ fun H4 s4 => ?_)
      rw [if_pos c] at e
      refine ⟨_, s4 _ _ (s3 _ _ h1), by omega, ?_⟩
      refine ⟨Same.upd_new (s1.trans (s3.trans s4)) hD, by rw [e]; exact upd_same, by rw [e, List.length_append]; show _ + 1 ≤ i + 1; omega⟩
    · refine if_false_of (Bool.eq_false_iff.mpr c) ?_
      rw [if_neg c, List.append_nil] at e
      exact ⟨s1.trans s3, by rw [e]; exact s3 _ _ h1, by rw [e]; omega⟩
  · intro H ⟨s1, h1, _⟩
    rw [hlen, List.take_length] at h1
    exact hd H s1 h1
/-- over a list of objects -/
theorem lc_objs {α : Type} {K : PySem.W.Frag} {a : Addr} {as : List Addr} {j : Nat} {tt : TT} {te : TE} {vs : List Nat} {σ : L2.St} {H1 : Hp} {D : Addr} {Qd : Hp → Prop} {R0 : Addr → α → Prop} (hD : H1 D = none) (hx : SqL K H1 a (refs as)) (hz : as.length ≤ 100000) {ps : List α} (h2 : All2 R0 as ps) (f : α → Bool) (g : α → V)
    (hw : ∀ x : V, wipe ((wipe σ vs).set j (some x)) vs = wipe σ vs)
    (ht : ∀ (b : Addr) (p : α), R0 b p → ∀ H2, Same H1 H2 → ∀ R : Bool → Hp → Prop, (∀ H3, Same H2 H3 → R (f p) H3) → tt ((wipe σ vs).set j (some (.ref b))) H2 R)
    (he : ∀ (b : Addr) (p : α), R0 b p → f p = true → ∀ H2, Same H1 H2 → ∀ R : VK, (∀ H3, Same H2 H3 → R (g p) H3) → te ((wipe σ vs).set j (some (.ref b))) H2 R)
    (hd : ∀ H', Same H1 H' → H' D = some (.lst ((ps.filter f).map g)) → Qd H') :
    ∃ W : Nat → Nat → Hp → Prop, (∃ m, W 0 m (upd H1 D (.lst []))) ∧ ∀ i m H, W i m H →
      ((Itl K a).stop i H ∧ Qd H) ∨ ((Itl K a).go i H ∧ ∃ Nx : Hp → Prop, (∀ H', Nx H' → ∃ m', m' < m ∧ W (i + 1) m' H') ∧ ∀ x H', (Itl K a).yld i H x H' → gName j x (wipe σ vs) H' fun σ2 H2 => wipe σ2 vs = wipe σ vs ∧ tt σ2 H2 fun b H3 =>
        if b = true then te σ2 H3 fun y H4 => ∃ acc, H4 D = some (.lst acc) ∧ acc.length < sizeLine ∧ Nx (upd H4 D (.lst (acc ++ [y]))) else Nx H3) := by
  have hat : ∀ (i : Nat) (x : V) (p : α), (refs as)[i]? = some x → ps[i]? = some p → ∃ b, x = .ref b ∧ R0 b p := fun i x p h1 h3 => by
    obtain ⟨b, hb, r⟩ := h2.getx h3
    have := refs_get hb
    rw [h1] at this; cases this
    exact ⟨b, Eq.refl _, r⟩
  refine lc_gen hD hx (by rw [refs_length, sizeLine_eq]; omega) ps (by rw [refs_length]; exact h2.length) f g hw (fun i x p h1 h3 => ?_) (fun i x p h1 h3 => ?_) hd
  · obtain ⟨b, rfl, r⟩ := hat i x p h1 h3
    exact ht b p r
  · obtain ⟨b, rfl, r⟩ := hat i x p h1 h3
    exact he b p r
end Sn
/-! rules: pieces and shapes -/
namespace Sn
open PySem PySem.Spec PyProof.Rows L2
section
variable {P : Program} {w : World} {K : PySem.W.Frag} {mg : Str → Option Value} {base : Heap} {A : Ad}
def spPiece_init (A : Ad) : Sp := fun vs H Q _ => ∃ (p dx : Addr) (v1 v2 v3 v4 : V), vs = [.ref p, v1, v2, v3, v4] ∧ H p = some (.ins A.C_Piece dx []) ∧ Q .non (upd H p (.ins A.C_Piece dx (F_Piece v1 v2 v3 v4)))
theorem ok_Piece_init (T : Top K mg A) : FnOk P w K mg base CX0 1 A.f_Piece_init A.d_Piece_init P_Piece_init (spPiece_init A) := by
  refine T.F_Piece_init.ok sc_Piece_init (fun vs H Q E h => ?_) (fun cdv _ outer s H vs Q E hr h => ⟨_, (pss_cons (ps_fld (pv 0) (pv 1) rfl)
    (pss_cons (ps_fld (pv 0) (pv 2) rfl)
    (pss_cons (ps_fld (pv 0) (pv 3) rfl)
    (pss_one (ps_fld (pv 0) (pv 4) rfl))))), ?_⟩)
  · obtain ⟨p, dx, _, _, _, _, rfl, _⟩ := h
    rfl
  obtain ⟨p, dx, v1, v2, v3, v4, rfl, hp, q⟩ := h
  refine ⟨_, rfl, _, rfl, _, _, _, _, rfl, hp, T.c_Piece, T.n_Piece_stands, (by decide), ?_⟩
  rw [F_Piece_ini_stands]
  refine ⟨_, rfl, _, rfl, p, A.C_Piece, dx, _, rfl, upd_same, T.c_Piece, T.n_Piece_kind, (by show 1 < 1000; decide), ?_⟩
  rw [upd_upd, F_Piece_ini_kind]
  refine ⟨_, rfl, _, rfl, p, A.C_Piece, dx, _, rfl, upd_same, T.c_Piece, T.n_Piece_letters, (by show 2 < 1000; decide), ?_⟩
  rw [upd_upd, F_Piece_ini_letters]
  refine ⟨_, rfl, _, rfl, p, A.C_Piece, dx, _, rfl, upd_same, T.c_Piece, T.n_Piece_by, (by show 3 < 1000; decide), ?_⟩
  rw [upd_upd, F_Piece_ini_by]
  exact q
def spShape_init (A : Ad) : Sp := fun vs H Q _ => ∃ (p dx : Addr) (v1 v2 : V), vs = [.ref p, v1, v2] ∧ H p = some (.ins A.C_Shape dx []) ∧
  ∀ H' e ll sl, H e = none → H ll = none → H sl = none → e ≠ ll → e ≠ sl → ll ≠ sl → H' p = some (.ins A.C_Shape dx (F_Shape v1 v2 (.ref ll) (.ref sl))) → H' e = some (.lst []) → H' ll = some (.lst [.ref e]) → H' sl = some (.lst []) →
    (∀ b o, H b = some o → b ≠ p → H' b = some o) → Q .non H'
theorem ok_Shape_init (T : Top K mg A) : FnOk P w K mg base CX0 1 A.f_Shape_init A.d_Shape_init P_Shape_init (spShape_init A) := by
  refine T.F_Shape_init.ok sc_Shape_init (fun vs H Q E h => ?_) (fun cdv _ outer s H vs Q E hr h => ⟨_, (pss_cons (ps_fld (pv 0) (pv 1) rfl)
    (pss_cons (ps_fld (pv 0) (pv 2) rfl)
    (pss_cons (ps_fld (pv 0) (pe_lst (pa_cons (pe_lst pa_nil) pa_nil)) rfl)
    (pss_one (ps_fld (pv 0) (pe_lst pa_nil) rfl))))), ?_⟩)
  · obtain ⟨p, dx, _, _, rfl, _⟩ := h
    rfl
  obtain ⟨p, dx, v1, v2, rfl, hp, q⟩ := h
  refine ⟨_, rfl, _, rfl, _, _, _, _, rfl, hp, T.c_Shape, T.n_Shape_q_run, (by decide), ?_⟩
  rw [F_Shape_ini_q_run]
  refine ⟨_, rfl, _, rfl, p, A.C_Shape, dx, _, rfl, upd_same, T.c_Shape, T.n_Shape_r_run, (by show 1 < 1000; decide), ?_⟩
  rw [upd_upd, F_Shape_ini_r_run]
  refine ⟨(by show 0 ≤ sizeLine; decide), fun e he => ⟨(by show 1 ≤ sizeLine; decide), fun ll hll => ?_⟩⟩
  have nep : e ≠ p := fun z => by rw [z, upd_same] at he; cases he
  have nlp : ll ≠ p := fun z => by rw [z, upd_ne nep.symm, upd_same] at hll; cases hll
  have nle : ll ≠ e := fun z => by rw [z, upd_same] at hll; cases hll
  refine ⟨_, rfl, p, A.C_Shape, dx, _, rfl, (upd_ne nlp.symm).trans ((upd_ne nep.symm).trans upd_same), T.c_Shape, T.n_Shape_letters, (by show 2 < 1000; decide), ?_⟩
  rw [F_Shape_ini_letters]
  refine ⟨(by show 0 ≤ sizeLine; decide), fun sl hsl => ?_⟩
  have nsp : sl ≠ p := fun z => by rw [z, upd_same] at hsl; cases hsl
  have nsl : sl ≠ ll := fun z => by rw [z, upd_ne nlp, upd_same] at hsl; cases hsl
  have nse : sl ≠ e := fun z => by rw [z, upd_ne nep, upd_ne nle.symm, upd_same] at hsl; cases hsl
  refine ⟨_, rfl, p, A.C_Shape, dx, _, rfl, (upd_ne nsp.symm).trans upd_same, T.c_Shape, T.n_Shape_slots, (by show 3 < 1000; decide), ?_⟩
  rw [F_Shape_ini_slots]
  rw [upd_ne nep] at he
  rw [upd_ne nle, upd_ne nlp] at hll
  rw [upd_ne nsp, upd_ne nsl, upd_ne nse, upd_ne nsp] at hsl
  refine q _ e ll sl he hll hsl nle.symm nse.symm nsl.symm upd_same ?_ ?_ ?_ fun b o hb hbp => ?_
  · rw [upd_ne nep, upd_ne nse.symm, upd_ne nep, upd_ne nle.symm, upd_same]
  · rw [upd_ne nlp, upd_ne nsl.symm, upd_ne nlp, upd_same]
  · rw [upd_ne nsp, upd_same]
  · rw [upd_ne hbp, upd_ne (ne_of_none hb hsl), upd_ne hbp, upd_ne (ne_of_none hb hll), upd_ne (ne_of_none hb he), upd_ne hbp]; exact hb
def spShape_fits (A : Ad) : Sp := fun vs H Q _ => ∃ (a : Addr) (s : Sh) (q r : Nat), vs = [.ref a, .int (q : Nat), .int (r : Nat)] ∧ ShapeAt A H a s ∧ Q (.bl (s.fits q r)) H
theorem ok_Shape_fits (T : Top K mg A) : FnOk P w K mg base CX0 1 A.f_Shape_fits A.d_Shape_fits P_Shape_fits (spShape_fits A) := by
  refine T.F_Shape_fits.ok sc_Shape_fits (fun vs H Q E h => ?_) (fun cdv _ outer s H vs Q E hr h => ⟨_, (pss_one (ps_ret (pe_and (pe_chain op_le op_le (pe_ix ix_tup (pe_fld (pv 0) rfl) pe_int (fun _ _ => rfl)) (pv 1) (pe_ix ix_tup (pe_fld (pv 0) rfl) pe_int (fun _ _ => rfl))) (pe_one (pe_chain op_le op_le (pe_ix ix_tup (pe_fld (pv 0) rfl) pe_int (fun _ _ => rfl)) (pv 2) (pe_ix ix_tup (pe_fld (pv 0) rfl) pe_int (fun _ _ => rfl))))))), ?_⟩)
  · obtain ⟨p, s, q, r, rfl, _⟩ := h
    rfl
  obtain ⟨a, s, q, r, rfl, ⟨dx, t1, t2, ll, sl, las, ps, ha, h1, h2, _⟩, k⟩ := h
  refine ⟨_, rfl, _, _, _, _, _, rfl, ha, T.c_Shape, T.n_Shape_q_run, F_Shape_q_run, t1, _, _, _, rfl, rfl, SqT.of h1, rfl, _, rfl, _, _, rfl, rfl, _, rfl, ?_⟩
  refine split_dec (fun c1 => ?_) (fun c1 => ?_)
  · refine ⟨_, rfl, _, _, _, _, _, rfl, ha, T.c_Shape, T.n_Shape_q_run, F_Shape_q_run, t1, _, _, _, rfl, rfl, SqT.of h1, rfl, _, _, rfl, rfl, _, rfl, ?_⟩
    refine split_dec (fun c2 => ?_) (fun c2 => ?_)
    · refine ⟨_, rfl, _, _, _, _, _, rfl, ha, T.c_Shape, T.n_Shape_r_run, F_Shape_r_run, t2, _, _, _, rfl, rfl, SqT.of h2, rfl, _, rfl, _, _, rfl, rfl, _, rfl, ?_⟩
      refine split_dec (fun c3 => ?_) (fun c3 => ?_)
      · refine ⟨_, rfl, _, _, _, _, _, rfl, ha, T.c_Shape, T.n_Shape_r_run, F_Shape_r_run, t2, _, _, _, rfl, rfl, SqT.of h2, rfl, _, _, rfl, rfl, ?_⟩
        have e : s.fits q r = decide ((r : Int) ≤ (s.r.2 : Int)) := by
          unfold Sh.fits
          rw [decide_eq_true (show s.q.1 ≤ q ∧ q ≤ s.q.2 by omega), Bool.true_and]
          exact decide_eq_decide.mpr (by omega)
        rw [e] at k; exact k
      · have e : s.fits q r = false := by
          unfold Sh.fits
          rw [decide_eq_false (show ¬ (s.r.1 ≤ r ∧ r ≤ s.r.2) by omega), Bool.and_false]
        rw [e] at k; exact k
    · have e : s.fits q r = false := by
        unfold Sh.fits
        rw [decide_eq_false (show ¬ (s.q.1 ≤ q ∧ q ≤ s.q.2) by omega), Bool.false_and]
      rw [e] at k; exact k
  · refine ⟨_, rfl, ?_⟩
    have e : s.fits q r = false := by
      unfold Sh.fits
      rw [decide_eq_false (show ¬ (s.q.1 ≤ q ∧ q ≤ s.q.2) by omega), Bool.false_and]
    rw [e] at k; exact k
def spShape_add_piece (A : Ad) : Sp := fun vs H Q _ => ∃ (a p dx la ll sl : Addr) (v1 v2 : V) (las : List Addr) (xs ps : List V) (x : Pc), vs = [.ref a, .ref p] ∧ H a = some (.ins A.C_Shape dx (F_Shape v1 v2 (.ref ll) (.ref sl))) ∧
  H ll = some (.lst (refs (las ++ [la]))) ∧ H la = some (.lst xs) ∧ H sl = some (.lst ps) ∧ ll ≠ sl ∧ las.length < 1000 ∧ ps.length < 1000 ∧ xs.length ≤ 1000 ∧ (plet x.2).length ≤ 1000 ∧ PieceAt A H p x ∧
  (pk x.2 = 0 → Q .non (upd H la (.lst (xs ++ bnums (plet x.2))))) ∧
  (pk x.2 ≠ 0 → ∀ e, H e = none → Q .non (upd (upd (upd H sl (.lst (ps ++ [.ref p]))) e (.lst [])) ll (.lst (refs (las ++ [la]) ++ [.ref e]))))
theorem ok_Shape_add_piece (T : Top K mg A) : FnOk P w K mg base CX0 1 A.f_Shape_add_piece A.d_Shape_add_piece P_Shape_add_piece (spShape_add_piece A) := by
  refine T.F_Shape_add_piece.ok sc_Shape_add_piece (fun vs H Q E h => ?_) (fun cdv _ outer s H vs Q E hr h => ⟨_, (pss_one (ps_if (pt_cmpR op_eq (pe_fld (pv 1) rfl) (pe_gi rfl T.k_LETTERS) (nomark _))
    (pss_one (ps_expr (pe_bm PySem.F.plainAttrs_list PySem.F.slot_list_extend PySem.F.type_list_extend mt_extend (pe_ix ix_list (pe_fld (pv 0) rfl) (pe_un un_neg pe_int) (fun _ _ => rfl)) (pa_cons (pe_fld (pv 1) rfl) pa_nil))))
    (pss_cons (ps_expr (pe_bm PySem.F.plainAttrs_list PySem.F.slot_list_append PySem.F.type_list_append mt_append (pe_fld (pv 0) rfl) (pa_cons (pv 1) pa_nil)))
    (pss_one (ps_expr (pe_bm PySem.F.plainAttrs_list PySem.F.slot_list_append PySem.F.type_list_append mt_append (pe_fld (pv 0) rfl) (pa_cons (pe_lst pa_nil) pa_nil))))))), ?_⟩)
  · obtain ⟨_, _, _, _, _, _, _, _, _, _, _, _, rfl, _⟩ := h
    rfl
  obtain ⟨a, p, dx, la, ll, sl, v1, v2, las, xs, ps, x, rfl, ha, hll, hla, hsl, ne, z1, z2, z3, z4, ⟨dp, lp, hp, hlp⟩, k1, k2⟩ := h
  refine ⟨_, rfl, _, _, _, _, _, rfl, hp, T.c_Piece, T.n_Piece_kind, F_Piece_kind, rfl, _, rfl, ?_⟩
  refine split_dec (fun c => ?_) (fun c => ?_)
  · have c' : pk x.2 = 0 := by injection c with c; omega
    have hat : atI (refs (las ++ [la])) (-1) = some (.ref la) := by
      unfold refs
      rw [List.map_append]
      exact atI_last _ _
    refine ⟨_, rfl, _, _, _, _, _, rfl, ha, T.c_Shape, T.n_Shape_letters, F_Shape_letters, _, rfl, ll, _, _, _, rfl, rfl, SqL.of hll, hat, .inl ⟨rfl, _, SqL.of hla⟩, _, rfl, _, _, _, _, _, rfl, hp, T.c_Piece, T.n_Piece_letters, F_Piece_letters, la, lp, _, _, rfl, rfl, hla, hlp, (by rw [bnums_length, sizeLine_eq]; omega), ?_⟩
    exact k1 c'
  · have c' : pk x.2 ≠ 0 := fun z => c (by rw [z] <;> rfl)
    refine ⟨_, rfl, _, _, _, _, _, rfl, ha, T.c_Shape, T.n_Shape_slots, F_Shape_slots, .inl ⟨rfl, _, SqL.of hsl⟩, _, rfl, sl, _, _, rfl, rfl, hsl, (by rw [sizeLine_eq]; omega), ?_⟩
    have n1 : a ≠ sl := ne_of ha hsl (by intro z; cases z)
    have ha1 : upd H sl (.lst (ps ++ [.ref p])) a = some (.ins A.C_Shape dx (F_Shape v1 v2 (.ref ll) (.ref sl))) := (upd_ne n1).trans ha
    have hl1 : upd H sl (.lst (ps ++ [.ref p])) ll = some (.lst (refs (las ++ [la]))) := (upd_ne ne).trans hll
    refine ⟨_, rfl, _, _, _, _, _, rfl, ha1, T.c_Shape, T.n_Shape_letters, F_Shape_letters, .inl ⟨rfl, _, SqL.of hl1⟩, (by show 0 ≤ sizeLine; decide), fun e he => ?_⟩
    have nel : ll ≠ e := ne_of_none hl1 he
    have nes : e ≠ sl := fun z => by rw [z, upd_same] at he; cases he
    refine ⟨ll, _, _, rfl, rfl, (upd_ne nel).trans hl1, (by rw [refs_length, List.length_append, sizeLine_eq]; show _ + 1 < _; omega), ?_⟩
    refine k2 c' e ?_
    rwa [upd_ne nes] at he
end
end Sn
/-! rules: when pieces stand, runs, shapes -/
namespace Sn
open PySem PySem.Spec PyProof.Rows L2
theorem vint_eq (a b : Nat) : decide (V.int (a : Int) = V.int (b : Int)) = decide (a = b) := by
  apply decide_eq_decide.mpr
  constructor
  · intro h; injection h with h; omega
  · intro h; rw [h]
theorem vint_ne (a b : Nat) : (!decide (V.int (a : Int) = V.int (b : Int))) = (a != b) := by
  rw [vint_eq]
  by_cases h : a = b
  · subst h; simp
  · simp [h]
theorem vint_beq (a b : Nat) : decide (V.int (a : Int) = V.int (b : Int)) = (a == b) := by
  rw [vint_eq]
  by_cases h : a = b
  · subst h; simp
  · simp [h]
section
variable {P : Program} {w : World} {K : PySem.W.Frag} {mg : Str → Option Value} {base : Heap} {A : Ad}
def spStands (A : Ad) : Sp := fun vs H Q _ => ∃ (p : Addr) (x : Pc) (q r : Nat), vs = [.ref p, .int (q : Int), .int (r : Int)] ∧ PieceAt A H p x ∧ Q (.bl (Sw64.stands q r x.1)) H
theorem ok_stands_for (T : Top K mg A) : FnOk P w K mg base CX0 1 A.f_stands_for A.d_stands_for P_stands_for (spStands A) := by
  refine T.F_stands_for.ok sc_stands_for (fun vs H Q E h => ?_) (fun cdv _ outer s H vs Q E hr h => ⟨_, (pss_cons (ps_if (pt_cmpR op_eq (pe_fld (pv 0) rfl) (pe_gi rfl T.k_IF_R) (nomark _))
    (pss_one (ps_ret (pe_cmpR op_ne (pv 2) pe_int (nomark _))))
    pss_nil)
    (pss_cons (ps_if (pt_cmpR op_eq (pe_fld (pv 0) rfl) (pe_gi rfl T.k_IF_NO_R) (nomark _))
    (pss_one (ps_ret (pe_cmpR op_eq (pv 2) pe_int (nomark _))))
    pss_nil)
    (pss_cons (ps_if (pt_cmpR op_eq (pe_fld (pv 0) rfl) (pe_gi rfl T.k_IF_NOT_ONE) (nomark _))
    (pss_one (ps_ret (pe_cmpR op_ne (pv 1) pe_int (nomark _))))
    pss_nil)
    (pss_cons (ps_if (pt_cmpR op_eq (pe_fld (pv 0) rfl) (pe_gi rfl T.k_IF_ONE) (nomark _))
    (pss_one (ps_ret (pe_cmpR op_eq (pv 1) pe_int (nomark _))))
    pss_nil)
    (pss_one (ps_ret pe_bl)))))), ?_⟩)
  · obtain ⟨_, _, _, _, rfl, _⟩ := h
    rfl
  obtain ⟨p, x, q, r, rfl, ⟨dx, l, hp, hl⟩, k⟩ := h
  have e0 : ∀ a b : Nat, decide (V.int (a : Int) = V.int (b : Int)) = decide (a = b) := vint_eq
  refine ⟨_, rfl, _, _, _, _, _, rfl, hp, T.c_Piece, T.n_Piece_stands, F_Piece_stands, rfl, _, rfl, ?_⟩
  refine split_dec (fun c1 => ?_) (fun c1 => ?_)
  · have e : x.1 = .rest := wc_inj (by injection c1 with c1; show wc x.1 = 1; omega)
    refine ⟨_, rfl, rfl, ?_⟩
    have e2 : Sw64.stands q r x.1 = !decide (V.int (r : Int) = V.int 0) := by rw [e]; exact (vint_ne r 0).symm
    rw [e2] at k; exact k
  refine ⟨_, rfl, _, _, _, _, _, rfl, hp, T.c_Piece, T.n_Piece_stands, F_Piece_stands, rfl, _, rfl, ?_⟩
  refine split_dec (fun c2 => ?_) (fun c2 => ?_)
  · have e : x.1 = .even := wc_inj (by injection c2 with c2; show wc x.1 = 2; omega)
    refine ⟨_, rfl, rfl, ?_⟩
    have e2 : Sw64.stands q r x.1 = decide (V.int (r : Int) = V.int 0) := by rw [e]; exact (vint_beq r 0).symm
    rw [e2] at k; exact k
  refine ⟨_, rfl, _, _, _, _, _, rfl, hp, T.c_Piece, T.n_Piece_stands, F_Piece_stands, rfl, _, rfl, ?_⟩
  refine split_dec (fun c3 => ?_) (fun c3 => ?_)
  · have e : x.1 = .many := wc_inj (by injection c3 with c3; show wc x.1 = 3; omega)
    refine ⟨_, rfl, rfl, ?_⟩
    have e2 : Sw64.stands q r x.1 = !decide (V.int (q : Int) = V.int 1) := by rw [e]; exact (vint_ne q 1).symm
    rw [e2] at k; exact k
  refine ⟨_, rfl, _, _, _, _, _, rfl, hp, T.c_Piece, T.n_Piece_stands, F_Piece_stands, rfl, _, rfl, ?_⟩
  refine split_dec (fun c4 => ?_) (fun c4 => ?_)
  · have e : x.1 = .once := wc_inj (by injection c4 with c4; show wc x.1 = 4; omega)
    refine ⟨_, rfl, rfl, ?_⟩
    have e2 : Sw64.stands q r x.1 = decide (V.int (q : Int) = V.int 1) := by rw [e]; exact (vint_beq q 1).symm
    rw [e2] at k; exact k
  · have e : x.1 = .always := by
      cases hx : x.1 with
      | always => rfl
      | rest => rw [hx] at c1; exact absurd (Eq.refl (V.int 1)) c1
      | even => rw [hx] at c2; exact absurd (Eq.refl (V.int 2)) c2
      | many => rw [hx] at c3; exact absurd (Eq.refl (V.int 3)) c3
      | once => rw [hx] at c4; exact absurd (Eq.refl (V.int 4)) c4
    rw [e] at k; exact k
/-- a list of pieces -/
def PiecesAt (A : Ad) (H : Hp) (l : Addr) (ps : List Pc) : Prop := ∃ as, H l = some (.lst (refs as)) ∧ All2 (PieceAt A H) as ps
theorem PiecesAt.mono {H H' : Hp} {l : Addr} {ps : List Pc} (h : PiecesAt A H l ps) (e : Same H H') : PiecesAt A H' l ps :=
  let ⟨as, h1, h2⟩ := h
  ⟨as, e _ _ h1, h2.mono fun _ _ _ _ z => z.mono e⟩
def RunsAt (H : Hp) (l : Addr) (rs : List (Nat × Nat)) : Prop := ∃ as, H l = some (.lst (refs as)) ∧ All2 (RunAt H) as rs
def spRuns (A : Ad) (f : List Pc → List (Nat × Nat)) : Sp := fun vs H Q _ => ∃ (l : Addr) (ps : List Pc), vs = [.ref l] ∧ PiecesAt A H l ps ∧ ps.length ≤ 1000 ∧ ∀ H' p, Same H H' → RunsAt (Nw H H') p (f ps) → Q (.ref p) H'
theorem any_bl {α : Type} (ps : List α) (f : α → Bool) : ((ps.filter fun _ => true).map fun x => V.bl (f x)) = (ps.map f).map V.bl := by
  rw [List.filter_eq_self.mpr fun _ _ => rfl, List.map_map] <;> rfl
theorem any_id {α : Type} (ps : List α) (f : α → Bool) : (ps.map f).any id = ps.any f := by rw [List.any_map] <;> rfl
theorem all_id {α : Type} (ps : List α) (f : α → Bool) : (ps.map f).all id = ps.all f := by rw [List.all_map] <;> rfl
theorem in34 (w : Sw64.When) : (if false = true then !inV (V.int (wc w : Nat)) [V.int 3, V.int 4] else inV (V.int (wc w : Nat)) [V.int 3, V.int 4]) = (decide (wc w = 3) || decide (wc w = 4)) := by cases w <;> rfl
theorem in12 (w : Sw64.When) : (if false = true then !inV (V.int (wc w : Nat)) [V.int 1, V.int 2] else inV (V.int (wc w : Nat)) [V.int 1, V.int 2]) = (decide (wc w = 1) || decide (wc w = 2)) := by cases w <;> rfl
theorem run1 {H H1 : Hp} {t p : Addr} {q : Nat × Nat} (s : Same H H1) (ht : H1 t = none) (hp : upd H1 t (.tup [.int (q.1 : Nat), .int (q.2 : Nat)]) p = none) :
    Same H (upd (upd H1 t (.tup [.int (q.1 : Nat), .int (q.2 : Nat)])) p (.lst (refs [t]))) ∧ RunsAt (Nw H (upd (upd H1 t (.tup [.int (q.1 : Nat), .int (q.2 : Nat)])) p (.lst (refs [t])))) p [q] := by
  have npt : p ≠ t := fun z => by rw [z, upd_same] at hp; cases hp
  have hp1 : H1 p = none := by rwa [upd_ne npt] at hp
  refine ⟨Same.upd_new (Same.upd_new s (Same.free s ht)) (Same.free s hp1), [t], Nw.at (Same.free s hp1) upd_same, .cons ?_ .nil⟩
  exact Nw.at (Same.free s ht) ((upd_ne npt.symm).trans upd_same)
theorem run2 {H H1 : Hp} {t u p : Addr} {q r : Nat × Nat} (s : Same H H1) (ht : H1 t = none) (hu : upd H1 t (.tup [.int (q.1 : Nat), .int (q.2 : Nat)]) u = none) (hp : upd (upd H1 t (.tup [.int (q.1 : Nat), .int (q.2 : Nat)])) u (.tup [.int (r.1 : Nat), .int (r.2 : Nat)]) p = none) :
    Same H (upd (upd (upd H1 t (.tup [.int (q.1 : Nat), .int (q.2 : Nat)])) u (.tup [.int (r.1 : Nat), .int (r.2 : Nat)])) p (.lst (refs [t, u]))) ∧ RunsAt (Nw H (upd (upd (upd H1 t (.tup [.int (q.1 : Nat), .int (q.2 : Nat)])) u (.tup [.int (r.1 : Nat), .int (r.2 : Nat)])) p (.lst (refs [t, u])))) p [q, r] := by
  have nut : u ≠ t := fun z => by rw [z, upd_same] at hu; cases hu
  have npu : p ≠ u := fun z => by rw [z, upd_same] at hp; cases hp
  have npt : p ≠ t := fun z => by rw [z, upd_ne nut.symm, upd_same] at hp; cases hp
  have hu1 : H1 u = none := by rwa [upd_ne nut] at hu
  have hp1 : H1 p = none := by rwa [upd_ne npu, upd_ne npt] at hp
  refine ⟨Same.upd_new (Same.upd_new (Same.upd_new s (Same.free s ht)) (Same.free s hu1)) (Same.free s hp1), [t, u], Nw.at (Same.free s hp1) upd_same, .cons ?_ (.cons ?_ .nil)⟩
  · exact Nw.at (Same.free s ht) ((upd_ne npt.symm).trans ((upd_ne nut.symm).trans upd_same))
  · exact Nw.at (Same.free s hu1) ((upd_ne npu.symm).trans upd_same)
theorem ok_q_runs (T : Top K mg A) : FnOk P w K mg base CX0 1 A.f_q_runs A.d_q_runs P_q_runs (spRuns A qruns) := by
  refine T.F_q_runs.ok sc_q_runs (fun vs H Q E h => ?_) (fun cdv _ outer s H vs Q E hr h => ⟨_, (pss_cons (ps_if (pt_not (pt_val (pe_callB (cr_any rfl) (by rfl) T.n_any (by decide +kernel) (pa_cons (by exact (pe_lc (own := [("piece", 1)]) (g := gName 1) (tt := tYes) (te := tOp _ (tFld K (tVar 1) "kind") (tC (.int 1))) rfl sc_q_runs.nd (pi_list (pv 0)) (blkOk_by (own := [("piece", 1)]) (N := N_q_runs) (sc := defScope s_q_runs) (by decide +kernel)) (fun _ _ _ _ _ => pg_name (i := 1) sc_q_runs.nd rfl (Or.inl rfl)) (fun _ _ _ _ _ => by exact (pts_nil)) (fun _ _ _ _ _ => by exact (pe_cmpR op_eq (pe_fld (pv 1) rfl) (pe_gi rfl T.k_Q) (nomark _))))) pa_nil))))
    (pss_one (ps_ret (pe_lst (pa_cons (pe_tup (pa_cons pe_int (pa_cons pe_int pa_nil))) pa_nil))))
    pss_nil)
    (pss_cons (ps_if (pt_val (pe_callB (cr_any rfl) (by rfl) T.n_any (by decide +kernel) (pa_cons (by exact (pe_lc (own := [("piece", 1)]) (g := gName 1) (tt := tYes) (te := tOp (rIn K false) (tFld K (tVar 1) "stands") (tTup (tCons (tC (.int 3)) (tCons (tC (.int 4)) tNil)))) rfl sc_q_runs.nd (pi_list (pv 0)) (blkOk_by (own := [("piece", 1)]) (N := N_q_runs) (sc := defScope s_q_runs) (by decide +kernel)) (fun _ _ _ _ _ => pg_name (i := 1) sc_q_runs.nd rfl (Or.inl rfl)) (fun _ _ _ _ _ => by exact (pts_nil)) (fun _ _ _ _ _ => by exact (pe_cmpR op_in_seq (pe_fld (pv 1) rfl) (pe_tup (pa_cons (pe_gi rfl T.k_IF_NOT_ONE) (pa_cons (pe_gi rfl T.k_IF_ONE) pa_nil))) (by rfl))))) pa_nil)))
    (pss_one (ps_ret (pe_lst (pa_cons (pe_tup (pa_cons pe_int (pa_cons pe_int pa_nil))) (pa_cons (pe_tup (pa_cons pe_int (pa_cons (pe_gi rfl T.k_HIGHEST) pa_nil))) pa_nil)))))
    pss_nil)
    (pss_one (ps_ret (pe_lst (pa_cons (pe_tup (pa_cons pe_int (pa_cons (pe_gi rfl T.k_HIGHEST) pa_nil))) pa_nil)))))), ?_⟩)
  · obtain ⟨_, _, rfl, _⟩ := h
    rfl
  obtain ⟨l, ps, rfl, ⟨as, hl, h2⟩, hz, k⟩ := h
  have hza : as.length ≤ 100000 := by rw [h2.length]; omega
  refine ⟨_, rfl, l, rfl, ⟨_, SqL.of hl⟩, fun D hD => lc_objs hD (SqL.of hl) hza h2 (fun _ => true) (fun x => V.bl (decide (pk x.2 = 1))) (fun _ => rfl) (fun b x hx H2 s2 R q => q H2 Same.rfl) (fun b x hx _ H2 s2 R q => ?_) (fun H' s1 hD' => ?_)⟩
  · obtain ⟨dx, lx, hp, _⟩ := hx.mono s2
    refine ⟨_, rfl, _, _, _, _, _, rfl, hp, T.c_Piece, T.n_Piece_kind, F_Piece_kind, rfl, ?_⟩
    have := q H2 Same.rfl
    rw [← vint_eq] at this; exact this
  rw [any_bl] at hD'
  refine ⟨D, _, rfl, SqL.of hD', _, rfl, ?_⟩
  rw [any_id]
  have e1 : qruns ps = if (ps.any fun x => decide (pk x.2 = 1)) = false then [(1, 1)] else if (ps.any fun x => decide (wc x.1 = 3) || decide (wc x.1 = 4)) = true then [(1, 1), (2, Sw64.MOST)] else [(1, Sw64.MOST)] := rfl
  cases c1 : ps.any fun x => decide (pk x.2 = 1) with
  | false =>
    refine if_true_of rfl ?_
    rw [c1, if_pos rfl] at e1
    refine ⟨(by show 2 ≤ sizeLine; decide), fun t ht => ⟨(by show 1 ≤ sizeLine; decide), fun p hp => ?_⟩⟩
    have := run1 (q := (1, 1)) s1 ht hp
    exact k _ p this.1 (by rw [e1]; exact this.2)
  | true =>
    refine if_false_of rfl ?_
    rw [c1, if_neg (by decide)] at e1
    have hl1 := s1 _ _ hl
    refine ⟨_, rfl, l, rfl, ⟨_, SqL.of hl1⟩, fun D hD => lc_objs hD (SqL.of hl1) hza (h2.mono fun _ _ _ _ z => z.mono s1) (fun _ => true) (fun x => V.bl (decide (wc x.1 = 3) || decide (wc x.1 = 4))) (fun _ => rfl) (fun b x hx H2 s2 R q => q H2 Same.rfl) (fun b x hx _ H2 s2 R q => ?_) (fun H'' s2 hD2' => ?_)⟩
    · obtain ⟨dx, lx, hp, _⟩ := hx.mono s2
      refine ⟨_, rfl, _, _, _, _, _, rfl, hp, T.c_Piece, T.n_Piece_stands, F_Piece_stands, (by show 2 ≤ sizeLine; decide), fun t ht => ⟨t, _, rfl, .inr (SqT.of upd_same), rfl, rfl, ?_⟩⟩
      rw [in34]
      exact q _ (same_new ht _)
    rw [any_bl] at hD2'
    refine ⟨_, _, rfl, SqL.of hD2', _, rfl, ?_⟩
    rw [any_id]
    have s12 := s1.trans s2
    cases c2 : ps.any fun x => decide (wc x.1 = 3) || decide (wc x.1 = 4) with
    | true =>
      refine if_true_of rfl ?_
      rw [c2, if_pos rfl] at e1
      refine ⟨(by show 2 ≤ sizeLine; decide), fun t ht => ⟨(by show 2 ≤ sizeLine; decide), fun u hu => ⟨(by show 2 ≤ sizeLine; decide), fun p hp => ?_⟩⟩⟩
      have := run2 (q := (1, 1)) (r := (2, Sw64.MOST)) s12 ht hu hp
      exact k _ p this.1 (by rw [e1]; exact this.2)
    | false =>
      refine if_false_of rfl ?_
      rw [c2, if_neg (by decide)] at e1
      refine ⟨(by show 2 ≤ sizeLine; decide), fun t ht => ⟨(by show 1 ≤ sizeLine; decide), fun p hp => ?_⟩⟩
      have := run1 (q := (1, Sw64.MOST)) s12 ht hp
      exact k _ p this.1 (by rw [e1]; exact this.2)
theorem ok_r_runs (T : Top K mg A) : FnOk P w K mg base CX0 1 A.f_r_runs A.d_r_runs P_r_runs (spRuns A rruns) := by
  refine T.F_r_runs.ok sc_r_runs (fun vs H Q E h => ?_) (fun cdv _ outer s H vs Q E hr h => ⟨_, (pss_cons (ps_if (pt_val (pe_callB (cr_any rfl) (by rfl) T.n_any (by decide +kernel) (pa_cons (by exact (pe_lc (own := [("piece", 1)]) (g := gName 1) (tt := tYes) (te := tOp (rIn K false) (tFld K (tVar 1) "stands") (tTup (tCons (tC (.int 1)) (tCons (tC (.int 2)) tNil)))) rfl sc_r_runs.nd (pi_list (pv 0)) (blkOk_by (own := [("piece", 1)]) (N := N_r_runs) (sc := defScope s_r_runs) (by decide +kernel)) (fun _ _ _ _ _ => pg_name (i := 1) sc_r_runs.nd rfl (Or.inl rfl)) (fun _ _ _ _ _ => by exact (pts_nil)) (fun _ _ _ _ _ => by exact (pe_cmpR op_in_seq (pe_fld (pv 1) rfl) (pe_tup (pa_cons (pe_gi rfl T.k_IF_R) (pa_cons (pe_gi rfl T.k_IF_NO_R) pa_nil))) (by rfl))))) pa_nil)))
    (pss_one (ps_ret (pe_lst (pa_cons (pe_tup (pa_cons pe_int (pa_cons pe_int pa_nil))) (pa_cons (pe_tup (pa_cons pe_int (pa_cons (pe_gi rfl T.k_HIGHEST) pa_nil))) pa_nil)))))
    pss_nil)
    (pss_one (ps_ret (pe_lst (pa_cons (pe_tup (pa_cons pe_int (pa_cons (pe_gi rfl T.k_HIGHEST) pa_nil))) pa_nil))))), ?_⟩)
  · obtain ⟨_, _, rfl, _⟩ := h
    rfl
  obtain ⟨l, ps, rfl, ⟨as, hl, h2⟩, hz, k⟩ := h
  have hza : as.length ≤ 100000 := by rw [h2.length]; omega
  have e1 : rruns ps = if (ps.any fun x => decide (wc x.1 = 1) || decide (wc x.1 = 2)) = true then [(0, 0), (1, Sw64.MOST)] else [(0, Sw64.MOST)] := rfl
  refine ⟨_, rfl, l, rfl, ⟨_, SqL.of hl⟩, fun D hD => lc_objs hD (SqL.of hl) hza h2 (fun _ => true) (fun x => V.bl (decide (wc x.1 = 1) || decide (wc x.1 = 2))) (fun _ => rfl) (fun b x hx H2 s2 R q => q H2 Same.rfl) (fun b x hx _ H2 s2 R q => ?_) (fun H'' s12 hD2' => ?_)⟩
  · obtain ⟨dx, lx, hp, _⟩ := hx.mono s2
    refine ⟨_, rfl, _, _, _, _, _, rfl, hp, T.c_Piece, T.n_Piece_stands, F_Piece_stands, (by show 2 ≤ sizeLine; decide), fun t ht => ⟨t, _, rfl, .inr (SqT.of upd_same), rfl, rfl, ?_⟩⟩
    rw [in12]
    exact q _ (same_new ht _)
  rw [any_bl] at hD2'
  refine ⟨_, _, rfl, SqL.of hD2', _, rfl, ?_⟩
  rw [any_id]
  cases c2 : ps.any fun x => decide (wc x.1 = 1) || decide (wc x.1 = 2) with
  | true =>
    refine if_true_of rfl ?_
    rw [c2, if_pos rfl] at e1
    refine ⟨(by show 2 ≤ sizeLine; decide), fun t ht => ⟨(by show 2 ≤ sizeLine; decide), fun u hu => ⟨(by show 2 ≤ sizeLine; decide), fun p hp => ?_⟩⟩⟩
    have := run2 (q := (0, 0)) (r := (1, Sw64.MOST)) s12 ht hu hp
    exact k _ p this.1 (by rw [e1]; exact this.2)
  | false =>
    refine if_false_of rfl ?_
    rw [c2, if_neg (by decide)] at e1
    refine ⟨(by show 2 ≤ sizeLine; decide), fun t ht => ⟨(by show 1 ≤ sizeLine; decide), fun p hp => ?_⟩⟩
    have := run1 (q := (0, Sw64.MOST)) s12 ht hp
    exact k _ p this.1 (by rw [e1]; exact this.2)
end
end Sn
/-! rules: the shapes of a rule -/
namespace Sn
open PySem PySem.Spec PyProof.Rows L2
theorem Nw.mono {B H1 H2 : Hp} (h : Same H1 H2) : Same (Nw B H1) (Nw B H2) := fun _ _ q => Nw.at (Nw.old q) (h _ _ (Nw.is q))
theorem Wo.mono {H1 H2 : Hp} {D : Addr} (h : ∀ b o, b ≠ D → H1 b = some o → H2 b = some o) : Same (Wo H1 D) (Wo H2 D) := fun b o q => by
  by_cases c : b = D
  · subst c; rw [Wo.eq] at q; cases q
  · rw [Wo.ne c] at q ⊢; exact h b o c q
theorem Wo.sub {H1 H2 : Hp} {D : Addr} (h : Same H1 H2) (hD : H1 D = none) : Same H1 (Wo H2 D) := fun b o q => by
  rw [Wo.ne (ne_of_none q hD)]; exact h b o q
theorem Nw.wide {B H0 H : Hp} (d : Dom B H0) : Same (Nw H0 H) (Nw B H) := fun b _ q => Nw.at (d b (Nw.old q)) (Nw.is q)
theorem RunsAt.mono {H H' : Hp} {l : Addr} {rs : List (Nat × Nat)} (h : RunsAt H l rs) (e : Same H H') : RunsAt H' l rs :=
  let ⟨as, h1, h2⟩ := h
  ⟨as, e _ _ h1, h2.mono fun _ _ _ _ z => e _ _ z⟩
theorem stand_more {ps : List Pc} {k q r : Nat} {x : Pc} (h : ps[k]? = some x) : stand (ps.take (k + 1)) q r = stand (ps.take k) q r ++ (if Sw64.stands q r x.1 = true then [x.2] else []) := filt_more h
theorem qruns_len (ps : List Pc) : (qruns ps).length ≤ 2 := by unfold qruns; split <;> (try split) <;> decide
theorem rruns_len (ps : List Pc) : (rruns ps).length ≤ 2 := by unfold rruns; split <;> decide
/-- a shape being made: at x, from the heap H1 on -/
structure ShW (A : Ad) (G H1 H : Hp) (x dx ll sl tq tr : Addr) (n : Nat) (s : Sh) : Prop where
  sm : Same H1 H
  hx : H x = some (.ins A.C_Shape dx (F_Shape (.ref tq) (.ref tr) (.ref ll) (.ref sl)))
  ex : ∃ las la pa, H ll = some (.lst (refs (las ++ [la]))) ∧ All2 (BytesAt H) las s.ls ∧ H la = some (.lst (bnums s.lz)) ∧ H sl = some (.lst (refs pa)) ∧ All2 (SlotAt A G) pa s.sl ∧
    H1 la = none ∧ (∀ b ∈ las, H1 b = none) ∧ la ≠ ll ∧ la ≠ sl ∧ (∀ b ∈ las, b ≠ ll ∧ b ≠ sl ∧ b ≠ la) ∧ las.length ≤ n ∧ pa.length ≤ n ∧ s.lz.length ≤ 40 * n
  fx : H1 x = none
  fl : H1 ll = none
  fs : H1 sl = none
  ne : ll ≠ sl
/-- all letters short -/
def Short (ps : List Pc) : Prop := ps.length ≤ 8 ∧ ∀ x ∈ ps, (plet x.2).length ≤ 40
section
variable {P : Program} {w : World} {K : PySem.W.Frag} {mg : Str → Option Value} {base : Heap} {A : Ad}
theorem ShW.text {G H1 H : Hp} {x dx ll sl tq tr : Addr} {n : Nat} {s : Sh} (h : ShW A G H1 H x dx ll sl tq tr n s) {b : Sw64.Bytes} (hb : b.length ≤ 40) :
    ∃ las la pa, H ll = some (.lst (refs (las ++ [la]))) ∧ H la = some (.lst (bnums s.lz)) ∧ H sl = some (.lst (refs pa)) ∧ las.length ≤ n ∧ pa.length ≤ n ∧ s.lz.length ≤ 40 * n ∧
      ShW A G H1 (upd H la (.lst (bnums s.lz ++ bnums b))) x dx ll sl tq tr (n + 1) (s.add (.text b)) := by
  obtain ⟨las, la, pa, h1, h2, h3, h4, h5, h6, h7, h8, h9, h10, h11, h12, h13⟩ := h.ex
  refine ⟨las, la, pa, h1, h3, h4, h11, h12, h13, Same.upd_new h.sm h6, (upd_ne (ne_of h.hx h3 (by intro z; cases z))).trans h.hx, ⟨las, la, pa, (upd_ne h8.symm).trans h1, ?_, ?_, (upd_ne h9.symm).trans h4, h5, h6, h7, h8, h9, h10, by omega, by omega, ?_⟩, h.fx, h.fl, h.fs, h.ne⟩
  · exact h2.mono fun a y ha _ z => (upd_ne (h10 a ha).2.2).trans z
  · rw [upd_same]
    show some (HO.lst (bnums s.lz ++ bnums b)) = some (.lst (bnums (s.lz ++ b)))
    rw [bnums_append]
  · show (s.lz ++ b).length ≤ _
    rw [List.length_append]; omega
theorem ShW.slot {G H1 H : Hp} {x dx ll sl tq tr p : Addr} {n : Nat} {s : Sh} (h : ShW A G H1 H x dx ll sl tq tr n s) {y : Sw64.Piece} (hy : pk y ≠ 0) (hp : SlotAt A G p y) :
    ∃ las la pa, H ll = some (.lst (refs (las ++ [la]))) ∧ H la = some (.lst (bnums s.lz)) ∧ H sl = some (.lst (refs pa)) ∧ las.length ≤ n ∧ pa.length ≤ n ∧ s.lz.length ≤ 40 * n ∧
      ∀ e, H e = none → ShW A G H1 (upd (upd (upd H sl (.lst (refs pa ++ [.ref p]))) e (.lst [])) ll (.lst (refs (las ++ [la]) ++ [.ref e]))) x dx ll sl tq tr (n + 1) (s.add y) := by
  obtain ⟨las, la, pa, h1, h2, h3, h4, h5, h6, h7, h8, h9, h10, h11, h12, h13⟩ := h.ex
  refine ⟨las, la, pa, h1, h3, h4, h11, h12, h13, fun e he => ?_⟩
  have hadd : s.add y = { s with ls := s.ls ++ [s.lz], lz := [], sl := s.sl ++ [y] } := by cases y <;> first | rfl | exact absurd rfl hy
  have ne1 : ll ≠ e := ne_of_none h1 he
  have ne2 : sl ≠ e := ne_of_none h4 he
  have ne3 : la ≠ e := ne_of_none h3 he
  have nx : x ≠ e := ne_of_none h.hx he
  have fe : H1 e = none := Same.free h.sm he
  have nb : ∀ b ∈ las, b ≠ e := fun b hb => by
    obtain ⟨i, hi, e'⟩ := List.mem_iff_getElem.mp hb
    obtain ⟨z, _, r⟩ := h2.get (i := i) (a := b) (by rw [List.getElem?_eq_getElem hi, e'])
    exact ne_of_none r he
  rw [hadd]
  refine ⟨Same.upd_new (Same.upd_new (Same.upd_new h.sm h.fs) fe) h.fl, ?_, ⟨las ++ [la], e, pa ++ [p], ?_, ?_, ?_, ?_, h5.snoc hp, fe, ?_, ne1.symm, ne2.symm, ?_, ?_, ?_, Nat.zero_le _⟩, h.fx, h.fl, h.fs, h.ne⟩
  · rw [upd_ne (ne_of h.hx h1 (by intro z; cases z)), upd_ne nx, upd_ne (ne_of h.hx h4 (by intro z; cases z))]; exact h.hx
  · rw [upd_same]
    unfold refs
    rw [List.map_append (l₁ := las ++ [la])] <;> rfl
  · refine All2.snoc (h2.mono fun b y' hb _ z => ?_) ?_
    · show upd _ _ _ b = _
      rw [upd_ne (h10 b hb).1, upd_ne (nb b hb), upd_ne (h10 b hb).2.1]; exact z
    · show upd _ _ _ la = _
      rw [upd_ne h8, upd_ne ne3, upd_ne h9]; exact h3
  · rw [upd_ne ne1.symm, upd_same] <;> rfl
  · rw [upd_ne h.ne.symm, upd_ne ne2, upd_same]
    unfold refs
    rw [List.map_append] <;> rfl
  · intro b hb
    rcases List.mem_append.mp hb with hb | hb
    · exact h7 b hb
    · rw [List.mem_singleton.mp hb]; exact h6
  · intro b hb
    rcases List.mem_append.mp hb with hb | hb
    · exact ⟨(h10 b hb).1, (h10 b hb).2.1, nb b hb⟩
    · rw [List.mem_singleton.mp hb]; exact ⟨h8, h9, ne3⟩
  · rw [List.length_append]; show _ + 1 ≤ _; omega
  · rw [List.length_append]; show _ + 1 ≤ _; omega
/-- made -/
theorem ShW.done {B G H1 H : Hp} {x dx ll sl tq tr D : Addr} {n : Nat} {s : Sh} {o : HO} (h : ShW A G H1 H x dx ll sl tq tr n s) (dB : Dom B H1) (hD : H1 D ≠ none) (hG : Same G (Nw B (Wo (upd H D o) D))) (hq : RunAt (Nw B (Wo (upd H D o) D)) tq s.q) (hr : RunAt (Nw B (Wo (upd H D o) D)) tr s.r) :
    ShapeAt A (Nw B (Wo (upd H D o) D)) x s := by
  obtain ⟨las, la, pa, h1, h2, h3, h4, h5, h6, h7, h8, h9, h10, h11, h12, h13⟩ := h.ex
  have ok : ∀ b u, H1 b = none → H b = some u → Nw B (Wo (upd H D o) D) b = some u := fun b u f q => by
    have : b ≠ D := fun z => hD (by rw [← z]; exact f)
    exact Nw.at (dB b f) (by rw [Wo.ne this, upd_ne this]; exact q)
  exact ⟨dx, tq, tr, ll, sl, las ++ [la], pa, ok _ _ h.fx h.hx, hq, hr, ok _ _ h.fl h1, (h2.mono fun b y hb _ z => ok _ _ (h7 b hb) z).snoc (ok _ _ h6 h3), ok _ _ h.fs h4, h5.mono fun _ _ _ _ z => z.mono hG⟩
end
end Sn
/-! rules: shapes_of, Rule -/
namespace Sn
open PySem PySem.Spec PyProof.Rows L2
section
variable {P : Program} {w : World} {K : PySem.W.Frag} {mg : Str → Option Value} {base : Heap} {A : Ad}
def spShapes (A : Ad) : Sp := fun vs H Q _ => ∃ (l : Addr) (ps : List Pc) (B : Hp), vs = [.ref l] ∧ Dom B H ∧ PiecesAt A (Nw B H) l ps ∧ Short ps ∧
  ∀ H' p, Same H H' → ShapesAt A (Nw B H') p (shapesOf ps) → Q (.ref p) H'
/-- the shapes made so far, at D; the runs of q at lq -/
structure ShsW (A : Ad) (B H0 H : Hp) (D lq : Addr) (qas : List Addr) (qs : List (Nat × Nat)) (n : Nat) (ss : List Sh) : Prop where
  sm : Same H0 H
  ex : ∃ as, H D = some (.lst (refs as)) ∧ All2 (ShapeAt A (Nw B (Wo H D))) as ss ∧ as.length ≤ n
  rq : Nw B (Wo H D) lq = some (.lst (refs qas))
  ra : All2 (RunAt (Nw B (Wo H D))) qas qs
  fD : H0 D = none
theorem ShsW.ext {B H0 H H' : Hp} {D lq : Addr} {qas : List Addr} {qs : List (Nat × Nat)} {n : Nat} {ss : List Sh} (h : ShsW A B H0 H D lq qas qs n ss) (e : Same H H') : ShsW A B H0 H' D lq qas qs n ss := by
  obtain ⟨as, h1, h2, h3⟩ := h.ex
  have m : Same (Nw B (Wo H D)) (Nw B (Wo H' D)) := Nw.mono (Wo.mono fun b o _ q => e b o q)
  exact ⟨h.sm.trans e, ⟨as, e _ _ h1, h2.mono fun _ _ _ _ z => z.mono m, h3⟩, m _ _ h.rq, h.ra.mono fun _ _ _ _ z => m _ _ z, h.fD⟩
theorem runs_get {H : Hp} {as : List Addr} {rs : List (Nat × Nat)} {i : Nat} {y : V} (h : All2 (RunAt H) as rs) (hi : (refs as)[i]? = some y) : ∃ t r, y = .ref t ∧ rs[i]? = some r ∧ RunAt H t r := by
  unfold refs at hi
  rw [List.getElem?_map] at hi
  cases e : as[i]? with
  | none => rw [e] at hi; cases hi
  | some t =>
    rw [e] at hi
    obtain ⟨r, h1, h2⟩ := h.get e
    exact ⟨t, r, (Option.some.inj hi).symm, h1, h2⟩
theorem objs_get {α : Type} {R : Addr → α → Prop} {as : List Addr} {rs : List α} {i : Nat} {y : V} (h : All2 R as rs) (hi : (refs as)[i]? = some y) : ∃ t r, y = .ref t ∧ rs[i]? = some r ∧ R t r := by
  unfold refs at hi
  rw [List.getElem?_map] at hi
  cases e : as[i]? with
  | none => rw [e] at hi; cases hi
  | some t =>
    rw [e] at hi
    obtain ⟨r, h1, h2⟩ := h.get e
    exact ⟨t, r, (Option.some.inj hi).symm, h1, h2⟩
theorem add_q (s : Sh) (p : Sw64.Piece) : (s.add p).q = s.q ∧ (s.add p).r = s.r := by cases p <;> exact ⟨rfl, rfl⟩
theorem fold_q : ∀ (l : List Sw64.Piece) (s : Sh), (l.foldl Sh.add s).q = s.q ∧ (l.foldl Sh.add s).r = s.r
  | [], _ => ⟨rfl, rfl⟩
  | p :: l, s => ⟨(fold_q l (s.add p)).1.trans (add_q s p).1, (fold_q l (s.add p)).2.trans (add_q s p).2⟩
theorem shOf_q (ps : List Pc) (q r : Nat × Nat) : (shOf ps q r).q = q := (fold_q _ _).1
theorem shOf_r (ps : List Pc) (q r : Nat × Nat) : (shOf ps q r).r = r := (fold_q _ _).2
theorem ok_shapes_of (T : Top K mg A) : FnOk P w K mg base CX0 3 A.f_shapes_of A.d_shapes_of P_shapes_of (spShapes A) := by
  refine T.F_shapes_of.ok sc_shapes_of (fun vs H Q E h => ?_) (fun cdv _ outer s H vs Q E hr h => ⟨_, (pss_cons (ps_set (i := 1) sc_shapes_of.nd rfl (Or.inl rfl) (pe_lst pa_nil))
    (pss_cons (ps_for PassesOwn.never rfl (pi_list (pe_call (ok_q_runs T) (hr.mono (by omega)) (by rfl) T.g_q_runs T.F_q_runs.kp (b_q_runs T) .nil pass0 (pa_cons (pv 0) pa_nil))) (pg_name (i := 2) sc_shapes_of.nd rfl (Or.inl rfl))
    (pss_one (ps_for PassesOwn.never rfl (pi_list (pe_call (ok_r_runs T) (hr.mono (by omega)) (by rfl) T.g_r_runs T.F_r_runs.kp (b_r_runs T) .nil pass0 (pa_cons (pv 0) pa_nil))) (pg_name (i := 3) sc_shapes_of.nd rfl (Or.inl rfl))
    (pss_cons (ps_set (i := 4) sc_shapes_of.nd rfl (Or.inl rfl) (pe_make T.m_Shape (ok_Shape_init T) (hr.mono (by omega)) (by rfl) T.g_Shape (b_Shape_init T) .nil pass0 (pa_cons (pv 2) (pa_cons (pv 3) pa_nil))))
    (pss_cons (ps_for PassesOwn.never rfl (pi_list (pv 0)) (pg_name (i := 5) sc_shapes_of.nd rfl (Or.inl rfl))
    (pss_one (ps_if (pt_val (pe_call (ok_stands_for T) (hr.mono (by omega)) (by rfl) T.g_stands_for T.F_stands_for.kp (b_stands_for T) .nil pass0 (pa_cons (pv 5) (pa_cons (pe_ix ix_tup (pv 2) pe_int (fun _ _ => rfl)) (pa_cons (pe_ix ix_tup (pv 3) pe_int (fun _ _ => rfl)) pa_nil)))))
    (pss_one (ps_expr (pe_meth (pv 4) T.c_Shape T.M_Shape_add_piece (ok_Shape_add_piece T) (hr.mono (by omega)) (b_Shape_add_piece T) .nil pass0 (pa_cons (pv 5) pa_nil))))
    pss_nil)))
    (pss_one (ps_expr (pe_bm PySem.F.plainAttrs_list PySem.F.slot_list_append PySem.F.type_list_append mt_append (pv 1) (pa_cons (pv 4) pa_nil)))))))))
    (pss_one (ps_ret (pv 1))))), ?_⟩)
  · obtain ⟨_, _, _, rfl, _⟩ := h
    rfl
  obtain ⟨l, ps, B, rfl, dB, hps, hsh, k⟩ := h
  have hlen : ps.length ≤ 1000 := Nat.le_trans hsh.1 (by decide)
  refine ⟨(by show 0 ≤ sizeLine; decide), fun D hD => ?_⟩
  have s0 : Same H (upd H D (.lst [])) := same_new hD _
  refine ⟨_, rfl, l, ps, rfl, (hps.mono Nw.same).mono s0, hlen, fun H1 lq s1 R1 => ?_⟩
  have d1 : Dom B (upd H D (.lst [])) := dB.upd
  have hD1 : H1 D = some (.lst []) := s1 _ _ upd_same
  have nD : upd H D (.lst []) D ≠ none := by rw [upd_same]; intro z; cases z
  have R1' : RunsAt (Nw B (Wo H1 D)) lq (qruns ps) := R1.mono fun b o q => Nw.at (d1 b (Nw.old q)) (by
    have : b ≠ D := fun z => by have := Nw.old q; rw [z, upd_same] at this; cases this
    rw [Wo.ne this]; exact Nw.is q)
  obtain ⟨qas, hq1, hq2⟩ := id R1'
  have hq0 : H1 lq = some (.lst (refs qas)) := Wo.same _ _ (Nw.is hq1)
  refine ⟨lq, rfl, ⟨_, SqL.of hq0⟩, for_list (K := K) (a := lq) (xs := refs qas)
    (fun i σ H' => ∃ v2 v3 v4 v5, σ = [some (.ref l), some (.ref D), v2, v3, v4, v5] ∧ ShsW A B H H' D lq qas (qruns ps) (i * 2) (((qruns ps).take i).flatMap fun q => (rruns ps).map (shOf ps q)))
    ⟨none, none, none, none, rfl, s0.trans s1, ⟨[], hD1, .nil, Nat.zero_le _⟩, hq1, hq2, hD⟩ ?_ ?_ ?_⟩
  · rintro i σ H' _ ⟨_, _, _, _, _, h'⟩
    exact SqL.of (Wo.same _ _ (Nw.is h'.rq))
  · rintro i y σ H' hi ⟨v2, v3, v4, v5, rfl, h'⟩
    obtain ⟨tq, q, rfl, hq, hqt⟩ := runs_get h'.ra hi
    have hi2 : i < 2 := Nat.lt_of_lt_of_le (List.getElem?_eq_some_iff.mp hq).1 (qruns_len ps)
    refine ⟨_, rfl, l, ps, rfl, (hps.mono Nw.same).mono h'.sm, hlen, fun H2 lr s2 R2 => ?_⟩
    obtain ⟨ras, hr1, hr2⟩ := id R2
    have h2 := h'.ext s2
    obtain ⟨as0, hD0, _⟩ := h'.ex
    have kR : ∀ {H3 : Hp}, (∀ b o, b ≠ D → H2 b = some o → H3 b = some o) → Same (Nw H' H2) (Nw B (Wo H3 D)) := fun e b o q => Nw.at (dB b (Same.free h'.sm (Nw.old q))) (by
      have : b ≠ D := fun z => by have := Nw.old q; rw [z, hD0] at this; cases this
      rw [Wo.ne this]; exact e _ _ this (Nw.is q))
    refine ⟨lr, rfl, ⟨_, SqL.of (Nw.is hr1)⟩, for_list (K := K) (a := lr) (xs := refs ras)
      (fun j σ H3 => ∃ v3 v4 v5, σ = [some (.ref l), some (.ref D), some (.ref tq), v3, v4, v5] ∧ (∀ b o, b ≠ D → H2 b = some o → H3 b = some o) ∧ ShsW A B H H3 D lq qas (qruns ps) (i * 2 + j) ((((qruns ps).take i).flatMap fun q => (rruns ps).map (shOf ps q)) ++ ((rruns ps).take j).map (shOf ps q)))
      ⟨v3, v4, v5, rfl, fun _ _ _ e => e, by rw [List.take_zero, List.map_nil, List.append_nil]; exact h2⟩ ?_ ?_ ?_⟩
    · rintro j σ H3 _ ⟨_, _, _, _, e, _⟩
      exact SqL.of (Wo.same _ _ (Nw.is (kR e _ _ hr1)))
    · rintro j y σ H3 hj ⟨v3, v4, v5, rfl, e3, h3⟩
      obtain ⟨tr, r, rfl, hr, hrt⟩ := runs_get hr2 hj
      have hj2 : j < 2 := Nat.lt_of_lt_of_le (List.getElem?_eq_some_iff.mp hr).1 (rruns_len ps)
      refine ⟨_, rfl, _, rfl, fun x dx nx nd ne => ⟨x, dx, _, _, rfl, upd_same, fun H4 e ll sl he hll hsl n1 n2 n3 a1 a2 a3 a4 kp => ⟨rfl, ?_⟩⟩⟩
      have s4 : Same H3 H4 := fun b o hb => kp b o ((upd_ne (ne_of_none hb nx)).trans ((upd_ne (ne_of_none hb nd)).trans hb)) (ne_of_none hb nx)
      have dm : Dom H3 (upd (upd H3 dx (.own x)) x (.ins A.C_Shape dx [])) := Dom.rfl.upd.upd
      obtain ⟨pas, hl1, hl2⟩ := hps
      have sG : Same (Nw B H) H3 := fun b o q => h3.sm _ _ (Nw.is q)
      have hl3 : H3 l = some (.lst (refs pas)) := sG _ _ hl1
      have w0 : ShW A (Nw B H) H3 H4 x dx ll sl tq tr 0 (Sh.new q r) := ⟨s4, a1, ⟨[], e, [], a3, .nil, a2, a4, .nil, dm _ he, (fun b hb => by cases hb), n1, n2, (fun b hb => by cases hb), Nat.zero_le _, Nat.zero_le _, Nat.zero_le _⟩, nx, dm _ hll, dm _ hsl, n3⟩
      have tqA : ∀ {H5 : Hp}, Same H3 H5 → RunAt H5 tq q := fun e => e _ _ (Wo.same _ _ (Nw.is ((hqt : Nw B (Wo H' D) tq = _) |> fun z => Nw.mono (Wo.mono fun b o n q => e3 b o n (s2 b o q)) _ _ z)))
      have trA : ∀ {H5 : Hp}, Same H3 H5 → RunAt H5 tr r := fun e => e _ _ (Wo.same _ _ (Nw.is (kR e3 _ _ hrt)))
      refine ⟨_, rfl, l, rfl, ⟨_, SqL.of (s4 _ _ hl3)⟩, for_list (K := K) (a := l) (xs := refs pas)
        (fun n σ H5 => ∃ v5, σ = [some (.ref l), some (.ref D), some (.ref tq), some (.ref tr), some (.ref x), v5] ∧ ShW A (Nw B H) H3 H5 x dx ll sl tq tr n ((stand (ps.take n) q.1 r.1).foldl Sh.add (Sh.new q r)))
        ⟨v5, rfl, w0⟩ ?_ ?_ ?_⟩
      · rintro n σ H5 _ ⟨_, _, w5⟩
        exact SqL.of (w5.sm _ _ hl3)
      · rintro n y σ H5 hn ⟨v5, rfl, w5⟩
        obtain ⟨p, z, rfl, hz, hp⟩ := objs_get hl2 hn
        have hn8 : n < 8 := Nat.lt_of_lt_of_le (List.getElem?_eq_some_iff.mp hz).1 hsh.1
        have hp5 : PieceAt A H5 p z := (hp.mono sG).mono w5.sm
        have hst := stand_more (q := q.1) (r := r.1) hz
        have hzl : (plet z.2).length ≤ 40 := hsh.2 z (List.mem_of_getElem? hz)
        refine ⟨_, rfl, _, rfl, tq, _, _, _, rfl, rfl, SqT.of (tqA w5.sm), rfl, _, rfl, tr, _, _, _, rfl, rfl, SqT.of (trA w5.sm), rfl, p, z, q.1, r.1, rfl, hp5, _, rfl, ?_⟩
        by_cases c : Sw64.stands q.1 r.1 z.1 = true
        · refine if_true_of c ?_
          rw [if_pos c] at hst
          by_cases c2 : pk z.2 = 0
          · obtain ⟨b, hb⟩ : ∃ b, z.2 = .text b := by
              cases hz2 : z.2 with
              | text b => exact ⟨b, rfl⟩
              | times _ => rw [hz2] at c2; cases c2
              | left _ => rw [hz2] at c2; cases c2
            have hbl : plet z.2 = b := by rw [hb] <;> rfl
            obtain ⟨las, la, pa, q1, q2, q3, q4, q5, q6, w6⟩ := w5.text (b := b) (by rw [← hbl]; exact hzl)
            refine ⟨_, rfl, _, _, _, rfl, w5.hx, F_Shape_no_add_piece, _, rfl, x, p, dx, la, ll, sl, _, _, las, _, _, z, rfl, w5.hx, q1, q2, q3, w5.ne, by omega, by rw [refs_length]; omega, by rw [bnums_length]; omega, by omega, hp5, fun _ => ?_, fun n => absurd c2 n⟩
            refine ⟨_, rfl, ?_⟩
            rw [hst, List.foldl_append, hbl, hb]
            exact w6
          · obtain ⟨las, la, pa, q1, q2, q3, q4, q5, q6, w6⟩ := w5.slot c2 ⟨z.1, hp⟩
            refine ⟨_, rfl, _, _, _, rfl, w5.hx, F_Shape_no_add_piece, _, rfl, x, p, dx, la, ll, sl, _, _, las, _, _, z, rfl, w5.hx, q1, q2, q3, w5.ne, by omega, by rw [refs_length]; omega, by rw [bnums_length]; omega, by omega, hp5, fun n => absurd n c2, fun _ e he => ?_⟩
            refine ⟨_, rfl, ?_⟩
            rw [hst, List.foldl_append]
            exact w6 e he
        · refine if_false_of (Bool.eq_false_iff.mpr c) ?_
          rw [if_neg c, List.append_nil] at hst
          refine ⟨_, rfl, ?_⟩
          rw [hst]
          obtain ⟨las, la, pa, q1, q2, q3, q4, q5, q6, q7, q8, q9, q10, q11, q12, q13⟩ := w5.ex
          exact ⟨w5.sm, w5.hx, ⟨las, la, pa, q1, q2, q3, q4, q5, q6, q7, q8, q9, q10, by omega, by omega, by omega⟩, w5.fx, w5.fl, w5.fs, w5.ne⟩
      · rintro σ H5 ⟨v5, rfl, w5⟩
        have h5 := h3.ext w5.sm
        obtain ⟨as, g1, g2, g3⟩ := h5.ex
        have e5 : ∀ b o, b ≠ D → H5 b = some o → upd H5 D (.lst (refs as ++ [.ref x])) b = some o := fun b o n q => (upd_ne n).trans q
        have m5 : Same (Nw B (Wo H5 D)) (Nw B (Wo (upd H5 D (.lst (refs as ++ [.ref x]))) D)) := Nw.mono (Wo.mono e5)
        refine ⟨_, rfl, .inl ⟨rfl, _, SqL.of g1⟩, _, rfl, D, _, _, rfl, rfl, g1, (by rw [refs_length, sizeLine_eq]; omega), ?_⟩
        refine ⟨_, _, _, rfl, fun b o n q => e5 b o n (w5.sm _ _ (e3 b o n q)), Same.upd_new h5.sm hD, ⟨as ++ [x], ?_, ?_, ?_⟩, m5 _ _ h5.rq, h5.ra.mono fun _ _ _ _ z => m5 _ _ z, hD⟩
        · rw [upd_same]; unfold refs; rw [List.map_append] <;> rfl
        · rw [take_more hr, List.map_append, ← List.append_assoc]
          refine (g2.mono fun _ _ _ _ z => z.mono m5).snoc ?_
          have := hl2.length
          rw [refs_length, this, List.take_length] at w5
          refine w5.done (D := D) (dB.trans (Same.dom h3.sm)) (by obtain ⟨a', z, _⟩ := h3.ex; rw [z]; intro z; cases z) ?_ ?_ ?_
          · exact Nw.mono (Wo.sub (Same.upd_new h5.sm hD) hD)
          · show RunAt _ tq (shOf ps q r).q
            rw [shOf_q]
            exact Nw.mono (Wo.mono fun b o n q => e5 b o n (w5.sm _ _ (e3 b o n (s2 b o q)))) _ _ hqt
          · show RunAt _ tr (shOf ps q r).r
            rw [shOf_r]
            exact kR (fun b o n q => e5 b o n (w5.sm _ _ (e3 b o n q))) _ _ hrt
        · rw [List.length_append]; show _ + 1 ≤ _; omega
    · rintro σ H3 ⟨v3, v4, v5, rfl, e3, h3⟩
      refine ⟨some (.ref tq), v3, v4, v5, rfl, ?_⟩
      have hl := hr2.length
      rw [refs_length, hl, List.take_length] at h3
      rw [take_more hq, List.flatMap_append]
      obtain ⟨as, q1, q2, q3⟩ := h3.ex
      have := rruns_len ps
      exact ⟨h3.sm, ⟨as, q1, by simpa using q2, by omega⟩, h3.rq, h3.ra, h3.fD⟩
  · rintro σ H' ⟨v2, v3, v4, v5, rfl, h'⟩
    have hl := hq2.length
    rw [refs_length, hl, List.take_length] at h'
    obtain ⟨as, q1, q2, q3⟩ := h'.ex
    refine ⟨_, rfl, k H' D h'.sm ⟨as, Nw.at (dB _ hD) q1, q2.mono fun _ _ _ _ z => z.mono (Nw.mono Wo.same)⟩⟩
def spRule_init (A : Ad) : Sp := fun vs H Q _ => ∃ (p dx l : Addr) (b d : Nat) (ps : List Pc) (B : Hp), vs = [.ref p, .int (b : Int), .int (d : Int), .ref l] ∧ H p = some (.ins A.C_Rule dx []) ∧ Dom B H ∧ B p = none ∧ PiecesAt A (Nw B (Wo H p)) l ps ∧ Short ps ∧
  ∀ H', (∀ b o, H b = some o → b ≠ p → H' b = some o) → RuleAt A (Nw B H') p (⟨b, d, ps⟩, Sw64.MOST) → Q .non H'
theorem ok_Rule_init (T : Top K mg A) : FnOk P w K mg base CX0 4 A.f_Rule_init A.d_Rule_init P_Rule_init (spRule_init A) := by
  refine T.F_Rule_init.ok sc_Rule_init (fun vs H Q E h => ?_) (fun cdv _ outer s H vs Q E hr h => ⟨_, (pss_cons (ps_fld (pv 0) (pv 1) rfl)
    (pss_cons (ps_fld (pv 0) (pe_gi rfl T.k_HIGHEST) rfl)
    (pss_cons (ps_fld (pv 0) (pv 2) rfl)
    (pss_one (ps_fld (pv 0) (pe_call (ok_shapes_of T) (hr.mono (by omega)) (by rfl) T.g_shapes_of T.F_shapes_of.kp (b_shapes_of T) .nil pass0 (pa_cons (pv 3) pa_nil)) rfl))))), ?_⟩)
  · obtain ⟨_, _, _, _, _, _, _, rfl, _⟩ := h
    rfl
  obtain ⟨p, dx, l, b, d, ps, B, rfl, hp, dB, fp, hps, hsh, k⟩ := h
  refine ⟨_, rfl, _, rfl, _, _, _, _, rfl, hp, T.c_Rule, T.n_Rule_base, (by decide), ?_⟩
  rw [F_Rule_ini_base]
  refine ⟨_, rfl, p, A.C_Rule, dx, _, rfl, upd_same, T.c_Rule, T.n_Rule_last, (by show 1 < 1000; decide), ?_⟩
  rw [upd_upd, F_Rule_ini_last]
  refine ⟨_, rfl, _, rfl, p, A.C_Rule, dx, _, rfl, upd_same, T.c_Rule, T.n_Rule_divisor, (by show 2 < 1000; decide), ?_⟩
  rw [upd_upd, F_Rule_ini_divisor]
  have hu : ∀ {H' : Hp} {b : Addr} {o : HO}, Nw (upd B p (.lst [])) H' b = some o → b ≠ p ∧ B b = none := fun {_ b _} q => by
    have := Nw.old q
    have n : b ≠ p := fun z => by rw [z, upd_same] at this; cases this
    exact ⟨n, by rwa [upd_ne n] at this⟩
  refine ⟨_, rfl, l, ps, upd B p (.lst []), rfl, fun b e => ?_, hps.mono fun b o q => ?_, hsh, fun H' ls s1 hS => ?_⟩
  · by_cases c : b = p
    · subst c; rw [upd_same] at e; cases e
    · rw [upd_ne c] at e ⊢; exact dB b e
  · have n : b ≠ p := fun z => by have := Nw.is q; rw [z, Wo.eq] at this; cases this
    refine Nw.at ((upd_ne n).trans (Nw.old q)) ((upd_ne n).trans (Wo.same _ _ (Nw.is q)))
  have hp' := s1 p _ upd_same
  refine ⟨_, rfl, p, A.C_Rule, dx, _, rfl, hp', T.c_Rule, T.n_Rule_shapes, (by show 3 < 1000; decide), ?_⟩
  rw [F_Rule_ini_shapes]
  refine k _ (fun b o q n => (upd_ne n).trans (s1 b o ((upd_ne n).trans q))) ⟨dx, ls, Nw.at fp upd_same, hS.mono fun b o q => Nw.at (hu q).2 ((upd_ne (hu q).1).trans (Nw.is q))⟩
end
end Sn
/-! rules: how many have a base that isn't above n; what is refused -/
namespace Sn
open PySem PySem.Spec PyProof.Rows L2
def upCnt (s : Sw64.RSet) (n : Nat) : Nat := (s.filter fun R => decide (R.base ≤ n)).length
theorem rising_pair : ∀ {l : List Nat}, Sw64.rising l = true → l.Pairwise (· < ·)
  | [], _ => .nil
  | a :: l, h => .cons (fun x hx => SpecMath.rising_lt h x hx) (rising_pair (SpecMath.rising_tail h))
theorem rise_lt {s : Sw64.RSet} (h : Sw64.rising (s.map fun r => r.base) = true) {i j : Nat} {R X : Sw64.Rule} (hi : s[i]? = some R) (hj : s[j]? = some X) (l : i < j) : R.base < X.base := by
  have p := List.pairwise_iff_getElem.mp (rising_pair h)
  obtain ⟨h1, e1⟩ := List.getElem?_eq_some_iff.mp hi
  obtain ⟨h2, e2⟩ := List.getElem?_eq_some_iff.mp hj
  have := p i j (by rw [List.length_map]; exact h1) (by rw [List.length_map]; exact h2) l
  rw [List.getElem_map, List.getElem_map, e1, e2] at this
  exact this
theorem upCnt_of {s : Sw64.RSet} {n lo : Nat} (h : lo ≤ s.length) (h1 : ∀ i R, i < lo → s[i]? = some R → R.base ≤ n) (h2 : ∀ i R, lo ≤ i → s[i]? = some R → n < R.base) : upCnt s n = lo := by
  unfold upCnt
  have e : s = s.take lo ++ s.drop lo := (List.take_append_drop lo s).symm
  rw [e, List.filter_append]
  have e1 : (s.take lo).filter (fun R => decide (R.base ≤ n)) = s.take lo := List.filter_eq_self.mpr fun R hR => by
    obtain ⟨i, hi, e⟩ := List.mem_iff_getElem.mp hR
    rw [List.getElem_take] at e
    rw [List.length_take] at hi
    exact decide_eq_true (h1 i R (by omega) (by rw [List.getElem?_eq_getElem (by omega), e]))
  have e2 : (s.drop lo).filter (fun R => decide (R.base ≤ n)) = [] := List.filter_eq_nil_iff.mpr fun R hR => by
    obtain ⟨i, hi, e⟩ := List.mem_iff_getElem.mp hR
    rw [List.getElem_drop] at e
    rw [List.length_drop] at hi
    have := h2 (lo + i) R (by omega) (by rw [List.getElem?_eq_getElem (by omega), e])
    rw [decide_eq_true_eq]; omega
  rw [e1, e2, List.append_nil, List.length_take]
  omega
section
variable {P : Program} {w : World} {K : PySem.W.Frag} {mg : Str → Option Value} {base : Heap} {A : Ad}
def spUp (A : Ad) : Sp := fun vs H Q _ => ∃ (l : Addr) (s : Sw64.RSet) (n : Nat), vs = [.ref l, .int (n : Int)] ∧ SetAt A H l s ∧ Sw64.rising (s.map fun r => r.base) = true ∧ s.length ≤ 1000 ∧ Q (.int (upCnt s n : Nat)) H
theorem set_get {H : Hp} {as : List Addr} {s : Sw64.RSet} {i : Nat} (h : All2 (RuleAt A H) as (withLast s)) (hi : i < s.length) : ∃ a R, as[i]? = some a ∧ s[i]? = some R ∧ RuleAt A H a (R, Sw64.upTo s R) := by
  have e : (withLast s)[i]? = some (s[i], Sw64.upTo s s[i]) := by unfold withLast; rw [List.getElem?_map, List.getElem?_eq_getElem hi] <;> rfl
  obtain ⟨a, h1, h2⟩ := h.getx e
  exact ⟨a, s[i], h1, List.getElem?_eq_getElem hi, h2⟩
theorem set_len {H : Hp} {as : List Addr} {s : Sw64.RSet} (h : All2 (RuleAt A H) as (withLast s)) : as.length = s.length := by
  rw [h.length]; unfold withLast; rw [List.length_map]
theorem ok_rules_up_to (T : Top K mg A) : FnOk P w K mg base CX0 1 A.f_rules_up_to A.d_rules_up_to P_rules_up_to (spUp A) := by
  refine T.F_rules_up_to.ok sc_rules_up_to (fun vs H Q E h => ?_) (fun cdv _ outer s H vs Q E hr h => ⟨_, (pss_cons (ps_set (i := 2) sc_rules_up_to.nd rfl (Or.inl rfl) pe_int)
    (pss_cons (ps_set (i := 3) sc_rules_up_to.nd rfl (Or.inl rfl) (pe_callB call_len_seq (by rfl) T.n_len PySem.boot_len (pa_cons (pv 0) pa_nil)))
    (pss_cons (ps_while PassesOwn.never (pt_cmpR op_lt (pv 2) (pv 3) (nomark _))
    (pss_cons (ps_set (i := 4) sc_rules_up_to.nd rfl (Or.inl rfl) (pe_op op_divN (pe_op op_add (pv 2) (pv 3)) pe_int))
    (pss_one (ps_if (pt_cmpR op_le (pe_fld (pe_ix ix_list (pv 0) (pv 4) (fun _ _ => rfl)) rfl) (pv 1) (nomark _))
    (pss_one (ps_set (i := 2) sc_rules_up_to.nd rfl (Or.inl rfl) (pe_op op_add (pv 4) pe_int)))
    (pss_one (ps_set (i := 3) sc_rules_up_to.nd rfl (Or.inl rfl) (pv 4)))))))
    (pss_one (ps_ret (pv 2)))))), ?_⟩)
  · obtain ⟨_, _, _, rfl, _⟩ := h
    rfl
  obtain ⟨l, s, n, rfl, ⟨as, hl, h2⟩, hri, hz, k⟩ := h
  have hlen := set_len h2
  refine ⟨_, rfl, l, _, rfl, .inl (SqL.of hl), ?_⟩
  refine ⟨fun m σ H' => ∃ (lo hi : Nat) (v4 : Option V), σ = [some (.ref l), some (.int (n : Int)), some (.int (lo : Int)), some (.int (hi : Int)), v4] ∧ H' = H ∧ m = hi - lo ∧ lo ≤ hi ∧ hi ≤ s.length ∧
    (∀ i R, i < lo → s[i]? = some R → R.base ≤ n) ∧ (∀ i R, hi ≤ i → s[i]? = some R → n < R.base), ⟨s.length, 0, s.length, none, ?_, rfl, rfl, Nat.zero_le _, Nat.le_refl _, fun i R h => absurd h (Nat.not_lt_zero _), fun i R h e => ?_⟩, ?_⟩
  · rw [refs_length, hlen]; rfl
  · have := (List.getElem?_eq_some_iff.mp e).1; omega
  rintro m σ H' ⟨lo, hi, v4, rfl, rfl, rfl, b1, b2, i1, i2⟩
  refine ⟨_, rfl, _, rfl, _, _, rfl, rfl, _, rfl, ?_⟩
  refine split_dec (fun c => ?_) (fun c => ?_)
  · have c' : lo < hi := by omega
    refine ⟨fun σ' H' => ∃ m', m' < hi - lo ∧ _, fun _ _ z => z, ?_⟩
    have hm : (lo + hi) / 2 < s.length := by omega
    obtain ⟨a, R, ha, hR, ⟨dx, ls, hRa, _⟩⟩ := set_get h2 hm
    have e2 : ((lo : Int) + (hi : Int)) = ((lo + hi : Nat) : Int) := by omega
    refine ⟨_, rfl, _, rfl, _, _, rfl, rfl, lo + hi, 2, ?_, rfl, by decide, ?_⟩
    · show V.int ((lo : Int) + (hi : Int)) = _
      rw [e2]
    refine ⟨_, rfl, _, rfl, l, _, _, _, rfl, rfl, SqL.of hl, atI_nat (refs_get ha), a, _, _, _, _, rfl, hRa, T.c_Rule, T.n_Rule_base, F_Rule_base, _, rfl, _, _, rfl, rfl, _, rfl, ?_⟩
    refine split_dec (fun d => ?_) (fun d => ?_)
    · refine ⟨_, rfl, _, _, rfl, rfl, ?_⟩
      refine ⟨hi - ((lo + hi) / 2 + 1), by omega, (lo + hi) / 2 + 1, hi, _, rfl, rfl, rfl, by omega, b2, fun i X hi' hX => ?_, i2⟩
      have d' : R.base ≤ n := by have d : ((R.base : Nat) : Int) ≤ (n : Int) := d; omega
      by_cases e : i = (lo + hi) / 2
      · subst e; rw [hR] at hX; cases hX; exact d'
      · have := rise_lt hri hX hR (by omega); omega
    · refine ⟨_, rfl, ?_⟩
      refine ⟨(lo + hi) / 2 - lo, by omega, lo, (lo + hi) / 2, _, rfl, rfl, rfl, by omega, by omega, i1, fun i X hi' hX => ?_⟩
      have d' : ¬ R.base ≤ n := by have d : ¬ ((R.base : Nat) : Int) ≤ (n : Int) := d; omega
      by_cases e : i = (lo + hi) / 2
      · subst e; rw [hR] at hX; cases hX; omega
      · have := rise_lt hri hR hX (by omega); omega
  · have c' : lo = hi := by omega
    subst c'
    refine ⟨_, rfl, ?_⟩
    rw [upCnt_of b2 i1 i2] at k
    exact k
def spMbp (A : Ad) (K : PySem.W.Frag) : Sp := fun vs H Q _ => ∃ (p : Addr) (x : Pc), vs = [.ref p] ∧ PieceAt A H p x ∧ Q (.bl (match x.2 with | .text b => decide (b.length ≤ 40) | .times j => decide (j < 8) | .left j => decide (j < 8))) H
theorem ok_may_be_piece (T : Top K mg A) : FnOk P w K mg base CX0 1 A.f_may_be_piece A.d_may_be_piece P_may_be_piece (spMbp A K) := by
  refine T.F_may_be_piece.ok sc_may_be_piece (fun vs H Q E h => ?_) (fun cdv _ outer s H vs Q E hr h => ⟨_, (pss_cons (ps_if (pt_cmpR op_eq (pe_fld (pv 0) rfl) (pe_gi rfl T.k_LETTERS) (nomark _))
    (pss_one (ps_ret (pe_cmpR op_le (pe_callB call_len_seq (by rfl) T.n_len PySem.boot_len (pa_cons (pe_fld (pv 0) rfl) pa_nil)) (pe_gi rfl T.k_MOST_BYTES) (nomark _))))
    pss_nil)
    (pss_one (ps_ret (pe_cmpR op_lt (pe_fld (pv 0) rfl) (pe_gi rfl T.k_HOW_MANY_SETS) (nomark _))))), ?_⟩)
  · obtain ⟨_, _, rfl, _⟩ := h
    rfl
  obtain ⟨p, ⟨wh, y⟩, rfl, ⟨dx, l, hp, hl⟩, k⟩ := h
  cases y with
  | text b =>
    refine ⟨_, rfl, _, _, _, _, _, rfl, hp, T.c_Piece, T.n_Piece_kind, F_Piece_kind, rfl, _, rfl, if_true_of rfl ?_⟩
    refine ⟨_, rfl, _, _, _, _, _, rfl, hp, T.c_Piece, T.n_Piece_letters, F_Piece_letters, l, _, rfl, .inl (SqL.of hl), _, _, rfl, rfl, ?_⟩
    have e : decide ((b.length : Nat) ≤ 40) = decide (((bnums b).length : Int) ≤ 40) := decide_eq_decide.mpr (by rw [bnums_length]; omega)
    have k' : Q (.bl (decide (b.length ≤ 40))) H := k
    rw [e] at k'; exact k'
  | times j =>
    refine ⟨_, rfl, _, _, _, _, _, rfl, hp, T.c_Piece, T.n_Piece_kind, F_Piece_kind, rfl, _, rfl, if_false_of rfl ?_⟩
    refine ⟨_, rfl, _, _, _, _, _, rfl, hp, T.c_Piece, T.n_Piece_by, F_Piece_by, _, _, rfl, rfl, ?_⟩
    have e : decide (j < 8) = decide ((j : Int) < 8) := decide_eq_decide.mpr (by omega)
    have k' : Q (.bl (decide (j < 8))) H := k
    rw [e] at k'; exact k'
  | left j =>
    refine ⟨_, rfl, _, _, _, _, _, rfl, hp, T.c_Piece, T.n_Piece_kind, F_Piece_kind, rfl, _, rfl, if_false_of rfl ?_⟩
    refine ⟨_, rfl, _, _, _, _, _, rfl, hp, T.c_Piece, T.n_Piece_by, F_Piece_by, _, _, rfl, rfl, ?_⟩
    have e : decide (j < 8) = decide ((j : Int) < 8) := decide_eq_decide.mpr (by omega)
    have k' : Q (.bl (decide (j < 8))) H := k
    rw [e] at k'; exact k'
end
end Sn
/-! what is refused of rules; how the numbers tell them -/
namespace Sn
open Sw64
def mayBase (ps : List Pc) : Bool := ps.all fun x => decide (pk x.2 = 0) && decide (wc x.1 = 0)
def qst (ps : List Pc) : List Nat := (ps.filter fun x => decide (pk x.2 = 1)).map fun x => wc x.1
def rst (ps : List Pc) : List Nat := (ps.filter fun x => decide (pk x.2 = 2)).map fun x => wc x.1
def alw (ps : List Pc) : List Pc := ps.filter fun x => decide (wc x.1 = 0) && decide (0 < (plet x.2).length)
def mayParts (ps : List Pc) : Bool := (decide (qst ps = []) || decide (qst ps = [0]) || decide (qst ps = [3])) && ((decide (rst ps = [0]) || decide (rst ps = [1])) && decide (0 < (alw ps).length))
def mbp (y : Piece) : Bool := match y with | .text b => decide (b.length ≤ 40) | .times j => decide (j < 8) | .left j => decide (j < 8)
def mayRule (b d : Nat) (ps : List Pc) : Bool :=
  if MOST < b ∨ 8 < ps.length then false else if (ps.all fun x => mbp x.2) = false then false
  else if d = 0 then mayBase ps else decide (2 ≤ d ∧ d ≤ b) && mayParts ps
theorem qst_iff (ps : List Pc) : (qst ps = [] ∨ qst ps = [0] ∨ qst ps = [3]) ↔ (ps.filter fun x => isTimes x.2).length ≤ 1 ∧ ∀ x ∈ ps, isTimes x.2 = true → x.1 = .always ∨ x.1 = .many := by
  have e : (ps.filter fun x => decide (pk x.2 = 1)) = ps.filter fun x => isTimes x.2 := by
    congr 1; funext x; cases x.2 <;> rfl
  unfold qst
  rw [e]
  have hm : ∀ x, x ∈ ps.filter (fun x => isTimes x.2) ↔ x ∈ ps ∧ isTimes x.2 = true := fun x => List.mem_filter
  generalize ps.filter (fun x => isTimes x.2) = f at hm
  constructor
  · intro h
    match f, hm, h with
    | [], hm, _ => exact ⟨Nat.zero_le _, fun x hx ht => absurd ((hm x).mpr ⟨hx, ht⟩) List.not_mem_nil⟩
    | [a], hm, h =>
      refine ⟨Nat.le_refl _, fun x hx ht => ?_⟩
      have := (hm x).mpr ⟨hx, ht⟩
      rw [List.mem_singleton] at this
      subst this
      rcases h with h | h | h
      · cases h
      · exact .inl (wc_inj (by simpa [wc] using h))
      · exact .inr (wc_inj (by simpa [wc] using h))
    | a :: b :: f, _, h => rcases h with h | h | h <;> simp at h
  · rintro ⟨h1, h2⟩
    match f, hm, h1 with
    | [], _, _ => exact .inl rfl
    | [a], hm, _ =>
      have := (hm a).mp List.mem_cons_self
      rcases h2 a this.1 this.2 with h | h
      · exact .inr (.inl (by simp [h, wc]))
      · exact .inr (.inr (by simp [h, wc]))
    | a :: b :: f, _, h => simp at h
theorem rst_iff (ps : List Pc) : (rst ps = [0] ∨ rst ps = [1]) ↔ (ps.filter fun x => isLeft x.2).length = 1 ∧ ∀ x ∈ ps, isLeft x.2 = true → x.1 = .always ∨ x.1 = .rest := by
  have e : (ps.filter fun x => decide (pk x.2 = 2)) = ps.filter fun x => isLeft x.2 := by
    congr 1; funext x; cases x.2 <;> rfl
  unfold rst
  rw [e]
  have hm : ∀ x, x ∈ ps.filter (fun x => isLeft x.2) ↔ x ∈ ps ∧ isLeft x.2 = true := fun x => List.mem_filter
  generalize ps.filter (fun x => isLeft x.2) = f at hm
  constructor
  · intro h
    match f, hm, h with
    | [], hm, h => rcases h with h | h <;> cases h
    | [a], hm, h =>
      refine ⟨rfl, fun x hx ht => ?_⟩
      have := (hm x).mpr ⟨hx, ht⟩
      rw [List.mem_singleton] at this
      subst this
      rcases h with h | h
      · exact .inl (wc_inj (by simpa [wc] using h))
      · exact .inr (wc_inj (by simpa [wc] using h))
    | a :: b :: f, _, h => rcases h with h | h <;> simp at h
  · rintro ⟨h1, h2⟩
    match f, hm, h1 with
    | [], _, h => cases h
    | [a], hm, _ =>
      have := (hm a).mp List.mem_cons_self
      rcases h2 a this.1 this.2 with h | h
      · exact .inl (by simp [h, wc])
      · exact .inr (by simp [h, wc])
    | a :: b :: f, _, h => simp at h
theorem alw_iff (b d : Nat) (ps : List Pc) : 0 < (alw ps).length ↔ marked ⟨b, d, ps⟩ = true := by
  unfold alw marked
  rw [List.length_pos_iff_exists_mem, List.any_eq_true]
  constructor
  · rintro ⟨x, hx⟩
    rw [List.mem_filter, Bool.and_eq_true, decide_eq_true_eq, decide_eq_true_eq] at hx
    obtain ⟨h1, h2, h3⟩ := hx
    refine ⟨x, h1, ?_⟩
    rw [Bool.and_eq_true]
    refine ⟨by rw [wc_inj (b := .always) h2]; rfl, ?_⟩
    cases hy : x.2 with
    | text t => rw [hy] at h3; simp [plet] at h3; simp; intro z; simp [z] at h3
    | times _ => rw [hy] at h3; simp [plet] at h3
    | left _ => rw [hy] at h3; simp [plet] at h3
  · rintro ⟨x, h1, h2⟩
    rw [Bool.and_eq_true] at h2
    refine ⟨x, List.mem_filter.mpr ⟨h1, ?_⟩⟩
    rw [Bool.and_eq_true, decide_eq_true_eq, decide_eq_true_eq]
    refine ⟨by rw [show x.1 = .always by simpa using h2.1]; rfl, ?_⟩
    have h3 := h2.2
    cases hy : x.2 with
    | text t => rw [hy] at h3; simp at h3; exact List.length_pos_iff.mpr h3
    | times _ => rw [hy] at h3; cases h3
    | left _ => rw [hy] at h3; cases h3
theorem mayRule_eq (b d : Nat) (ps : List Pc) : mayRule b d ps = ruleOk ⟨b, d, ps⟩ := by
  unfold mayRule ruleOk
  simp only
  by_cases h1 : b ≤ MOST
  · by_cases h2 : ps.length ≤ 8
    · rw [if_neg (by omega), decide_eq_true h1, decide_eq_true (show ps.length ≤ PIECES from h2), Bool.true_and, Bool.true_and]
      by_cases h3 : d = 0
      · subst h3
        rw [if_pos rfl, if_pos rfl]
        rw [Bool.eq_iff_iff]
        unfold mayBase
        simp only [Bool.and_eq_true, List.all_eq_true]
        constructor
        · intro h
          split at h
          · cases h
          · rename_i h4
            have h4 : ∀ x ∈ ps, mbp x.2 = true := by simpa using h4
            have h5 : ∀ x ∈ ps, pk x.2 = 0 ∧ wc x.1 = 0 := by
              intro x hx
              have := List.all_eq_true.mp h x hx
              simpa using this
            refine ⟨fun x hx => ?_, fun x hx => ?_⟩
            · have a := h4 x hx
              have c := h5 x hx
              unfold pieceOk
              cases hy : x.2 with
              | text t => rw [hy] at a; exact a
              | times j => rw [hy] at c; cases c.1
              | left j => rw [hy] at c; cases c.1
            · have c := h5 x hx
              refine ⟨?_, by rw [wc_inj (b := .always) c.2]; rfl⟩
              cases hy : x.2 with
              | text t => rfl
              | times j => rw [hy] at c; cases c.1
              | left j => rw [hy] at c; cases c.1
        · rintro ⟨h4, h5⟩
          have h6 : ∀ x ∈ ps, mbp x.2 = true := fun x hx => by
            have a := h4 x hx
            have c := (h5 x hx).1
            unfold pieceOk at a
            cases hy : x.2 with
            | text t => rw [hy] at a; exact a
            | times j => rw [hy] at c; cases c
            | left j => rw [hy] at c; cases c
          rw [if_neg (by simpa using h6)]
          rw [List.all_eq_true]
          intro x hx
          have c := h5 x hx
          rw [Bool.and_eq_true]
          refine ⟨?_, by rw [show x.1 = .always by simpa using c.2]; rfl⟩
          cases hy : x.2 with
          | text t => rfl
          | times j => rw [hy] at c; cases c.1
          | left j => rw [hy] at c; cases c.1
      · rw [if_neg h3, if_neg h3]
        rw [Bool.eq_iff_iff]
        unfold mayParts
        have q := qst_iff ps
        have r := rst_iff ps
        have a := alw_iff b d ps
        simp only [Bool.and_eq_true, List.all_eq_true, decide_eq_true_eq]
        constructor
        · intro h
          split at h
          · cases h
          · rename_i h4
            have h4 : ∀ x ∈ ps, mbp x.2 = true := by simpa using h4
            simp only [Bool.and_eq_true, Bool.or_eq_true, decide_eq_true_eq] at h
            obtain ⟨⟨k1, k2⟩, k3, k4, k5⟩ := h
            have q' := q.mp (by rcases k3 with (k | k) | k <;> simp [k])
            have r' := r.mp k4
            refine ⟨fun x hx => ?_, k1, k2, a.mp k5, q'.1, r'.1⟩
            have c := h4 x hx
            unfold pieceOk
            cases hy : x.2 with
            | text t => rw [hy] at c; exact c
            | times j =>
              rw [hy] at c
              rcases q'.2 x hx (by rw [hy]; rfl) with e | e <;> simp [e] <;> simpa [mbp, SETS] using c
            | left j =>
              rw [hy] at c
              rcases r'.2 x hx (by rw [hy]; rfl) with e | e <;> simp [e] <;> simpa [mbp, SETS] using c
        · rintro ⟨h4, k1, k2, k5, k6, k7⟩
          have h6 : ∀ x ∈ ps, mbp x.2 = true := fun x hx => by
            have c := h4 x hx
            unfold pieceOk at c
            cases hy : x.2 with
            | text t => rw [hy] at c; exact c
            | times j => rw [hy] at c; simp at c; simpa [mbp, SETS] using c.1
            | left j => rw [hy] at c; simp at c; simpa [mbp, SETS] using c.1
          rw [if_neg (by simpa using h6)]
          simp only [Bool.and_eq_true, Bool.or_eq_true, decide_eq_true_eq]
          refine ⟨⟨k1, k2⟩, ?_, ?_, a.mpr k5⟩
          · have qq := q.mpr ⟨k6, fun x hx ht => by
              have c := h4 x hx
              unfold pieceOk at c
              cases hy : x.2 with
              | text t => rw [hy] at ht; cases ht
              | times j => rw [hy] at c; simp at c; exact c.2
              | left j => rw [hy] at ht; cases ht⟩
            rcases qq with e | e | e
            · exact .inl (.inl e)
            · exact .inl (.inr e)
            · exact .inr e
          · refine r.mpr ⟨k7, fun x hx ht => ?_⟩
            have c := h4 x hx
            unfold pieceOk at c
            cases hy : x.2 with
            | text t => rw [hy] at ht; cases ht
            | left j => rw [hy] at c; simp at c; exact c.2
            | times j => rw [hy] at ht; cases ht
    · rw [if_pos (by omega), decide_eq_false (show ¬ ps.length ≤ PIECES from h2)]; simp
  · rw [if_pos (by omega), decide_eq_false h1]; simp
end Sn
/-! rules: what a rule may be -/
namespace Sn
open PySem PySem.Spec PyProof.Rows L2
/-! ### lists of numbers as data -/
def natD (l : List Nat) : PyData := .list (l.map fun (n : Nat) => PyData.int (n : Int))
theorem natD_lay : ∀ l : List Nat, PyData.canLayAll0 (l.map fun (n : Nat) => PyData.int (n : Int)) = true
  | [] => rfl
  | n :: l => by
    show (true && PyData.canLayAll0 (l.map fun (n : Nat) => PyData.int (n : Int))) = true
    rw [natD_lay l] <;> rfl
theorem natD_deep : ∀ l : List Nat, PyData.depthAll (l.map fun (n : Nat) => PyData.int (n : Int)) = 0
  | [] => rfl
  | n :: l => by
    show max 0 (PyData.depthAll (l.map fun (n : Nat) => PyData.int (n : Int))) = 0
    rw [natD_deep l] <;> rfl
theorem natD_shaped (l : List Nat) : SeqAt.shaped (natD l) = true := by
  show (PyData.canLayAll0 (l.map fun (n : Nat) => PyData.int (n : Int)) && decide (PyData.depthAll (l.map fun (n : Nat) => PyData.int (n : Int)) + 1 ≤ 64)) = true
  rw [natD_lay, natD_deep] <;> rfl
theorem natD_all : ∀ l m : List Nat, PyData.eqvAll (l.map fun (n : Nat) => PyData.int (n : Int)) (m.map fun (n : Nat) => PyData.int (n : Int)) = decide (l = m)
  | [], [] => rfl
  | [], b :: m => rfl
  | a :: l, [] => rfl
  | a :: l, b :: m => by
    show (((a : Int) == (b : Int)) && PyData.eqvAll (l.map fun (n : Nat) => PyData.int (n : Int)) (m.map fun (n : Nat) => PyData.int (n : Int))) = _
    rw [natD_all l m]
    by_cases h : a = b
    · subst h
      by_cases h2 : l = m
      · subst h2; simp
      · simp [h2]
    · have : ¬ (a : Int) = (b : Int) := by omega
      simp [h, this]
theorem natD_eqv (l m : List Nat) : PyData.eqv (natD l) (natD m) = decide (l = m) := natD_all l m
theorem natD_dpa {K : PySem.W.Frag} {H : Hp} : ∀ l : List Nat, DpAll K H (nums l) (l.map fun (n : Nat) => PyData.int (n : Int))
  | [] => .nil
  | _ :: l => .cons (.int _) (natD_dpa l)
theorem natD_dp {K : PySem.W.Frag} {H : Hp} {a : Addr} {l : List Nat} (h : SqL K H a (nums l)) : Dp K H (.ref a) (natD l) := .lst h (natD_dpa l)
section
variable {P : Program} {w : World} {K : PySem.W.Frag} {mg : Str → Option Value} {base : Heap} {A : Ad}
def spMsb (A : Ad) (f : List Pc → Bool) : Sp := fun vs H Q _ => ∃ (l : Addr) (ps : List Pc), vs = [.ref l] ∧ PiecesAt A H l ps ∧ ps.length ≤ 10 ∧ (∀ x ∈ ps, (plet x.2).length ≤ 1000) ∧ ∀ H', Same H H' → Q (.bl (f ps)) H'
theorem ok_may_say_base (T : Top K mg A) : FnOk P w K mg base CX0 1 A.f_may_say_base A.d_may_say_base P_may_say_base (spMsb A mayBase) := by
  refine T.F_may_say_base.ok sc_may_say_base (fun vs H Q E h => ?_) (fun cdv _ outer s H vs Q E hr h => ⟨_, (pss_one (ps_ret (pe_callB (cr_all rfl) (by rfl) T.n_all (by decide +kernel) (pa_cons (by exact (pe_lc (own := [("piece", 1)]) (g := gName 1) (tt := tYes) (te := tAndV (tOp _ (tFld K (tVar 1) "kind") (tC (.int 0))) (tOp _ (tFld K (tVar 1) "stands") (tC (.int 0)))) rfl sc_may_say_base.nd (pi_list (pv 0)) (blkOk_by (own := [("piece", 1)]) (N := N_may_say_base) (sc := defScope s_may_say_base) (by decide +kernel)) (fun _ _ _ _ _ => pg_name (i := 1) sc_may_say_base.nd rfl (Or.inl rfl)) (fun _ _ _ _ _ => by exact (pts_nil)) (fun _ _ _ _ _ => by exact (pe_and (pe_cmpR op_eq (pe_fld (pv 1) rfl) (pe_gi rfl T.k_LETTERS) (nomark _)) (pe_one (pe_cmpR op_eq (pe_fld (pv 1) rfl) (pe_gi rfl T.k_ALWAYS) (nomark _))))))) pa_nil)))), ?_⟩)
  · obtain ⟨_, _, rfl, _⟩ := h
    rfl
  obtain ⟨l, ps, rfl, ⟨as, hl, h2⟩, hz, hz2, k⟩ := h
  have hza : as.length ≤ 100000 := by rw [h2.length]; omega
  refine ⟨_, rfl, l, rfl, ⟨_, SqL.of hl⟩, fun D hD => lc_objs hD (SqL.of hl) hza h2 (fun _ => true) (fun x => V.bl (decide (pk x.2 = 0) && decide (wc x.1 = 0))) (fun _ => rfl) (fun b x hx H2 s2 R q => q H2 Same.rfl) (fun b x hx _ H2 s2 R q => ?_) (fun H'' s12 hD2' => ?_)⟩
  · obtain ⟨dx, lx, hp, _⟩ := hx.mono s2
    have q' := q H2 Same.rfl
    refine ⟨_, rfl, _, _, _, _, _, rfl, hp, T.c_Piece, T.n_Piece_kind, F_Piece_kind, rfl, _, rfl, ?_⟩
    refine split_dec (fun c => ?_) (fun c => ?_)
    · refine ⟨_, rfl, _, _, _, _, _, rfl, hp, T.c_Piece, T.n_Piece_stands, F_Piece_stands, rfl, ?_⟩
      have c' : pk x.2 = 0 := by injection c with c; omega
      rw [c', show decide ((0 : Nat) = 0) = true from rfl, Bool.true_and, ← vint_eq] at q'
      exact q'
    · have c' : ¬ pk x.2 = 0 := fun z => c (by rw [z] <;> rfl)
      rw [decide_eq_false c', Bool.false_and] at q'
      exact q'
  rw [any_bl] at hD2'
  refine ⟨_, _, rfl, SqL.of hD2', ?_⟩
  rw [all_id]
  exact k H'' s12
theorem ok_may_say_parts (T : Top K mg A) : FnOk P w K mg base CX0 1 A.f_may_say_parts A.d_may_say_parts P_may_say_parts (spMsb A mayParts) := by
  refine T.F_may_say_parts.ok sc_may_say_parts (fun vs H Q E h => ?_) (fun cdv _ outer s H vs Q E hr h => ⟨_, (pss_cons (ps_setLc (i := 1) (own := [("piece", 4)]) (g := gName 4) (tt := tTest (tOp _ (tFld K (tVar 4) "kind") (tC (.int 1)))) (te := (tFld K (tVar 4) "stands")) rfl sc_may_say_parts.nd rfl rfl (sw_true rfl rfl rfl (by decide +kernel)) (pi_list (pv 0)) (blkOk_by (own := [("piece", 4)]) (N := N_may_say_parts) (sc := defScope s_may_say_parts) (by decide +kernel)) (fun _ _ _ _ _ => pg_name (i := 4) sc_may_say_parts.nd rfl (Or.inl rfl)) (fun _ _ _ _ _ => by exact (pts_one (pt_cmpR op_eq (pe_fld (pv 4) rfl) (pe_gi rfl T.k_Q) (nomark _)))) (fun _ _ _ _ _ => by exact (pe_fld (pv 4) rfl)))
    (pss_cons (ps_setLc (i := 2) (own := [("piece", 4)]) (g := gName 4) (tt := tTest (tOp _ (tFld K (tVar 4) "kind") (tC (.int 2)))) (te := (tFld K (tVar 4) "stands")) rfl sc_may_say_parts.nd rfl rfl (sw_true rfl rfl rfl (by decide +kernel)) (pi_list (pv 0)) (blkOk_by (own := [("piece", 4)]) (N := N_may_say_parts) (sc := defScope s_may_say_parts) (by decide +kernel)) (fun _ _ _ _ _ => pg_name (i := 4) sc_may_say_parts.nd rfl (Or.inl rfl)) (fun _ _ _ _ _ => by exact (pts_one (pt_cmpR op_eq (pe_fld (pv 4) rfl) (pe_gi rfl T.k_R) (nomark _)))) (fun _ _ _ _ _ => by exact (pe_fld (pv 4) rfl)))
    (pss_cons (ps_setLc (i := 3) (own := [("piece", 4)]) (g := gName 4) (tt := tAnd (tTest (tOp _ (tFld K (tVar 4) "stands") (tC (.int 0)))) (tTest (tOp _ (tCB (rLen K) (tCons (tFld K (tVar 4) "letters") tNil)) (tC (.int 0))))) (te := tVar 4) rfl sc_may_say_parts.nd rfl rfl (sw_true rfl rfl rfl (by decide +kernel)) (pi_list (pv 0)) (blkOk_by (own := [("piece", 4)]) (N := N_may_say_parts) (sc := defScope s_may_say_parts) (by decide +kernel)) (fun _ _ _ _ _ => pg_name (i := 4) sc_may_say_parts.nd rfl (Or.inl rfl)) (fun _ _ _ _ _ => by exact (pts_one (PW.pt (pw_and (pt_cmpR op_eq (pe_fld (pv 4) rfl) (pe_gi rfl T.k_ALWAYS) (nomark _)) (pw_and1 (pt_cmpR op_gt (pe_callB call_len_seq (by rfl) T.n_len PySem.boot_len (pa_cons (pe_fld (pv 4) rfl) pa_nil)) pe_int (nomark _))))))) (fun _ _ _ _ _ => by exact (pv 4)))
    (pss_one (ps_ret (pe_and (pe_cmpR (op_inDT (units65 hr)) (pv 1) (pe_tup (pa_cons (pe_lst pa_nil) (pa_cons (pe_lst (pa_cons (pe_gi rfl T.k_ALWAYS) pa_nil)) (pa_cons (pe_lst (pa_cons (pe_gi rfl T.k_IF_NOT_ONE) pa_nil)) pa_nil)))) (by rfl)) (pe_and (pe_cmpR (op_inDT (units65 hr)) (pv 2) (pe_tup (pa_cons (pe_lst (pa_cons (pe_gi rfl T.k_ALWAYS) pa_nil)) (pa_cons (pe_lst (pa_cons (pe_gi rfl T.k_IF_R) pa_nil)) pa_nil))) (by rfl)) (pe_one (pe_cmpR op_gt (pe_callB call_len_seq (by rfl) T.n_len PySem.boot_len (pa_cons (pv 3) pa_nil)) pe_int (nomark _)))))))))), ?_⟩)
  · obtain ⟨_, _, rfl, _⟩ := h
    rfl
  obtain ⟨l, ps, rfl, ⟨as, hl, h2⟩, hz, hz2, k⟩ := h
  have hza : as.length ≤ 100000 := by rw [h2.length]; omega
  refine ⟨_, rfl, l, rfl, ⟨_, SqL.of hl⟩, fun D1 hD1 => lc_objs hD1 (SqL.of hl) hza h2 (fun x => decide (pk x.2 = 1)) (fun x => V.int (wc x.1 : Nat)) (fun _ => rfl) (fun b x hx H2 s2 R q => ?_) (fun b x hx _ H2 s2 R q => ?_) (fun H1 s1 e1 => ?_)⟩
  · obtain ⟨dx, lx, hp, _⟩ := hx.mono s2
    have q' := q H2 Same.rfl
    rw [← vint_eq] at q'
    exact ⟨_, rfl, _, _, _, _, _, rfl, hp, T.c_Piece, T.n_Piece_kind, F_Piece_kind, rfl, _, rfl, q'⟩
  · obtain ⟨dx, lx, hp, _⟩ := hx.mono s2
    exact ⟨_, rfl, _, _, _, _, _, rfl, hp, T.c_Piece, T.n_Piece_stands, F_Piece_stands, q H2 Same.rfl⟩
  refine ⟨_, rfl, l, rfl, ⟨_, SqL.of (s1 _ _ hl)⟩, fun D2 hD2 => lc_objs hD2 (SqL.of (s1 _ _ hl)) hza (h2.mono fun _ _ _ _ z => z.mono s1) (fun x => decide (pk x.2 = 2)) (fun x => V.int (wc x.1 : Nat)) (fun _ => rfl) (fun b x hx H2 s2 R q => ?_) (fun b x hx _ H2 s2 R q => ?_) (fun H2 s2 e2 => ?_)⟩
  · obtain ⟨dx, lx, hp, _⟩ := hx.mono s2
    have q' := q H2 Same.rfl
    rw [← vint_eq] at q'
    exact ⟨_, rfl, _, _, _, _, _, rfl, hp, T.c_Piece, T.n_Piece_kind, F_Piece_kind, rfl, _, rfl, q'⟩
  · obtain ⟨dx, lx, hp, _⟩ := hx.mono s2
    exact ⟨_, rfl, _, _, _, _, _, rfl, hp, T.c_Piece, T.n_Piece_stands, F_Piece_stands, q H2 Same.rfl⟩
  have s12 := s1.trans s2
  refine ⟨_, rfl, l, rfl, ⟨_, SqL.of (s12 _ _ hl)⟩, fun D3 hD3 => lc_gen hD3 (SqL.of (s12 _ _ hl)) (by rw [refs_length, sizeLine_eq]; omega) (as.zip ps) (by rw [refs_length, List.length_zip, h2.length, Nat.min_self]) (fun x => decide (wc x.2.1 = 0) && decide (0 < (plet x.2.2).length)) (fun x => V.ref x.1) (fun _ => rfl) (fun i y x hy hx H3 s3 R q => ?_) (fun i y x hy hx _ H3 s3 R q => ?_) (fun H3 s3 e3 => ?_)⟩
  · obtain ⟨b, hb, rfl⟩ : ∃ b, as[i]? = some b ∧ y = .ref b := by
      unfold refs at hy
      rw [List.getElem?_map] at hy
      cases e : as[i]? with
      | none => rw [e] at hy; cases hy
      | some b => rw [e] at hy; exact ⟨b, rfl, (Option.some.inj hy).symm⟩
    obtain ⟨b', x⟩ := x
    obtain ⟨hb', hx'⟩ := List.getElem?_zip_eq_some.mp hx
    have e0 : b' = b := by rw [hb] at hb'; exact (Option.some.inj hb').symm
    subst e0
    obtain ⟨x', hx2, hpx⟩ := h2.get hb
    have e0 : x' = x := by rw [hx'] at hx2; exact (Option.some.inj hx2).symm
    subst e0
    obtain ⟨dx, lx, hp, hlx⟩ := (hpx.mono s12).mono s3
    have q' := q H3 Same.rfl
    refine ⟨_, rfl, _, _, _, _, _, rfl, hp, T.c_Piece, T.n_Piece_stands, F_Piece_stands, rfl, _, rfl, ?_⟩
    refine split_dec (fun c => ?_) (fun c => ?_)
    · refine ⟨_, rfl, _, _, _, _, _, rfl, hp, T.c_Piece, T.n_Piece_letters, F_Piece_letters, lx, _, rfl, .inl (SqL.of hlx), _, _, rfl, rfl, _, rfl, ?_⟩
      have c' : wc x'.1 = 0 := by injection c with c; omega
      have e : decide (0 < (plet x'.2).length) = decide ((0 : Int) < ((bnums (plet x'.2)).length : Int)) := decide_eq_decide.mpr (by rw [bnums_length]; omega)
      have q2 : R (decide (wc x'.1 = 0) && decide (0 < (plet x'.2).length)) H3 := q'
      rw [c', show decide ((0 : Nat) = 0) = true from rfl, Bool.true_and, e] at q2
      exact q2
    · have c' : ¬ wc x'.1 = 0 := fun z => c (by rw [z] <;> rfl)
      have q2 : R (decide (wc x'.1 = 0) && decide (0 < (plet x'.2).length)) H3 := q'
      rw [decide_eq_false c', Bool.false_and] at q2
      exact q2
  · obtain ⟨b, hb, rfl⟩ : ∃ b, as[i]? = some b ∧ y = .ref b := by
      unfold refs at hy
      rw [List.getElem?_map] at hy
      cases e : as[i]? with
      | none => rw [e] at hy; cases hy
      | some b => rw [e] at hy; exact ⟨b, rfl, (Option.some.inj hy).symm⟩
    have e0 : x.1 = b := by
      have := (List.getElem?_zip_eq_some.mp hx).1
      rw [hb] at this; exact (Option.some.inj this).symm
    have q2 := q H3 Same.rfl
    rw [e0] at q2
    exact ⟨_, rfl, q2⟩
  have s13 := s12.trans s3
  have h1 : H3 D1 = some (.lst (nums (qst ps))) := by
    have := s3 _ _ (s2 _ _ e1)
    rw [this]; unfold qst nums; rw [List.map_map] <;> rfl
  have h2' : H3 D2 = some (.lst (nums (rst ps))) := by
    have := s3 _ _ e2
    rw [this]; unfold rst nums; rw [List.map_map] <;> rfl
  have hal : ((((as.zip ps).filter fun x => decide (wc x.2.1 = 0) && decide (0 < (plet x.2.2).length)).map fun x => V.ref x.1).length) = (alw ps).length := by
    rw [List.length_map]
    unfold alw
    clear h2' h1 e3 s13 s12 e2 e1 s1 s2 s3 hl k hza
    induction h2 with
    | nil => rfl
    | @cons a x as' xs h1 hh ih =>
      have ih := ih (by simp at hz; omega) (fun y hy => hz2 y (List.mem_cons_of_mem _ hy))
      rw [List.zip_cons_cons]
      by_cases c : (decide (wc x.1 = 0) && decide (0 < (plet x.2).length)) = true
      · rw [List.filter_cons_of_pos (by exact c), List.filter_cons_of_pos (by exact c), List.length_cons, List.length_cons, ih]
      · rw [List.filter_cons_of_neg (by exact c), List.filter_cons_of_neg (by exact c), ih]
  have key : mayParts ps = (([natD [], natD [0], natD [3]] : List PyData).any (fun z => PyData.eqv z (natD (qst ps))) && (([natD [0], natD [1]] : List PyData).any (fun z => PyData.eqv z (natD (rst ps))) && decide (0 < (alw ps).length))) := by
    unfold mayParts
    simp only [List.any_cons, List.any_nil, natD_eqv, Bool.or_false]
    congr 1
    · rw [Bool.or_assoc]
      congr 1
      · exact decide_eq_decide.mpr eq_comm
      · congr 1 <;> exact decide_eq_decide.mpr eq_comm
    · congr 1
      congr 1 <;> exact decide_eq_decide.mpr eq_comm
  refine ⟨_, rfl, (by show 0 ≤ sizeLine; decide), fun a1 f1 => ⟨(by show 1 ≤ sizeLine; decide), fun a2 f2 => ⟨(by show 1 ≤ sizeLine; decide), fun a3 f3 => ⟨(by show 3 ≤ sizeLine; decide), fun t1 ft => ?_⟩⟩⟩⟩
  have g2 := same_new f2 (.lst [.int 0])
  have g3 := same_new f3 (.lst [.int 3])
  have g4 := same_new ft (.tup [.ref a1, .ref a2, .ref a3])
  have g14 := (same_new f1 (.lst [])).trans (g2.trans (g3.trans g4))
  generalize hU : upd (upd (upd (upd H3 a1 (.lst [])) a2 (.lst [.int 0])) a3 (.lst [.int 3])) t1 (.tup [.ref a1, .ref a2, .ref a3]) = U at g4 g14
  have k1 : U a1 = some (.lst (nums [])) := g4 _ _ (g3 _ _ (g2 _ _ upd_same))
  have k2 : U a2 = some (.lst (nums [0])) := g4 _ _ (g3 _ _ upd_same)
  have k3 : U a3 = some (.lst (nums [3])) := g4 _ _ upd_same
  have kt : U t1 = some (.tup [.ref a1, .ref a2, .ref a3]) := by rw [← hU]; exact upd_same
  refine ⟨natD (qst ps), [natD [], natD [0], natD [3]], natD_dp (SqL.of (g14 _ _ h1)), .tup (SqT.of kt) (.cons (natD_dp (SqL.of k1)) (.cons (natD_dp (SqL.of k2)) (.cons (natD_dp (SqL.of k3)) .nil))), natD_shaped _, rfl, _, rfl, ?_⟩
  have fin : ∀ H', Same U H' → Q (.bl (mayParts ps)) H' := fun H' e => k H' (s13.trans (g14.trans e))
  rw [key] at fin
  cases hb : ([natD [], natD [0], natD [3]] : List PyData).any (fun z => PyData.eqv z (natD (qst ps))) with
  | false =>
    refine if_false_of rfl ?_
    rw [hb, Bool.false_and] at fin
    exact fin _ Same.rfl
  | true =>
    refine if_true_of rfl ?_
    rw [hb, Bool.true_and] at fin
    refine ⟨_, rfl, (by show 1 ≤ sizeLine; decide), fun a4 f4 => ⟨(by show 1 ≤ sizeLine; decide), fun a5 f5 => ⟨(by show 2 ≤ sizeLine; decide), fun t2 ft2 => ?_⟩⟩⟩
    have g5 := same_new f5 (.lst [.int 1])
    have g6 := same_new ft2 (.tup [.ref a4, .ref a5])
    have g46 := (same_new f4 (.lst [.int 0])).trans (g5.trans g6)
    have k4 : upd (upd (upd U a4 (.lst [.int 0])) a5 (.lst [.int 1])) t2 (.tup [.ref a4, .ref a5]) a4 = some (.lst (nums [0])) := g6 _ _ (g5 _ _ upd_same)
    have k5 : upd (upd (upd U a4 (.lst [.int 0])) a5 (.lst [.int 1])) t2 (.tup [.ref a4, .ref a5]) a5 = some (.lst (nums [1])) := g6 _ _ upd_same
    refine ⟨natD (rst ps), [natD [0], natD [1]], natD_dp (SqL.of (g46 _ _ (g14 _ _ h2'))), .tup (SqT.of upd_same) (.cons (natD_dp (SqL.of k4)) (.cons (natD_dp (SqL.of k5)) .nil)), natD_shaped _, rfl, _, rfl, ?_⟩
    cases hb2 : ([natD [0], natD [1]] : List PyData).any (fun z => PyData.eqv z (natD (rst ps))) with
    | false =>
      refine if_false_of rfl ?_
      rw [hb2, Bool.false_and] at fin
      exact fin _ g46
    | true =>
      refine if_true_of rfl ?_
      rw [hb2, Bool.true_and] at fin
      refine ⟨_, rfl, D3, _, rfl, .inl (SqL.of (g46 _ _ (g14 _ _ e3))), _, _, rfl, rfl, ?_⟩
      have e : decide (0 < (alw ps).length) = decide ((0 : Int) < ((((as.zip ps).filter fun x => decide (wc x.2.1 = 0) && decide (0 < (plet x.2.2).length)).map fun x => V.ref x.1).length : Int)) := decide_eq_decide.mpr (by rw [hal]; omega)
      rw [e] at fin
      exact fin _ g46
end
end Sn
/-! how the numbers tell calls, rules, pieces -/
namespace Sn
open Sw64 Sw64Neutral
def L (l : List Nat) : List Int := l.map fun (n : Nat) => (n : Int)
theorem L_cons {l : List Nat} {n : Int} {r : List Int} (h : L l = n :: r) : ∃ (m : Nat) (l' : List Nat), l = m :: l' ∧ n = (m : Int) ∧ r = L l' := by
  cases l with
  | nil => cases h
  | cons m l' => injection h with h1 h2; exact ⟨m, l', rfl, h1.symm, h2.symm⟩
theorem L_nil {l : List Nat} (h : L l = []) : l = [] := by cases l with | nil => rfl | cons _ _ => cases h
theorem L_append (a b : List Nat) : L (a ++ b) = L a ++ L b := List.map_append
theorem L_length (a : List Nat) : (L a).length = a.length := List.length_map _
def Inv {α : Type} (p : List Int → Option (α × List Int)) (enc : α → List Nat) (P : α → Prop) : Prop := ∀ l x rest, p (L l) = some (x, rest) → ∃ r, l = enc x ++ r ∧ rest = L r ∧ P x
theorem nat_inv : Inv natIn (fun n => [n]) (fun n => n < 2 ^ 64) := fun l x rest h => by
  cases l with
  | nil => cases h
  | cons n l =>
    simp only [natIn, L, List.map_cons] at h
    split at h
    · rename_i c
      obtain ⟨rfl, rfl⟩ := by simpa using h
      exact ⟨l, rfl, rfl, by omega⟩
    · cases h
theorem byte_inv : Inv byteIn (fun b => [b.toNat]) (fun _ => True) := fun l x rest h => by
  cases l with
  | nil => cases h
  | cons n l =>
    simp only [byteIn, L, List.map_cons] at h
    split at h
    · rename_i c
      obtain ⟨rfl, rfl⟩ := by simpa using h
      refine ⟨l, ?_, rfl, trivial⟩
      show n :: l = (UInt8.ofNat n).toNat :: l
      rw [UInt8.toNat_ofNat_of_lt' (by show n < 256; omega)]
    · cases h
theorem many_inv {α : Type} {p : List Int → Option (α × List Int)} {enc : α → List Nat} {P : α → Prop} (hp : Inv p enc P) : ∀ k, Inv (many_ p k) (fun xs => xs.flatMap enc) (fun xs => xs.length = k ∧ ∀ x ∈ xs, P x)
  | 0, l, xs, rest, h => by
    obtain ⟨rfl, rfl⟩ := by simpa [many_] using h
    exact ⟨l, rfl, rfl, rfl, fun x hx => by cases hx⟩
  | k + 1, l, xs, rest, h => by
    simp only [many_, Option.bind_eq_some_iff, Option.map_eq_some_iff] at h
    obtain ⟨⟨x, r1⟩, h1, ⟨ys, r2⟩, h2, h3⟩ := h
    obtain ⟨r, rfl, rfl, hP⟩ := hp l x r1 h1
    obtain ⟨r', rfl, rfl, hl, hA⟩ := many_inv hp k r ys r2 h2
    simp only [Prod.mk.injEq] at h3
    obtain ⟨rfl, rfl⟩ := h3
    refine ⟨r', by simp [List.flatMap_cons], rfl, by simp [hl], fun y hy => ?_⟩
    cases hy with
    | head => exact hP
    | tail _ hy => exact hA y hy
theorem list_inv {α : Type} {p : List Int → Option (α × List Int)} {enc : α → List Nat} {P : α → Prop} {most : Nat} (hp : Inv p enc P) : Inv (listIn (most : Int) p) (fun xs => xs.length :: xs.flatMap enc) (fun xs => xs.length ≤ most ∧ ∀ x ∈ xs, P x) := fun l xs rest h => by
  cases l with
  | nil => cases h
  | cons n l =>
    simp only [listIn, L, List.map_cons] at h
    split at h
    · rename_i c
      obtain ⟨r, rfl, rfl, hl, hA⟩ := many_inv hp n l xs rest (by simpa [L] using h)
      exact ⟨r, by rw [← hl] <;> rfl, rfl, by omega, hA⟩
    · cases h
theorem flat_bytes : ∀ x : Bytes, x.flatMap (fun b => [b.toNat]) = x.map UInt8.toNat
  | [] => rfl
  | a :: x => by rw [List.flatMap_cons, flat_bytes x] <;> rfl
theorem text_inv : Inv textIn (fun b => b.length :: b.map UInt8.toNat) (fun b => b.length ≤ 400) := fun l x rest h => by
  obtain ⟨r, h1, h2, h3, _⟩ := list_inv (most := 400) byte_inv l x rest h
  refine ⟨r, ?_, h2, h3⟩
  rw [h1]
  show x.length :: x.flatMap (fun b => [b.toNat]) ++ r = _
  rw [flat_bytes]
def encY : Piece → List Nat
  | .text b => 0 :: b.length :: b.map UInt8.toNat
  | .times k => [1, k]
  | .left k => [2, k]
def encP (x : Pc) : List Nat := wc x.1 :: encY x.2
theorem piece_inv : Inv pieceIn encP (fun x => (plet x.2).length ≤ 400) := fun l x rest h => by
  cases l with
  | nil => cases h
  | cons w l =>
    rw [show L (w :: l) = (w : Int) :: L l from rfl, pieceIn] at h
    simp only [Option.bind_eq_some_iff] at h
    obtain ⟨z, hz, h⟩ := h
    have hw : w = wc z := by
      split at hz
      · rename_i c; cases hz; show w = 0; omega
      · split at hz
        · rename_i c; cases hz; show w = 1; omega
        · split at hz
          · rename_i c; cases hz; show w = 2; omega
          · split at hz
            · rename_i c; cases hz; show w = 3; omega
            · split at hz
              · rename_i c; cases hz; show w = 4; omega
              · cases hz
    subst hw
    split at h
    · rename_i r e
      obtain ⟨m, l', rfl, e1, rfl⟩ := L_cons e
      have : m = 0 := by omega
      subst this
      simp only [Option.map_eq_some_iff] at h
      obtain ⟨⟨b, r1⟩, h1, h2⟩ := h
      obtain ⟨rfl, rfl⟩ := by simpa using h2
      obtain ⟨r', rfl, rfl, hb⟩ := text_inv l' b r1 h1
      exact ⟨r', by simp [encP, encY], rfl, hb⟩
    · rename_i r e
      obtain ⟨m, l', rfl, e1, rfl⟩ := L_cons e
      have : m = 1 := by omega
      subst this
      simp only [Option.map_eq_some_iff] at h
      obtain ⟨⟨b, r1⟩, h1, h2⟩ := h
      obtain ⟨rfl, rfl⟩ := by simpa using h2
      obtain ⟨r', rfl, rfl, _⟩ := nat_inv l' b r1 h1
      exact ⟨r', by simp [encP, encY], rfl, Nat.zero_le _⟩
    · rename_i r e
      obtain ⟨m, l', rfl, e1, rfl⟩ := L_cons e
      have : m = 2 := by omega
      subst this
      simp only [Option.map_eq_some_iff] at h
      obtain ⟨⟨b, r1⟩, h1, h2⟩ := h
      obtain ⟨rfl, rfl⟩ := by simpa using h2
      obtain ⟨r', rfl, rfl, _⟩ := nat_inv l' b r1 h1
      exact ⟨r', by simp [encP, encY], rfl, Nat.zero_le _⟩
    · cases h
def encR (R : Rule) : List Nat := R.base :: R.by_ :: R.pieces.length :: R.pieces.flatMap encP
/-- as it may be handed in -/
def RuleIn (R : Rule) : Prop := R.pieces.length ≤ 10 ∧ ∀ x ∈ R.pieces, (plet x.2).length ≤ 400
theorem rule_inv : Inv ruleIn encR RuleIn := fun l x rest h => by
  simp only [ruleIn, Option.bind_eq_some_iff, Option.map_eq_some_iff] at h
  obtain ⟨⟨b, r1⟩, h1, ⟨d, r2⟩, h2, ⟨ps, r3⟩, h3, h4⟩ := h
  obtain ⟨r, rfl, rfl, _⟩ := nat_inv l b r1 h1
  obtain ⟨r', rfl, rfl, _⟩ := nat_inv r d r2 h2
  obtain ⟨r'', rfl, rfl, h5, h6⟩ := list_inv (most := 10) piece_inv r' ps r3 h3
  obtain ⟨rfl, rfl⟩ := by simpa using h4
  exact ⟨r'', rfl, rfl, h5, h6⟩
def encS (s : RSet) : List Nat := s.length :: s.flatMap encR
def SetIn (s : RSet) : Prop := s.length ≤ 70 ∧ ∀ R ∈ s, RuleIn R
theorem set_inv : Inv (listIn 70 ruleIn) encS SetIn := fun l x rest h => list_inv (most := 70) rule_inv l x rest h
def encC : Sw64.Call → List Nat
  | .begins => [0]
  | .rules k s => 1 :: k :: (encS s).length :: encS s
  | .say k n => [2, k, n]
  | .read k m b => 3 :: k :: m :: b.length :: b.map UInt8.toNat
  | .gaps k a b => [4, k, a, b]
  | .alike k a b => [5, k, a, b]
  | .longest k a b => [6, k, a, b]
  | .sorted k l => 7 :: k :: l.length :: l
def CallIn : Sw64.Call → Prop
  | .rules _ s => SetIn s
  | .read _ _ b => b.length ≤ 400
  | .sorted _ l => l.length ≤ 400
  | _ => True
end Sn
/-! rules: told -/
namespace Sn
open PySem PySem.Spec PyProof.Rows L2
section
variable {P : Program} {w : World} {K : PySem.W.Frag} {mg : Str → Option Value} {base : Heap} {A : Ad}
def spMayRule (A : Ad) : Sp := fun vs H Q _ => ∃ (l : Addr) (b d : Nat) (ps : List Pc), vs = [.int (b : Int), .int (d : Int), .ref l] ∧ PiecesAt A H l ps ∧ ps.length ≤ 10 ∧ (∀ x ∈ ps, (plet x.2).length ≤ 400) ∧ ∀ H', Same H H' → Q (.bl (mayRule b d ps)) H'
theorem ok_may_be_rule (T : Top K mg A) : FnOk P w K mg base CX0 2 A.f_may_be_rule A.d_may_be_rule P_may_be_rule (spMayRule A) := by
  refine T.F_may_be_rule.ok sc_may_be_rule (fun vs H Q E h => ?_) (fun cdv _ outer s H vs Q E hr h => ⟨_, (pss_cons (ps_if (PW.pt (pw_or (pt_cmpR op_gt (pv 0) (pe_gi rfl T.k_HIGHEST) (nomark _)) (pw_or1 (pt_cmpR op_gt (pe_callB call_len_seq (by rfl) T.n_len PySem.boot_len (pa_cons (pv 2) pa_nil)) (pe_gi rfl T.k_MOST_PIECES) (nomark _)))))
    (pss_one (ps_ret pe_bl))
    pss_nil)
    (pss_cons (ps_if (pt_not (pt_val (pe_callB (cr_all rfl) (by rfl) T.n_all (by decide +kernel) (pa_cons (by exact (pe_lc (own := [("piece", 3)]) (g := gName 3) (tt := tYes) (te := tCall (spMbp A K) [] E0 (tCons (tVar 3) tNil)) rfl sc_may_be_rule.nd (pi_list (pv 2)) (blkOk_by (own := [("piece", 3)]) (N := N_may_be_rule) (sc := defScope s_may_be_rule) (by decide +kernel)) (fun _ _ _ _ _ => pg_name (i := 3) sc_may_be_rule.nd rfl (Or.inl rfl)) (fun _ _ _ _ _ => by exact (pts_nil)) (fun _ _ _ _ _ => by exact (pe_call (ok_may_be_piece T) (hr.mono (by omega)) (by rfl) T.g_may_be_piece T.F_may_be_piece.kp (b_may_be_piece T) .nil pass0 (pa_cons (pv 3) pa_nil))))) pa_nil))))
    (pss_one (ps_ret pe_bl))
    pss_nil)
    (pss_cons (ps_if (pt_cmpR op_eq (pv 1) pe_int (nomark _))
    (pss_one (ps_ret (pe_call (ok_may_say_base T) (hr.mono (by omega)) (by rfl) T.g_may_say_base T.F_may_say_base.kp (b_may_say_base T) .nil pass0 (pa_cons (pv 2) pa_nil))))
    pss_nil)
    (pss_one (ps_ret (pe_and (pe_chain op_le op_le pe_int (pv 1) (pv 0)) (pe_one (pe_call (ok_may_say_parts T) (hr.mono (by omega)) (by rfl) T.g_may_say_parts T.F_may_say_parts.kp (b_may_say_parts T) .nil pass0 (pa_cons (pv 2) pa_nil))))))))), ?_⟩)
  · obtain ⟨_, _, _, _, rfl, _⟩ := h
    rfl
  obtain ⟨l, b, d, ps, rfl, ⟨as, hl, h2⟩, hz, hz2, k⟩ := h
  have hla : as.length = ps.length := h2.length
  have key : mayRule b d ps = if Sw64.MOST < b ∨ 8 < ps.length then false else if (ps.all fun x => mbp x.2) = false then false else if d = 0 then mayBase ps else decide (2 ≤ d ∧ d ≤ b) && mayParts ps := rfl
  rw [key] at k
  have hM : Sw64.MOST = 1000000000000000 := by decide
  refine ⟨_, rfl, _, _, rfl, rfl, _, rfl, ?_⟩
  refine split_dec (fun c1 => ?_) (fun c1 => ?_)
  · rw [if_pos (by omega)] at k
    exact if_true_of rfl (k H Same.rfl)
  refine ⟨_, rfl, l, _, rfl, .inl (SqL.of hl), _, _, rfl, rfl, _, rfl, ?_⟩
  refine split_dec (fun c2 => ?_) (fun c2 => ?_)
  · rw [if_pos (by rw [refs_length] at c2; omega)] at k
    exact k H Same.rfl
  rw [if_neg (by rw [refs_length] at c2; omega)] at k
  refine ⟨_, rfl, l, rfl, ⟨_, SqL.of hl⟩, fun D hD => lc_objs hD (SqL.of hl) (by omega) h2 (fun _ => true) (fun x => V.bl (mbp x.2)) (fun _ => rfl) (fun b x hx H2 s2 R q => q H2 Same.rfl) (fun b x hx _ H2 s2 R q => ?_) (fun H1 s1 e1 => ?_)⟩
  · exact ⟨_, rfl, b, x, rfl, hx.mono s2, q H2 Same.rfl⟩
  rw [any_bl] at e1
  refine ⟨_, _, rfl, SqL.of e1, _, rfl, ?_⟩
  rw [all_id]
  cases c3 : ps.all fun x => mbp x.2 with
  | false =>
    rw [c3, if_pos rfl] at k
    exact if_true_of rfl (k H1 s1)
  | true =>
    rw [c3, if_neg (by decide)] at k
    refine if_false_of rfl ?_
    refine ⟨_, rfl, rfl, _, rfl, ?_⟩
    have hz3 : ∀ x ∈ ps, (plet x.2).length ≤ 1000 := fun x hx => Nat.le_trans (hz2 x hx) (by decide)
    have hp1 : PiecesAt A H1 l ps := ⟨as, s1 _ _ hl, h2.mono fun _ _ _ _ z => z.mono s1⟩
    refine split_dec (fun c4 => ?_) (fun c4 => ?_)
    · have c4' : d = 0 := by injection c4 with c4; omega
      rw [if_pos c4'] at k
      exact ⟨_, rfl, l, ps, rfl, hp1, hz, hz3, fun H' e => k H' (s1.trans e)⟩
    · have c4' : ¬ d = 0 := fun z => c4 (by rw [z] <;> rfl)
      rw [if_neg c4'] at k
      refine ⟨_, rfl, _, _, rfl, rfl, _, rfl, ?_⟩
      refine split_dec (fun c5 => ?_) (fun c5 => ?_)
      · refine ⟨_, rfl, _, _, rfl, rfl, _, rfl, ?_⟩
        refine split_dec (fun c6 => ?_) (fun c6 => ?_)
        · rw [decide_eq_true (show 2 ≤ d ∧ d ≤ b by omega), Bool.true_and] at k
          exact ⟨_, rfl, l, ps, rfl, hp1, hz, hz3, fun H' e => k H' (s1.trans e)⟩
        · rw [decide_eq_false (show ¬ (2 ≤ d ∧ d ≤ b) by omega), Bool.false_and] at k
          exact k H1 s1
      · rw [decide_eq_false (show ¬ (2 ≤ d ∧ d ≤ b) by omega), Bool.false_and] at k
        exact ⟨_, rfl, if_false_of rfl (k H1 s1)⟩
end
end Sn
/-! rules: told, a piece, a rule -/
namespace Sn
open PySem PySem.Spec PyProof.Rows L2
theorem drop_cons {xs r : List Nat} {i n : Nat} (h : xs.drop i = n :: r) : xs[i]? = some n ∧ xs.drop (i + 1) = r ∧ i < xs.length := by
  have hi : i < xs.length := by
    apply Classical.byContradiction
    intro c
    rw [List.drop_eq_nil_of_le (by omega)] at h
    cases h
  rw [List.drop_eq_getElem_cons hi] at h
  injection h with h1 h2
  exact ⟨by rw [List.getElem?_eq_getElem hi, h1], h2, hi⟩
theorem drop_app {xs b r : List Nat} {i : Nat} (h : xs.drop i = b ++ r) : xs.drop (i + b.length) = r ∧ (xs.drop i).take b.length = b ∧ (i ≤ xs.length → i + b.length ≤ xs.length) := by
  refine ⟨?_, ?_, fun hi => ?_⟩
  · rw [← List.drop_drop, h, List.drop_left]
  · rw [h, List.take_left]
  · have := congrArg List.length h
    rw [List.length_drop, List.length_append] at this
    omega
section
variable {P : Program} {w : World} {K : PySem.W.Frag} {mg : Str → Option Value} {base : Heap} {A : Ad}
def RowAt (A : Ad) (K : PySem.W.Frag) (H : Hp) (a dx l : Addr) (xs : List Nat) (i : Nat) : Prop := H a = some (.ins A.C_Row dx (rowF l i)) ∧ SqL K H l (nums xs)
theorem RowAt.upd {H : Hp} {a dx l : Addr} {xs : List Nat} {i : Nat} (h : RowAt A K H a dx l xs i) (j : Nat) : RowAt A K (upd H a (.ins A.C_Row dx (rowF l j))) a dx l xs j := ⟨upd_same, seq_upd h.2 h.1⟩
def spTP (A : Ad) (K : PySem.W.Frag) : Sp := fun vs H Q _ => ∃ (a dx l : Addr) (xs : List Nat) (i : Nat) (x : Pc) (r : List Nat), vs = [.ref a] ∧ RowAt A K H a dx l xs i ∧ xs.drop i = encP x ++ r ∧
  ∀ H' p, (∀ b o, H b = some o → b ≠ a → H' b = some o) → H' a = some (.ins A.C_Row dx (rowF l (i + (encP x).length))) → PieceAt A (Nw H H') p x → Q (.ref p) H'
/-- a piece has been made at x over H1, its letters at lp -/
theorem piece_made {H H1 : Hp} {a dx l x dp lp : Addr} {i : Nat} {z : Pc} (nx : H1 x = none) (nd : H1 dp = none) (hl : BytesAt H1 lp (plet z.2)) (fl : H lp = none) (hk : ∀ b o, H b = some o → b ≠ a → H1 b = some o) (dm : Dom H H1) (ha : H1 a = some (.ins A.C_Row dx (rowF l i))) :
    (∀ b o, H b = some o → b ≠ a → upd (upd (upd H1 dp (.own x)) x (.ins A.C_Piece dp [])) x (.ins A.C_Piece dp (pieceF z lp)) b = some o) ∧ upd (upd (upd H1 dp (.own x)) x (.ins A.C_Piece dp [])) x (.ins A.C_Piece dp (pieceF z lp)) a = some (.ins A.C_Row dx (rowF l i)) ∧
      PieceAt A (Nw H (upd (upd (upd H1 dp (.own x)) x (.ins A.C_Piece dp [])) x (.ins A.C_Piece dp (pieceF z lp)))) x z := by
  have keep : ∀ b o, H1 b = some o → upd (upd (upd H1 dp (.own x)) x (.ins A.C_Piece dp [])) x (.ins A.C_Piece dp (pieceF z lp)) b = some o := fun b o q => by
    rw [upd_ne (ne_of_none q nx), upd_ne (ne_of_none q nx), upd_ne (ne_of_none q nd)]; exact q
  exact ⟨fun b o q n => keep b o (hk b o q n), keep _ _ ha, dp, lp, Nw.at (dm _ nx) upd_same, Nw.at fl (keep _ _ hl)⟩
theorem ok_told_piece (T : Top K mg A) : FnOk P w K mg base CX0 3 A.f_told_piece A.d_told_piece P_told_piece (spTP A K) := by
  refine T.F_told_piece.ok sc_told_piece (fun vs H Q E h => ?_) (fun cdv _ outer s H vs Q E hr h => ⟨_, (pss_cons (ps_set (i := 1) sc_told_piece.nd rfl (Or.inl rfl) (pe_meth0 (pv 0) T.c_Row T.M_Row_one (ok_Row_one T) (hr.mono (by omega)) (b_Row_one T) .nil pass0))
    (pss_cons (ps_set (i := 2) sc_told_piece.nd rfl (Or.inl rfl) (pe_meth0 (pv 0) T.c_Row T.M_Row_one (ok_Row_one T) (hr.mono (by omega)) (b_Row_one T) .nil pass0))
    (pss_cons (ps_if (pt_cmpR op_eq (pv 2) (pe_gi rfl T.k_LETTERS) (nomark _))
    (pss_one (ps_ret (pe_make T.m_Piece (ok_Piece_init T) (hr.mono (by omega)) (by rfl) T.g_Piece (b_Piece_init T) .nil pass0 (pa_cons (pv 1) (pa_cons (pv 2) (pa_cons (pe_meth0 (pv 0) T.c_Row T.M_Row_told (ok_Row_told T) (hr.mono (by omega)) (b_Row_told T) .nil pass0) (pa_cons pe_int pa_nil)))))))
    pss_nil)
    (pss_one (ps_ret (pe_make T.m_Piece (ok_Piece_init T) (hr.mono (by omega)) (by rfl) T.g_Piece (b_Piece_init T) .nil pass0 (pa_cons (pv 1) (pa_cons (pv 2) (pa_cons (pe_lst pa_nil) (pa_cons (pe_meth0 (pv 0) T.c_Row T.M_Row_one (ok_Row_one T) (hr.mono (by omega)) (b_Row_one T) .nil pass0) pa_nil)))))))))), ?_⟩)
  · obtain ⟨_, _, _, _, _, _, _, rfl, _⟩ := h
    rfl
  obtain ⟨a, dx, l, xs, i, ⟨wh, y⟩, r, rfl, hrow, hd, k⟩ := h
  obtain ⟨ha, hS⟩ := id hrow
  have e0 : xs.drop i = wc wh :: (encY y ++ r) := hd
  obtain ⟨q1, q2, q3⟩ := drop_cons e0
  obtain ⟨h1, hS1⟩ := hrow.upd (i + 1)
  refine ⟨_, rfl, _, _, _, rfl, ha, F_Row_no_one, a, dx, l, xs, i, _, rfl, ha, hS, q1, ?_⟩
  obtain ⟨h2, hS2⟩ := hrow.upd (i + 1 + 1)
  cases y with
  | text b =>
    obtain ⟨q4, q5, q6⟩ := drop_cons q2
    obtain ⟨q7, q8, q9⟩ := drop_cons q5
    obtain ⟨q10, q11, q12⟩ := drop_app q8
    refine ⟨_, rfl, _, _, _, rfl, h1, F_Row_no_one, a, dx, l, xs, i + 1, _, rfl, h1, hS1, q4, ?_⟩
    rw [upd_upd]
    refine ⟨_, rfl, rfl, _, rfl, if_true_of rfl ?_⟩
    rw [List.length_map] at q10 q11 q12
    refine ⟨_, rfl, _, rfl, _, rfl, _, _, _, rfl, h2, F_Row_no_told, a, dx, l, xs, i + 1 + 1, b.length, rfl, h2, hS2, q7, by have := q12 (by omega); omega, fun p hp => ?_⟩
    rw [upd_upd, q11]
    have npa : p ≠ a := fun z => by rw [z, upd_same] at hp; cases hp
    have fp : H p = none := by rwa [upd_ne npa] at hp
    refine fun x dp nx nd ne => ⟨x, dp, _, _, _, _, rfl, upd_same, rfl, ?_⟩
    have ne2 : i + (encP (wh, .text b)).length = i + 1 + 1 + 1 + b.length := by simp [encP, encY]; omega
    have := piece_made (A := A) (H := H) (a := a) (dx := dx) (l := l) (i := i + (encP (wh, .text b)).length) (z := (wh, .text b)) nx nd upd_same fp (fun b o q n => by rw [upd_ne (ne_of_none q fp), upd_ne n]; exact q) Dom.rfl.upd.upd (by rw [upd_ne npa.symm, upd_same, ne2])
    exact k _ x this.1 this.2.1 this.2.2
  | times j =>
    obtain ⟨q4, q5, q6⟩ := drop_cons q2
    obtain ⟨q7, q8, q9⟩ := drop_cons q5
    refine ⟨_, rfl, _, _, _, rfl, h1, F_Row_no_one, a, dx, l, xs, i + 1, _, rfl, h1, hS1, q4, ?_⟩
    rw [upd_upd]
    refine ⟨_, rfl, rfl, _, rfl, if_false_of rfl ?_⟩
    refine ⟨_, rfl, _, rfl, (by show 0 ≤ sizeLine; decide), fun p hp => ?_⟩
    have npa : p ≠ a := fun z => by rw [z, upd_same] at hp; cases hp
    have fp : H p = none := by rwa [upd_ne npa] at hp
    have h3 : upd (upd H a (.ins A.C_Row dx (rowF l (i + 1 + 1)))) p (.lst []) a = some (.ins A.C_Row dx (rowF l (i + 1 + 1))) := (upd_ne npa.symm).trans h2
    refine ⟨_, rfl, _, _, _, rfl, h3, F_Row_no_one, a, dx, l, xs, i + 1 + 1, _, rfl, h3, (same_new hp _).seq hS2, q7, ?_⟩
    refine fun x dp nx nd ne => ⟨x, dp, _, _, _, _, rfl, upd_same, rfl, ?_⟩
    have := piece_made (A := A) (H := H) (a := a) (dx := dx) (l := l) (i := i + (encP (wh, .times j)).length) (z := (wh, .times j)) nx nd (lp := p) ((upd_ne npa).trans upd_same) fp (fun b o q n => by rw [upd_ne n, upd_ne (ne_of_none q fp), upd_ne n]; exact q) Dom.rfl.upd.upd.upd (by rw [upd_same]; rfl)
    exact k _ x this.1 this.2.1 this.2.2
  | left j =>
    obtain ⟨q4, q5, q6⟩ := drop_cons q2
    obtain ⟨q7, q8, q9⟩ := drop_cons q5
    refine ⟨_, rfl, _, _, _, rfl, h1, F_Row_no_one, a, dx, l, xs, i + 1, _, rfl, h1, hS1, q4, ?_⟩
    rw [upd_upd]
    refine ⟨_, rfl, rfl, _, rfl, if_false_of rfl ?_⟩
    refine ⟨_, rfl, _, rfl, (by show 0 ≤ sizeLine; decide), fun p hp => ?_⟩
    have npa : p ≠ a := fun z => by rw [z, upd_same] at hp; cases hp
    have fp : H p = none := by rwa [upd_ne npa] at hp
    have h3 : upd (upd H a (.ins A.C_Row dx (rowF l (i + 1 + 1)))) p (.lst []) a = some (.ins A.C_Row dx (rowF l (i + 1 + 1))) := (upd_ne npa.symm).trans h2
    refine ⟨_, rfl, _, _, _, rfl, h3, F_Row_no_one, a, dx, l, xs, i + 1 + 1, _, rfl, h3, (same_new hp _).seq hS2, q7, ?_⟩
    refine fun x dp nx nd ne => ⟨x, dp, _, _, _, _, rfl, upd_same, rfl, ?_⟩
    have := piece_made (A := A) (H := H) (a := a) (dx := dx) (l := l) (i := i + (encP (wh, .left j)).length) (z := (wh, .left j)) nx nd (lp := p) ((upd_ne npa).trans upd_same) fp (fun b o q n => by rw [upd_ne n, upd_ne (ne_of_none q fp), upd_ne n]; exact q) Dom.rfl.upd.upd.upd (by rw [upd_same]; rfl)
    exact k _ x this.1 this.2.1 this.2.2
end
end Sn
/-! rules: told, a rule -/
namespace Sn
open PySem PySem.Spec PyProof.Rows L2
theorem ne_of_none' {H : Hp} {a b : Addr} {o : HO} (h : H a = none) (h' : H b = some o) : a ≠ b := fun z => by rw [z, h'] at h; cases h
theorem flat_drop {xs : List Nat} {ps : List Pc} {r : List Nat} {i : Nat} : ∀ {j : Nat}, xs.drop i = ps.flatMap encP ++ r → j < ps.length → ∃ x r', ps[j]? = some x ∧ xs.drop (i + ((ps.take j).flatMap encP).length) = encP x ++ r' := by
  induction ps generalizing i with
  | nil => intro j _ h; cases h
  | cons p ps ih =>
    intro j h hj
    rw [List.flatMap_cons, List.append_assoc] at h
    cases j with
    | zero => exact ⟨p, _, rfl, h⟩
    | succ j =>
      obtain ⟨x, r', h1, h2⟩ := ih (j := j) (drop_app h).1 (by simpa using hj)
      refine ⟨x, r', by simpa using h1, ?_⟩
      rw [List.take_succ_cons, List.flatMap_cons, List.length_append, ← Nat.add_assoc]
      exact h2
section
variable {P : Program} {w : World} {K : PySem.W.Frag} {mg : Str → Option Value} {base : Heap} {A : Ad}
def spTR (A : Ad) (K : PySem.W.Frag) : Sp := fun vs H Q E => ∃ (a dx l : Addr) (xs : List Nat) (i : Nat) (R : Sw64.Rule) (r : List Nat), vs = [.ref a] ∧ RowAt A K H a dx l xs i ∧ xs.drop i = encR R ++ r ∧ RuleIn R ∧
  (Sw64.ruleOk R = false → ∀ H', (∀ b o, H b = some o → b ≠ a → H' b = some o) → E (.ref A.C_NotAsTold) none H') ∧
  (Sw64.ruleOk R = true → ∀ H' p, (∀ b o, H b = some o → b ≠ a → H' b = some o) → H' a = some (.ins A.C_Row dx (rowF l (i + (encR R).length))) → RuleAt A (Nw H H') p (R, Sw64.MOST) → Q (.ref p) H')
theorem ok_told_rule (T : Top K mg A) : FnOk P w K mg base (L2.CX P w) 6 A.f_told_rule A.d_told_rule P_told_rule (spTR A K) := by
  refine T.F_told_rule.okX sc_told_rule (fun vs H Q E h => ?_) (fun cdv _ outer s H vs Q E hr h => ⟨_, (pss_cons (ps_set (i := 1) sc_told_rule.nd rfl (Or.inl rfl) (pe_meth0 (pv 0) T.c_Row T.M_Row_one (ok_Row_one T) (hr.mono (by omega)) (b_Row_one T) .nil pass0))
    (pss_cons (ps_set (i := 2) sc_told_rule.nd rfl (Or.inl rfl) (pe_meth0 (pv 0) T.c_Row T.M_Row_one (ok_Row_one T) (hr.mono (by omega)) (b_Row_one T) .nil pass0))
    (pss_cons (ps_setLc (i := 3) (own := [("k", 4)]) (g := gName 4) (tt := tYes) (te := tCall (spTP A K) [] E0 (tCons (tVar 0) tNil)) rfl sc_told_rule.nd rfl rfl (sw_true rfl rfl rfl (by decide +kernel)) (pi_range1 rfl T.n_range (pa_cons (pe_meth0 (pv 0) T.c_Row T.M_Row_one (ok_Row_one T) (hr.mono (by omega)) (b_Row_one T) .nil pass0) pa_nil)) (blkOk_by (own := [("k", 4)]) (N := N_told_rule) (sc := defScope s_told_rule) (by decide +kernel)) (fun _ _ _ _ _ => pg_name (i := 4) sc_told_rule.nd rfl (Or.inl rfl)) (fun _ _ _ _ _ => by exact (pts_nil)) (fun _ _ _ _ _ => by exact (pe_call (ok_told_piece T) (hr.mono (by omega)) (by rfl) T.g_told_piece T.F_told_piece.kp (b_told_piece T) .nil pass0 (pa_cons (pv 0) pa_nil))))
    (pss_cons (ps_if (pt_not (pt_val (pe_call (ok_may_be_rule T) (hr.mono (by omega)) (by rfl) T.g_may_be_rule T.F_may_be_rule.kp (b_may_be_rule T) .nil pass0 (pa_cons (pv 1) (pa_cons (pv 2) (pa_cons (pv 3) pa_nil))))))
    (pss_one (ps_raise rfl (takes_of rfl rfl rfl rfl) (pmk_own0 PySem.F.excBase_Exception T.x_NotAsTold T.g_NotAsTold T.kp_NotAsTold (raises_own T.b_NotAsTold T.t_NotAsTold) (by exact rfl))))
    pss_nil)
    (pss_one (ps_ret (pe_make T.m_Rule (ok_Rule_init T) (hr.mono (by omega)) (by rfl) T.g_Rule (b_Rule_init T) .nil pass0 (pa_cons (pv 1) (pa_cons (pv 2) (pa_cons (pv 3) pa_nil)))))))))), ?_⟩)
  · obtain ⟨_, _, _, _, _, _, _, rfl, _⟩ := h
    rfl
  obtain ⟨a, dx, l, xs, i, R, r, rfl, hrow, hd, hin, kE, kQ⟩ := h
  obtain ⟨ha, hS⟩ := id hrow
  have e0 : xs.drop i = R.base :: R.by_ :: R.pieces.length :: (R.pieces.flatMap encP ++ r) := hd
  obtain ⟨q1, q2, q3⟩ := drop_cons e0
  obtain ⟨q4, q5, q6⟩ := drop_cons q2
  obtain ⟨q7, q8, q9⟩ := drop_cons q5
  obtain ⟨h1, hS1⟩ := hrow.upd (i + 1)
  obtain ⟨h2, hS2⟩ := hrow.upd (i + 1 + 1)
  obtain ⟨h3, hS3⟩ := hrow.upd (i + 1 + 1 + 1)
  refine ⟨_, rfl, _, _, _, rfl, ha, F_Row_no_one, a, dx, l, xs, i, _, rfl, ha, hS, q1, ?_⟩
  refine ⟨_, rfl, _, _, _, rfl, h1, F_Row_no_one, a, dx, l, xs, i + 1, _, rfl, h1, hS1, q4, ?_⟩
  rw [upd_upd]
  refine ⟨_, rfl, _, _, _, rfl, h2, F_Row_no_one, a, dx, l, xs, i + 1 + 1, _, rfl, h2, hS2, q7, _, rfl, by omega, by have := hin.1; omega, fun D hD => ?_⟩
  rw [upd_upd] at hD ⊢
  have nDa : D ≠ a := fun z => by rw [z, upd_same] at hD; cases hD
  have fD : H D = none := by rwa [upd_ne nDa] at hD
  refine lc_range (lo := 0) (n := R.pieces.length) (fun j H' => (∀ b o, H b = some o → b ≠ a → H' b = some o) ∧ H' a = some (.ins A.C_Row dx (rowF l (i + 1 + 1 + 1 + ((R.pieces.take j).flatMap encP).length))) ∧
    ∃ pas, H' D = some (.lst (refs pas)) ∧ All2 (PieceAt A (Nw H (Wo H' D))) pas (R.pieces.take j) ∧ pas.length ≤ j) ⟨fun b o q n => ?_, ?_, [], upd_same, .nil, Nat.le_refl _⟩ (fun j H' hj p => ?_) (fun H' p => ?_)
  · rw [upd_ne (ne_of_none q fD), upd_ne n]; exact q
  · rw [upd_ne nDa.symm, upd_same]; rfl
  · obtain ⟨kp, hr', pas, hD', hp', hl'⟩ := p
    obtain ⟨x, r', hx, hdx⟩ := flat_drop (i := i + 1 + 1 + 1) q8 hj
    have hrow' : RowAt A K H' a dx l xs (i + 1 + 1 + 1 + ((R.pieces.take j).flatMap encP).length) := ⟨hr', by
      have : Same (Wo H a) H' := fun b o q => by
        by_cases c : b = a
        · subst c; rw [Wo.eq] at q; cases q
        · rw [Wo.ne c] at q; exact kp b o q c
      refine this.seq ?_
      rcases hS with q | q
      · refine .inl ?_
        rcases q with q | ⟨o', q⟩
        · exact .inl (by rw [Wo.ne (ne_of q ha (by intro z; cases z))]; exact q)
        · exact .inr ⟨o', by rw [Wo.ne (ne_of q ha (by intro z; cases z))]; exact q⟩
      · exact .inr q⟩
    refine ⟨rfl, _, rfl, a, dx, l, xs, _, x, r', rfl, hrow', hdx, fun H2 p2 kp2 hr2 hpc => ?_⟩
    have hD2 := kp2 _ _ hD' nDa
    have hjl := hin.1
    refine ⟨_, hD2, by rw [refs_length, sizeLine_eq]; omega, fun b o q n => ?_, ?_, pas ++ [p2], ?_, ?_, ?_⟩
    · rw [upd_ne (ne_of_none q fD)]; exact kp2 b o (kp b o q n) n
    · rw [upd_ne nDa.symm, hr2, take_more hx, List.flatMap_append, List.length_append]
      simp [Nat.add_assoc]
    · rw [upd_same]; unfold refs; rw [List.map_append] <;> rfl
    · rw [take_more hx]
      have e2 : ∀ b o, b ≠ D → H2 b = some o → upd H2 D (.lst (refs pas ++ [V.ref p2])) b = some o := fun b o n q => (upd_ne n).trans q
      refine (hp'.mono fun c y _ _ z => z.mono fun b o q => ?_).snoc (hpc.mono fun b o q => ?_)
      · have n : b ≠ D := fun z => by have := Nw.is q; rw [z, Wo.eq] at this; cases this
        have nb : b ≠ a := ne_of_none' (Nw.old q) ha
        refine Nw.at (Nw.old q) (by rw [Wo.ne n]; exact e2 _ _ n (kp2 b o (Wo.same _ _ (Nw.is q)) nb))
      · have n : b ≠ D := fun z => by have := Nw.old q; rw [z, hD'] at this; cases this
        have f : H b = none := by
          cases c : H b with
          | none => rfl
          | some u =>
            by_cases nb : b = a
            · subst nb; have := Nw.old q; rw [hr'] at this; cases this
            · have := kp b u c nb; rw [Nw.old q] at this; cases this
        exact Nw.at f (by rw [Wo.ne n]; exact e2 _ _ n (Nw.is q))
    · rw [List.length_append]; show _ + 1 ≤ _; omega
  obtain ⟨kp, hr', pas, hD', hp', hl'⟩ := p
  rw [List.take_length] at hp' hr'
  have hps : PiecesAt A H' D R.pieces := ⟨pas, hD', hp'.mono fun _ _ _ _ z => z.mono fun b o q => Wo.same _ _ (Nw.is q)⟩
  refine ⟨_, rfl, _, rfl, _, rfl, D, R.base, R.by_, R.pieces, rfl, hps, hin.1, hin.2, fun H2 s2 => ⟨_, rfl, ?_⟩⟩
  rw [mayRule_eq]
  cases c : Sw64.ruleOk R with
  | false =>
    refine if_true_of rfl ?_
    exact kE c H2 fun b o q n => s2 _ _ (kp b o q n)
  | true =>
    refine if_false_of rfl ?_
    have hsh : Short R.pieces := by
      obtain ⟨g1, g2⟩ := SpecMath.rule_pieces c
      refine ⟨g1, fun x hx => ?_⟩
      have := g2 x hx
      unfold Sw64.pieceOk at this
      cases hy : x.2 with
      | text t => rw [hy] at this; exact of_decide_eq_true this
      | times _ => exact Nat.zero_le _
      | left _ => exact Nat.zero_le _
    have dm : Dom H H2 := fun b e => by
      cases c : H b with
      | none => rfl
      | some u =>
        by_cases nb : b = a
        · subst nb; rw [s2 _ _ hr'] at e; cases e
        · rw [s2 _ _ (kp b u c nb)] at e; cases e
    refine ⟨_, rfl, _, rfl, _, rfl, fun x dp nx nd ne => ⟨x, dp, D, R.base, R.by_, R.pieces, H, rfl, upd_same, dm.upd.upd, dm _ nx, ⟨pas, ?_, hp'.mono fun _ _ _ _ z => z.mono fun b o q => ?_⟩, hsh, fun H3 kp3 hR => ⟨rfl, ?_⟩⟩⟩
    · have n1 : D ≠ x := ne_of_none (s2 _ _ hD') nx
      have n2 : D ≠ dp := ne_of_none (s2 _ _ hD') nd
      exact Nw.at fD (by rw [Wo.ne n1, upd_ne n1, upd_ne n2]; exact s2 _ _ hD')
    · have q' := s2 _ _ (Wo.same _ _ (Nw.is q))
      have n1 := ne_of_none q' nx
      have n2 := ne_of_none q' nd
      exact Nw.at (Nw.old q) (by rw [Wo.ne n1, upd_ne n1, upd_ne n2]; exact q')
    · have kq : ∀ b o, H2 b = some o → H3 b = some o := fun b o q => kp3 b o (by rw [upd_ne (ne_of_none q nx), upd_ne (ne_of_none q nd)]; exact q) (ne_of_none q nx)
      refine kQ c H3 x (fun b o q n => kq _ _ (s2 _ _ (kp b o q n))) ?_ hR
      have := kq _ _ (s2 _ _ hr')
      rw [this]
      have e : i + (encR R).length = i + 1 + 1 + 1 + (R.pieces.flatMap encP).length := by simp [encR]; omega
      rw [e]
end
end Sn
/-! rules: told, a set's -/
namespace Sn
open PySem PySem.Spec PyProof.Rows L2
theorem rising_of : ∀ {l : List Nat}, (∀ j a b, l[j]? = some a → l[j + 1]? = some b → a < b) → Sw64.rising l = true
  | [], _ => rfl
  | [_], _ => rfl
  | a :: b :: l, h => by
    rw [Sw64.rising, Bool.and_eq_true, decide_eq_true_eq]
    exact ⟨h 0 a b rfl rfl, rising_of fun j x y h1 h2 => h (j + 1) x y h1 h2⟩
theorem rising_at {l : List Nat} (h : Sw64.rising l = true) {j a b : Nat} (ha : l[j]? = some a) (hb : l[j + 1]? = some b) : a < b := by
  have p := List.pairwise_iff_getElem.mp (rising_pair h)
  obtain ⟨h1, e1⟩ := List.getElem?_eq_some_iff.mp ha
  obtain ⟨h2, e2⟩ := List.getElem?_eq_some_iff.mp hb
  have := p j (j + 1) h1 h2 (by omega)
  rwa [e1, e2] at this
def nxt (s : Sw64.RSet) (j : Nat) : Nat := match s[j + 1]? with
  | some X => X.base - 1
  | none => Sw64.MOST
theorem upTo_idx : ∀ {s : Sw64.RSet} {j : Nat} {R : Sw64.Rule}, Sw64.rising (s.map fun r => r.base) = true → s[j]? = some R → Sw64.upTo s R = nxt s j
  | [], j, R, _, h => by simp at h
  | X :: s, 0, R, hr, h => by
    have e : X = R := by simpa using h
    subst e
    rw [SpecMath.upTo_head hr]
    unfold nxt
    cases s <;> rfl
  | X :: s, j + 1, R, hr, h => by
    have h' : s[j]? = some R := by simpa using h
    rw [SpecMath.upTo_cons hr (List.mem_of_getElem? h'), upTo_idx (SpecMath.rising_tail hr) h']
    unfold nxt
    rw [List.getElem?_cons_succ]
theorem All2.of {α : Type} {R : Addr → α → Prop} : ∀ {as : List Addr} {xs : List α}, as.length = xs.length → (∀ (i : Nat) a x, as[i]? = some a → xs[i]? = some x → R a x) → All2 R as xs
  | [], [], _, _ => .nil
  | [], _ :: _, h, _ => by cases h
  | _ :: _, [], h, _ => by cases h
  | a :: as, x :: xs, h, f => .cons (f 0 a x rfl rfl) (All2.of (by simpa using h) fun i b y h1 h2 => f (i + 1) b y h1 h2)
theorem set_drop {xs : List Nat} {s : Sw64.RSet} {r : List Nat} {i : Nat} : ∀ {j : Nat}, xs.drop i = s.flatMap encR ++ r → j < s.length → ∃ x r', s[j]? = some x ∧ xs.drop (i + ((s.take j).flatMap encR).length) = encR x ++ r' := by
  induction s generalizing i with
  | nil => intro j _ h; cases h
  | cons p ps ih =>
    intro j h hj
    rw [List.flatMap_cons, List.append_assoc] at h
    cases j with
    | zero => exact ⟨p, _, rfl, h⟩
    | succ j =>
      obtain ⟨x, r', h1, h2⟩ := ih (j := j) (drop_app h).1 (by simpa using hj)
      refine ⟨x, r', by simpa using h1, ?_⟩
      rw [List.take_succ_cons, List.flatMap_cons, List.length_append, ← Nat.add_assoc]
      exact h2
theorem ne_rs {v0 v1 v2 v3 w0 w1 w2 w3 : V} : F_Shape v0 v1 v2 v3 ≠ F_Rule w0 w1 w2 w3 := fun h => by
  have h0 := (Prod.mk.inj (List.cons.inj h).1).1
  exact absurd h0 (by decide +kernel)
theorem ne_rp {v0 v1 v2 v3 w0 w1 w2 w3 : V} : F_Piece v0 v1 v2 v3 ≠ F_Rule w0 w1 w2 w3 := fun h => by
  have h0 := (Prod.mk.inj (List.cons.inj h).1).1
  exact absurd h0 (by decide +kernel)
section
variable {P : Program} {w : World} {K : PySem.W.Frag} {mg : Str → Option Value} {base : Heap} {A : Ad}
/-- no rule is part of shapes -/
theorem ShapesAt.apart {F : Hp} {l p C dx : Addr} {ss : List Sh} {w0 w1 w2 w3 : V} (h : ShapesAt A F l ss) (hp : F p = some (.ins C dx (F_Rule w0 w1 w2 w3))) : ShapesAt A (Wo F p) l ss := by
  obtain ⟨as, h1, h2⟩ := h
  have kp : ∀ b o, o ≠ .ins C dx (F_Rule w0 w1 w2 w3) → F b = some o → Wo F p b = some o := fun b o n q => by
    rw [Wo.ne fun z => by rw [z, hp] at q; exact n (Option.some.inj q).symm]; exact q
  have hpc : ∀ a x, PieceAt A F a x → PieceAt A (Wo F p) a x := fun a x ⟨dx', l', q1, q2⟩ => ⟨dx', l', kp _ _ (fun z => by injection z with _ _ z; exact ne_rp z) q1, kp _ _ (fun z => by cases z) q2⟩
  refine ⟨as, kp _ _ (fun z => by cases z) h1, h2.mono fun a s _ _ z => ?_⟩
  obtain ⟨dx', t1, t2, ll, sl, las, ps, g1, g2, g3, g4, g5, g6, g7⟩ := z.ex
  refine ⟨dx', t1, t2, ll, sl, las, ps, kp _ _ (fun z => by injection z with _ _ z; exact ne_rs z) g1, kp _ _ (fun z => by cases z) g2, kp _ _ (fun z => by cases z) g3, kp _ _ (fun z => by cases z) g4, g5.mono fun _ _ _ _ z => kp _ _ (fun z => by cases z) z, kp _ _ (fun z => by cases z) g6, g7.mono fun a y _ _ z => ?_⟩
  obtain ⟨wh, z⟩ := z
  exact ⟨wh, hpc _ _ z⟩
/-- the rules made so far, at D -/
structure RsW (A : Ad) (H H' : Hp) (D : Addr) (s : Sw64.RSet) (k : Nat) (as : List Addr) : Prop where
  hD : H' D = some (.lst (refs as))
  len : as.length = k
  nd : as.Nodup
  at_ : ∀ (j : Nat) a R, as[j]? = some a → s[j]? = some R → RuleAt A (Nw H (Wo H' D)) a (R, if j + 1 < k then nxt s j else Sw64.MOST)
  ok : ∀ (j : Nat) R, j < k → s[j]? = some R → Sw64.ruleOk R = true
  up : ∀ (j : Nat) R X, j + 1 < k → s[j]? = some R → s[j + 1]? = some X → R.base < X.base
theorem RuleAt.is {H : Hp} {a : Addr} {x : Sw64.Rule × Nat} (h : RuleAt A H a x) : ∃ o, H a = some o := let ⟨_, _, h1, _⟩ := h; ⟨_, h1⟩
theorem RsW.ext {B H1 H2 : Hp} {D a0 : Addr} {s : Sw64.RSet} {k : Nat} {as : List Addr} (h : RsW A B H1 D s k as) (kp : ∀ b o, H1 b = some o → b ≠ a0 → H2 b = some o) (n0 : D ≠ a0) (f0 : B a0 ≠ none) : RsW A B H2 D s k as := by
  refine ⟨kp _ _ h.hD n0, h.len, h.nd, fun j a R h1 h2 => (h.at_ j a R h1 h2).mono fun b o q => ?_, h.ok, h.up⟩
  have nb : b ≠ a0 := fun z => f0 (by rw [← z]; exact Nw.old q)
  have nD : b ≠ D := fun z => by have := Nw.is q; rw [z, Wo.eq] at this; cases this
  exact Nw.at (Nw.old q) (by rw [Wo.ne nD]; exact kp b o (Wo.same _ _ (Nw.is q)) nb)
theorem RsW.get {B H1 : Hp} {D : Addr} {s : Sw64.RSet} {k j : Nat} {as : List Addr} (h : RsW A B H1 D s k as) (hj : j < k) (hks : k ≤ s.length) : ∃ a R, as[j]? = some a ∧ s[j]? = some R ∧ ∃ dx ls, Nw B (Wo H1 D) a = some (.ins A.C_Rule dx (ruleF R (if j + 1 < k then nxt s j else Sw64.MOST) ls)) := by
  have h1 := h.len
  refine ⟨as[j]'(by omega), s[j]'(by omega), List.getElem?_eq_getElem (by omega), List.getElem?_eq_getElem (by omega), ?_⟩
  obtain ⟨dx, ls, q, _⟩ := h.at_ j _ _ (List.getElem?_eq_getElem (by omega)) (List.getElem?_eq_getElem (by omega))
  exact ⟨dx, ls, q⟩
/-- the first -/
theorem RsW.first {B H1 H2 : Hp} {D p : Addr} {s : Sw64.RSet} {R : Sw64.Rule} (h : RsW A B H2 D s 0 []) (hD1 : H1 D ≠ none) (dB : Dom B H1) (hk : s[0]? = some R) (hR : Sw64.ruleOk R = true) (hp : RuleAt A (Nw H1 H2) p (R, Sw64.MOST)) :
    RsW A B (upd H2 D (.lst (refs [] ++ [.ref p]))) D s 1 [p] := by
  refine ⟨upd_same, rfl, by simp, fun j a R' h1 h2 => ?_, fun j R' hj h2 => ?_, fun j _ _ hj => by omega⟩
  · cases j with
    | succ j => simp at h1
    | zero =>
      have e1 : p = a := by simpa using h1
      have e2 : R = R' := by rw [hk] at h2; exact Option.some.inj h2
      subst e1 e2
      rw [if_neg (by omega)]
      refine hp.mono fun b o q => Nw.at (dB b (Nw.old q)) ?_
      have nD : b ≠ D := fun z => hD1 (by rw [← z]; exact Nw.old q)
      rw [Wo.ne nD, upd_ne nD]; exact Nw.is q
  · have : j = 0 := by omega
    subst this
    rw [hk] at h2; cases h2; exact hR
/-- one more: the one before gets its last -/
theorem RsW.more {B H1 H2 : Hp} {D p b dx ls : Addr} {s : Sw64.RSet} {k : Nat} {as : List Addr} {R Rb : Sw64.Rule} (h : RsW A B H2 D s (k + 1) as) (hD1 : H1 D ≠ none) (dB : Dom B H1) (kb : H1 b ≠ none) (ka : ∀ a ∈ as, H1 a ≠ none) (hk : s[k + 1]? = some R) (hb : as[k]? = some b) (hsb : s[k]? = some Rb)
    (hR : Sw64.ruleOk R = true) (hlt : Rb.base < R.base) (hob : Nw B (Wo H2 D) b = some (.ins A.C_Rule dx (ruleF Rb Sw64.MOST ls))) (hp : RuleAt A (Nw H1 H2) p (R, Sw64.MOST)) :
    RsW A B (upd (upd H2 b (.ins A.C_Rule dx (ruleF Rb (R.base - 1) ls))) D (.lst (refs as ++ [.ref p]))) D s (k + 2) (as ++ [p]) := by
  have hn : nxt s k = R.base - 1 := by unfold nxt; rw [hk] <;> rfl
  have nbD : b ≠ D := fun z => by have := Nw.is hob; rw [z, Wo.eq] at this; cases this
  have hlen := h.len
  obtain ⟨dp, lp, hp1, hp2⟩ := id hp
  have kp : Same (Wo (Nw B (Wo H2 D)) b) (Nw B (Wo (upd (upd H2 b (.ins A.C_Rule dx (ruleF Rb (R.base - 1) ls))) D (.lst (refs as ++ [.ref p]))) D)) := fun c o q => by
    have nb : c ≠ b := fun z => by rw [z, Wo.eq] at q; cases q
    rw [Wo.ne nb] at q
    have nD : c ≠ D := fun z => by have := Nw.is q; rw [z, Wo.eq] at this; cases this
    exact Nw.at (Nw.old q) (by rw [Wo.ne nD, upd_ne nD, upd_ne nb]; exact Wo.same _ _ (Nw.is q))
  have kn : Same (Nw H1 H2) (Nw B (Wo (upd (upd H2 b (.ins A.C_Rule dx (ruleF Rb (R.base - 1) ls))) D (.lst (refs as ++ [.ref p]))) D)) := fun c o q => by
    have nb : c ≠ b := fun z => kb (by rw [← z]; exact Nw.old q)
    have nD : c ≠ D := fun z => hD1 (by rw [← z]; exact Nw.old q)
    exact Nw.at (dB c (Nw.old q)) (by rw [Wo.ne nD, upd_ne nD, upd_ne nb]; exact Nw.is q)
  refine ⟨?_, by rw [List.length_append, hlen] <;> rfl, ?_, fun j a R' h1 h2 => ?_, fun j R' hj h2 => ?_, fun j X Y hj hX hY => ?_⟩
  · rw [upd_same]; unfold refs; rw [List.map_append] <;> rfl
  · rw [List.nodup_append]
    refine ⟨h.nd, by simp, fun x hx y hy => ?_⟩
    rw [List.mem_singleton.mp hy]
    intro z
    exact ka x hx (by rw [z]; exact Nw.old hp1)
  · by_cases c1 : j < k + 1
    · rw [List.getElem?_append_left (by omega)] at h1
      have hr := h.at_ j a R' h1 h2
      obtain ⟨dx', ls', g1, g2⟩ := hr
      by_cases c2 : j = k
      · subst c2
        have e1 : b = a := by rw [hb] at h1; exact Option.some.inj h1
        have e2 : Rb = R' := by rw [hsb] at h2; exact Option.some.inj h2
        subst e1 e2
        rw [hob] at g1
        injection g1 with g1
        injection g1 with _ g1 g3
        subst g1
        have e3 : ls = ls' := by
          have := congrArg (fun (x : List (Str × V)) => x[3]?) g3
          simpa [ruleF, F_Rule] using this
        subst e3
        rw [if_pos (by omega), hn]
        refine ⟨dx, ls, Nw.at (Nw.old hob) (by rw [Wo.ne nbD, upd_ne nbD, upd_same]), (g2.apart hob).mono kp⟩
      · have na : a ≠ b := fun z => by
          subst z
          have i1 : j < as.length := by omega
          have := (List.getElem?_inj i1 h.nd).mp (h1.trans hb.symm)
          exact c2 this
        rw [if_pos (by omega)]
        rw [if_pos (by omega)] at g1
        exact ⟨dx', ls', kp _ _ (by rw [Wo.ne na]; exact g1), (g2.apart hob).mono kp⟩
    · have hj : j = k + 1 := by
        have := (List.getElem?_eq_some_iff.mp h1).1
        rw [List.length_append] at this
        have : j < as.length + 1 := this
        omega
      subst hj
      rw [List.getElem?_append_right (by omega)] at h1
      have e1 : p = a := by simpa [hlen] using h1
      have e2 : R = R' := by rw [hk] at h2; exact Option.some.inj h2
      subst e1 e2
      rw [if_neg (by omega)]
      exact hp.mono kn
  · by_cases c : j < k + 1
    · exact h.ok j R' c h2
    · have : j = k + 1 := by omega
      subst this
      rw [hk] at h2; cases h2; exact hR
  · by_cases c : j + 1 < k + 1
    · exact h.up j X Y c hX hY
    · have : j = k := by omega
      subst this
      rw [hsb] at hX; rw [hk] at hY
      cases hX; cases hY; exact hlt
theorem RsW.done {B H1 : Hp} {D : Addr} {s : Sw64.RSet} {as : List Addr} (h : RsW A B H1 D s s.length as) (hD : B D = none) (h60 : s.length ≤ 60) : Sw64.setOk s = true ∧ SetAt A (Nw B H1) D s := by
  have hr : Sw64.rising (s.map fun r => r.base) = true := rising_of fun j a b h1 h2 => by
    rw [List.getElem?_map, Option.map_eq_some_iff] at h1 h2
    obtain ⟨X, hX, rfl⟩ := h1
    obtain ⟨Y, hY, rfl⟩ := h2
    exact h.up j X Y (List.getElem?_eq_some_iff.mp hY).1 hX hY
  refine ⟨?_, as, Nw.at hD h.hD, All2.of (by rw [h.len]; unfold withLast; rw [List.length_map]) fun i a x h1 h2 => ?_⟩
  · unfold Sw64.setOk
    rw [Bool.and_eq_true, Bool.and_eq_true, decide_eq_true_eq, List.all_eq_true]
    refine ⟨h60, fun R hR => ?_, hr⟩
    obtain ⟨j, hj, e⟩ := List.mem_iff_getElem.mp hR
    exact h.ok j R hj (by rw [List.getElem?_eq_getElem hj, e])
  · unfold withLast at h2
    rw [List.getElem?_map, Option.map_eq_some_iff] at h2
    obtain ⟨R, hR, rfl⟩ := h2
    have := h.at_ i a R h1 hR
    have e : (if i + 1 < s.length then nxt s i else Sw64.MOST) = Sw64.upTo s R := by
      rw [upTo_idx hr hR]
      by_cases c : i + 1 < s.length
      · rw [if_pos c]
      · rw [if_neg c]; unfold nxt; rw [List.getElem?_eq_none (by omega)]
    rw [e] at this
    exact this.mono (Nw.mono Wo.same)
end
end Sn
/-! rules: told, a set's: the def -/
namespace Sn
open PySem PySem.Spec PyProof.Rows L2
section
variable {P : Program} {w : World} {K : PySem.W.Frag} {mg : Str → Option Value} {base : Heap} {A : Ad}
def spTRs (A : Ad) (K : PySem.W.Frag) : Sp := fun vs H Q E => ∃ (l : Addr) (s : Sw64.RSet), vs = [.ref l] ∧ SqL K H l (nums (encS s)) ∧ SetIn s ∧
  (Sw64.setOk s = false → ∀ H', Same H H' → E (.ref A.C_NotAsTold) none H') ∧ (Sw64.setOk s = true → ∀ H' p, Same H H' → SetAt A (Nw H H') p s → Q (.ref p) H')
/-- a new row over a list -/
theorem row_made {H : Hp} {a dx l : Addr} {xs : List Nat} (na : H a = none) (nd : H dx = none) (ne : dx ≠ a) (hS : SqL K H l (nums xs)) :
    Same H (upd (upd (upd H dx (.own a)) a (.ins A.C_Row dx [])) a (.ins A.C_Row dx (rowF l 0))) ∧ RowAt A K (upd (upd (upd H dx (.own a)) a (.ins A.C_Row dx [])) a (.ins A.C_Row dx (rowF l 0))) a dx l xs 0 := by
  have s1 : Same H (upd (upd (upd H dx (.own a)) a (.ins A.C_Row dx [])) a (.ins A.C_Row dx (rowF l 0))) := Same.upd_new (Same.upd_new (same_new nd _) na) na
  exact ⟨s1, upd_same, s1.seq hS⟩
theorem setOk_ok {s : Sw64.RSet} {j : Nat} {R : Sw64.Rule} (hk : s[j]? = some R) (h : Sw64.ruleOk R = false) : Sw64.setOk s = false := by
  cases c : Sw64.setOk s with
  | false => rfl
  | true =>
    unfold Sw64.setOk at c
    simp only [Bool.and_eq_true, List.all_eq_true] at c
    rw [c.2.1 R (List.mem_of_getElem? hk)] at h; cases h
theorem setOk_up {s : Sw64.RSet} {j : Nat} {R X : Sw64.Rule} (h1 : s[j]? = some R) (h2 : s[j + 1]? = some X) (h : ¬ R.base < X.base) : Sw64.setOk s = false := by
  cases c : Sw64.setOk s with
  | false => rfl
  | true =>
    unfold Sw64.setOk at c
    simp only [Bool.and_eq_true] at c
    exact absurd (rising_at c.2.2 (j := j) (by rw [List.getElem?_map, h1] <;> rfl) (by rw [List.getElem?_map, h2] <;> rfl)) h
theorem ok_told_rules (T : Top K mg A) : FnOk P w K mg base (L2.CX P w) 7 A.f_told_rules A.d_told_rules P_told_rules (spTRs A K) := by
  refine T.F_told_rules.okX sc_told_rules (fun vs H Q E h => ?_) (fun cdv _ outer s H vs Q E hr h => ⟨_, (pss_cons (ps_set (i := 1) sc_told_rules.nd rfl (Or.inl rfl) (pe_make T.m_Row (ok_Row_init T) (hr.mono (by omega)) (by rfl) T.g_Row (b_Row_init T) .nil pass0 (pa_cons (pv 0) pa_nil)))
    (pss_cons (ps_set (i := 2) sc_told_rules.nd rfl (Or.inl rfl) (pe_meth0 (pv 1) T.c_Row T.M_Row_one (ok_Row_one T) (hr.mono (by omega)) (b_Row_one T) .nil pass0))
    (pss_cons (ps_if (pt_cmpR op_gt (pv 2) (pe_gi rfl T.k_MOST_RULES) (nomark _))
    (pss_one (ps_raise rfl (takes_of rfl rfl rfl rfl) (pmk_own0 PySem.F.excBase_Exception T.x_NotAsTold T.g_NotAsTold T.kp_NotAsTold (raises_own T.b_NotAsTold T.t_NotAsTold) (by exact rfl))))
    pss_nil)
    (pss_cons (ps_set (i := 3) sc_told_rules.nd rfl (Or.inl rfl) (pe_lst pa_nil))
    (pss_cons (ps_for (passes_of rfl) rfl (pi_range1 rfl T.n_range (pa_cons (pv 2) pa_nil)) (pg_name (i := 4) sc_told_rules.nd rfl (Or.inl rfl))
    (pss_cons (ps_set (i := 5) sc_told_rules.nd rfl (Or.inl rfl) (pe_call (ok_told_rule T) (hr.mono (by omega)) (by rfl) T.g_told_rule T.F_told_rule.kp (b_told_rule T) .nil (passes_call (takes_of rfl rfl rfl rfl) (fun _ _ _ _ h => h)) (pa_cons (pv 1) pa_nil)))
    (pss_cons (ps_if (pt_cmpR op_gt (pv 4) pe_int (nomark _))
    (pss_cons (ps_set (i := 6) sc_told_rules.nd rfl (Or.inl rfl) (pe_ix ix_list (pv 3) (pe_op op_sub (pv 4) pe_int) (fun _ _ => rfl)))
    (pss_cons (ps_if (pt_cmpR op_le (pe_fld (pv 5) rfl) (pe_fld (pv 6) rfl) (nomark _))
    (pss_one (ps_raise rfl (takes_of rfl rfl rfl rfl) (pmk_own0 PySem.F.excBase_Exception T.x_NotAsTold T.g_NotAsTold T.kp_NotAsTold (raises_own T.b_NotAsTold T.t_NotAsTold) (by exact rfl))))
    pss_nil)
    (pss_one (ps_fld (pv 6) (pe_op op_sub (pe_fld (pv 5) rfl) pe_int) rfl))))
    pss_nil)
    (pss_one (ps_expr (pe_bm PySem.F.plainAttrs_list PySem.F.slot_list_append PySem.F.type_list_append mt_append (pv 3) (pa_cons (pv 5) pa_nil)))))))
    (pss_one (ps_ret (pv 3)))))))), ?_⟩)
  · obtain ⟨_, _, rfl, _⟩ := h
    rfl
  obtain ⟨l, s, rfl, hS, hin, kE, kQ⟩ := h
  refine ⟨_, rfl, fun a dx na nd ne => ⟨a, dx, l, rfl, upd_same, ⟨rfl, ?_⟩⟩⟩
  obtain ⟨s0, r0⟩ := row_made (A := A) na nd ne hS
  generalize upd (upd (upd H dx (.own a)) a (.ins A.C_Row dx [])) a (.ins A.C_Row dx (rowF l 0)) = B at s0 r0
  have hd0 : (encS s).drop 0 = s.length :: (s.flatMap encR ++ []) := by rw [List.append_nil]; rfl
  obtain ⟨q1, q2, q3⟩ := drop_cons hd0
  obtain ⟨ha, hS0⟩ := id r0
  refine ⟨_, rfl, _, _, _, rfl, ha, F_Row_no_one, a, dx, l, encS s, 0, _, rfl, ha, hS0, q1, ?_⟩
  have s1 : Same H (upd B a (.ins A.C_Row dx (rowF l (0 + 1)))) := Same.upd_new s0 na
  obtain ⟨h1, hS1⟩ := r0.upd 1
  have f0 : B a ≠ none := by rw [ha]; intro z; cases z
  refine ⟨_, rfl, _, _, rfl, rfl, _, rfl, ?_⟩
  refine split_dec (fun c => ?_) (fun c => ?_)
  · exact kE (by
      cases c2 : Sw64.setOk s with
      | false => rfl
      | true =>
        unfold Sw64.setOk at c2
        simp only [Bool.and_eq_true, decide_eq_true_eq] at c2
        have := c2.1
        have h60 : Sw64.RULES = 60 := rfl
        omega) _ s1
  have h60 : s.length ≤ 60 := by omega
  refine ⟨(by show 0 ≤ sizeLine; decide), fun D hD => ?_⟩
  have nDa : D ≠ a := fun z => by rw [z, upd_same] at hD; cases hD
  have fD : B D = none := by rwa [upd_ne nDa] at hD
  refine ⟨_, rfl, _, rfl, by omega, by omega, for_range (lo := 0) (n := s.length) (fun k σ H' => ∃ v4 v5 v6, σ = [some (.ref l), some (.ref a), some (.int (s.length : Int)), some (.ref D), v4, v5, v6] ∧ Same H H' ∧ H' a = some (.ins A.C_Row dx (rowF l (0 + 1 + ((s.take k).flatMap encR).length))) ∧ Dom B H' ∧
    ∃ as, RsW A B H' D s k as ∧ ∀ b ∈ as, H' b ≠ none) ⟨none, none, none, rfl, Same.upd_new s1 (Same.free s0 fD), (upd_ne nDa.symm).trans upd_same, Dom.rfl.upd.upd, [], ⟨upd_same, rfl, .nil, fun j a R h => by simp at h, fun j R h => by omega, fun j R X h => by omega⟩, fun b hb => by cases hb⟩ ?_ ?_⟩
  · rintro k σ H1 hk ⟨v4, v5, v6, rfl, s2, hrow, dB, as, W, hka⟩
    obtain ⟨R, r', hR, hdR⟩ := set_drop (i := 0 + 1) (j := k) q2 hk
    have hRin := hin.2 R (List.mem_of_getElem? hR)
    have hrow1 : RowAt A K H1 a dx l (encS s) (0 + 1 + ((s.take k).flatMap encR).length) := ⟨hrow, s2.seq hS⟩
    refine ⟨_, rfl, a, dx, l, encS s, _, R, r', rfl, hrow1, hdR, hRin, fun c H2 kp => ?_, fun c H2 p kp hrow2 hp => ?_⟩
    · exact kE (setOk_ok hR c) H2 fun b o q => kp b o (s2 b o q) (ne_of_none q na)
    have s3 : Same H H2 := fun b o q => kp b o (s2 b o q) (ne_of_none q na)
    have W2 := W.ext kp nDa f0
    have hD1 : H1 D ≠ none := by rw [W.hD]; intro z; cases z
    have dm2 : Dom H1 H2 := fun b e => by
      cases c : H1 b with
      | none => rfl
      | some u =>
        by_cases nb : b = a
        · subst nb; rw [hrow2] at e; cases e
        · rw [kp b u c nb] at e; cases e
    have hlen := W.len
    obtain ⟨dxp, lsp, hp1, hp2⟩ := id hp
    have erow : 0 + 1 + ((s.take (k + 1)).flatMap encR).length = 0 + 1 + ((s.take k).flatMap encR).length + (encR R).length := by
      rw [take_more hR, List.flatMap_append, List.length_append]; simp [Nat.add_assoc]
    refine ⟨_, rfl, _, _, rfl, rfl, _, rfl, ?_⟩
    refine split_dec (fun c1 => ?_) (fun c1 => ?_)
    · obtain ⟨j, rfl⟩ : ∃ j, k = j + 1 := ⟨k - 1, by omega⟩
      obtain ⟨b, Rb, hb, hRb, dxb, lsb, hob⟩ := W2.get (j := j) (by omega) (by omega)
      rw [if_neg (by omega)] at hob
      have hob2 := Wo.same _ _ (Nw.is hob)
      have hD2 := W2.hD
      have ez : (0 : Int) + ((j + 1 : Nat) : Int) - 1 = (j : Int) := by omega
      have hat : atI (refs as) ((0 : Int) + ((j + 1 : Nat) : Int) - 1) = some (.ref b) := by rw [ez]; exact atI_nat (refs_get hb)
      refine ⟨_, rfl, _, rfl, _, _, rfl, rfl, D, _, _, _, rfl, rfl, SqL.of hD2, hat, ?_⟩
      refine ⟨_, rfl, _, _, _, _, _, rfl, Nw.is hp1, T.c_Rule, T.n_Rule_base, F_Rule_base, _, rfl, _, _, _, _, _, rfl, hob2, T.c_Rule, T.n_Rule_base, F_Rule_base, _, _, rfl, rfl, _, rfl, ?_⟩
      refine split_dec (fun c2 => ?_) (fun c2 => ?_)
      · have c2' : R.base ≤ Rb.base := by have c2 : ((R.base : Nat) : Int) ≤ ((Rb.base : Nat) : Int) := c2; omega
        exact kE (setOk_up hRb hR (by omega)) H2 s3
      · have c2' : ¬ R.base ≤ Rb.base := by have c2 : ¬ ((R.base : Nat) : Int) ≤ ((Rb.base : Nat) : Int) := c2; omega
        refine ⟨_, rfl, _, _, _, _, _, rfl, Nw.is hp1, T.c_Rule, T.n_Rule_base, F_Rule_base, _, _, rfl, rfl, _, rfl, b, A.C_Rule, dxb, _, rfl, hob2, T.c_Rule, T.n_Rule_last, (by show 4 < 1000; decide), ?_⟩
        have ef : putF "last" (V.int (((R.base : Nat) : Int) - 1)) (ruleF Rb Sw64.MOST lsb) = ruleF Rb (R.base - 1) lsb := F_Rule_put_last.trans (by
          have : ((R.base : Nat) : Int) - 1 = ((R.base - 1 : Nat) : Int) := by omega
          rw [this] <;> rfl)
        have hbD : D ≠ b := fun z => by rw [← z, hD2] at hob2; cases hob2
        have kb : H1 b ≠ none := hka b (List.mem_of_getElem? hb)
        have hba : a ≠ b := fun z => f0 (by rw [z]; exact Nw.old hob)
        rw [show putF (Str.ofString "last") (V.int (((R.base : Nat) : Int) - 1)) (ruleF Rb Sw64.MOST lsb) = ruleF Rb (R.base - 1) lsb from ef]
        have hD3 : upd H2 b (.ins A.C_Rule dxb (ruleF Rb (R.base - 1) lsb)) D = some (.lst (refs as)) := (upd_ne hbD).trans hD2
        refine ⟨_, rfl, .inl ⟨rfl, _, SqL.of hD3⟩, _, rfl, D, _, _, rfl, rfl, hD3, (by rw [refs_length, sizeLine_eq]; omega), ?_⟩
        have M := W2.more hD1 dB kb hka hR hb hRb c (by omega) hob hp
        have fD' : H D = none := Same.free s0 fD
        have fb : H b = none := Same.free s0 (Nw.old hob)
        refine ⟨_, _, _, rfl, Same.upd_new (Same.upd_new s3 fb) fD', ?_, ((dB.trans dm2).upd).upd, as ++ [p], M, fun c hc => ?_⟩
        · rw [upd_ne nDa.symm, upd_ne hba, hrow2, erow]
        · rcases List.mem_append.mp hc with hc | hc
          · intro z
            have := dm2 c (by
              by_cases c1 : c = D
              · rw [c1, upd_same] at z; cases z
              · rw [upd_ne c1] at z
                by_cases c3 : c = b
                · rw [c3, upd_same] at z; cases z
                · rwa [upd_ne c3] at z)
            exact hka c hc this
          · rw [List.mem_singleton.mp hc]
            have e1 := Nw.is hp1
            have n1 : p ≠ D := fun z => hD1 (by rw [← z]; exact Nw.old hp1)
            have n2 : p ≠ b := fun z => kb (by rw [← z]; exact Nw.old hp1)
            rw [upd_ne n1, upd_ne n2, e1]; intro z; cases z
    · have hk0 : k = 0 := by omega
      subst hk0
      have has : as = [] := List.length_eq_zero_iff.mp hlen
      subst has
      have hD2 := W2.hD
      refine ⟨_, rfl, .inl ⟨rfl, _, SqL.of hD2⟩, _, rfl, D, _, _, rfl, rfl, hD2, (by rw [sizeLine_eq]; show 0 < _; omega), ?_⟩
      have M := W2.first hD1 dB hR c hp
      have fD' : H D = none := Same.free s0 fD
      refine ⟨_, _, _, rfl, Same.upd_new s3 fD', ?_, (dB.trans dm2).upd, [p], M, fun c hc => ?_⟩
      · rw [upd_ne nDa.symm, hrow2, erow]
      · rw [List.mem_singleton.mp hc]
        have n1 : p ≠ D := fun z => hD1 (by rw [← z]; exact Nw.old hp1)
        rw [upd_ne n1, Nw.is hp1]; intro z; cases z
  · rintro σ H1 ⟨v4, v5, v6, rfl, s2, hrow, dB, as, W, hka⟩
    obtain ⟨g1, g2⟩ := W.done fD h60
    exact ⟨_, rfl, kQ g1 H1 D s2 (g2.mono (Nw.wide (Same.dom s0)))⟩
end
end Sn
/-! numbers said: the program's way by shapes -/
namespace Sn
open Sw64 SpecMath
/-! ### how long a text may be -/
/-- so many rules may take part in saying a number -/
def cap (n : Nat) : Nat := if n = 0 then 1 else Nat.log2 ((n + 1) ^ 4) - 1
theorem log_mul {a b : Nat} (ha : a ≠ 0) (hb : b ≠ 0) : Nat.log2 a + Nat.log2 b ≤ Nat.log2 (a * b) := by
  rw [Nat.le_log2 (Nat.mul_ne_zero ha hb), Nat.pow_add]
  exact Nat.mul_le_mul (Nat.log2_self_le ha) (Nat.log2_self_le hb)
theorem log_le {a b : Nat} (h : a ≤ b) (ha : a ≠ 0) : Nat.log2 a ≤ Nat.log2 b := by
  rw [Nat.le_log2 (by omega)]
  exact Nat.le_trans (Nat.log2_self_le ha) h
theorem cap_pos (n : Nat) : 1 ≤ cap n := by
  unfold cap
  split
  · exact Nat.le_refl _
  · rename_i h
    have h1 : (2 : Nat) ^ 4 ≤ (n + 1) ^ 4 := Nat.pow_le_pow_left (by omega) 4
    have h2 : Nat.log2 ((2 : Nat) ^ 4) ≤ Nat.log2 ((n + 1) ^ 4) := log_le h1 (by decide)
    have h3 : Nat.log2 ((2 : Nat) ^ 4) = 4 := by decide
    omega
theorem cap_sum {q d r : Nat} (hq : 1 ≤ q) (hd : 2 ≤ d) (hr : r < d) : 1 + cap q + cap r ≤ cap (q * d + r) := by
  have hn : q * d + r ≠ 0 := by
    have := Nat.mul_le_mul hq hd
    omega
  have hp : ∀ m : Nat, (m + 1) ^ 4 ≠ 0 := fun m => Nat.ne_of_gt (Nat.pow_pos (by omega))
  have hqd : q * 2 ≤ q * d := Nat.mul_le_mul_left q hd
  have e1 : cap (q * d + r) = Nat.log2 ((q * d + r + 1) ^ 4) - 1 := if_neg hn
  have e2 : cap q = Nat.log2 ((q + 1) ^ 4) - 1 := if_neg (by omega)
  have p2 := cap_pos q
  rw [e2] at p2
  rw [e1, e2]
  by_cases h0 : r = 0
  · subst h0
    have e3 : cap 0 = 1 := rfl
    rw [e3]
    have h4 : 4 * (q + 1) ^ 4 ≤ (q * d + 0 + 1) ^ 4 := by
      refine Nat.le_trans ?_ (Nat.pow_le_pow_left (show 2 * q + 1 ≤ q * d + 0 + 1 by omega) 4)
      have h2 : 2 * ((q + 1) * (q + 1)) ≤ (2 * q + 1) * (2 * q + 1) := by
        obtain ⟨m, rfl⟩ : ∃ m, q = m + 1 := ⟨q - 1, by omega⟩
        have e1 : 2 * ((m + 1 + 1) * (m + 1 + 1)) = 2 * (m * m) + 8 * m + 8 := by
          rw [Nat.add_assoc m 1 1, Nat.mul_add, Nat.add_mul]; omega
        have e2 : (2 * (m + 1) + 1) * (2 * (m + 1) + 1) = 4 * (m * m) + 12 * m + 9 := by
          rw [show 2 * (m + 1) + 1 = 2 * m + 3 by omega, Nat.mul_add, Nat.add_mul, Nat.mul_mul_mul_comm]; omega
        omega
      have p4 : ∀ x : Nat, x ^ 4 = (x * x) * (x * x) := fun x => by simp [Nat.pow_succ, Nat.mul_assoc]
      have := Nat.mul_le_mul h2 h2
      rw [Nat.mul_mul_mul_comm] at this
      rw [p4, p4]
      exact this
    have h5 := log_mul (a := 4) (b := (q + 1) ^ 4) (by decide) (hp q)
    have h6 := log_le h4 (Nat.mul_ne_zero (by decide) (hp q))
    have h7 : Nat.log2 4 = 2 := by decide
    omega
  · have e3 : cap r = Nat.log2 ((r + 1) ^ 4) - 1 := if_neg h0
    have p3 := cap_pos r
    rw [e3] at p3 ⊢
    have h4 : (q + 1) ^ 4 * (r + 1) ^ 4 ≤ (q * d + r + 1) ^ 4 := by
      rw [← Nat.mul_pow]
      refine Nat.pow_le_pow_left ?_ 4
      have : q * (r + 1) ≤ q * d := Nat.mul_le_mul_left q hr
      rw [Nat.add_mul, Nat.mul_add, Nat.one_mul] at *
      omega
    have h5 := log_mul (hp q) (hp r)
    have h6 := log_le h4 (Nat.mul_ne_zero (hp q) (hp r))
    omega
theorem cap_most {n : Nat} (h : n ≤ MOST) : cap n ≤ 200 := by
  unfold cap
  split
  · decide
  · have h1 : (n + 1) ^ 4 ≤ (10 ^ 15 + 1) ^ 4 := Nat.pow_le_pow_left (by have : MOST = 10 ^ 15 := rfl; omega) 4
    have h2 := log_le h1 (Nat.ne_of_gt (Nat.pow_pos (by omega)))
    have h3 : Nat.log2 ((10 ^ 15 + 1) ^ 4) ≤ 200 := by decide
    omega
/-! ### the rule that a number falls to, by its place -/
theorem filter_take {n : Nat} : ∀ {s : RSet}, rising (s.map fun r => r.base) = true → (s.filter fun R => decide (R.base ≤ n)) = s.take (s.filter fun R => decide (R.base ≤ n)).length
  | [], _ => rfl
  | R :: s, h => by
    by_cases c : R.base ≤ n
    · rw [List.filter_cons_of_pos (by simpa using c), List.length_cons, List.take_succ_cons, ← filter_take (rising_tail h)]
    · have : List.filter (fun R => decide (R.base ≤ n)) (R :: s) = [] := by
        rw [List.filter_eq_nil_iff]
        intro x hx
        cases hx with
        | head => simpa using c
        | tail _ hx =>
          have h' : R.base < x.base := rising_lt h x.base (List.mem_map_of_mem hx)
          simp; omega
      rw [this] <;> rfl
theorem ruleFor_idx {s : RSet} {n : Nat} (h : rising (s.map fun r => r.base) = true) : ruleFor s n = if (s.filter fun R => decide (R.base ≤ n)).length = 0 then none else s[(s.filter fun R => decide (R.base ≤ n)).length - 1]? := by
  unfold ruleFor
  have e := filter_take (n := n) h
  split
  · rename_i h0
    rw [List.length_eq_zero_iff.mp h0] <;> rfl
  · rename_i h0
    rw [List.getLast?_eq_getElem?]
    have hl := List.length_filter_le (fun R => decide (R.base ≤ n)) s
    generalize hc : (s.filter fun R => decide (R.base ≤ n)).length = c at *
    rw [e, List.getElem?_take, if_pos (by omega)]
/-! ### shapes -/
/-- what stands behind the first letters -/
def tl (g : Piece → Option Bytes) : List Bytes → List Piece → Option Bytes
  | l :: ls, y :: ys => (g y).bind fun a => (tl g ls ys).map fun b => a ++ (l ++ b)
  | _, _ => some []
def Sh.text (g : Piece → Option Bytes) (s : Sh) : Option Bytes := (tl g s.letters.tail s.sl).map fun b => s.letters.headD [] ++ b
theorem join_append : ∀ (a b : List (Option Bytes)), join (a ++ b) = (join a).bind fun x => (join b).map fun y => x ++ y
  | [], b => by
    rw [List.nil_append]
    cases join b <;> rfl
  | none :: a, b => rfl
  | some x :: a, b => by
    rw [List.cons_append, join, join, join_append a b]
    cases join a with
    | none => rfl
    | some u =>
      cases join b with
      | none => rfl
      | some v => simp
/-- letters are some; the letters of a list of pieces -/
theorem tl_add {g : Piece → Option Bytes} : ∀ (ls : List Bytes) (ys : List Piece) (l : Bytes) (y : Piece), ls.length = ys.length → tl g (ls ++ [l]) (ys ++ [y]) = (tl g ls ys).bind fun a => (g y).map fun b => a ++ (b ++ l)
  | [], [], l, y, _ => by
    cases h : g y with
    | none => simp [tl, h]
    | some b => simp [tl, h]
  | k :: ls, z :: ys, l, y, h => by
    have ih := tl_add (g := g) ls ys l y (by simpa using h)
    rw [List.cons_append, List.cons_append, tl, tl, ih]
    cases g z with
    | none => rfl
    | some a =>
      cases tl g ls ys with
      | none => rfl
      | some b => cases g y <;> simp
  | [], _ :: _, _, _, h => by cases h
  | _ :: _, [], _, _, h => by cases h
theorem tl_last {g : Piece → Option Bytes} : ∀ (ls : List Bytes) (ys : List Piece) (l m : Bytes), ls.length + 1 = ys.length → tl g (ls ++ [l ++ m]) ys = (tl g (ls ++ [l]) ys).map fun a => a ++ m
  | [], [y], l, m, _ => by
    cases h : g y <;> simp [tl, h]
  | k :: ls, z :: ys, l, m, h => by
    have ih := tl_last (g := g) ls ys l m (by simpa using h)
    rw [List.cons_append, List.cons_append, tl, tl, ih]
    cases g z with
    | none => rfl
    | some a => cases tl g (ls ++ [l]) ys <;> simp
  | [], [], _, _, h => by cases h
  | [], _ :: _ :: _, _, _, h => by simp at h
  | _ :: _, [], _, _, h => by cases h
def Sh.ok (s : Sh) : Prop := s.ls.length = s.sl.length
theorem Sh.add_ok {s : Sh} (h : s.ok) (p : Piece) : (s.add p).ok := by
  cases p with
  | text b => exact h
  | times j => show (s.ls ++ [s.lz]).length = (s.sl ++ [_]).length; rw [List.length_append, List.length_append, h]; rfl
  | left j => show (s.ls ++ [s.lz]).length = (s.sl ++ [_]).length; rw [List.length_append, List.length_append, h]; rfl
theorem text_add {g : Piece → Option Bytes} (hg : ∀ b, g (.text b) = some b) {s : Sh} (h : s.ok) (p : Piece) : (s.add p).text g = (s.text g).bind fun a => (g p).map fun b => a ++ b := by
  obtain ⟨q, r, ls, lz, sl⟩ := s
  have h : ls.length = sl.length := h
  cases p with
  | text b =>
    rw [hg]
    cases ls with
    | nil =>
      have : sl = [] := List.length_eq_zero_iff.mp h.symm
      subst this
      simp [Sh.text, Sh.add, Sh.letters, tl]
    | cons l ls =>
      have e := tl_last (g := g) ls sl lz b (by simpa using h)
      simp only [Sh.text, Sh.add, Sh.letters, List.cons_append, List.tail_cons, List.headD_cons, e]
      cases tl g (ls ++ [lz]) sl <;> simp
  | times j =>
    cases ls with
    | nil =>
      have : sl = [] := List.length_eq_zero_iff.mp h.symm
      subst this
      cases hj : g (.times j) <;> simp [Sh.text, Sh.add, Sh.letters, tl, hj]
    | cons l ls =>
      have e := tl_add (g := g) (ls ++ [lz]) sl [] (.times j) (by simpa using h)
      simp only [Sh.text, Sh.add, Sh.letters, List.cons_append, List.tail_cons, List.headD_cons, e]
      cases tl g (ls ++ [lz]) sl with
      | none => rfl
      | some a => cases g (.times j) <;> simp
  | left j =>
    cases ls with
    | nil =>
      have : sl = [] := List.length_eq_zero_iff.mp h.symm
      subst this
      cases hj : g (.left j) <;> simp [Sh.text, Sh.add, Sh.letters, tl, hj]
    | cons l ls =>
      have e := tl_add (g := g) (ls ++ [lz]) sl [] (.left j) (by simpa using h)
      simp only [Sh.text, Sh.add, Sh.letters, List.cons_append, List.tail_cons, List.headD_cons, e]
      cases tl g (ls ++ [lz]) sl with
      | none => rfl
      | some a => cases g (.left j) <;> simp
theorem text_fold {g : Piece → Option Bytes} (hg : ∀ b, g (.text b) = some b) : ∀ (l : List Piece) (s : Sh), s.ok → (l.foldl Sh.add s).ok ∧ (l.foldl Sh.add s).text g = (s.text g).bind fun a => (join (l.map g)).map fun b => a ++ b
  | [], s, h => ⟨h, by
    show s.text g = _
    cases s.text g with
    | none => rfl
    | some a => simp [join]⟩
  | p :: l, s, h => by
    obtain ⟨h1, h2⟩ := text_fold hg l (s.add p) (Sh.add_ok h p)
    refine ⟨h1, ?_⟩
    rw [List.foldl_cons, h2, text_add hg h p, List.map_cons]
    cases s.text g with
    | none => rfl
    | some a =>
      cases hp : g p with
      | none => simp [join]
      | some b => cases hj : join (l.map g) <;> simp [join, hj]
theorem shOf_ok (ps : List Pc) (q r : Nat × Nat) : (shOf ps q r).ok := (text_fold (g := fun y => some (plet y)) (fun _ => rfl) _ (Sh.new q r) rfl).1
theorem shOf_text {g : Piece → Option Bytes} (hg : ∀ b, g (.text b) = some b) (ps : List Pc) (q r : Nat × Nat) : (shOf ps q r).text g = join ((stand ps q.1 r.1).map g) := by
  have := (text_fold hg (stand ps q.1 r.1) (Sh.new q r) rfl).2
  unfold shOf
  rw [this]
  cases join ((stand ps q.1 r.1).map g) <;> rfl
end Sn
/-! numbers said, by shapes: it is what the specification says -/
namespace Sn
open Sw64 SpecMath
theorem any_times (ps : List Pc) : (ps.any fun x => decide (pk x.2 = 1)) = ps.any fun x => isTimes x.2 := by
  congr 1; funext x; cases x.2 <;> rfl
def inRun (q : Nat) (u : Nat × Nat) : Bool := decide (u.1 ≤ q ∧ q ≤ u.2)
theorem find_prod {f : Nat × Nat → Nat × Nat → Sh} (hf : ∀ q r, (f q r).q = q ∧ (f q r).r = r) {q r : Nat} (rs : List (Nat × Nat)) : ∀ qs : List (Nat × Nat),
    (qs.flatMap fun u => rs.map (f u)).find? (fun s => s.fits q r) = (qs.find? (inRun q)).bind fun u => (rs.find? (inRun r)).map (f u)
  | [] => rfl
  | u :: qs => by
    have ih := find_prod hf rs qs (q := q) (r := r)
    have e1 : (rs.map (f u)).find? (fun s => s.fits q r) = if inRun q u = true then (rs.find? (inRun r)).map (f u) else none := by
      rw [List.find?_map]
      have e : (fun s => Sh.fits s q r) ∘ f u = fun v => inRun q u && inRun r v := by
        funext v
        show Sh.fits (f u v) q r = _
        unfold Sh.fits inRun
        rw [(hf u v).1, (hf u v).2]
      rw [e]
      by_cases c : inRun q u = true
      · rw [if_pos c]
        congr 2
        funext v
        rw [c, Bool.true_and]
      · rw [if_neg c]
        have : (fun v => inRun q u && inRun r v) = fun _ => false := by funext v; rw [Bool.eq_false_iff.mpr c, Bool.false_and]
        rw [this, List.find?_eq_none.mpr (by simp)] <;> rfl
    rw [List.flatMap_cons, List.find?_append, e1, ih]
    by_cases c : inRun q u = true
    · rw [if_pos c, List.find?_cons, c]
      cases hr : rs.find? (inRun r) with
      | none => cases qs.find? (inRun q) <;> rfl
      | some v => rfl
    · rw [if_neg c, List.find?_cons, Bool.eq_false_iff.mpr c] <;> rfl
theorem qruns_find {ps : List Pc} {q : Nat} (h1 : 1 ≤ q) (h2 : q ≤ MOST) :
    (q ≠ 1 ∧ (ps.any fun x => isTimes x.2) = false ∧ (qruns ps).find? (inRun q) = none) ∨
    ((q = 1 ∨ (ps.any fun x => isTimes x.2) = true) ∧ ∃ u, (qruns ps).find? (inRun q) = some u ∧ ∀ x ∈ ps, ∀ r, stands q r x.1 = stands u.1 r x.1) := by
  unfold qruns
  rw [any_times]
  have r1 : inRun q (1, 1) = decide (q = 1) := by unfold inRun; apply decide_eq_decide.mpr; simp; omega
  cases c : ps.any fun x => isTimes x.2 with
  | false =>
    rw [if_pos rfl]
    by_cases e : q = 1
    · refine .inr ⟨.inl e, (1, 1), ?_, fun x _ r => by rw [e]⟩
      rw [List.find?_cons, r1, decide_eq_true e]
    · refine .inl ⟨e, rfl, ?_⟩
      rw [List.find?_cons, r1, decide_eq_false e] <;> rfl
  | true =>
    rw [if_neg (by decide)]
    refine .inr ⟨.inr rfl, ?_⟩
    cases d : ps.any fun x => decide (wc x.1 = 3) || decide (wc x.1 = 4) with
    | true =>
      rw [if_pos rfl]
      by_cases e : q = 1
      · refine ⟨(1, 1), ?_, fun x _ r => by rw [e]⟩
        rw [List.find?_cons, r1, decide_eq_true e]
      · refine ⟨(2, MOST), ?_, fun x _ r => ?_⟩
        · rw [List.find?_cons, r1, decide_eq_false e]
          show List.find? (inRun q) [(2, MOST)] = _
          rw [List.find?_cons, show inRun q (2, MOST) = true from decide_eq_true (show 2 ≤ q ∧ q ≤ MOST by omega)]
        · cases x.1 <;> simp [stands] <;> omega
    | false =>
      rw [if_neg (by decide)]
      refine ⟨(1, MOST), ?_, fun x hx r => ?_⟩
      · rw [List.find?_cons, show inRun q (1, MOST) = true from decide_eq_true (show 1 ≤ q ∧ q ≤ MOST by omega)]
      · have := List.any_eq_false.mp d x hx
        cases hw : x.1 <;> rw [hw] at this <;> simp [wc] at this <;> rfl
theorem rruns_find {ps : List Pc} {r : Nat} (h2 : r ≤ MOST) : ∃ u, (rruns ps).find? (inRun r) = some u ∧ ∀ x ∈ ps, ∀ q, stands q r x.1 = stands q u.1 x.1 := by
  unfold rruns
  have r1 : inRun r (0, 0) = decide (r = 0) := by unfold inRun; apply decide_eq_decide.mpr; simp
  cases d : ps.any fun x => decide (wc x.1 = 1) || decide (wc x.1 = 2) with
  | true =>
    rw [if_pos rfl]
    by_cases e : r = 0
    · refine ⟨(0, 0), ?_, fun x _ q => by rw [e]⟩
      rw [List.find?_cons, r1, decide_eq_true e]
    · refine ⟨(1, MOST), ?_, fun x _ q => ?_⟩
      · rw [List.find?_cons, r1, decide_eq_false e]
        show List.find? (inRun r) [(1, MOST)] = _
        rw [List.find?_cons, show inRun r (1, MOST) = true from decide_eq_true (show 1 ≤ r ∧ r ≤ MOST by omega)]
      · cases x.1 <;> simp [stands] <;> omega
  | false =>
    rw [if_neg (by decide)]
    refine ⟨(0, MOST), ?_, fun x hx q => ?_⟩
    · rw [List.find?_cons, show inRun r (0, MOST) = true from decide_eq_true (show 0 ≤ r ∧ r ≤ MOST by omega)]
    · have := List.any_eq_false.mp d x hx
      cases hw : x.1 <;> rw [hw] at this <;> simp [wc] at this <;> rfl
theorem stand_congr {ps : List Pc} {q r q' r' : Nat} (h : ∀ x ∈ ps, stands q r x.1 = stands q' r' x.1) : stand ps q r = stand ps q' r' := by
  unfold stand
  congr 1
  exact List.filter_congr h
theorem fold_qr : ∀ (l : List Piece) (s : Sh), (l.foldl Sh.add s).q = s.q ∧ (l.foldl Sh.add s).r = s.r
  | [], _ => ⟨rfl, rfl⟩
  | p :: l, s => by
    have := fold_qr l (s.add p)
    have e : (s.add p).q = s.q ∧ (s.add p).r = s.r := by cases p <;> exact ⟨rfl, rfl⟩
    exact ⟨this.1.trans e.1, this.2.trans e.2⟩
/-- a number that falls to a rule with a divisor -/
theorem said_shape {S : Sets} (G : Good S) {k n : Nat} {R : Rule} (hn : n ≤ MOST) (hR : ruleFor (S.getD k []) n = some R) (h0 : R.by_ ≠ 0) :
    said S k n = ((shapesOf R.pieces).find? fun s => s.fits (n / R.by_) (n % R.by_)).bind fun s => s.text (sayP (said S) (n / R.by_) (n % R.by_)) := by
  obtain ⟨hm, hb⟩ := ruleFor_mem hR
  obtain ⟨h2, h3, _⟩ := rule_by (G.rule hm) h0
  rw [said_body G (Nat.lt_of_le_of_lt hn (by decide))]
  unfold body
  rw [hR, Option.bind_some, if_neg h0]
  have hq1 : 1 ≤ n / R.by_ := (Nat.le_div_iff_mul_le (by omega)).mpr (by omega)
  have hq2 : n / R.by_ ≤ MOST := Nat.le_trans (Nat.div_le_self _ _) hn
  have hr2 : n % R.by_ ≤ MOST := Nat.le_trans (Nat.mod_le _ _) hn
  generalize n / R.by_ = q at *
  generalize n % R.by_ = r at *
  have hf : (shapesOf R.pieces).find? (fun s => s.fits q r) = ((qruns R.pieces).find? (inRun q)).bind fun u => ((rruns R.pieces).find? (inRun r)).map (shOf R.pieces u) :=
    find_prod (fun u v => fold_qr _ _) _ _
  rw [hf]
  obtain ⟨v, hv1, hv2⟩ := rruns_find (ps := R.pieces) hr2
  rcases qruns_find (ps := R.pieces) hq1 hq2 with ⟨c1, c2, c3⟩ | ⟨c1, u, hu1, hu2⟩
  · rw [if_pos ⟨c1, c2⟩, c3] <;> rfl
  · rw [if_neg (fun z => by rcases c1 with e | e; exact z.1 e; rw [z.2] at e; cases e), hu1, hv1]
    show _ = (shOf R.pieces u v).text _
    rw [shOf_text (fun _ => rfl)]
    rw [stand_congr (q := u.1) (r := v.1) (q' := q) (r' := r) fun x hx => by rw [← hu2 x hx, ← hv2 x hx]] <;> rfl
theorem join_texts : ∀ (ps : List Pc), (∀ x ∈ ps, isText x.2 = true) → join (ps.map fun x => match x.2 with | .text b => some b | _ => none) = some (ps.flatMap fun x => plet x.2)
  | [], _ => rfl
  | x :: ps, h => by
    have h1 := h x List.mem_cons_self
    cases hx : x.2 with
    | text b =>
      rw [List.map_cons, hx]
      show (join _).map _ = _
      rw [join_texts ps fun y hy => h y (List.mem_cons_of_mem _ hy), List.flatMap_cons, hx]
      rfl
    | times _ => rw [hx] at h1; cases h1
    | left _ => rw [hx] at h1; cases h1
/-- a rule that says its base alone has one shape, of letters -/
theorem base_shape {R : Rule} (h : ruleOk R = true) (h0 : R.by_ = 0) : ∃ s, shapesOf R.pieces = [s] ∧ s.letters = [R.pieces.flatMap fun x => plet x.2] ∧ ∀ x ∈ R.pieces, isText x.2 = true := by
  have hp : ∀ x ∈ R.pieces, isText x.2 = true ∧ x.1 = .always := by
    simp only [ruleOk, Bool.and_eq_true, if_pos h0, List.all_eq_true] at h
    intro x hx
    have := h.2.2.2 x hx
    simpa using this
  have e1 : (R.pieces.any fun x => decide (pk x.2 = 1)) = false := by
    rw [any_times, List.any_eq_false]
    intro x hx
    have := (hp x hx).1
    cases hy : x.2 <;> rw [hy] at this <;> simp [isText, isTimes] at *
  have e2 : (R.pieces.any fun x => decide (wc x.1 = 1) || decide (wc x.1 = 2)) = false := by
    rw [List.any_eq_false]
    intro x hx
    rw [(hp x hx).2]; decide
  have eq : qruns R.pieces = [(1, 1)] := by unfold qruns; rw [if_pos e1]
  have er : rruns R.pieces = [(0, MOST)] := by unfold rruns; rw [e2, if_neg (by decide)]
  have es : stand R.pieces 1 0 = R.pieces.map fun x => x.2 := by
    unfold stand
    rw [List.filter_eq_self.mpr fun x hx => by rw [(hp x hx).2]; rfl]
  have fold : ∀ (ps : List Pc) (s : Sh), (∀ x ∈ ps, isText x.2 = true) → (ps.map fun x => x.2).foldl Sh.add s = { s with lz := s.lz ++ ps.flatMap fun x => plet x.2 } := by
    intro ps
    induction ps with
    | nil => intro s _; simp
    | cons x ps ih =>
      intro s hs
      have h1 := hs x List.mem_cons_self
      cases hx : x.2 with
      | text b =>
        rw [List.map_cons, List.foldl_cons, hx, ih _ fun y hy => hs y (List.mem_cons_of_mem _ hy), List.flatMap_cons, hx]
        simp [Sh.add, plet]
      | times _ => rw [hx] at h1; cases h1
      | left _ => rw [hx] at h1; cases h1
  refine ⟨shOf R.pieces (1, 1) (0, MOST), by unfold shapesOf; rw [eq, er]; rfl, ?_, fun x hx => (hp x hx).1⟩
  unfold shOf
  rw [es, fold _ _ fun x hx => (hp x hx).1]
  simp [Sh.letters, Sh.new]
theorem said_base {S : Sets} (G : Good S) {k n : Nat} {R : Rule} (hn : n ≤ MOST) (hR : ruleFor (S.getD k []) n = some R) (h0 : R.by_ = 0) :
    said S k n = if n = R.base then some (R.pieces.flatMap fun x => plet x.2) else none := by
  obtain ⟨hm, hb⟩ := ruleFor_mem hR
  obtain ⟨s, _, _, ht⟩ := base_shape (G.rule hm) h0
  rw [said_body G (Nat.lt_of_le_of_lt hn (by decide))]
  unfold body
  rw [hR, Option.bind_some, if_pos h0]
  by_cases c : n = R.base
  · rw [if_pos c, if_pos c]; exact join_texts _ ht
  · rw [if_neg c, if_neg c]
theorem said_none {S : Sets} (G : Good S) {k n : Nat} (hn : n ≤ MOST) (hR : ruleFor (S.getD k []) n = none) : said S k n = none := by
  rw [said_body G (Nat.lt_of_le_of_lt hn (by decide))]
  unfold body
  rw [hR] <;> rfl
/-! ### lengths -/
theorem join_len {f : Piece → Option Bytes} {lq lr : Nat} (ht : ∀ b, f (.text b) = some b) (hq : ∀ j b, f (.times j) = some b → b.length ≤ lq) (hr : ∀ j b, f (.left j) = some b → b.length ≤ lr) :
    ∀ (l : List Piece) (b : Bytes), join (l.map f) = some b → b.length ≤ letters l + (l.filter isTimes).length * lq + (l.filter isLeft).length * lr
  | [], b, h => by
    have : [] = b := by simpa [join] using h
    subst this; exact Nat.zero_le _
  | y :: l, b, h => by
    rw [List.map_cons] at h
    cases hy : f y with
    | none => rw [hy] at h; cases h
    | some a =>
      rw [hy, join, Option.map_eq_some_iff] at h
      obtain ⟨c, h1, rfl⟩ := h
      have ih := join_len ht hq hr l c h1
      rw [List.length_append]
      cases y with
      | text t =>
        rw [ht] at hy; cases hy
        simp only [letters, List.filter_cons, isTimes, isLeft]
        simp only [Bool.false_eq_true, if_false]
        omega
      | times j =>
        have := hq j a hy
        simp only [letters, List.filter_cons, isTimes, isLeft]
        simp only [Bool.false_eq_true, if_false, if_true, List.length_cons, Nat.add_mul, Nat.one_mul]
        omega
      | left j =>
        have := hr j a hy
        simp only [letters, List.filter_cons, isTimes, isLeft]
        simp only [Bool.false_eq_true, if_false, if_true, List.length_cons, Nat.add_mul, Nat.one_mul]
        omega
theorem letters_le40 : ∀ (l : List Piece), (∀ y ∈ l, (plet y).length ≤ 40) → letters l ≤ 40 * l.length
  | [], _ => Nat.le_refl _
  | y :: l, h => by
    have ih := letters_le40 l fun z hz => h z (List.mem_cons_of_mem _ hz)
    have h1 := h y List.mem_cons_self
    cases y with
    | text t => simp only [letters, List.length_cons]; simp only [plet] at h1; omega
    | times j => simp only [letters, List.length_cons]; omega
    | left j => simp only [letters, List.length_cons]; omega
theorem rule_short {R : Rule} (h : ruleOk R = true) : ∀ x ∈ R.pieces, (plet x.2).length ≤ 40 := fun x hx => by
  have := (rule_pieces h).2 x hx
  unfold pieceOk at this
  cases hy : x.2 with
  | text t => rw [hy] at this; exact of_decide_eq_true this
  | times _ => exact Nat.zero_le _
  | left _ => exact Nat.zero_le _
theorem stand_sub {R : Rule} (q r : Nat) : ∀ y ∈ stand R.pieces q r, ∃ x ∈ R.pieces, x.2 = y := fun y hy => by
  unfold stand at hy
  obtain ⟨x, hx, e⟩ := List.mem_map.mp hy
  exact ⟨x, (List.mem_filter.mp hx).1, e⟩
theorem stand_letters {R : Rule} (h : ruleOk R = true) (q r : Nat) : letters (stand R.pieces q r) ≤ 320 := by
  have h1 := letters_le40 (stand R.pieces q r) fun y hy => by
    obtain ⟨x, hx, e⟩ := stand_sub q r y hy
    rw [← e]; exact rule_short h x hx
  have h2 : (stand R.pieces q r).length ≤ R.pieces.length := by unfold stand; rw [List.length_map]; exact List.length_filter_le _ _
  have h3 := (rule_pieces h).1
  omega
theorem filt_map_le (p : Piece → Bool) : ∀ (ps : List Pc) (g : Pc → Bool), (((ps.filter g).map fun x => x.2).filter p).length ≤ (ps.filter fun x => p x.2).length
  | [], _ => Nat.le_refl _
  | x :: ps, g => by
    have ih := filt_map_le p ps g
    by_cases c : g x = true
    · rw [List.filter_cons_of_pos c, List.map_cons]
      by_cases d : p x.2 = true
      · rw [List.filter_cons_of_pos d, List.filter_cons_of_pos (by exact d), List.length_cons, List.length_cons]; omega
      · rw [List.filter_cons_of_neg d, List.filter_cons_of_neg (by exact d)]; exact ih
    · rw [List.filter_cons_of_neg c]
      by_cases d : p x.2 = true
      · rw [List.filter_cons_of_pos (by exact d), List.length_cons]; omega
      · rw [List.filter_cons_of_neg (by exact d)]; exact ih
theorem said_len {S : Sets} (G : Good S) : ∀ (f k n : Nat) (b : Bytes), n < 2 ^ f → n ≤ MOST → said S k n = some b → b.length ≤ 320 * cap n
  | 0, k, n, b, hf, hn, h => by
    have hc := cap_pos n
    rw [said_body G (Nat.lt_of_le_of_lt hn (by decide))] at h
    unfold body at h
    cases e : ruleFor (S.getD k []) n with
    | none => rw [e] at h; cases h
    | some R =>
      rw [e, Option.bind_some] at h
      obtain ⟨hm, hb⟩ := ruleFor_mem e
      by_cases h0 : R.by_ = 0
      · obtain ⟨s, _, _, ht⟩ := base_shape (G.rule hm) h0
        rw [if_pos h0] at h
        split at h
        · have h' := (join_texts R.pieces ht).symm.trans (by exact h)
          have hb' := Option.some.inj h'
          have h1 : (R.pieces.flatMap fun x => plet x.2).length ≤ 40 * R.pieces.length := by
            have := rule_short (G.rule hm)
            generalize R.pieces = ps at this
            induction ps with
            | nil => exact Nat.le_refl _
            | cons x ps ih =>
              rw [List.flatMap_cons, List.length_append, List.length_cons]
              have a1 := this x List.mem_cons_self
              have a2 := ih fun y hy => this y (List.mem_cons_of_mem _ hy)
              omega
          have h3 := (rule_pieces (G.rule hm)).1
          rw [← hb']
          exact Nat.le_trans h1 (by omega)
        · cases h
      · obtain ⟨h2, h3, _⟩ := rule_by (G.rule hm) h0
        simp at hf; omega
  | f + 1, k, n, b, hf, hn, h => by
    have hc := cap_pos n
    rw [said_body G (Nat.lt_of_le_of_lt hn (by decide))] at h
    unfold body at h
    cases e : ruleFor (S.getD k []) n with
    | none => rw [e] at h; cases h
    | some R =>
      rw [e, Option.bind_some] at h
      obtain ⟨hm, hb⟩ := ruleFor_mem e
      by_cases h0 : R.by_ = 0
      · obtain ⟨s, _, _, ht⟩ := base_shape (G.rule hm) h0
        rw [if_pos h0] at h
        split at h
        · have h' := (join_texts R.pieces ht).symm.trans (by exact h)
          have hb' := Option.some.inj h'
          have h1 : (R.pieces.flatMap fun x => plet x.2).length ≤ 40 * R.pieces.length := by
            have := rule_short (G.rule hm)
            generalize R.pieces = ps at this
            induction ps with
            | nil => exact Nat.le_refl _
            | cons x ps ih =>
              rw [List.flatMap_cons, List.length_append, List.length_cons]
              have a1 := this x List.mem_cons_self
              have a2 := ih fun y hy => this y (List.mem_cons_of_mem _ hy)
              omega
          have h3 := (rule_pieces (G.rule hm)).1
          rw [← hb']
          exact Nat.le_trans h1 (by omega)
        · cases h
      · obtain ⟨h2, h3, _, h4, h5⟩ := rule_by (G.rule hm) h0
        rw [if_neg h0] at h
        split at h
        · cases h
        · have hq1 : 1 ≤ n / R.by_ := (Nat.le_div_iff_mul_le (by omega)).mpr (by omega)
          obtain ⟨p1, p2⟩ := part_lt h2 (by omega) hf
          have hl : b.length ≤ letters (stand R.pieces (n / R.by_) (n % R.by_)) + ((stand R.pieces (n / R.by_) (n % R.by_)).filter isTimes).length * (320 * cap (n / R.by_)) + ((stand R.pieces (n / R.by_) (n % R.by_)).filter isLeft).length * (320 * cap (n % R.by_)) := join_len (f := sayP (said S) (n / R.by_) (n % R.by_)) (lq := 320 * cap (n / R.by_)) (lr := 320 * cap (n % R.by_)) (fun _ => rfl)
            (fun j c hj => said_len G f j _ c p1 (Nat.le_trans (Nat.div_le_self _ _) hn) hj) (fun j c hj => said_len G f j _ c p2 (Nat.le_trans (Nat.mod_le _ _) hn) hj) _ b h
          have a1 := stand_letters (G.rule hm) (n / R.by_) (n % R.by_)
          have a2 : ((stand R.pieces (n / R.by_) (n % R.by_)).filter isTimes).length ≤ _ := filt_map_le isTimes R.pieces fun x => stands (n / R.by_) (n % R.by_) x.1
          have a3 : ((stand R.pieces (n / R.by_) (n % R.by_)).filter isLeft).length ≤ _ := filt_map_le isLeft R.pieces fun x => stands (n / R.by_) (n % R.by_) x.1
          have a4 := cap_sum hq1 h2 (Nat.mod_lt n (show 0 < R.by_ by omega))
          rw [Nat.mul_comm (n / R.by_), Nat.div_add_mod] at a4
          have a5 := Nat.mul_le_mul_right (320 * cap (n / R.by_)) (Nat.le_trans a2 h4)
          have a6 := Nat.mul_le_mul_right (320 * cap (n % R.by_)) (Nat.le_trans a3 (Nat.le_of_eq h5))
          refine Nat.le_trans hl ?_
          omega
/-! ### what a rule's shapes have -/
theorem fold_facts : ∀ (l : List Piece) (s : Sh), (l.foldl Sh.add s).sl = s.sl ++ l.filter (fun y => !isText y) ∧ (l.foldl Sh.add s).letters.flatten.length = s.letters.flatten.length + letters l
  | [], s => by simp [letters]
  | y :: l, s => by
    obtain ⟨h1, h2⟩ := fold_facts l (s.add y)
    rw [List.foldl_cons, h1, h2]
    cases y with
    | text b => simp [Sh.add, Sh.letters, isText, letters]; omega
    | times j => simp [Sh.add, Sh.letters, isText, letters]
    | left j => simp [Sh.add, Sh.letters, isText, letters]
structure ShFacts (s : Sh) : Prop where
  ok : s.ok
  len : s.letters.flatten.length ≤ 320
  t1 : (s.sl.filter isTimes).length ≤ 1
  l1 : (s.sl.filter isLeft).length ≤ 1
  nt : ∀ y ∈ s.sl, isText y = false
  by8 : ∀ y ∈ s.sl, pby y < 8
theorem filter_filter_le {p q : Piece → Bool} : ∀ l : List Piece, ((l.filter q).filter p).length ≤ (l.filter p).length
  | [] => Nat.le_refl _
  | y :: l => by
    have ih := filter_filter_le (p := p) (q := q) l
    by_cases c : q y = true
    · rw [List.filter_cons_of_pos c]
      by_cases d : p y = true
      · rw [List.filter_cons_of_pos d, List.filter_cons_of_pos d, List.length_cons, List.length_cons]; omega
      · rw [List.filter_cons_of_neg d, List.filter_cons_of_neg d]; exact ih
    · rw [List.filter_cons_of_neg c]
      by_cases d : p y = true
      · rw [List.filter_cons_of_pos d, List.length_cons]; omega
      · rw [List.filter_cons_of_neg d]; exact ih
theorem shOf_facts {R : Rule} (h : ruleOk R = true) (h0 : R.by_ ≠ 0) (q r : Nat × Nat) : ShFacts (shOf R.pieces q r) := by
  obtain ⟨f1, f2⟩ := fold_facts (stand R.pieces q.1 r.1) (Sh.new q r)
  obtain ⟨_, _, _, h4, h5⟩ := rule_by h h0
  have a1 := stand_letters h q.1 r.1
  have a2 : ((stand R.pieces q.1 r.1).filter isTimes).length ≤ _ := filt_map_le isTimes R.pieces fun x => stands q.1 r.1 x.1
  have a3 : ((stand R.pieces q.1 r.1).filter isLeft).length ≤ _ := filt_map_le isLeft R.pieces fun x => stands q.1 r.1 x.1
  have e0 : (shOf R.pieces q r).sl = (stand R.pieces q.1 r.1).filter (fun y => !isText y) := f1
  refine ⟨shOf_ok _ _ _, ?_, ?_, ?_, fun y hy => ?_, fun y hy => ?_⟩
  · have : (Sh.new q r).letters.flatten.length = 0 := rfl
    unfold shOf; rw [f2, this]; omega
  · rw [e0]; exact Nat.le_trans (filter_filter_le _) (Nat.le_trans a2 h4)
  · rw [e0]; exact Nat.le_trans (filter_filter_le _) (Nat.le_trans a3 (Nat.le_of_eq h5))
  · rw [e0] at hy
    have := (List.mem_filter.mp hy).2
    simpa using this
  · rw [e0] at hy
    obtain ⟨x, hx, rfl⟩ := stand_sub q.1 r.1 y (List.mem_filter.mp hy).1
    have := (rule_pieces h).2 x hx
    unfold pieceOk at this
    cases hy2 : x.2 with
    | text t => exact Nat.zero_lt_succ _
    | times j => rw [hy2] at this; simp at this; exact this.1
    | left j => rw [hy2] at this; simp at this; exact this.1
theorem shape_facts {R : Rule} (h : ruleOk R = true) (h0 : R.by_ ≠ 0) {s : Sh} (hs : s ∈ shapesOf R.pieces) : ShFacts s := by
  unfold shapesOf at hs
  obtain ⟨q, _, hs⟩ := List.mem_flatMap.mp hs
  obtain ⟨r, _, rfl⟩ := List.mem_map.mp hs
  exact shOf_facts h h0 q r
end Sn
/-! numbers said -/
namespace Sn
open PySem PySem.Spec PyProof.Rows L2
section
variable {P : Program} {w : World} {K : PySem.W.Frag} {mg : Str → Option Value} {base : Heap} {A : Ad}
def spRuleFor (A : Ad) : Sp := fun vs H Q E => ∃ (F : Hp) (l : Addr) (s : Sw64.RSet) (n : Nat), vs = [.ref l, .int (n : Int)] ∧ Same F H ∧ SetAt A F l s ∧ Sw64.rising (s.map fun r => r.base) = true ∧ s.length ≤ 1000 ∧
  (Sw64.ruleFor s n = none → E (.ref A.C_NotSaid) none H) ∧ (∀ R a, Sw64.ruleFor s n = some R → RuleAt A F a (R, Sw64.upTo s R) → Q (.ref a) H)
theorem ok_rule_for (T : Top K mg A) : FnOk P w K mg base (L2.CX P w) 2 A.f_rule_for A.d_rule_for P_rule_for (spRuleFor A) := by
  refine T.F_rule_for.okX sc_rule_for (fun vs H Q E h => ?_) (fun cdv _ outer s H vs Q E hr h => ⟨_, (pss_cons (ps_set (i := 2) sc_rule_for.nd rfl (Or.inl rfl) (pe_call (ok_rules_up_to T) (hr.mono (by omega)) (by rfl) T.g_rules_up_to T.F_rules_up_to.kp (b_rules_up_to T) .nil pass0 (pa_cons (pv 0) (pa_cons (pv 1) pa_nil))))
    (pss_cons (ps_if (pt_cmpR op_eq (pv 2) pe_int (nomark _))
    (pss_one (ps_raise rfl (takes_of rfl rfl rfl rfl) (pmk_own0 PySem.F.excBase_Exception T.x_NotSaid T.g_NotSaid T.kp_NotSaid (raises_own T.b_NotSaid T.t_NotSaid) (by exact rfl))))
    pss_nil)
    (pss_one (ps_ret (pe_ix ix_list (pv 0) (pe_op op_sub (pv 2) pe_int) (fun _ _ => rfl)))))), ?_⟩)
  · obtain ⟨_, _, _, _, rfl, _⟩ := h
    rfl
  obtain ⟨F, l, s, n, rfl, sF, hS, hri, hz, kE, kQ⟩ := h
  refine ⟨_, rfl, _, rfl, l, s, n, rfl, hS.mono sF, hri, hz, ?_⟩
  have hidx := ruleFor_idx (n := n) hri
  have hle : upCnt s n ≤ s.length := List.length_filter_le _ _
  refine ⟨_, rfl, rfl, _, rfl, ?_⟩
  refine split_dec (fun c => ?_) (fun c => ?_)
  · have c' : upCnt s n = 0 := by injection c with c; omega
    exact kE (hidx.trans (if_pos c'))
  · have c' : ¬ upCnt s n = 0 := fun z => c (by rw [z] <;> rfl)
    obtain ⟨as, hl, h2⟩ := hS
    obtain ⟨a, R, ha, hR, hRa⟩ := set_get h2 (i := upCnt s n - 1) (by omega)
    have ez : ((upCnt s n : Nat) : Int) - 1 = ((upCnt s n - 1 : Nat) : Int) := by omega
    refine ⟨_, rfl, _, rfl, _, _, rfl, rfl, l, _, _, _, rfl, rfl, SqL.of (sF _ _ hl), (by rw [ez]; exact atI_nat (refs_get ha)), ?_⟩
    exact kQ R a ((hidx.trans (if_neg c')).trans hR) hRa
def spShapeFor (A : Ad) : Sp := fun vs H Q E => ∃ (F : Hp) (a : Addr) (x : Sw64.Rule × Nat) (q r : Nat), vs = [.ref a, .int (q : Int), .int (r : Int)] ∧ Same F H ∧ RuleAt A F a x ∧
  (((shapesOf x.1.pieces).find? fun s => s.fits q r) = none → E (.ref A.C_NotSaid) none H) ∧ (∀ s b, ((shapesOf x.1.pieces).find? fun s => s.fits q r) = some s → ShapeAt A F b s → Q (.ref b) H)
theorem ok_shape_for (T : Top K mg A) : FnOk P w K mg base (L2.CX P w) 2 A.f_shape_for A.d_shape_for P_shape_for (spShapeFor A) := by
  refine T.F_shape_for.okX sc_shape_for (fun vs H Q E h => ?_) (fun cdv _ outer s H vs Q E hr h => ⟨_, (pss_cons (ps_for (passes_of rfl) rfl (pi_list (pe_fld (pv 0) rfl)) (pg_name (i := 3) sc_shape_for.nd rfl (Or.inl rfl))
    (pss_one (ps_if (pt_val (pe_meth (pv 3) T.c_Shape T.M_Shape_fits (ok_Shape_fits T) (hr.mono (by omega)) (b_Shape_fits T) .nil pass0 (pa_cons (pv 1) (pa_cons (pv 2) pa_nil))))
    (pss_one (ps_ret (pv 3)))
    pss_nil)))
    (pss_one (ps_raise rfl (takes_of rfl rfl rfl rfl) (pmk_own0 PySem.F.excBase_Exception T.x_NotSaid T.g_NotSaid T.kp_NotSaid (raises_own T.b_NotSaid T.t_NotSaid) (by exact rfl))))), ?_⟩)
  · obtain ⟨_, _, _, _, _, rfl, _⟩ := h
    rfl
  obtain ⟨F, a, x, q, r, rfl, sF, ⟨dx, ls, ha, as, hl, h2⟩, kE, kQ⟩ := h
  have ha' := sF _ _ ha
  refine ⟨_, rfl, _, _, _, _, _, rfl, ha', T.c_Rule, T.n_Rule_shapes, F_Rule_shapes, ls, rfl, ⟨_, SqL.of (sF _ _ hl)⟩, for_list (K := K) (a := ls) (xs := refs as)
    (fun i σ H' => H' = H ∧ (∃ v, σ = [some (.ref a), some (.int (q : Int)), some (.int (r : Int)), v]) ∧ ((shapesOf x.1.pieces).take i).find? (fun s => s.fits q r) = none) ⟨rfl, ⟨none, rfl⟩, rfl⟩ ?_ ?_ ?_⟩
  · rintro i σ H' _ ⟨rfl, _⟩
    exact SqL.of (sF _ _ hl)
  · rintro i y σ H' hi ⟨rfl, ⟨v, rfl⟩, hf⟩
    obtain ⟨b, s, rfl, hs, hb⟩ := objs_get h2 hi
    obtain ⟨dxs, t1, t2, ll, sl, las, pas, hsa, _⟩ := hb.ex
    have hsa' := sF _ _ hsa
    refine ⟨_, rfl, _, _, _, rfl, hsa', F_Shape_no_fits, _, rfl, _, rfl, b, s, q, r, rfl, hb.mono sF, _, rfl, ?_⟩
    have hsplit : shapesOf x.1.pieces = (shapesOf x.1.pieces).take i ++ s :: (shapesOf x.1.pieces).drop (i + 1) := by
      obtain ⟨h3, h4⟩ := List.getElem?_eq_some_iff.mp hs
      rw [← h4, List.getElem_cons_drop, List.take_append_drop]
    by_cases c : s.fits q r = true
    · refine if_true_of c ?_
      refine ⟨_, rfl, kQ s b ?_ hb⟩
      rw [hsplit, List.find?_append, hf, List.find?_cons, c] <;> rfl
    · refine if_false_of (Bool.eq_false_iff.mpr c) ?_
      refine ⟨rfl, ⟨_, rfl⟩, ?_⟩
      rw [take_more hs, List.find?_append, hf, List.find?_cons, Bool.eq_false_iff.mpr c] <;> rfl
  · rintro σ H' ⟨rfl, ⟨v, rfl⟩, hf⟩
    rw [refs_length, h2.length, List.take_length] at hf
    exact kE hf
end
end Sn
/-! numbers said: the def that calls itself -/
namespace Sn
open PySem PySem.Spec PyProof.Rows L2
open SpecMath (Good sayP)
/-! ### the slots one after another -/
theorem tl_step {g : Sw64.Piece → Option Sw64.Bytes} {s : Sh} (h : s.ok) {j : Nat} {y : Sw64.Piece} {l : Sw64.Bytes} (hy : s.sl[j]? = some y) (hl : s.letters[j + 1]? = some l) {T : Sw64.Bytes} :
    ((tl g (s.letters.drop (j + 1)) (s.sl.drop j)).map fun b => T ++ b) = (g y).bind fun a => (tl g (s.letters.drop (j + 2)) (s.sl.drop (j + 1))).map fun b => (T ++ a ++ l) ++ b := by
  have e1 : s.sl.drop j = y :: s.sl.drop (j + 1) := by
    obtain ⟨h1, h2⟩ := List.getElem?_eq_some_iff.mp hy
    rw [List.drop_eq_getElem_cons h1, h2]
  have e2 : s.letters.drop (j + 1) = l :: s.letters.drop (j + 2) := by
    obtain ⟨h1, h2⟩ := List.getElem?_eq_some_iff.mp hl
    rw [List.drop_eq_getElem_cons h1, h2]
  rw [e1, e2, tl]
  cases g y with
  | none => rfl
  | some a => cases tl g (s.letters.drop (j + 2)) (s.sl.drop (j + 1)) <;> simp
theorem letters_at {s : Sh} (h : s.ok) {j : Nat} (hj : j ≤ s.sl.length) : ∃ l, s.letters[j]? = some l := by
  have : s.letters.length = s.sl.length + 1 := by unfold Sh.letters; rw [List.length_append, h]; rfl
  exact ⟨s.letters[j]'(by omega), List.getElem?_eq_getElem (by omega)⟩
theorem flat_more {ls : List Sw64.Bytes} {j : Nat} {l : Sw64.Bytes} (h : ls[j]? = some l) : (ls.take (j + 1)).flatten.length = (ls.take j).flatten.length + l.length := by
  rw [take_more h, List.flatten_append, List.length_append]; simp
theorem flat_le {ls : List Sw64.Bytes} (j : Nat) : (ls.take j).flatten.length ≤ ls.flatten.length := by
  have := List.take_append_drop j ls
  have h2 : ls.flatten.length = ((ls.take j) ++ (ls.drop j)).flatten.length := by rw [this]
  rw [h2, List.flatten_append, List.length_append]; omega
theorem filt_len {p : Sw64.Piece → Bool} {l : List Sw64.Piece} {j : Nat} {y : Sw64.Piece} (h : l[j]? = some y) : ((l.take (j + 1)).filter p).length = ((l.take j).filter p).length + (if p y = true then 1 else 0) := by
  rw [take_more h, List.filter_append, List.length_append]
  congr 1
  by_cases c : p y = true
  · rw [if_pos c, List.filter_cons_of_pos c] <;> rfl
  · rw [if_neg c, List.filter_cons_of_neg c] <;> rfl
theorem filt_le {p : Sw64.Piece → Bool} {l : List Sw64.Piece} (j : Nat) : ((l.take j).filter p).length ≤ (l.filter p).length := by
  have : l.filter p = (l.take j).filter p ++ (l.drop j).filter p := by rw [← List.filter_append, List.take_append_drop]
  rw [this, List.length_append]; omega
section
variable {P : Program} {w : World} {K : PySem.W.Frag} {mg : Str → Option Value} {base : Heap} {A : Ad}
theorem SetsAt.get {F H : Hp} {a : Addr} {S : Sw64.Sets} (h : SetsAt A F H a S) {k : Nat} (hk : k < S.length) : ∃ ls lk, H a = some (.lst (refs ls)) ∧ ls[k]? = some lk ∧ SetAt A F lk (S.getD k []) ∧ All2 (SetAt A F) ls S := by
  obtain ⟨ls, h1, h2⟩ := h
  obtain ⟨lk, h3, h4⟩ := h2.getx (List.getElem?_eq_getElem hk)
  refine ⟨ls, lk, h1, h3, ?_, h2⟩
  rw [List.getD_eq_getElem?_getD, List.getElem?_eq_getElem hk]
  exact h4
def spSay (A : Ad) (f : Nat) : Sp := fun vs H Q E => ∃ (F : Hp) (t st : Addr) (S : Sw64.Sets) (k n : Nat) (ts : List V), vs = [.ref t, .ref st, .int (k : Int), .int (n : Int)] ∧ H t = some (.lst ts) ∧ SetsAt A F H st S ∧ Same F H ∧ F t = none ∧ t ≠ st ∧ Good S ∧ S.length = 8 ∧ k < 8 ∧ n ≤ Sw64.MOST ∧
  (∃ f', f = f' + 1 ∧ n < 2 ^ f') ∧ ts.length + 320 * cap n ≤ 1000000 ∧
  (Sw64.said S k n = none → ∀ H', (∀ b o, H b = some o → b ≠ t → H' b = some o) → E (.ref A.C_NotSaid) none H') ∧
  (∀ b, Sw64.said S k n = some b → ∀ H', (∀ b o, H b = some o → b ≠ t → H' b = some o) → H' t = some (.lst (ts ++ bnums b)) → Q .non H')
theorem say_zero {f : Addr} {fd : FuncData} {ps : List Str} {CX : CXT} {k : Nat} : FnOk P w K mg base CX k f fd ps (spSay A 0) := by
  have no : ∀ vs H Q E, ¬ spSay A 0 vs H Q E := fun vs H Q E h => by
    obtain ⟨_, _, _, _, _, _, _, _, _, _, _, _, _, _, _, _, _, ⟨f', h, _⟩, _⟩ := h
    omega
  exact ⟨fun vs H Q E h => absurd h (no vs H Q E), fun A outer s H args us vs Q E _ _ _ _ h => absurd h (no vs H Q E)⟩
theorem ok_say (T : Top K mg A) : ∀ f : Nat, FnOk P w K mg base (L2.CX P w) (f + 2) A.f_say_onto A.d_say_onto P_say_onto (spSay A f)
  | 0 => say_zero
  | f + 1 => by
    have IH := ok_say T f
    refine T.F_say_onto.okX sc_say_onto (fun vs H Q E h => ?_) (fun cdv _ outer s H vs Q E hr h => ⟨_, (pss_cons (ps_set (i := 4) sc_say_onto.nd rfl (Or.inl rfl) (pe_call (ok_rule_for T) (hr.mono (by omega)) (by rfl) T.g_rule_for T.F_rule_for.kp (b_rule_for T) .nil (passes_call (takes_of rfl rfl rfl rfl) (fun _ _ _ _ h => h)) (pa_cons (pe_ix ix_list (pv 1) (pv 2) (fun _ _ => rfl)) (pa_cons (pv 3) pa_nil))))
    (pss_cons (ps_if (pt_cmpR op_eq (pe_fld (pv 4) rfl) pe_int (nomark _))
    (pss_cons (ps_if (pt_cmpR op_ne (pv 3) (pe_fld (pv 4) rfl) (nomark _))
    (pss_one (ps_raise rfl (takes_of rfl rfl rfl rfl) (pmk_own0 PySem.F.excBase_Exception T.x_NotSaid T.g_NotSaid T.kp_NotSaid (raises_own T.b_NotSaid T.t_NotSaid) (by exact rfl))))
    pss_nil)
    (pss_cons (ps_expr (pe_bm PySem.F.plainAttrs_list PySem.F.slot_list_extend PySem.F.type_list_extend mt_extend (pv 0) (pa_cons (pe_ix ix_list (pe_fld (pe_ix ix_list (pe_fld (pv 4) rfl) pe_int (fun _ _ => rfl)) rfl) pe_int (fun _ _ => rfl)) pa_nil)))
    (pss_one ps_retN)))
    pss_nil)
    (pss_cons (ps_set (i := 5) sc_say_onto.nd rfl (Or.inl rfl) (pe_op op_divN (pv 3) (pe_fld (pv 4) rfl)))
    (pss_cons (ps_set (i := 6) sc_say_onto.nd rfl (Or.inl rfl) (pe_op op_mdN (pv 3) (pe_fld (pv 4) rfl)))
    (pss_cons (ps_set (i := 7) sc_say_onto.nd rfl (Or.inl rfl) (pe_call (ok_shape_for T) (hr.mono (by omega)) (by rfl) T.g_shape_for T.F_shape_for.kp (b_shape_for T) .nil (passes_call (takes_of rfl rfl rfl rfl) (fun _ _ _ _ h => h)) (pa_cons (pv 4) (pa_cons (pv 5) (pa_cons (pv 6) pa_nil)))))
    (pss_cons (ps_expr (pe_bm PySem.F.plainAttrs_list PySem.F.slot_list_extend PySem.F.type_list_extend mt_extend (pv 0) (pa_cons (pe_ix ix_list (pe_fld (pv 7) rfl) pe_int (fun _ _ => rfl)) pa_nil)))
    (pss_one (ps_for (passes_of rfl) rfl (pi_enum (by rfl) T.n_enumerate (pa_cons (pe_fld (pv 7) rfl) pa_nil)) (pg_tup rfl (pgs_cons (pg_name (i := 8) sc_say_onto.nd rfl (Or.inl rfl)) (pgs_cons (pg_name (i := 9) sc_say_onto.nd rfl (Or.inl rfl)) pgs_nil)))
    (pss_cons (ps_expr (pe_call IH (hr.mono (by omega)) (by rfl) T.g_say_onto T.F_say_onto.kp (b_say_onto T) .nil (passes_call (takes_of rfl rfl rfl rfl) (fun _ _ _ _ h => h)) (pa_cons (pv 0) (pa_cons (pv 1) (pa_cons (pe_fld (pv 9) rfl) (pa_cons (pe_ifExp (pt_cmpR op_eq (pe_fld (pv 9) rfl) (pe_gi rfl T.k_Q) (nomark _)) (pv 5) (pv 6)) pa_nil))))))
    (pss_one (ps_expr (pe_bm PySem.F.plainAttrs_list PySem.F.slot_list_extend PySem.F.type_list_extend mt_extend (pv 0) (pa_cons (pe_ix ix_list (pe_fld (pv 7) rfl) (pe_op op_add (pv 8) pe_int) (fun _ _ => rfl)) pa_nil))))))))))))), ?_⟩)
    · obtain ⟨_, _, _, _, _, _, _, rfl, _⟩ := h
      rfl
    obtain ⟨F, t, st, S, k, n, ts, rfl, ht, hst, sF, fT, nts, G, h8, hk, hn, ⟨f', hf, hnf⟩, hts, kE, kQ⟩ := h
    have : f = f' := by omega
    subst this
    obtain ⟨ls, lk, hls, hlk, hset, hallS⟩ := hst.get (k := k) (by omega)
    have hlen : (S.getD k []).length ≤ 1000 := by
      have := G k
      unfold Sw64.setOk at this
      simp only [Bool.and_eq_true, decide_eq_true_eq] at this
      have h60 : Sw64.RULES = 60 := rfl
      omega
    refine ⟨_, rfl, _, rfl, st, _, _, _, rfl, rfl, SqL.of hls, atI_nat (refs_get hlk), _, rfl, F, lk, S.getD k [], n, rfl, sF, hset, G.rising k, hlen, fun e => ?_, fun R a hR hRa => ?_⟩
    · exact kE (said_none G hn e) H fun _ _ h _ => h
    obtain ⟨dx, lsh, ha, hsh⟩ := id hRa
    have ha1 := sF _ _ ha
    obtain ⟨hm, hb⟩ := SpecMath.ruleFor_mem hR
    have hok := G.rule hm
    refine ⟨_, rfl, _, _, _, _, _, rfl, ha1, T.c_Rule, T.n_Rule_divisor, F_Rule_divisor, rfl, _, rfl, ?_⟩
    refine split_dec (fun c0 => ?_) (fun c0 => ?_)
    · have h0 : R.by_ = 0 := by injection c0 with c0; show R.by_ = 0; have : ((R.by_ : Nat) : Int) = 0 := c0; omega
      have hsaid := said_base G hn hR h0
      refine ⟨_, rfl, _, rfl, _, _, _, _, _, rfl, ha1, T.c_Rule, T.n_Rule_base, F_Rule_base, rfl, _, rfl, ?_⟩
      cases c1 : decide (V.int (n : Int) = V.int ((R.base : Nat) : Int)) with
      | false =>
        have c1' : ¬ n = R.base := fun z => by rw [z, decide_eq_true rfl] at c1; cases c1
        refine if_true_of rfl ?_
        rw [if_neg c1'] at hsaid
        exact kE hsaid H fun _ _ h _ => h
      | true =>
        have c1' : n = R.base := by have := of_decide_eq_true c1; injection this with this; omega
        refine if_false_of rfl ?_
        rw [if_pos c1'] at hsaid
        obtain ⟨s0, e1, e2, _⟩ := base_shape hok h0
        obtain ⟨as, hl, h2⟩ := hsh
        rw [e1] at h2
        obtain ⟨b0, hb0, hsb⟩ := h2.getx (i := 0) (x := s0) rfl
        obtain ⟨dxs, t1, t2, ll, sl, las, pas, g1, g2, g3, g4, g5, g6, g7⟩ := hsb.ex
        rw [e2] at g5
        obtain ⟨la, hla, hlb⟩ := g5.getx (i := 0) (x := _) rfl
        have hlb' := sF _ _ hlb
        have hlc : (R.pieces.flatMap fun x => plet x.2).length ≤ 320 * cap n := by
          have := said_len G 50 k n _ (Nat.lt_of_le_of_lt hn SpecMath.MOST_lt) hn hsaid
          exact this
        refine ⟨_, rfl, .inl ⟨rfl, _, SqL.of ht⟩, _, rfl, _, _, _, _, _, rfl, ha1, T.c_Rule, T.n_Rule_shapes, F_Rule_shapes, lsh, _, _, _, rfl, rfl, SqL.of (sF _ _ hl), atI_nat (refs_get hb0), _, _, _, _, _, rfl, sF _ _ g1, T.c_Shape, T.n_Shape_letters, F_Shape_letters, ll, _, _, _, rfl, rfl, SqL.of (sF _ _ g4), atI_nat (refs_get hla), t, la, _, _, rfl, rfl, ht, hlb', (by rw [bnums_length, sizeLine_eq]; omega), ?_⟩
        refine kQ _ hsaid _ (fun b o h n => (upd_ne n).trans h) upd_same
    · have h0 : R.by_ ≠ 0 := fun z => c0 (by show V.int ((R.by_ : Nat) : Int) = V.int 0; rw [z] <;> rfl)
      obtain ⟨d2, db, _⟩ := SpecMath.rule_by hok h0
      have hM : Sw64.MOST = 1000000000000000 := by decide
      have hd64 : R.by_ < 2 ^ 64 := by have := SpecMath.rule_base hok; omega
      have hq1 : 1 ≤ n / R.by_ := (Nat.le_div_iff_mul_le (by omega)).mpr (by omega)
      have hqM : n / R.by_ ≤ Sw64.MOST := Nat.le_trans (Nat.div_le_self _ _) hn
      have hrM : n % R.by_ ≤ Sw64.MOST := Nat.le_trans (Nat.mod_le _ _) hn
      have hcap := cap_sum hq1 d2 (Nat.mod_lt n (show 0 < R.by_ by omega))
      rw [Nat.mul_comm (n / R.by_), Nat.div_add_mod] at hcap
      have hsaid := said_shape G hn hR h0
      have hdep : ∀ m, (m = n / R.by_ ∨ m = n % R.by_) → ∃ f'', f = f'' + 1 ∧ m < 2 ^ f'' := fun m hm => by
        have hne : f ≠ 0 := fun z => by subst z; simp at hnf; omega
        obtain ⟨f'', rfl⟩ : ∃ f'', f = f'' + 1 := ⟨f - 1, by omega⟩
        obtain ⟨p1, p2⟩ := SpecMath.part_lt d2 (show R.by_ ≤ n by omega) hnf
        exact ⟨f'', rfl, by rcases hm with rfl | rfl <;> assumption⟩
      generalize hq : n / R.by_ = q at *
      generalize hrr : n % R.by_ = r at *
      refine ⟨_, rfl, _, rfl, _, _, _, _, _, rfl, ha1, T.c_Rule, T.n_Rule_divisor, F_Rule_divisor, n, R.by_, rfl, rfl, ⟨by omega, hd64⟩, ?_⟩
      refine ⟨_, rfl, _, rfl, _, _, _, _, _, rfl, ha1, T.c_Rule, T.n_Rule_divisor, F_Rule_divisor, n, R.by_, rfl, rfl, by omega, ?_⟩
      rw [hq, hrr]
      refine ⟨_, rfl, _, rfl, _, rfl, F, a, _, q, r, rfl, sF, hRa, fun e => ?_, fun s b hs hsb => ?_⟩
      · exact kE (by rw [hsaid]; rw [show (List.find? (fun s => s.fits q r) (shapesOf R.pieces)) = none from e] <;> rfl) H fun _ _ h _ => h
      have hfac := shape_facts hok h0 (List.mem_of_find?_eq_some hs)
      have hsaid2 : Sw64.said S k n = s.text (sayP (Sw64.said S) q r) := by rw [hsaid]; rw [show (List.find? (fun s => s.fits q r) (shapesOf R.pieces)) = some s from hs] <;> rfl
      obtain ⟨dxs, t1, t2, ll, sl, las, pas, g1, g2, g3, g4, g5, g6, g7⟩ := hsb.ex
      obtain ⟨l0, hl0⟩ := letters_at hfac.ok (j := 0) (Nat.zero_le _)
      obtain ⟨la0, hla0, hlb0⟩ := g5.getx hl0
      have g1' := sF _ _ g1
      have hf0 : (s.letters.take (0 + 1)).flatten.length = 0 + l0.length := flat_more hl0
      have hf1 := Nat.le_trans (flat_le (ls := s.letters) (0 + 1)) hfac.len
      refine ⟨_, rfl, .inl ⟨rfl, _, SqL.of ht⟩, _, rfl, _, _, _, _, _, rfl, g1', T.c_Shape, T.n_Shape_letters, F_Shape_letters, ll, _, _, _, rfl, rfl, SqL.of (sF _ _ g4), atI_nat (refs_get hla0), t, la0, _, _, rfl, rfl, ht, sF _ _ hlb0, (by rw [bnums_length, sizeLine_eq]; omega), ?_⟩
      have keepF : ∀ {H' : Hp}, (∀ b o, H b = some o → b ≠ t → H' b = some o) → Same F H' := fun kp b o q => kp b o (sF _ _ q) (ne_of_none q fT)
      have g1u : upd H t (.lst (ts ++ bnums l0)) b = some _ := keepF (fun b o h n => (upd_ne n).trans h) _ _ g1
      have g6u : upd H t (.lst (ts ++ bnums l0)) sl = some _ := keepF (fun b o h n => (upd_ne n).trans h) _ _ g6
      have hst0 : H st ≠ none := by rw [hls]; intro z; cases z
      refine ⟨_, rfl, _, _, _, _, _, rfl, g1u, T.c_Shape, T.n_Shape_slots, F_Shape_slots, sl, _, rfl, SqL.of g6u, for_it (walk_enum (K := K) (a := sl) (xs := refs pas))
        (fun j σ H' => (∃ v8 v9, σ = [some (.ref t), some (.ref st), some (.int (k : Int)), some (.int (n : Int)), some (.ref a), some (.int (q : Int)), some (.int (r : Int)), some (.ref b), v8, v9]) ∧ (∀ b o, H b = some o → b ≠ t → H' b = some o) ∧
          ∃ Tx : Sw64.Bytes, H' t = some (.lst (ts ++ bnums Tx)) ∧ s.text (sayP (Sw64.said S) q r) = (tl (sayP (Sw64.said S) q r) (s.letters.drop (j + 1)) (s.sl.drop j)).map (fun b => Tx ++ b) ∧
            Tx.length ≤ (s.letters.take (j + 1)).flatten.length + 320 * (((s.sl.take j).filter Sw64.isTimes).length * cap q + ((s.sl.take j).filter Sw64.isLeft).length * cap r))
        ⟨⟨none, none, rfl⟩, fun b o h n => (upd_ne n).trans h, l0, upd_same, ?_, by rw [hf0]; omega⟩ (fun j σ H' _ p => SqL.of (keepF p.2.1 _ _ g6)) ?_ ?_⟩
      · unfold Sh.text
        rw [List.drop_zero, List.headD_eq_head?_getD, List.head?_eq_getElem?, hl0]
        have : s.letters.tail = s.letters.drop (0 + 1) := by rw [← List.tail_drop, List.drop_zero]
        rw [this] <;> rfl
      · rintro j v σ H1 H2 hj ⟨⟨v8, v9, rfl⟩, kp, Tx, hT, htx, hTl⟩ ⟨tp, x, y, rfl, htp, rfl, e1, e2⟩
        rw [refs_length] at hj
        have hx : x = .int (j : Nat) := (Option.some.inj e1).symm
        subst hx
        obtain ⟨p, yy, rfl, hyy, hp⟩ := objs_get g7 e2
        obtain ⟨wh, dp, lp, hp1, hp2⟩ := hp
        obtain ⟨l, hl⟩ := letters_at hfac.ok (j := j + 1) (by have := g7.length; omega)
        have hstep := tl_step (g := sayP (Sw64.said S) q r) hfac.ok hyy hl (T := Tx)
        have kp2 : ∀ b o, H b = some o → b ≠ t → upd H1 tp (.tup [.int (j : Nat), .ref p]) b = some o := fun b o h n => same_new htp _ _ _ (kp b o h n)
        have hp1' := keepF kp2 _ _ hp1
        have hyt := hfac.nt yy (List.mem_of_getElem? hyy)
        have hT2 : upd H1 tp (.tup [.int (j : Nat), .ref p]) t = some (.lst (ts ++ bnums Tx)) := same_new htp _ _ _ hT
        have nft := filt_len (p := Sw64.isTimes) hyy
        have nfl := filt_len (p := Sw64.isLeft) hyy
        have bft := Nat.le_trans (filt_le (p := Sw64.isTimes) (l := s.sl) (j + 1)) hfac.t1
        have bfl := Nat.le_trans (filt_le (p := Sw64.isLeft) (l := s.sl) (j + 1)) hfac.l1
        have flm := flat_more hl
        have fll := Nat.le_trans (flat_le (ls := s.letters) (j + 1)) hfac.len
        have fll2 := Nat.le_trans (flat_le (ls := s.letters) (j + 1 + 1)) hfac.len
        have kset : SetsAt A F (upd H1 tp (.tup [.int (j : Nat), .ref p])) st S := ⟨ls, kp2 _ _ hls (Ne.symm nts), hallS⟩
        refine ⟨tp, _, rfl, SqT.of upd_same, rfl, _, _, rfl, _, _, rfl, rfl, ?_⟩
        refine ⟨_, rfl, _, rfl, _, rfl, _, _, _, _, _, rfl, hp1', T.c_Piece, T.n_Piece_by, F_Piece_by, _, rfl, _, _, _, _, _, rfl, hp1', T.c_Piece, T.n_Piece_kind, F_Piece_kind, rfl, _, rfl, ?_⟩
        have y8 := hfac.by8 yy (List.mem_of_getElem? hyy)
        have ez : ((j : Nat) : Int) + 1 = ((j + 1 : Nat) : Int) := by omega
        obtain ⟨la, hla, hlb⟩ := g5.getx hl
        cases yy with
        | text _ => cases hyt
        | times jj =>
          rw [show Sw64.isTimes (.times jj) = true from rfl, if_pos rfl] at nft
          rw [show Sw64.isLeft (.times jj) = false from rfl, if_neg (by decide)] at nfl
          simp only [Nat.add_zero] at nfl
          have c1 : ((s.sl.take j).filter Sw64.isTimes).length = 0 := by omega
          have c2 := Nat.mul_le_mul_right (cap r) (show ((s.sl.take j).filter Sw64.isLeft).length ≤ 1 by omega)
          rw [c1, Nat.zero_mul, Nat.zero_add] at hTl
          refine if_true_of rfl ⟨_, rfl, F, t, st, S, jj, q, _, rfl, hT2, kset, keepF kp2, fT, nts, G, h8, y8, hqM, hdep q (.inl rfl), (by rw [List.length_append, bnums_length]; omega), fun e H' kp3 => ?_, fun tx e H' kp3 hT3 => ?_⟩
          · refine kE (by rw [hsaid2, htx, hstep]; rw [show sayP (Sw64.said S) q r (.times jj) = none from e] <;> rfl) H' fun b o h n => kp3 b o (kp2 b o h n) n
          · have htl := said_len G 50 jj q tx (Nat.lt_of_le_of_lt hqM SpecMath.MOST_lt) hqM e
            have kp4 : ∀ b o, H b = some o → b ≠ t → H' b = some o := fun b o h n => kp3 b o (kp2 b o h n) n
            have g1'' := keepF kp4 _ _ g1
            refine ⟨_, rfl, .inl ⟨rfl, _, SqL.of hT3⟩, _, rfl, _, _, _, _, _, rfl, g1'', T.c_Shape, T.n_Shape_letters, F_Shape_letters, _, rfl, _, _, rfl, rfl, ll, _, _, _, rfl, rfl, SqL.of (keepF kp4 _ _ g4), (by rw [ez]; exact atI_nat (refs_get hla)), t, la, _, _, rfl, rfl, hT3, keepF kp4 _ _ hlb, (by rw [List.length_append, List.length_append, bnums_length, bnums_length, bnums_length, sizeLine_eq]; omega), ?_⟩
            refine ⟨⟨_, _, rfl⟩, fun b o h n => (upd_ne n).trans (kp4 b o h n), Tx ++ tx ++ l, ?_, ?_, ?_⟩
            · rw [upd_same, bnums_append, bnums_append, List.append_assoc, List.append_assoc, List.append_assoc]
            · rw [htx, hstep]; rw [show sayP (Sw64.said S) q r (.times jj) = some tx from e] <;> rfl
            · rw [nft, nfl, flm, c1, List.length_append, List.length_append, Nat.zero_add, Nat.one_mul]; omega
        | left jj =>
          rw [show Sw64.isTimes (.left jj) = false from rfl, if_neg (by decide)] at nft
          simp only [Nat.add_zero] at nft
          rw [show Sw64.isLeft (.left jj) = true from rfl, if_pos rfl] at nfl
          have c1 : ((s.sl.take j).filter Sw64.isLeft).length = 0 := by omega
          have c2 := Nat.mul_le_mul_right (cap q) (show ((s.sl.take j).filter Sw64.isTimes).length ≤ 1 by omega)
          rw [c1, Nat.zero_mul, Nat.add_zero] at hTl
          refine if_false_of rfl ⟨_, rfl, F, t, st, S, jj, r, _, rfl, hT2, kset, keepF kp2, fT, nts, G, h8, y8, hrM, hdep r (.inr rfl), (by rw [List.length_append, bnums_length]; omega), fun e H' kp3 => ?_, fun tx e H' kp3 hT3 => ?_⟩
          · refine kE (by rw [hsaid2, htx, hstep]; rw [show sayP (Sw64.said S) q r (.left jj) = none from e] <;> rfl) H' fun b o h n => kp3 b o (kp2 b o h n) n
          · have htl := said_len G 50 jj r tx (Nat.lt_of_le_of_lt hrM SpecMath.MOST_lt) hrM e
            have kp4 : ∀ b o, H b = some o → b ≠ t → H' b = some o := fun b o h n => kp3 b o (kp2 b o h n) n
            have g1'' := keepF kp4 _ _ g1
            refine ⟨_, rfl, .inl ⟨rfl, _, SqL.of hT3⟩, _, rfl, _, _, _, _, _, rfl, g1'', T.c_Shape, T.n_Shape_letters, F_Shape_letters, _, rfl, _, _, rfl, rfl, ll, _, _, _, rfl, rfl, SqL.of (keepF kp4 _ _ g4), (by rw [ez]; exact atI_nat (refs_get hla)), t, la, _, _, rfl, rfl, hT3, keepF kp4 _ _ hlb, (by rw [List.length_append, List.length_append, bnums_length, bnums_length, bnums_length, sizeLine_eq]; omega), ?_⟩
            refine ⟨⟨_, _, rfl⟩, fun b o h n => (upd_ne n).trans (kp4 b o h n), Tx ++ tx ++ l, ?_, ?_, ?_⟩
            · rw [upd_same, bnums_append, bnums_append, List.append_assoc, List.append_assoc, List.append_assoc]
            · rw [htx, hstep]; rw [show sayP (Sw64.said S) q r (.left jj) = some tx from e] <;> rfl
            · rw [nft, nfl, flm, c1, List.length_append, List.length_append, Nat.zero_add, Nat.one_mul]; omega
      · rintro σ H' ⟨⟨v8, v9, rfl⟩, kp, Tx, hT, htx, hTl⟩
        rw [refs_length, g7.length] at htx
        have e : (tl (sayP (Sw64.said S) q r) (s.letters.drop (s.sl.length + 1)) (s.sl.drop s.sl.length)).map (fun b => Tx ++ b) = some Tx := by
          rw [List.drop_length]; simp [tl]
        exact kQ Tx (by rw [hsaid2, htx, e]) H' kp hT
def spText (A : Ad) : Sp := fun vs H Q E => ∃ (F : Hp) (st : Addr) (S : Sw64.Sets) (k n : Nat), vs = [.ref st, .int (k : Int), .int (n : Int)] ∧ SetsAt A F H st S ∧ Same F H ∧ Good S ∧ S.length = 8 ∧ k < 8 ∧ n ≤ Sw64.MOST ∧
  (Sw64.said S k n = none → ∀ H', Same H H' → E (.ref A.C_NotSaid) none H') ∧ (∀ b, Sw64.said S k n = some b → ∀ H' p, Same H H' → H p = none → H' p = some (.lst (bnums b)) → Q (.ref p) H')
theorem ok_text_of (T : Top K mg A) : FnOk P w K mg base (L2.CX P w) 54 A.f_text_of A.d_text_of P_text_of (spText A) := by
  have IH := ok_say (P := P) (w := w) (base := base) T 51
  refine T.F_text_of.okX sc_text_of (fun vs H Q E h => ?_) (fun cdv _ outer s H vs Q E hr h => ⟨_, (pss_cons (ps_set (i := 3) sc_text_of.nd rfl (Or.inl rfl) (pe_lst pa_nil))
    (pss_cons (ps_expr (pe_call IH (hr.mono (by omega)) (by rfl) T.g_say_onto T.F_say_onto.kp (b_say_onto T) .nil (passes_call (takes_of rfl rfl rfl rfl) (fun _ _ _ _ h => h)) (pa_cons (pv 3) (pa_cons (pv 0) (pa_cons (pv 1) (pa_cons (pv 2) pa_nil))))))
    (pss_one (ps_ret (pv 3))))), ?_⟩)
  · obtain ⟨_, _, _, _, _, rfl, _⟩ := h
    rfl
  obtain ⟨F, st, S, k, n, rfl, hst, sF, G, h8, hk, hn, kE, kQ⟩ := h
  refine ⟨(by show 0 ≤ sizeLine; decide), fun t ht => ?_⟩
  obtain ⟨ls, hls, hall⟩ := hst
  have nts : t ≠ st := (ne_of_none hls ht).symm
  have kp : ∀ {H' : Hp}, (∀ b o, upd H t (.lst []) b = some o → b ≠ t → H' b = some o) → Same H H' := fun h b o q => h b o ((upd_ne (ne_of_none q ht)).trans q) (ne_of_none q ht)
  refine ⟨_, rfl, _, rfl, _, rfl, _, rfl, F, t, st, S, k, n, [], rfl, upd_same, ⟨ls, (upd_ne nts.symm).trans hls, hall⟩, Same.upd_new sF (Same.free sF ht), Same.free sF ht, nts, G, h8, hk, hn, ⟨50, rfl, Nat.lt_of_le_of_lt hn SpecMath.MOST_lt⟩, ?_, fun e H' h => kE e H' (kp h), fun b e H' h h' => ⟨_, rfl, kQ b e H' t (kp h) ht h'⟩⟩
  have := cap_most hn
  show 0 + 320 * cap n ≤ 1000000
  omega
end
end Sn
/-! numbers beside one another -/
namespace Sn
open PySem PySem.Spec PyProof.Rows L2
open SpecMath (Good)
/-- what the defs that say ask of the sets -/
structure Sets8 (A : Ad) (F H : Hp) (st : Addr) (S : Sw64.Sets) (k : Nat) : Prop where
  at_ : SetsAt A F H st S
  sF : Same F H
  G : Good S
  h8 : S.length = 8
  hk : k < 8
theorem Sets8.mono {A : Ad} {F H H' : Hp} {st : Addr} {S : Sw64.Sets} {k : Nat} (h : Sets8 A F H st S k) (e : Same H H') : Sets8 A F H' st S k :=
  ⟨let ⟨ls, h1, h2⟩ := h.at_; ⟨ls, e _ _ h1, h2⟩, h.sF.trans e, h.G, h.h8, h.hk⟩
section
variable {P : Program} {w : World} {K : PySem.W.Frag} {mg : Str → Option Value} {base : Heap} {A : Ad}
def spTon (A : Ad) : Sp := fun vs H Q _ => ∃ (F : Hp) (st : Addr) (S : Sw64.Sets) (k n : Nat), vs = [.ref st, .int (k : Int), .int (n : Int)] ∧ Sets8 A F H st S k ∧ n ≤ Sw64.MOST ∧
  (Sw64.said S k n = none → ∀ H', Same H H' → Q .non H') ∧ (∀ b, Sw64.said S k n = some b → ∀ H' p, Same H H' → H p = none → H' p = some (.lst (bnums b)) → Q (.ref p) H')
theorem ok_text_or_none (T : Top K mg A) : FnOk P w K mg base CX0 55 A.f_text_or_none A.d_text_or_none P_text_or_none (spTon A) := by
  refine T.F_text_or_none.ok sc_text_or_none (fun vs H Q E h => ?_) (fun cdv _ outer s H vs Q E hr h => ⟨_, pss_one (ps_try_only (tb := fun W => tRet (tCallS (spText A) (WE W) (tCons (tVar 0) (tCons (tVar 1) (tCons (tVar 2) tNil))))) (ts := fun _ _ _ => tRet (tC .non)) (Wout := fun _ _ _ _ => False) rfl rfl ⟨rfl, by decide, Or.inl T.g_NotSaid⟩ takes0
      (fun W pn xe tk _ => pss_one (ps_ret (pe_callS (ok_text_of T) (hr.mono (by omega)) (by rfl) T.g_text_of T.F_text_of.kp (b_text_of T) (fun σ => passAt tk σ) (by exact (pa_cons (pv 0) (pa_cons (pv 1) (pa_cons (pv 2) pa_nil)))))))
      (fun _ _ _ _ _ _ _ => pss_one (ps_ret pe_non))), ?_⟩)
  · obtain ⟨_, _, _, _, _, rfl, _⟩ := h
    rfl
  obtain ⟨F, st, S, k, n, rfl, h8, hn, kN, kS⟩ := h
  refine ⟨_, rfl, _, rfl, _, rfl, F, st, S, k, n, rfl, h8.at_, h8.sF, h8.G, h8.h8, h8.hk, hn, fun e H' s' => ?_, fun b e H' p s' hp h' => kS b e H' p s' hp h'⟩
  exact ⟨true, T.e_NotSaid_NotSaid, fun _ a0 _ => kN e H' s', fun q => Bool.noConfusion q⟩
def spTns (A : Ad) (K : PySem.W.Frag) : Sp := fun vs H Q _ => ∃ (F : Hp) (st l : Addr) (S : Sw64.Sets) (k : Nat) (ns : List Nat), vs = [.ref st, .int (k : Int), .ref l] ∧ Sets8 A F H st S k ∧ SqL K H l (nums ns) ∧ ns.length ≤ 100000 ∧ (∀ n ∈ ns, n ≤ Sw64.MOST) ∧
  ∀ H' p, Same H H' → H p = none → H' p = some (.lst (nums (ns.filter fun n => (Sw64.said S k n).isNone))) → Q (.ref p) H'
theorem nums_getx {ns : List Nat} {i : Nat} {x : V} (h : (nums ns)[i]? = some x) : ∃ n, ns[i]? = some n ∧ x = .int (n : Int) := by
  unfold nums at h
  rw [List.getElem?_map, Option.map_eq_some_iff] at h
  obtain ⟨n, h1, h2⟩ := h
  exact ⟨n, h1, h2.symm⟩
theorem ok_those_not_said (T : Top K mg A) : FnOk P w K mg base CX0 56 A.f_those_not_said A.d_those_not_said P_those_not_said (spTns A K) := by
  refine T.F_those_not_said.ok sc_those_not_said (fun vs H Q E h => ?_) (fun cdv _ outer s H vs Q E hr h => ⟨_, (pss_one (ps_ret (by exact (pe_lc (own := [("n", 3)]) (g := gName 3) (tt := tTest (tOp _ (tCall (spTon A) [] E0 (tCons (tVar 0) (tCons (tVar 1) (tCons (tVar 3) tNil)))) (tC .non))) (te := tVar 3) rfl sc_those_not_said.nd (pi_list (pv 2)) (blkOk_by (own := [("n", 3)]) (N := N_those_not_said) (sc := defScope s_those_not_said) (by decide +kernel)) (fun _ _ _ _ _ => pg_name (i := 3) sc_those_not_said.nd rfl (Or.inl rfl)) (fun _ _ _ _ _ => by exact (pts_one (pt_cmpR op_isN (pe_call (ok_text_or_none T) (hr.mono (by omega)) (by rfl) T.g_text_or_none T.F_text_or_none.kp (b_text_or_none T) .nil pass0 (pa_cons (pv 0) (pa_cons (pv 1) (pa_cons (pv 3) pa_nil)))) pe_non (nomark _)))) (fun _ _ _ _ _ => by exact (pv 3)))))), ?_⟩)
  · obtain ⟨_, _, _, _, _, _, rfl, _⟩ := h
    rfl
  obtain ⟨F, st, l, S, k, ns, rfl, h8, hS, hz, hM, kQ⟩ := h
  refine ⟨_, rfl, l, rfl, ⟨_, hS⟩, fun D hD => lc_gen hD hS (by rw [nums_length, sizeLine_eq]; omega) ns (nums_length ns) (fun n => (Sw64.said S k n).isNone) (fun n => V.int (n : Int)) (fun _ => rfl) (fun i x n hx hn H2 s2 R q => ?_) (fun i x n hx hn _ H2 s2 R q => ?_) (fun H' s1 e1 => ?_)⟩
  · obtain ⟨n', h1, rfl⟩ := nums_getx hx
    rw [hn] at h1; cases h1
    refine ⟨_, rfl, _, rfl, _, rfl, F, st, S, k, n, rfl, h8.mono s2, hM n (List.mem_of_getElem? hn), fun e H3 s3 => ⟨rfl, _, rfl, ?_⟩, fun b e H3 p s3 _ _ => ⟨rfl, _, rfl, ?_⟩⟩
    · have := q H3 s3; rw [e] at this; exact this
    · have := q H3 s3; rw [e] at this; exact this
  · obtain ⟨n', h1, rfl⟩ := nums_getx hx
    rw [hn] at h1; cases h1
    exact ⟨_, rfl, q H2 Same.rfl⟩
  · exact kQ H' D s1 hD e1
end
end Sn
/-! numbers beside one another: the specification's words -/
namespace Sn
open Sw64
/-- the first number whose text a lesser one of these has -/
def dup (f : Nat → Option Bytes) (l : List Nat) : Option (Nat × Nat) := l.findSome? fun n => (f n).bind fun t => (l.find? fun m => decide (m < n) && f m == some t).map fun m => (n, m)
theorem same_dup (S : Sets) (k : Nat) (l : List Nat) : same S k l = dup (said S k) l := rfl
/-- what is said, in turn -/
def pairsOf (f : Nat → Option Bytes) (l : List Nat) : List (Bytes × Nat) := l.filterMap fun n => (f n).map fun t => (t, n)
theorem pairsOf_append (f : Nat → Option Bytes) (a b : List Nat) : pairsOf f (a ++ b) = pairsOf f a ++ pairsOf f b := List.filterMap_append
theorem mem_pairsOf {f : Nat → Option Bytes} {l : List Nat} {t : Bytes} {n : Nat} : (t, n) ∈ pairsOf f l ↔ n ∈ l ∧ f n = some t := by
  unfold pairsOf
  rw [List.mem_filterMap]
  constructor
  · rintro ⟨m, h1, h2⟩
    obtain ⟨u, h3, h4⟩ := Option.map_eq_some_iff.mp h2
    simp only [Prod.mk.injEq] at h4
    obtain ⟨rfl, rfl⟩ := h4
    exact ⟨h1, h3⟩
  · rintro ⟨h1, h2⟩
    exact ⟨n, h1, by rw [h2] <;> rfl⟩
theorem nodup_uniq {f : Nat → Option Bytes} {l : List Nat} (h : ((pairsOf f l).map fun x => x.1).Nodup) {m m' : Nat} {t : Bytes} (h1 : m ∈ l) (h2 : m' ∈ l) (e1 : f m = some t) (e2 : f m' = some t) : m = m' := by
  have a := mem_pairsOf.mpr ⟨h1, e1⟩
  have b := mem_pairsOf.mpr ⟨h2, e2⟩
  generalize pairsOf f l = ps at h a b
  induction ps with
  | nil => cases a
  | cons p ps ih =>
    rw [List.map_cons, List.nodup_cons] at h
    rcases List.mem_cons.mp a with a | a
    · rcases List.mem_cons.mp b with b | b
      · have := a.trans b.symm
        exact (Prod.mk.inj this).2
      · exact absurd (List.mem_map.mpr ⟨_, b, by rw [← a]⟩) h.1
    · rcases List.mem_cons.mp b with b | b
      · exact absurd (List.mem_map.mpr ⟨_, a, by rw [← b]⟩) h.1
      · exact ih h.2 a b
/-- no two are alike: none of them has a lesser one -/
theorem dup_skip {f : Nat → Option Bytes} {l1 l2 : List Nat} (hp : (l1 ++ l2).Pairwise (· < ·)) (h : ((pairsOf f l1).map fun x => x.1).Nodup) : dup f (l1 ++ l2) = l2.findSome? fun n => (f n).bind fun t => ((l1 ++ l2).find? fun m => decide (m < n) && f m == some t).map fun m => (n, m) := by
  unfold dup
  rw [List.findSome?_append]
  have : (l1.findSome? fun n => (f n).bind fun t => ((l1 ++ l2).find? fun m => decide (m < n) && f m == some t).map fun m => (n, m)) = none := by
    rw [List.findSome?_eq_none_iff]
    intro n hn
    cases e : f n with
    | none => rfl
    | some t =>
      rw [Option.bind_some, Option.map_eq_none_iff, List.find?_eq_none]
      intro m hm c
      rw [Bool.and_eq_true, decide_eq_true_eq, beq_iff_eq] at c
      rcases List.mem_append.mp hm with hm | hm
      · have := nodup_uniq h hn hm e c.2
        omega
      · have := (List.pairwise_append.mp hp).2.2 n hn m hm
        omega
  rw [this]
  rfl
theorem dup_found {f : Nat → Option Bytes} {l1 l2 : List Nat} {n m : Nat} {t : Bytes} (hp : (l1 ++ n :: l2).Pairwise (· < ·)) (h : ((pairsOf f l1).map fun x => x.1).Nodup) (hn : f n = some t) (hm : m ∈ l1) (hmt : f m = some t) : dup f (l1 ++ n :: l2) = some (n, m) := by
  rw [dup_skip hp h, List.findSome?_cons, hn, Option.bind_some]
  have hlt : m < n := (List.pairwise_append.mp hp).2.2 m hm n List.mem_cons_self
  have : (l1 ++ n :: l2).find? (fun m => decide (m < n) && f m == some t) = some m := by
    cases e : (l1 ++ n :: l2).find? (fun m => decide (m < n) && f m == some t) with
    | none =>
      have := List.find?_eq_none.mp e m (List.mem_append_left _ hm)
      simp [hlt, hmt] at this
    | some m' =>
      have h1 := List.find?_some e
      rw [Bool.and_eq_true, decide_eq_true_eq, beq_iff_eq] at h1
      have h2 := List.mem_of_find?_eq_some e
      rcases List.mem_append.mp h2 with h2 | h2
      · rw [nodup_uniq h h2 hm h1.2 hmt]
      · rcases List.mem_cons.mp h2 with h2 | h2
        · omega
        · have h4 := (List.pairwise_append.mp hp).2.1
          rw [List.pairwise_cons] at h4
          have := h4.1 m' h2
          omega
  rw [this]
  rfl
theorem dup_none {f : Nat → Option Bytes} {l : List Nat} (hp : l.Pairwise (· < ·)) (h : ((pairsOf f l).map fun x => x.1).Nodup) : dup f l = none := by
  have := dup_skip (l2 := []) (by rw [List.append_nil]; exact hp) h
  rw [List.append_nil] at this
  rw [this] <;> rfl
/-! ### longest -/
def lstep (f : Nat → Option Bytes) (b : Option (Nat × Nat)) (n : Nat) : Option (Nat × Nat) := match f n, b with
  | none, b => b
  | some t, none => some (n, t.length)
  | some t, some x => if x.2 < t.length then some (n, t.length) else some x
theorem longest_fold (S : Sets) (k : Nat) (l : List Nat) : Sw64.longest S k l = l.foldl (lstep (said S k)) none := rfl
theorem range_eq (a b : Nat) : Sw64.range a b = (List.range (b + 1 - a)).map fun i => a + i := rfl
theorem range_lt (a b : Nat) : (Sw64.range a b).Pairwise (· < ·) := by
  rw [range_eq, List.pairwise_map]
  exact (List.pairwise_lt_range).imp fun h => by omega
end Sn
/-! numbers beside one another: alike, longest -/
namespace Sn
open PySem PySem.Spec PyProof.Rows L2
open SpecMath (Good)
def tkey (t : Sw64.Bytes) : List Key := t.map fun b => (Sum.inl (b.toNat : Int) : Key)
theorem tkey_v (t : Sw64.Bytes) : (tkey t).map kV = bnums t := by unfold tkey bnums nums; rw [List.map_map, List.map_map] <;> rfl
theorem tkey_inj : ∀ {t u : Sw64.Bytes}, tkey t = tkey u → t = u
  | [], [], _ => rfl
  | [], _ :: _, h => by cases h
  | _ :: _, [], h => by cases h
  | a :: t, b :: u, h => by
    injection h with h1 h2
    injection h1 with h1
    have : a.toNat = b.toNat := by omega
    rw [UInt8.toNat_inj.mp this, tkey_inj h2]
def kvsOf (ps : List (Sw64.Bytes × Nat)) : List (List Key × V) := ps.map fun x => (tkey x.1, V.int (x.2 : Int))
theorem val_none {t : Sw64.Bytes} : ∀ {ps : List (Sw64.Bytes × Nat)}, valV (kvsOf ps) (tkey t) = none → ∀ n, (t, n) ∉ ps
  | [], _, n => List.not_mem_nil
  | p :: ps, h, n => by
    intro hm
    by_cases e : tkey p.1 = tkey t
    · have : valV (kvsOf (p :: ps)) (tkey t) = some (V.int (p.2 : Int)) := valV_pos (p := (tkey p.1, V.int (p.2 : Int))) e
      rw [this] at h; cases h
    · have h2 : valV (kvsOf (p :: ps)) (tkey t) = valV (kvsOf ps) (tkey t) := valV_neg (p := (tkey p.1, V.int (p.2 : Int))) e
      rcases List.mem_cons.mp hm with hm | hm
      · rw [← hm] at e; exact e rfl
      · exact val_none (by rw [← h2]; exact h) n hm
theorem val_some {t : Sw64.Bytes} {v : V} : ∀ {ps : List (Sw64.Bytes × Nat)}, valV (kvsOf ps) (tkey t) = some v → ∃ n, (t, n) ∈ ps ∧ v = V.int (n : Int)
  | [], h => by cases h
  | p :: ps, h => by
    by_cases e : tkey p.1 = tkey t
    · have : valV (kvsOf (p :: ps)) (tkey t) = some (V.int (p.2 : Int)) := valV_pos (p := (tkey p.1, V.int (p.2 : Int))) e
      rw [this] at h
      exact ⟨p.2, by rw [← tkey_inj e]; exact List.mem_cons_self, (Option.some.inj h).symm⟩
    · have h2 : valV (kvsOf (p :: ps)) (tkey t) = valV (kvsOf ps) (tkey t) := valV_neg (p := (tkey p.1, V.int (p.2 : Int))) e
      obtain ⟨n, h3, h4⟩ := val_some (by rw [← h2]; exact h)
      exact ⟨n, List.mem_cons_of_mem _ h3, h4⟩
section
variable {P : Program} {w : World} {K : PySem.W.Frag} {mg : Str → Option Value} {base : Heap} {A : Ad}
def two (x : Option (Nat × Nat)) : List Nat := match x with | none => [] | some x => [x.1, x.2]
def spFal (A : Ad) (K : PySem.W.Frag) : Sp := fun vs H Q _ => ∃ (F : Hp) (st l : Addr) (S : Sw64.Sets) (k : Nat) (ns : List Nat), vs = [.ref st, .int (k : Int), .ref l] ∧ Sets8 A F H st S k ∧ SqL K H l (nums ns) ∧ ns.length ≤ 100000 ∧ (∀ n ∈ ns, n ≤ Sw64.MOST) ∧ ns.Pairwise (· < ·) ∧
  ∀ H' p, Same H H' → H p = none → H' p = some (.lst (nums (two (Sw64.same S k ns)))) → Q (.ref p) H'
theorem ok_first_alike (T : Top K mg A) : FnOk P w K mg base CX0 56 A.f_first_alike A.d_first_alike P_first_alike (spFal A K) := by
  refine T.F_first_alike.ok sc_first_alike (fun vs H Q E h => ?_) (fun cdv _ outer s H vs Q E hr h => have hu := hu_of hr; ⟨_, (pss_cons (ps_set (i := 3) sc_first_alike.nd rfl (Or.inl rfl) pe_dnewT)
    (pss_cons (ps_for PassesOwn.never rfl (pi_list (pv 2)) (pg_name (i := 4) sc_first_alike.nd rfl (Or.inl rfl))
    (pss_cons (ps_set (i := 5) sc_first_alike.nd rfl (Or.inl rfl) (pe_call (ok_text_or_none T) (hr.mono (by omega)) (by rfl) T.g_text_or_none T.F_text_or_none.kp (b_text_or_none T) .nil pass0 (pa_cons (pv 0) (pa_cons (pv 1) (pa_cons (pv 4) pa_nil)))))
    (pss_one (ps_if (pt_cmpR op_notN (pv 5) pe_non (nomark _))
    (pss_cons (ps_set (i := 6) sc_first_alike.nd rfl (Or.inl rfl) (pe_callTy call_tuple_of (by rfl) T.n_tuple (by decide +kernel) (pa_cons (pv 5) pa_nil)))
    (pss_cons (ps_if (pt_cmp (pc_din hu (pv 6) (pv 3)))
    (pss_one (ps_ret (pe_lst (pa_cons (pv 4) (pa_cons (pe_dget hu (pv 3) (pv 6) (fun _ _ => rfl)) pa_nil)))))
    pss_nil)
    (pss_one (ps_dput hu (pv 3) (pv 6) (pv 4) rfl))))
    pss_nil))))
    (pss_one (ps_ret (pe_lst pa_nil))))), ?_⟩)
  · obtain ⟨_, _, _, _, _, _, rfl, _⟩ := h
    rfl
  obtain ⟨F, st, l, S, k, ns, rfl, h8, hS, hz, hM, hp, kQ⟩ := h
  intro d hd
  refine ⟨_, rfl, l, rfl, ⟨_, (same_new hd _).seq hS⟩, for_list (K := K) (a := l) (xs := nums ns)
    (fun i σ H' => (∃ v4 v5 v6, σ = [some (.ref st), some (.int (k : Int)), some (.ref l), some (.ref d), v4, v5, v6]) ∧ Same H H' ∧ H' d = some (.dT (kvsOf (pairsOf (Sw64.said S k) (ns.take i)))) ∧ ((pairsOf (Sw64.said S k) (ns.take i)).map fun x => x.1).Nodup)
    ⟨⟨none, none, none, rfl⟩, same_new hd _, upd_same, .nil⟩ (fun i σ H' _ p => p.2.1.seq hS) ?_ ?_⟩
  · rintro i x σ H1 hi ⟨⟨v4, v5, v6, rfl⟩, s1, hd1, hnd⟩
    obtain ⟨n, hn, rfl⟩ := nums_getx hi
    have hlt := (List.getElem?_eq_some_iff.mp hn).1
    have hmore := take_more hn
    have hsplit : ns = ns.take i ++ n :: ns.drop (i + 1) := by
      obtain ⟨h3, h4⟩ := List.getElem?_eq_some_iff.mp hn
      rw [← h4, List.getElem_cons_drop, List.take_append_drop]
    have hpo : pairsOf (Sw64.said S k) (ns.take (i + 1)) = pairsOf (Sw64.said S k) (ns.take i) ++ pairsOf (Sw64.said S k) [n] := by rw [hmore, pairsOf_append]
    refine ⟨_, rfl, _, rfl, _, rfl, F, st, S, k, n, rfl, h8.mono s1, hM n (List.mem_of_getElem? hn), fun e H2 s2 => ?_, fun t e H2 p s2 fp hp2 => ?_⟩
    · refine ⟨_, rfl, rfl, _, rfl, ?_⟩
      refine if_false_of rfl ?_
      have e2 : pairsOf (Sw64.said S k) [n] = [] := by simp [pairsOf, e]
      rw [e2, List.append_nil] at hpo
      exact ⟨⟨_, _, _, rfl⟩, s1.trans s2, by rw [hpo]; exact s2 _ _ hd1, by rw [hpo]; exact hnd⟩
    · have e2 : pairsOf (Sw64.said S k) [n] = [(t, n)] := by simp [pairsOf, e]
      rw [e2] at hpo
      refine ⟨_, rfl, rfl, _, rfl, ?_⟩
      refine if_true_of rfl ?_
      refine ⟨_, rfl, p, _, rfl, .inl ⟨SqL.of hp2, fun q hq => ?_⟩⟩
      have s3 := same_new hq (.tup (bnums t))
      have s13 := s1.trans (s2.trans s3)
      have hd3 := s3 _ _ (s2 _ _ hd1)
      have hq3 : upd H2 q (.tup (bnums t)) q = some (.tup ((tkey t).map kV)) := by rw [tkey_v]; exact upd_same
      refine ⟨_, rfl, _, rfl, d, _, rfl, DGet.t hd3 hq3, _, rfl, ?_⟩
      cases hv : valV (kvsOf (pairsOf (Sw64.said S k) (ns.take i))) (tkey t) with
      | some v =>
        refine if_true_of rfl ?_
        obtain ⟨m, hm, rfl⟩ := val_some hv
        obtain ⟨hm1, hm2⟩ := mem_pairsOf.mp hm
        refine ⟨_, rfl, _, rfl, _, rfl, d, _, rfl, (by rw [← hv]; exact DGet.t hd3 hq3), (by show 2 ≤ sizeLine; decide), fun r hr' => ?_⟩
        refine kQ _ r (Same.upd_new s13 (Same.free s13 hr')) (Same.free s13 hr') ?_
        have hsame : Sw64.same S k ns = some (n, m) := by
          rw [same_dup, hsplit]
          exact dup_found (by rw [← hsplit]; exact hp) hnd e hm1 hm2
        rw [hsame]
        exact upd_same
      | none =>
        refine if_false_of rfl ?_
        have hlen : (kvsOf (pairsOf (Sw64.said S k) (ns.take i))).length < sizeLine := by
          unfold kvsOf
          rw [List.length_map, sizeLine_eq]
          have : (pairsOf (Sw64.said S k) (ns.take i)).length ≤ (ns.take i).length := List.length_filterMap_le _ _
          rw [List.length_take] at this
          omega
        refine ⟨_, rfl, _, rfl, _, rfl, d, _, rfl, DPut.t hd3 hq3 hlen, ?_⟩
        have hd0 : H d = none := hd
        refine ⟨⟨_, _, _, rfl⟩, Same.upd_new s13 hd0, ?_, ?_⟩
        · rw [upd_same, putK_new _ hv, hpo]
          unfold kvsOf
          rw [List.map_append] <;> rfl
        · rw [hpo, List.map_append, List.nodup_append]
          refine ⟨hnd, by simp, fun x hx y hy => ?_⟩
          rw [List.map_singleton, List.mem_singleton] at hy
          subst hy
          intro z
          subst z
          obtain ⟨⟨u, m⟩, hm, rfl⟩ := List.mem_map.mp hx
          exact val_none hv m hm
  · rintro σ H1 ⟨⟨v4, v5, v6, rfl⟩, s1, hd1, hnd⟩
    rw [nums_length, List.take_length] at hnd
    refine ⟨(by show 0 ≤ sizeLine; decide), fun r hr' => ?_⟩
    refine kQ _ r (Same.upd_new s1 (Same.free s1 hr')) (Same.free s1 hr') ?_
    rw [same_dup, dup_none hp hnd]
    exact upd_same
end
end Sn
/-! numbers beside one another: longest -/
namespace Sn
open PySem PySem.Spec PyProof.Rows L2
open SpecMath (Good)
section
variable {P : Program} {w : World} {K : PySem.W.Frag} {mg : Str → Option Value} {base : Heap} {A : Ad}
def spLng (A : Ad) (K : PySem.W.Frag) : Sp := fun vs H Q E => ∃ (F : Hp) (st l : Addr) (S : Sw64.Sets) (k : Nat) (ns : List Nat), vs = [.ref st, .int (k : Int), .ref l] ∧ Sets8 A F H st S k ∧ SqL K H l (nums ns) ∧ ns.length ≤ 100000 ∧ (∀ n ∈ ns, n ≤ Sw64.MOST) ∧
  (Sw64.longest S k ns = none → ∀ H', Same H H' → E (.ref A.C_NotSaid) none H') ∧ (∀ x, Sw64.longest S k ns = some x → ∀ H' p, Same H H' → H p = none → H' p = some (.lst (nums [x.1, x.2])) → Q (.ref p) H')
theorem ok_longest_said (T : Top K mg A) : FnOk P w K mg base (L2.CX P w) 56 A.f_longest_said A.d_longest_said P_longest_said (spLng A K) := by
  refine T.F_longest_said.okX sc_longest_said (fun vs H Q E h => ?_) (fun cdv _ outer s H vs Q E hr h => ⟨_, (pss_cons (ps_set (i := 3) sc_longest_said.nd rfl (Or.inl rfl) (pe_lst pa_nil))
    (pss_cons (ps_for (passes_of rfl) rfl (pi_list (pv 2)) (pg_name (i := 4) sc_longest_said.nd rfl (Or.inl rfl))
    (pss_cons (ps_set (i := 5) sc_longest_said.nd rfl (Or.inl rfl) (pe_call (ok_text_or_none T) (hr.mono (by omega)) (by rfl) T.g_text_or_none T.F_text_or_none.kp (b_text_or_none T) .nil pass0 (pa_cons (pv 0) (pa_cons (pv 1) (pa_cons (pv 4) pa_nil)))))
    (pss_one (ps_if (PW.pt (pw_and (pt_cmpR op_notN (pv 5) pe_non (nomark _)) (pw_and1 (PW.pt (pw_or (pt_cmpR (op_eqD hr.units) (pv 3) (pe_lst pa_nil) (nomark _)) (pw_or1 (pt_cmpR op_gt (pe_callB call_len_seq (by rfl) T.n_len PySem.boot_len (pa_cons (pv 5) pa_nil)) (pe_ix ix_list (pv 3) pe_int (fun _ _ => rfl)) (nomark _))))))))
    (pss_one (ps_set (i := 3) sc_longest_said.nd rfl (Or.inl rfl) (pe_lst (pa_cons (pv 4) (pa_cons (pe_callB call_len_seq (by rfl) T.n_len PySem.boot_len (pa_cons (pv 5) pa_nil)) pa_nil)))))
    pss_nil))))
    (pss_cons (ps_if (pt_cmpR (op_eqD hr.units) (pv 3) (pe_lst pa_nil) (nomark _))
    (pss_one (ps_raise rfl (takes_of rfl rfl rfl rfl) (pmk_own0 PySem.F.excBase_Exception T.x_NotSaid T.g_NotSaid T.kp_NotSaid (raises_own T.b_NotSaid T.t_NotSaid) (by exact rfl))))
    pss_nil)
    (pss_one (ps_ret (pv 3)))))), ?_⟩)
  · obtain ⟨_, _, _, _, _, _, rfl, _⟩ := h
    rfl
  obtain ⟨F, st, l, S, k, ns, rfl, h8, hS, hz, hM, kE, kQ⟩ := h
  refine ⟨(by show 0 ≤ sizeLine; decide), fun f0 hf0 => ?_⟩
  refine ⟨_, rfl, l, rfl, ⟨_, (same_new hf0 _).seq hS⟩, for_list (K := K) (a := l) (xs := nums ns)
    (fun i σ H' => ∃ f v4 v5, σ = [some (.ref st), some (.int (k : Int)), some (.ref l), some (.ref f), v4, v5] ∧ Same H H' ∧ H f = none ∧ H' f = some (.lst (nums (two ((ns.take i).foldl (lstep (Sw64.said S k)) none)))))
    ⟨f0, none, none, rfl, same_new hf0 _, hf0, upd_same⟩ (fun i σ H' _ p => by obtain ⟨_, _, _, _, s1, _⟩ := p; exact s1.seq hS) ?_ ?_⟩
  · rintro i x σ H1 hi ⟨f, v4, v5, rfl, s1, ff, hf⟩
    obtain ⟨n, hn, rfl⟩ := nums_getx hi
    have hstep : (ns.take (i + 1)).foldl (lstep (Sw64.said S k)) none = lstep (Sw64.said S k) ((ns.take i).foldl (lstep (Sw64.said S k)) none) n := by rw [take_more hn, List.foldl_append] <;> rfl
    generalize (ns.take i).foldl (lstep (Sw64.said S k)) none = b at hf hstep
    refine ⟨_, rfl, _, rfl, _, rfl, F, st, S, k, n, rfl, h8.mono s1, hM n (List.mem_of_getElem? hn), fun e H2 s2 => ?_, fun t e H2 p s2 fp hp2 => ?_⟩
    · refine ⟨_, rfl, rfl, _, rfl, ?_⟩
      refine if_false_of rfl (if_false_of rfl ?_)
      refine ⟨f, _, _, rfl, s1.trans s2, ff, ?_⟩
      rw [hstep]
      unfold lstep
      rw [e]
      exact s2 _ _ hf
    · have htl : t.length ≤ 320 * cap n := said_len h8.G 50 k n t (Nat.lt_of_le_of_lt (hM n (List.mem_of_getElem? hn)) SpecMath.MOST_lt) (hM n (List.mem_of_getElem? hn)) e
      refine ⟨_, rfl, rfl, _, rfl, ?_⟩
      refine if_true_of rfl ?_
      refine ⟨_, rfl, (by show 0 ≤ sizeLine; decide), fun q hq => ?_⟩
      have s3 := same_new hq (.lst [])
      have hf3 := s3 _ _ (s2 _ _ hf)
      refine ⟨natD (two b), natD [], natD_dp (SqL.of hf3), natD_dp (l := []) (SqL.of upd_same), natD_shaped _, natD_shaped _, _, rfl, ?_⟩
      rw [natD_eqv]
      have s13 := s1.trans (s2.trans s3)
      have take : ∀ b', lstep (Sw64.said S k) b n = b' → b' = some (n, t.length) → tAsg (tLst (tCons (tVar 4) (tCons (tCB (rLen K) (tCons (tVar 5) tNil)) tNil))) (gName 3) { nx := fun σ H' => ∃ f v4 v5, σ = [some (.ref st), some (.int (k : Int)), some (.ref l), some (.ref f), v4, v5] ∧ Same H H' ∧ H f = none ∧ H' f = some (.lst (nums (two ((ns.take (i + 1)).foldl (lstep (Sw64.said S k)) none)))), rt := Q } [some (.ref st), some (.int (k : Int)), some (.ref l), some (.ref f), some (.int (n : Int)), some (.ref p)] (upd H2 q (.lst [])) := by
        intro b' e1 e2
        refine ⟨_, rfl, _, rfl, p, _, rfl, .inl (SqL.of (s3 _ _ hp2)), (by show 2 ≤ sizeLine; decide), fun r hr' => ?_⟩
        refine ⟨r, _, _, rfl, Same.upd_new s13 (Same.free s13 hr'), Same.free s13 hr', ?_⟩
        rw [hstep, e1, e2, upd_same, bnums_length] <;> rfl
      cases b with
      | none =>
        refine if_true_of (by rfl) (if_true_of rfl ?_)
        exact take _ (by unfold lstep; rw [e]) rfl
      | some x =>
        refine if_false_of (by rfl) ?_
        refine ⟨_, rfl, p, _, rfl, .inl (SqL.of (s3 _ _ hp2)), _, rfl, f, _, _, _, rfl, rfl, SqL.of hf3, rfl, _, _, rfl, rfl, _, rfl, ?_⟩
        have el : ((bnums t).length : Int) = (t.length : Int) := by rw [bnums_length]
        refine split_dec (fun c => ?_) (fun c => ?_)
        · have c' : x.2 < t.length := by have c : ((x.2 : Nat) : Int) < ((bnums t).length : Int) := c; omega
          exact take _ (by unfold lstep; rw [e]; simp only; rw [if_pos c']) rfl
        · have c' : ¬ x.2 < t.length := by have c : ¬ ((x.2 : Nat) : Int) < ((bnums t).length : Int) := c; omega
          refine ⟨f, _, _, rfl, s13, ff, ?_⟩
          rw [hstep]
          unfold lstep
          rw [e]
          simp only
          rw [if_neg c']
          exact hf3
  · rintro σ H1 ⟨f, v4, v5, rfl, s1, ff, hf⟩
    rw [nums_length, List.take_length, ← longest_fold] at hf
    refine ⟨_, rfl, (by show 0 ≤ sizeLine; decide), fun q hq => ?_⟩
    have s3 := same_new hq (.lst [])
    have hf3 := s3 _ _ hf
    refine ⟨natD (two (Sw64.longest S k ns)), natD [], natD_dp (SqL.of hf3), natD_dp (l := []) (SqL.of upd_same), natD_shaped _, natD_shaped _, _, rfl, ?_⟩
    rw [natD_eqv]
    cases e : Sw64.longest S k ns with
    | none => exact if_true_of (by rfl) (kE e _ (s1.trans s3))
    | some x =>
      refine if_false_of (by rfl) ⟨_, rfl, kQ x e _ f (s1.trans s3) ff ?_⟩
      rw [hf3, e] <;> rfl
end
end Sn
/-! numbers in the order of their texts -/
namespace Sn
open Sw64
theorem before_irrefl : ∀ a : Bytes, before a a = false
  | [] => rfl
  | x :: a => by simp [before, before_irrefl a]
theorem before_trans : ∀ {a b c : Bytes}, before a b = true → before b c = true → before a c = true
  | [], [], _, h, _ => by cases h
  | [], _ :: _, [], _, h => by cases h
  | [], _ :: _, _ :: _, _, _ => rfl
  | _ :: _, [], _, h, _ => by cases h
  | _ :: _, _ :: _, [], _, h => by cases h
  | x :: a, y :: b, z :: c, h1, h2 => by
    simp only [before, Bool.or_eq_true, Bool.and_eq_true, decide_eq_true_eq, beq_iff_eq] at h1 h2 ⊢
    rcases h1 with h1 | ⟨rfl, h1⟩
    · rcases h2 with h2 | ⟨rfl, h2⟩
      · exact .inl (by omega)
      · exact .inl h1
    · rcases h2 with h2 | ⟨rfl, h2⟩
      · exact .inl h2
      · exact .inr ⟨rfl, before_trans h1 h2⟩
theorem before_tri : ∀ {a b : Bytes}, before a b = false → before b a = false → a = b
  | [], [], _, _ => rfl
  | [], _ :: _, h, _ => by cases h
  | _ :: _, [], _, h => by cases h
  | x :: a, y :: b, h1, h2 => by
    simp only [before, Bool.or_eq_false_iff, Bool.and_eq_false_iff, decide_eq_false_iff_not, beq_eq_false_iff_ne] at h1 h2
    have e : x = y := by
      apply UInt8.toNat_inj.mp
      omega
    subst e
    rw [before_tri (a := a) (b := b) (by rcases h1.2 with h | h; exact absurd rfl h; exact h) (by rcases h2.2 with h | h; exact absurd rfl h; exact h)]
abbrev ON := Option Bytes × Nat
theorem ahead_irrefl (x : ON) : ahead x x = false := by
  obtain ⟨a, n⟩ := x
  cases a <;> simp [ahead, before_irrefl]
theorem ahead_trans {x y z : ON} (h1 : ahead x y = true) (h2 : ahead y z = true) : ahead x z = true := by
  obtain ⟨a, n⟩ := x
  obtain ⟨b, m⟩ := y
  obtain ⟨c, k⟩ := z
  cases a <;> cases b <;> cases c <;> simp [ahead] at h1 h2 ⊢
  · omega
  · rename_i a b c
    rcases h1 with h1 | ⟨rfl, h1⟩
    · rcases h2 with h2 | ⟨rfl, h2⟩
      · exact .inl (before_trans h1 h2)
      · exact .inl h1
    · rcases h2 with h2 | ⟨rfl, h2⟩
      · exact .inl h2
      · exact .inr ⟨rfl, by omega⟩
theorem ahead_tri {x y : ON} (h1 : ahead x y = false) (h2 : ahead y x = false) : x = y := by
  obtain ⟨a, n⟩ := x
  obtain ⟨b, m⟩ := y
  cases a <;> cases b <;> simp [ahead] at h1 h2
  · have : n = m := by omega
    rw [this]
  · rename_i a b
    have e := before_tri h1.1 h2.1
    subst e
    have : n = m := by have a := h1.2 rfl; have b := h2.2 rfl; omega
    rw [this]
theorem ahead_asymm {x y : ON} (h : ahead x y = true) : ahead y x = false := by
  cases e : ahead y x with
  | false => rfl
  | true => have := ahead_trans h e; rw [ahead_irrefl] at this; cases this
/-- not behind -/
def ole (x y : ON) : Prop := ahead y x = false
theorem ole_trans {x y z : ON} (h1 : ole x y) (h2 : ole y z) : ole x z := by
  show ahead z x = false
  cases e : ahead z x with
  | false => rfl
  | true =>
    cases e2 : ahead x y with
    | true => have := ahead_trans e e2; rw [h2] at this; cases this
    | false =>
      have : x = y := ahead_tri e2 h1
      subst this
      rw [h2] at e; cases e
theorem put_mem (x y : ON) : ∀ l, y ∈ put x l ↔ y = x ∨ y ∈ l
  | [] => by simp [put]
  | z :: l => by
    unfold put
    split
    · simp
    · rw [List.mem_cons, put_mem x y l, List.mem_cons]
      constructor
      · rintro (h | h | h) <;> simp [h]
      · rintro (h | h | h) <;> simp [h]
theorem put_perm (x : ON) : ∀ l, (put x l).Perm (x :: l)
  | [] => .refl _
  | z :: l => by
    unfold put
    split
    · exact .refl _
    · exact ((put_perm x l).cons z).trans (.swap x z l)
theorem put_sorted (x : ON) : ∀ {l}, l.Pairwise ole → (put x l).Pairwise ole
  | [], _ => by simp [put]
  | z :: l, h => by
    rw [List.pairwise_cons] at h
    unfold put
    split
    · rename_i c
      have hxz : ole x z := ahead_asymm c
      rw [List.pairwise_cons]
      refine ⟨fun y hy => ?_, List.pairwise_cons.mpr h⟩
      rcases List.mem_cons.mp hy with rfl | hy
      · exact hxz
      · exact ole_trans hxz (h.1 y hy)
    · rename_i c
      rw [List.pairwise_cons]
      refine ⟨fun y hy => ?_, put_sorted x h.2⟩
      rcases (put_mem x y l).mp hy with rfl | hy
      · exact Bool.eq_false_iff.mpr c
      · exact h.1 y hy
theorem puts : ∀ (l acc : List ON), acc.Pairwise ole → (l.foldl (fun m x => put x m) acc).Pairwise ole ∧ (l.foldl (fun m x => put x m) acc).Perm (l ++ acc)
  | [], acc, h => ⟨h, .refl _⟩
  | x :: l, acc, h => by
    obtain ⟨h1, h2⟩ := puts l (put x acc) (put_sorted x h)
    refine ⟨h1, h2.trans ?_⟩
    exact ((put_perm x acc).append_left l).trans List.perm_middle
theorem sorted_eq : ∀ {l m : List ON}, l.Perm m → l.Pairwise ole → m.Pairwise ole → l = m
  | [], m, h, _, _ => (List.Perm.nil_eq h)
  | x :: l, [], h, _, _ => by have := h.length_eq; simp at this
  | x :: l, y :: m, h, h1, h2 => by
    rw [List.pairwise_cons] at h1 h2
    have e : x = y := by
      have hx := h.mem_iff.mp (List.mem_cons_self (a := x) (l := l))
      have hy := h.mem_iff.mpr (List.mem_cons_self (a := y) (l := m))
      rcases List.mem_cons.mp hx with e | hx
      · exact e
      · rcases List.mem_cons.mp hy with e | hy
        · exact e.symm
        · exact ahead_tri (h2.1 x hx |> fun z => z) (h1.1 y hy) |> fun z => z
    subst e
    rw [sorted_eq ((List.perm_cons x).mp h) h1.2 h2.2]
theorem split_perm (f : Nat → Option Bytes) : ∀ l : List Nat, ((pairsOf f l).map (fun x => ((some x.1, x.2) : ON)) ++ (l.filter fun n => (f n).isNone).map fun n => ((none, n) : ON)).Perm (l.map fun n => (f n, n))
  | [] => .refl _
  | n :: l => by
    have ih := split_perm f l
    cases e : f n with
    | none =>
      have e1 : pairsOf f (n :: l) = pairsOf f l := by simp [pairsOf, e]
      rw [e1, List.filter_cons_of_pos (by rw [e]; rfl), List.map_cons, List.map_cons, e]
      exact List.perm_middle.trans (ih.cons _)
    | some t =>
      have e1 : pairsOf f (n :: l) = (t, n) :: pairsOf f l := by simp [pairsOf, e]
      rw [e1, List.filter_cons_of_neg (by rw [e]; simp), List.map_cons, List.map_cons, List.cons_append, e]
      exact ih.cons _
/-- **in order**: the said ones in order, then the others rising -/
theorem order_eq {S : Sets} {k : Nat} {l : List Nat} {sd : List (Bytes × Nat)} {us : List Nat} (h1 : sd.Perm (pairsOf (said S k) l)) (h2 : sd.Pairwise fun x y => ole (some x.1, x.2) (some y.1, y.2)) (h3 : us.Perm (l.filter fun n => (said S k n).isNone)) (h4 : us.Pairwise (· ≤ ·)) :
    inOrder S k l = sd.map (fun x => x.2) ++ us := by
  obtain ⟨p1, p2⟩ := puts (l.map fun n => (said S k n, n)) [] .nil
  have e : (l.map fun n => (said S k n, n)).foldl (fun m x => put x m) [] = sd.map (fun x => ((some x.1, x.2) : ON)) ++ us.map fun n => ((none, n) : ON) := by
    refine sorted_eq ?_ p1 ?_
    · rw [List.append_nil] at p2
      exact p2.trans ((split_perm (said S k) l).symm.trans ((h1.map _).append (h3.map _)).symm)
    · rw [List.pairwise_append, List.pairwise_map, List.pairwise_map]
      refine ⟨h2, h4.imp fun {a b} h => ?_, fun x hx y hy => ?_⟩
      · show decide (b < a) = false
        exact decide_eq_false (by omega)
      · obtain ⟨u, _, rfl⟩ := List.mem_map.mp hx
        obtain ⟨v, _, rfl⟩ := List.mem_map.mp hy
        rfl
  unfold inOrder
  rw [e, List.map_append, List.map_map, List.map_map]
  congr 1
  exact List.map_id' us
end Sn
/-! sorted of pairs of a list of bytes and a number -/
namespace Sn
open PySem PySem.Spec PyProof.Rows L2
open PySem.W (EachIs AllAlike Sortable alike alikeAll dataLt dataLe)
abbrev TN := Addr × Sw64.Bytes × Nat
def encTN (b : TN) : PyData := .tuple [natD (b.2.1.map UInt8.toNat), .int (b.2.2 : Int)]
def rSortedTN (K : PySem.W.Frag) : List V → Hp → VK → Prop := fun vs H Q => ∃ (a : Addr) (bs : List TN), vs = [V.ref a] ∧ SqL K H a (refs (bs.map fun b => b.1)) ∧
  (∀ b ∈ bs, ∃ la, H b.1 = some (.tup [.ref la, .int (b.2.2 : Int)]) ∧ H la = some (.lst (bnums b.2.1))) ∧ bs.length ≤ 100000 ∧
  ∀ p, H p = none → Q (.ref p) (upd H p (.lst (refs ((bs.mergeSort (dataLe false encTN)).map fun b => b.1))))
theorem natD_int (l : List Nat) : natD l = .list ((l.map fun (n : Nat) => (n : Int)).map .int) := by unfold natD; rw [List.map_map] <;> rfl
theorem alike_natD (l m : List Nat) : alike (natD l) (natD m) = true := by
  rw [natD_int, natD_int]
  exact PySem.W.alike_ints _ _
theorem vals_refs : ∀ {as : List Addr} {us : List Value}, Vals (refs as) us → us = as.map Value.ref
  | [], _, .nil => rfl
  | a :: as, _, .cons r t => by
    have e := vals_refs (as := as) t
    cases r
    rw [e] <;> rfl
theorem refs_vals : ∀ as : List Addr, Vals (refs as) (as.map Value.ref)
  | [] => .nil
  | _ :: as => .cons rfl (refs_vals as)
theorem each_of {β : Type} {R : Value → β → Prop} {f : β → Value} : ∀ {bs : List β}, (∀ b ∈ bs, R (f b) b) → EachIs R (bs.map f) bs
  | [], _ => .nil
  | b :: bs, h => .cons (h b List.mem_cons_self) (each_of fun c hc => h c (List.mem_cons_of_mem _ hc))
theorem each_eq {β : Type} {f : β → Value} : ∀ {bs : List β} {out : List Value}, EachIs (fun v b => v = f b) out bs → out = bs.map f
  | [], _, .nil => rfl
  | b :: bs, _, .cons r t => by rw [r, each_eq t] <;> rfl
theorem cr_sortedTN {X : Cx} (hu : X.A.units + 64 < cLine) : CallR X (.builtin "sorted") (rSortedTN X.K) := by
  intro pins s σ H vs us Q I r h
  obtain ⟨a, bs, rfl, hs, hp, hz, q⟩ := h
  obtain ⟨its, rv, hl, hzz⟩ := I.list hs
  rw [Vals.ref1 r]
  have hits : its = bs.map fun b => Value.ref b.1 := by rw [vals_refs rv, List.map_map] <;> rfl
  have hrd : ∀ b ∈ bs, ∃ as, Reads s.heap (Value.ref b.1) (encTN b) as := fun b hb => by
    obtain ⟨la, h1, h2⟩ := hp b hb
    exact Dp.reads I (encTN b) (.ref b.1) (.ref b.1) (.tup (SqT.of h1) (.cons (natD_dp (SqL.of h2)) (.cons (.int _) .nil))) rfl
  have hdep : ∀ b : TN, (encTN b).depth = 2 := fun b => by
    show max (PyData.depthAll _ + 1) (max 0 0) + 1 = 2
    rw [natD_deep] <;> rfl
  subst hits
  refine PySem.W.sorted_data (R := fun v b => v = Value.ref b.1) (enc := encTN) (bs := bs) hl.isList (each_of fun b _ => rfl) (each_of hrd) (AllAlike.of fun b b' => ?_) (Sortable.tuples fun b => ⟨_, _, rfl⟩) (by rw [sizeLine_eq]; omega) (fun b _ => by rw [hdep]; omega) fun out hlen he => ?_
  · show (alike _ _ && (alike _ _ && true)) = true
    rw [alike_natD] <;> rfl
  · obtain ⟨ep, he'⟩ := PyProof.Rows.sortedAll_at s.heap (bs.map fun b => Value.ref b.1) out.toArray
    have ho := each_eq he
    have hlen2 : (refs ((bs.mergeSort (dataLe false encTN)).map fun b => b.1)).length ≤ sizeLine := by
      rw [refs_length, List.length_map, List.length_mergeSort, sizeLine_eq]; omega
    have hv : Vals (refs ((bs.mergeSort (dataLe false encTN)).map fun b => b.1)) out := by
      have := refs_vals ((bs.mergeSort (dataLe false encTN)).map fun b => b.1)
      rw [List.map_map] at this
      rw [ho]; exact this
    exact ⟨.ref _, upd H (s.heap.objs.size + 1) (.lst _), I.laid (t' := s.toks) (fun _ _ => PyProof.Rows.sortedAll_old) (Nat.le_succ _) ⟨hlen2, out, ep, hv, he'⟩, rfl, q _ (I.hok.fresh (Nat.le_succ _))⟩
/-! ### the order in plain words -/
theorem before_int : ∀ b c : Sw64.Bytes, Sw64.before b c = decide ((b.map UInt8.toNat).map (fun (n : Nat) => (n : Int)) < (c.map UInt8.toNat).map (fun (n : Nat) => (n : Int)))
  | [], [] => rfl
  | [], _ :: _ => by simp [Sw64.before]
  | _ :: _, [] => by simp [Sw64.before]
  | x :: b, y :: c => by
    have ih := before_int b c
    rw [Sw64.before, ih]
    simp only [List.map_cons, List.cons_lt_cons_iff]
    by_cases h : x.toNat < y.toNat
    · have h' : (x.toNat : Int) < (y.toNat : Int) := by omega
      simp [h, h']
    · have h' : ¬ (x.toNat : Int) < (y.toNat : Int) := by omega
      by_cases e : x = y
      · subst e; simp
      · have e' : ¬ x.toNat = y.toNat := fun z => e (UInt8.toNat_inj.mp z)
        have e2 : ¬ (x.toNat : Int) = (y.toNat : Int) := by omega
        simp [h, h', e, e2]
theorem lt_natD (b c : Sw64.Bytes) : dataLt (natD (b.map UInt8.toNat)) (natD (c.map UInt8.toNat)) = Sw64.before b c := by
  rw [before_int, natD_int, natD_int, PySem.W.dataLt_list]
  exact PySem.W.dataLt_ints _ _
theorem map_toNat_inj {b c : Sw64.Bytes} (h : b.map UInt8.toNat = c.map UInt8.toNat) : b = c := by
  induction b generalizing c with
  | nil => cases c with
    | nil => rfl
    | cons _ _ => cases h
  | cons x b ih => cases c with
    | nil => cases h
    | cons y c =>
      injection h with h1 h2
      rw [UInt8.toNat_inj.mp h1, ih h2]
theorem dataLe_tn (b c : TN) : dataLe false encTN b c = !Sw64.ahead (some c.2.1, c.2.2) (some b.2.1, b.2.2) := by
  rw [PySem.W.dataLe_eq]
  show (!dataLt (encTN c) (encTN b)) = _
  congr 1
  unfold encTN
  rw [PySem.W.dataLt_pair (alike_natD _ _) rfl, natD_eqv, lt_natD]
  show _ = (Sw64.before c.2.1 b.2.1 || (c.2.1 == b.2.1 && decide (c.2.2 < b.2.2)))
  by_cases e : c.2.1 = b.2.1
  · rw [e, decide_eq_true rfl, if_pos rfl, PySem.W.dataLt_int]
    show (if ((c.2.2 : Int) == (b.2.2 : Int)) = true then false else decide ((c.2.2 : Int) < (b.2.2 : Int))) = _
    rw [before_irrefl]
    by_cases h : c.2.2 = b.2.2
    · rw [h]; simp
    · have h' : ¬ (c.2.2 : Int) = (b.2.2 : Int) := by omega
      by_cases h2 : c.2.2 < b.2.2
      · have h3 : (c.2.2 : Int) < (b.2.2 : Int) := by omega
        simp [h', h2, h3]
      · have h3 : ¬ (c.2.2 : Int) < (b.2.2 : Int) := by omega
        simp [h', h2, h3]
  · rw [decide_eq_false (fun z => e (map_toNat_inj z)), if_neg (by decide)]
    simp [e]
/-- what sorted gives is in order -/
theorem sorted_tn (bs : List TN) : ((bs.mergeSort (dataLe false encTN)).map fun b => (b.2.1, b.2.2)).Pairwise fun x y => ole (some x.1, x.2) (some y.1, y.2) := by
  rw [List.pairwise_map]
  have h := List.pairwise_mergeSort (le := dataLe false encTN) (fun a b c h1 h2 => ?_) (fun a b => ?_) bs
  · exact h.imp fun {a b} h => by
      rw [dataLe_tn] at h
      exact by simpa [ole] using h
  · rw [dataLe_tn] at h1 h2 ⊢
    have h1 : ole (some a.2.1, a.2.2) (some b.2.1, b.2.2) := by simpa [ole] using h1
    have h2 : ole (some b.2.1, b.2.2) (some c.2.1, c.2.2) := by simpa [ole] using h2
    have : ole (some a.2.1, a.2.2) (some c.2.1, c.2.2) := ole_trans h1 h2
    rw [show Sw64.ahead (some c.2.1, c.2.2) (some a.2.1, a.2.2) = false from this] <;> rfl
  · rw [dataLe_tn, dataLe_tn]
    cases e : Sw64.ahead (some b.2.1, b.2.2) (some a.2.1, a.2.2) with
    | false => rfl
    | true => rw [ahead_asymm e] <;> rfl
end Sn
/-! numbers beside one another: in the order of their texts -/
namespace Sn
open PySem PySem.Spec PyProof.Rows L2
open SpecMath (Good)
open PySem.W (dataLe)
theorem nums_ints (l : List Nat) : nums l = (l.map fun (n : Nat) => (n : Int)).map V.int := by unfold nums; rw [List.map_map] <;> rfl
theorem nums_append (a b : List Nat) : nums (a ++ b) = nums a ++ nums b := by unfold nums; rw [List.map_append]
theorem nat_ints {l : List Nat} {zs : List Int} (h : zs.Perm (l.map fun (n : Nat) => (n : Int))) (hp : zs.Pairwise (· ≤ ·)) : ∃ us : List Nat, us.Perm l ∧ us.Pairwise (· ≤ ·) ∧ zs.map V.int = nums us := by
  refine ⟨zs.map Int.toNat, ?_, ?_, ?_⟩
  · have := h.map Int.toNat
    rw [List.map_map] at this
    have e : l.map (Int.toNat ∘ fun (n : Nat) => (n : Int)) = l := by
      exact (List.map_congr_left (g := id) fun n _ => rfl).trans (List.map_id l)
    rw [e] at this; exact this
  · rw [List.pairwise_map]
    exact hp.imp fun h => by omega
  · unfold nums
    rw [List.map_map]
    refine List.map_congr_left fun z hz => ?_
    have := h.mem_iff.mp hz
    obtain ⟨n, _, rfl⟩ := List.mem_map.mp this
    rfl
section
variable {P : Program} {w : World} {K : PySem.W.Frag} {mg : Str → Option Value} {base : Heap} {A : Ad}
def spBtt (A : Ad) (K : PySem.W.Frag) : Sp := fun vs H Q _ => ∃ (F : Hp) (st l : Addr) (S : Sw64.Sets) (k : Nat) (ns : List Nat), vs = [.ref st, .int (k : Int), .ref l] ∧ Sets8 A F H st S k ∧ SqL K H l (nums ns) ∧ ns.length ≤ 1000 ∧ (∀ n ∈ ns, n ≤ Sw64.MOST) ∧
  ∀ H' p, Same H H' → H p = none → H' p = some (.lst (nums (Sw64.inOrder S k ns))) → Q (.ref p) H'
def TNAt (H : Hp) (b : TN) : Prop := ∃ la, H b.1 = some (.tup [.ref la, .int (b.2.2 : Int)]) ∧ H la = some (.lst (bnums b.2.1))
theorem TNAt.mono {H H' : Hp} {b : TN} (h : TNAt H b) (e : Same H H') : TNAt H' b := let ⟨la, h1, h2⟩ := h; ⟨la, e _ _ h1, e _ _ h2⟩
theorem Wo2.mono {H1 H2 : Hp} {D E : Addr} (h : ∀ b o, b ≠ D → b ≠ E → H1 b = some o → H2 b = some o) : Same (Wo (Wo H1 D) E) (Wo (Wo H2 D) E) :=
  Wo.mono fun b o n q => by
    have nD : b ≠ D := fun z => by rw [z, Wo.eq] at q; cases q
    rw [Wo.ne nD] at q ⊢
    exact h b o nD n q
theorem ok_by_their_texts (T : Top K mg A) : FnOk P w K mg base CX0 56 A.f_by_their_texts A.d_by_their_texts P_by_their_texts (spBtt A K) := by
  refine T.F_by_their_texts.ok sc_by_their_texts (fun vs H Q E h => ?_) (fun cdv _ outer s H vs Q E hr h => ⟨_, (pss_cons (ps_set (i := 3) sc_by_their_texts.nd rfl (Or.inl rfl) (pe_lst pa_nil))
    (pss_cons (ps_set (i := 4) sc_by_their_texts.nd rfl (Or.inl rfl) (pe_lst pa_nil))
    (pss_cons (ps_for PassesOwn.never rfl (pi_list (pv 2)) (pg_name (i := 5) sc_by_their_texts.nd rfl (Or.inl rfl))
    (pss_cons (ps_set (i := 6) sc_by_their_texts.nd rfl (Or.inl rfl) (pe_call (ok_text_or_none T) (hr.mono (by omega)) (by rfl) T.g_text_or_none T.F_text_or_none.kp (b_text_or_none T) .nil pass0 (pa_cons (pv 0) (pa_cons (pv 1) (pa_cons (pv 5) pa_nil)))))
    (pss_one (ps_if (pt_cmpR op_isN (pv 6) pe_non (nomark _))
    (pss_one (ps_expr (pe_bm PySem.F.plainAttrs_list PySem.F.slot_list_append PySem.F.type_list_append mt_append (pv 4) (pa_cons (pv 5) pa_nil))))
    (pss_one (ps_expr (pe_bm PySem.F.plainAttrs_list PySem.F.slot_list_append PySem.F.type_list_append mt_append (pv 3) (pa_cons (pe_tup (pa_cons (pv 6) (pa_cons (pv 5) pa_nil))) pa_nil))))))))
    (pss_one (ps_ret (pe_op op_cat (by exact (pe_lc (own := [("pair", 7)]) (g := gName 7) (tt := tYes) (te := tOp (rIxT K) (tVar 7) (tC (.int 1))) rfl sc_by_their_texts.nd (pi_list (pe_callB (cr_sortedTN hr.units) (by rfl) T.n_sorted (by decide +kernel) (pa_cons (pv 3) pa_nil))) (blkOk_by (own := [("pair", 7)]) (N := N_by_their_texts) (sc := defScope s_by_their_texts) (by decide +kernel)) (fun _ _ _ _ _ => pg_name (i := 7) sc_by_their_texts.nd rfl (Or.inl rfl)) (fun _ _ _ _ _ => by exact (pts_nil)) (fun _ _ _ _ _ => by exact (pe_ix ix_tup (pv 7) pe_int (fun _ _ => rfl))))) (pe_callB cr_sortedI (by rfl) T.n_sorted (by decide +kernel) (pa_cons (pv 4) pa_nil)))))))), ?_⟩)
  · obtain ⟨_, _, _, _, _, _, rfl, _⟩ := h
    rfl
  obtain ⟨F, st, l, S, k, ns, rfl, h8, hS, hz, hM, kQ⟩ := h
  refine ⟨(by show 0 ≤ sizeLine; decide), fun D hD => ?_⟩
  refine ⟨(by show 0 ≤ sizeLine; decide), fun N hN => ?_⟩
  have nDN : D ≠ N := ne_of_none upd_same hN
  have fN : H N = none := by rwa [upd_ne nDN.symm] at hN
  have s0 : Same H (upd (upd H D (.lst [])) N (.lst [])) := Same.upd_new (same_new hD _) fN
  refine ⟨_, rfl, l, rfl, ⟨_, s0.seq hS⟩, for_list (K := K) (a := l) (xs := nums ns)
    (fun i σ H' => (∃ v5 v6, σ = [some (.ref st), some (.int (k : Int)), some (.ref l), some (.ref D), some (.ref N), v5, v6, none]) ∧ Same H H' ∧ H' N = some (.lst (nums ((ns.take i).filter fun n => (Sw64.said S k n).isNone))) ∧
      ∃ bs : List TN, H' D = some (.lst (refs (bs.map fun b => b.1))) ∧ (bs.map fun b => (b.2.1, b.2.2)) = pairsOf (Sw64.said S k) (ns.take i) ∧ ∀ b ∈ bs, TNAt (Wo (Wo H' D) N) b)
    ⟨⟨none, none, rfl⟩, s0, upd_same, [], (upd_ne nDN).trans upd_same, rfl, fun b hb => by cases hb⟩ (fun i σ H' _ p => p.2.1.seq hS) ?_ ?_⟩
  · rintro i x σ H1 hi ⟨⟨v5, v6, rfl⟩, s1, hN1, bs, hD1, hbs, hat⟩
    obtain ⟨n, hn, rfl⟩ := nums_getx hi
    have hlt := (List.getElem?_eq_some_iff.mp hn).1
    have hpo : pairsOf (Sw64.said S k) (ns.take (i + 1)) = pairsOf (Sw64.said S k) (ns.take i) ++ pairsOf (Sw64.said S k) [n] := by rw [take_more hn, pairsOf_append]
    have hfo : (ns.take (i + 1)).filter (fun n => (Sw64.said S k n).isNone) = (ns.take i).filter (fun n => (Sw64.said S k n).isNone) ++ [n].filter (fun n => (Sw64.said S k n).isNone) := by rw [take_more hn, List.filter_append]
    refine ⟨_, rfl, _, rfl, _, rfl, F, st, S, k, n, rfl, h8.mono s1, hM n (List.mem_of_getElem? hn), fun e H2 s2 => ?_, fun t e H2 p s2 fp hp2 => ?_⟩
    · have e2 : pairsOf (Sw64.said S k) [n] = [] := by simp [pairsOf, e]
      have e3 : [n].filter (fun n => (Sw64.said S k n).isNone) = [n] := by simp [e]
      rw [e2, List.append_nil] at hpo
      rw [e3] at hfo
      have hN2 := s2 _ _ hN1
      have hlen : ((ns.take i).filter fun n => (Sw64.said S k n).isNone).length ≤ ns.length := Nat.le_trans (List.length_filter_le _ _) (by rw [List.length_take]; omega)
      refine ⟨_, rfl, rfl, _, rfl, if_true_of rfl ?_⟩
      refine ⟨_, rfl, .inl ⟨rfl, _, SqL.of hN2⟩, _, rfl, N, _, _, rfl, rfl, hN2, (by rw [nums_length, sizeLine_eq]; omega), ?_⟩
      refine ⟨⟨_, _, rfl⟩, Same.upd_new (s1.trans s2) fN, ?_, bs, (upd_ne nDN).trans (s2 _ _ hD1), by rw [hpo]; exact hbs, fun b hb => (hat b hb).mono (Wo2.mono fun b o _ nN q => (upd_ne nN).trans (s2 _ _ q))⟩
      rw [upd_same, hfo, nums_append] <;> rfl
    · have e2 : pairsOf (Sw64.said S k) [n] = [(t, n)] := by simp [pairsOf, e]
      have e3 : [n].filter (fun n => (Sw64.said S k n).isNone) = [] := by simp [e]
      rw [e2] at hpo
      rw [e3, List.append_nil] at hfo
      have hD2 := s2 _ _ hD1
      have hblen : bs.length ≤ ns.length := by
        have := congrArg List.length hbs
        rw [List.length_map] at this
        rw [this]
        exact Nat.le_trans (List.length_filterMap_le _ _) (by rw [List.length_take]; omega)
      refine ⟨_, rfl, rfl, _, rfl, if_false_of rfl ?_⟩
      refine ⟨_, rfl, .inl ⟨rfl, _, SqL.of hD2⟩, _, rfl, _, rfl, (by show 2 ≤ sizeLine; decide), fun q hq => ?_⟩
      have s3 := same_new hq (.tup [.ref p, .int (n : Int)])
      have hD3 := s3 _ _ hD2
      have hN3 := s3 _ _ (s2 _ _ hN1)
      have s13 := s1.trans (s2.trans s3)
      have nqD : q ≠ D := fun z => by rw [z] at hq; rw [hq] at hD2; cases hD2
      have nqN : q ≠ N := fun z => by rw [z] at hq; have := s2 _ _ hN1; rw [hq] at this; cases this
      have npD : p ≠ D := fun z => by rw [z] at fp; rw [fp] at hD1; cases hD1
      have npN : p ≠ N := fun z => by rw [z] at fp; rw [fp] at hN1; cases hN1
      refine ⟨D, _, _, rfl, rfl, hD3, (by rw [refs_length, List.length_map, sizeLine_eq]; omega), ?_⟩
      refine ⟨⟨_, _, rfl⟩, Same.upd_new s13 hD, (upd_ne nDN.symm).trans (by rw [hfo]; exact hN3), bs ++ [(q, t, n)], ?_, ?_, fun b hb => ?_⟩
      · rw [upd_same, List.map_append]; unfold refs; rw [List.map_append] <;> rfl
      · rw [List.map_append, hbs, hpo] <;> rfl
      · rcases List.mem_append.mp hb with hb | hb
        · exact (hat b hb).mono (Wo2.mono fun b o nD nN q => (upd_ne nD).trans (s3 _ _ (s2 _ _ q)))
        · rw [List.mem_singleton.mp hb]
          refine ⟨p, ?_, ?_⟩
          · show Wo (Wo _ D) N q = _
            rw [Wo.ne nqN, Wo.ne nqD, upd_ne nqD, upd_same]
          · show Wo (Wo _ D) N p = _
            rw [Wo.ne npN, Wo.ne npD, upd_ne npD]
            exact s3 _ _ hp2
  · rintro σ H1 ⟨⟨v5, v6, rfl⟩, s1, hN1, bs, hD1, hbs, hat⟩
    rw [nums_length, List.take_length] at hN1 hbs
    have hat1 : ∀ b ∈ bs, TNAt H1 b := fun b hb => (hat b hb).mono fun _ _ q => Wo.same _ _ (Wo.same _ _ q)
    have hblen : bs.length ≤ ns.length := by
      have := congrArg List.length hbs
      rw [List.length_map] at this
      rw [this]
      exact List.length_filterMap_le _ _
    refine ⟨_, rfl, D, bs, rfl, SqL.of hD1, hat1, by omega, fun p1 hp1 => ?_⟩
    have s2 := same_new hp1 (.lst (refs ((bs.mergeSort (dataLe false encTN)).map fun b => b.1)))
    have hbs2 : All2 (fun a (b : TN) => ∃ la, upd H1 p1 (.lst (refs ((bs.mergeSort (dataLe false encTN)).map fun b => b.1))) a = some (.tup [.ref la, .int (b.2.2 : Int)])) ((bs.mergeSort (dataLe false encTN)).map fun b => b.1) (bs.mergeSort (dataLe false encTN)) := by
      refine All2.of (by rw [List.length_map]) fun i a b h1 h2 => ?_
      rw [List.getElem?_map, h2] at h1
      have e : b.1 = a := Option.some.inj h1
      subst e
      obtain ⟨la, q1, _⟩ := hat1 b ((List.mergeSort_perm bs _).mem_iff.mp (List.mem_of_getElem? h2))
      exact ⟨la, s2 _ _ q1⟩
    refine ⟨p1, rfl, ⟨_, SqL.of upd_same⟩, fun D2 hD2 => lc_objs hD2 (SqL.of upd_same) (by rw [List.length_map, List.length_mergeSort]; omega) hbs2 (fun _ => true) (fun b => V.int (b.2.2 : Int)) (fun _ => rfl) (fun a b hb H2 s3 R q => q H2 Same.rfl) (fun a b hb _ H2 s3 R q => ?_) (fun H2 s3 hD3 => ?_)⟩
    · obtain ⟨la, q1⟩ := hb
      exact ⟨_, rfl, a, _, _, _, rfl, rfl, SqT.of (s3 _ _ q1), rfl, q H2 Same.rfl⟩
    · have s13 := s1.trans (s2.trans s3)
      have hN3 := s3 _ _ (s2 _ _ hN1)
      refine ⟨_, rfl, N, _, rfl, SqL.of (by rw [hN3, nums_ints]), fun zs p2 hz1 hz2 hp2 => ?_⟩
      obtain ⟨us, u1, u2, u3⟩ := nat_ints hz1 hz2
      have s4 := same_new hp2 (.lst (zs.map V.int))
      have hl1 : (bs.filter fun _ => true).length ≤ bs.length := List.length_filter_le _ _
      have hl2 : zs.length ≤ ns.length := by
        rw [hz1.length_eq, List.length_map]
        exact List.length_filter_le _ _
      refine ⟨D2, p2, _, _, rfl, rfl, s4 _ _ hD3, upd_same, ?_, fun p3 hp3 => ?_⟩
      · rw [List.length_map, List.length_map, List.filter_eq_self.mpr (fun _ _ => rfl), List.length_mergeSort, sizeLine_eq]; omega
      · have s15 := s13.trans s4
        refine kQ _ p3 (Same.upd_new s15 (Same.free s15 hp3)) (Same.free s15 hp3) ?_
        rw [upd_same, u3, List.filter_eq_self.mpr (fun _ _ => rfl)]
        have hord := order_eq (S := S) (k := k) (l := ns) (sd := (bs.mergeSort (dataLe false encTN)).map fun b => (b.2.1, b.2.2)) (us := us) (by
          rw [← hbs]; exact (List.mergeSort_perm bs _).map _) (sorted_tn bs) u1 u2
        rw [hord, nums_append, List.map_map]
        unfold nums
        rw [List.map_map] <;> rfl
end
end Sn
/-! the calls: what they share -/
namespace Sn
open PySem PySem.Spec PyProof.Rows L2
open SpecMath (Good)
section
variable {P : Program} {w : World} {K : PySem.W.Frag} {mg : Str → Option Value} {base : Heap} {A : Ad}
def spListed (A : Ad) : Sp := fun vs H Q _ => ∃ (l : Addr) (ns : List Nat), vs = [.ref l] ∧ H l = some (.lst (nums ns)) ∧ ns.length ≤ 10000000 ∧ ∀ H' p, Same H H' → H p = none → H' p = some (.lst (nums (ns.length :: ns.length :: ns))) → Q (.ref p) H'
theorem ok_listed (T : Top K mg A) : FnOk P w K mg base CX0 1 A.f_listed A.d_listed P_listed (spListed A) := by
  refine T.F_listed.ok sc_listed (fun vs H Q E h => ?_) (fun cdv _ outer s H vs Q E hr h => ⟨_, (pss_one (ps_ret (pe_op op_cat (pe_lst (pa_cons (pe_callB call_len_seq (by rfl) T.n_len PySem.boot_len (pa_cons (pv 0) pa_nil)) (pa_cons (pe_callB call_len_seq (by rfl) T.n_len PySem.boot_len (pa_cons (pv 0) pa_nil)) pa_nil))) (pv 0)))), ?_⟩)
  · obtain ⟨_, _, rfl, _⟩ := h
    rfl
  obtain ⟨l, ns, rfl, hl, hz, k⟩ := h
  refine ⟨_, rfl, l, _, rfl, .inl (SqL.of hl), _, rfl, l, _, rfl, .inl (SqL.of hl), (by show 2 ≤ sizeLine; decide), fun p hp => ?_⟩
  have s1 := same_new hp (.lst [.int ((nums ns).length : Int), .int ((nums ns).length : Int)])
  refine ⟨_, rfl, p, l, _, _, rfl, rfl, upd_same, s1 _ _ hl, (by rw [nums_length, sizeLine_eq]; show 2 + _ ≤ _; omega), fun q hq => ?_⟩
  refine k _ q (Same.upd_new s1 (Same.free s1 hq)) (Same.free s1 hq) ?_
  rw [upd_same, nums_length] <;> rfl
def spChk (A : Ad) (ok : Nat → Bool) : Sp := fun vs H Q E => ∃ n : Nat, vs = [.int (n : Int)] ∧ (ok n = false → E (.ref A.C_NotAsTold) none H) ∧ (ok n = true → Q .non H)
theorem ok_check_set (T : Top K mg A) : FnOk P w K mg base (L2.CX P w) 1 A.f_check_set A.d_check_set P_check_set (spChk A fun n => decide (n < 8)) := by
  refine T.F_check_set.okX sc_check_set (fun vs H Q E h => ?_) (fun cdv _ outer s H vs Q E hr h => ⟨_, (pss_one (ps_if (pt_cmpR op_ge (pv 0) (pe_gi rfl T.k_HOW_MANY_SETS) (nomark _))
    (pss_one (ps_raise rfl (takes_of rfl rfl rfl rfl) (pmk_own0 PySem.F.excBase_Exception T.x_NotAsTold T.g_NotAsTold T.kp_NotAsTold (raises_own T.b_NotAsTold T.t_NotAsTold) (by exact rfl))))
    pss_nil)), ?_⟩)
  · obtain ⟨_, rfl, _⟩ := h
    rfl
  obtain ⟨n, rfl, kE, kQ⟩ := h
  refine ⟨_, rfl, _, _, rfl, rfl, _, rfl, ?_⟩
  refine split_dec (fun c => ?_) (fun c => ?_)
  · exact kE (decide_eq_false (by omega))
  · exact kQ (decide_eq_true (by omega))
theorem ok_check_number (T : Top K mg A) : FnOk P w K mg base (L2.CX P w) 1 A.f_check_number A.d_check_number P_check_number (spChk A fun n => decide (n ≤ Sw64.MOST)) := by
  refine T.F_check_number.okX sc_check_number (fun vs H Q E h => ?_) (fun cdv _ outer s H vs Q E hr h => ⟨_, (pss_one (ps_if (pt_cmpR op_gt (pv 0) (pe_gi rfl T.k_HIGHEST) (nomark _))
    (pss_one (ps_raise rfl (takes_of rfl rfl rfl rfl) (pmk_own0 PySem.F.excBase_Exception T.x_NotAsTold T.g_NotAsTold T.kp_NotAsTold (raises_own T.b_NotAsTold T.t_NotAsTold) (by exact rfl))))
    pss_nil)), ?_⟩)
  · obtain ⟨_, rfl, _⟩ := h
    rfl
  obtain ⟨n, rfl, kE, kQ⟩ := h
  have hM : Sw64.MOST = 1000000000000000 := by decide
  refine ⟨_, rfl, _, _, rfl, rfl, _, rfl, ?_⟩
  refine split_dec (fun c => ?_) (fun c => ?_)
  · exact kE (decide_eq_false (by omega))
  · exact kQ (decide_eq_true (by omega))
def runBad (a b : Nat) : Bool := decide (b < a) || (decide (Sw64.MOST < b) || decide (2999 < b - a))
def spRun (A : Ad) (K : PySem.W.Frag) : Sp := fun vs H Q E => ∃ (r dx l : Addr) (xs : List Nat) (i a b : Nat) (rest : List Nat), vs = [.ref r] ∧ RowAt A K H r dx l xs i ∧ xs.drop i = a :: b :: rest ∧
  (runBad a b = true → E (.ref A.C_NotAsTold) none (upd H r (.ins A.C_Row dx (rowF l (i + 2))))) ∧
  (runBad a b = false → ∀ p, H p = none → Q (.ref p) (upd (upd H r (.ins A.C_Row dx (rowF l (i + 2)))) p (.lst (nums (Sw64.range a b)))))
theorem rg_nums {a b : Nat} : rgV (a : Int) ((b : Int) + 1) = nums (Sw64.range a b) := by
  unfold rgV nums
  rw [range_eq, List.map_map]
  have e : ((b : Int) + 1 - (a : Int)).toNat = b + 1 - a := by omega
  rw [e]
  refine List.map_congr_left fun i _ => ?_
  show V.int ((a : Int) + (i : Int)) = V.int ((a + i : Nat) : Int)
  congr 1
theorem ok_told_run (T : Top K mg A) : FnOk P w K mg base (L2.CX P w) 2 A.f_told_run A.d_told_run P_told_run (spRun A K) := by
  refine T.F_told_run.okX sc_told_run (fun vs H Q E h => ?_) (fun cdv _ outer s H vs Q E hr h => ⟨_, (pss_cons (ps_set (i := 1) sc_told_run.nd rfl (Or.inl rfl) (pe_meth0 (pv 0) T.c_Row T.M_Row_one (ok_Row_one T) (hr.mono (by omega)) (b_Row_one T) .nil pass0))
    (pss_cons (ps_set (i := 2) sc_told_run.nd rfl (Or.inl rfl) (pe_meth0 (pv 0) T.c_Row T.M_Row_one (ok_Row_one T) (hr.mono (by omega)) (b_Row_one T) .nil pass0))
    (pss_cons (ps_if (PW.pt (pw_or (pt_cmpR op_gt (pv 1) (pv 2) (nomark _)) (pw_or (pt_cmpR op_gt (pv 2) (pe_gi rfl T.k_HIGHEST) (nomark _)) (pw_or1 (pt_cmpR op_gt (pe_op op_sub (pv 2) (pv 1)) (pe_gi rfl T.k_MOST_APART) (nomark _))))))
    (pss_one (ps_raise rfl (takes_of rfl rfl rfl rfl) (pmk_own0 PySem.F.excBase_Exception T.x_NotAsTold T.g_NotAsTold T.kp_NotAsTold (raises_own T.b_NotAsTold T.t_NotAsTold) (by exact rfl))))
    pss_nil)
    (pss_one (ps_ret (pe_listRg rfl (by rfl) T.n_list (prg_2 (by rfl) T.n_range (pv 1) (pe_op op_add (pv 2) pe_int)))))))), ?_⟩)
  · obtain ⟨_, _, _, _, _, _, _, _, rfl, _⟩ := h
    rfl
  obtain ⟨r, dx, l, xs, i, a, b, rest, rfl, hrow, hd, kE, kQ⟩ := h
  obtain ⟨hr0, hS⟩ := id hrow
  obtain ⟨q1, q2, q3⟩ := drop_cons hd
  obtain ⟨q4, q5, q6⟩ := drop_cons q2
  obtain ⟨h1, hS1⟩ := hrow.upd (i + 1)
  have hM : Sw64.MOST = 1000000000000000 := by decide
  refine ⟨_, rfl, _, _, _, rfl, hr0, F_Row_no_one, r, dx, l, xs, i, _, rfl, hr0, hS, q1, ?_⟩
  refine ⟨_, rfl, _, _, _, rfl, h1, F_Row_no_one, r, dx, l, xs, i + 1, _, rfl, h1, hS1, q4, ?_⟩
  rw [upd_upd]
  refine ⟨_, rfl, _, rfl, _, _, rfl, rfl, _, rfl, ?_⟩
  refine split_dec (fun c1 => ?_) (fun c1 => ?_)
  · exact if_true_of rfl (kE (by unfold runBad; rw [decide_eq_true (show b < a by omega)] <;> rfl))
  refine ⟨_, rfl, _, _, rfl, rfl, _, rfl, ?_⟩
  refine split_dec (fun c2 => ?_) (fun c2 => ?_)
  · exact if_true_of rfl (kE (by unfold runBad; rw [decide_eq_true (show Sw64.MOST < b by omega)]; simp))
  refine ⟨_, rfl, _, rfl, _, _, rfl, rfl, _, _, rfl, rfl, _, rfl, ?_⟩
  refine split_dec (fun c3 => ?_) (fun c3 => ?_)
  · exact kE (by unfold runBad; rw [decide_eq_true (show 2999 < b - a by omega)]; simp)
  · have hb : runBad a b = false := by
      unfold runBad
      rw [decide_eq_false (show ¬ b < a by omega), decide_eq_false (show ¬ Sw64.MOST < b by omega), decide_eq_false (show ¬ 2999 < b - a by omega)] <;> rfl
    refine ⟨_, rfl, _, rfl, _, _, rfl, rfl, _, _, rfl, rfl, ⟨by omega, by omega, by omega, by omega, by omega⟩, fun p hp => ?_⟩
    rw [rg_nums]
    have npr : p ≠ r := fun z => by rw [z, upd_same] at hp; cases hp
    exact kQ hb p (by rwa [upd_ne npr] at hp)
end
end Sn
/-! the calls: begins, rules -/
namespace Sn
open PySem PySem.Spec PyProof.Rows L2
open SpecMath (Good)
structure Pre (A : Ad) (K : PySem.W.Frag) (F H : Hp) (st a dx l : Addr) (xs : List Nat) (i : Nat) (S : Sw64.Sets) : Prop where
  sets : SetsAt A F H st S
  sF : Same F H
  fst : F st = none
  fa : F a = none
  row : RowAt A K H a dx l xs i
  nls : l ≠ st ∨ ∀ H : Hp, SqL K H l (nums xs)
  G : Good S
  h8 : S.length = 8
structure After (A : Ad) (K : PySem.W.Frag) (F H H' : Hp) (st a dx l : Addr) (xs : List Nat) (j : Nat) (S' : Sw64.Sets) : Prop where
  ex : ∃ F', Same F F' ∧ Same F' H' ∧ F' st = none ∧ F' a = none ∧ (∀ b, F b = none → H b ≠ none → F' b = none) ∧ SetsAt A F' H' st S'
  row : RowAt A K H' a dx l xs j
  kp : ∀ b o, H b = some o → b ≠ st → b ≠ a → H' b = some o
  dm : Dom H H'
theorem Pre.nsa {A : Ad} {K : PySem.W.Frag} {F H : Hp} {st a dx l : Addr} {xs : List Nat} {i : Nat} {S : Sw64.Sets} (p : Pre A K F H st a dx l xs i S) : st ≠ a := by
  obtain ⟨ls, h1, _⟩ := p.sets
  exact ne_of h1 p.row.1 (by intro z; cases z)
/-- only the row has moved, and new things are there -/
theorem Pre.after {A : Ad} {K : PySem.W.Frag} {F H H' : Hp} {st a dx l : Addr} {xs : List Nat} {i j : Nat} {S : Sw64.Sets} (p : Pre A K F H st a dx l xs i S) (e : Same (upd H a (.ins A.C_Row dx (rowF l j))) H') : After A K F H H' st a dx l xs j S := by
  have kp : ∀ b o, H b = some o → b ≠ a → H' b = some o := fun b o q n => e b o ((upd_ne n).trans q)
  obtain ⟨ls, h1, h2⟩ := p.sets
  obtain ⟨r1, r2⟩ := p.row.upd j
  refine ⟨⟨F, Same.rfl, fun b o q => kp b o (p.sF b o q) (ne_of_none q p.fa), p.fst, p.fa, fun _ q _ => q, ls, kp _ _ h1 p.nsa, h2⟩, ⟨e _ _ r1, e.seq r2⟩, fun b o q _ n => kp b o q n, fun b z => ?_⟩
  have := Same.dom e b z
  by_cases c : b = a
  · subst c; rw [upd_same] at this; cases this
  · rwa [upd_ne c] at this
/-- the row behind two numbers, and what the defs that say ask -/
theorem Pre.sets8 {A : Ad} {K : PySem.W.Frag} {F H H' : Hp} {st a dx l : Addr} {xs : List Nat} {i j k : Nat} {S : Sw64.Sets} (p : Pre A K F H st a dx l xs i S) (e : Same (upd H a (.ins A.C_Row dx (rowF l j))) H') (hk : k < 8) : Sets8 A F H' st S k := by
  have kp : ∀ b o, H b = some o → b ≠ a → H' b = some o := fun b o q n => e b o ((upd_ne n).trans q)
  obtain ⟨ls, h1, h2⟩ := p.sets
  exact ⟨⟨ls, kp _ _ h1 p.nsa, h2⟩, fun b o q => kp b o (p.sF b o q) (ne_of_none q p.fa), p.G, p.h8, hk⟩
theorem seq_keep {A : Ad} {K : PySem.W.Frag} {H H' : Hp} {st a dx l : Addr} {xs : List V} {fs : List (Str × V)} (h : SqL K H l xs) (ha : H a = some (.ins A.C_Row dx fs)) (n : l ≠ st ∨ ∀ H : Hp, SqL K H l xs) (kp : ∀ b o, H b = some o → b ≠ st → b ≠ a → H' b = some o) : SqL K H' l xs := by
  rcases n with n | n
  · rcases h with h | h
    · refine .inl ?_
      rcases h with h | ⟨o', h⟩
      · exact .inl (kp _ _ h n (ne_of h ha (by intro z; cases z)))
      · exact .inr ⟨o', kp _ _ h n (ne_of h ha (by intro z; cases z))⟩
    · exact .inr h
  · exact n _
/-- a list that stands, with another object changed -/
theorem seq_ne {K : PySem.W.Frag} {H : Hp} {l d : Addr} {xs : List V} {o : HO} (h : SqL K H l xs) (n : l ≠ d ∨ ∀ H : Hp, SqL K H l xs) : SqL K (upd H d o) l xs := by
  rcases n with n | n
  · rcases h with h | h
    · refine .inl ?_
      rcases h with h | ⟨o', h⟩
      · exact .inl ((upd_ne n).trans h)
      · exact .inr ⟨o', (upd_ne n).trans h⟩
    · exact .inr h
  · exact n _
/-- new behind the row's step: new -/
theorem fresh_of {H H' : Hp} {a p : Addr} {o : HO} (e : Same (upd H a o) H') (h : H' p = none) : H p = none := by
  have := Same.free e h
  by_cases c : p = a
  · rw [c, upd_same] at this; cases this
  · rwa [upd_ne c] at this
/-- H1 without what stood in H and not in F -/
def Rs (F H H1 : Hp) : Hp := fun b => if ((F b).isNone && (H b).isSome) = true then none else H1 b
theorem Rs.old {F H H1 : Hp} {b : Addr} (h1 : F b = none) (h2 : H b ≠ none) : Rs F H H1 b = none := by
  unfold Rs
  cases e : H b with
  | none => exact absurd e h2
  | some o => rw [h1] <;> rfl
theorem Rs.in_ {F H H1 : Hp} {b : Addr} {o : HO} (h : F b = some o) : Rs F H H1 b = H1 b := by unfold Rs; rw [h] <;> rfl
theorem Rs.new {F H H1 : Hp} {b : Addr} (h : H b = none) : Rs F H H1 b = H1 b := by
  unfold Rs
  rw [h]
  cases (F b).isNone <;> rfl
theorem Rs.same {F H H1 : Hp} : Same (Rs F H H1) H1 := fun b o q => by
  unfold Rs at q
  split at q
  · cases q
  · exact q
def spCall (A : Ad) (K : PySem.W.Frag) (is : Sw64.Call → Prop) : Sp := fun vs H Q E => ∃ (F : Hp) (st a dx l : Addr) (xs : List Nat) (i : Nat) (S : Sw64.Sets) (c : Sw64.Call) (rest : List Nat), vs = [.ref st, .ref a] ∧ is c ∧ Pre A K F H st a dx l xs i S ∧ xs.drop i = (encC c).tail ++ rest ∧ CallIn c ∧
  (Sw64Neutral.out (Sw64.step ⟨S⟩ c).2).length ≤ 1000000 ∧
  ((Sw64.step ⟨S⟩ c).2 = Sw64.ok (-1) → ∀ H', After A K F H H' st a dx l xs (i + (encC c).tail.length) (Sw64.step ⟨S⟩ c).1.sets → E (.ref A.C_NotAsTold) none H') ∧
  ((Sw64.step ⟨S⟩ c).2 = Sw64.ok (-6) → ∀ H', After A K F H H' st a dx l xs (i + (encC c).tail.length) (Sw64.step ⟨S⟩ c).1.sets → E (.ref A.C_NotSaid) none H') ∧
  (∀ H' p, After A K F H H' st a dx l xs (i + (encC c).tail.length) (Sw64.step ⟨S⟩ c).1.sets → H p = none → H' p = some (.lst ((Sw64Neutral.out (Sw64.step ⟨S⟩ c).2).map V.int)) → Q (.ref p) H')
section
variable {P : Program} {w : World} {K : PySem.W.Frag} {mg : Str → Option Value} {base : Heap} {A : Ad}
theorem sets_get {F : Hp} {ls : List Addr} {S : Sw64.Sets} (h : All2 (SetAt A F) ls S) {k : Nat} {lk : Addr} (hk : ls[k]? = some lk) : SetAt A F lk (S.getD k []) := by
  obtain ⟨s, h1, h2⟩ := h.get hk
  rw [List.getD_eq_getElem?_getD, h1]
  exact h2
theorem set_at {α : Type} {R : Addr → α → Prop} {ls : List Addr} {S : List α} (h : All2 R ls S) {k : Nat} {p : Addr} {s : α} (hp : R p s) : All2 R (ls.set k p) (S.set k s) := by
  induction h generalizing k with
  | nil => exact .nil
  | cons h1 h2 ih =>
    cases k with
    | zero => exact .cons hp h2
    | succ k => exact .cons h1 ih
theorem refs_set (ls : List Addr) (k : Nat) (p : Addr) : (refs ls).set k (.ref p) = refs (ls.set k p) := by unfold refs; rw [List.map_set]
theorem ixN_nat {n j : Nat} (hj : j < n) : ixN n (j : Int) = some j := by
  unfold ixN
  rw [if_pos (by omega), if_pos (by omega)]
  rfl
theorem ok_begins (T : Top K mg A) : FnOk P w K mg base CX0 1 A.f_begins A.d_begins P_begins (spCall A K fun c => c = .begins) := by
  refine T.F_begins.ok sc_begins (fun vs H Q E h => ?_) (fun cdv _ outer s H vs Q E hr h => ⟨_, (pss_cons (ps_for PassesOwn.never rfl (pi_range1 rfl T.n_range (pa_cons (pe_gi rfl T.k_HOW_MANY_SETS) pa_nil)) (pg_name (i := 2) sc_begins.nd rfl (Or.inl rfl))
    (pss_one (ps_asg (pe_lst pa_nil) (pg_sub (pv 0) (pv 2) set_list))))
    (pss_one (ps_ret (pe_lst (pa_cons pe_int pa_nil))))), ?_⟩)
  · obtain ⟨_, _, _, _, _, _, _, _, _, _, rfl, _⟩ := h
    rfl
  obtain ⟨F, st, a, dx, l, xs, i, S, c, rest, rfl, rfl, hP, hd, _, _, kA, kS, kQ⟩ := h
  obtain ⟨ls, h1, h2⟩ := hP.sets
  have hlen : ls.length = 8 := by rw [h2.length]; exact hP.h8
  refine ⟨8, rfl, by decide, by decide, for_range (lo := 0) (n := 8) (fun k σ H' => (∃ v, σ = [some (.ref st), some (.ref a), v]) ∧ (∀ b o, H b = some o → b ≠ st → H' b = some o) ∧ Dom H H' ∧
    ∃ ls', H' st = some (.lst (refs ls')) ∧ ls'.length = 8 ∧ ∀ j lk, j < k → ls'[j]? = some lk → H' lk = some (.lst []) ∧ H lk = none) ⟨⟨none, rfl⟩, fun _ _ h _ => h, Dom.rfl, ls, h1, hlen, fun j lk h => by omega⟩ ?_ ?_⟩
  · rintro k σ H1 hk ⟨⟨v, rfl⟩, kp, dm, ls', e1, e2, e3⟩
    refine ⟨(by show 0 ≤ sizeLine; decide), fun p hp => ?_⟩
    have nps : p ≠ st := fun z => by rw [z, e1] at hp; cases hp
    have npa : p ≠ a := fun z => by rw [z, kp _ _ hP.row.1 hP.nsa.symm] at hp; cases hp
    have e1' : upd H1 p (.lst []) st = some (.lst (refs ls')) := (upd_ne nps.symm).trans e1
    refine ⟨_, rfl, _, rfl, st, _, (k : Int), k, rfl, (by show V.int ((0 : Int) + (k : Int)) = V.int (k : Int); rw [Int.zero_add]), e1', ?_, ?_⟩
    · rw [refs_length, e2]; exact ixN_nat hk
    refine ⟨⟨_, rfl⟩, fun b o q n => (upd_ne n).trans ((same_new hp _) _ _ (kp b o q n)), dm.upd.upd, ls'.set k p, ?_, by rw [List.length_set, e2], fun j lk hj hlk => ?_⟩
    · rw [upd_same, refs_set]
    · rw [List.getElem?_set] at hlk
      by_cases c : k = j
      · subst c
        rw [if_pos rfl, if_pos (by omega)] at hlk
        have : p = lk := Option.some.inj hlk
        subst this
        exact ⟨(upd_ne nps).trans upd_same, dm _ hp⟩
      · rw [if_neg c] at hlk
        obtain ⟨g1, g2⟩ := e3 j lk (by omega) hlk
        have ns : lk ≠ st := fun z => by rw [z, h1] at g2; cases g2
        exact ⟨(upd_ne ns).trans (same_new hp _ _ _ g1), g2⟩
  · rintro σ H1 ⟨⟨v, rfl⟩, kp, dm, ls', e1, e2, e3⟩
    refine ⟨(by show 1 ≤ sizeLine; decide), fun p hp => ?_⟩
    have s1 := same_new hp (.lst [.int 0])
    have st0 : H st ≠ none := by rw [h1]; intro z; cases z
    have a0 : H a ≠ none := by rw [hP.row.1]; intro z; cases z
    refine kQ _ p ⟨⟨Rs F H H1, ?_, ?_, Rs.old hP.fst st0, Rs.old hP.fa a0, fun _ => Rs.old, ls', s1 _ _ e1, ?_⟩, ⟨s1 _ _ (kp _ _ hP.row.1 hP.nsa.symm), s1.seq (seq_keep hP.row.2 hP.row.1 hP.nls fun b o q n _ => kp b o q n)⟩, fun b o q n _ => s1 _ _ (kp b o q n), dm.upd⟩ (dm _ hp) upd_same
    · intro b o q
      rw [Rs.in_ q]
      exact kp b o (hP.sF _ _ q) (ne_of_none q hP.fst)
    · exact fun b o q => s1 _ _ (Rs.same _ _ q)
    · refine All2.of (by rw [e2]; rfl) fun j lk s q1 q2 => ?_
      have hj : j < 8 := by have := (List.getElem?_eq_some_iff.mp q1).1; omega
      have : s = [] := by
        have q2 : (List.replicate 8 ([] : Sw64.RSet))[j]? = some s := q2
        rw [List.getElem?_replicate, if_pos hj] at q2
        exact (Option.some.inj q2).symm
      subst this
      obtain ⟨g1, g2⟩ := e3 j lk hj q1
      exact ⟨[], (Rs.new g2).trans g1, .nil⟩
theorem ok_rules (T : Top K mg A) : FnOk P w K mg base (L2.CX P w) 8 A.f_rules A.d_rules P_rules (spCall A K fun c => ∃ k s, c = .rules k s) := by
  refine T.F_rules.okX sc_rules (fun vs H Q E h => ?_) (fun cdv _ outer s H vs Q E hr h => ⟨_, (pss_cons (ps_set (i := 2) sc_rules.nd rfl (Or.inl rfl) (pe_meth0 (pv 1) T.c_Row T.M_Row_one (ok_Row_one T) (hr.mono (by omega)) (b_Row_one T) .nil pass0))
    (pss_cons (ps_set (i := 3) sc_rules.nd rfl (Or.inl rfl) (pe_meth0 (pv 1) T.c_Row T.M_Row_told (ok_Row_told T) (hr.mono (by omega)) (b_Row_told T) .nil pass0))
    (pss_cons (ps_expr (pe_call (ok_check_set T) (hr.mono (by omega)) (by rfl) T.g_check_set T.F_check_set.kp (b_check_set T) .nil (passes_call (takes_of rfl rfl rfl rfl) (fun _ _ _ _ h => h)) (pa_cons (pv 2) pa_nil)))
    (pss_cons (ps_asg (pe_call (ok_told_rules T) (hr.mono (by omega)) (by rfl) T.g_told_rules T.F_told_rules.kp (b_told_rules T) .nil (passes_call (takes_of rfl rfl rfl rfl) (fun _ _ _ _ h => h)) (pa_cons (pv 3) pa_nil)) (pg_sub (pv 0) (pv 2) set_list))
    (pss_one (ps_ret (pe_lst (pa_cons (pe_callB call_len_seq (by rfl) T.n_len PySem.boot_len (pa_cons (pe_ix ix_list (pv 0) (pv 2) (fun _ _ => rfl)) pa_nil)) pa_nil)))))))), ?_⟩)
  · obtain ⟨_, _, _, _, _, _, _, _, _, _, rfl, _⟩ := h
    rfl
  obtain ⟨F, st, a, dx, l, xs, i, S, c, rest, rfl, ⟨k, s, rfl⟩, hP, hd, hin, _, kA, kS, kQ⟩ := h
  have hd : xs.drop i = k :: (encS s).length :: (encS s ++ rest) := hd
  obtain ⟨q1, q2, q3⟩ := drop_cons hd
  obtain ⟨q4, q5, q6⟩ := drop_cons q2
  obtain ⟨q7, q8, q9⟩ := drop_app q5
  obtain ⟨r0, rS⟩ := hP.row
  obtain ⟨h1, hS1⟩ := hP.row.upd (i + 1)
  refine ⟨_, rfl, _, _, _, rfl, r0, F_Row_no_one, a, dx, l, xs, i, _, rfl, r0, rS, q1, ?_⟩
  refine ⟨_, rfl, _, _, _, rfl, h1, F_Row_no_told, a, dx, l, xs, i + 1, _, rfl, h1, hS1, q4, by have := q9 (by omega); omega, fun p hp => ?_⟩
  rw [upd_upd, q8]
  have npa : p ≠ a := fun z => by rw [z, upd_same] at hp; cases hp
  have fp : H p = none := by rwa [upd_ne npa] at hp
  have ej : i + (encC (.rules k s)).tail.length = i + 1 + 1 + (encS s).length := by show i + ((encS s).length + 1 + 1) = _; omega
  rw [ej] at kA kS kQ
  have s1 : Same (upd H a (.ins A.C_Row dx (rowF l (i + 1 + 1 + (encS s).length)))) (upd (upd H a (.ins A.C_Row dx (rowF l (i + 1 + 1 + (encS s).length)))) p (.lst (nums (encS s)))) := same_new (by rw [upd_ne npa]; exact fp) _
  have estep : Sw64.step ⟨S⟩ (.rules k s) = if (decide (k < Sw64.SETS) && Sw64.setOk s) = false then (⟨S⟩, Sw64.ok (-1)) else (⟨S.set k s⟩, Sw64.ok (s.length : Nat)) := rfl
  generalize hU : upd (upd H a (.ins A.C_Row dx (rowF l (i + 1 + 1 + (encS s).length)))) p (.lst (nums (encS s))) = U at s1
  have hpU : U p = some (.lst (nums (encS s))) := by rw [← hU]; exact upd_same
  have bad : ∀ H', Same U H' → (decide (k < Sw64.SETS) && Sw64.setOk s) = false → E (.ref A.C_NotAsTold) none H' := fun H' e hb => by
    rw [if_pos hb] at estep
    rw [estep] at kA
    exact kA rfl H' (hP.after (s1.trans e))
  refine ⟨_, rfl, k, rfl, fun e => bad U Same.rfl (by rw [show decide (k < Sw64.SETS) = false from e, Bool.false_and]), fun e => ?_⟩
  have hk : k < 8 := of_decide_eq_true e
  refine ⟨_, rfl, p, s, rfl, SqL.of hpU, hin, fun e2 H' s2 => bad H' s2 (by rw [e2, Bool.and_false]), fun e2 H2 ps s2 hset => ?_⟩
  have hgood : (decide (k < Sw64.SETS) && Sw64.setOk s) = true := by rw [show decide (k < Sw64.SETS) = true from e, e2] <;> rfl
  rw [if_neg (by rw [hgood]; decide)] at estep
  rw [estep] at kQ
  have af := hP.after (s1.trans s2)
  obtain ⟨ls, l1, l2⟩ := hP.sets
  have hlen : ls.length = 8 := by rw [l2.length]; exact hP.h8
  have hst1 : U st = some (.lst (refs ls)) := s1 _ _ ((upd_ne hP.nsa).trans l1)
  have hst2 := s2 _ _ hst1
  obtain ⟨as, ha1, ha2⟩ := hset
  have nps : ps ≠ st := fun z => by have := Nw.old ha1; rw [z, hst1] at this; cases this
  refine ⟨_, rfl, _, rfl, st, _, _, k, rfl, rfl, hst2, (by rw [refs_length, hlen]; exact ixN_nat hk), ?_⟩
  have hst3 : upd H2 st (.lst ((refs ls).set k (.ref ps))) st = some (.lst (refs (ls.set k ps))) := by rw [upd_same, refs_set]
  have hps3 : upd H2 st (.lst ((refs ls).set k (.ref ps))) ps = some (.lst (refs as)) := (upd_ne nps).trans (Nw.is ha1)
  have hgetk : (ls.set k ps)[k]? = some ps := List.getElem?_set_self (by omega)
  refine ⟨_, rfl, _, rfl, st, _, _, _, rfl, rfl, SqL.of hst3, atI_nat (refs_get hgetk), ps, _, rfl, .inl (SqL.of hps3), (by show 1 ≤ sizeLine; decide), fun p3 hp3 => ?_⟩
  have s3 := same_new hp3 (.lst [.int ((refs as).length : Int)])
  have slen : (refs as).length = s.length := by rw [refs_length, set_len ha2]
  rw [slen] at s3 ⊢
  have kpf : ∀ b o, b ≠ st → H2 b = some o → upd (upd H2 st (.lst ((refs ls).set k (.ref ps)))) p3 (.lst [.int (s.length : Int)]) b = some o := fun b o n q => s3 _ _ ((upd_ne n).trans q)
  have ha2' := af.row.1
  have hUa : U a ≠ none := by
    have : U a = some _ := s1 _ _ (hP.row.upd _).1
    rw [this]; intro z; cases z
  have st0 : H st ≠ none := by rw [l1]; intro z; cases z
  have a0 : H a ≠ none := by rw [hP.row.1]; intro z; cases z
  have n3 : H p3 = none := by
    have n3s : p3 ≠ st := fun z => by rw [z, upd_same] at hp3; cases hp3
    rw [upd_ne n3s] at hp3
    exact af.dm _ hp3
  have mF : Same F (Rs F H (upd (upd H2 st (.lst ((refs ls).set k (.ref ps)))) p3 (.lst [.int (s.length : Int)]))) := fun b o q => by
    have nb1 := ne_of_none q hP.fa
    have nb2 := ne_of_none q hP.fst
    rw [Rs.in_ q]
    exact kpf b o nb2 (af.kp b o (hP.sF _ _ q) nb2 nb1)
  refine kQ _ p3 ⟨⟨Rs F H (upd (upd H2 st (.lst ((refs ls).set k (.ref ps)))) p3 (.lst [.int (s.length : Int)])), mF, Rs.same, Rs.old hP.fst st0, Rs.old hP.fa a0, fun _ => Rs.old, ls.set k ps, s3 _ _ hst3, ?_⟩, ⟨kpf _ _ hP.nsa.symm ha2', ?_⟩, fun b o q n1 n2 => kpf b o n1 (af.kp b o q n1 n2), af.dm.upd.upd⟩ n3 upd_same
  · refine set_at (l2.mono fun _ _ _ _ z => z.mono mF) (SetAt.mono ⟨as, ha1, ha2⟩ fun b o q => ?_)
    have nb1 : b ≠ st := fun z => by have := Nw.old q; rw [z, hst1] at this; cases this
    rw [Rs.new (fresh_of s1 (Nw.old q))]
    exact kpf b o nb1 (Nw.is q)
  · refine seq_keep hP.row.2 hP.row.1 hP.nls fun b o q n1 n2 => kpf b o n1 (af.kp b o q n1 n2)
end
end Sn
/-! the calls: say, gaps, alike, longest, sorted -/
namespace Sn
open PySem PySem.Spec PyProof.Rows L2
open SpecMath (Good)
theorem out_one (v : Int) (w : List Nat) : (Sw64Neutral.out ⟨v, [w]⟩).map V.int = V.int v :: V.int (w.length : Int) :: nums w := by
  unfold Sw64Neutral.out nums
  simp [List.map_map]
theorem out_none (v : Int) : (Sw64Neutral.out (Sw64.ok v)).map V.int = [V.int v] := rfl
theorem out_len (v : Int) (w : List Nat) : (Sw64Neutral.out ⟨v, [w]⟩).length = w.length + 2 := by unfold Sw64Neutral.out; simp
theorem inOrder_len (S : Sw64.Sets) (k : Nat) (l : List Nat) : (Sw64.inOrder S k l).length = l.length := by
  unfold Sw64.inOrder
  rw [List.length_map]
  have := (puts (l.map fun n => (Sw64.said S k n, n)) [] .nil).2.length_eq
  rw [this, List.append_nil, List.length_map]
theorem range_len (a b : Nat) : (Sw64.range a b).length = b + 1 - a := by rw [range_eq, List.length_map, List.length_range]
theorem range_le {a b n : Nat} (h : n ∈ Sw64.range a b) : n ≤ b := by
  rw [range_eq, List.mem_map] at h
  obtain ⟨i, hi, rfl⟩ := h
  rw [List.mem_range] at hi
  omega
theorem span_run (k a b : Nat) : Sw64.spanOk k a b = (decide (k < 8) && !runBad a b) := by
  unfold Sw64.spanOk runBad
  congr 1
  have h3 : Sw64.SPAN = 3000 := rfl
  rw [h3]
  by_cases h1 : b < a
  · rw [decide_eq_true h1, decide_eq_false (show ¬ a ≤ b by omega)] <;> rfl
  · by_cases h2 : Sw64.MOST < b
    · rw [decide_eq_true h2, decide_eq_false (show ¬ b ≤ Sw64.MOST by omega)]; simp
    · by_cases h4 : 2999 < b - a
      · rw [decide_eq_true h4, decide_eq_false (show ¬ b - a < 3000 by omega)]; simp
      · rw [decide_eq_false h1, decide_eq_false h2, decide_eq_false h4, decide_eq_true (show a ≤ b by omega), decide_eq_true (show b ≤ Sw64.MOST by omega), decide_eq_true (show b - a < 3000 by omega)] <;> rfl
section
variable {P : Program} {w : World} {K : PySem.W.Frag} {mg : Str → Option Value} {base : Heap} {A : Ad}
theorem ok_say_call (T : Top K mg A) : FnOk P w K mg base (L2.CX P w) 55 A.f_say A.d_say P_say (spCall A K fun c => ∃ k n, c = .say k n) := by
  refine T.F_say.okX sc_say (fun vs H Q E h => ?_) (fun cdv _ outer s H vs Q E hr h => ⟨_, (pss_cons (ps_set (i := 2) sc_say.nd rfl (Or.inl rfl) (pe_meth0 (pv 1) T.c_Row T.M_Row_one (ok_Row_one T) (hr.mono (by omega)) (b_Row_one T) .nil pass0))
    (pss_cons (ps_set (i := 3) sc_say.nd rfl (Or.inl rfl) (pe_meth0 (pv 1) T.c_Row T.M_Row_one (ok_Row_one T) (hr.mono (by omega)) (b_Row_one T) .nil pass0))
    (pss_cons (ps_expr (pe_call (ok_check_set T) (hr.mono (by omega)) (by rfl) T.g_check_set T.F_check_set.kp (b_check_set T) .nil (passes_call (takes_of rfl rfl rfl rfl) (fun _ _ _ _ h => h)) (pa_cons (pv 2) pa_nil)))
    (pss_cons (ps_expr (pe_call (ok_check_number T) (hr.mono (by omega)) (by rfl) T.g_check_number T.F_check_number.kp (b_check_number T) .nil (passes_call (takes_of rfl rfl rfl rfl) (fun _ _ _ _ h => h)) (pa_cons (pv 3) pa_nil)))
    (pss_cons (ps_set (i := 4) sc_say.nd rfl (Or.inl rfl) (pe_call (ok_text_of T) (hr.mono (by omega)) (by rfl) T.g_text_of T.F_text_of.kp (b_text_of T) .nil (passes_call (takes_of rfl rfl rfl rfl) (fun _ _ _ _ h => h)) (pa_cons (pv 0) (pa_cons (pv 2) (pa_cons (pv 3) pa_nil)))))
    (pss_one (ps_ret (pe_op op_cat (pe_lst (pa_cons pe_int (pa_cons (pe_callB call_len_seq (by rfl) T.n_len PySem.boot_len (pa_cons (pv 4) pa_nil)) pa_nil))) (pv 4))))))))), ?_⟩)
  · obtain ⟨_, _, _, _, _, _, _, _, _, _, rfl, _⟩ := h
    rfl
  obtain ⟨F, st, a, dx, l, xs, i, S, c, rest, rfl, ⟨k, n, rfl⟩, hP, hd, hin, _, kA, kS, kQ⟩ := h
  have hd : xs.drop i = k :: n :: rest := hd
  obtain ⟨q1, q2, q3⟩ := drop_cons hd
  obtain ⟨q4, q5, q6⟩ := drop_cons q2
  obtain ⟨r0, rS⟩ := hP.row
  obtain ⟨h1, hS1⟩ := hP.row.upd (i + 1)
  have ej : i + (encC (.say k n)).tail.length = i + 1 + 1 := rfl
  rw [ej] at kA kS kQ
  have estep : Sw64.step ⟨S⟩ (.say k n) = if (decide (k < Sw64.SETS) && decide (n ≤ Sw64.MOST)) = false then (⟨S⟩, Sw64.ok (-1)) else (⟨S⟩, match Sw64.said S k n with
    | none => Sw64.ok (-6)
    | some b => ⟨0, [Sw64.bytes b]⟩) := rfl
  have bad : ∀ H', Same (upd H a (.ins A.C_Row dx (rowF l (i + 1 + 1)))) H' → (decide (k < Sw64.SETS) && decide (n ≤ Sw64.MOST)) = false → E (.ref A.C_NotAsTold) none H' := fun H' e hb => by
    rw [if_pos hb] at estep
    rw [estep] at kA
    exact kA rfl H' (hP.after e)
  refine ⟨_, rfl, _, _, _, rfl, r0, F_Row_no_one, a, dx, l, xs, i, _, rfl, r0, rS, q1, ?_⟩
  refine ⟨_, rfl, _, _, _, rfl, h1, F_Row_no_one, a, dx, l, xs, i + 1, _, rfl, h1, hS1, q4, ?_⟩
  rw [upd_upd]
  refine ⟨_, rfl, k, rfl, fun e => bad _ Same.rfl (by rw [show decide (k < Sw64.SETS) = false from e, Bool.false_and]), fun e => ?_⟩
  refine ⟨_, rfl, n, rfl, fun e2 => bad _ Same.rfl (by rw [show decide (n ≤ Sw64.MOST) = false from e2, Bool.and_false]), fun e2 => ?_⟩
  have hk : k < 8 := of_decide_eq_true e
  have hn : n ≤ Sw64.MOST := of_decide_eq_true e2
  rw [if_neg (by rw [show decide (k < Sw64.SETS) = true from e, show decide (n ≤ Sw64.MOST) = true from e2]; decide)] at estep
  rw [estep] at kS kQ
  have h8 := hP.sets8 (j := i + 1 + 1) Same.rfl hk
  refine ⟨_, rfl, _, rfl, _, rfl, F, st, S, k, n, rfl, h8.at_, h8.sF, h8.G, h8.h8, h8.hk, hn, fun e3 H' s1 => ?_, fun b e3 H' p s1 fp hp => ?_⟩
  · rw [e3] at kS
    exact kS rfl H' (hP.after s1)
  · rw [e3] at kQ
    refine ⟨_, rfl, p, _, rfl, .inl (SqL.of hp), (by show 2 ≤ sizeLine; decide), fun q hq => ?_⟩
    have s2 := same_new hq (.lst [.int 0, .int ((bnums b).length : Int)])
    have hbl : b.length ≤ 320 * cap n := said_len h8.G 50 k n b (Nat.lt_of_le_of_lt hn SpecMath.MOST_lt) hn e3
    have hc := cap_most hn
    refine ⟨_, rfl, q, p, _, _, rfl, rfl, upd_same, s2 _ _ hp, (by rw [bnums_length, sizeLine_eq]; show 2 + _ ≤ _; omega), fun p3 hp3 => ?_⟩
    refine kQ _ p3 (hP.after (Same.upd_new (s1.trans s2) (Same.free (s1.trans s2) hp3))) (fresh_of (s1.trans s2) hp3) ?_
    rw [upd_same, out_one, bnums_length]
    have : (Sw64.bytes b).length = b.length := by unfold Sw64.bytes; rw [List.length_map]
    rw [this] <;> rfl
/-- what gaps, alike, longest share: the set, the run -/
theorem ok_gaps (T : Top K mg A) : FnOk P w K mg base (L2.CX P w) 57 A.f_gaps A.d_gaps P_gaps (spCall A K fun c => ∃ k a b, c = .gaps k a b) := by
  refine T.F_gaps.okX sc_gaps (fun vs H Q E h => ?_) (fun cdv _ outer s H vs Q E hr h => ⟨_, (pss_cons (ps_set (i := 2) sc_gaps.nd rfl (Or.inl rfl) (pe_meth0 (pv 1) T.c_Row T.M_Row_one (ok_Row_one T) (hr.mono (by omega)) (b_Row_one T) .nil pass0))
    (pss_cons (ps_set (i := 3) sc_gaps.nd rfl (Or.inl rfl) (pe_call (ok_told_run T) (hr.mono (by omega)) (by rfl) T.g_told_run T.F_told_run.kp (b_told_run T) .nil (passes_call (takes_of rfl rfl rfl rfl) (fun _ _ _ _ h => h)) (pa_cons (pv 1) pa_nil)))
    (pss_cons (ps_expr (pe_call (ok_check_set T) (hr.mono (by omega)) (by rfl) T.g_check_set T.F_check_set.kp (b_check_set T) .nil (passes_call (takes_of rfl rfl rfl rfl) (fun _ _ _ _ h => h)) (pa_cons (pv 2) pa_nil)))
    (pss_one (ps_ret (pe_call (ok_listed T) (hr.mono (by omega)) (by rfl) T.g_listed T.F_listed.kp (b_listed T) .nil pass0 (pa_cons (pe_call (ok_those_not_said T) (hr.mono (by omega)) (by rfl) T.g_those_not_said T.F_those_not_said.kp (b_those_not_said T) .nil pass0 (pa_cons (pv 0) (pa_cons (pv 2) (pa_cons (pv 3) pa_nil)))) pa_nil))))))), ?_⟩)
  · obtain ⟨_, _, _, _, _, _, _, _, _, _, rfl, _⟩ := h
    rfl
  obtain ⟨F, st, a, dx, l, xs, i, S, c, rest, rfl, ⟨k, x, y, rfl⟩, hP, hd, hin, hsm, kA, kS, kQ⟩ := h
  have hd : xs.drop i = k :: x :: y :: rest := hd
  obtain ⟨q1, q2, q3⟩ := drop_cons hd
  obtain ⟨r0, rS⟩ := hP.row
  have hrow1 := hP.row.upd (i + 1)
  have ej : i + (encC (.gaps k x y)).tail.length = i + 1 + 2 := rfl
  rw [ej] at kA kS kQ
  have estep : Sw64.step ⟨S⟩ (.gaps k x y) = if Sw64.spanOk k x y = false then (⟨S⟩, Sw64.ok (-1)) else (⟨S⟩, ⟨(((Sw64.range x y).filter fun n => (Sw64.said S k n).isNone).length : Nat), [(Sw64.range x y).filter fun n => (Sw64.said S k n).isNone]⟩) := rfl
  have bad : ∀ H', Same (upd H a (.ins A.C_Row dx (rowF l (i + 1 + 2)))) H' → Sw64.spanOk k x y = false → E (.ref A.C_NotAsTold) none H' := fun H' e hb => by
    rw [if_pos hb] at estep
    rw [estep] at kA
    exact kA rfl H' (hP.after e)
  refine ⟨_, rfl, _, _, _, rfl, r0, F_Row_no_one, a, dx, l, xs, i, _, rfl, r0, rS, q1, ?_⟩
  refine ⟨_, rfl, a, dx, l, xs, i + 1, x, y, rest, rfl, hrow1, q2, fun e => ?_, fun e p hp => ?_⟩
  · rw [upd_upd]
    exact bad _ Same.rfl (by rw [span_run, e]; simp)
  rw [upd_upd]
  have npa : p ≠ a := fun z => by rw [z, upd_same] at hp; cases hp
  have fp : H p = none := by rwa [upd_ne npa] at hp
  have s1 : Same (upd H a (.ins A.C_Row dx (rowF l (i + 1 + 2)))) (upd (upd H a (.ins A.C_Row dx (rowF l (i + 1 + 2)))) p (.lst (nums (Sw64.range x y)))) := same_new (by rw [upd_ne npa]; exact fp) _
  refine ⟨_, rfl, k, rfl, fun e2 => bad _ s1 (by rw [span_run, show decide (k < 8) = false from e2, Bool.false_and]), fun e2 => ?_⟩
  have hk : k < 8 := of_decide_eq_true e2
  have hgood : Sw64.spanOk k x y = true := by rw [span_run, show decide (k < 8) = true from e2, e] <;> rfl
  rw [if_neg (by rw [hgood]; decide)] at estep
  rw [estep] at kQ hsm
  have hlen : (Sw64.range x y).length ≤ 3000 ∧ y ≤ Sw64.MOST := by
    unfold runBad at e
    simp only [Bool.or_eq_false_iff, decide_eq_false_iff_not] at e
    rw [range_len]; omega
  refine ⟨_, rfl, _, rfl, _, rfl, F, st, p, S, k, Sw64.range x y, rfl, hP.sets8 s1 hk, SqL.of upd_same, by omega, fun n hn => Nat.le_trans (range_le hn) hlen.2, fun H2 p2 s2 fp2 hp2 => ?_⟩
  refine ⟨p2, _, rfl, hp2, Nat.le_trans (List.length_filter_le _ _) (by omega), fun H3 p3 s3 fp3 hp3 => ?_⟩
  refine kQ H3 p3 (hP.after (s1.trans (s2.trans s3))) (fresh_of (s1.trans s2) fp3) ?_
  rw [hp3, out_one] <;> rfl
theorem ok_alike (T : Top K mg A) : FnOk P w K mg base (L2.CX P w) 57 A.f_alike A.d_alike P_alike (spCall A K fun c => ∃ k a b, c = .alike k a b) := by
  refine T.F_alike.okX sc_alike (fun vs H Q E h => ?_) (fun cdv _ outer s H vs Q E hr h => ⟨_, (pss_cons (ps_set (i := 2) sc_alike.nd rfl (Or.inl rfl) (pe_meth0 (pv 1) T.c_Row T.M_Row_one (ok_Row_one T) (hr.mono (by omega)) (b_Row_one T) .nil pass0))
    (pss_cons (ps_set (i := 3) sc_alike.nd rfl (Or.inl rfl) (pe_call (ok_told_run T) (hr.mono (by omega)) (by rfl) T.g_told_run T.F_told_run.kp (b_told_run T) .nil (passes_call (takes_of rfl rfl rfl rfl) (fun _ _ _ _ h => h)) (pa_cons (pv 1) pa_nil)))
    (pss_cons (ps_expr (pe_call (ok_check_set T) (hr.mono (by omega)) (by rfl) T.g_check_set T.F_check_set.kp (b_check_set T) .nil (passes_call (takes_of rfl rfl rfl rfl) (fun _ _ _ _ h => h)) (pa_cons (pv 2) pa_nil)))
    (pss_cons (ps_set (i := 4) sc_alike.nd rfl (Or.inl rfl) (pe_call (ok_first_alike T) (hr.mono (by omega)) (by rfl) T.g_first_alike T.F_first_alike.kp (b_first_alike T) .nil pass0 (pa_cons (pv 0) (pa_cons (pv 2) (pa_cons (pv 3) pa_nil)))))
    (pss_cons (ps_if (pt_cmpR (op_eqD hr.units) (pv 4) (pe_lst pa_nil) (nomark _))
    (pss_one (ps_ret (pe_lst (pa_cons pe_int pa_nil))))
    pss_nil)
    (pss_one (ps_ret (pe_op op_cat (pe_lst (pa_cons pe_int (pa_cons (pe_callB call_len_seq (by rfl) T.n_len PySem.boot_len (pa_cons (pv 4) pa_nil)) pa_nil))) (pv 4))))))))), ?_⟩)
  · obtain ⟨_, _, _, _, _, _, _, _, _, _, rfl, _⟩ := h
    rfl
  obtain ⟨F, st, a, dx, l, xs, i, S, c, rest, rfl, ⟨k, x, y, rfl⟩, hP, hd, hin, hsm, kA, kS, kQ⟩ := h
  have hd : xs.drop i = k :: x :: y :: rest := hd
  obtain ⟨q1, q2, q3⟩ := drop_cons hd
  obtain ⟨r0, rS⟩ := hP.row
  have hrow1 := hP.row.upd (i + 1)
  have ej : i + (encC (.alike k x y)).tail.length = i + 1 + 2 := rfl
  rw [ej] at kA kS kQ
  have estep : Sw64.step ⟨S⟩ (.alike k x y) = if Sw64.spanOk k x y = false then (⟨S⟩, Sw64.ok (-1)) else (⟨S⟩, match Sw64.same S k (Sw64.range x y) with
    | none => Sw64.ok 0
    | some x => ⟨1, [[x.1, x.2]]⟩) := rfl
  have bad : ∀ H', Same (upd H a (.ins A.C_Row dx (rowF l (i + 1 + 2)))) H' → Sw64.spanOk k x y = false → E (.ref A.C_NotAsTold) none H' := fun H' e hb => by
    rw [if_pos hb] at estep
    rw [estep] at kA
    exact kA rfl H' (hP.after e)
  refine ⟨_, rfl, _, _, _, rfl, r0, F_Row_no_one, a, dx, l, xs, i, _, rfl, r0, rS, q1, ?_⟩
  refine ⟨_, rfl, a, dx, l, xs, i + 1, x, y, rest, rfl, hrow1, q2, fun e => ?_, fun e p hp => ?_⟩
  · rw [upd_upd]
    exact bad _ Same.rfl (by rw [span_run, e]; simp)
  rw [upd_upd]
  have npa : p ≠ a := fun z => by rw [z, upd_same] at hp; cases hp
  have fp : H p = none := by rwa [upd_ne npa] at hp
  have s1 : Same (upd H a (.ins A.C_Row dx (rowF l (i + 1 + 2)))) (upd (upd H a (.ins A.C_Row dx (rowF l (i + 1 + 2)))) p (.lst (nums (Sw64.range x y)))) := same_new (by rw [upd_ne npa]; exact fp) _
  refine ⟨_, rfl, k, rfl, fun e2 => bad _ s1 (by rw [span_run, show decide (k < 8) = false from e2, Bool.false_and]), fun e2 => ?_⟩
  have hk : k < 8 := of_decide_eq_true e2
  have hgood : Sw64.spanOk k x y = true := by rw [span_run, show decide (k < 8) = true from e2, e] <;> rfl
  rw [if_neg (by rw [hgood]; decide)] at estep
  rw [estep] at kQ
  have hlen : (Sw64.range x y).length ≤ 3000 ∧ y ≤ Sw64.MOST := by
    unfold runBad at e
    simp only [Bool.or_eq_false_iff, decide_eq_false_iff_not] at e
    rw [range_len]; omega
  refine ⟨_, rfl, _, rfl, _, rfl, F, st, p, S, k, Sw64.range x y, rfl, hP.sets8 s1 hk, SqL.of upd_same, by omega, fun n hn => Nat.le_trans (range_le hn) hlen.2, range_lt x y, fun H2 p2 s2 fp2 hp2 => ?_⟩
  refine ⟨_, rfl, (by show 0 ≤ sizeLine; decide), fun q hq => ?_⟩
  have s3 := same_new hq (.lst [])
  have hp3 := s3 _ _ hp2
  have s13 := s1.trans (s2.trans s3)
  refine ⟨natD _, natD [], natD_dp (SqL.of hp3), natD_dp (l := []) (SqL.of upd_same), natD_shaped _, natD_shaped _, _, rfl, ?_⟩
  rw [natD_eqv]
  cases es : Sw64.same S k (Sw64.range x y) with
  | none =>
    rw [es] at kQ
    refine if_true_of (by rfl) ⟨(by show 1 ≤ sizeLine; decide), fun p4 hp4 => ?_⟩
    exact kQ _ p4 (hP.after (Same.upd_new s13 (Same.free s13 hp4))) (fresh_of s13 hp4) upd_same
  | some z =>
    rw [es] at kQ hp3
    refine if_false_of (by rfl) ⟨_, rfl, p2, _, rfl, .inl (SqL.of hp3), (by show 2 ≤ sizeLine; decide), fun p4 hp4 => ?_⟩
    have s4 := same_new hp4 (.lst [.int 1, .int ((nums (two (some z))).length : Int)])
    have s14 := s13.trans s4
    refine ⟨_, rfl, p4, p2, _, _, rfl, rfl, upd_same, s4 _ _ hp3, (by show 2 + 2 ≤ sizeLine; decide), fun p5 hp5 => ?_⟩
    refine kQ _ p5 (hP.after (Same.upd_new s14 (Same.free s14 hp5))) (fresh_of s14 hp5) ?_
    rw [upd_same, out_one] <;> rfl
theorem ok_longest (T : Top K mg A) : FnOk P w K mg base (L2.CX P w) 57 A.f_longest A.d_longest P_longest (spCall A K fun c => ∃ k a b, c = .longest k a b) := by
  refine T.F_longest.okX sc_longest (fun vs H Q E h => ?_) (fun cdv _ outer s H vs Q E hr h => ⟨_, (pss_cons (ps_set (i := 2) sc_longest.nd rfl (Or.inl rfl) (pe_meth0 (pv 1) T.c_Row T.M_Row_one (ok_Row_one T) (hr.mono (by omega)) (b_Row_one T) .nil pass0))
    (pss_cons (ps_set (i := 3) sc_longest.nd rfl (Or.inl rfl) (pe_call (ok_told_run T) (hr.mono (by omega)) (by rfl) T.g_told_run T.F_told_run.kp (b_told_run T) .nil (passes_call (takes_of rfl rfl rfl rfl) (fun _ _ _ _ h => h)) (pa_cons (pv 1) pa_nil)))
    (pss_cons (ps_expr (pe_call (ok_check_set T) (hr.mono (by omega)) (by rfl) T.g_check_set T.F_check_set.kp (b_check_set T) .nil (passes_call (takes_of rfl rfl rfl rfl) (fun _ _ _ _ h => h)) (pa_cons (pv 2) pa_nil)))
    (pss_cons (ps_set (i := 4) sc_longest.nd rfl (Or.inl rfl) (pe_call (ok_longest_said T) (hr.mono (by omega)) (by rfl) T.g_longest_said T.F_longest_said.kp (b_longest_said T) .nil (passes_call (takes_of rfl rfl rfl rfl) (fun _ _ _ _ h => h)) (pa_cons (pv 0) (pa_cons (pv 2) (pa_cons (pv 3) pa_nil)))))
    (pss_one (ps_ret (pe_op op_cat (pe_lst (pa_cons pe_int (pa_cons (pe_callB call_len_seq (by rfl) T.n_len PySem.boot_len (pa_cons (pv 4) pa_nil)) pa_nil))) (pv 4)))))))), ?_⟩)
  · obtain ⟨_, _, _, _, _, _, _, _, _, _, rfl, _⟩ := h
    rfl
  obtain ⟨F, st, a, dx, l, xs, i, S, c, rest, rfl, ⟨k, x, y, rfl⟩, hP, hd, hin, hsm, kA, kS, kQ⟩ := h
  have hd : xs.drop i = k :: x :: y :: rest := hd
  obtain ⟨q1, q2, q3⟩ := drop_cons hd
  obtain ⟨r0, rS⟩ := hP.row
  have hrow1 := hP.row.upd (i + 1)
  have ej : i + (encC (.longest k x y)).tail.length = i + 1 + 2 := rfl
  rw [ej] at kA kS kQ
  have estep : Sw64.step ⟨S⟩ (.longest k x y) = if Sw64.spanOk k x y = false then (⟨S⟩, Sw64.ok (-1)) else (⟨S⟩, match Sw64.longest S k (Sw64.range x y) with
    | none => Sw64.ok (-6)
    | some x => ⟨0, [[x.1, x.2]]⟩) := rfl
  have bad : ∀ H', Same (upd H a (.ins A.C_Row dx (rowF l (i + 1 + 2)))) H' → Sw64.spanOk k x y = false → E (.ref A.C_NotAsTold) none H' := fun H' e hb => by
    rw [if_pos hb] at estep
    rw [estep] at kA
    exact kA rfl H' (hP.after e)
  refine ⟨_, rfl, _, _, _, rfl, r0, F_Row_no_one, a, dx, l, xs, i, _, rfl, r0, rS, q1, ?_⟩
  refine ⟨_, rfl, a, dx, l, xs, i + 1, x, y, rest, rfl, hrow1, q2, fun e => ?_, fun e p hp => ?_⟩
  · rw [upd_upd]
    exact bad _ Same.rfl (by rw [span_run, e]; simp)
  rw [upd_upd]
  have npa : p ≠ a := fun z => by rw [z, upd_same] at hp; cases hp
  have fp : H p = none := by rwa [upd_ne npa] at hp
  have s1 : Same (upd H a (.ins A.C_Row dx (rowF l (i + 1 + 2)))) (upd (upd H a (.ins A.C_Row dx (rowF l (i + 1 + 2)))) p (.lst (nums (Sw64.range x y)))) := same_new (by rw [upd_ne npa]; exact fp) _
  refine ⟨_, rfl, k, rfl, fun e2 => bad _ s1 (by rw [span_run, show decide (k < 8) = false from e2, Bool.false_and]), fun e2 => ?_⟩
  have hk : k < 8 := of_decide_eq_true e2
  have hgood : Sw64.spanOk k x y = true := by rw [span_run, show decide (k < 8) = true from e2, e] <;> rfl
  rw [if_neg (by rw [hgood]; decide)] at estep
  rw [estep] at kS kQ
  have hlen : (Sw64.range x y).length ≤ 3000 ∧ y ≤ Sw64.MOST := by
    unfold runBad at e
    simp only [Bool.or_eq_false_iff, decide_eq_false_iff_not] at e
    rw [range_len]; omega
  refine ⟨_, rfl, _, rfl, _, rfl, F, st, p, S, k, Sw64.range x y, rfl, hP.sets8 s1 hk, SqL.of upd_same, by omega, fun n hn => Nat.le_trans (range_le hn) hlen.2, fun e3 H2 s2 => ?_, fun z e3 H2 p2 s2 fp2 hp2 => ?_⟩
  · rw [e3] at kS
    exact kS rfl H2 (hP.after (s1.trans s2))
  · rw [e3] at kQ
    have s12 := s1.trans s2
    refine ⟨_, rfl, p2, _, rfl, .inl (SqL.of hp2), (by show 2 ≤ sizeLine; decide), fun p4 hp4 => ?_⟩
    have s4 := same_new hp4 (.lst [.int 0, .int ((nums [z.1, z.2]).length : Int)])
    have s14 := s12.trans s4
    refine ⟨_, rfl, p4, p2, _, _, rfl, rfl, upd_same, s4 _ _ hp2, (by show 2 + 2 ≤ sizeLine; decide), fun p5 hp5 => ?_⟩
    refine kQ _ p5 (hP.after (Same.upd_new s14 (Same.free s14 hp5))) (fresh_of s14 hp5) ?_
    rw [upd_same, out_one] <;> rfl
theorem ok_in_order (T : Top K mg A) : FnOk P w K mg base (L2.CX P w) 57 A.f_in_order A.d_in_order P_in_order (spCall A K fun c => ∃ k ns, c = .sorted k ns) := by
  refine T.F_in_order.okX sc_in_order (fun vs H Q E h => ?_) (fun cdv _ outer s H vs Q E hr h => ⟨_, (pss_cons (ps_set (i := 2) sc_in_order.nd rfl (Or.inl rfl) (pe_meth0 (pv 1) T.c_Row T.M_Row_one (ok_Row_one T) (hr.mono (by omega)) (b_Row_one T) .nil pass0))
    (pss_cons (ps_set (i := 3) sc_in_order.nd rfl (Or.inl rfl) (pe_meth0 (pv 1) T.c_Row T.M_Row_told (ok_Row_told T) (hr.mono (by omega)) (b_Row_told T) .nil pass0))
    (pss_cons (ps_expr (pe_call (ok_check_set T) (hr.mono (by omega)) (by rfl) T.g_check_set T.F_check_set.kp (b_check_set T) .nil (passes_call (takes_of rfl rfl rfl rfl) (fun _ _ _ _ h => h)) (pa_cons (pv 2) pa_nil)))
    (pss_cons (ps_if (pt_cmpR op_gt (pe_callB call_len_seq (by rfl) T.n_len PySem.boot_len (pa_cons (pv 3) pa_nil)) (pe_gi rfl T.k_MOST_SORTED) (nomark _))
    (pss_one (ps_raise rfl (takes_of rfl rfl rfl rfl) (pmk_own0 PySem.F.excBase_Exception T.x_NotAsTold T.g_NotAsTold T.kp_NotAsTold (raises_own T.b_NotAsTold T.t_NotAsTold) (by exact rfl))))
    pss_nil)
    (pss_cons (ps_for (passes_of rfl) rfl (pi_list (pv 3)) (pg_name (i := 4) sc_in_order.nd rfl (Or.inl rfl))
    (pss_one (ps_expr (pe_call (ok_check_number T) (hr.mono (by omega)) (by rfl) T.g_check_number T.F_check_number.kp (b_check_number T) .nil (passes_call (takes_of rfl rfl rfl rfl) (fun _ _ _ _ h => h)) (pa_cons (pv 4) pa_nil)))))
    (pss_one (ps_ret (pe_call (ok_listed T) (hr.mono (by omega)) (by rfl) T.g_listed T.F_listed.kp (b_listed T) .nil pass0 (pa_cons (pe_call (ok_by_their_texts T) (hr.mono (by omega)) (by rfl) T.g_by_their_texts T.F_by_their_texts.kp (b_by_their_texts T) .nil pass0 (pa_cons (pv 0) (pa_cons (pv 2) (pa_cons (pv 3) pa_nil)))) pa_nil))))))))), ?_⟩)
  · obtain ⟨_, _, _, _, _, _, _, _, _, _, rfl, _⟩ := h
    rfl
  obtain ⟨F, st, a, dx, l, xs, i, S, c, rest, rfl, ⟨k, ns, rfl⟩, hP, hd, hin, hsm, kA, kS, kQ⟩ := h
  have hd : xs.drop i = k :: ns.length :: (ns ++ rest) := hd
  have hin : ns.length ≤ 400 := hin
  obtain ⟨q1, q2, q3⟩ := drop_cons hd
  obtain ⟨q4, q5, q6⟩ := drop_cons q2
  obtain ⟨q7, q8, q9⟩ := drop_app q5
  obtain ⟨r0, rS⟩ := hP.row
  obtain ⟨h1, hS1⟩ := hP.row.upd (i + 1)
  have ej : i + (encC (.sorted k ns)).tail.length = i + 1 + 1 + ns.length := by show i + (ns.length + 1 + 1) = _; omega
  rw [ej] at kA kS kQ
  have estep : Sw64.step ⟨S⟩ (.sorted k ns) = if (decide (k < Sw64.SETS) && (decide (ns.length ≤ Sw64.LIST) && ns.all fun n => decide (n ≤ Sw64.MOST))) = false then (⟨S⟩, Sw64.ok (-1)) else (⟨S⟩, ⟨(ns.length : Nat), [Sw64.inOrder S k ns]⟩) := rfl
  have bad : ∀ H', Same (upd H a (.ins A.C_Row dx (rowF l (i + 1 + 1 + ns.length)))) H' → (decide (k < Sw64.SETS) && (decide (ns.length ≤ Sw64.LIST) && ns.all fun n => decide (n ≤ Sw64.MOST))) = false → E (.ref A.C_NotAsTold) none H' := fun H' e hb => by
    rw [if_pos hb] at estep
    rw [estep] at kA
    exact kA rfl H' (hP.after e)
  refine ⟨_, rfl, _, _, _, rfl, r0, F_Row_no_one, a, dx, l, xs, i, _, rfl, r0, rS, q1, ?_⟩
  refine ⟨_, rfl, _, _, _, rfl, h1, F_Row_no_told, a, dx, l, xs, i + 1, _, rfl, h1, hS1, q4, by have := q9 (by omega); omega, fun p hp => ?_⟩
  rw [upd_upd, q8]
  have npa : p ≠ a := fun z => by rw [z, upd_same] at hp; cases hp
  have fp : H p = none := by rwa [upd_ne npa] at hp
  have s1 : Same (upd H a (.ins A.C_Row dx (rowF l (i + 1 + 1 + ns.length)))) (upd (upd H a (.ins A.C_Row dx (rowF l (i + 1 + 1 + ns.length)))) p (.lst (nums ns))) := same_new (by rw [upd_ne npa]; exact fp) _
  generalize hU : upd (upd H a (.ins A.C_Row dx (rowF l (i + 1 + 1 + ns.length)))) p (.lst (nums ns)) = U at s1
  have hpU : U p = some (.lst (nums ns)) := by rw [← hU]; exact upd_same
  refine ⟨_, rfl, k, rfl, fun e => bad _ s1 (by rw [show decide (k < Sw64.SETS) = false from e, Bool.false_and]), fun e => ?_⟩
  have hk : k < 8 := of_decide_eq_true e
  have h200 : Sw64.LIST = 200 := rfl
  refine ⟨_, rfl, p, _, rfl, .inl (SqL.of hpU), _, _, rfl, rfl, _, rfl, ?_⟩
  refine split_dec (fun c => ?_) (fun c => ?_)
  · have c' : ¬ ns.length ≤ Sw64.LIST := by rw [nums_length] at c; omega
    exact bad _ s1 (by rw [decide_eq_false c']; simp)
  have c' : ns.length ≤ 200 := by rw [nums_length] at c; omega
  refine ⟨_, rfl, p, rfl, ⟨_, SqL.of hpU⟩, for_list (K := K) (a := p) (xs := nums ns)
    (fun j σ H' => H' = U ∧ (∃ v, σ = [some (.ref st), some (.ref a), some (.int (k : Int)), some (.ref p), v]) ∧ ∀ n ∈ ns.take j, n ≤ Sw64.MOST) ⟨rfl, ⟨none, rfl⟩, fun n hn => by cases hn⟩ ?_ ?_ ?_⟩
  · rintro j σ H' _ ⟨rfl, _⟩
    exact SqL.of hpU
  · rintro j y σ H' hj ⟨rfl, ⟨v, rfl⟩, hM⟩
    obtain ⟨n, hn, rfl⟩ := nums_getx hj
    refine ⟨_, rfl, n, rfl, fun e2 => ?_, fun e2 => ?_⟩
    · refine bad _ s1 ?_
      have : ns.all (fun n => decide (n ≤ Sw64.MOST)) = false := by
        rw [List.all_eq_false]
        exact ⟨n, List.mem_of_getElem? hn, by rw [show decide (n ≤ Sw64.MOST) = false from e2]; decide⟩
      rw [this]; simp
    · refine ⟨rfl, ⟨_, rfl⟩, fun m hm => ?_⟩
      rw [take_more hn] at hm
      rcases List.mem_append.mp hm with hm | hm
      · exact hM m hm
      · rw [List.mem_singleton.mp hm]; exact of_decide_eq_true e2
  · rintro σ H' ⟨rfl, ⟨v, rfl⟩, hM⟩
    rw [nums_length, List.take_length] at hM
    have hgood : (decide (k < Sw64.SETS) && (decide (ns.length ≤ Sw64.LIST) && ns.all fun n => decide (n ≤ Sw64.MOST))) = true := by
      rw [show decide (k < Sw64.SETS) = true from e, decide_eq_true (show ns.length ≤ Sw64.LIST by omega)]
      rw [Bool.true_and, Bool.true_and, List.all_eq_true]
      exact fun n hn => decide_eq_true (hM n hn)
    rw [if_neg (by rw [hgood]; decide)] at estep
    rw [estep] at kQ
    refine ⟨_, rfl, _, rfl, _, rfl, F, st, p, S, k, ns, rfl, hP.sets8 s1 hk, SqL.of hpU, by omega, hM, fun H2 p2 s2 fp2 hp2 => ?_⟩
    have hil := inOrder_len S k ns
    refine ⟨p2, _, rfl, hp2, by omega, fun H3 p3 s3 fp3 hp3 => ?_⟩
    refine kQ H3 p3 (hP.after (s1.trans (s2.trans s3))) (fresh_of (s1.trans s2) fp3) ?_
    rw [hp3, out_one, hil]
    unfold nums
    rw [List.map_cons, List.map_cons] <;> rfl
end
end Sn
/-! reading: stretches and ways in plain Lean; the roles of a read's own objects -/
namespace Sn
open PySem PySem.Spec PyProof.Rows L2
/-- a set, a lowest number, a highest -/
abbrev SKey := Nat × Nat × Nat
structure WayD where
  fixed : Nat
  letters : List Sw64.Bytes
  slots : List (Nat × SKey)
inductive Role
  | str (x : SKey) | ke (x : SKey) | kn (x : SKey)
  | way (w : WayD) | we (w : WayD)
  | ms | mw
  | frz (o : HO)
abbrev Gh := Addr → Option Role
/-! ### masks -/
def bmk (p : Nat → Bool) : Nat → Nat
  | 0 => 0
  | n + 1 => bmk p n ||| (if p n = true then 2 ^ n else 0)
theorem bmk_bit (p : Nat → Bool) : ∀ n i, (bmk p n).testBit i = (decide (i < n) && p i)
  | 0, i => by rw [bmk, Nat.zero_testBit]; simp
  | n + 1, i => by
    rw [bmk, Nat.testBit_or, bmk_bit p n i]
    by_cases c : i = n
    · subst c
      cases h : p i <;> simp [Nat.testBit_two_pow_self]
    · have e : (if p n = true then 2 ^ n else 0).testBit i = false := by
        split
        · exact Nat.testBit_two_pow_of_ne (Ne.symm c)
        · exact Nat.zero_testBit i
      rw [e, Bool.or_false]
      congr 1
      exact decide_eq_decide.mpr (by omega)
theorem bmk_lt (p : Nat → Bool) (n : Nat) : bmk p n < 2 ^ n := by
  refine Nat.lt_pow_two_of_testBit _ fun i hi => ?_
  rw [bmk_bit, decide_eq_false (by omega), Bool.false_and]
/-! ### stretches and ways -/
def boxes (d lo hi : Nat) : List ((Nat × Nat) × (Nat × Nat)) :=
  if lo / d = hi / d then [((lo / d, lo / d), (lo % d, hi % d))] else
    (if 0 < lo % d then [((lo / d, lo / d), (lo % d, d - 1))] else []) ++ (if hi % d < d - 1 then [((hi / d, hi / d), (0, hi % d))] else []) ++
    (if (if 0 < lo % d then lo / d + 1 else lo / d) ≤ (if hi % d < d - 1 then hi / d - 1 else hi / d) then [(((if 0 < lo % d then lo / d + 1 else lo / d), (if hi % d < d - 1 then hi / d - 1 else hi / d)), (0, d - 1))] else [])
def common (a b : Nat × Nat) : Nat × Nat := (max a.1 b.1, min a.2 b.2)
def slotD (d : Nat) (q r : Nat × Nat) (y : Sw64.Piece) : Nat × SKey := if pk y = 1 then (d, (pby y, q.1, q.2)) else (1, (pby y, r.1, r.2))
def shapeWay (d : Nat) (s : Sh) (q r : Nat × Nat) : WayD := ⟨if (s.sl.any fun y => decide (pk y = 1)) = true then 0 else d, s.letters, s.sl.map (slotD d q r)⟩
def okRun (q : Nat × Nat) : Bool := decide (q.1 ≤ q.2)
def boxWays (d : Nat) (b : (Nat × Nat) × (Nat × Nat)) (s : Sh) : List WayD := if (okRun (common b.1 s.q) && okRun (common b.2 s.r)) = true then [shapeWay d s (common b.1 s.q) (common b.2 s.r)] else []
def partWays (R : Sw64.Rule) (lo hi : Nat) : List WayD := (boxes R.by_ lo hi).flatMap fun b => (shapesOf R.pieces).flatMap (boxWays R.by_ b)
def ruleWays (R : Sw64.Rule) (lo hi : Nat) : List WayD := if 0 < R.by_ then partWays R lo hi else if lo = R.base then [⟨R.base, ((shapesOf R.pieces).headD (Sh.new (0, 0) (0, 0))).letters, []⟩] else []
/-- the rules that a stretch meets -/
def meet (S : Sw64.Sets) (x : SKey) : List (Sw64.Rule × Nat) := ((withLast (S.getD x.1 [])).take (upCnt (S.getD x.1 []) x.2.2)).drop (upCnt (S.getD x.1 []) x.2.1 - 1)
/-- a rule's part of a stretch -/
def rKey (x : SKey) (y : Sw64.Rule × Nat) : SKey := (x.1, max x.2.1 y.1.base, min x.2.2 y.2)
def waysIn (S : Sw64.Sets) (x : SKey) : List WayD := (meet S x).flatMap fun y => ruleWays y.1 (rKey x y).2.1 (rKey x y).2.2
/-! ### what a read is about -/
structure RC where
  F : Hp
  st : Addr
  S : Sw64.Sets
  txt : Sw64.Bytes
  C : List SKey
  CW : List SKey
/-- letters stand at a place of the text -/
def RC.At (c : RC) (a : Nat) (l : Sw64.Bytes) : Bool := l.isPrefixOf (c.txt.drop a)
def RC.Says (c : RC) (k n a b : Nat) : Prop := ∃ t, Sw64.said c.S k n = some t ∧ c.At a t = true ∧ b = a + t.length
def RC.Mem (c : RC) (x : SKey) (n a b : Nat) : Prop := x.2.1 ≤ n ∧ n ≤ x.2.2 ∧ c.Says x.1 n a b
def RC.Sq (c : RC) : List (Nat × SKey) → List Sw64.Bytes → List Nat → Nat → Nat → Prop
  | [], _, [], a, b => a = b
  | y :: ys, l :: ls, v :: vs, a, b => ∃ m, c.Mem y.2 v a m ∧ c.At m l = true ∧ c.Sq ys ls vs (m + l.length) b
  | _, _, _, _, _ => False
def RC.WSays (c : RC) (w : WayD) (vs : List Nat) (a b : Nat) : Prop := c.At a (w.letters.headD []) = true ∧ c.Sq w.slots w.letters.tail vs (a + (w.letters.headD []).length) b
def vsum : List (Nat × SKey) → List Nat → Nat
  | y :: ys, v :: vs => y.1 * v + vsum ys vs
  | _, _ => 0
def wval (w : WayD) (vs : List Nat) : Nat := w.fixed + vsum w.slots vs
open Classical in
noncomputable def RC.EM (c : RC) (x : SKey) (a : Nat) : Nat := bmk (fun b => decide (∃ n, c.Mem x n a b)) (c.txt.length + 1)
open Classical in
noncomputable def RC.WM (c : RC) (w : WayD) (a : Nat) : Nat := bmk (fun b => decide (∃ vs, c.WSays w vs a b)) (c.txt.length + 1)
def RC.LM (c : RC) (l : Sw64.Bytes) : Nat := bmk (fun a => c.At a l) (c.txt.length + 1)
def RC.good (c : RC) (w : WayD) : Bool := w.letters.all fun l => decide (0 < c.LM l)
def RC.ways (c : RC) (x : SKey) : List WayD := (waysIn c.S x).filter c.good
def RC.Nums (c : RC) (x : SKey) (a b : Nat) (ns : List Nat) : Prop := ns.Nodup ∧ ∀ n, n ∈ ns ↔ c.Mem x n a b
/-! ### dicts -/
section
variable {κ : Type} [DecidableEq κ]
def DOk (kvs : List (κ × V)) (P : κ → V → Prop) : Prop := (kvs.map fun z => z.1).Nodup ∧ ∀ z ∈ kvs, P z.1 z.2
theorem DOk.nil {P : κ → V → Prop} : DOk [] P := ⟨List.nodup_nil, fun z hz => by cases hz⟩
theorem DOk.mono {kvs : List (κ × V)} {P P' : κ → V → Prop} (h : DOk kvs P) (m : ∀ k v, P k v → P' k v) : DOk kvs P' := ⟨h.1, fun z hz => m _ _ (h.2 z hz)⟩
theorem DOk.get {P : κ → V → Prop} : ∀ {kvs : List (κ × V)} {k : κ} {v : V}, (∀ z ∈ kvs, P z.1 z.2) → valV kvs k = some v → P k v
  | [], k, v, _, e => by cases e
  | z :: kvs, k, v, h, e => by
    by_cases c : z.1 = k
    · rw [valV_pos c] at e
      cases e
      subst c
      exact h z List.mem_cons_self
    · rw [valV_neg c] at e
      exact DOk.get (fun y hy => h y (List.mem_cons_of_mem _ hy)) e
theorem DOk.no : ∀ {kvs : List (κ × V)} {k : κ}, valV kvs k = none → k ∉ kvs.map fun z => z.1
  | [], k, _, e => by cases e
  | z :: kvs, k, h, e => by
    by_cases c : z.1 = k
    · rw [valV_pos c] at h; cases h
    · rw [valV_neg c] at h
      rw [List.map_cons] at e
      rcases List.mem_cons.mp e with e | e
      · exact c e.symm
      · exact DOk.no h e
theorem DOk.put {kvs : List (κ × V)} {P : κ → V → Prop} {k : κ} {v : V} (h : DOk kvs P) (e : valV kvs k = none) (p : P k v) : DOk (putK kvs k v) P := by
  rw [putK_new v e]
  refine ⟨?_, fun z hz => ?_⟩
  · rw [List.map_append, List.nodup_append]
    refine ⟨h.1, by simp, fun a ha b hb => ?_⟩
    have hb : b = k := by simpa using hb
    intro z
    rw [hb] at z
    exact DOk.no e (z ▸ ha)
  · rcases List.mem_append.mp hz with hz | hz
    · exact h.2 z hz
    · rw [List.mem_singleton.mp hz]; exact p
theorem DOk.len {kvs : List (κ × V)} {P : κ → V → Prop} (h : DOk kvs P) (L : List κ) (hL : ∀ k v, P k v → k ∈ L) : kvs.length ≤ L.length := by
  have := h.1.length_le_of_subset (l₂ := L) fun k hk => by
    obtain ⟨z, hz, rfl⟩ := List.mem_map.mp hk
    exact hL _ _ (h.2 z hz)
  rwa [List.length_map] at this
/-- there is room for one more -/
theorem DOk.room {kvs : List (κ × V)} {P : κ → V → Prop} (h : DOk kvs P) (L : List κ) (hL : ∀ k v, P k v → k ∈ L) {k : κ} (e : valV kvs k = none) (hk : k ∈ L) : kvs.length < L.length := by
  have h2 : (kvs.map (fun z => z.1) ++ [k]).Nodup := by
    rw [List.nodup_append]
    refine ⟨h.1, by simp, fun a ha b hb z => ?_⟩
    have hb : b = k := by simpa using hb
    rw [hb] at z
    exact DOk.no e (z ▸ ha)
  have := h2.length_le_of_subset (l₂ := L) fun j hj => by
    rcases List.mem_append.mp hj with hj | hj
    · obtain ⟨z, hz, rfl⟩ := List.mem_map.mp hj
      exact hL _ _ (h.2 z hz)
    · rw [List.mem_singleton.mp hj]; exact hk
  rw [List.length_append, List.length_map] at this
  exact this
end
/-! ### what an object of a role looks like -/
def kS (x : SKey) : List L2.Key := [Sum.inl (x.1 : Int), Sum.inl (x.2.1 : Int), Sum.inl (x.2.2 : Int)]
theorem kS_inj {x y : SKey} (h : kS x = kS y) : x = y := by
  obtain ⟨a, b, c⟩ := x
  obtain ⟨d, e, f⟩ := y
  unfold kS at h
  simp only [List.cons.injEq, Sum.inl.injEq, and_true] at h
  obtain ⟨h1, h2, h3⟩ := h
  have h1 : (a : Int) = d := h1
  have h2 : (b : Int) = e := h2
  have h3 : (c : Int) = f := h3
  rw [show a = d by omega, show b = e by omega, show c = f by omega]
def LetAt (F : Hp) (ll : Addr) (ls : List Sw64.Bytes) : Prop := ∃ las, F ll = some (.lst (refs las)) ∧ All2 (BytesAt F) las ls
def WaysAt (G : Gh) (l : Addr) (ws : List WayD) : Prop := ∃ as, G l = some (.frz (.lst (refs as))) ∧ All2 (fun a w => G a = some (.way w)) as ws
def NumsAt (G : Gh) (l : Addr) (ns : List Nat) : Prop := G l = some (.frz (.lst (nums ns)))
def keP (c : RC) (x : SKey) (k : L2.Key) (v : V) : Prop := ∃ a : Nat, k = Sum.inl (a : Int) ∧ a ≤ c.txt.length ∧ v = .int (c.EM x a : Nat)
def weP (c : RC) (w : WayD) (k : L2.Key) (v : V) : Prop := ∃ a : Nat, k = Sum.inl (a : Int) ∧ a ≤ c.txt.length ∧ v = .int (c.WM w a : Nat)
def knP (c : RC) (G : Gh) (x : SKey) (k : List L2.Key) (v : V) : Prop := ∃ (a b : Nat) (l : Addr) (ns : List Nat), k = [Sum.inl (a : Int), Sum.inl (b : Int)] ∧ a ≤ c.txt.length ∧ b ≤ c.txt.length ∧ v = .ref l ∧ NumsAt G l ns ∧ c.Nums x a b ns
def msP (c : RC) (G : Gh) (k : List L2.Key) (v : V) : Prop := ∃ (x : SKey) (a : Addr), k = kS x ∧ x ∈ c.C ∧ v = .ref a ∧ G a = some (.str x)
def mwP (c : RC) (G : Gh) (k : List L2.Key) (v : V) : Prop := ∃ (x : SKey) (l : Addr) (R : Sw64.Rule), k = kS x ∧ x ∈ c.CW ∧ R ∈ c.S.getD x.1 [] ∧ R.base ≤ x.2.1 ∧ x.2.1 ≤ Sw64.upTo (c.S.getD x.1 []) R ∧ v = .ref l ∧ WaysAt G l (ruleWays R x.2.1 x.2.2)
/-- an instance whose masks are known -/
def HasO (o : HO) : Prop := ∃ C dx fs ml, o = .ins C dx fs ∧ fs.lookup ("masks" : Str) = some (V.ref ml)
def HasM (H : Hp) (b : Addr) : Prop := ∃ o, H b = some o ∧ HasO o
theorem HasM.same {H H' : Hp} {b : Addr} (h : HasM H b) (e : Same H H') : HasM H' b := let ⟨o, h1, h2⟩ := h; ⟨o, e _ _ h1, h2⟩
theorem HasM.not {H : Hp} {b : Addr} {kvs : List (List L2.Key × V)} (e : H b = some (.dT kvs)) (h : HasM H b) : False := by
  obtain ⟨o, h1, C, dx, fs, ml, rfl, _⟩ := h
  rw [e] at h1; cases h1
theorem HasM.notK {H : Hp} {b : Addr} {kvs : List (L2.Key × V)} (e : H b = some (.dK kvs)) (h : HasM H b) : False := by
  obtain ⟨o, h1, C, dx, fs, ml, rfl, _⟩ := h
  rw [e] at h1; cases h1
theorem HasM.some {H : Hp} {b : Addr} (h : HasM H b) : H b ≠ none := fun e => by
  obtain ⟨o, h1, _⟩ := h
  rw [e] at h1; cases h1
def WaysM (G : Gh) (H : Hp) (l : Addr) (ws : List WayD) : Prop := ∃ as, G l = some (.frz (.lst (refs as))) ∧ All2 (fun b w => G b = some (.way w) ∧ HasM H b) as ws
def HLe (G : Gh) (H H' : Hp) : Prop := ∀ b w, G b = some (.way w) → HasM H b → HasM H' b
theorem HLe.rfl {G : Gh} {H : Hp} : HLe G H H := fun _ _ _ h => h
def ObjR (c : RC) (A : Ad) (G : Gh) (H : Hp) (x : Option (Addr × V)) (a : Addr) (o : Option HO) : Role → Prop
  | .str y => ∃ dx wv e n, o = some (.ins A.C_Stretch dx (F_Stretch (.int (y.1 : Nat)) (.int (y.2.1 : Nat)) (.int (y.2.2 : Nat)) wv (.ref e) (.ref n))) ∧ G e = some (.ke y) ∧ G n = some (.kn y) ∧ (x = some (a, wv) ∨ (∀ v, x ≠ some (a, v)) ∧ (wv = .non ∨ ∃ l, wv = .ref l ∧ WaysM G H l (c.ways y)))
  | .ke y => ∃ kvs, o = some (.dK kvs) ∧ DOk kvs (keP c y)
  | .kn y => ∃ kvs, o = some (.dT kvs) ∧ DOk kvs (knP c G y)
  | .way w => ∃ dx ll wl sl mv e sas, o = some (.ins A.C_Way dx (F_Way (.int (w.fixed : Nat)) (.ref ll) (.ref wl) (.ref sl) mv (.ref e))) ∧ LetAt c.F ll w.letters ∧ NumsAt G wl (w.slots.map fun y => y.1) ∧ G sl = some (.frz (.lst (refs sas))) ∧ All2 (fun a y => G a = some (.str y.2)) sas w.slots ∧ G e = some (.we w) ∧
      (mv = .non ∨ ∃ ml, mv = .ref ml ∧ NumsAt G ml (w.letters.map c.LM))
  | .we w => ∃ kvs, o = some (.dK kvs) ∧ DOk kvs (weP c w)
  | .ms => ∃ kvs, o = some (.dT kvs) ∧ DOk kvs (msP c G)
  | .mw => ∃ kvs, o = some (.dT kvs) ∧ DOk kvs (mwP c G)
  | .frz u => o = some u
def Le (G G' : Gh) : Prop := ∀ a r, G a = some r → G' a = some r
theorem Le.rfl {G : Gh} : Le G G := fun _ _ h => h
theorem Le.trans {G G' G'' : Gh} (h : Le G G') (h' : Le G' G'') : Le G G'' := fun a r e => h' a r (h a r e)
theorem WaysAt.mono {G G' : Gh} {l : Addr} {ws : List WayD} (h : WaysAt G l ws) (e : Le G G') : WaysAt G' l ws :=
  let ⟨as, h1, h2⟩ := h
  ⟨as, e _ _ h1, h2.mono fun _ _ _ _ z => e _ _ z⟩
theorem WaysM.mono {G G' : Gh} {H H' : Hp} {l : Addr} {ws : List WayD} (h : WaysM G H l ws) (e : Le G G') (m : HLe G H H') : WaysM G' H' l ws :=
  let ⟨as, h1, h2⟩ := h
  ⟨as, e _ _ h1, h2.mono fun _ _ _ _ z => ⟨e _ _ z.1, m _ _ z.1 z.2⟩⟩
theorem ObjR.mono {c : RC} {A : Ad} {G G' : Gh} {H H' : Hp} {x : Option (Addr × V)} {a : Addr} {o : Option HO} {r : Role} (h : ObjR c A G H x a o r) (e : Le G G') (m : HLe G H H') : ObjR c A G' H' x a o r := by
  cases r with
  | str y =>
    obtain ⟨dx, wv, ke, n, h1, h2, h3, h4⟩ := h
    refine ⟨dx, wv, ke, n, h1, e _ _ h2, e _ _ h3, ?_⟩
    rcases h4 with h4 | ⟨h3, h4 | ⟨l, h4, h5⟩⟩
    · exact .inl h4
    · exact .inr ⟨h3, .inl h4⟩
    · exact .inr ⟨h3, .inr ⟨l, h4, h5.mono e m⟩⟩
  | ke y => exact h
  | kn y =>
    obtain ⟨kvs, h1, h2⟩ := h
    exact ⟨kvs, h1, h2.mono fun k v ⟨a, b, l, ns, q1, q2, q3, q4, q5, q6⟩ => ⟨a, b, l, ns, q1, q2, q3, q4, e _ _ q5, q6⟩⟩
  | way w =>
    obtain ⟨dx, ll, wl, sl, mv, k, sas, h1, h2, h3, h4, h5, h6, h7⟩ := h
    refine ⟨dx, ll, wl, sl, mv, k, sas, h1, h2, e _ _ h3, e _ _ h4, h5.mono fun _ _ _ _ z => e _ _ z, e _ _ h6, ?_⟩
    rcases h7 with h7 | ⟨ml, h7, h8⟩
    · exact .inl h7
    · exact .inr ⟨ml, h7, e _ _ h8⟩
  | we w => exact h
  | ms =>
    obtain ⟨kvs, h1, h2⟩ := h
    exact ⟨kvs, h1, h2.mono fun k v ⟨x, a, q1, q2, q3, q4⟩ => ⟨x, a, q1, q2, q3, e _ _ q4⟩⟩
  | mw =>
    obtain ⟨kvs, h1, h2⟩ := h
    exact ⟨kvs, h1, h2.mono fun k v ⟨x, a, R, q1, q2, q3, q4, q5, q6, q7⟩ => ⟨x, a, R, q1, q2, q3, q4, q5, q6, q7.mono e⟩⟩
  | frz u => exact h
theorem ObjR.some {c : RC} {A : Ad} {G : Gh} {H : Hp} {x : Option (Addr × V)} {a : Addr} {r : Role} (h : ObjR c A G H x a none r) : False := by
  cases r with
  | str y => obtain ⟨_, _, _, _, h1, _⟩ := h; cases h1
  | ke y => obtain ⟨_, h1, _⟩ := h; cases h1
  | kn y => obtain ⟨_, h1, _⟩ := h; cases h1
  | way w => obtain ⟨_, _, _, _, _, _, _, h1, _⟩ := h; cases h1
  | we w => obtain ⟨_, h1, _⟩ := h; cases h1
  | ms => obtain ⟨_, h1, _⟩ := h; cases h1
  | mw => obtain ⟨_, h1, _⟩ := h; cases h1
  | frz u => cases h
/-- each object is as its role says -/
structure RInv (c : RC) (A : Ad) (G : Gh) (x : Option (Addr × V)) (H : Hp) : Prop where
  sF : Same c.F H
  fF : ∀ b, c.F b ≠ none → G b = none
  ok : ∀ a r, G a = some r → ObjR c A G H x a (H a) r
  xr : ∀ b v, x = some (b, v) → G b ≠ none
/-- roles stay; what has no role stays, and gets none -/
structure Ext (G G' : Gh) (H H' : Hp) : Prop where
  le : Le G G'
  kp : ∀ b o, H b = some o → G b = none → H' b = some o
  nw : ∀ b, H b ≠ none → G b = none → G' b = none
  hm : ∀ b, HasM H b → HasM H' b
theorem Ext.rfl {G : Gh} {H : Hp} : Ext G G H H := ⟨Le.rfl, fun _ _ h _ => h, fun _ _ h => h, fun _ h => h⟩
theorem Ext.trans {G G1 G2 : Gh} {H H1 H2 : Hp} (a : Ext G G1 H H1) (b : Ext G1 G2 H1 H2) : Ext G G2 H H2 :=
  ⟨a.le.trans b.le, fun p o h g => b.kp p o (a.kp p o h g) (a.nw p (by rw [h]; intro z; cases z) g), fun p h g => by
    cases e : H p with
    | none => exact absurd e h
    | some o => exact b.nw p (by rw [a.kp p o e g]; intro z; cases z) (a.nw p h g), fun p h => b.hm p (a.hm p h)⟩
theorem Ext.same {G : Gh} {H H' : Hp} (e : Same H H') : Ext G G H H' := ⟨Le.rfl, fun b o h _ => e b o h, fun _ _ h => h, fun _ h => h.same e⟩
/-- a role for a place that has none -/
def addR (G : Gh) (a : Addr) (r : Role) : Gh := fun b => if b = a then some r else G b
theorem addR_same {G : Gh} {a : Addr} {r : Role} : addR G a r a = some r := if_pos rfl
theorem addR_ne {G : Gh} {a b : Addr} {r : Role} (h : b ≠ a) : addR G a r b = G b := if_neg h
theorem le_addR {G : Gh} {a : Addr} {r : Role} (h : G a = none) : Le G (addR G a r) := fun b q e => by
  by_cases c : b = a
  · subst c; rw [h] at e; cases e
  · rw [addR_ne c]; exact e
section
variable {c : RC} {A : Ad} {G : Gh} {x : Option (Addr × V)} {H : Hp}
theorem RInv.fresh (I : RInv c A G x H) {p : Addr} (h : H p = none) : G p = none := by
  cases e : G p with
  | none => rfl
  | some r => have := I.ok p r e; rw [h] at this; exact this.some.elim
theorem RInv.there (I : RInv c A G x H) {p : Addr} {r : Role} (h : G p = some r) : H p ≠ none := fun e => by
  have := I.ok p r h; rw [e] at this; exact this.some
theorem RInv.free (I : RInv c A G x H) {p : Addr} {r : Role} (h : G p = some r) : c.F p = none := by
  cases e : c.F p with
  | none => rfl
  | some o => have := I.fF p (by rw [e]; intro z; cases z); rw [h] at this; cases this
theorem RInv.frz (I : RInv c A G x H) {p : Addr} {o : HO} (h : G p = some (.frz o)) : H p = some o := I.ok p _ h
/-- only what has no role changes -/
theorem RInv.kept {H' : Hp} (I : RInv c A G x H) (s : Same c.F H') (h : ∀ b r, G b = some r → H' b = H b) : RInv c A G x H' :=
  ⟨s, I.fF, fun a r e => by rw [h a r e]; exact (I.ok a r e).mono Le.rfl fun b w g ⟨o, q1, q2⟩ => ⟨o, (h b _ g).trans q1, q2⟩, I.xr⟩
theorem RInv.new (I : RInv c A G x H) {p : Addr} (h : H p = none) (o : HO) : RInv c A G x (upd H p o) :=
  I.kept (I.sF.trans (same_new h o)) fun b r e => upd_ne fun z => I.there e (z ▸ h)
theorem RInv.temp (I : RInv c A G x H) {p : Addr} (h : G p = none) (hF : c.F p = none) (o : HO) : RInv c A G x (upd H p o) :=
  I.kept (Same.upd_new I.sF hF) fun b r e => upd_ne fun z => by rw [z, h] at e; cases e
theorem RInv.same {H' : Hp} (I : RInv c A G x H) (s : Same H H') : RInv c A G x H' :=
  I.kept (I.sF.trans s) fun b r e => by
    cases q : H b with
    | none => exact absurd q (I.there e)
    | some o => exact s b o q
theorem HLe.upd {p : Addr} {o : HO} (hm : HasM H p → HasO o) : HLe G H (upd H p o) := fun b _ _ ⟨u, q1, q2⟩ => by
  by_cases z : b = p
  · subst z; exact ⟨o, upd_same, hm ⟨u, q1, q2⟩⟩
  · exact ⟨u, (upd_ne z).trans q1, q2⟩
theorem RInv.set (I : RInv c A G x H) {p : Addr} {r : Role} (h : G p = some r) {o : HO} (hm : HasM H p → HasO o) (ho : ObjR c A G H x p (some o) r) : RInv c A G x (upd H p o) :=
  ⟨Same.upd_new I.sF (I.free h), I.fF, fun a q e => by
    by_cases z : a = p
    · subst z
      rw [h] at e; cases e
      rw [upd_same]; exact ho.mono Le.rfl (HLe.upd hm)
    · rw [upd_ne z]; exact (I.ok a q e).mono Le.rfl (HLe.upd hm), I.xr⟩
theorem RInv.add (I : RInv c A G x H) {p : Addr} {r : Role} (h : G p = none) (hF : c.F p = none) (ho : ObjR c A (addR G p r) H x p (H p) r) : RInv c A (addR G p r) x H :=
  ⟨I.sF, fun b hb => by
      have : b ≠ p := fun z => hb (z ▸ hF)
      rw [addR_ne this]; exact I.fF b hb, fun a q e => by
    by_cases z : a = p
    · subst z
      rw [addR_same] at e; cases e
      exact ho
    · rw [addR_ne z] at e
      exact (I.ok a q e).mono (le_addR h) HLe.rfl, fun b v e z => by
    cases q : G b with
    | none => exact I.xr b v e q
    | some r => have := le_addR (r := r) h b; rw [le_addR h b _ q] at z; cases z⟩
/-- a new object with a role -/
theorem Ext.add {p : Addr} {r : Role} {H0 : Hp} {G0 : Gh} (e : Ext G0 G H0 H) (hp : H0 p = none) (hg : G p = none) : Ext G0 (addR G p r) H0 H :=
  ⟨e.le.trans (le_addR hg), e.kp, fun b h g => by
    have : b ≠ p := fun z => h (z ▸ hp)
    rw [addR_ne this]; exact e.nw b h g, e.hm⟩
theorem Ext.upd_role {p : Addr} {r : Role} {o : HO} (h : G p = some r) (hm : HasM H p → HasO o) : Ext G G H (upd H p o) :=
  ⟨Le.rfl, fun b u q g => by rw [upd_ne (fun z => by rw [z, h] at g; cases g)]; exact q, fun _ _ g => g, fun b ⟨u, q1, q2⟩ => by
    by_cases z : b = p
    · subst z; exact ⟨o, upd_same, hm ⟨u, q1, q2⟩⟩
    · exact ⟨u, (upd_ne z).trans q1, q2⟩⟩
/-- from the heap H0, places new since then may change -/
theorem Ext.upd_new {p : Addr} {o : HO} {G0 : Gh} {H0 : Hp} (e : Ext G0 G H0 H) (hp : H0 p = none) : Ext G0 G H0 (upd H p o) :=
  ⟨e.le, fun b u q g => by rw [upd_ne (ne_of_none q hp)]; exact e.kp b u q g, e.nw, fun b h => by
    obtain ⟨u, q1, q2⟩ := e.hm b h
    exact ⟨u, (upd_ne fun z => h.some (by rw [z]; exact hp)).trans q1, q2⟩⟩
end
end Sn
/-! reading: new stretches and ways, boxes -/
namespace Sn
open PySem PySem.Spec PyProof.Rows L2
section
variable {P : Program} {w : World} {K : PySem.W.Frag} {mg : Str → Option Value} {base : Heap} {A : Ad}
def spStretch_init (A : Ad) : Sp := fun vs H Q _ => ∃ (p dx : Addr) (v1 v2 v3 : V), vs = [.ref p, v1, v2, v3] ∧ H p = some (.ins A.C_Stretch dx []) ∧
  ∀ H' e n, H e = none → H n = none → e ≠ n → H' p = some (.ins A.C_Stretch dx (F_Stretch v1 v2 v3 .non (.ref e) (.ref n))) → H' e = some (.dK []) → H' n = some (.dT []) → (∀ b o, H b = some o → b ≠ p → H' b = some o) → Q .non H'
theorem ok_Stretch_init (T : Top K mg A) : FnOk P w K mg base CX0 1 A.f_Stretch_init A.d_Stretch_init P_Stretch_init (spStretch_init A) := by
  refine T.F_Stretch_init.ok sc_Stretch_init (fun vs H Q E h => ?_) (fun cdv _ outer s H vs Q E hr h => ⟨_, (pss_cons (ps_fld (pv 0) (pv 1) rfl)
    (pss_cons (ps_fld (pv 0) (pv 2) rfl)
    (pss_cons (ps_fld (pv 0) (pv 3) rfl)
    (pss_cons (ps_fld (pv 0) pe_non rfl)
    (pss_cons (ps_fld (pv 0) pe_dnewK rfl)
    (pss_one (ps_fld (pv 0) pe_dnewT rfl))))))), ?_⟩)
  · obtain ⟨p, dx, _, _, _, rfl, _⟩ := h
    rfl
  obtain ⟨p, dx, v1, v2, v3, rfl, hp, q⟩ := h
  refine ⟨_, rfl, _, rfl, _, _, _, _, rfl, hp, T.c_Stretch, T.n_Stretch_by, (by decide), ?_⟩
  rw [F_Stretch_ini_by]
  refine ⟨_, rfl, _, rfl, p, A.C_Stretch, dx, _, rfl, upd_same, T.c_Stretch, T.n_Stretch_low, (by show 1 < 1000; decide), ?_⟩
  rw [upd_upd, F_Stretch_ini_low]
  refine ⟨_, rfl, _, rfl, p, A.C_Stretch, dx, _, rfl, upd_same, T.c_Stretch, T.n_Stretch_high, (by show 2 < 1000; decide), ?_⟩
  rw [upd_upd, F_Stretch_ini_high]
  refine ⟨_, rfl, p, A.C_Stretch, dx, _, rfl, upd_same, T.c_Stretch, T.n_Stretch_ways, (by show 3 < 1000; decide), ?_⟩
  rw [upd_upd, F_Stretch_ini_ways]
  refine fun e he => ?_
  have nep : e ≠ p := fun z => by rw [z, upd_same] at he; cases he
  refine ⟨_, rfl, p, A.C_Stretch, dx, _, rfl, (upd_ne nep.symm).trans upd_same, T.c_Stretch, T.n_Stretch_known_ends, (by show 4 < 1000; decide), ?_⟩
  rw [F_Stretch_ini_known_ends]
  refine fun n hn => ?_
  have nnp : n ≠ p := fun z => by rw [z, upd_same] at hn; cases hn
  have nne : n ≠ e := fun z => by rw [z, upd_ne nep, upd_same] at hn; cases hn
  refine ⟨_, rfl, p, A.C_Stretch, dx, _, rfl, (upd_ne nnp.symm).trans upd_same, T.c_Stretch, T.n_Stretch_known_numbers, (by show 5 < 1000; decide), ?_⟩
  rw [F_Stretch_ini_known_numbers]
  rw [upd_ne nep] at he
  rw [upd_ne nnp, upd_ne nne, upd_ne nnp] at hn
  refine q _ e n he hn nne.symm upd_same ?_ ?_ fun b o hb hbp => ?_
  · rw [upd_ne nep, upd_ne nne.symm, upd_ne nep, upd_same]
  · rw [upd_ne nnp, upd_same]
  · rw [upd_ne hbp, upd_ne (ne_of_none hb hn), upd_ne hbp, upd_ne (ne_of_none hb he), upd_ne hbp]; exact hb
def spWay_init (A : Ad) : Sp := fun vs H Q _ => ∃ (p dx : Addr) (v1 v2 : V), vs = [.ref p, v1, v2] ∧ H p = some (.ins A.C_Way dx []) ∧
  ∀ H' wl sl e, H wl = none → H sl = none → H e = none → wl ≠ sl → wl ≠ e → sl ≠ e → H' p = some (.ins A.C_Way dx (F_Way v1 v2 (.ref wl) (.ref sl) .non (.ref e))) → H' wl = some (.lst []) → H' sl = some (.lst []) → H' e = some (.dK []) → (∀ b o, H b = some o → b ≠ p → H' b = some o) → Q .non H'
theorem ok_Way_init (T : Top K mg A) : FnOk P w K mg base CX0 1 A.f_Way_init A.d_Way_init P_Way_init (spWay_init A) := by
  refine T.F_Way_init.ok sc_Way_init (fun vs H Q E h => ?_) (fun cdv _ outer s H vs Q E hr h => ⟨_, (pss_cons (ps_fld (pv 0) (pv 1) rfl)
    (pss_cons (ps_fld (pv 0) (pv 2) rfl)
    (pss_cons (ps_fld (pv 0) (pe_lst pa_nil) rfl)
    (pss_cons (ps_fld (pv 0) (pe_lst pa_nil) rfl)
    (pss_cons (ps_fld (pv 0) pe_non rfl)
    (pss_one (ps_fld (pv 0) pe_dnewK rfl))))))), ?_⟩)
  · obtain ⟨p, dx, _, _, rfl, _⟩ := h
    rfl
  obtain ⟨p, dx, v1, v2, rfl, hp, q⟩ := h
  refine ⟨_, rfl, _, rfl, _, _, _, _, rfl, hp, T.c_Way, T.n_Way_fixed, (by decide), ?_⟩
  rw [F_Way_ini_fixed]
  refine ⟨_, rfl, _, rfl, p, A.C_Way, dx, _, rfl, upd_same, T.c_Way, T.n_Way_letters, (by show 1 < 1000; decide), ?_⟩
  rw [upd_upd, F_Way_ini_letters]
  refine ⟨(by show 0 ≤ sizeLine; decide), fun wl hw => ?_⟩
  have nwp : wl ≠ p := fun z => by rw [z, upd_same] at hw; cases hw
  refine ⟨_, rfl, p, A.C_Way, dx, _, rfl, (upd_ne nwp.symm).trans upd_same, T.c_Way, T.n_Way_weights, (by show 2 < 1000; decide), ?_⟩
  rw [F_Way_ini_weights]
  refine ⟨(by show 0 ≤ sizeLine; decide), fun sl hs => ?_⟩
  have nsp : sl ≠ p := fun z => by rw [z, upd_same] at hs; cases hs
  have nsw : sl ≠ wl := fun z => by rw [z, upd_ne nwp, upd_same] at hs; cases hs
  refine ⟨_, rfl, p, A.C_Way, dx, _, rfl, (upd_ne nsp.symm).trans upd_same, T.c_Way, T.n_Way_stretches, (by show 3 < 1000; decide), ?_⟩
  rw [F_Way_ini_stretches]
  refine ⟨_, rfl, p, A.C_Way, dx, _, rfl, upd_same, T.c_Way, T.n_Way_masks, (by show 4 < 1000; decide), ?_⟩
  rw [upd_upd, F_Way_ini_masks]
  refine fun e he => ?_
  have nep : e ≠ p := fun z => by rw [z, upd_same] at he; cases he
  have nes : e ≠ sl := fun z => by rw [z, upd_ne nsp, upd_same] at he; cases he
  have new : e ≠ wl := fun z => by rw [z, upd_ne nwp, upd_ne nsw.symm, upd_ne nwp, upd_same] at he; cases he
  refine ⟨_, rfl, p, A.C_Way, dx, _, rfl, (upd_ne nep.symm).trans upd_same, T.c_Way, T.n_Way_known_ends, (by show 5 < 1000; decide), ?_⟩
  rw [F_Way_ini_known_ends]
  rw [upd_ne nwp] at hw
  rw [upd_ne nsp, upd_ne nsw, upd_ne nsp] at hs
  rw [upd_ne nep, upd_ne nes, upd_ne nep, upd_ne new, upd_ne nep] at he
  refine q _ wl sl e hw hs he nsw.symm new.symm nes.symm upd_same ?_ ?_ ?_ fun b o hb hbp => ?_
  · rw [upd_ne nwp, upd_ne new.symm, upd_ne nwp, upd_ne nsw.symm, upd_ne nwp, upd_same]
  · rw [upd_ne nsp, upd_ne nes.symm, upd_ne nsp, upd_same]
  · rw [upd_ne nep, upd_same]
  · rw [upd_ne hbp, upd_ne (ne_of_none hb he), upd_ne hbp, upd_ne (ne_of_none hb hs), upd_ne hbp, upd_ne (ne_of_none hb hw), upd_ne hbp]; exact hb
def spAddSlot (A : Ad) : Sp := fun vs H Q _ => ∃ (p dx wl sl : Addr) (v1 v2 mv ev y z : V) (ws ss : List V), vs = [.ref p, y, z] ∧ H p = some (.ins A.C_Way dx (F_Way v1 v2 (.ref wl) (.ref sl) mv ev)) ∧ H wl = some (.lst ws) ∧ H sl = some (.lst ss) ∧ wl ≠ sl ∧ ws.length ≤ 1000 ∧ ss.length ≤ 1000 ∧
  Q .non (upd (upd H wl (.lst (ws ++ [y]))) sl (.lst (ss ++ [z])))
theorem ok_Way_add_slot (T : Top K mg A) : FnOk P w K mg base CX0 1 A.f_Way_add_slot A.d_Way_add_slot P_Way_add_slot (spAddSlot A) := by
  refine T.F_Way_add_slot.ok sc_Way_add_slot (fun vs H Q E h => ?_) (fun cdv _ outer s H vs Q E hr h => ⟨_, (pss_cons (ps_expr (pe_bm PySem.F.plainAttrs_list PySem.F.slot_list_append PySem.F.type_list_append mt_append (pe_fld (pv 0) rfl) (pa_cons (pv 1) pa_nil)))
    (pss_one (ps_expr (pe_bm PySem.F.plainAttrs_list PySem.F.slot_list_append PySem.F.type_list_append mt_append (pe_fld (pv 0) rfl) (pa_cons (pv 2) pa_nil))))), ?_⟩)
  · obtain ⟨_, _, _, _, _, _, _, _, _, _, _, _, rfl, _⟩ := h
    rfl
  obtain ⟨p, dx, wl, sl, v1, v2, mv, ev, y, z, ws, ss, rfl, hp, hw, hs, nws, lw, ls, q⟩ := h
  have npw : p ≠ wl := ne_of hp hw (by intro z; cases z)
  have hp2 : upd H wl (.lst (ws ++ [y])) p = some (.ins A.C_Way dx (F_Way v1 v2 (.ref wl) (.ref sl) mv ev)) := (upd_ne npw).trans hp
  refine ⟨_, rfl, _, _, _, _, _, rfl, hp, T.c_Way, T.n_Way_weights, F_Way_weights, .inl ⟨rfl, _, SqL.of hw⟩, _, rfl, wl, _, _, rfl, rfl, hw, by rw [sizeLine_eq]; omega, ?_⟩
  refine ⟨_, rfl, _, _, _, _, _, rfl, hp2, T.c_Way, T.n_Way_stretches, F_Way_stretches, .inl ⟨rfl, _, SqL.of ((upd_ne nws.symm).trans hs)⟩, _, rfl, sl, _, _, rfl, rfl, (upd_ne nws.symm).trans hs, by rw [sizeLine_eq]; omega, q⟩
def spStretches_init (A : Ad) : Sp := fun vs H Q _ => ∃ (p dx : Addr) (v1 : V), vs = [.ref p, v1] ∧ H p = some (.ins A.C_Stretches dx []) ∧
  ∀ H' e n, H e = none → H n = none → e ≠ n → H' p = some (.ins A.C_Stretches dx (F_Stretches v1 (.ref e) (.ref n))) → H' e = some (.dT []) → H' n = some (.dT []) → (∀ b o, H b = some o → b ≠ p → H' b = some o) → Q .non H'
theorem ok_Stretches_init (T : Top K mg A) : FnOk P w K mg base CX0 1 A.f_Stretches_init A.d_Stretches_init P_Stretches_init (spStretches_init A) := by
  refine T.F_Stretches_init.ok sc_Stretches_init (fun vs H Q E h => ?_) (fun cdv _ outer s H vs Q E hr h => ⟨_, (pss_cons (ps_fld (pv 0) (pv 1) rfl)
    (pss_cons (ps_fld (pv 0) pe_dnewT rfl)
    (pss_one (ps_fld (pv 0) pe_dnewT rfl)))), ?_⟩)
  · obtain ⟨p, dx, _, rfl, _⟩ := h
    rfl
  obtain ⟨p, dx, v1, rfl, hp, q⟩ := h
  refine ⟨_, rfl, _, rfl, _, _, _, _, rfl, hp, T.c_Stretches, T.n_Stretches_sets, (by decide), ?_⟩
  rw [F_Stretches_ini_sets]
  refine fun e he => ?_
  have nep : e ≠ p := fun z => by rw [z, upd_same] at he; cases he
  refine ⟨_, rfl, p, A.C_Stretches, dx, _, rfl, (upd_ne nep.symm).trans upd_same, T.c_Stretches, T.n_Stretches_made_stretches, (by show 1 < 1000; decide), ?_⟩
  rw [F_Stretches_ini_made_stretches]
  refine fun n hn => ?_
  have nnp : n ≠ p := fun z => by rw [z, upd_same] at hn; cases hn
  have nne : n ≠ e := fun z => by rw [z, upd_ne nep, upd_same] at hn; cases hn
  refine ⟨_, rfl, p, A.C_Stretches, dx, _, rfl, (upd_ne nnp.symm).trans upd_same, T.c_Stretches, T.n_Stretches_made_ways, (by show 2 < 1000; decide), ?_⟩
  rw [F_Stretches_ini_made_ways]
  rw [upd_ne nep] at he
  rw [upd_ne nnp, upd_ne nne, upd_ne nnp] at hn
  refine q _ e n he hn nne.symm upd_same ?_ ?_ fun b o hb hbp => ?_
  · rw [upd_ne nep, upd_ne nne.symm, upd_ne nep, upd_same]
  · rw [upd_ne nnp, upd_same]
  · rw [upd_ne hbp, upd_ne (ne_of_none hb hn), upd_ne hbp, upd_ne (ne_of_none hb he), upd_ne hbp]; exact hb
/-! ### runs -/
theorem max_nat (i j : Nat) : V.int (if (j : Int) > (i : Int) then (j : Int) else (i : Int)) = V.int ((max i j : Nat) : Int) := by
  congr 1
  split <;> omega
theorem min_nat (i j : Nat) : V.int (if (j : Int) < (i : Int) then (j : Int) else (i : Int)) = V.int ((min i j : Nat) : Int) := by
  congr 1
  split <;> omega
def spCommon : Sp := fun vs H Q _ => ∃ (a b : Addr) (q r : Nat × Nat), vs = [.ref a, .ref b] ∧ RunAt H a q ∧ RunAt H b r ∧ ∀ p, H p = none → Q (.ref p) (upd H p (.tup [.int ((common q r).1 : Nat), .int ((common q r).2 : Nat)]))
theorem ok_common_run (T : Top K mg A) : FnOk P w K mg base CX0 1 A.f_common_run A.d_common_run P_common_run spCommon := by
  refine T.F_common_run.ok sc_common_run (fun vs H Q E h => ?_) (fun cdv _ outer s H vs Q E hr h => ⟨_, (pss_one (ps_ret (pe_tup (pa_cons (pe_callB (call_max2 rfl) (by rfl) T.n_max (by decide +kernel) (pa_cons (pe_ix ix_tup (pv 0) pe_int (fun _ _ => rfl)) (pa_cons (pe_ix ix_tup (pv 1) pe_int (fun _ _ => rfl)) pa_nil))) (pa_cons (pe_callB (call_min2 rfl) (by rfl) T.n_min (by decide +kernel) (pa_cons (pe_ix ix_tup (pv 0) pe_int (fun _ _ => rfl)) (pa_cons (pe_ix ix_tup (pv 1) pe_int (fun _ _ => rfl)) pa_nil))) pa_nil))))), ?_⟩)
  · obtain ⟨_, _, _, _, rfl, _⟩ := h
    rfl
  obtain ⟨a, b, q, r, rfl, ha, hb, k⟩ := h
  refine ⟨_, rfl, a, _, _, _, rfl, rfl, SqT.of ha, rfl, _, rfl, b, _, _, _, rfl, rfl, SqT.of hb, rfl, ?_⟩
  refine ⟨_, _, rfl, _, rfl, a, _, _, _, rfl, rfl, SqT.of ha, rfl, _, rfl, b, _, _, _, rfl, rfl, SqT.of hb, rfl, _, _, rfl, (by show 2 ≤ sizeLine; decide), fun p hp => ?_⟩
  have k := k p hp
  rw [max_nat, min_nat]
  exact k
/-! ### boxes -/
def BoxAt (H : Hp) (a : Addr) (b : (Nat × Nat) × (Nat × Nat)) : Prop := ∃ t1 t2, H a = some (.tup [.ref t1, .ref t2]) ∧ RunAt H t1 b.1 ∧ RunAt H t2 b.2
theorem BoxAt.mono {H H' : Hp} {a : Addr} {b : (Nat × Nat) × (Nat × Nat)} (h : BoxAt H a b) (e : Same H H') : BoxAt H' a b := let ⟨t1, t2, h1, h2, h3⟩ := h; ⟨t1, t2, e _ _ h1, e _ _ h2, e _ _ h3⟩
def BoxesAt (H : Hp) (l : Addr) (bs : List ((Nat × Nat) × (Nat × Nat))) : Prop := ∃ as, H l = some (.lst (refs as)) ∧ All2 (BoxAt H) as bs
def tupI (q : Nat × Nat) : HO := .tup [.int (q.1 : Nat), .int (q.2 : Nat)]
theorem box_new {B H : Hp} {t1 t2 p : Addr} {q r : Nat × Nat} (dB : Dom B H) (h1 : H t1 = none) (h2 : upd H t1 (tupI q) t2 = none) (h3 : upd (upd H t1 (tupI q)) t2 (tupI r) p = none) :
    Same H (upd (upd (upd H t1 (tupI q)) t2 (tupI r)) p (.tup [.ref t1, .ref t2])) ∧ H p = none ∧ BoxAt (Nw B (upd (upd (upd H t1 (tupI q)) t2 (tupI r)) p (.tup [.ref t1, .ref t2]))) p (q, r) := by
  have n21 : t2 ≠ t1 := fun z => by rw [z, upd_same] at h2; cases h2
  have e2 : H t2 = none := by rwa [upd_ne n21] at h2
  have np2 : p ≠ t2 := fun z => by rw [z, upd_same] at h3; cases h3
  have np1 : p ≠ t1 := fun z => by rw [z, upd_ne n21.symm, upd_same] at h3; cases h3
  have e3 : H p = none := by rwa [upd_ne np2, upd_ne np1] at h3
  refine ⟨Same.upd_new (Same.upd_new (same_new h1 _) e2) e3, e3, t1, t2, Nw.at (dB _ e3) upd_same, Nw.at (dB _ h1) ?_, Nw.at (dB _ e2) ?_⟩
  · rw [upd_ne np1.symm, upd_ne n21.symm, upd_same] <;> rfl
  · rw [upd_ne np2.symm, upd_same] <;> rfl
/-- boxes, so many, in a list at D -/
def BxW (B H : Hp) (D : Addr) (bs : List ((Nat × Nat) × (Nat × Nat))) : Prop := ∃ as, H D = some (.lst (refs as)) ∧ as.length ≤ 3 ∧ All2 (BoxAt (Nw B (Wo H D))) as bs
theorem BxW.push {B H H4 : Hp} {D p : Addr} {bs : List ((Nat × Nat) × (Nat × Nat))} {b : (Nat × Nat) × (Nat × Nat)} {as : List Addr} (h1 : H D = some (.lst (refs as))) (h2 : as.length ≤ 2) (h3 : All2 (BoxAt (Nw B (Wo H D))) as bs) (s : Same H H4) (nD : ∀ b, H b = none → b ≠ D) (hp : BoxAt (Nw H H4) p b) (dB : Dom B H) :
    BxW B (upd H4 D (.lst (refs as ++ [.ref p]))) D (bs ++ [b]) := by
  refine ⟨as ++ [p], ?_, by rw [List.length_append]; show _ + 1 ≤ 3; omega, ?_⟩
  · rw [upd_same]; unfold refs; rw [List.map_append] <;> rfl
  · refine All2.snoc (h3.mono fun a b _ _ z => z.mono fun b o q => ?_) (hp.mono fun b o q => ?_)
    · have e := Nw.is q
      have n : b ≠ D := fun z => by rw [z, Wo.eq] at e; cases e
      rw [Wo.ne n] at e
      exact Nw.at (Nw.old q) (by rw [Wo.ne n, upd_ne n]; exact s _ _ e)
    · have n := nD b (Nw.old q)
      exact Nw.at (dB b (Nw.old q)) (by rw [Wo.ne n, upd_ne n]; exact Nw.is q)
def spBoxes (A : Ad) : Sp := fun vs H Q _ => ∃ (d lo hi : Nat), vs = [.int (d : Int), .int (lo : Int), .int (hi : Int)] ∧ 2 ≤ d ∧ d < 2 ^ 64 ∧ lo ≤ hi ∧ ∀ H' p, Same H H' → BoxesAt (Nw H H') p (boxes d lo hi) → Q (.ref p) H'
theorem natsub {a b : Nat} (h : b ≤ a) : V.int ((a : Int) - (b : Int)) = V.int ((a - b : Nat) : Int) := by
  congr 1; omega
theorem ok_boxes_of (T : Top K mg A) : FnOk P w K mg base CX0 1 A.f_boxes_of A.d_boxes_of P_boxes_of (spBoxes A) := by
  refine T.F_boxes_of.ok sc_boxes_of (fun vs H Q E h => ?_) (fun cdv _ outer s H vs Q E hr h => ⟨_, (pss_cons (ps_set (i := 3) sc_boxes_of.nd rfl (Or.inl rfl) (pe_op op_divN (pv 1) (pv 0)))
    (pss_cons (ps_set (i := 4) sc_boxes_of.nd rfl (Or.inl rfl) (pe_op op_divN (pv 2) (pv 0)))
    (pss_cons (ps_set (i := 5) sc_boxes_of.nd rfl (Or.inl rfl) (pe_op op_mdN (pv 1) (pv 0)))
    (pss_cons (ps_set (i := 6) sc_boxes_of.nd rfl (Or.inl rfl) (pe_op op_mdN (pv 2) (pv 0)))
    (pss_cons (ps_if (pt_cmpR op_eq (pv 3) (pv 4) (nomark _))
    (pss_one (ps_ret (pe_lst (pa_cons (pe_tup (pa_cons (pe_tup (pa_cons (pv 3) (pa_cons (pv 3) pa_nil))) (pa_cons (pe_tup (pa_cons (pv 5) (pa_cons (pv 6) pa_nil))) pa_nil))) pa_nil))))
    pss_nil)
    (pss_cons (ps_set (i := 7) sc_boxes_of.nd rfl (Or.inl rfl) (pe_lst pa_nil))
    (pss_cons (ps_if (pt_cmpR op_gt (pv 5) pe_int (nomark _))
    (pss_cons (ps_expr (pe_bm PySem.F.plainAttrs_list PySem.F.slot_list_append PySem.F.type_list_append mt_append (pv 7) (pa_cons (pe_tup (pa_cons (pe_tup (pa_cons (pv 3) (pa_cons (pv 3) pa_nil))) (pa_cons (pe_tup (pa_cons (pv 5) (pa_cons (pe_op op_sub (pv 0) pe_int) pa_nil))) pa_nil))) pa_nil)))
    (pss_one (ps_aug (i := 3) sc_boxes_of.nd rfl (.inl rfl) pe_int ip_add)))
    pss_nil)
    (pss_cons (ps_if (pt_cmpR op_lt (pv 6) (pe_op op_sub (pv 0) pe_int) (nomark _))
    (pss_cons (ps_expr (pe_bm PySem.F.plainAttrs_list PySem.F.slot_list_append PySem.F.type_list_append mt_append (pv 7) (pa_cons (pe_tup (pa_cons (pe_tup (pa_cons (pv 4) (pa_cons (pv 4) pa_nil))) (pa_cons (pe_tup (pa_cons pe_int (pa_cons (pv 6) pa_nil))) pa_nil))) pa_nil)))
    (pss_one (ps_aug (i := 4) sc_boxes_of.nd rfl (.inl rfl) pe_int ip_sub)))
    pss_nil)
    (pss_cons (ps_if (pt_cmpR op_le (pv 3) (pv 4) (nomark _))
    (pss_one (ps_expr (pe_bm PySem.F.plainAttrs_list PySem.F.slot_list_append PySem.F.type_list_append mt_append (pv 7) (pa_cons (pe_tup (pa_cons (pe_tup (pa_cons (pv 3) (pa_cons (pv 4) pa_nil))) (pa_cons (pe_tup (pa_cons pe_int (pa_cons (pe_op op_sub (pv 0) pe_int) pa_nil))) pa_nil))) pa_nil))))
    pss_nil)
    (pss_one (ps_ret (pv 7)))))))))))), ?_⟩)
  · obtain ⟨_, _, _, rfl, _⟩ := h
    rfl
  obtain ⟨d, lo, hi, rfl, d2, d64, hlh, k⟩ := h
  have hle : lo / d ≤ hi / d := Nat.div_le_div_right hlh
  refine ⟨_, rfl, _, rfl, lo, d, rfl, rfl, ⟨by omega, d64⟩, ?_⟩
  refine ⟨_, rfl, _, rfl, hi, d, rfl, rfl, ⟨by omega, d64⟩, ?_⟩
  refine ⟨_, rfl, _, rfl, lo, d, rfl, rfl, by omega, ?_⟩
  refine ⟨_, rfl, _, rfl, hi, d, rfl, rfl, by omega, ?_⟩
  refine ⟨_, rfl, _, rfl, rfl, _, rfl, ?_⟩
  unfold boxes at k
  generalize eql : lo / d = ql at *
  generalize eqh : hi / d = qh at *
  generalize erl : lo % d = rl at *
  generalize erh : hi % d = rh at *
  refine split_dec (fun c => ?_) (fun c => ?_)
  · have c : ql = qh := by injection c with c; omega
    subst c
    rw [if_pos rfl] at k
    refine ⟨_, rfl, _, rfl, (by show 2 ≤ sizeLine; decide), fun t1 h1 => ⟨_, rfl, _, rfl, (by show 2 ≤ sizeLine; decide), fun t2 h2 => ⟨(by show 2 ≤ sizeLine; decide), fun p hp => ⟨(by show 1 ≤ sizeLine; decide), fun l hl => ?_⟩⟩⟩⟩
    obtain ⟨s1, fp, hb⟩ := box_new (B := H) (q := (ql, ql)) (r := (rl, rh)) Dom.rfl h1 h2 hp
    refine k _ l (Same.upd_new s1 (Same.free s1 hl)) ⟨[p], Nw.at (Same.free s1 hl) upd_same, .cons (hb.mono fun b o q => Nw.at (Nw.old q) ?_) .nil⟩
    exact same_new hl _ _ _ (Nw.is q)
  have c : ¬ ql = qh := fun z => c (by rw [z])
  rw [if_neg c] at k
  refine ⟨(by show 0 ≤ sizeLine; decide), fun D hD => ?_⟩
  have dB : Dom H (upd H D (.lst [])) := Dom.rfl.upd
  have s0 : Same H (upd H D (.lst [])) := same_new hD _
  have hqh : 1 ≤ qh := by omega
  have nD0 : ∀ {H1 : Hp}, H1 D ≠ none → ∀ b, H1 b = none → b ≠ D := fun h b e z => h (by rw [← z]; exact e)
  have st3 : ∀ (a b : Nat) (bs : List ((Nat × Nat) × (Nat × Nat))) (as : List Addr) (H1 : Hp), Same H (Wo H1 D) → Dom H H1 → H1 D = some (.lst (refs as)) → as.length ≤ 2 → All2 (BoxAt (Nw H (Wo H1 D))) as bs →
      (∀ H' p, Same H H' → BoxesAt (Nw H H') p (bs ++ if a ≤ b then [((a, b), (0, d - 1))] else []) → Q (.ref p) H') →
      (tSeq (tIfS (tTest (tOp (rI0 fun i j => V.bl (decide (i ≤ j))) (tVar 3) (tVar 4)))
              (tDrop (tBM K "list" rAppend (tVar 7) (tCons (tTup (tCons (tTup (tCons (tVar 3) (tCons (tVar 4) tNil))) (tCons (tTup (tCons (tC (V.int 0)) (tCons (tOp (rI0 fun i j => V.int (i - j)) (tVar 0) (tC (V.int 1))) tNil))) tNil))) tNil))) tNext)
        (tRet (tVar 7))) { nx := fun _ H' => Q V.non H', rt := Q } [some (.int (d : Int)), some (.int (lo : Int)), some (.int (hi : Int)), some (.int (a : Int)), some (.int (b : Int)), some (.int (rl : Int)), some (.int (rh : Int)), some (.ref D)] H1 := by
    intro a b bs as H1 s1 d1 e1 l1 all1 kk
    have fin : ∀ (cs : List ((Nat × Nat) × (Nat × Nat))) (H2 : Hp), Same H (Wo H2 D) → BxW H H2 D cs → Same H H2 ∧ BoxesAt (Nw H H2) D cs := fun cs H2 s2 ⟨as2, q1, _, q3⟩ =>
      ⟨fun b o q => Wo.same _ _ (s2 b o q), as2, Nw.at hD q1, q3.mono fun _ _ _ _ z => z.mono fun b o q => Nw.at (Nw.old q) (Wo.same _ _ (Nw.is q))⟩
    refine ⟨_, rfl, _, rfl, _, _, rfl, rfl, _, rfl, ?_⟩
    refine split_dec (fun c3 => ?_) (fun c3 => ?_)
    · have c3 : a ≤ b := by omega
      rw [if_pos c3] at kk
      refine ⟨_, rfl, .inl ⟨rfl, _, SqL.of e1⟩, _, rfl, _, rfl, (by show 2 ≤ sizeLine; decide), fun t1 h1 => ⟨_, rfl, _, _, rfl, rfl, (by show 2 ≤ sizeLine; decide), fun t2 h2 => ⟨(by show 2 ≤ sizeLine; decide), fun p hp => ?_⟩⟩⟩
      have ed : V.int ((d : Int) - 1) = V.int ((d - 1 : Nat) : Int) := natsub (b := 1) (by omega)
      dsimp only at hp ⊢
      rw [ed] at hp ⊢
      obtain ⟨sb, fp, hb⟩ := box_new (B := H1) (q := (a, b)) (r := (0, d - 1)) Dom.rfl h1 h2 hp
      have nD : H1 D ≠ none := by rw [e1]; intro z; cases z
      refine ⟨D, _, _, rfl, rfl, sb _ _ e1, (by rw [refs_length, sizeLine_eq]; omega), ?_⟩
      have W := BxW.push e1 l1 all1 sb (nD0 nD) hb d1
      obtain ⟨f1, f2⟩ := fin _ _ (fun b o q => by
        have n : b ≠ D := ne_of_none q hD
        rw [Wo.ne n, upd_ne n]
        have := s1 b o q
        rw [Wo.ne n] at this
        exact sb _ _ this) W
      exact ⟨_, rfl, kk _ D f1 f2⟩
    · have c3 : ¬ a ≤ b := by omega
      rw [if_neg c3, List.append_nil] at kk
      obtain ⟨f1, f2⟩ := fin bs H1 s1 ⟨as, e1, by omega, all1⟩
      exact ⟨_, rfl, kk _ D f1 f2⟩
  have st2 : ∀ (a : Nat) (bs : List ((Nat × Nat) × (Nat × Nat))) (as : List Addr) (H1 : Hp), Same H (Wo H1 D) → Dom H H1 → H1 D = some (.lst (refs as)) → as.length ≤ 1 → All2 (BoxAt (Nw H (Wo H1 D))) as bs →
      (∀ H' p, Same H H' → BoxesAt (Nw H H') p ((bs ++ if rh < d - 1 then [((qh, qh), (0, rh))] else []) ++ if a ≤ (if rh < d - 1 then qh - 1 else qh) then [((a, (if rh < d - 1 then qh - 1 else qh)), (0, d - 1))] else []) → Q (.ref p) H') →
      (tSeq (tIfS (tTest (tOp (rI0 fun i j => V.bl (decide (i < j))) (tVar 6) (tOp (rI0 fun i j => V.int (i - j)) (tVar 0) (tC (V.int 1)))))
          (tSeq (tDrop (tBM K "list" rAppend (tVar 7) (tCons (tTup (tCons (tTup (tCons (tVar 4) (tCons (tVar 4) tNil))) (tCons (tTup (tCons (tC (V.int 0)) (tCons (tVar 6) tNil))) tNil))) tNil)))
            (tAug 4 (tC (V.int 1)) (ipI fun i j => i - j))) tNext)
        (tSeq (tIfS (tTest (tOp (rI0 fun i j => V.bl (decide (i ≤ j))) (tVar 3) (tVar 4)))
              (tDrop (tBM K "list" rAppend (tVar 7) (tCons (tTup (tCons (tTup (tCons (tVar 3) (tCons (tVar 4) tNil))) (tCons (tTup (tCons (tC (V.int 0)) (tCons (tOp (rI0 fun i j => V.int (i - j)) (tVar 0) (tC (V.int 1))) tNil))) tNil))) tNil))) tNext)
        (tRet (tVar 7)))) { nx := fun _ H' => Q V.non H', rt := Q } [some (.int (d : Int)), some (.int (lo : Int)), some (.int (hi : Int)), some (.int (a : Int)), some (.int (qh : Int)), some (.int (rl : Int)), some (.int (rh : Int)), some (.ref D)] H1 := by
    intro a bs as H1 s1 d1 e1 l1 all1 kk
    refine ⟨_, rfl, _, rfl, _, _, rfl, rfl, _, _, rfl, rfl, _, rfl, ?_⟩
    refine split_dec (fun c3 => ?_) (fun c3 => ?_)
    · have c3 : rh < d - 1 := by omega
      rw [if_pos c3, if_pos c3] at kk
      refine ⟨_, rfl, .inl ⟨rfl, _, SqL.of e1⟩, _, rfl, _, rfl, (by show 2 ≤ sizeLine; decide), fun t1 h1 => ⟨_, rfl, (by show 2 ≤ sizeLine; decide), fun t2 h2 => ⟨(by show 2 ≤ sizeLine; decide), fun p hp => ?_⟩⟩⟩
      obtain ⟨sb, fp, hb⟩ := box_new (B := H1) (q := (qh, qh)) (r := (0, rh)) Dom.rfl h1 h2 hp
      have nD : H1 D ≠ none := by rw [e1]; intro z; cases z
      refine ⟨D, _, _, rfl, rfl, sb _ _ e1, (by rw [refs_length, sizeLine_eq]; omega), ?_⟩
      obtain ⟨as2, w1, w2, w3⟩ := BxW.push e1 (by omega) all1 sb (nD0 nD) hb d1
      refine ⟨_, rfl, _, _, rfl, rfl, ?_⟩
      have eq1 : ((qh : Int) - 1) = ((qh - 1 : Nat) : Int) := by omega
      refine Eq.mpr (congrArg (fun z => tSeq _ _ _ [_, _, _, _, some (V.int z), _, _, _] _) eq1) ?_
      refine st3 a (qh - 1) _ as2 _ (fun b o q => ?_) (fun b e => ?_) w1 ?_ w3 kk
      · have n : b ≠ D := ne_of_none q hD
        rw [Wo.ne n, upd_ne n]
        have := s1 b o q
        rw [Wo.ne n] at this
        exact sb _ _ this
      · by_cases n : b = D
        · subst n; rw [upd_same] at e; cases e
        · rw [upd_ne n] at e; exact d1 b (Same.free sb e)
      · have := w3.length
        have := all1.length
        rw [List.length_append] at *
        simp only [List.length_cons, List.length_nil] at *
        omega
    · have c3 : ¬ rh < d - 1 := by omega
      rw [if_neg c3, if_neg c3, List.append_nil] at kk
      exact st3 a qh bs as H1 s1 d1 e1 (by omega) all1 kk
  refine ⟨_, rfl, _, _, rfl, rfl, _, rfl, ?_⟩
  refine split_dec (fun c1 => ?_) (fun c1 => ?_)
  · have c1 : 0 < rl := by omega
    rw [if_pos c1, if_pos c1] at k
    have e1 : upd H D (.lst []) D = some (.lst (refs [])) := upd_same
    refine ⟨_, rfl, .inl ⟨rfl, _, SqL.of e1⟩, _, rfl, _, rfl, (by show 2 ≤ sizeLine; decide), fun t1 h1 => ⟨_, rfl, _, rfl, _, _, rfl, rfl, (by show 2 ≤ sizeLine; decide), fun t2 h2 => ⟨(by show 2 ≤ sizeLine; decide), fun p hp => ?_⟩⟩⟩
    have ed : V.int ((d : Int) - 1) = V.int ((d - 1 : Nat) : Int) := natsub (b := 1) (by omega)
    dsimp only at hp ⊢
    rw [ed] at hp ⊢
    obtain ⟨sb, fp, hb⟩ := box_new (B := upd H D (.lst [])) (q := (ql, ql)) (r := (rl, d - 1)) Dom.rfl h1 h2 hp
    have nD : upd H D (.lst []) D ≠ none := by rw [e1]; intro z; cases z
    refine ⟨D, _, _, rfl, rfl, sb _ _ e1, (by show 0 < sizeLine; decide), ?_⟩
    obtain ⟨as2, w1, w2, w3⟩ := BxW.push e1 (by decide) .nil sb (nD0 nD) hb dB
    refine ⟨_, rfl, _, _, rfl, rfl, ?_⟩
    refine st2 (ql + 1) _ as2 _ (fun b o q => ?_) (fun b e => ?_) w1 (by have := w3.length; simpa using Nat.le_of_eq this) w3 k
    · have n : b ≠ D := ne_of_none q hD
      rw [Wo.ne n, upd_ne n]
      exact sb _ _ (s0 _ _ q)
    · by_cases n : b = D
      · subst n; rw [upd_same] at e; cases e
      · rw [upd_ne n] at e; exact dB b (Same.free sb e)
  · have c1 : ¬ 0 < rl := by omega
    rw [if_neg c1, if_neg c1] at k
    refine st2 ql [] [] _ (fun b o q => ?_) dB upd_same (by decide) .nil k
    have n : b ≠ D := ne_of_none q hD
    rw [Wo.ne n]; exact s0 _ _ q
end
end Sn
/-! reading: a stretch made once; the way of a shape -/
namespace Sn
open PySem PySem.Spec PyProof.Rows L2
theorem Ext.tmp {G G' : Gh} {H H' : Hp} (e : Ext G G' H H') {b : Addr} {o : HO} (h : H b = some o) (g : G b = none) : H' b = some o ∧ G' b = none :=
  ⟨e.kp b o h g, e.nw b (by rw [h]; intro z; cases z) g⟩
def MadeAt (c : RC) (A : Ad) (G : Gh) (m : Addr) : Prop := ∃ dx DS DW, G m = some (.frz (.ins A.C_Stretches dx (F_Stretches (.ref c.st) (.ref DS) (.ref DW)))) ∧ G DS = some .ms ∧ G DW = some .mw
theorem MadeAt.mono {c : RC} {A : Ad} {G G' : Gh} {m : Addr} (h : MadeAt c A G m) (e : Le G G') : MadeAt c A G' m :=
  let ⟨dx, DS, DW, h1, h2, h3⟩ := h
  ⟨dx, DS, DW, e _ _ h1, e _ _ h2, e _ _ h3⟩
section
variable {c : RC} {A : Ad} {G : Gh} {x : Option (Addr × V)} {H : Hp}
theorem RInv.stretch {H2 : Hp} {p dx e n : Addr} {k lo hi : Nat} (I : RInv c A G x H) (s : Same H H2) (hp : H p = none) (he : H e = none) (hn : H n = none) (npe : p ≠ e) (npn : p ≠ n) (nen : e ≠ n)
    (h1 : H2 p = some (.ins A.C_Stretch dx (F_Stretch (.int (k : Nat)) (.int (lo : Nat)) (.int (hi : Nat)) .non (.ref e) (.ref n)))) (h2 : H2 e = some (.dK [])) (h3 : H2 n = some (.dT [])) :
    ∃ G', Ext G G' H H2 ∧ RInv c A G' x H2 ∧ G' p = some (.str (k, lo, hi)) := by
  have I2 := I.same s
  have g1 : G e = none := I.fresh he
  have I3 := I2.add (p := e) (r := .ke (k, lo, hi)) g1 (Same.free I.sF he) ⟨[], h2, DOk.nil⟩
  have g2 : addR G e (.ke (k, lo, hi)) n = none := by rw [addR_ne nen.symm]; exact I.fresh hn
  have I4 := I3.add (p := n) (r := .kn (k, lo, hi)) g2 (Same.free I.sF hn) ⟨[], h3, DOk.nil⟩
  have g3 : addR (addR G e (.ke (k, lo, hi))) n (.kn (k, lo, hi)) p = none := by rw [addR_ne npn, addR_ne npe]; exact I.fresh hp
  have I5 := I4.add (p := p) (r := .str (k, lo, hi)) g3 (Same.free I.sF hp) ⟨dx, .non, e, n, h1, by rw [addR_ne npe.symm, addR_ne nen, addR_same], by rw [addR_ne npn.symm, addR_same], .inr ⟨fun v z => I4.xr _ _ z g3, .inl rfl⟩⟩
  exact ⟨_, (((Ext.same s).add he g1).add hn g2).add hp g3, I5, addR_same⟩
end
section
variable {P : Program} {w : World} {K : PySem.W.Frag} {mg : Str → Option Value} {base : Heap} {A : Ad}
def spStretch (A : Ad) : Sp := fun vs H Q _ => ∃ (c : RC) (G : Gh) (x : Option (Addr × V)) (ms : Addr) (k lo hi : Nat), vs = [.ref ms, .int (k : Int), .int (lo : Int), .int (hi : Int)] ∧ RInv c A G x H ∧ MadeAt c A G ms ∧ (k, lo, hi) ∈ c.C ∧ c.C.length ≤ sizeLine ∧
  ∀ H' G' a, Ext G G' H H' → RInv c A G' x H' → G' a = some (.str (k, lo, hi)) → Q (.ref a) H'
theorem ok_Stretches_stretch (T : Top K mg A) : FnOk P w K mg base CX0 3 A.f_Stretches_stretch A.d_Stretches_stretch P_Stretches_stretch (spStretch A) := by
  refine T.F_Stretches_stretch.ok sc_Stretches_stretch (fun vs H Q E h => ?_) (fun cdv _ outer s H vs Q E hr h => ?_)
  · obtain ⟨_, _, _, _, _, _, _, rfl, _⟩ := h
    rfl
  have hu := hu_of hr
  refine ⟨_, (pss_cons (ps_set (i := 4) sc_Stretches_stretch.nd rfl (Or.inl rfl) (pe_tup (pa_cons (pv 1) (pa_cons (pv 2) (pa_cons (pv 3) pa_nil)))))
    (pss_cons (ps_if (pt_cmp (pc_dnotin hu (pv 4) (pe_fld (pv 0) rfl)))
    (pss_one (ps_dput hu (pe_fld (pv 0) rfl) (pv 4) (pe_make T.m_Stretch (ok_Stretch_init T) (hr.mono (by omega)) (by rfl) T.g_Stretch (b_Stretch_init T) .nil pass0 (pa_cons (pv 1) (pa_cons (pv 2) (pa_cons (pv 3) pa_nil)))) rfl))
    pss_nil)
    (pss_one (ps_ret (pe_dget hu (pe_fld (pv 0) rfl) (pv 4) (fun _ _ => rfl)))))), ?_⟩
  obtain ⟨c, G, x, ms, k, lo, hi, rfl, I, hM, hC, hz, kQ⟩ := h
  refine ⟨_, rfl, _, rfl, _, rfl, (by show 3 ≤ sizeLine; decide), fun t ht => ?_⟩
  have s1 := same_new ht (.tup [.int (k : Int), .int (lo : Int), .int (hi : Int)])
  have I1 := I.new ht (.tup [.int (k : Int), .int (lo : Int), .int (hi : Int)])
  have gt : G t = none := I.fresh ht
  have e1 : upd H t (.tup [.int (k : Int), .int (lo : Int), .int (hi : Int)]) t = some (.tup ((kS (k, lo, hi)).map kV)) := upd_same
  generalize hH1 : upd H t (.tup [.int (k : Int), .int (lo : Int), .int (hi : Int)]) = H1 at s1 I1 e1 ⊢
  obtain ⟨dx, DS, DW, m1, m2, m3⟩ := hM
  have hm1 := I1.frz m1
  obtain ⟨kvs, hk, hd⟩ := I1.ok _ _ m2
  refine ⟨_, rfl, _, rfl, _, _, _, _, _, rfl, hm1, T.c_Stretches, T.n_Stretches_made_stretches, F_Stretches_made_stretches, _, _, rfl, DGet.t (k := kS (k, lo, hi)) hk e1, _, rfl, ?_⟩
  cases e : valV kvs (kS (k, lo, hi)) with
  | some v =>
    refine if_false_of rfl ?_
    obtain ⟨y, a, q1, q2, q3, q4⟩ := DOk.get hd.2 e
    obtain rfl := kS_inj q1
    have g := DGet.t (k := kS (k, lo, hi)) hk e1
    rw [e] at g
    refine ⟨_, rfl, _, _, _, _, _, rfl, hm1, T.c_Stretches, T.n_Stretches_made_stretches, F_Stretches_made_stretches, _, rfl, _, _, rfl, g, ?_⟩
    subst q3
    exact kQ _ G a (Ext.same s1) I1 q4
  | none =>
    refine if_true_of rfl ?_
    refine ⟨_, rfl, _, rfl, _, rfl, fun p pd hp hpd npd => ?_⟩
    have npp : p ≠ pd := Ne.symm npd
    have hmk : upd (upd H1 pd (.own p)) p (.ins A.C_Stretch pd []) p = some (.ins A.C_Stretch pd []) := upd_same
    refine ⟨p, pd, _, _, _, rfl, hmk, fun H2 ke kn h1 h2 h3 h4 h5 h6 kp => ⟨rfl, ?_⟩⟩
    have s2 : Same H1 H2 := fun b o q => kp b o ((upd_ne (ne_of_none q hp)).trans ((upd_ne (ne_of_none q hpd)).trans q)) (ne_of_none q hp)
    have fr : ∀ {b : Addr}, upd (upd H1 pd (.own p)) p (.ins A.C_Stretch pd []) b = none → b ≠ p ∧ H1 b = none := fun {b} q => by
      have n1 : b ≠ p := fun z => by rw [z, upd_same] at q; cases q
      rw [upd_ne n1] at q
      have n2 : b ≠ pd := fun z => by rw [z, upd_same] at q; cases q
      rw [upd_ne n2] at q
      exact ⟨n1, q⟩
    obtain ⟨n1, f1⟩ := fr h1
    obtain ⟨n2, f2⟩ := fr h2
    obtain ⟨G', x1, I2, gp⟩ := I1.stretch s2 hp f1 f2 n1.symm n2.symm h3 h4 h5 h6
    have hm2 := I2.frz (x1.le _ _ m1)
    have hk2 : H2 DS = some (.dT kvs) := s2 _ _ hk
    have e2 := s2 _ _ e1
    have hd2 : DOk kvs (msP c G') := hd.mono fun k v ⟨y, a, q1, q2, q3, q4⟩ => ⟨y, a, q1, q2, q3, x1.le _ _ q4⟩
    have room := hd2.room (c.C.map kS) (fun j v ⟨y, a, q1, q2, _⟩ => q1 ▸ List.mem_map_of_mem q2) e (List.mem_map_of_mem hC)
    rw [List.length_map] at room
    have hd3 : DOk (putK kvs (kS (k, lo, hi)) (.ref p)) (msP c G') := hd2.put e ⟨(k, lo, hi), p, rfl, hC, rfl, gp⟩
    refine ⟨_, rfl, _, _, _, _, _, rfl, hm2, T.c_Stretches, T.n_Stretches_made_stretches, F_Stretches_made_stretches, _, rfl, _, _, rfl, DPut.t (k := kS (k, lo, hi)) hk2 e2 (by omega), ?_⟩
    have I3 := I2.set (x1.le _ _ m2) (fun h => (h.not hk2).elim) (o := .dT (putK kvs (kS (k, lo, hi)) (.ref p))) ⟨_, rfl, hd3⟩
    have x2 : Ext G G' H (upd H2 DS (.dT (putK kvs (kS (k, lo, hi)) (.ref p)))) := ((Ext.same s1).trans x1).trans (Ext.upd_role (x1.le _ _ m2) fun h => (h.not hk2).elim)
    have hm3 := I3.frz (x1.le _ _ m1)
    have ntD : t ≠ DS := fun z => by rw [z, m2] at gt; cases gt
    have g := DGet.t (a := DS) (b := t) (k := kS (k, lo, hi)) (kvs := putK kvs (kS (k, lo, hi)) (.ref p)) (H := upd H2 DS (.dT (putK kvs (kS (k, lo, hi)) (.ref p)))) upd_same ((upd_ne ntD).trans e2)
    rw [valV_put, if_pos rfl] at g
    refine ⟨_, rfl, _, _, _, _, _, rfl, hm3, T.c_Stretches, T.n_Stretches_made_stretches, F_Stretches_made_stretches, _, rfl, _, _, rfl, g, ?_⟩
    exact kQ _ G' p x2 I3 gp

/-- a way being made: no role as yet -/
structure WayW (c : RC) (A : Ad) (G : Gh) (H : Hp) (p dx ll wl sl e : Addr) (fx : Nat) (ys : List (Nat × SKey)) : Prop where
  hp : H p = some (.ins A.C_Way dx (F_Way (.int (fx : Nat)) (.ref ll) (.ref wl) (.ref sl) .non (.ref e)))
  hw : H wl = some (.lst (nums (ys.map fun y => y.1)))
  hs : ∃ sas, H sl = some (.lst (refs sas)) ∧ All2 (fun a y => G a = some (.str y.2)) sas ys
  he : H e = some (.dK [])
  gp : G p = none
  gw : G wl = none
  gs : G sl = none
  ge : G e = none
  fp : c.F p = none
  fw : c.F wl = none
  fs : c.F sl = none
  fe : c.F e = none
  n1 : wl ≠ sl
  n2 : p ≠ wl
  n3 : p ≠ sl
  n4 : p ≠ e
  n5 : e ≠ wl
  n6 : e ≠ sl
theorem WayW.ext {c : RC} {G G' : Gh} {H H' : Hp} {p dx ll wl sl e : Addr} {fx : Nat} {ys : List (Nat × SKey)} (h : WayW c A G H p dx ll wl sl e fx ys) (x : Ext G G' H H') : WayW c A G' H' p dx ll wl sl e fx ys := by
  obtain ⟨sas, h1, h2⟩ := h.hs
  exact ⟨(x.tmp h.hp h.gp).1, (x.tmp h.hw h.gw).1, ⟨sas, (x.tmp h1 h.gs).1, h2.mono fun _ _ _ _ z => x.le _ _ z⟩, (x.tmp h.he h.ge).1, (x.tmp h.hp h.gp).2, (x.tmp h.hw h.gw).2, (x.tmp h1 h.gs).2, (x.tmp h.he h.ge).2, h.fp, h.fw, h.fs, h.fe, h.n1, h.n2, h.n3, h.n4, h.n5, h.n6⟩
theorem WayW.add {c : RC} {G : Gh} {H : Hp} {p dx ll wl sl e a : Addr} {fx : Nat} {ys : List (Nat × SKey)} {y : Nat × SKey} {sas : List Addr} (h : WayW c A G H p dx ll wl sl e fx ys) (h1 : H sl = some (.lst (refs sas))) (h2 : All2 (fun a y => G a = some (.str y.2)) sas ys) (ha : G a = some (.str y.2)) :
    WayW c A G (upd (upd H wl (.lst (nums (ys.map fun y => y.1) ++ [.int (y.1 : Nat)]))) sl (.lst (refs sas ++ [.ref a]))) p dx ll wl sl e fx (ys ++ [y]) := by
  refine ⟨?_, ?_, ⟨sas ++ [a], ?_, h2.snoc ha⟩, ?_, h.gp, h.gw, h.gs, h.ge, h.fp, h.fw, h.fs, h.fe, h.n1, h.n2, h.n3, h.n4, h.n5, h.n6⟩
  · rw [upd_ne h.n3, upd_ne h.n2]; exact h.hp
  · rw [upd_ne h.n1, upd_same, List.map_append, nums_append] <;> rfl
  · rw [upd_same]; unfold refs; rw [List.map_append] <;> rfl
  · rw [upd_ne h.n6, upd_ne h.n5]; exact h.he
theorem WayW.done {c : RC} {G G0 : Gh} {x : Option (Addr × V)} {H H0 : Hp} {p dx ll wl sl e : Addr} {w : WayD} (h : WayW c A G H p dx ll wl sl e w.fixed w.slots) (I : RInv c A G x H) (hl : LetAt c.F ll w.letters) (E0 : Ext G0 G H0 H) (f1 : H0 p = none) (f2 : H0 wl = none) (f3 : H0 sl = none) (f4 : H0 e = none) :
    ∃ G', Ext G0 G' H0 H ∧ RInv c A G' x H ∧ G' p = some (.way w) := by
  obtain ⟨sas, h1, h2⟩ := h.hs
  have I1 := I.add (p := wl) (r := .frz (.lst (nums (w.slots.map fun y => y.1)))) h.gw h.fw (by exact h.hw)
  have E1 := E0.add (r := .frz (.lst (nums (w.slots.map fun y => y.1)))) f2 h.gw
  have g2 : addR G wl (.frz (.lst (nums (w.slots.map fun y => y.1)))) sl = none := by rw [addR_ne h.n1.symm]; exact h.gs
  have I2 := I1.add (p := sl) (r := .frz (.lst (refs sas))) g2 h.fs (by exact h1)
  have E2 := E1.add (r := .frz (.lst (refs sas))) f3 g2
  have g3 : addR (addR G wl (.frz (.lst (nums (w.slots.map fun y => y.1))))) sl (.frz (.lst (refs sas))) e = none := by rw [addR_ne h.n6, addR_ne h.n5]; exact h.ge
  have I3 := I2.add (p := e) (r := .we w) g3 h.fe ⟨[], h.he, DOk.nil⟩
  have E3 := E2.add (r := .we w) f4 g3
  have g4 : addR (addR (addR G wl (.frz (.lst (nums (w.slots.map fun y => y.1))))) sl (.frz (.lst (refs sas)))) e (.we w) p = none := by rw [addR_ne h.n4, addR_ne h.n3, addR_ne h.n2]; exact h.gp
  have l3 := ((le_addR h.gw).trans (le_addR g2)).trans (le_addR (r := .we w) g3)
  have I4 := I3.add (p := p) (r := .way w) g4 h.fp ⟨dx, ll, wl, sl, .non, e, sas, h.hp, hl, ?_, ?_, (h2.mono fun a y _ _ z => (le_addR g4) _ _ (l3 _ _ z)), ?_, .inl rfl⟩
  · exact ⟨_, E3.add f1 g4, I4, addR_same⟩
  · exact le_addR g4 _ _ (le_addR g3 _ _ (le_addR g2 _ _ addR_same))
  · exact le_addR g4 _ _ (le_addR g3 _ _ addR_same)
  · exact le_addR g4 _ _ addR_same
/-- a way just made -/
theorem WayW.init {c : RC} {G : Gh} {x : Option (Addr × V)} {H H2 : Hp} {p dx ll wl sl e : Addr} {fx : Nat} (I : RInv c A G x H) (hp : H p = none) (hpd : H dx = none)
    (f1 : upd (upd H dx (.own p)) p (.ins A.C_Way dx []) wl = none) (f2 : upd (upd H dx (.own p)) p (.ins A.C_Way dx []) sl = none) (f3 : upd (upd H dx (.own p)) p (.ins A.C_Way dx []) e = none) (n1 : wl ≠ sl) (n2 : wl ≠ e) (n3 : sl ≠ e)
    (h1 : H2 p = some (.ins A.C_Way dx (F_Way (.int (fx : Nat)) (.ref ll) (.ref wl) (.ref sl) .non (.ref e)))) (h2 : H2 wl = some (.lst [])) (h3 : H2 sl = some (.lst [])) (h4 : H2 e = some (.dK []))
    (kp : ∀ b o, upd (upd H dx (.own p)) p (.ins A.C_Way dx []) b = some o → b ≠ p → H2 b = some o) : Same H H2 ∧ H wl = none ∧ H sl = none ∧ H e = none ∧ WayW c A G H2 p dx ll wl sl e fx [] := by
  have fr : ∀ {b : Addr}, upd (upd H dx (.own p)) p (.ins A.C_Way dx []) b = none → b ≠ p ∧ H b = none := fun {b} q => by
    have n1 : b ≠ p := fun z => by rw [z, upd_same] at q; cases q
    rw [upd_ne n1] at q
    have n2 : b ≠ dx := fun z => by rw [z, upd_same] at q; cases q
    rw [upd_ne n2] at q
    exact ⟨n1, q⟩
  obtain ⟨a1, b1⟩ := fr f1
  obtain ⟨a2, b2⟩ := fr f2
  obtain ⟨a3, b3⟩ := fr f3
  refine ⟨fun b o q => kp b o ((upd_ne (ne_of_none q hp)).trans ((upd_ne (ne_of_none q hpd)).trans q)) (ne_of_none q hp), b1, b2, b3, ?_⟩
  exact ⟨h1, h2, ⟨[], h3, .nil⟩, h4, I.fresh hp, I.fresh b1, I.fresh b2, I.fresh b3, Same.free I.sF hp, Same.free I.sF b1, Same.free I.sF b2, Same.free I.sF b3, n1, a1.symm, a2.symm, a3.symm, n2.symm, n3.symm⟩
def spShapeWay (A : Ad) : Sp := fun vs H Q _ => ∃ (c : RC) (G : Gh) (x : Option (Addr × V)) (ms ra sa tq tr : Addr) (R : Sw64.Rule) (last : Nat) (s : Sh) (q r : Nat × Nat), vs = [.ref ms, .ref ra, .ref sa, .ref tq, .ref tr] ∧ RInv c A G x H ∧ MadeAt c A G ms ∧
  RuleAt A c.F ra (R, last) ∧ ShapeAt A c.F sa s ∧ RunAt H tq q ∧ G tq = none ∧ RunAt H tr r ∧ G tr = none ∧ s.sl.length ≤ 8 ∧ (∀ y ∈ (shapeWay R.by_ s q r).slots, y.2 ∈ c.C) ∧ c.C.length ≤ sizeLine ∧
  ∀ H' G' p, Ext G G' H H' → RInv c A G' x H' → G' p = some (.way (shapeWay R.by_ s q r)) → Q (.ref p) H'
theorem ok_Stretches_shape_way (T : Top K mg A) : FnOk P w K mg base CX0 4 A.f_Stretches_shape_way A.d_Stretches_shape_way P_Stretches_shape_way (spShapeWay A) := by
  refine T.F_Stretches_shape_way.ok sc_Stretches_shape_way (fun vs H Q E h => ?_) (fun cdv _ outer s H vs Q E hr h => ⟨_, (pss_cons (ps_set (i := 6) sc_Stretches_shape_way.nd rfl (Or.inl rfl) (pe_callB (cr_any rfl) (by rfl) T.n_any (by decide +kernel) (pa_cons (by exact (pe_lc (own := [("slot", 5)]) (g := gName 5) (tt := tYes) (te := tOp _ (tFld K (tVar 5) "kind") (tC (.int 1))) rfl sc_Stretches_shape_way.nd (pi_list (pe_fld (pv 2) rfl)) (blkOk_by (own := [("slot", 5)]) (N := N_Stretches_shape_way) (sc := defScope s_Stretches_shape_way) (by decide +kernel)) (fun _ _ _ _ _ => pg_name (i := 5) sc_Stretches_shape_way.nd rfl (Or.inl rfl)) (fun _ _ _ _ _ => by exact (pts_nil)) (fun _ _ _ _ _ => by exact (pe_cmpR op_eq (pe_fld (pv 5) rfl) (pe_gi rfl T.k_Q) (nomark _))))) pa_nil)))
    (pss_cons (ps_set (i := 7) sc_Stretches_shape_way.nd rfl (Or.inl rfl) (pe_make T.m_Way (ok_Way_init T) (hr.mono (by omega)) (by rfl) T.g_Way (b_Way_init T) .nil pass0 (pa_cons (pe_ifExp (pt_val (pv 6)) pe_int (pe_fld (pv 1) rfl)) (pa_cons (pe_fld (pv 2) rfl) pa_nil))))
    (pss_cons (ps_for PassesOwn.never rfl (pi_list (pe_fld (pv 2) rfl)) (pg_name (i := 5) sc_Stretches_shape_way.nd rfl (Or.inl rfl))
    (pss_one (ps_if (pt_cmpR op_eq (pe_fld (pv 5) rfl) (pe_gi rfl T.k_Q) (nomark _))
    (pss_one (ps_expr (pe_meth (pv 7) T.c_Way T.M_Way_add_slot (ok_Way_add_slot T) (hr.mono (by omega)) (b_Way_add_slot T) .nil pass0 (pa_cons (pe_fld (pv 1) rfl) (pa_cons (pe_meth (pv 0) T.c_Stretches T.M_Stretches_stretch (ok_Stretches_stretch T) (hr.mono (by omega)) (b_Stretches_stretch T) .nil pass0 (pa_cons (pe_fld (pv 5) rfl) (pa_cons (pe_ix ix_tup (pv 3) pe_int (fun _ _ => rfl)) (pa_cons (pe_ix ix_tup (pv 3) pe_int (fun _ _ => rfl)) pa_nil)))) pa_nil)))))
    (pss_one (ps_expr (pe_meth (pv 7) T.c_Way T.M_Way_add_slot (ok_Way_add_slot T) (hr.mono (by omega)) (b_Way_add_slot T) .nil pass0 (pa_cons pe_int (pa_cons (pe_meth (pv 0) T.c_Stretches T.M_Stretches_stretch (ok_Stretches_stretch T) (hr.mono (by omega)) (b_Stretches_stretch T) .nil pass0 (pa_cons (pe_fld (pv 5) rfl) (pa_cons (pe_ix ix_tup (pv 4) pe_int (fun _ _ => rfl)) (pa_cons (pe_ix ix_tup (pv 4) pe_int (fun _ _ => rfl)) pa_nil)))) pa_nil))))))))
    (pss_one (ps_ret (pv 7)))))), ?_⟩)
  · obtain ⟨_, _, _, _, _, _, _, _, _, _, _, _, _, rfl, _⟩ := h
    rfl
  obtain ⟨c, G, x, ms, ra, sa, tq, tr, R, last, sh, q, r, rfl, I, hM, hR, hS, hq, gq, hrr, gr, h8, hC, hz, kQ⟩ := h
  obtain ⟨dxs, t1, t2, ll, sl, las, pas, g1, g2, g3, g4, g5, g6, g7⟩ := hS.ex
  obtain ⟨dxr, ls, ha, _⟩ := hR
  have g1' := I.sF _ _ g1
  have g6' := I.sF _ _ g6
  have l8 : pas.length ≤ 8 := by rw [g7.length]; exact h8
  refine ⟨_, rfl, _, _, _, _, _, rfl, g1', T.c_Shape, T.n_Shape_slots, F_Shape_slots, sl, rfl, ⟨_, SqL.of g6'⟩, fun D hD => lc_objs hD (SqL.of g6') (by omega) g7 (fun _ => true) (fun y => V.bl (decide (pk y = 1))) (fun _ => rfl) (fun b y hy H2 s2 R q => q H2 Same.rfl) (fun b y hy _ H2 s2 R k => ?_) (fun H1 s1 hD' => ?_)⟩
  · obtain ⟨wh, dp, lp, hp, _⟩ := hy
    have hp := s2 _ _ (I.sF _ _ hp)
    refine ⟨_, rfl, _, _, _, _, _, rfl, hp, T.c_Piece, T.n_Piece_kind, F_Piece_kind, rfl, ?_⟩
    have := k H2 Same.rfl
    rw [← vint_eq] at this; exact this
  rw [any_bl] at hD'
  refine ⟨D, _, rfl, SqL.of hD', ?_⟩
  rw [any_id]
  have I1 := I.same s1
  have x1 : Ext G G H H1 := Ext.same s1
  have ha1 := I1.sF _ _ ha
  have g1'' := I1.sF _ _ g1
  have wf : (shapeWay R.by_ sh q r).fixed = if (sh.sl.any fun y => decide (pk y = 1)) = true then 0 else R.by_ := rfl
  have ws : (shapeWay R.by_ sh q r).slots = sh.sl.map (slotD R.by_ q r) := rfl
  have hLet : LetAt c.F ll (shapeWay R.by_ sh q r).letters := ⟨las, g4, g5⟩
  refine ⟨_, rfl, _, rfl, ?_⟩
  cases hb : sh.sl.any fun y => decide (pk y = 1)
  rw [hb, if_neg (by decide)] at wf
  refine if_false_of rfl ⟨_, rfl, _, _, _, _, _, rfl, ha1, T.c_Rule, T.n_Rule_divisor, F_Rule_divisor, _, rfl, _, _, _, _, _, rfl, g1'', T.c_Shape, T.n_Shape_letters, F_Shape_letters, fun p dx hp hpd npd => ⟨p, dx, _, _, rfl, upd_same, fun H2 wl sl' e f1 f2 f3 n1 n2 n3 h1 h2 h3 h4 kp => ⟨rfl, ?_⟩⟩⟩
  have W0 := WayW.init (fx := R.by_) I1 hp hpd f1 f2 f3 n1 n2 n3 h1 h2 h3 h4 kp
  rw [← wf] at W0
  rotate_left
  rw [hb, if_pos rfl] at wf
  refine if_true_of rfl ⟨_, rfl, _, _, _, _, _, rfl, g1'', T.c_Shape, T.n_Shape_letters, F_Shape_letters, fun p dx hp hpd npd => ⟨p, dx, _, _, rfl, upd_same, fun H2 wl sl' e f1 f2 f3 n1 n2 n3 h1 h2 h3 h4 kp => ⟨rfl, ?_⟩⟩⟩
  have W0 := WayW.init (fx := 0) I1 hp hpd f1 f2 f3 n1 n2 n3 h1 h2 h3 h4 kp
  rw [← wf] at W0
  all_goals
    obtain ⟨s2, fw, fs, fe, W0⟩ := W0
    have I2 := I1.same s2
    have x2 := x1.trans (Ext.same s2)
    have g6'' := I2.sF _ _ g6
    have g1x := I2.sF _ _ g1
    have hf : ∀ {b : Addr}, H1 b = none → H b = none := fun q => Same.free s1 q
    refine ⟨_, rfl, _, _, _, _, _, rfl, g1x, T.c_Shape, T.n_Shape_slots, F_Shape_slots, sl, rfl, ⟨_, SqL.of g6''⟩, for_list (K := K) (a := sl) (xs := refs pas)
      (fun j σ H' => (∃ v5 v6, σ = [some (.ref ms), some (.ref ra), some (.ref sa), some (.ref tq), some (.ref tr), v5, v6, some (.ref p)]) ∧ ∃ G', Ext G G' H H' ∧ RInv c A G' x H' ∧ WayW c A G' H' p dx ll wl sl' e (shapeWay R.by_ sh q r).fixed ((sh.sl.take j).map (slotD R.by_ q r)))
      ⟨⟨_, _, rfl⟩, G, x2, I2, W0⟩ ?_ ?_ ?_⟩
    · rintro j σ H' _ ⟨_, G', _, I', _⟩
      exact SqL.of (I'.sF _ _ g6)
    · rintro j v σ H' hj ⟨⟨v5, v6, rfl⟩, G', x', I', W'⟩
      obtain ⟨b, y, rfl, hy, wh, db, lb, hb1, _⟩ := objs_get g7 hj
      have hb1' := I'.sF _ _ hb1
      have ha' := I'.sF _ _ ha
      have hj8 : j < 8 := by have := (List.getElem?_eq_some_iff.mp hy).1; omega
      obtain ⟨dm, DS, DW, m1, m2, m3⟩ := hM
      have hm' := I'.frz (x'.le _ _ m1)
      have tk : (sh.sl.take (j + 1)).map (slotD R.by_ q r) = (sh.sl.take j).map (slotD R.by_ q r) ++ [slotD R.by_ q r y] := by rw [take_more hy, List.map_append] <;> rfl
      have hy2 : (slotD R.by_ q r y).2 ∈ c.C := hC _ (List.mem_map_of_mem (List.mem_of_getElem? hy))
      have hW' := W'.hp
      have tl : ((sh.sl.take j).map (slotD R.by_ q r)).length ≤ 8 := by rw [List.length_map, List.length_take]; omega
      refine ⟨_, rfl, _, _, _, _, _, rfl, hb1', T.c_Piece, T.n_Piece_kind, F_Piece_kind, rfl, _, rfl, ?_⟩
      refine split_dec (fun c1 => ?_) (fun c1 => ?_)
      · have k1 : pk y = 1 := by injection c1 with c1; show pk y = 1; have : ((pk y : Nat) : Int) = 1 := c1; omega
        have e1 : slotD R.by_ q r y = (R.by_, (pby y, q.1, q.2)) := if_pos k1
        rw [e1] at tk hy2
        have hq' := (x'.tmp hq gq).1
        refine ⟨_, rfl, _, _, _, rfl, hW', F_Way_no_add_slot, _, rfl, _, _, _, _, _, rfl, ha', T.c_Rule, T.n_Rule_divisor, F_Rule_divisor, _, rfl, _, _, _, rfl, hm', F_Stretches_no_stretch, _, rfl, _, _, _, _, _, rfl, hb1', T.c_Piece, T.n_Piece_by, F_Piece_by, _, rfl, tq, _, _, _, rfl, rfl, SqT.of hq', rfl, _, rfl, tq, _, _, _, rfl, rfl, SqT.of hq', rfl, c, G', x, ms, pby y, q.1, q.2, rfl, I', ⟨dm, DS, DW, x'.le _ _ m1, x'.le _ _ m2, x'.le _ _ m3⟩, hy2, hz, fun H3 G3 a x3 I3 ga => ?_⟩
        have W3 := W'.ext x3
        obtain ⟨sas, q1, q2⟩ := W3.hs
        refine ⟨p, dx, wl, sl', _, _, _, _, _, _, _, _, rfl, W3.hp, W3.hw, q1, W3.n1, (by rw [nums_length, List.length_map]; omega), (by rw [refs_length, q2.length]; omega), ?_⟩
        refine ⟨⟨_, _, rfl⟩, G3, Ext.upd_new (Ext.upd_new (x'.trans x3) (hf fw)) (hf fs), (I3.temp W3.gw W3.fw _).temp W3.gs W3.fs _, ?_⟩
        rw [tk]
        exact W3.add (y := (R.by_, (pby y, q.1, q.2))) q1 q2 ga
      · have k1 : ¬ pk y = 1 := fun z => c1 (by show V.int ((pk y : Nat) : Int) = V.int 1; rw [z] <;> rfl)
        have e1 : slotD R.by_ q r y = (1, (pby y, r.1, r.2)) := if_neg k1
        rw [e1] at tk hy2
        have hq' := (x'.tmp hrr gr).1
        refine ⟨_, rfl, _, _, _, rfl, hW', F_Way_no_add_slot, _, rfl, _, _, _, rfl, hm', F_Stretches_no_stretch, _, rfl, _, _, _, _, _, rfl, hb1', T.c_Piece, T.n_Piece_by, F_Piece_by, _, rfl, tr, _, _, _, rfl, rfl, SqT.of hq', rfl, _, rfl, tr, _, _, _, rfl, rfl, SqT.of hq', rfl, c, G', x, ms, pby y, r.1, r.2, rfl, I', ⟨dm, DS, DW, x'.le _ _ m1, x'.le _ _ m2, x'.le _ _ m3⟩, hy2, hz, fun H3 G3 a x3 I3 ga => ?_⟩
        have W3 := W'.ext x3
        obtain ⟨sas, q1, q2⟩ := W3.hs
        refine ⟨p, dx, wl, sl', _, _, _, _, _, _, _, _, rfl, W3.hp, W3.hw, q1, W3.n1, (by rw [nums_length, List.length_map]; omega), (by rw [refs_length, q2.length]; omega), ?_⟩
        refine ⟨⟨_, _, rfl⟩, G3, Ext.upd_new (Ext.upd_new (x'.trans x3) (hf fw)) (hf fs), (I3.temp W3.gw W3.fw _).temp W3.gs W3.fs _, ?_⟩
        rw [tk]
        exact W3.add (y := (1, (pby y, r.1, r.2))) q1 q2 ga
    · rintro σ H' ⟨⟨v5, v6, rfl⟩, G', x', I', W'⟩
      have tk : (sh.sl.take (refs pas).length).map (slotD R.by_ q r) = (shapeWay R.by_ sh q r).slots := by rw [refs_length, g7.length, List.take_length]; exact ws.symm
      rw [tk] at W'
      obtain ⟨G2, x3, I3, gp⟩ := W'.done I' hLet x' (hf hp) (hf fw) (hf fs) (hf fe)
      exact ⟨_, rfl, kQ H' G2 p x3 I3 gp⟩
end
end Sn
/-! reading: the ways of a rule's part -/
namespace Sn
open PySem PySem.Spec PyProof.Rows L2
/-- as Ext, but for one place -/
structure ExtD (D : Addr) (G G' : Gh) (H H' : Hp) : Prop where
  le : Le G G'
  kp : ∀ b o, b ≠ D → H b = some o → G b = none → H' b = some o
  nw : ∀ b, H b ≠ none → G b = none → G' b = none
  hm : ∀ b, b ≠ D → HasM H b → HasM H' b
theorem ExtD.rfl {D : Addr} {G : Gh} {H : Hp} : ExtD D G G H H := ⟨Le.rfl, fun _ _ _ h _ => h, fun _ _ h => h, fun _ _ h => h⟩
theorem ExtD.then {D : Addr} {G G1 G2 : Gh} {H H1 H2 : Hp} (a : ExtD D G G1 H H1) (hD : G D = none) (hH : H D ≠ none) (b : Ext G1 G2 H1 H2) (h1 : H1 D ≠ none) : ExtD D G G2 H H2 :=
  ⟨a.le.trans b.le, fun p o n h g => b.kp p o (a.kp p o n h g) (a.nw p (by rw [h]; intro z; cases z) g), fun p h g => by
    by_cases c : p = D
    · subst c; exact b.nw p h1 (a.nw p h g)
    · cases e : H p with
      | none => exact absurd e h
      | some o => exact b.nw p (by rw [a.kp p o c e g]; intro z; cases z) (a.nw p h g), fun p n h => b.hm p (a.hm p n h)⟩
theorem ExtD.upd {D : Addr} {G G1 : Gh} {H H1 : Hp} {o : HO} (a : ExtD D G G1 H H1) : ExtD D G G1 H (upd H1 D o) :=
  ⟨a.le, fun p u n h g => (upd_ne n).trans (a.kp p u n h g), a.nw, fun p n h => let ⟨u, q1, q2⟩ := a.hm p n h; ⟨u, (upd_ne n).trans q1, q2⟩⟩
theorem ExtD.ext {D : Addr} {G G1 : Gh} {H0 H H1 : Hp} (a : ExtD D G G1 H H1) (s : Same H0 H) (hD : H0 D = none) : Ext G G1 H0 H1 :=
  ⟨a.le, fun p u h g => a.kp p u (ne_of_none h hD) (s p u h) g, fun p h g => a.nw p (fun z => h (Same.free s z)) g, fun p h => a.hm p (fun z => h.some (by rw [z]; exact hD)) (h.same s)⟩
/-- ways in a list that has no role -/
structure WaysW (c : RC) (A : Ad) (x : Option (Addr × V)) (D : Addr) (G G' : Gh) (H H' : Hp) (ws : List WayD) : Prop where
  I : RInv c A G' x H'
  ex : ExtD D G G' H H'
  at_ : ∃ as, H' D = some (.lst (refs as)) ∧ All2 (fun a w => G' a = some (.way w)) as ws
  gD : G' D = none
theorem WaysW.next {c : RC} {A : Ad} {x : Option (Addr × V)} {D : Addr} {G G' G2 : Gh} {H H' H2 : Hp} {ws : List WayD} (h : WaysW c A x D G G' H H' ws) (hD : G D = none) (hH : H D ≠ none) (e : Ext G' G2 H' H2) (I : RInv c A G2 x H2) : WaysW c A x D G G2 H H2 ws := by
  obtain ⟨as, h1, h2⟩ := h.at_
  have h3 := e.tmp h1 h.gD
  exact ⟨I, h.ex.then hD hH e (by rw [h1]; intro z; cases z), ⟨as, h3.1, h2.mono fun _ _ _ _ z => e.le _ _ z⟩, h3.2⟩
theorem WaysW.push {c : RC} {A : Ad} {x : Option (Addr × V)} {D : Addr} {G G' : Gh} {H H' : Hp} {ws : List WayD} (h : WaysW c A x D G G' H H' ws) (fD : c.F D = none) {as ps : List Addr} {vs : List WayD} (h1 : H' D = some (.lst (refs as))) (h2 : All2 (fun a w => G' a = some (.way w)) as ws) (hp : All2 (fun a w => G' a = some (.way w)) ps vs) :
    WaysW c A x D G G' H (upd H' D (.lst (refs as ++ refs ps))) (ws ++ vs) :=
  ⟨h.I.temp h.gD fD _, h.ex.upd, ⟨as ++ ps, by rw [upd_same]; unfold refs; rw [List.map_append], h2.append hp⟩, h.gD⟩
section
variable {P : Program} {w : World} {K : PySem.W.Frag} {mg : Str → Option Value} {base : Heap} {A : Ad}
def spPartWays (A : Ad) : Sp := fun vs H Q _ => ∃ (c : RC) (G : Gh) (x : Option (Addr × V)) (ms ra : Addr) (R : Sw64.Rule) (last lo hi : Nat), vs = [.ref ms, .ref ra, .int (lo : Int), .int (hi : Int)] ∧ RInv c A G x H ∧ MadeAt c A G ms ∧
  RuleAt A c.F ra (R, last) ∧ (∀ s ∈ shapesOf R.pieces, s.sl.length ≤ 8) ∧ 2 ≤ R.by_ ∧ R.by_ < 2 ^ 64 ∧ lo ≤ hi ∧ (∀ w ∈ partWays R lo hi, ∀ y ∈ w.slots, y.2 ∈ c.C) ∧ c.C.length ≤ sizeLine ∧
  ∀ H' G' p as, Ext G G' H H' → RInv c A G' x H' → H p = none → G' p = none → H' p = some (.lst (refs as)) → All2 (fun a w => G' a = some (.way w)) as (partWays R lo hi) → Q (.ref p) H'
theorem shapes_len (ps : List Pc) : (shapesOf ps).length ≤ 4 := by
  have h : ∀ (a b : List (Nat × Nat)), a.length ≤ 2 → b.length ≤ 2 → (a.flatMap fun q => b.map (shOf ps q)).length ≤ 4 := fun a b ha hb => by
    have : ∀ (a : List (Nat × Nat)), (a.flatMap fun q => b.map (shOf ps q)).length = a.length * b.length := fun a => by
      induction a with
      | nil => simp
      | cons x a ih => rw [List.flatMap_cons, List.length_append, List.length_map, ih, List.length_cons, Nat.succ_mul]; omega
    rw [this]
    exact Nat.le_trans (Nat.mul_le_mul ha hb) (by decide)
  exact h _ _ (qruns_len ps) (rruns_len ps)
theorem boxes_len (d lo hi : Nat) : (boxes d lo hi).length ≤ 3 := by
  unfold boxes
  split
  · simp
  · rw [List.length_append, List.length_append]
    split <;> split <;> split <;> simp
theorem boxWays_len (d : Nat) (b : (Nat × Nat) × (Nat × Nat)) (s : Sh) : (boxWays d b s).length ≤ 1 := by
  unfold boxWays
  split <;> simp
theorem flatMap_more {α β : Type} {l : List α} {i : Nat} {x : α} {f : α → List β} (h : l[i]? = some x) : (l.take (i + 1)).flatMap f = (l.take i).flatMap f ++ f x := by
  rw [take_more h, List.flatMap_append, List.flatMap_cons, List.flatMap_nil, List.append_nil]
theorem flatMap_len {α β : Type} {f : α → List β} {n : Nat} : ∀ {l : List α}, (∀ x ∈ l, (f x).length ≤ n) → (l.flatMap f).length ≤ l.length * n
  | [], _ => by simp
  | x :: l, h => by
    rw [List.flatMap_cons, List.length_append, List.length_cons, Nat.succ_mul]
    have h1 := h x List.mem_cons_self
    have h2 := flatMap_len (l := l) fun y hy => h y (List.mem_cons_of_mem _ hy)
    omega
theorem ok_Stretches_part_ways (T : Top K mg A) : FnOk P w K mg base CX0 5 A.f_Stretches_part_ways A.d_Stretches_part_ways P_Stretches_part_ways (spPartWays A) := by
  refine T.F_Stretches_part_ways.ok sc_Stretches_part_ways (fun vs H Q E h => ?_) (fun cdv _ outer s H vs Q E hr h => ⟨_, (pss_cons (ps_set (i := 4) sc_Stretches_part_ways.nd rfl (Or.inl rfl) (pe_lst pa_nil))
    (pss_cons (ps_for PassesOwn.never rfl (pi_list (pe_call (ok_boxes_of T) (hr.mono (by omega)) (by rfl) T.g_boxes_of T.F_boxes_of.kp (b_boxes_of T) .nil pass0 (pa_cons (pe_fld (pv 1) rfl) (pa_cons (pv 2) (pa_cons (pv 3) pa_nil))))) (pg_name (i := 5) sc_Stretches_part_ways.nd rfl (Or.inl rfl))
    (pss_one (ps_for PassesOwn.never rfl (pi_list (pe_fld (pv 1) rfl)) (pg_name (i := 6) sc_Stretches_part_ways.nd rfl (Or.inl rfl))
    (pss_cons (ps_set (i := 7) sc_Stretches_part_ways.nd rfl (Or.inl rfl) (pe_call (ok_common_run T) (hr.mono (by omega)) (by rfl) T.g_common_run T.F_common_run.kp (b_common_run T) .nil pass0 (pa_cons (pe_ix ix_tup (pv 5) pe_int (fun _ _ => rfl)) (pa_cons (pe_fld (pv 6) rfl) pa_nil))))
    (pss_cons (ps_set (i := 8) sc_Stretches_part_ways.nd rfl (Or.inl rfl) (pe_call (ok_common_run T) (hr.mono (by omega)) (by rfl) T.g_common_run T.F_common_run.kp (b_common_run T) .nil pass0 (pa_cons (pe_ix ix_tup (pv 5) pe_int (fun _ _ => rfl)) (pa_cons (pe_fld (pv 6) rfl) pa_nil))))
    (pss_one (ps_if (PW.pt (pw_and (pt_cmpR op_le (pe_ix ix_tup (pv 7) pe_int (fun _ _ => rfl)) (pe_ix ix_tup (pv 7) pe_int (fun _ _ => rfl)) (nomark _)) (pw_and1 (pt_cmpR op_le (pe_ix ix_tup (pv 8) pe_int (fun _ _ => rfl)) (pe_ix ix_tup (pv 8) pe_int (fun _ _ => rfl)) (nomark _)))))
    (pss_one (ps_expr (pe_bm PySem.F.plainAttrs_list PySem.F.slot_list_append PySem.F.type_list_append mt_append (pv 4) (pa_cons (pe_meth (pv 0) T.c_Stretches T.M_Stretches_shape_way (ok_Stretches_shape_way T) (hr.mono (by omega)) (b_Stretches_shape_way T) .nil pass0 (pa_cons (pv 1) (pa_cons (pv 6) (pa_cons (pv 7) (pa_cons (pv 8) pa_nil))))) pa_nil))))
    pss_nil)))))))
    (pss_one (ps_ret (pv 4))))), ?_⟩)
  · obtain ⟨_, _, _, _, _, _, _, _, _, rfl, _⟩ := h
    rfl
  obtain ⟨c, G, x, ms, ra, R, last, lo, hi, rfl, I, hM, hR, h8, d2, d64, hlh, hC, hz, kQ⟩ := h
  obtain ⟨dxr, ls, ha, sas, hls, hss⟩ := hR
  refine ⟨(by show 0 ≤ sizeLine; decide), fun D hD => ?_⟩
  have s0 := same_new hD (.lst [])
  have I0 := I.new hD (.lst [])
  have ha0 := I0.sF _ _ ha
  have gD : G D = none := I.fresh hD
  have fD : c.F D = none := Same.free I.sF hD
  refine ⟨_, rfl, _, _, _, _, _, rfl, ha0, T.c_Rule, T.n_Rule_divisor, F_Rule_divisor, _, rfl, _, rfl, R.by_, lo, hi, rfl, d2, d64, hlh, fun H1 lb s1 hB => ?_⟩
  obtain ⟨bas, hb1, hb2⟩ := id hB
  have I1 := I0.same s1
  have hD1 : H1 D = some (.lst (refs [])) := s1 _ _ upd_same
  have nD1 : H1 D ≠ none := by rw [hD1]; intro z; cases z
  have keepB : ∀ {G' H'}, ExtD D G G' H1 H' → ∀ b o, Nw (upd H D (.lst [])) H1 b = some o → H' b = some o := fun e b o q => by
    refine e.kp b o (fun z => ?_) (Nw.is q) (I0.fresh (Nw.old q))
    have := Nw.old q
    rw [z, upd_same] at this; cases this
  refine ⟨lb, rfl, ⟨_, SqL.of (Nw.is hb1)⟩, for_list (K := K) (a := lb) (xs := refs bas)
    (fun i σ H' => (∃ v5 v6 v7 v8, σ = [some (.ref ms), some (.ref ra), some (.int (lo : Int)), some (.int (hi : Int)), some (.ref D), v5, v6, v7, v8]) ∧ ∃ G', WaysW c A x D G G' H1 H' (((boxes R.by_ lo hi).take i).flatMap fun b => (shapesOf R.pieces).flatMap (boxWays R.by_ b)))
    ⟨⟨none, none, none, none, rfl⟩, G, I1, ExtD.rfl, ⟨[], hD1, .nil⟩, gD⟩ ?_ ?_ ?_⟩
  · rintro i σ H' _ ⟨_, G', W⟩
    exact SqL.of (keepB W.ex _ _ hb1)
  · rintro i v σ H' hix ⟨⟨v5, v6, v7, v8, rfl⟩, G1, W1⟩
    obtain ⟨ba, bx, rfl, hbx, t1, t2, ht0, ht1, ht2⟩ := objs_get hb2 hix
    have hi3 : i < 3 := Nat.lt_of_lt_of_le (List.getElem?_eq_some_iff.mp hbx).1 (boxes_len _ _ _)
    rw [flatMap_more hbx]
    generalize hw0 : ((boxes R.by_ lo hi).take i).flatMap (fun b => (shapesOf R.pieces).flatMap (boxWays R.by_ b)) = ws0 at *
    have hl0 : ws0.length ≤ 12 := by
      rw [← hw0]
      refine Nat.le_trans (flatMap_len (n := 4) fun b _ => Nat.le_trans (flatMap_len (n := 1) fun s _ => boxWays_len _ _ _) (by have := shapes_len R.pieces; omega)) ?_
      rw [List.length_take]; omega
    have ha1 := W1.I.sF _ _ ha
    refine ⟨_, rfl, _, _, _, _, _, rfl, ha1, T.c_Rule, T.n_Rule_shapes, F_Rule_shapes, ls, rfl, ⟨_, SqL.of (W1.I.sF _ _ hls)⟩, for_list (K := K) (a := ls) (xs := refs sas)
      (fun j σ H' => (∃ v6 v7 v8, σ = [some (.ref ms), some (.ref ra), some (.int (lo : Int)), some (.int (hi : Int)), some (.ref D), some (.ref ba), v6, v7, v8]) ∧ ∃ G', WaysW c A x D G G' H1 H' (ws0 ++ ((shapesOf R.pieces).take j).flatMap (boxWays R.by_ bx)))
      ⟨⟨v6, v7, v8, rfl⟩, G1, by rw [List.take_zero, List.flatMap_nil, List.append_nil]; exact W1⟩ ?_ ?_ ?_⟩
    · rintro j σ H2 _ ⟨_, G2, W2⟩
      exact SqL.of (W2.I.sF _ _ hls)
    · rintro j v σ H2 hjx ⟨⟨v6, v7, v8, rfl⟩, G2, W2⟩
      obtain ⟨sa, sh, rfl, hsh, hsA⟩ := objs_get hss hjx
      obtain ⟨dxs, tq, tr, ll, sl, las, pas, g1, g2, g3, g4, g5, g6, g7⟩ := hsA.ex
      have hj4 : j < 4 := Nat.lt_of_lt_of_le (List.getElem?_eq_some_iff.mp hsh).1 (shapes_len _)
      rw [flatMap_more hsh, ← List.append_assoc]
      generalize hw1 : ws0 ++ ((shapesOf R.pieces).take j).flatMap (boxWays R.by_ bx) = ws1 at *
      have hl1 : ws1.length ≤ 20 := by
        rw [← hw1, List.length_append]
        have := flatMap_len (n := 1) (l := (shapesOf R.pieces).take j) fun s _ => boxWays_len R.by_ bx s
        rw [List.length_take] at this
        omega
      have g1' := W2.I.sF _ _ g1
      have hbt := keepB W2.ex _ _ ht0
      refine ⟨_, rfl, ba, _, _, _, rfl, rfl, SqT.of hbt, rfl, _, rfl, _, _, _, _, _, rfl, g1', T.c_Shape, T.n_Shape_q_run, F_Shape_q_run, t1, tq, bx.1, sh.q, rfl, keepB W2.ex _ _ ht1, W2.I.sF _ _ g2, fun q hq => ?_⟩
      have sq := same_new hq (tupI (common bx.1 sh.q))
      have g1q := sq _ _ g1'
      refine ⟨_, rfl, ba, _, _, _, rfl, rfl, SqT.of (sq _ _ hbt), rfl, _, rfl, _, _, _, _, _, rfl, g1q, T.c_Shape, T.n_Shape_r_run, F_Shape_r_run, t2, tr, bx.2, sh.r, rfl, sq _ _ (keepB W2.ex _ _ ht2), sq _ _ (W2.I.sF _ _ g3), fun r hr' => ?_⟩
      have sr := same_new hr' (tupI (common bx.2 sh.r))
      have hqt : upd (upd H2 q (tupI (common bx.1 sh.q))) r (tupI (common bx.2 sh.r)) q = some (tupI (common bx.1 sh.q)) := sr _ _ upd_same
      have hrt : upd (upd H2 q (tupI (common bx.1 sh.q))) r (tupI (common bx.2 sh.r)) r = some (tupI (common bx.2 sh.r)) := upd_same
      have sqr : Same H2 (upd (upd H2 q (tupI (common bx.1 sh.q))) r (tupI (common bx.2 sh.r))) := sq.trans sr
      have fr : H2 r = none := Same.free sq hr'
      have eH : upd (upd H2 q (.tup [.int ((common bx.1 sh.q).1 : Nat), .int ((common bx.1 sh.q).2 : Nat)])) r (.tup [.int ((common bx.2 sh.r).1 : Nat), .int ((common bx.2 sh.r).2 : Nat)]) = upd (upd H2 q (tupI (common bx.1 sh.q))) r (tupI (common bx.2 sh.r)) := rfl
      rw [eH]
      generalize upd (upd H2 q (tupI (common bx.1 sh.q))) r (tupI (common bx.2 sh.r)) = H3 at *
      have I3 := W2.I.same sqr
      have W3 := W2.next gD nD1 (Ext.same sqr) I3
      have hbw : boxWays R.by_ bx sh = if (okRun (common bx.1 sh.q) && okRun (common bx.2 sh.r)) = true then [shapeWay R.by_ sh (common bx.1 sh.q) (common bx.2 sh.r)] else [] := rfl
      have no : (okRun (common bx.1 sh.q) && okRun (common bx.2 sh.r)) = false → ∀ σ, (∃ v6 v7 v8, σ = [some (V.ref ms), some (.ref ra), some (.int (lo : Int)), some (.int (hi : Int)), some (.ref D), some (.ref ba), v6, v7, v8]) → (∃ v6 v7 v8, σ = [some (V.ref ms), some (.ref ra), some (.int (lo : Int)), some (.int (hi : Int)), some (.ref D), some (.ref ba), v6, v7, v8]) ∧ ∃ G', WaysW c A x D G G' H1 H3 (ws1 ++ boxWays R.by_ bx sh) := fun e σ h => ⟨h, G2, by rw [hbw, e, if_neg (by decide), List.append_nil]; exact W3⟩
      refine ⟨_, rfl, q, _, _, _, rfl, rfl, SqT.of hqt, rfl, _, rfl, q, _, _, _, rfl, rfl, SqT.of hqt, rfl, _, _, rfl, rfl, _, rfl, ?_⟩
      refine split_dec (fun c1 => ?_) (fun c1 => ?_)
      · have k1 : okRun (common bx.1 sh.q) = true := decide_eq_true (by omega)
        refine ⟨_, rfl, r, _, _, _, rfl, rfl, SqT.of hrt, rfl, _, rfl, r, _, _, _, rfl, rfl, SqT.of hrt, rfl, _, _, rfl, rfl, _, rfl, ?_⟩
        refine split_dec (fun c2 => ?_) (fun c2 => ?_)
        · have k2 : okRun (common bx.2 sh.r) = true := decide_eq_true (by omega)
          rw [k1, k2, if_pos (by decide)] at hbw
          obtain ⟨as, hD3, h2⟩ := W3.at_
          have las' : as.length ≤ 20 := by rw [h2.length]; exact hl1
          have hmem : shapeWay R.by_ sh (common bx.1 sh.q) (common bx.2 sh.r) ∈ partWays R lo hi := by
            unfold partWays
            rw [List.mem_flatMap]
            refine ⟨bx, List.mem_of_getElem? hbx, ?_⟩
            rw [List.mem_flatMap]
            exact ⟨sh, List.mem_of_getElem? hsh, by rw [hbw]; exact List.mem_singleton.mpr rfl⟩
          have M3 := hM.mono W3.ex.le
          obtain ⟨dm, DS, DW, m1, m2, m3⟩ := id M3
          have hm' := I3.frz m1
          refine ⟨_, rfl, .inl ⟨rfl, _, SqL.of hD3⟩, _, rfl, _, _, _, rfl, hm', F_Stretches_no_shape_way, _, rfl, _, rfl, _, rfl, _, rfl, c, G2, x, ms, ra, sa, q, r, R, last, sh, common bx.1 sh.q, common bx.2 sh.r, rfl, I3, M3, ⟨dxr, ls, ha, sas, hls, hss⟩, hsA, hqt, W2.I.fresh hq, hrt, W2.I.fresh fr, h8 sh (List.mem_of_getElem? hsh), hC _ hmem, hz, fun H4 G4 p x4 I4 gp => ?_⟩
          have W4 := W3.next gD nD1 x4 I4
          obtain ⟨as4, hD4, h4⟩ := W4.at_
          have l4 : as4.length ≤ 20 := by rw [h4.length]; exact hl1
          refine ⟨D, _, _, rfl, rfl, hD4, (by rw [refs_length, sizeLine_eq]; omega), ?_⟩
          refine ⟨⟨_, _, _, rfl⟩, G4, ?_⟩
          rw [hbw]
          exact W4.push fD hD4 h4 (.cons gp .nil)
        · have k2 : okRun (common bx.2 sh.r) = false := decide_eq_false (by omega)
          exact no (by rw [k2, Bool.and_false]) _ ⟨_, _, _, rfl⟩
      · have k1 : okRun (common bx.1 sh.q) = false := decide_eq_false (by omega)
        exact no (by rw [k1, Bool.false_and]) _ ⟨_, _, _, rfl⟩
    · rintro σ H2 ⟨⟨v6, v7, v8, rfl⟩, G2, W2⟩
      have e : (shapesOf R.pieces).take (refs sas).length = shapesOf R.pieces := by rw [refs_length, hss.length, List.take_length]
      rw [e] at W2
      exact ⟨⟨_, _, _, _, rfl⟩, G2, W2⟩
  · rintro σ H2 ⟨⟨v5, v6, v7, v8, rfl⟩, G2, W2⟩
    have e : (boxes R.by_ lo hi).take (refs bas).length = boxes R.by_ lo hi := by rw [refs_length, hb2.length, List.take_length]
    rw [e] at W2
    obtain ⟨as, h1, h2⟩ := W2.at_
    exact ⟨_, rfl, kQ H2 G2 D as (W2.ex.ext (s0.trans s1) hD) W2.I hD W2.gD h1 h2⟩
end
end Sn
/-! reading: the ways of a rule, of a stretch -/
namespace Sn
open PySem PySem.Spec PyProof.Rows L2
section
variable {κ : Type} [DecidableEq κ]
theorem DOk.set {kvs : List (κ × V)} {P : κ → V → Prop} {k : κ} {v : V} (h : DOk kvs P) (p : P k v) : DOk (putK kvs k v) P := by
  cases e : valV kvs k with
  | none => exact h.put e p
  | some u =>
    have hp : putK kvs k v = kvs.map fun kv => if kv.1 = k then (kv.1, v) else kv := by
      unfold putK
      rw [valV_any, e]
      exact if_pos rfl
    rw [hp]
    refine ⟨?_, fun z hz => ?_⟩
    · have : ((kvs.map fun kv => if kv.1 = k then (kv.1, v) else kv).map fun z => z.1) = kvs.map fun z => z.1 := by
        rw [List.map_map]
        refine List.map_congr_left fun z _ => ?_
        show (if z.1 = k then (z.1, v) else z).1 = z.1
        split <;> rfl
      rw [this]; exact h.1
    · obtain ⟨y, hy, rfl⟩ := List.mem_map.mp hz
      split
      · rename_i c; rw [c]; exact p
      · exact h.2 y hy
end
theorem slots_len {s : Sh} (f : ShFacts s) : s.sl.length ≤ 8 := by
  have h : ∀ l : List Sw64.Piece, (∀ y ∈ l, Sw64.isText y = false) → l.length = (l.filter Sw64.isTimes).length + (l.filter Sw64.isLeft).length := fun l => by
    induction l with
    | nil => intro _; rfl
    | cons y l ih =>
      intro hl
      have := ih fun z hz => hl z (List.mem_cons_of_mem _ hz)
      have h1 := hl y List.mem_cons_self
      cases y with
      | text _ => cases h1
      | times j => rw [List.filter_cons_of_pos (by rfl), List.filter_cons_of_neg (fun z => Bool.noConfusion z), List.length_cons, List.length_cons, this]; omega
      | left j => rw [List.filter_cons_of_neg (fun z => Bool.noConfusion z), List.filter_cons_of_pos (by rfl), List.length_cons, List.length_cons, this]; omega
  have := h s.sl f.nt
  have := f.t1
  have := f.l1
  omega
theorem RInv.putWays {c : RC} {A : Ad} {G : Gh} {x : Option (Addr × V)} {H : Hp} {DW p : Addr} {k lo hi : Nat} {R : Sw64.Rule} {as : List Addr} {kvs : List (List Key × V)} (I : RInv c A G x H) (gw : G DW = some .mw) (hk : H DW = some (.dT kvs)) (hp : H p = some (.lst (refs as))) (gp : G p = none) (fp : c.F p = none)
    (h2 : All2 (fun a w => G a = some (.way w)) as (ruleWays R lo hi)) (hC : (k, lo, hi) ∈ c.CW) (hR : R ∈ c.S.getD k []) (hb : R.base ≤ lo) (hl : lo ≤ Sw64.upTo (c.S.getD k []) R) (hz : c.CW.length < sizeLine) :
    kvs.length < sizeLine ∧ RInv c A (addR G p (.frz (.lst (refs as)))) x (upd H DW (.dT (putK kvs (kS (k, lo, hi)) (.ref p)))) ∧ WaysAt (addR G p (.frz (.lst (refs as)))) p (ruleWays R lo hi) ∧ p ≠ DW := by
  have le := le_addR (r := .frz (.lst (refs as))) gp
  have I2 := I.add (p := p) (r := .frz (.lst (refs as))) gp fp (by exact hp)
  obtain ⟨kvs', q1, q2⟩ := I2.ok DW .mw (le _ _ gw)
  rw [hk] at q1
  cases q1
  have hw : WaysAt (addR G p (.frz (.lst (refs as)))) p (ruleWays R lo hi) := ⟨as, addR_same, h2.mono fun _ _ _ _ z => le _ _ z⟩
  have hlen := q2.len (c.CW.map kS) fun j v ⟨y, l, R', z1, z2, _⟩ => z1 ▸ List.mem_map_of_mem z2
  rw [List.length_map] at hlen
  refine ⟨by omega, I2.set (le _ _ gw) (fun h => (h.not hk).elim) (o := .dT _) ⟨_, rfl, q2.set ⟨(k, lo, hi), p, R, rfl, hC, hR, hb, hl, rfl, hw⟩⟩, hw, fun z => ?_⟩
  rw [z, gw] at gp; cases gp
section
variable {P : Program} {w : World} {K : PySem.W.Frag} {mg : Str → Option Value} {base : Heap} {A : Ad}
def spRuleWays (A : Ad) : Sp := fun vs H Q _ => ∃ (c : RC) (G : Gh) (x : Option (Addr × V)) (ms ra : Addr) (R : Sw64.Rule) (last k lo hi : Nat), vs = [.ref ms, .int (k : Int), .ref ra, .int (lo : Int), .int (hi : Int)] ∧ RInv c A G x H ∧ MadeAt c A G ms ∧
  RuleAt A c.F ra (R, last) ∧ Sw64.ruleOk R = true ∧ (k, lo, hi) ∈ c.CW ∧ R ∈ c.S.getD k [] ∧ R.base ≤ lo ∧ lo ≤ Sw64.upTo (c.S.getD k []) R ∧ lo ≤ hi ∧ (∀ R' ∈ c.S.getD k [], R'.base ≤ lo → lo ≤ Sw64.upTo (c.S.getD k []) R' → R' = R) ∧
  (∀ w ∈ ruleWays R lo hi, ∀ y ∈ w.slots, y.2 ∈ c.C) ∧ c.C.length < sizeLine ∧ c.CW.length < sizeLine ∧
  ∀ H' G' l, Ext G G' H H' → RInv c A G' x H' → WaysAt G' l (ruleWays R lo hi) → Q (.ref l) H'
theorem ok_Stretches_rule_ways (T : Top K mg A) : FnOk P w K mg base CX0 6 A.f_Stretches_rule_ways A.d_Stretches_rule_ways P_Stretches_rule_ways (spRuleWays A) := by
  refine T.F_Stretches_rule_ways.ok sc_Stretches_rule_ways (fun vs H Q E h => ?_) (fun cdv _ outer s H vs Q E hr h => ?_)
  · obtain ⟨_, _, _, _, _, _, _, _, _, _, rfl, _⟩ := h
    rfl
  have hu := hu_of hr
  refine ⟨_, (pss_cons (ps_set (i := 5) sc_Stretches_rule_ways.nd rfl (Or.inl rfl) (pe_tup (pa_cons (pv 1) (pa_cons (pv 3) (pa_cons (pv 4) pa_nil)))))
    (pss_cons (ps_if (pt_cmp (pc_dnotin hu (pv 5) (pe_fld (pv 0) rfl)))
    (pss_one (ps_if (pt_cmpR op_gt (pe_fld (pv 2) rfl) pe_int (nomark _))
    (pss_one (ps_dput hu (pe_fld (pv 0) rfl) (pv 5) (pe_meth (pv 0) T.c_Stretches T.M_Stretches_part_ways (ok_Stretches_part_ways T) (hr.mono (by omega)) (b_Stretches_part_ways T) .nil pass0 (pa_cons (pv 2) (pa_cons (pv 3) (pa_cons (pv 4) pa_nil)))) rfl))
    (pss_one (ps_if (pt_cmpR op_eq (pv 3) (pe_fld (pv 2) rfl) (nomark _))
    (pss_one (ps_dput hu (pe_fld (pv 0) rfl) (pv 5) (pe_lst (pa_cons (pe_make T.m_Way (ok_Way_init T) (hr.mono (by omega)) (by rfl) T.g_Way (b_Way_init T) .nil pass0 (pa_cons (pe_fld (pv 2) rfl) (pa_cons (pe_fld (pe_ix ix_list (pe_fld (pv 2) rfl) pe_int (fun _ _ => rfl)) rfl) pa_nil))) pa_nil)) rfl))
    (pss_one (ps_dput hu (pe_fld (pv 0) rfl) (pv 5) (pe_lst pa_nil) rfl))))))
    pss_nil)
    (pss_one (ps_ret (pe_dget hu (pe_fld (pv 0) rfl) (pv 5) (fun _ _ => rfl)))))), ?_⟩
  obtain ⟨c, G, x, ms, ra, R, last, k, lo, hi, rfl, I, hM, hR, hok, hCW, hmem, hbl, hll, hlh, huq, hC, hz, hzw, kQ⟩ := h
  obtain ⟨dxr, ls, ha, sas, hls, hss⟩ := id hR
  refine ⟨_, rfl, _, rfl, _, rfl, (by show 3 ≤ sizeLine; decide), fun t ht => ?_⟩
  have s1 := same_new ht (.tup [.int (k : Int), .int (lo : Int), .int (hi : Int)])
  have I1 := I.new ht (.tup [.int (k : Int), .int (lo : Int), .int (hi : Int)])
  have gt : G t = none := I.fresh ht
  have e1 : upd H t (.tup [.int (k : Int), .int (lo : Int), .int (hi : Int)]) t = some (.tup ((kS (k, lo, hi)).map kV)) := upd_same
  generalize hH1 : upd H t (.tup [.int (k : Int), .int (lo : Int), .int (hi : Int)]) = H1 at s1 I1 e1 ⊢
  obtain ⟨dx, DS, DW, m1, m2, m3⟩ := id hM
  have hm1 := I1.frz m1
  have ha1 := I1.sF _ _ ha
  obtain ⟨kvs, hk, hd⟩ := I1.ok _ _ m3
  refine ⟨_, rfl, _, rfl, _, _, _, _, _, rfl, hm1, T.c_Stretches, T.n_Stretches_made_ways, F_Stretches_made_ways, _, _, rfl, DGet.t (k := kS (k, lo, hi)) hk e1, _, rfl, ?_⟩
  -- the end: what is there now
  have fin : ∀ (H2 H3 : Hp) (G2 : Gh) (p : Addr) (as : List Addr) (kvs2 : List (List Key × V)), H3 = upd H2 DW (.dT (putK kvs2 (kS (k, lo, hi)) (.ref p))) → H2 DW = some (.dT kvs2) → RInv c A (addR G2 p (.frz (.lst (refs as)))) x H3 → Ext G G2 H1 H2 → G2 p = none → H p = none → p ≠ DW →
      WaysAt (addR G2 p (.frz (.lst (refs as)))) p (ruleWays R lo hi) → ∃ kvs3, H3 DW = some (.dT kvs3) ∧ H3 t = some (.tup ((kS (k, lo, hi)).map kV)) ∧ valV kvs3 (kS (k, lo, hi)) = some (.ref p) ∧ H3 ms = some (.ins A.C_Stretches dx (F_Stretches (.ref c.st) (.ref DS) (.ref DW))) ∧ Q (.ref p) H3 := by
    intro H2 H3 G2 p as kvs2 eH hk2' I3 x2 gp fp np hw
    have le := le_addR (r := .frz (.lst (refs as))) gp
    have et := (x2.tmp e1 gt).1
    have ntD : t ≠ DW := fun z => by rw [z, m3] at gt; cases gt
    refine ⟨_, by rw [eH]; exact upd_same, by rw [eH]; exact (upd_ne ntD).trans et, by rw [valV_put, if_pos rfl], I3.frz (le _ _ (x2.le _ _ m1)), ?_⟩
    refine kQ H3 _ p ?_ I3 hw
    rw [eH]
    exact (((Ext.same s1).trans x2).trans (Ext.upd_role (x2.le _ _ m3) fun h => (h.not hk2').elim)).add fp gp
  cases e : valV kvs (kS (k, lo, hi)) with
  | some v =>
    refine if_false_of rfl ?_
    obtain ⟨y, l, R', q1, q2, q3, q4, q5, q6, q7⟩ := DOk.get hd.2 e
    obtain rfl := kS_inj q1
    obtain rfl := huq R' q3 q4 q5
    have g := DGet.t (k := kS (k, lo, hi)) hk e1
    rw [e] at g
    refine ⟨_, rfl, _, _, _, _, _, rfl, hm1, T.c_Stretches, T.n_Stretches_made_ways, F_Stretches_made_ways, _, rfl, _, _, rfl, g, ?_⟩
    subst q6
    exact kQ _ G l (Ext.same s1) I1 q7
  | none =>
    refine if_true_of rfl ?_
    refine ⟨_, rfl, _, _, _, _, _, rfl, ha1, T.c_Rule, T.n_Rule_divisor, F_Rule_divisor, _, _, rfl, rfl, _, rfl, ?_⟩
    refine split_dec (fun c1 => ?_) (fun c1 => ?_)
    · have d0 : 0 < R.by_ := by have : (0 : Int) < (R.by_ : Int) := c1; omega
      obtain ⟨d2, db, _⟩ := SpecMath.rule_by hok (by omega)
      have hM : Sw64.MOST = 1000000000000000 := by decide
      have d64 : R.by_ < 2 ^ 64 := by have := SpecMath.rule_base hok; omega
      have ew : ruleWays R lo hi = partWays R lo hi := if_pos d0
      refine ⟨_, rfl, _, _, _, rfl, hm1, F_Stretches_no_part_ways, _, rfl, _, rfl, _, rfl, c, G, x, ms, ra, R, last, lo, hi, rfl, I1, ⟨dx, DS, DW, m1, m2, m3⟩, hR, (fun s hs => slots_len (shape_facts hok (by omega) hs)), d2, d64, hlh, (by rw [← ew]; exact hC), by omega, fun H2 G2 p as x2 I2 fp gp hp hpw => ?_⟩
      · have hm2 := I2.frz (x2.le _ _ m1)
        have et := (x2.tmp e1 gt).1
        obtain ⟨kvs2, hk2, _⟩ := I2.ok _ _ (x2.le _ _ m3)
        obtain ⟨z1, I3, hw, np⟩ := I2.putWays (x2.le _ _ m3) hk2 hp gp (Same.free I1.sF fp) (by rw [ew]; exact hpw) hCW hmem hbl hll hzw
        refine ⟨_, rfl, _, _, _, _, _, rfl, hm2, T.c_Stretches, T.n_Stretches_made_ways, F_Stretches_made_ways, _, rfl, _, _, rfl, DPut.t (k := kS (k, lo, hi)) hk2 et z1, ?_⟩
        obtain ⟨kvs3, f1, f2, f3, f4, f5⟩ := fin H2 _ G2 p as kvs2 rfl hk2 I3 x2 gp (Same.free s1 fp) np hw
        have g := DGet.t (k := kS (k, lo, hi)) f1 f2
        rw [f3] at g
        exact ⟨_, rfl, _, _, _, _, _, rfl, f4, T.c_Stretches, T.n_Stretches_made_ways, F_Stretches_made_ways, _, rfl, _, _, rfl, g, f5⟩
    · have d0 : R.by_ = 0 := by have : ¬ (0 : Int) < (R.by_ : Int) := c1; omega
      have ew : ruleWays R lo hi = if lo = R.base then [⟨R.base, ((shapesOf R.pieces).headD (Sh.new (0, 0) (0, 0))).letters, []⟩] else [] := if_neg (by omega)
      refine ⟨_, rfl, _, rfl, _, _, _, _, _, rfl, ha1, T.c_Rule, T.n_Rule_base, F_Rule_base, rfl, _, rfl, ?_⟩
      refine split_dec (fun c2 => ?_) (fun c2 => ?_)
      · have c3 : lo = R.base := by injection c2 with c2; have : (lo : Int) = (R.base : Int) := c2; omega
        rw [if_pos c3] at ew
        obtain ⟨s0, z1, z2, _⟩ := base_shape hok d0
        rw [z1] at hss ew
        obtain ⟨sb, hsb, hsA⟩ := hss.getx (i := 0) (x := s0) rfl
        obtain ⟨dxs, t1, t2, ll, sl, las, pas, g1, g2, g3, g4, g5, g6, g7⟩ := hsA.ex
        have hls1 := I1.sF _ _ hls
        have g1' := I1.sF _ _ g1
        refine ⟨_, rfl, _, _, _, _, _, rfl, ha1, T.c_Rule, T.n_Rule_base, F_Rule_base, _, rfl, _, _, _, _, _, rfl, ha1, T.c_Rule, T.n_Rule_shapes, F_Rule_shapes, ls, _, _, _, rfl, rfl, SqL.of hls1, atI_nat (j := 0) (refs_get hsb), _, _, _, _, _, rfl, g1', T.c_Shape, T.n_Shape_letters, F_Shape_letters, fun p dxp hp hpd npd => ⟨p, dxp, _, _, rfl, upd_same, fun H2 wl sl' we f1 f2 f3 n1 n2 n3 h1 h2 h3 h4 kp => ⟨rfl, ?_⟩⟩⟩
        obtain ⟨s2, fw, fs, fe, W0⟩ := WayW.init (fx := R.base) I1 hp hpd f1 f2 f3 n1 n2 n3 h1 h2 h3 h4 kp
        obtain ⟨G2, x2, I2, gp⟩ := WayW.done (w := ⟨R.base, s0.letters, []⟩) W0 (I1.same s2) ⟨las, g4, g5⟩ (Ext.same s2) hp fw fs fe
        refine ⟨(by show 1 ≤ sizeLine; decide), fun l hl => ?_⟩
        have s3 := same_new hl (.lst [.ref p])
        have I3 := I2.new hl (.lst [.ref p])
        have x3 := x2.trans (Ext.same s3)
        have hk3 := s3 _ _ (s2 _ _ hk)
        obtain ⟨y1, I4, hw, np⟩ := I3.putWays (as := [p]) (R := R) (x2.le _ _ m3) hk3 upd_same (I2.fresh hl) (Same.free I2.sF hl) (by rw [ew]; exact .cons gp .nil) hCW hmem hbl hll hzw
        have hm2 := I3.frz (x2.le _ _ m1)
        have et := (x3.tmp e1 gt).1
        refine ⟨_, rfl, _, _, _, _, _, rfl, hm2, T.c_Stretches, T.n_Stretches_made_ways, F_Stretches_made_ways, _, rfl, _, _, rfl, DPut.t (k := kS (k, lo, hi)) hk3 et y1, ?_⟩
        obtain ⟨kvs3, f1, f2, f3, f4, f5⟩ := fin _ _ G2 l [p] kvs rfl hk3 I4 x3 (I2.fresh hl) (Same.free s1 (Same.free s2 hl)) np hw
        have g := DGet.t (k := kS (k, lo, hi)) f1 f2
        rw [f3] at g
        exact ⟨_, rfl, _, _, _, _, _, rfl, f4, T.c_Stretches, T.n_Stretches_made_ways, F_Stretches_made_ways, _, rfl, _, _, rfl, g, f5⟩
      · have c3 : ¬ lo = R.base := fun z => c2 (by show V.int (lo : Int) = V.int ((R.base : Nat) : Int); rw [z])
        rw [if_neg c3] at ew
        refine ⟨(by show 0 ≤ sizeLine; decide), fun p hp => ?_⟩
        have s2 := same_new hp (.lst [])
        have I2 := I1.new hp (.lst [])
        have hk2 := s2 _ _ hk
        obtain ⟨z1, I3, hw, np⟩ := I2.putWays (as := []) m3 hk2 upd_same (I1.fresh hp) (Same.free I1.sF hp) (by rw [ew]; exact .nil) hCW hmem hbl hll hzw
        have hm2 := s2 _ _ hm1
        refine ⟨_, rfl, _, _, _, _, _, rfl, hm2, T.c_Stretches, T.n_Stretches_made_ways, F_Stretches_made_ways, _, rfl, _, _, rfl, DPut.t (k := kS (k, lo, hi)) hk2 (s2 _ _ e1) z1, ?_⟩
        obtain ⟨kvs3, f1, f2, f3, f4, f5⟩ := fin _ _ G p [] kvs rfl hk2 I3 (Ext.same s2) (I1.fresh hp) (Same.free s1 hp) np hw
        have g := DGet.t (k := kS (k, lo, hi)) f1 f2
        rw [f3] at g
        exact ⟨_, rfl, _, _, _, _, _, rfl, f4, T.c_Stretches, T.n_Stretches_made_ways, F_Stretches_made_ways, _, rfl, _, _, rfl, g, f5⟩
end
end Sn
/-! reading: the ways of a stretch -/
namespace Sn
open PySem PySem.Spec PyProof.Rows L2
open SpecMath (Good)
theorem rising_pw : ∀ {l : List Nat}, Sw64.rising l = true → l.Pairwise (· < ·)
  | [], _ => .nil
  | _ :: _, h => .cons (SpecMath.rising_lt h) (rising_pw (SpecMath.rising_tail h))
theorem rising_ix {s : Sw64.RSet} (h : Sw64.rising (s.map fun r => r.base) = true) {i j : Nat} {X Y : Sw64.Rule} (hi : s[i]? = some X) (hj : s[j]? = some Y) (hl : X.base < Y.base) : i < j := by
  have p := rising_pw h
  rw [List.pairwise_map] at p
  obtain ⟨h1, rfl⟩ := List.getElem?_eq_some_iff.mp hi
  obtain ⟨h2, rfl⟩ := List.getElem?_eq_some_iff.mp hj
  rw [List.pairwise_iff_getElem] at p
  rcases Nat.lt_trichotomy i j with c | c | c
  · exact c
  · subst c; omega
  · have := p j i h2 h1 c; omega
theorem upCnt_ix {s : Sw64.RSet} (h : Sw64.rising (s.map fun r => r.base) = true) {n i : Nat} {X : Sw64.Rule} (hi : s[i]? = some X) : i < upCnt s n ↔ X.base ≤ n := by
  have e := filter_take (n := n) h
  constructor
  · intro c
    have : X ∈ s.take (upCnt s n) := by
      rw [List.mem_iff_getElem?]
      exact ⟨i, by rw [List.getElem?_take, if_pos c]; exact hi⟩
    rw [show upCnt s n = (s.filter fun R => decide (R.base ≤ n)).length from rfl, ← e] at this
    simpa using (List.mem_filter.mp this).2
  · intro c
    have : X ∈ s.filter fun R => decide (R.base ≤ n) := List.mem_filter.mpr ⟨List.mem_of_getElem? hi, by simpa using c⟩
    rw [e] at this
    obtain ⟨j, hj⟩ := List.mem_iff_getElem?.mp this
    rw [List.getElem?_take] at hj
    split at hj
    · rename_i c2
      have c2 : j < upCnt s n := c2
      rcases Nat.lt_trichotomy i j with z | z | z
      · omega
      · omega
      · have p := rising_pw h
        rw [List.pairwise_map, List.pairwise_iff_getElem] at p
        obtain ⟨h1, e1⟩ := List.getElem?_eq_some_iff.mp hi
        obtain ⟨h2, e2⟩ := List.getElem?_eq_some_iff.mp hj
        have := p j i h2 h1 z
        rw [e1, e2] at this
        omega
    · cases hj
theorem upTo_cases {s : Sw64.RSet} (R : Sw64.Rule) : Sw64.upTo s R = Sw64.MOST ∨ ∃ X ∈ s, R.base < X.base ∧ Sw64.upTo s R = X.base - 1 := by
  unfold Sw64.upTo
  cases e : (s.filter fun x => decide (R.base < x.base)).head? with
  | none => exact .inl rfl
  | some X =>
    obtain ⟨h1, h2⟩ := List.mem_filter.mp (List.mem_of_head? e)
    exact .inr ⟨X, h1, by simpa using h2, rfl⟩
theorem meet_ix {S : Sw64.Sets} {y : SKey} {i : Nat} {z : Sw64.Rule × Nat} (h : (meet S y)[i]? = some z) : (S.getD y.1 [])[upCnt (S.getD y.1 []) y.2.1 - 1 + i]? = some z.1 ∧ z.2 = Sw64.upTo (S.getD y.1 []) z.1 ∧ upCnt (S.getD y.1 []) y.2.1 - 1 + i < upCnt (S.getD y.1 []) y.2.2 := by
  unfold meet at h
  rw [List.getElem?_drop, List.getElem?_take] at h
  split at h
  · rename_i c
    unfold withLast at h
    rw [List.getElem?_map, Option.map_eq_some_iff] at h
    obtain ⟨R, h1, rfl⟩ := h
    exact ⟨h1, rfl, c⟩
  · cases h
theorem meet_facts {S : Sw64.Sets} (G : Good S) {y : SKey} (hlh : y.2.1 ≤ y.2.2) (hM : y.2.2 ≤ Sw64.MOST) {z : Sw64.Rule × Nat} (h : z ∈ meet S y) :
    z.1 ∈ S.getD y.1 [] ∧ z.2 = Sw64.upTo (S.getD y.1 []) z.1 ∧ z.1.base ≤ y.2.2 ∧ y.2.1 ≤ z.2 ∧ z.1.base ≤ z.2 := by
  obtain ⟨i, hi⟩ := List.mem_iff_getElem?.mp h
  obtain ⟨h1, h2, h3⟩ := meet_ix hi
  have hr := G.rising y.1
  have hb := (upCnt_ix hr h1).mp h3
  refine ⟨List.mem_of_getElem? h1, h2, hb, ?_, ?_⟩
  · rw [h2]
    rcases upTo_cases (s := S.getD y.1 []) z.1 with e | ⟨X, hX, hl, e⟩
    · omega
    · rw [e]
      obtain ⟨j, hj⟩ := List.mem_iff_getElem?.mp hX
      have h5 := rising_ix hr h1 hj hl
      have h6 : ¬ X.base ≤ y.2.1 := fun c => by
        have := (upCnt_ix hr hj).mpr c
        omega
      omega
  · rw [h2]
    rcases upTo_cases (s := S.getD y.1 []) z.1 with e | ⟨X, hX, hl, e⟩
    · omega
    · omega
theorem upTo_le {S : Sw64.Sets} (G : Good S) {k : Nat} {R : Sw64.Rule} : Sw64.upTo (S.getD k []) R ≤ Sw64.MOST := by
  rcases upTo_cases (s := S.getD k []) R with e | ⟨X, hX, hl, e⟩
  · omega
  · have := SpecMath.rule_base (G.rule hX)
    omega
theorem ruleWays_len (R : Sw64.Rule) (lo hi : Nat) : (ruleWays R lo hi).length ≤ 12 := by
  unfold ruleWays
  split
  · refine Nat.le_trans (flatMap_len (n := 4) fun b _ => Nat.le_trans (flatMap_len (n := 1) fun s _ => boxWays_len _ _ _) (by have := shapes_len R.pieces; omega)) ?_
    have := boxes_len R.by_ lo hi
    omega
  · split <;> simp
structure RCok (c : RC) (A : Ad) : Prop where
  at_ : SetsAt A c.F c.F c.st c.S
  G : Good c.S
  h8 : c.S.length = 8
  cl : ∀ y ∈ c.C, ∀ z ∈ meet c.S y, rKey y z ∈ c.CW
  cw : ∀ y ∈ c.C, ∀ w ∈ waysIn c.S y, ∀ s ∈ w.slots, s.2 ∈ c.C
  ok : ∀ y ∈ c.C, y.1 < 8 ∧ y.2.1 ≤ y.2.2 ∧ y.2.2 ≤ Sw64.MOST
  zC : c.C.length < sizeLine
  zW : c.CW.length < sizeLine
  tx : c.txt.length ≤ 300
section
variable {P : Program} {w : World} {K : PySem.W.Frag} {mg : Str → Option Value} {base : Heap} {A : Ad}
def spWaysIn (A : Ad) : Sp := fun vs H Q _ => ∃ (c : RC) (G : Gh) (x : Option (Addr × V)) (ms sa : Addr) (y : SKey), vs = [.ref ms, .ref sa] ∧ RCok c A ∧ RInv c A G x H ∧ MadeAt c A G ms ∧ G sa = some (.str y) ∧ y ∈ c.C ∧
  ∀ H' G' p as, Ext G G' H H' → RInv c A G' x H' → H p = none → G' p = none → H' p = some (.lst (refs as)) → All2 (fun a w => G' a = some (.way w)) as (waysIn c.S y) → Q (.ref p) H'
/-- a stretch's own attributes -/
theorem RInv.strAt {c : RC} {G : Gh} {x : Option (Addr × V)} {H : Hp} (I : RInv c A G x H) {a : Addr} {y : SKey} (h : G a = some (.str y)) : ∃ dx wv e n, H a = some (.ins A.C_Stretch dx (F_Stretch (.int (y.1 : Nat)) (.int (y.2.1 : Nat)) (.int (y.2.2 : Nat)) wv (.ref e) (.ref n))) ∧ G e = some (.ke y) ∧ G n = some (.kn y) :=
  let ⟨dx, wv, e, n, h1, h2, h3, _⟩ := I.ok a _ h
  ⟨dx, wv, e, n, h1, h2, h3⟩
theorem ok_Stretches_ways_in (T : Top K mg A) : FnOk P w K mg base CX0 7 A.f_Stretches_ways_in A.d_Stretches_ways_in P_Stretches_ways_in (spWaysIn A) := by
  refine T.F_Stretches_ways_in.ok sc_Stretches_ways_in (fun vs H Q E h => ?_) (fun cdv _ outer s H vs Q E hr h => ⟨_, (pss_cons (ps_set (i := 2) sc_Stretches_ways_in.nd rfl (Or.inl rfl) (pe_ix ix_list (pe_fld (pv 0) rfl) (pe_fld (pv 1) rfl) (fun _ _ => rfl)))
    (pss_cons (ps_set (i := 3) sc_Stretches_ways_in.nd rfl (Or.inl rfl) (pe_callB (call_max2 rfl) (by rfl) T.n_max (by decide +kernel) (pa_cons (pe_op op_sub (pe_call (ok_rules_up_to T) (hr.mono (by omega)) (by rfl) T.g_rules_up_to T.F_rules_up_to.kp (b_rules_up_to T) .nil pass0 (pa_cons (pv 2) (pa_cons (pe_fld (pv 1) rfl) pa_nil))) pe_int) (pa_cons pe_int pa_nil))))
    (pss_cons (ps_set (i := 4) sc_Stretches_ways_in.nd rfl (Or.inl rfl) (pe_lst pa_nil))
    (pss_cons (ps_for PassesOwn.never rfl (pi_list (pe_slice sl_list (pv 2) (po_some (pv 3)) (po_some (pe_call (ok_rules_up_to T) (hr.mono (by omega)) (by rfl) T.g_rules_up_to T.F_rules_up_to.kp (b_rules_up_to T) .nil pass0 (pa_cons (pv 2) (pa_cons (pe_fld (pv 1) rfl) pa_nil)))))) (pg_name (i := 5) sc_Stretches_ways_in.nd rfl (Or.inl rfl))
    (pss_cons (ps_set (i := 6) sc_Stretches_ways_in.nd rfl (Or.inl rfl) (pe_callB (call_max2 rfl) (by rfl) T.n_max (by decide +kernel) (pa_cons (pe_fld (pv 1) rfl) (pa_cons (pe_fld (pv 5) rfl) pa_nil))))
    (pss_cons (ps_set (i := 7) sc_Stretches_ways_in.nd rfl (Or.inl rfl) (pe_callB (call_min2 rfl) (by rfl) T.n_min (by decide +kernel) (pa_cons (pe_fld (pv 1) rfl) (pa_cons (pe_fld (pv 5) rfl) pa_nil))))
    (pss_one (ps_expr (pe_bm PySem.F.plainAttrs_list PySem.F.slot_list_extend PySem.F.type_list_extend mt_extend (pv 4) (pa_cons (pe_meth (pv 0) T.c_Stretches T.M_Stretches_rule_ways (ok_Stretches_rule_ways T) (hr.mono (by omega)) (b_Stretches_rule_ways T) .nil pass0 (pa_cons (pe_fld (pv 1) rfl) (pa_cons (pv 5) (pa_cons (pv 6) (pa_cons (pv 7) pa_nil))))) pa_nil)))))))
    (pss_one (ps_ret (pv 4))))))), ?_⟩)
  · obtain ⟨_, _, _, _, _, _, rfl, _⟩ := h
    rfl
  obtain ⟨c, G, x, ms, sa, y, rfl, R0, I, hM, gs, hy, kQ⟩ := h
  obtain ⟨k8, hlh, hMost⟩ := R0.ok y hy
  obtain ⟨dm, DS, DW, m1, m2, m3⟩ := id hM
  have hm := I.frz m1
  obtain ⟨dxs, wv, e, n, hs, ge, gn⟩ := I.strAt gs
  obtain ⟨ls, lk, hls, hlk, hset, _⟩ := R0.at_.get (k := y.1) (by rw [R0.h8]; exact k8)
  obtain ⟨as, ha1, ha2⟩ := id hset
  have hls' := I.sF _ _ hls
  have hri := R0.G.rising y.1
  generalize hsk : c.S.getD y.1 [] = sk at *
  have hlen : sk.length ≤ 1000 := by
    have := R0.G y.1
    rw [hsk] at this
    unfold Sw64.setOk at this
    simp only [Bool.and_eq_true, decide_eq_true_eq] at this
    have h60 : Sw64.RULES = 60 := rfl
    omega
  refine ⟨_, rfl, _, _, _, _, _, rfl, hm, T.c_Stretches, T.n_Stretches_sets, F_Stretches_sets, _, rfl, _, _, _, _, _, rfl, hs, T.c_Stretch, T.n_Stretch_by, F_Stretch_by, c.st, _, _, _, rfl, rfl, SqL.of hls', atI_nat (refs_get hlk), ?_⟩
  refine ⟨_, rfl, _, rfl, _, _, _, _, _, rfl, hs, T.c_Stretch, T.n_Stretch_low, F_Stretch_low, lk, sk, y.2.1, rfl, hset.mono I.sF, hri, hlen, _, _, rfl, rfl, _, _, rfl, ?_⟩
  refine ⟨(by show 0 ≤ sizeLine; decide), fun D hD => ?_⟩
  have s0 := same_new hD (.lst [])
  have I0 := I.new hD (.lst [])
  have gD : G D = none := I.fresh hD
  have fD : c.F D = none := Same.free I.sF hD
  have hs0 := s0 _ _ hs
  have hF1 : (if (0 : Int) > (upCnt sk y.2.1 : Nat) - 1 then (0 : Int) else (upCnt sk y.2.1 : Nat) - 1) = ((upCnt sk y.2.1 - 1 : Nat) : Int) := by split <;> omega
  refine ⟨_, rfl, _, rfl, _, rfl, _, rfl, _, rfl, _, _, _, _, _, rfl, hs0, T.c_Stretch, T.n_Stretch_high, F_Stretch_high, lk, sk, y.2.2, rfl, hset.mono I0.sF, hri, hlen, ?_⟩
  have hmono : upCnt sk y.2.1 ≤ upCnt sk y.2.2 := by
    unfold upCnt
    rw [← List.countP_eq_length_filter, ← List.countP_eq_length_filter]
    exact List.countP_mono_left fun R _ h => by simp at h ⊢; omega
  have hle : upCnt sk y.2.2 ≤ as.length := by
    rw [set_len ha2]
    exact List.length_filter_le _ _
  refine ⟨_, rfl, lk, _, rfl, SqL.of (I0.sF _ _ ha1), fun p hp => ?_⟩
  have ecut : cutV (refs as) (some (if (0 : Int) > (upCnt sk y.2.1 : Nat) - 1 then (0 : Int) else (upCnt sk y.2.1 : Nat) - 1)) (some ((upCnt sk y.2.2 : Nat) : Int)) = refs ((as.take (upCnt sk y.2.2)).drop (upCnt sk y.2.1 - 1)) := by
    rw [hF1, cut_nat (by rw [refs_length]; exact hle) (by omega)]
    unfold refs
    rw [← List.map_drop, ← List.map_take, List.drop_take]
  have hmas : All2 (RuleAt A c.F) ((as.take (upCnt sk y.2.2)).drop (upCnt sk y.2.1 - 1)) (meet c.S y) := by
    unfold meet
    rw [hsk]
    exact (ha2.take _).drop _
  rw [ecut]
  generalize (as.take (upCnt sk y.2.2)).drop (upCnt sk y.2.1 - 1) = mas at *
  have npD : p ≠ D := fun z => by rw [z, upd_same] at hp; cases hp
  have hpH : H p = none := by rwa [upd_ne npD] at hp
  have s1 : Same (upd H D (.lst [])) (upd (upd H D (.lst [])) p (.lst (refs mas))) := same_new hp _
  have I1 := I0.new hp (.lst (refs mas))
  have hp1 : upd (upd H D (.lst [])) p (.lst (refs mas)) p = some (.lst (refs mas)) := upd_same
  have hD1 : upd (upd H D (.lst [])) p (.lst (refs mas)) D = some (.lst (refs [])) := s1 _ _ upd_same
  have gp : G p = none := I.fresh hpH
  generalize hH1 : upd (upd H D (.lst [])) p (.lst (refs mas)) = H1 at *
  have nD1 : H1 D ≠ none := by rw [hD1]; intro z; cases z
  have hml : mas.length ≤ 1000 := by
    rw [hmas.length]
    unfold meet
    rw [List.length_drop, List.length_take]
    have : (withLast (c.S.getD y.1 [])).length ≤ 1000 := by rw [hsk]; unfold withLast; rw [List.length_map]; exact hlen
    omega
  refine ⟨p, rfl, ⟨_, SqL.of hp1⟩, for_list (K := K) (a := p) (xs := refs mas)
    (fun i σ H' => (∃ v3 v5 v6 v7, σ = [some (.ref ms), some (.ref sa), some (.ref lk), v3, some (.ref D), v5, v6, v7]) ∧ ∃ G', WaysW c A x D G G' H1 H' (((meet c.S y).take i).flatMap fun z => ruleWays z.1 (rKey y z).2.1 (rKey y z).2.2))
    ⟨⟨_, none, none, none, rfl⟩, G, I1, ExtD.rfl, ⟨[], hD1, .nil⟩, gD⟩ ?_ ?_ ?_⟩
  · rintro i σ H' _ ⟨_, G', W⟩
    exact SqL.of (W.ex.kp _ _ npD hp1 gp)
  · rintro i v σ H' hix ⟨⟨v3, v5, v6, v7, rfl⟩, G1, W1⟩
    obtain ⟨ra, z, rfl, hz, hzA⟩ := objs_get hmas hix
    have hzm := List.mem_of_getElem? hz
    obtain ⟨f1, f2, f3, f4, f5⟩ := meet_facts R0.G hlh hMost hzm
    obtain ⟨R, last⟩ := z
    obtain ⟨dxr, lsh, ha, _⟩ := id hzA
    have hs1 := W1.ex.le _ _ gs
    obtain ⟨dxs', wv', e', n', hsA, _, _⟩ := W1.I.strAt hs1
    have ha1' := W1.I.sF _ _ ha
    rw [flatMap_more hz]
    have hl1 : (((meet c.S y).take i).flatMap fun z => ruleWays z.1 (rKey y z).2.1 (rKey y z).2.2).length ≤ 1000 * 12 := by
      refine Nat.le_trans (flatMap_len (n := 12) fun z _ => ruleWays_len _ _ _) (Nat.mul_le_mul_right _ ?_)
      rw [List.length_take]
      have := hmas.length
      omega
    have hl2 := ruleWays_len R (rKey y (R, last)).2.1 (rKey y (R, last)).2.2
    generalize ((meet c.S y).take i).flatMap (fun z => ruleWays z.1 (rKey y z).2.1 (rKey y z).2.2) = ws1 at *
    have M1 := hM.mono W1.ex.le
    obtain ⟨dm', DS', DW', n1, n2, n3⟩ := id M1
    have hm1 := W1.I.frz n1
    have elo : V.int (if ((R.base : Nat) : Int) > (y.2.1 : Int) then ((R.base : Nat) : Int) else (y.2.1 : Int)) = V.int (((rKey y (R, last)).2.1 : Nat) : Int) := max_nat y.2.1 R.base
    have ehi : V.int (if ((last : Nat) : Int) < (y.2.2 : Int) then ((last : Nat) : Int) else (y.2.2 : Int)) = V.int (((rKey y (R, last)).2.2 : Nat) : Int) := min_nat y.2.2 last
    refine ⟨_, rfl, _, _, _, _, _, rfl, hsA, T.c_Stretch, T.n_Stretch_low, F_Stretch_low, _, rfl, _, _, _, _, _, rfl, ha1', T.c_Rule, T.n_Rule_base, F_Rule_base, _, _, rfl, _, rfl, _, _, _, _, _, rfl, hsA, T.c_Stretch, T.n_Stretch_high, F_Stretch_high, _, rfl, _, _, _, _, _, rfl, ha1', T.c_Rule, T.n_Rule_last, F_Rule_last, _, _, rfl, ?_⟩
    obtain ⟨as1, hD2, h2⟩ := W1.at_
    refine ⟨_, rfl, .inl ⟨rfl, _, SqL.of hD2⟩, _, rfl, _, _, _, rfl, hm1, F_Stretches_no_rule_ways, _, rfl, _, _, _, _, _, rfl, hsA, T.c_Stretch, T.n_Stretch_by, F_Stretch_by, _, rfl, _, rfl, _, rfl, ?_⟩
    refine ⟨c, G1, x, ms, ra, R, last, y.1, (rKey y (R, last)).2.1, (rKey y (R, last)).2.2, ?_, W1.I, M1, hzA, R0.G.rule f1, R0.cl y hy _ hzm, f1, Nat.le_max_right _ _, ?_, ?_, ?_, ?_, R0.zC, R0.zW, fun H3 G3 l x3 I3 hw => ?_⟩
    · show [V.ref ms, V.int (y.1 : Nat), V.ref ra, _, _] = _
      exact (congrArg (fun a => [V.ref ms, V.int (y.1 : Nat), V.ref ra, a, _]) elo).trans (congrArg (fun b => [V.ref ms, V.int (y.1 : Nat), V.ref ra, _, b]) ehi)
    · rw [← f2]; exact Nat.max_le.mpr ⟨f4, f5⟩
    · exact Nat.max_le.mpr ⟨Nat.le_min.mpr ⟨hlh, f4⟩, Nat.le_min.mpr ⟨f3, f5⟩⟩
    · intro R' h1 h2 h3
      have hmx : (rKey y (R, last)).2.1 ≤ Sw64.MOST := Nat.max_le.mpr ⟨by omega, SpecMath.rule_base (R0.G.rule f1)⟩
      have a1 := (SpecMath.ruleFor_iff (n := (rKey y (R, last)).2.1) (R0.G.rising y.1) hmx (R := R')).mpr ⟨h1, h2, h3⟩
      have a2 := (SpecMath.ruleFor_iff (n := (rKey y (R, last)).2.1) (R0.G.rising y.1) hmx (R := R)).mpr ⟨f1, Nat.le_max_right _ _, by rw [← f2]; exact Nat.max_le.mpr ⟨f4, f5⟩⟩
      rw [a1] at a2
      exact Option.some.inj a2
    · intro w hw s hs
      exact R0.cw y hy w (List.mem_flatMap.mpr ⟨_, hzm, hw⟩) s hs
    · have W3 := W1.next gD nD1 x3 I3
      obtain ⟨as3, hD3, h3⟩ := W3.at_
      obtain ⟨las, hl, hl3⟩ := hw
      have la1 : as3.length ≤ 12000 := by rw [h3.length]; exact hl1
      have la2 : las.length ≤ 12 := by rw [hl3.length]; exact hl2
      refine ⟨D, l, _, _, rfl, rfl, hD3, I3.frz hl, (by rw [refs_length, refs_length, sizeLine_eq]; omega), ?_⟩
      exact ⟨⟨_, _, _, _, rfl⟩, G3, W3.push fD hD3 h3 hl3⟩
  · rintro σ H' ⟨⟨v3, v5, v6, v7, rfl⟩, G1, W1⟩
    have e : (meet c.S y).take (refs mas).length = meet c.S y := by rw [refs_length, hmas.length, List.take_length]
    rw [e] at W1
    obtain ⟨as1, h1, h2⟩ := W1.at_
    exact ⟨_, rfl, kQ H' G1 D as1 (W1.ex.ext (s0.trans s1) hD) W1.I hD W1.gD h1 h2⟩
end
end Sn
/-! bits of whole numbers: the lowest one -/
namespace Sn
theorem odd_part : ∀ m : Nat, 0 < m → ∃ j t, m = 2 ^ j * (2 * t + 1) := by
  intro m
  induction m using Nat.strongRecOn with
  | ind m ih =>
    intro h
    by_cases c : m % 2 = 1
    · exact ⟨0, m / 2, by omega⟩
    · obtain ⟨j, t, e⟩ := ih (m / 2) (by omega) (by omega)
      refine ⟨j + 1, t, ?_⟩
      rw [Nat.pow_succ, Nat.mul_assoc, Nat.mul_comm 2, ← Nat.mul_assoc, ← e]
      omega
theorem tb_odd (t k : Nat) : (2 * t + 1).testBit k = (decide (k = 0) || t.testBit (k - 1)) ∧ (2 * t).testBit k = (!decide (k = 0) && t.testBit (k - 1)) := by
  cases k with
  | zero => simp [Nat.testBit_zero]
  | succ k =>
    rw [Nat.testBit_add_one, Nat.testBit_add_one]
    have e1 : (2 * t + 1) / 2 = t := by omega
    have e2 : 2 * t / 2 = t := by omega
    rw [e1, e2]
    simp
theorem tb_shift (j a i : Nat) : (2 ^ j * a).testBit i = (!decide (i < j) && a.testBit (i - j)) := by
  have := Nat.testBit_two_pow_mul_add (i := j) a (b := 0) (Nat.two_pow_pos j) i
  rw [Nat.add_zero] at this
  rw [this]
  split <;> rename_i c <;> simp [c]
/-- the lowest bit, and what is left without it -/
theorem low_bit {m : Nat} (h : 0 < m) : ∃ j, m.testBit j = true ∧ (∀ i, i < j → m.testBit i = false) ∧ m ^^^ (m &&& (m - 1)) = 2 ^ j ∧ (m &&& (m - 1)) < m ∧ ∀ i, (m &&& (m - 1)).testBit i = (m.testBit i && !decide (i = j)) := by
  obtain ⟨j, t, e⟩ := odd_part m h
  have p := Nat.two_pow_pos j
  have e1 : m - 1 = 2 ^ j * (2 * t) + (2 ^ j - 1) := by
    rw [e, Nat.mul_add, Nat.mul_one]; omega
  have b0 : ∀ i, m.testBit i = (!decide (i < j) && (decide (i - j = 0) || t.testBit (i - j - 1))) := fun i => by rw [e, tb_shift, (tb_odd t (i - j)).1]
  have b1 : ∀ i, (m - 1).testBit i = (decide (i < j) || (!decide (i - j = 0) && t.testBit (i - j - 1))) := fun i => by
    rw [e1, Nat.testBit_two_pow_mul_add _ (by omega), Nat.testBit_two_pow_sub_one, (tb_odd t (i - j)).2]
    split <;> rename_i c <;> simp [c]
  have b2 : ∀ i, (m &&& (m - 1)).testBit i = (m.testBit i && !decide (i = j)) := fun i => by
    rw [Nat.testBit_and, b0, b1]
    by_cases c : i < j
    · simp [c]
    · by_cases c2 : i = j
      · subst c2; simp
      · have : ¬ i - j = 0 := by omega
        simp [c, c2, this]
  refine ⟨j, ?_, fun i hi => ?_, ?_, ?_, b2⟩
  · rw [b0]; simp
  · rw [b0]; simp [hi]
  · refine Nat.eq_of_testBit_eq fun i => ?_
    rw [Nat.testBit_xor, b2, Nat.testBit_two_pow]
    by_cases c : i = j
    · subst c; rw [b0]; simp
    · have : ¬ j = i := fun z => c z.symm
      simp [c, this]
  · have : m &&& (m - 1) ≤ m - 1 := Nat.and_le_right
    omega
def placesOf (B m : Nat) : List Nat := (List.range B).filter fun i => m.testBit i
theorem range_skip {p : Nat → Bool} {i : Nat} : ∀ {j : Nat}, i ≤ j → (∀ b, i ≤ b → b < j → p b = false) → (List.range j).filter p = (List.range i).filter p
  | 0, h, _ => by
    have : i = 0 := by omega
    subst this; rfl
  | j + 1, h, hp => by
    by_cases c : i = j + 1
    · subst c; rfl
    · have := range_skip (p := p) (i := i) (j := j) (by omega) fun b h1 h2 => hp b h1 (by omega)
      rw [List.range_succ, List.filter_append, this, List.filter_cons_of_neg (by rw [hp j (by omega) (by omega)]; decide), List.filter_nil, List.append_nil]
theorem range_next {p : Nat → Bool} {i j : Nat} (h : i ≤ j) (hp : ∀ b, i ≤ b → b < j → p b = false) (hj : p j = true) : (List.range (j + 1)).filter p = (List.range i).filter p ++ [j] := by
  rw [List.range_succ, List.filter_append, range_skip h hp, List.filter_cons_of_pos hj, List.filter_nil]
theorem mem_placesOf {B m i : Nat} (h : m < 2 ^ B) : i ∈ placesOf B m ↔ m.testBit i = true := by
  unfold placesOf
  rw [List.mem_filter, List.mem_range]
  constructor
  · exact fun h => h.2
  · intro q
    refine ⟨?_, q⟩
    rcases Nat.lt_or_ge i B with c | c
    · exact c
    · have := Nat.testBit_lt_two_pow (x := m) (i := i) (Nat.lt_of_lt_of_le h (Nat.pow_le_pow_right (by decide) c))
      rw [this] at q; cases q
theorem placesOf_nodup (B m : Nat) : (placesOf B m).Nodup := List.Nodup.sublist List.filter_sublist List.nodup_range
theorem log2_two_pow (j : Nat) : Nat.log2 (2 ^ j) = j := by
  have h := Nat.two_pow_pos j
  refine Nat.le_antisymm ?_ ?_
  · have := (Nat.log2_lt (n := 2 ^ j) (k := j + 1) (by omega)).mpr (by rw [Nat.pow_succ]; omega)
    omega
  · exact (Nat.le_log2 (by omega)).mpr (Nat.le_refl _)
end Sn
/-! reading: places in masks -/
namespace Sn
open PySem PySem.Spec PyProof.Rows L2
section
variable {P : Program} {w : World} {K : PySem.W.Frag} {mg : Str → Option Value} {base : Heap} {A : Ad}
def spPlaces : Sp := fun vs H Q _ => ∃ (m B : Nat), vs = [.int (m : Int)] ∧ m < 2 ^ B ∧ B ≤ 1000 ∧ ∀ H' p, Same H H' → H p = none → H' p = some (.lst (nums (placesOf B m))) → Q (.ref p) H'
theorem bits_two_pow (j : Nat) : Builtin.Int.intBits ((2 ^ j : Nat) : Int) = j + 1 := by
  have h := Nat.two_pow_pos j
  rw [Builtin.Int.intBits, if_neg (fun z => Nat.ne_of_gt h (Int.natCast_eq_zero.mp (eq_of_beq z))), Int.natAbs_natCast, log2_two_pow]
theorem ok_places_of (T : Top K mg A) : FnOk P w K mg base CX0 1 A.f_places_of A.d_places_of P_places_of spPlaces := by
  refine T.F_places_of.ok sc_places_of (fun vs H Q E h => ?_) (fun cdv _ outer s H vs Q E hr h => ⟨_, (pss_cons (ps_set (i := 1) sc_places_of.nd rfl (Or.inl rfl) (pe_lst pa_nil))
    (pss_cons (ps_while PassesOwn.never (pt_cmpR op_gt (pv 0) pe_int (nomark _))
    (pss_cons (ps_set (i := 2) sc_places_of.nd rfl (Or.inl rfl) (pe_op op_andN (pv 0) (pe_op op_sub (pv 0) pe_int)))
    (pss_cons (ps_expr (pe_bm PySem.F.plainAttrs_list PySem.F.slot_list_append PySem.F.type_list_append mt_append (pv 1) (pa_cons (pe_op op_sub (pe_bits (pe_op op_xorN (pv 0) (pv 2))) pe_int) pa_nil)))
    (pss_one (ps_set (i := 0) sc_places_of.nd rfl (Or.inl rfl) (pv 2))))))
    (pss_one (ps_ret (pv 1))))), ?_⟩)
  · obtain ⟨_, _, rfl, _⟩ := h
    rfl
  obtain ⟨m0, B, rfl, hB, hB1, k⟩ := h
  refine ⟨(by show 0 ≤ sizeLine; decide), fun D hD => ?_⟩
  have s0 := same_new hD (.lst [])
  refine ⟨fun n σ H' => ∃ (i mask : Nat) (v2 : Option V), σ = [some (.int (mask : Int)), some (.ref D), v2] ∧ mask = n ∧ Same H H' ∧ H' D = some (.lst (nums ((List.range i).filter fun b => m0.testBit b))) ∧ i ≤ B ∧ ∀ b, mask.testBit b = (decide (i ≤ b) && m0.testBit b),
    ⟨m0, 0, m0, none, rfl, rfl, s0, upd_same, Nat.zero_le _, fun b => by simp⟩, ?_⟩
  rintro n σ H' ⟨i, mask, v2, rfl, rfl, s1, hD1, hi, hb⟩
  refine ⟨_, rfl, _, _, rfl, rfl, _, rfl, ?_⟩
  refine split_dec (fun c => ?_) (fun c => ?_)
  · have c : 0 < mask := by omega
    obtain ⟨j, h1, h2, h3, h4, h5⟩ := low_bit c
    have hj := hb j
    rw [h1] at hj
    have hj2 : i ≤ j ∧ m0.testBit j = true := by simpa using hj.symm
    have hjB : j < B := by
      rcases Nat.lt_or_ge j B with z | z
      · exact z
      · have := Nat.testBit_lt_two_pow (x := m0) (i := j) (Nat.lt_of_lt_of_le hB (Nat.pow_le_pow_right (by decide) z))
        rw [this] at hj2; cases hj2.2
    have hr := range_next (p := fun b => m0.testBit b) hj2.1 (fun b q1 q2 => by
      have := h2 b q2
      rw [hb b] at this
      simpa [q1] using this) hj2.2
    refine ⟨fun σ' H' => ∃ m', m' < mask ∧ _, fun _ _ z => z, ?_⟩
    refine ⟨_, rfl, _, rfl, _, _, rfl, rfl, mask, mask - 1, rfl, (by show V.int ((mask : Int) - 1) = _; congr 1; omega), ?_⟩
    refine ⟨_, rfl, .inl ⟨rfl, _, SqL.of hD1⟩, _, rfl, _, rfl, mask, mask &&& (mask - 1), rfl, rfl, _, rfl, _, _, rfl, rfl, D, _, _, rfl, rfl, hD1, ?_, ?_⟩
    · rw [nums_length, sizeLine_eq]
      have := List.length_filter_le (fun b => m0.testBit b) (List.range i)
      rw [List.length_range] at this
      omega
    refine ⟨_, rfl, mask &&& (mask - 1), h4, j + 1, mask &&& (mask - 1), _, rfl, rfl, Same.upd_new s1 hD, ?_, hjB, fun b => ?_⟩
    · have eb : ((Builtin.Int.intBits ((mask ^^^ (mask &&& (mask - 1)) : Nat) : Int) : Nat) : Int) - 1 = (j : Int) := by
        rw [h3, bits_two_pow]; omega
      rw [upd_same, hr, nums_append]
      show some (HO.lst (_ ++ [V.int (((Builtin.Int.intBits ((mask ^^^ (mask &&& (mask - 1)) : Nat) : Int) : Nat) : Int) - 1)])) = _
      rw [eb] <;> rfl
    · rw [h5, hb]
      by_cases z : b = j
      · subst z
        have : ¬ b + 1 ≤ b := by omega
        simp [this]
      · by_cases z2 : i ≤ b
        · by_cases z3 : j + 1 ≤ b
          · simp [z, z2, z3]
          · have := h2 b (by omega)
            rw [hb] at this
            have h6 : m0.testBit b = false := by simpa [z2] using this
            simp [h6]
        · have : ¬ j + 1 ≤ b := by omega
          simp [z2, this]
  · have c : mask = 0 := by omega
    subst c
    refine ⟨_, rfl, k H' D s1 hD ?_⟩
    rw [hD1]
    unfold placesOf
    rw [range_skip hi fun b q1 q2 => ?_]
    have := hb b
    rw [Nat.zero_testBit] at this
    simpa [q1] using this.symm
def spHas : Sp := fun vs H Q _ => ∃ (m p : Nat), vs = [.int (m : Int), .int (p : Int)] ∧ Q (.bl (m.testBit p)) H
theorem tb_dec (m p : Nat) : decide (V.int ((m >>> p &&& 1 : Nat) : Int) = V.int 1) = m.testBit p := by
  have e : decide (V.int ((m >>> p &&& 1 : Nat) : Int) = V.int ((1 : Nat) : Int)) = decide (m >>> p &&& 1 = 1) := vint_eq _ _
  refine e.trans ?_
  rw [Nat.testBit, Nat.and_comm]
  have : 1 &&& m >>> p = (m >>> p) % 2 := by rw [Nat.and_comm, Nat.and_one_is_mod]
  rw [this]
  rcases Nat.mod_two_eq_zero_or_one (m >>> p) with h | h <;> rw [h] <;> rfl
theorem ok_has_place (T : Top K mg A) : FnOk P w K mg base CX0 1 A.f_has_place A.d_has_place P_has_place spHas := by
  refine T.F_has_place.ok sc_has_place (fun vs H Q E h => ?_) (fun cdv _ outer s H vs Q E hr h => ⟨_, (pss_one (ps_ret (pe_cmpR op_eq (pe_op op_andN (pe_op op_shrNN (pv 0) (pv 1)) pe_int) pe_int (nomark _)))), ?_⟩)
  · obtain ⟨_, _, rfl, _⟩ := h
    rfl
  obtain ⟨m, p, rfl, k⟩ := h
  refine ⟨_, rfl, _, rfl, m, p, rfl, rfl, m >>> p, 1, rfl, rfl, rfl, ?_⟩
  have := k
  rw [← tb_dec] at this
  exact this
end
end Sn
/-! reading: a reading made, masks of letters -/
namespace Sn
open PySem PySem.Spec PyProof.Rows L2
theorem pre_snoc (x : UInt8) : ∀ (p d : Sw64.Bytes), (p ++ [x]).isPrefixOf d = (p.isPrefixOf d && decide (d[p.length]? = some x))
  | [], [] => by simp
  | [], y :: d => by
    simp only [List.nil_append, List.isPrefixOf, Bool.and_true, List.length_nil, List.getElem?_cons_zero, Option.some.injEq, Bool.true_and]
    by_cases h : x = y
    · subst h; simp
    · have : ¬ y = x := fun z => h z.symm
      simp [h, this]
  | _ :: _, [] => by simp
  | y :: p, z :: d => by
    have ih := pre_snoc x p d
    simp only [List.cons_append, List.isPrefixOf, List.length_cons, List.getElem?_cons_succ, ih, Bool.and_assoc]
/-- a mask for each byte -/
def bMask (txt : Sw64.Bytes) (b : UInt8) (n : Nat) : Nat := bmk (fun i => decide (txt[i]? = some b)) n
def bKey (b : UInt8) : L2.Key := Sum.inl ((b.toNat : Nat) : Int)
theorem bKey_inj {a b : UInt8} (h : bKey a = bKey b) : a = b := by
  injection h with h
  exact UInt8.toNat_inj.mp (by omega)
structure BMok (txt : Sw64.Bytes) (kvs : List (L2.Key × V)) (n : Nat) : Prop where
  d : DOk kvs fun k _ => ∃ b, k = bKey b
  m : ∀ b, (valV kvs (bKey b)).getD (.int 0) = .int (bMask txt b n : Nat)
theorem byte_toNat (n : Nat) (h : n < 256) : ∃ b : UInt8, b.toNat = n := ⟨UInt8.ofNat n, by simp; omega⟩
theorem BMok.len {txt : Sw64.Bytes} {kvs : List (L2.Key × V)} {n : Nat} (h : BMok txt kvs n) : kvs.length ≤ 256 := by
  have := h.d.len ((List.range 256).map fun n => (Sum.inl ((n : Nat) : Int) : L2.Key)) fun k _ ⟨b, e⟩ => by
    rw [e]
    exact List.mem_map.mpr ⟨b.toNat, List.mem_range.mpr (UInt8.toNat_lt b), rfl⟩
  simpa using this
theorem BMok.nil (txt : Sw64.Bytes) : BMok txt [] 0 := ⟨DOk.nil, fun b => rfl⟩
theorem BMok.put {txt : Sw64.Bytes} {kvs : List (L2.Key × V)} {n : Nat} {b : UInt8} (h : BMok txt kvs n) (hb : txt[n]? = some b) : BMok txt (putK kvs (bKey b) (.int (bMask txt b n ||| 1 <<< n : Nat))) (n + 1) := by
  refine ⟨h.d.set ⟨b, rfl⟩, fun a => ?_⟩
  rw [valV_put]
  by_cases c : a = b
  · subst c
    rw [if_pos rfl]
    show V.int _ = V.int _
    congr 2
    refine (congrArg (bMask txt a n ||| ·) ?_).trans (rfl : _ = bmk _ (n + 1))
    rw [if_pos (by simpa using hb), Nat.shiftLeft_eq, Nat.one_mul]
  · rw [if_neg (fun z => c (bKey_inj z)), h.m a]
    congr 2
    show bMask txt a n = bmk _ n ||| _
    rw [if_neg (by simp [hb]; exact fun z => c z.symm), Nat.or_zero]
    rfl
def ReadAt (c : RC) (A : Ad) (G : Gh) (rd : Addr) : Prop := ∃ dx ms bm kvs, G rd = some (.frz (.ins A.C_Reading dx (F_Reading (.ref ms) (.int (c.txt.length : Nat)) (.ref bm)))) ∧ G bm = some (.frz (.dK kvs)) ∧ BMok c.txt kvs c.txt.length ∧ MadeAt c A G ms
theorem ReadAt.mono {c : RC} {A : Ad} {G G' : Gh} {m : Addr} (h : ReadAt c A G m) (e : Le G G') : ReadAt c A G' m :=
  let ⟨dx, ms, bm, kvs, h1, h2, h3, h4⟩ := h
  ⟨dx, ms, bm, kvs, e _ _ h1, e _ _ h2, h3, h4.mono e⟩
section
variable {P : Program} {w : World} {K : PySem.W.Frag} {mg : Str → Option Value} {base : Heap} {A : Ad}
theorem bnums_get {t : Sw64.Bytes} {i : Nat} {v : V} (h : (bnums t)[i]? = some v) : ∃ b : UInt8, t[i]? = some b ∧ v = .int ((b.toNat : Nat) : Int) := by
  unfold bnums at h
  obtain ⟨n, h1, h2⟩ := nums_getx h
  rw [List.getElem?_map, Option.map_eq_some_iff] at h1
  obtain ⟨b, h3, h4⟩ := h1
  exact ⟨b, h3, by rw [h2, ← h4]⟩
def spReading_init (A : Ad) (K : PySem.W.Frag) : Sp := fun vs H Q _ => ∃ (p dx st tl : Addr) (txt : Sw64.Bytes), vs = [.ref p, .ref st, .ref tl] ∧ H p = some (.ins A.C_Reading dx []) ∧ H tl = some (.lst (bnums txt)) ∧ txt.length ≤ 300 ∧
  ∀ H' ms dm DS DW bm kvs, H ms = none → H DS = none → H DW = none → H bm = none → DS ≠ DW → ms ≠ p → H' p = some (.ins A.C_Reading dx (F_Reading (.ref ms) (.int (txt.length : Nat)) (.ref bm))) → H' ms = some (.ins A.C_Stretches dm (F_Stretches (.ref st) (.ref DS) (.ref DW))) →
    H' DS = some (.dT []) → H' DW = some (.dT []) → H' bm = some (.dK kvs) → BMok txt kvs txt.length → (∀ b o, H b = some o → b ≠ p → H' b = some o) → Q .non H'
theorem ok_Reading_init (T : Top K mg A) : FnOk P w K mg base CX0 3 A.f_Reading_init A.d_Reading_init P_Reading_init (spReading_init A K) := by
  refine T.F_Reading_init.ok sc_Reading_init (fun vs H Q E h => ?_) (fun cdv _ outer s H vs Q E hr h => ?_)
  · obtain ⟨_, _, _, _, _, rfl, _⟩ := h
    rfl
  have hu := hu_of hr
  refine ⟨_, (pss_cons (ps_fld (pv 0) (pe_make T.m_Stretches (ok_Stretches_init T) (hr.mono (by omega)) (by rfl) T.g_Stretches (b_Stretches_init T) .nil pass0 (pa_cons (pv 1) pa_nil)) rfl)
    (pss_cons (ps_fld (pv 0) (pe_callB call_len_seq (by rfl) T.n_len PySem.boot_len (pa_cons (pv 2) pa_nil)) rfl)
    (pss_cons (ps_fld (pv 0) pe_dnewK rfl)
    (pss_one (ps_for PassesOwn.never rfl (pi_enum (by rfl) T.n_enumerate (pa_cons (pv 2) pa_nil)) (pg_tup rfl (pgs_cons (pg_name (i := 3) sc_Reading_init.nd rfl (Or.inl rfl)) (pgs_cons (pg_name (i := 4) sc_Reading_init.nd rfl (Or.inl rfl)) pgs_nil)))
    (pss_one (ps_dput hu (pe_fld (pv 0) rfl) (pv 4) (pe_op op_orN (pe_dget2 hu (pe_fld (pv 0) rfl) (pv 4) pe_int ⟨by rfl, by rfl, by rfl, by rfl⟩) (pe_op op_shlNN pe_int (pv 3))) rfl))))))), ?_⟩
  obtain ⟨p, dx, st, tl, txt, rfl, hp, hT, ht, k⟩ := h
  have htp : tl ≠ p := ne_of hT hp (by intro z; cases z)
  refine ⟨_, rfl, fun ms dm hms hdm nmd => ⟨ms, dm, _, rfl, upd_same, fun H1 DS DW f1 f2 n1 h1 h2 h3 kp => ⟨rfl, ?_⟩⟩⟩
  have s1 : Same H H1 := fun b o q => kp b o ((upd_ne (ne_of_none q hms)).trans ((upd_ne (ne_of_none q hdm)).trans q)) (ne_of_none q hms)
  have fr : ∀ {b : Addr}, upd (upd H dm (.own ms)) ms (.ins A.C_Stretches dm []) b = none → H b = none := fun {b} q => by
    have n1 : b ≠ ms := fun z => by rw [z, upd_same] at q; cases q
    rw [upd_ne n1] at q
    have n2 : b ≠ dm := fun z => by rw [z, upd_same] at q; cases q
    rwa [upd_ne n2] at q
  have nmp : ms ≠ p := fun z => by rw [z, hp] at hms; cases hms
  have hp1 := s1 _ _ hp
  refine ⟨_, rfl, _, _, _, _, rfl, hp1, T.c_Reading, T.n_Reading_made, (by decide), ?_⟩
  rw [F_Reading_ini_made]
  refine ⟨_, rfl, tl, _, rfl, .inl (SqL.of ((upd_ne htp).trans (s1 _ _ hT))), ?_⟩
  refine ⟨_, rfl, p, A.C_Reading, dx, _, rfl, upd_same, T.c_Reading, T.n_Reading_size, (by show 1 < 1000; decide), ?_⟩
  rw [upd_upd, F_Reading_ini_size, bnums_length]
  refine fun bm hbm => ?_
  have nbp : bm ≠ p := fun z => by rw [z, upd_same] at hbm; cases hbm
  refine ⟨_, rfl, p, A.C_Reading, dx, _, rfl, (upd_ne nbp.symm).trans upd_same, T.c_Reading, T.n_Reading_byte_masks, (by show 2 < 1000; decide), ?_⟩
  rw [F_Reading_ini_byte_masks]
  rw [show ([("made", V.ref ms), ("size", V.int (txt.length : Nat)), ("byte_masks", V.ref bm)] : List (Str × V)) = F_Reading (.ref ms) (.int (txt.length : Nat)) (.ref bm) from rfl]
  have fbm1 : H1 bm = none := by rwa [upd_ne nbp] at hbm
  have kp2 : ∀ {b : Addr} {o : HO}, H1 b = some o → b ≠ p → upd (upd (upd H1 p (.ins A.C_Reading dx [("made", V.ref ms), ("size", V.int (txt.length : Nat))])) bm (.dK [])) p (.ins A.C_Reading dx (F_Reading (.ref ms) (.int (txt.length : Nat)) (.ref bm))) b = some o := fun {b o} q n => by
    rw [upd_ne n, upd_ne (ne_of_none q fbm1), upd_ne n]; exact q
  have hpR : upd (upd (upd H1 p (.ins A.C_Reading dx [("made", V.ref ms), ("size", V.int (txt.length : Nat))])) bm (.dK [])) p (.ins A.C_Reading dx (F_Reading (.ref ms) (.int (txt.length : Nat)) (.ref bm))) p = some (.ins A.C_Reading dx (F_Reading (.ref ms) (.int (txt.length : Nat)) (.ref bm))) := upd_same
  have hbR : upd (upd (upd H1 p (.ins A.C_Reading dx [("made", V.ref ms), ("size", V.int (txt.length : Nat))])) bm (.dK [])) p (.ins A.C_Reading dx (F_Reading (.ref ms) (.int (txt.length : Nat)) (.ref bm))) bm = some (.dK []) := (upd_ne nbp).trans upd_same
  generalize upd (upd (upd H1 p (.ins A.C_Reading dx [("made", V.ref ms), ("size", V.int (txt.length : Nat))])) bm (.dK [])) p (.ins A.C_Reading dx (F_Reading (.ref ms) (.int (txt.length : Nat)) (.ref bm))) = H2 at *
  have hT2 := kp2 (s1 _ _ hT) htp
  have ntb : tl ≠ bm := ne_of hT2 hbR (by intro z; cases z)
  refine ⟨_, rfl, tl, _, rfl, SqL.of hT2, for_it (walk_enum (K := K) (a := tl) (xs := bnums txt))
    (fun j σ H' => (∃ v3 v4, σ = [some (.ref p), some (.ref st), some (.ref tl), v3, v4]) ∧ (∀ b o, H2 b = some o → b ≠ bm → H' b = some o) ∧ ∃ kvs, H' bm = some (.dK kvs) ∧ BMok txt kvs j)
    ⟨⟨none, none, rfl⟩, fun _ _ h _ => h, [], hbR, BMok.nil _⟩ (fun j σ H' _ q => SqL.of (q.2.1 _ _ hT2 ntb)) ?_ ?_⟩
  · rintro j v σ H3 H4 hj ⟨⟨v3, v4, rfl⟩, k3, kvs, hb3, B3⟩ ⟨tp, x, y, rfl, htp', rfl, e1, e2⟩
    have hx : x = .int (j : Nat) := (Option.some.inj e1).symm
    subst hx
    obtain ⟨b, hb, rfl⟩ := bnums_get e2
    rw [bnums_length] at hj
    have s4 := same_new htp' (.tup [.int (j : Nat), .int ((b.toNat : Nat) : Int)])
    have hp4 := s4 _ _ (k3 _ _ hpR nbp.symm)
    have hb4 := s4 _ _ hb3
    have hl := B3.len
    refine ⟨tp, _, rfl, SqT.of upd_same, rfl, _, _, rfl, _, _, rfl, rfl, ?_⟩
    refine ⟨_, rfl, _, _, _, _, _, rfl, hp4, T.c_Reading, T.n_Reading_byte_masks, F_Reading_byte_masks, bm, rfl, .inl ⟨kvs, .inl hb4⟩, _, rfl, _, DGet.k (k := bKey b) hb4, _, rfl, 1, j, rfl, rfl, ⟨1, by decide, by decide, by omega⟩, bMask txt b j, 1 <<< j, B3.m b, rfl, _, rfl, _, _, _, _, _, rfl, hp4, T.c_Reading, T.n_Reading_byte_masks, F_Reading_byte_masks, _, rfl, _, _, rfl, DPut.k (k := bKey b) hb4 (by rw [sizeLine_eq]; omega), ?_⟩
    exact ⟨⟨_, _, rfl⟩, fun a o q n => (upd_ne n).trans (s4 _ _ (k3 a o q n)), _, upd_same, B3.put hb⟩
  · rintro σ H3 ⟨⟨v3, v4, rfl⟩, k3, kvs, hb3, B3⟩
    rw [bnums_length] at B3
    have hms2 : ms ≠ bm := fun z => by rw [← z, h1] at fbm1; cases fbm1
    have kk : ∀ {b : Addr} {o : HO}, H1 b = some o → b ≠ p → H3 b = some o := fun q n => k3 _ _ (kp2 q n) (ne_of_none q fbm1)
    refine k H3 ms dm DS DW bm kvs hms (fr f1) (fr f2) (Same.free s1 fbm1) n1 nmp (k3 _ _ hpR nbp.symm) (kk h1 nmp) (kk h2 ?_) (kk h3 ?_) hb3 B3 fun b o q n => kk (s1 _ _ q) n
    · intro z; rw [z, hp1] at h2; cases h2
    · intro z; rw [z, hp1] at h3; cases h3
def spMaskOf (A : Ad) (K : PySem.W.Frag) : Sp := fun vs H Q _ => ∃ (c : RC) (G : Gh) (x : Option (Addr × V)) (rd la : Addr) (l : Sw64.Bytes), vs = [.ref rd, .ref la] ∧ RInv c A G x H ∧ ReadAt c A G rd ∧ c.txt.length ≤ 300 ∧ BytesAt c.F la l ∧ ∀ H', Same H H' → Q (.int (c.LM l : Nat)) H'
theorem ok_Reading_mask_of (T : Top K mg A) : FnOk P w K mg base CX0 1 A.f_Reading_mask_of A.d_Reading_mask_of P_Reading_mask_of (spMaskOf A K) := by
  refine T.F_Reading_mask_of.ok sc_Reading_mask_of (fun vs H Q E h => ?_) (fun cdv _ outer s H vs Q E hr h => ?_)
  · obtain ⟨_, _, _, _, _, _, rfl, _⟩ := h
    rfl
  have hu := hu_of hr
  refine ⟨_, (pss_cons (ps_set (i := 2) sc_Reading_mask_of.nd rfl (Or.inl rfl) (pe_op op_sub (pe_op op_shlNN pe_int (pe_op op_add (pe_fld (pv 0) rfl) pe_int)) pe_int))
    (pss_cons (ps_for PassesOwn.never rfl (pi_enum (by rfl) T.n_enumerate (pa_cons (pv 1) pa_nil)) (pg_tup rfl (pgs_cons (pg_name (i := 3) sc_Reading_mask_of.nd rfl (Or.inl rfl)) (pgs_cons (pg_name (i := 4) sc_Reading_mask_of.nd rfl (Or.inl rfl)) pgs_nil)))
    (pss_one (ps_aug (i := 2) sc_Reading_mask_of.nd rfl (.inl rfl) (pe_op op_shrNN (pe_dget2 hu (pe_fld (pv 0) rfl) (pv 4) pe_int ⟨by rfl, by rfl, by rfl, by rfl⟩) (pv 3)) ip_and)))
    (pss_one (ps_ret (pv 2))))), ?_⟩
  obtain ⟨c, G, x, rd, la, l, rfl, I, ⟨dx, ms, bm, kvs, r1, r2, B, _⟩, ht, hl, kQ⟩ := h
  have hr1 := I.frz r1
  have hr2 := I.frz r2
  have hl1 := I.sF _ _ hl
  refine ⟨_, rfl, _, _, _, _, _, rfl, hr1, T.c_Reading, T.n_Reading_size, F_Reading_size, _, _, rfl, rfl, 1, c.txt.length + 1, rfl, rfl, ⟨1, by decide, by decide, by omega⟩, _, _, rfl, rfl, ?_⟩
  have e0 : V.int (((1 <<< (c.txt.length + 1) : Nat) : Int) - 1) = V.int ((2 ^ (c.txt.length + 1) - 1 : Nat) : Int) := by
    rw [Nat.shiftLeft_eq, Nat.one_mul]
    exact natsub (b := 1) (Nat.two_pow_pos _)
  refine ⟨_, rfl, la, _, rfl, SqL.of hl1, for_it (walk_enum (K := K) (a := la) (xs := bnums l))
    (fun j σ H' => (∃ v3 v4, ∃ m : Nat, σ = [some (.ref rd), some (.ref la), some (.int (m : Int)), v3, v4] ∧ ∀ a, m.testBit a = (decide (a < c.txt.length + 1) && c.At a (l.take j))) ∧ Same H H')
    ⟨⟨none, none, 2 ^ (c.txt.length + 1) - 1, congrArg (fun z => [some (V.ref rd), some (.ref la), some z, none, none]) e0, fun a => by rw [Nat.testBit_two_pow_sub_one, List.take_zero]; unfold RC.At; rw [List.isPrefixOf_nil_left, Bool.and_true]⟩, Same.rfl⟩ (fun j σ H' _ q => SqL.of (q.2 _ _ hl1)) ?_ ?_⟩
  · rintro j v σ H1 H2 hj ⟨⟨v3, v4, m, rfl, hm⟩, s1⟩ ⟨tp, x, y, rfl, htp', rfl, e1, e2⟩
    have hx : x = .int (j : Nat) := (Option.some.inj e1).symm
    subst hx
    obtain ⟨b, hb, rfl⟩ := bnums_get e2
    have s2 := s1.trans (same_new htp' (.tup [.int (j : Nat), .int ((b.toNat : Nat) : Int)]))
    have hr3 := s2 _ _ hr1
    have hr4 := s2 _ _ hr2
    refine ⟨tp, _, rfl, SqT.of upd_same, rfl, _, _, rfl, _, _, rfl, rfl, ?_⟩
    refine ⟨_, rfl, _, rfl, _, _, _, _, _, rfl, hr3, T.c_Reading, T.n_Reading_byte_masks, F_Reading_byte_masks, bm, rfl, .inl ⟨kvs, .inl hr4⟩, _, rfl, _, DGet.k (k := bKey b) hr4, _, rfl, bMask c.txt b c.txt.length, j, B.m b, rfl, _, _, rfl, rfl, ?_⟩
    refine ⟨⟨_, _, _, rfl, fun a => ?_⟩, s2⟩
    rw [Nat.testBit_and, hm, Nat.testBit_shiftRight, bMask, bmk_bit, take_more hb]
    unfold RC.At
    rw [pre_snoc, Bool.and_assoc, List.getElem?_drop]
    congr 2
    have lt : (l.take j).length = j := by
      rw [List.length_take]
      have := (List.getElem?_eq_some_iff.mp hb).1
      omega
    rw [lt, Nat.add_comm j a]
    cases q : decide (c.txt[a + j]? = some b) with
    | false => rw [Bool.and_false]
    | true =>
      have q := of_decide_eq_true q
      have := (List.getElem?_eq_some_iff.mp q).1
      rw [Bool.and_true]
      exact decide_eq_true this
  · rintro σ H1 ⟨⟨v3, v4, m, rfl, hm⟩, s1⟩
    refine ⟨_, rfl, ?_⟩
    rw [bnums_length, List.take_length] at hm
    have : m = c.LM l := Nat.eq_of_testBit_eq fun a => by rw [hm]; unfold RC.LM; rw [bmk_bit]
    rw [this]
    exact kQ H1 s1
end
end Sn
/-! reading: the ways of a stretch whose letters stand in the text -/
namespace Sn
open PySem PySem.Spec PyProof.Rows L2
theorem str_noM {v0 v1 v2 v3 v4 v5 : V} : (F_Stretch v0 v1 v2 v3 v4 v5).lookup ("masks" : Str) = none := by
  unfold F_Stretch
  simp only [List.lookup]
  rfl
theorem noM_str {H : Hp} {b dx C : Addr} {v0 v1 v2 v3 v4 v5 : V} (e : H b = some (.ins C dx (F_Stretch v0 v1 v2 v3 v4 v5))) (h : HasM H b) : False := by
  obtain ⟨o, h1, C, dx, fs, ml, rfl, h2⟩ := h
  rw [e] at h1
  cases h1
  rw [str_noM] at h2
  cases h2
theorem ExtD.ext2 {D : Addr} {G0 G G1 : Gh} {H0 H H1 : Hp} (a : ExtD D G G1 H H1) (s : Ext G0 G H0 H) (hD : H0 D = none) : Ext G0 G1 H0 H1 :=
  ⟨s.le.trans a.le, fun p u h g => a.kp p u (ne_of_none h hD) (s.kp p u h g) (s.nw p (by rw [h]; intro z; cases z) g), fun p h g => a.nw p (fun z => by
      cases e : H0 p with
      | none => exact h e
      | some o => have := s.kp p o e g; rw [z] at this; cases this) (s.nw p h g), fun p h => a.hm p (fun z => h.some (by rw [z]; exact hD)) (s.hm p h)⟩
theorem RInv.fix {c : RC} {A : Ad} {G : Gh} {H : Hp} {sa : Addr} {v0 : V} {y : SKey} (I : RInv c A G (some (sa, v0)) H) (h : G sa = some (.str y)) (ho : ObjR c A G H none sa (H sa) (.str y)) : RInv c A G none H :=
  ⟨I.sF, I.fF, fun a r e => by
    by_cases z : a = sa
    · subst z
      rw [h] at e; cases e
      exact ho
    · have := I.ok a r e
      cases r with
      | str v =>
        obtain ⟨dx, wv, ke, n, h1, h2, h3, h4⟩ := this
        refine ⟨dx, wv, ke, n, h1, h2, h3, ?_⟩
        rcases h4 with h4 | h4
        · exact absurd (congrArg Prod.fst (Option.some.inj h4)).symm z
        · exact .inr ⟨fun v z => (by cases z), h4.2⟩
      | _ => exact this, fun b v z => by cases z⟩
theorem RInv.exempt {c : RC} {A : Ad} {G : Gh} {H : Hp} {sa dx e n : Addr} {v : V} {y : SKey} (I : RInv c A G none H) (h : G sa = some (.str y)) (hm : HasM H sa → False) (ge : G e = some (.ke y)) (gn : G n = some (.kn y)) :
    RInv c A G (some (sa, v)) (upd H sa (.ins A.C_Stretch dx (F_Stretch (.int (y.1 : Nat)) (.int (y.2.1 : Nat)) (.int (y.2.2 : Nat)) v (.ref e) (.ref n)))) :=
  ⟨Same.upd_new I.sF (I.free h), I.fF, fun a r q => by
    by_cases z : a = sa
    · subst z
      rw [h] at q; cases q
      rw [upd_same]
      exact ⟨dx, v, e, n, rfl, ge, gn, .inl rfl⟩
    · rw [upd_ne z]
      have := (I.ok a r q).mono Le.rfl (HLe.upd (o := .ins A.C_Stretch dx (F_Stretch (.int (y.1 : Nat)) (.int (y.2.1 : Nat)) (.int (y.2.2 : Nat)) v (.ref e) (.ref n))) fun h => (hm h).elim)
      cases r with
      | str u =>
        obtain ⟨dx, wv, ke, n, h1, h2, h3, h4⟩ := this
        refine ⟨dx, wv, ke, n, h1, h2, h3, ?_⟩
        rcases h4 with h4 | h4
        · cases h4
        · exact .inr ⟨fun v' z' => z (congrArg Prod.fst (Option.some.inj z')).symm, h4.2⟩
      | _ => exact this, fun b v' z => by cases z; rw [h]; intro z; cases z⟩
theorem meet_len {S : Sw64.Sets} (G : SpecMath.Good S) (y : SKey) : (meet S y).length ≤ 60 := by
  unfold meet
  rw [List.length_drop, List.length_take]
  have := G y.1
  unfold Sw64.setOk at this
  simp only [Bool.and_eq_true, decide_eq_true_eq] at this
  have h60 : Sw64.RULES = 60 := rfl
  have : (withLast (S.getD y.1 [])).length = (S.getD y.1 []).length := List.length_map _
  omega
theorem waysIn_len {S : Sw64.Sets} (G : SpecMath.Good S) (y : SKey) : (waysIn S y).length ≤ 720 := by
  have := flatMap_len (n := 12) (l := meet S y) (f := fun z => ruleWays z.1 (rKey y z).2.1 (rKey y z).2.2) fun z _ => ruleWays_len _ _ _
  have h2 := meet_len G y
  unfold waysIn
  omega
theorem mem_meet {S : Sw64.Sets} {y : SKey} {z : Sw64.Rule × Nat} (h : z ∈ meet S y) : z.1 ∈ S.getD y.1 [] := by
  obtain ⟨i, hi⟩ := List.mem_iff_getElem?.mp h
  exact List.mem_of_getElem? (meet_ix hi).1
/-- the ways of a stretch, each of a rule -/
theorem waysIn_mem {S : Sw64.Sets} (G : SpecMath.Good S) {y : SKey} {w : WayD} (h : w ∈ waysIn S y) : ∃ z ∈ meet S y, (z.1.by_ = 0 ∧ (rKey y z).2.1 = z.1.base ∧ w = ⟨z.1.base, [z.1.pieces.flatMap fun x => plet x.2], []⟩) ∨
    (z.1.by_ ≠ 0 ∧ ∃ b ∈ boxes z.1.by_ (rKey y z).2.1 (rKey y z).2.2, ∃ s ∈ shapesOf z.1.pieces, okRun (common b.1 s.q) = true ∧ okRun (common b.2 s.r) = true ∧ w = shapeWay z.1.by_ s (common b.1 s.q) (common b.2 s.r)) := by
  unfold waysIn at h
  obtain ⟨z, hz, hw⟩ := List.mem_flatMap.mp h
  refine ⟨z, hz, ?_⟩
  unfold ruleWays at hw
  by_cases c : 0 < z.1.by_
  · rw [if_pos c] at hw
    unfold partWays at hw
    obtain ⟨b, hb, hw⟩ := List.mem_flatMap.mp hw
    obtain ⟨s, hs, hw⟩ := List.mem_flatMap.mp hw
    unfold boxWays at hw
    split at hw
    · rename_i c2
      rw [Bool.and_eq_true] at c2
      exact .inr ⟨by omega, b, hb, s, hs, c2.1, c2.2, List.mem_singleton.mp hw⟩
    · cases hw
  · rw [if_neg c] at hw
    split at hw
    · rename_i c2
      obtain ⟨s0, z1, z2, _⟩ := base_shape (G.rule (mem_meet hz)) (by omega)
      refine .inl ⟨by omega, c2, ?_⟩
      rw [List.mem_singleton.mp hw, z1, List.headD_cons, z2]
    · cases hw
theorem ways_letters {S : Sw64.Sets} (G : SpecMath.Good S) {y : SKey} {w : WayD} (h : w ∈ waysIn S y) : w.letters.length = w.slots.length + 1 ∧ w.slots.length ≤ 8 := by
  obtain ⟨z, hz, ⟨_, _, rfl⟩ | ⟨h0, b, _, s, hs, _, _, rfl⟩⟩ := waysIn_mem G h
  · exact ⟨rfl, Nat.zero_le _⟩
  · have f := shape_facts (G.rule (mem_meet hz)) h0 hs
    have e : (shapeWay z.1.by_ s (common b.1 s.q) (common b.2 s.r)).slots.length = s.sl.length := List.length_map _
    have e2 : (shapeWay z.1.by_ s (common b.1 s.q) (common b.2 s.r)).letters.length = s.sl.length + 1 := by
      show s.letters.length = _
      unfold Sh.letters
      rw [List.length_append, f.ok]; rfl
    exact ⟨by rw [e, e2], by rw [e]; exact slots_len f⟩
theorem way_masks {v0 v1 v2 v3 v4 v5 : V} : (F_Way v0 v1 v2 v3 v4 v5).lookup ("masks" : Str) = some v4 := F_Way_masks
section
variable {P : Program} {w : World} {K : PySem.W.Frag} {mg : Str → Option Value} {base : Heap} {A : Ad}
def spWaysOf (A : Ad) : Sp := fun vs H Q _ => ∃ (c : RC) (G : Gh) (rd sa : Addr) (y : SKey), vs = [.ref rd, .ref sa] ∧ RCok c A ∧ RInv c A G none H ∧ ReadAt c A G rd ∧ G sa = some (.str y) ∧ y ∈ c.C ∧
  ∀ H' G' l, Ext G G' H H' → RInv c A G' none H' → WaysM G' H' l (c.ways y) → Q (.ref l) H'
theorem ok_Reading_ways_of (T : Top K mg A) : FnOk P w K mg base CX0 8 A.f_Reading_ways_of A.d_Reading_ways_of P_Reading_ways_of (spWaysOf A) := by
  refine T.F_Reading_ways_of.ok sc_Reading_ways_of (fun vs H Q E h => ?_) (fun cdv _ outer s H vs Q E hr h => ⟨_, (pss_cons (ps_if (pt_cmpR op_isN (pe_fld (pv 1) rfl) pe_non (nomark _))
    (pss_cons (ps_fld (pv 1) (pe_lst pa_nil) rfl)
    (pss_one (ps_for PassesOwn.never rfl (pi_list (pe_meth (pe_fld (pv 0) rfl) T.c_Stretches T.M_Stretches_ways_in (ok_Stretches_ways_in T) (hr.mono (by omega)) (b_Stretches_ways_in T) .nil pass0 (pa_cons (pv 1) pa_nil))) (pg_name (i := 2) sc_Reading_ways_of.nd rfl (Or.inl rfl))
    (pss_cons (ps_if (pt_cmpR op_isN (pe_fld (pv 2) rfl) pe_non (nomark _))
    (pss_one (ps_fld (pv 2) (by exact (pe_lc (own := [("letters", 3)]) (g := gName 3) (tt := tYes) (te := tMeth A.C_Reading "mask_of" (spMaskOf A K) [] E0 (tVar 0) (tCons (tVar 3) tNil)) rfl sc_Reading_ways_of.nd (pi_list (pe_fld (pv 2) rfl)) (blkOk_by (own := [("letters", 3)]) (N := N_Reading_ways_of) (sc := defScope s_Reading_ways_of) (by decide +kernel)) (fun _ _ _ _ _ => pg_name (i := 3) sc_Reading_ways_of.nd rfl (Or.inl rfl)) (fun _ _ _ _ _ => by exact (pts_nil)) (fun _ _ _ _ _ => by exact (pe_meth (pv 0) T.c_Reading T.M_Reading_mask_of (ok_Reading_mask_of T) (hr.mono (by omega)) (b_Reading_mask_of T) .nil pass0 (pa_cons (pv 3) pa_nil))))) rfl))
    pss_nil)
    (pss_one (ps_if (pt_val (pe_callB (cr_all rfl) (by rfl) T.n_all (by decide +kernel) (pa_cons (by exact (pe_lc (own := [("mask", 4)]) (g := gName 4) (tt := tYes) (te := tOp _ (tVar 4) (tC (.int 0))) rfl sc_Reading_ways_of.nd (pi_list (pe_fld (pv 2) rfl)) (blkOk_by (own := [("mask", 4)]) (N := N_Reading_ways_of) (sc := defScope s_Reading_ways_of) (by decide +kernel)) (fun _ _ _ _ _ => pg_name (i := 4) sc_Reading_ways_of.nd rfl (Or.inl rfl)) (fun _ _ _ _ _ => by exact (pts_nil)) (fun _ _ _ _ _ => by exact (pe_cmpR op_gt (pv 4) pe_int (nomark _))))) pa_nil)))
    (pss_one (ps_expr (pe_bm PySem.F.plainAttrs_list PySem.F.slot_list_append PySem.F.type_list_append mt_append (pe_fld (pv 1) rfl) (pa_cons (pv 2) pa_nil))))
    pss_nil))))))
    pss_nil)
    (pss_one (ps_ret (pe_fld (pv 1) rfl)))), ?_⟩)
  · obtain ⟨_, _, _, _, _, rfl, _⟩ := h
    rfl
  obtain ⟨c, G, rd, sa, y, rfl, R0, I, hR, gs, hy, kQ⟩ := h
  obtain ⟨dx, wv, e, n, hs, ge, gn, hw⟩ := I.ok sa _ gs
  rcases hw with hw | ⟨_, rfl | ⟨l, rfl, hw⟩⟩
  · cases hw
  rotate_left
  · refine ⟨_, rfl, _, _, _, _, _, rfl, hs, T.c_Stretch, T.n_Stretch_ways, F_Stretch_ways, rfl, _, rfl, ?_⟩
    refine if_false_of (decide_eq_false (by intro z; cases z)) ?_
    exact ⟨_, rfl, _, _, _, _, _, rfl, hs, T.c_Stretch, T.n_Stretch_ways, F_Stretch_ways, kQ H G l Ext.rfl I hw⟩
  obtain ⟨dxr, ms, bm, kvs, r1, r2, B, hM⟩ := id hR
  obtain ⟨dm, DS, DW, m1, m2, m3⟩ := id hM
  refine ⟨_, rfl, _, _, _, _, _, rfl, hs, T.c_Stretch, T.n_Stretch_ways, F_Stretch_ways, rfl, _, rfl, if_true_of rfl ?_⟩
  refine ⟨(by show 0 ≤ sizeLine; decide), fun D hD => ?_⟩
  have s0 := same_new hD (.lst [])
  have hs0 := s0 _ _ hs
  refine ⟨_, rfl, sa, A.C_Stretch, dx, _, rfl, hs0, T.c_Stretch, T.n_Stretch_ways, (by show 6 < 1000; decide), ?_⟩
  rw [F_Stretch_put_ways]
  have gD : G D = none := I.fresh hD
  have fD : c.F D = none := Same.free I.sF hD
  have nDs : D ≠ sa := fun z => by rw [z, hs] at hD; cases hD
  have I1 := (I.new hD (.lst [])).exempt (v := .ref D) (dx := dx) gs (fun h => noM_str hs0 h) ge gn
  have x1 : Ext G G H (upd (upd H D (.lst [])) sa (.ins A.C_Stretch dx (F_Stretch (.int (y.1 : Nat)) (.int (y.2.1 : Nat)) (.int (y.2.2 : Nat)) (.ref D) (.ref e) (.ref n)))) := (Ext.same s0).trans (Ext.upd_role gs fun h => (noM_str hs0 h).elim)
  have hs1 : upd (upd H D (.lst [])) sa (.ins A.C_Stretch dx (F_Stretch (.int (y.1 : Nat)) (.int (y.2.1 : Nat)) (.int (y.2.2 : Nat)) (.ref D) (.ref e) (.ref n))) sa = some (.ins A.C_Stretch dx (F_Stretch (.int (y.1 : Nat)) (.int (y.2.1 : Nat)) (.int (y.2.2 : Nat)) (.ref D) (.ref e) (.ref n))) := upd_same
  have hD1 : upd (upd H D (.lst [])) sa (.ins A.C_Stretch dx (F_Stretch (.int (y.1 : Nat)) (.int (y.2.1 : Nat)) (.int (y.2.2 : Nat)) (.ref D) (.ref e) (.ref n))) D = some (.lst (refs [])) := (upd_ne nDs).trans upd_same
  generalize upd (upd H D (.lst [])) sa (.ins A.C_Stretch dx (F_Stretch (.int (y.1 : Nat)) (.int (y.2.1 : Nat)) (.int (y.2.2 : Nat)) (.ref D) (.ref e) (.ref n))) = H1 at *
  have hr1 := I1.frz r1
  have hm1 := I1.frz m1
  refine ⟨_, rfl, _, _, _, _, _, rfl, hr1, T.c_Reading, T.n_Reading_made, F_Reading_made, ms, _, _, rfl, hm1, F_Stretches_no_ways_in, _, rfl, c, G, some (sa, .ref D), ms, sa, y, rfl, R0, I1, hM, gs, hy, fun H2 G2 p as x2 I2 fp gp hp hws => ?_⟩
  obtain ⟨hD2, gD2⟩ := x2.tmp hD1 gD
  have nD2 : H2 D ≠ none := by rw [hD2]; intro z; cases z
  have npD : p ≠ D := fun z => by rw [z, hD1] at fp; cases fp
  have gs2 := x2.le _ _ gs
  have hR2 := hR.mono x2.le
  have wl2 : (waysIn c.S y).length ≤ 12000 := by have := waysIn_len R0.G y; omega
  refine ⟨p, rfl, ⟨_, SqL.of hp⟩, for_list (K := K) (a := p) (xs := refs as)
    (fun i σ H' => (∃ v2 v3 v4, σ = [some (.ref rd), some (.ref sa), v2, v3, v4]) ∧ ∃ G', ExtD D G2 G' H2 H' ∧ RInv c A G' (some (sa, .ref D)) H' ∧ ∃ bs, H' D = some (.lst (refs bs)) ∧ All2 (fun b w => G' b = some (.way w) ∧ HasM H' b) bs (((waysIn c.S y).take i).filter c.good))
    ⟨⟨none, none, none, rfl⟩, G2, ExtD.rfl, I2, [], hD2, .nil⟩ ?_ ?_ ?_⟩
  · rintro i σ H' _ ⟨_, G', W, _⟩
    exact SqL.of (W.kp _ _ npD hp gp)
  · rintro i v σ H' hix ⟨⟨v2, v3, v4, rfl⟩, G', W, I', bs, hDb, hbs⟩
    obtain ⟨a, wd, rfl, hwd, ga⟩ := objs_get hws hix
    have ga := W.le _ _ ga
    have gD' := W.nw D nD2 gD2
    obtain ⟨dxw, ll, wl, sl, mv, we, sas, ho, ⟨las, hl1, hl2⟩, hwl, hsl, hst, hwe, hmv⟩ := I'.ok a _ ga
    have hll := I'.sF _ _ hl1
    have tk : (((waysIn c.S y).take (i + 1)).filter c.good) = ((waysIn c.S y).take i).filter c.good ++ (if c.good wd = true then [wd] else []) := by
      have := filt_more (f := c.good) (g := fun z => z) hwd
      simpa using this
    have lbs : bs.length ≤ 12000 := by
      rw [hbs.length]
      refine Nat.le_trans (List.length_filter_le _ _) ?_
      rw [List.length_take]; omega
    have ll8 : las.length ≤ 100000 := by
      have := ways_letters R0.G (List.mem_of_getElem? hwd)
      rw [hl2.length]; omega
    generalize ((waysIn c.S y).take i).filter c.good = ws1 at *
    have hR' := hR2.mono W.le
    rcases hmv with rfl | ⟨ml, rfl, hml⟩
    · refine ⟨_, rfl, _, _, _, _, _, rfl, ho, T.c_Way, T.n_Way_masks, F_Way_masks, rfl, _, rfl, if_true_of rfl ?_⟩
      refine ⟨_, rfl, _, _, _, _, _, rfl, ho, T.c_Way, T.n_Way_letters, F_Way_letters, ll, rfl, ⟨_, SqL.of hll⟩, fun D2 hD2' => lc_objs hD2' (SqL.of hll) ll8 hl2 (fun _ => true) (fun l => V.int (c.LM l : Nat)) (fun _ => rfl) (fun b l hb H3 s3 R q => q H3 Same.rfl) (fun b l hb _ H3 s3 R q => ?_) (fun H3 s3 hD3 => ?_)⟩
      · have hr3 := s3 _ _ (I'.frz (W.le _ _ (x2.le _ _ r1)))
        exact ⟨_, rfl, _, _, _, rfl, hr3, F_Reading_no_mask_of, _, rfl, c, G', _, rd, b, l, rfl, I'.same s3, hR', R0.tx, hb, fun H4 s4 => q H4 s4⟩
      · have eD3 : ((wd.letters.filter fun _ => true).map fun l => V.int (c.LM l : Nat)) = nums (wd.letters.map c.LM) := by
          rw [List.filter_eq_self.mpr fun _ _ => rfl]; unfold nums; rw [List.map_map] <;> rfl
        rw [eD3] at hD3
        have ho3 := s3 _ _ ho
        refine ⟨_, rfl, a, A.C_Way, dxw, _, rfl, ho3, T.c_Way, T.n_Way_masks, (by show 6 < 1000; decide), ?_⟩
        rw [F_Way_put_masks]
        have gD2n : G' D2 = none := I'.fresh hD2'
        have le3 := le_addR (r := .frz (.lst (nums (wd.letters.map c.LM)))) gD2n
        have I3 := ((I'.same s3).add (p := D2) (r := .frz (.lst (nums (wd.letters.map c.LM)))) gD2n (Same.free I'.sF hD2') (by exact hD3)).set (le3 _ _ ga) (o := .ins A.C_Way dxw (F_Way (.int (wd.fixed : Nat)) (.ref ll) (.ref wl) (.ref sl) (.ref D2) (.ref we))) (fun _ => ⟨_, _, _, D2, rfl, way_masks⟩)
          ⟨dxw, ll, wl, sl, .ref D2, we, sas, rfl, ⟨las, hl1, hl2⟩, le3 _ _ hwl, le3 _ _ hsl, hst.mono fun _ _ _ _ z => le3 _ _ z, le3 _ _ hwe, .inr ⟨D2, rfl, addR_same⟩⟩
        have x3 : Ext G' (addR G' D2 (.frz (.lst (nums (wd.letters.map c.LM))))) H' (upd H3 a (.ins A.C_Way dxw (F_Way (.int (wd.fixed : Nat)) (.ref ll) (.ref wl) (.ref sl) (.ref D2) (.ref we)))) :=
          ((Ext.same s3).add hD2' gD2n).trans (Ext.upd_role (le3 _ _ ga) fun _ => ⟨_, _, _, D2, rfl, way_masks⟩)
        have ho4 : upd H3 a (.ins A.C_Way dxw (F_Way (.int (wd.fixed : Nat)) (.ref ll) (.ref wl) (.ref sl) (.ref D2) (.ref we))) a = some (.ins A.C_Way dxw (F_Way (.int (wd.fixed : Nat)) (.ref ll) (.ref wl) (.ref sl) (.ref D2) (.ref we))) := upd_same
        have hm3 : NumsAt (addR G' D2 (.frz (.lst (nums (wd.letters.map c.LM))))) D2 (wd.letters.map c.LM) := addR_same
        generalize upd H3 a (.ins A.C_Way dxw (F_Way (.int (wd.fixed : Nat)) (.ref ll) (.ref wl) (.ref sl) (.ref D2) (.ref we))) = H4 at *
        generalize addR G' D2 (.frz (.lst (nums (wd.letters.map c.LM)))) = G3 at *
        have gsx : G3 sa = some (.str y) := x3.le _ _ (W.le _ _ gs2)
        obtain ⟨hDb4, gD4⟩ := x3.tmp hDb gD'
        have W4 := W.then gD2 nD2 x3 (by rw [hDb]; intro z; cases z)
        have hbs4 : All2 (fun b w => G3 b = some (.way w) ∧ HasM H4 b) bs ws1 := hbs.mono fun _ _ _ _ z => ⟨x3.le _ _ z.1, x3.hm _ z.2⟩
        have hml4 := I3.frz hm3
        have a4 : G3 a = some (.way wd) := x3.le _ _ ga
        refine ⟨_, rfl, _, _, _, _, _, rfl, ho4, T.c_Way, T.n_Way_masks, F_Way_masks, D2, rfl, ⟨_, SqL.of hml4⟩, fun D3 hD3 => lc_gen hD3 (SqL.of hml4) (by rw [nums_length, List.length_map, ← hl2.length, sizeLine_eq]; omega) (wd.letters.map c.LM) (nums_length _) (fun _ => true) (fun m => V.bl (decide (0 < m))) (fun _ => rfl) (fun j x m hx hm H5 s5 R q => q H5 Same.rfl) (fun j x m hx hm _ H5 s5 R q => ?_) (fun H5 s5 hD5 => ?_)⟩
        · obtain ⟨m', h1, rfl⟩ := nums_getx hx
          rw [hm] at h1; cases h1
          refine ⟨_, rfl, _, _, rfl, rfl, ?_⟩
          have := q H5 Same.rfl
          have e0 : decide ((0 : Int) < (m : Int)) = decide (0 < m) := decide_eq_decide.mpr (by omega)
          rw [← e0] at this
          exact this
        · rw [any_bl] at hD5
          refine ⟨D3, _, rfl, SqL.of hD5, _, rfl, ?_⟩
          rw [all_id]
          have eg : ((wd.letters.map c.LM).all fun m => decide (0 < m)) = c.good wd := by unfold RC.good; rw [List.all_map] <;> rfl
          rw [eg]
          have I5 := I3.same s5
          have hDb5 := s5 _ _ hDb4
          have W5 := W4.then gD2 nD2 (Ext.same s5) (by rw [hDb4]; intro z; cases z)
          have hbs5 : All2 (fun b w => G3 b = some (.way w) ∧ HasM H5 b) bs ws1 := hbs4.mono fun _ _ _ _ z => ⟨z.1, z.2.same s5⟩
          have aM : HasM H5 a := ⟨_, s5 _ _ ho4, _, _, _, D2, rfl, way_masks⟩
          cases hg : c.good wd with
          | false =>
            refine if_false_of rfl ⟨⟨_, _, _, rfl⟩, G3, W5, I5, bs, hDb5, ?_⟩
            rw [tk, hg, if_neg (by decide), List.append_nil]
            exact hbs5
          | true =>
            refine if_true_of rfl ?_
            rw [hg, if_pos rfl] at tk
            obtain ⟨dx5, wv5, e5, n5, q1, q2, q3, q4⟩ := I5.ok sa _ gsx
            have : wv5 = .ref D := by
              rcases q4 with q4 | q4
              · exact (congrArg Prod.snd (Option.some.inj q4)).symm
              · exact absurd rfl (q4.1 (.ref D))
            subst this
            have nDb : ∀ b ∈ bs ++ [a], b ≠ D := fun b hb z => by
              rcases List.mem_append.mp hb with hb | hb
              · obtain ⟨j, hj, e'⟩ := List.mem_iff_getElem.mp hb
                obtain ⟨w', _, r, _⟩ := hbs5.get (i := j) (a := b) (by rw [List.getElem?_eq_getElem hj, e'])
                rw [z, gD4] at r; cases r
              · rw [List.mem_singleton.mp hb] at z
                rw [z, gD4] at a4; cases a4
            refine ⟨_, rfl, _, _, _, _, _, rfl, q1, T.c_Stretch, T.n_Stretch_ways, F_Stretch_ways, .inl ⟨rfl, _, SqL.of hDb5⟩, _, rfl, D, _, _, rfl, rfl, hDb5, (by rw [refs_length, sizeLine_eq]; omega), ?_⟩
            refine ⟨⟨_, _, _, rfl⟩, G3, W5.upd, I5.temp gD4 fD _, bs ++ [a], ?_, ?_⟩
            · rw [upd_same]; unfold refs; rw [List.map_append] <;> rfl
            · rw [tk]
              refine (hbs5.snoc (a := a) (x := wd) ⟨a4, aM⟩).mono fun b w hb _ z => ⟨z.1, ?_⟩
              obtain ⟨o, z1, z2⟩ := z.2
              exact ⟨o, (upd_ne (nDb b hb)).trans z1, z2⟩
    · refine ⟨_, rfl, _, _, _, _, _, rfl, ho, T.c_Way, T.n_Way_masks, F_Way_masks, rfl, _, rfl, if_false_of (decide_eq_false (by intro z; cases z)) ?_⟩
      have x3 : Ext G' G' H' H' := Ext.rfl
      have I3 := I'
      have ho4 := ho
      have hm3 := hml
      generalize hE : H' = H4 at *
      generalize hE2 : G' = G3 at *
      have gsx : G3 sa = some (.str y) := x3.le _ _ (W.le _ _ gs2)
      obtain ⟨hDb4, gD4⟩ := x3.tmp hDb gD'
      have W4 := W.then gD2 nD2 x3 (by rw [hDb]; intro z; cases z)
      have hbs4 : All2 (fun b w => G3 b = some (.way w) ∧ HasM H4 b) bs ws1 := hbs.mono fun _ _ _ _ z => ⟨x3.le _ _ z.1, x3.hm _ z.2⟩
      have hml4 := I3.frz hm3
      have a4 : G3 a = some (.way wd) := x3.le _ _ ga
      refine ⟨_, rfl, _, _, _, _, _, rfl, ho4, T.c_Way, T.n_Way_masks, F_Way_masks, ml, rfl, ⟨_, SqL.of hml4⟩, fun D3 hD3 => lc_gen hD3 (SqL.of hml4) (by rw [nums_length, List.length_map, ← hl2.length, sizeLine_eq]; omega) (wd.letters.map c.LM) (nums_length _) (fun _ => true) (fun m => V.bl (decide (0 < m))) (fun _ => rfl) (fun j x m hx hm H5 s5 R q => q H5 Same.rfl) (fun j x m hx hm _ H5 s5 R q => ?_) (fun H5 s5 hD5 => ?_)⟩
      · obtain ⟨m', h1, rfl⟩ := nums_getx hx
        rw [hm] at h1; cases h1
        refine ⟨_, rfl, _, _, rfl, rfl, ?_⟩
        have := q H5 Same.rfl
        have e0 : decide ((0 : Int) < (m : Int)) = decide (0 < m) := decide_eq_decide.mpr (by omega)
        rw [← e0] at this
        exact this
      · rw [any_bl] at hD5
        refine ⟨D3, _, rfl, SqL.of hD5, _, rfl, ?_⟩
        rw [all_id]
        have eg : ((wd.letters.map c.LM).all fun m => decide (0 < m)) = c.good wd := by unfold RC.good; rw [List.all_map] <;> rfl
        rw [eg]
        have I5 := I3.same s5
        have hDb5 := s5 _ _ hDb4
        have W5 := W4.then gD2 nD2 (Ext.same s5) (by rw [hDb4]; intro z; cases z)
        have hbs5 : All2 (fun b w => G3 b = some (.way w) ∧ HasM H5 b) bs ws1 := hbs4.mono fun _ _ _ _ z => ⟨z.1, z.2.same s5⟩
        have aM : HasM H5 a := ⟨_, s5 _ _ ho4, _, _, _, ml, rfl, way_masks⟩
        cases hg : c.good wd with
        | false =>
          refine if_false_of rfl ⟨⟨_, _, _, rfl⟩, G3, W5, I5, bs, hDb5, ?_⟩
          rw [tk, hg, if_neg (by decide), List.append_nil]
          exact hbs5
        | true =>
          refine if_true_of rfl ?_
          rw [hg, if_pos rfl] at tk
          obtain ⟨dx5, wv5, e5, n5, q1, q2, q3, q4⟩ := I5.ok sa _ gsx
          have : wv5 = .ref D := by
            rcases q4 with q4 | q4
            · exact (congrArg Prod.snd (Option.some.inj q4)).symm
            · exact absurd rfl (q4.1 (.ref D))
          subst this
          have nDb : ∀ b ∈ bs ++ [a], b ≠ D := fun b hb z => by
            rcases List.mem_append.mp hb with hb | hb
            · obtain ⟨j, hj, e'⟩ := List.mem_iff_getElem.mp hb
              obtain ⟨w', _, r, _⟩ := hbs5.get (i := j) (a := b) (by rw [List.getElem?_eq_getElem hj, e'])
              rw [z, gD4] at r; cases r
            · rw [List.mem_singleton.mp hb] at z
              rw [z, gD4] at a4; cases a4
          refine ⟨_, rfl, _, _, _, _, _, rfl, q1, T.c_Stretch, T.n_Stretch_ways, F_Stretch_ways, .inl ⟨rfl, _, SqL.of hDb5⟩, _, rfl, D, _, _, rfl, rfl, hDb5, (by rw [refs_length, sizeLine_eq]; omega), ?_⟩
          refine ⟨⟨_, _, _, rfl⟩, G3, W5.upd, I5.temp gD4 fD _, bs ++ [a], ?_, ?_⟩
          · rw [upd_same]; unfold refs; rw [List.map_append] <;> rfl
          · rw [tk]
            refine (hbs5.snoc (a := a) (x := wd) ⟨a4, aM⟩).mono fun b w hb _ z => ⟨z.1, ?_⟩
            obtain ⟨o, z1, z2⟩ := z.2
            exact ⟨o, (upd_ne (nDb b hb)).trans z1, z2⟩
  · rintro σ H' ⟨⟨v2, v3, v4, rfl⟩, G', W, I', bs, hDb, hbs⟩
    have e : (waysIn c.S y).take (refs as).length = waysIn c.S y := by rw [refs_length, hws.length, List.take_length]
    rw [e] at hbs
    have gD' := W.nw D nD2 gD2
    have gsx := W.le _ _ gs2
    have le4 := le_addR (r := .frz (.lst (refs bs))) gD'
    have I4 := I'.add (p := D) (r := .frz (.lst (refs bs))) gD' fD (by exact hDb)
    obtain ⟨dx5, wv5, e5, n5, q1, q2, q3, q4⟩ := I4.ok sa _ (le4 _ _ gsx)
    have : wv5 = .ref D := by
      rcases q4 with q4 | q4
      · exact (congrArg Prod.snd (Option.some.inj q4)).symm
      · exact absurd rfl (q4.1 (.ref D))
    subst this
    have hw : WaysM (addR G' D (.frz (.lst (refs bs)))) H' D (c.ways y) := ⟨bs, addR_same, hbs.mono fun _ _ _ _ z => ⟨le4 _ _ z.1, z.2⟩⟩
    have I5 := I4.fix (le4 _ _ gsx) ⟨dx5, _, e5, n5, q1, q2, q3, .inr ⟨fun v z => (by cases z), .inr ⟨D, rfl, hw⟩⟩⟩
    refine ⟨_, rfl, _, _, _, _, _, rfl, q1, T.c_Stretch, T.n_Stretch_ways, F_Stretch_ways, kQ H' _ D ?_ I5 hw⟩
    exact (W.ext2 (x1.trans x2) hD).add hD gD'
end
end Sn
/-! reading in plain Lean: boxes, shapes -/
namespace Sn
open PySem PySem.Spec PyProof.Rows L2
open SpecMath (Good sayP)
theorem inRun_iff {q : Nat} {u : Nat × Nat} : inRun q u = true ↔ u.1 ≤ q ∧ q ≤ u.2 := by unfold inRun; rw [decide_eq_true_iff]
theorem common_iff {q : Nat} {u v : Nat × Nat} : inRun q (common u v) = true ↔ inRun q u = true ∧ inRun q v = true := by
  rw [inRun_iff, inRun_iff, inRun_iff]
  unfold common
  rw [Nat.max_le, Nat.le_min]
  constructor
  · exact fun h => ⟨⟨h.1.1, h.2.1⟩, ⟨h.1.2, h.2.2⟩⟩
  · exact fun h => ⟨⟨h.1.1, h.2.1⟩, ⟨h.1.2, h.2.2⟩⟩
/-! ### boxes -/
theorem mul_cmp (d q k : Nat) : (q < k → d * q + d ≤ d * k) ∧ (k < q → d * k + d ≤ d * q) ∧ (q = k → d * q = d * k) := by
  refine ⟨fun h => ?_, fun h => ?_, fun h => by rw [h]⟩
  · have := Nat.mul_le_mul_left d (show q + 1 ≤ k by omega); rw [Nat.mul_add, Nat.mul_one] at this; exact this
  · have := Nat.mul_le_mul_left d (show k + 1 ≤ q by omega); rw [Nat.mul_add, Nat.mul_one] at this; exact this
theorem box_mem {d lo hi : Nat} (hd : 2 ≤ d) (hl : lo ≤ hi) (q r : Nat) : (∃ b ∈ boxes d lo hi, inRun q b.1 = true ∧ inRun r b.2 = true) ↔ r < d ∧ lo ≤ d * q + r ∧ d * q + r ≤ hi := by
  have e1 := Nat.div_add_mod lo d
  have e2 := Nat.div_add_mod hi d
  have m1 := Nat.mod_lt lo (show 0 < d by omega)
  have m2 := Nat.mod_lt hi (show 0 < d by omega)
  have hq : lo / d ≤ hi / d := Nat.div_le_div_right hl
  unfold boxes
  generalize lo / d = ql at *
  generalize hi / d = qh at *
  generalize lo % d = rl at *
  generalize hi % d = rh at *
  obtain ⟨c1, c2, c3⟩ := mul_cmp d q ql
  obtain ⟨c4, c5, c6⟩ := mul_cmp d q qh
  obtain ⟨c7, c8, c9⟩ := mul_cmp d ql qh
  generalize d * q = x at *
  generalize d * ql = y at *
  generalize d * qh = z at *
  simp only [inRun_iff]
  split
  · rename_i h
    constructor
    · rintro ⟨b, hb, h1, h2⟩
      rw [List.mem_singleton.mp hb] at h1 h2
      simp only at h1 h2
      have := c3 (by omega)
      have := c9 h
      omega
    · rintro ⟨h1, h2, h3⟩
      refine ⟨_, List.mem_singleton.mpr rfl, ?_⟩
      have := c9 h
      have : q = ql := by omega
      have := c3 this
      simp only
      omega
  · rename_i h
    have hA' : (0 < rl ∧ (if 0 < rl then ql + 1 else ql) = ql + 1) ∨ (rl = 0 ∧ (if 0 < rl then ql + 1 else ql) = ql) := by split <;> omega
    have hB' : (rh < d - 1 ∧ (if rh < d - 1 then qh - 1 else qh) = qh - 1) ∨ (d - 1 ≤ rh ∧ (if rh < d - 1 then qh - 1 else qh) = qh) := by split <;> omega
    generalize (if 0 < rl then ql + 1 else ql) = A at *
    generalize (if rh < d - 1 then qh - 1 else qh) = B at *
    constructor
    · rintro ⟨b, hb, h1, h2⟩
      rcases List.mem_append.mp hb with hb | hb
      · rcases List.mem_append.mp hb with hb | hb
        · split at hb
          · rw [List.mem_singleton.mp hb] at h1 h2
            simp only at h1 h2
            have := c3 (by omega)
            omega
          · cases hb
        · split at hb
          · rw [List.mem_singleton.mp hb] at h1 h2
            simp only at h1 h2
            have := c6 (by omega)
            omega
          · cases hb
      · split at hb
        · rw [List.mem_singleton.mp hb] at h1 h2
          simp only at h1 h2
          omega
        · cases hb
    · rintro ⟨h1, h2, h3⟩
      by_cases a1 : q = ql ∧ 0 < rl
      · refine ⟨((ql, ql), (rl, d - 1)), List.mem_append_left _ (List.mem_append_left _ ?_), ?_⟩
        · rw [if_pos a1.2]; exact List.mem_singleton.mpr rfl
        · have := c3 a1.1
          simp only; omega
      · by_cases a2 : q = qh ∧ rh < d - 1
        · refine ⟨((qh, qh), (0, rh)), List.mem_append_left _ (List.mem_append_right _ ?_), ?_⟩
          · rw [if_pos a2.2]; exact List.mem_singleton.mpr rfl
          · have := c6 a2.1
            simp only; omega
        · refine ⟨((A, B), (0, d - 1)), List.mem_append_right _ ?_, ?_⟩
          · rw [if_pos]
            · exact List.mem_singleton.mpr rfl
            · omega
          · simp only
            omega
theorem boxes_disj {d lo hi : Nat} (hl : lo ≤ hi) : (boxes d lo hi).Pairwise fun b b' => ∀ q r, inRun q b.1 = true → inRun r b.2 = true → inRun q b'.1 = true → inRun r b'.2 = true → False := by
  have hq : lo / d ≤ hi / d := Nat.div_le_div_right hl
  unfold boxes
  simp only [inRun_iff]
  generalize lo / d = ql at *
  generalize hi / d = qh at *
  generalize lo % d = rl at *
  generalize hi % d = rh at *
  split
  · exact List.pairwise_singleton _ _
  · rename_i h
    split <;> split <;> (try split) <;> simp only [List.nil_append, List.cons_append, List.pairwise_cons, List.Pairwise.nil, List.mem_cons, List.not_mem_nil, or_false, and_true, false_implies, implies_true, forall_eq_or_imp, forall_eq] <;> first | trivial | (refine ⟨⟨?_, ?_⟩, ?_⟩ <;> intros <;> omega) | (intros; omega)
/-! ### shapes -/
theorem qruns_disj (ps : List Pc) : (qruns ps).Pairwise fun u v => ∀ q, inRun q u = true → inRun q v = true → False := by
  unfold qruns
  simp only [inRun_iff]
  split
  · exact List.pairwise_singleton _ _
  · split
    · simp only [List.pairwise_cons, List.Pairwise.nil, List.mem_cons, List.not_mem_nil, or_false, and_true, false_implies, implies_true, forall_eq]
      intros; omega
    · exact List.pairwise_singleton _ _
theorem rruns_disj (ps : List Pc) : (rruns ps).Pairwise fun u v => ∀ q, inRun q u = true → inRun q v = true → False := by
  unfold rruns
  simp only [inRun_iff]
  split
  · simp only [List.pairwise_cons, List.Pairwise.nil, List.mem_cons, List.not_mem_nil, or_false, and_true, false_implies, implies_true, forall_eq]
    intros; omega
  · exact List.pairwise_singleton _ _
theorem fits_iff {s : Sh} {q r : Nat} : s.fits q r = true ↔ inRun q s.q = true ∧ inRun r s.r = true := by
  unfold Sh.fits inRun
  rw [Bool.and_eq_true]
theorem shapes_disj (ps : List Pc) : (shapesOf ps).Pairwise fun s s' => ∀ q r, s.fits q r = true → s'.fits q r = true → False := by
  unfold shapesOf
  rw [List.pairwise_flatMap]
  refine ⟨fun u _ => ?_, ?_⟩
  · rw [List.pairwise_map]
    refine (rruns_disj ps).imp fun {a b} h q r h1 h2 => ?_
    rw [fits_iff, shOf_q, shOf_r] at h1 h2
    exact h r h1.2 h2.2
  · refine (qruns_disj ps).imp fun {a b} h s hs s' hs' q r h1 h2 => ?_
    obtain ⟨v, _, rfl⟩ := List.mem_map.mp hs
    obtain ⟨v', _, rfl⟩ := List.mem_map.mp hs'
    rw [fits_iff, shOf_q, shOf_r] at h1 h2
    exact h q h1.1 h2.1
theorem find_of_disj {α : Type} {p : α → Bool} {l : List α} {s : α} (hd : l.Pairwise fun s s' => p s = true → p s' = true → False) (hs : s ∈ l) (h : p s = true) : l.find? p = some s := by
  induction l with
  | nil => cases hs
  | cons x l ih =>
    rw [List.pairwise_cons] at hd
    rcases List.mem_cons.mp hs with e | hs
    · subst e
      rw [List.find?_cons_of_pos h]
    · rw [List.find?_cons_of_neg (fun z => hd.1 s hs z h)]
      exact ih hd.2 hs
theorem shape_runs {R : Sw64.Rule} (h : Sw64.ruleOk R = true) {s : Sh} (hs : s ∈ shapesOf R.pieces) : 1 ≤ s.q.1 ∧ s.q.1 ≤ s.q.2 ∧ s.q.2 ≤ Sw64.MOST ∧ s.r.1 ≤ s.r.2 ∧ s.r.2 ≤ Sw64.MOST := by
  unfold shapesOf at hs
  obtain ⟨q, hq, hs⟩ := List.mem_flatMap.mp hs
  obtain ⟨r, hr, rfl⟩ := List.mem_map.mp hs
  rw [shOf_q, shOf_r]
  have hM : Sw64.MOST = 1000000000000000 := by decide
  unfold qruns at hq
  unfold rruns at hr
  refine ⟨?_, ?_, ?_, ?_, ?_⟩
  · split at hq
    · rw [List.mem_singleton.mp hq]; decide
    · split at hq
      · rcases List.mem_cons.mp hq with e | hq
        · rw [e]; decide
        · rw [List.mem_singleton.mp hq]; decide
      · rw [List.mem_singleton.mp hq]; decide
  · split at hq
    · rw [List.mem_singleton.mp hq]; decide
    · split at hq
      · rcases List.mem_cons.mp hq with e | hq
        · rw [e]; decide
        · rw [List.mem_singleton.mp hq]; decide
      · rw [List.mem_singleton.mp hq]; decide
  · split at hq
    · rw [List.mem_singleton.mp hq]; decide
    · split at hq
      · rcases List.mem_cons.mp hq with e | hq
        · rw [e]; decide
        · rw [List.mem_singleton.mp hq]; decide
      · rw [List.mem_singleton.mp hq]; decide
  · split at hr
    · rcases List.mem_cons.mp hr with e | hr
      · rw [e]; decide
      · rw [List.mem_singleton.mp hr]; decide
    · rw [List.mem_singleton.mp hr]; decide
  · split at hr
    · rcases List.mem_cons.mp hr with e | hr
      · rw [e]; decide
      · rw [List.mem_singleton.mp hr]; decide
    · rw [List.mem_singleton.mp hr]; decide
/-- where no piece for q stands q is 1, where none for r stands r is 0 -/
theorem shape_no {R : Sw64.Rule} (h : Sw64.ruleOk R = true) (h0 : R.by_ ≠ 0) {s : Sh} (hs : s ∈ shapesOf R.pieces) : ((∀ y ∈ s.sl, Sw64.isTimes y = false) → s.q = (1, 1)) ∧ ((∀ y ∈ s.sl, Sw64.isLeft y = false) → s.r = (0, 0)) := by
  unfold shapesOf at hs
  obtain ⟨q, hq, hs⟩ := List.mem_flatMap.mp hs
  obtain ⟨r, hr, rfl⟩ := List.mem_map.mp hs
  rw [shOf_q, shOf_r]
  have e0 : (shOf R.pieces q r).sl = (stand R.pieces q.1 r.1).filter (fun y => !Sw64.isText y) := (fold_facts (stand R.pieces q.1 r.1) (Sh.new q r)).1
  have hin : ∀ x ∈ R.pieces, Sw64.isText x.2 = false → Sw64.stands q.1 r.1 x.1 = true → x.2 ∈ (shOf R.pieces q r).sl := fun x hx ht hst => by
    rw [e0]
    refine List.mem_filter.mpr ⟨?_, by rw [ht]; rfl⟩
    exact List.mem_map.mpr ⟨x, List.mem_filter.mpr ⟨hx, hst⟩, rfl⟩
  obtain ⟨_, _, _, _, h5⟩ := SpecMath.rule_by h h0
  have hpc := (SpecMath.rule_pieces h).2
  constructor
  · intro hn
    unfold qruns at hq
    split at hq
    · exact List.mem_singleton.mp hq
    · rename_i hany
      have hany : (R.pieces.any fun x => decide (pk x.2 = 1)) = true := by simpa using hany
      obtain ⟨x, hx, hx1⟩ := List.any_eq_true.mp hany
      have hx1 : pk x.2 = 1 := of_decide_eq_true hx1
      obtain ⟨j, hj⟩ : ∃ j, x.2 = .times j := by
        cases e : x.2 with
        | times j => exact ⟨j, rfl⟩
        | text b => rw [e] at hx1; cases hx1
        | left j => rw [e] at hx1; cases hx1
      have hok := hpc x hx
      unfold Sw64.pieceOk at hok
      rw [hj] at hok
      simp only [Bool.and_eq_true, Bool.or_eq_true, beq_iff_eq, decide_eq_true_eq] at hok
      have no : Sw64.stands q.1 r.1 x.1 = true → False := fun z => by
        have := hn _ (hin x hx (by rw [hj]; rfl) z)
        rw [hj] at this; cases this
      rcases hok.2 with e | e
      · exact (no (by rw [e]; rfl)).elim
      · split at hq
        · rcases List.mem_cons.mp hq with z | hq
          · exact z
          · have z := List.mem_singleton.mp hq
            exact (no (by rw [e, z]; rfl)).elim
        · rename_i hno
          have : (R.pieces.any fun x => decide (wc x.1 = 3) || decide (wc x.1 = 4)) = true := List.any_eq_true.mpr ⟨x, hx, by rw [e]; rfl⟩
          exact (hno this).elim
  · intro hn
    have hl : ∃ x ∈ R.pieces, Sw64.isLeft x.2 = true := by
      cases e : R.pieces.filter fun x => Sw64.isLeft x.2 with
      | nil => rw [e] at h5; cases h5
      | cons x l =>
        have : x ∈ R.pieces.filter fun x => Sw64.isLeft x.2 := by rw [e]; exact List.mem_cons_self
        exact ⟨x, (List.mem_filter.mp this).1, (List.mem_filter.mp this).2⟩
    obtain ⟨x, hx, hx1⟩ := hl
    obtain ⟨j, hj⟩ : ∃ j, x.2 = .left j := by
      cases e : x.2 with
      | left j => exact ⟨j, rfl⟩
      | text b => rw [e] at hx1; cases hx1
      | times j => rw [e] at hx1; cases hx1
    have hok := hpc x hx
    unfold Sw64.pieceOk at hok
    rw [hj] at hok
    simp only [Bool.and_eq_true, Bool.or_eq_true, beq_iff_eq, decide_eq_true_eq] at hok
    have no : Sw64.stands q.1 r.1 x.1 = true → False := fun z => by
      have := hn _ (hin x hx (by rw [hj]; rfl) z)
      rw [hj] at this; cases this
    rcases hok.2 with e | e
    · exact (no (by rw [e]; rfl)).elim
    · unfold rruns at hr
      split at hr
      · rcases List.mem_cons.mp hr with z | hr
        · exact z
        · have z := List.mem_singleton.mp hr
          exact (no (by rw [e, z]; rfl)).elim
      · rename_i hno
        have : (R.pieces.any fun x => decide (wc x.1 = 1) || decide (wc x.1 = 2)) = true := List.any_eq_true.mpr ⟨x, hx, by rw [e]; rfl⟩
        exact (hno this).elim
/-- the slots of a shape, all that there can be -/
theorem sl_form {s : Sh} (f : ShFacts s) : s.sl = [] ∨ (∃ j, s.sl = [.times j]) ∨ (∃ j, s.sl = [.left j]) ∨ (∃ i j, s.sl = [.times i, .left j]) ∨ ∃ i j, s.sl = [.left j, .times i] := by
  have h1 := f.t1
  have h2 := f.l1
  have h3 := f.nt
  generalize s.sl = l at *
  match l, h1, h2, h3 with
  | [], _, _, _ => exact .inl rfl
  | [.times j], _, _, _ => exact .inr (.inl ⟨j, rfl⟩)
  | [.left j], _, _, _ => exact .inr (.inr (.inl ⟨j, rfl⟩))
  | [.text _], _, _, h => exact absurd (h _ List.mem_cons_self) (by intro z; cases z)
  | .text _ :: _ :: _, _, _, h => exact absurd (h _ List.mem_cons_self) (by intro z; cases z)
  | _ :: .text _ :: _, _, _, h => exact absurd (h _ (List.mem_cons_of_mem _ List.mem_cons_self)) (by intro z; cases z)
  | [.times i, .left j], _, _, _ => exact .inr (.inr (.inr (.inl ⟨i, j, rfl⟩)))
  | [.left j, .times i], _, _, _ => exact .inr (.inr (.inr (.inr ⟨i, j, rfl⟩)))
  | .times _ :: .times _ :: l, h, _, _ =>
    rw [List.filter_cons_of_pos (by rfl), List.filter_cons_of_pos (by rfl), List.length_cons, List.length_cons] at h
    omega
  | .left _ :: .left _ :: l, _, h, _ =>
    rw [List.filter_cons_of_pos (by rfl), List.filter_cons_of_pos (by rfl), List.length_cons, List.length_cons] at h
    omega
  | .times _ :: .left _ :: .times _ :: l, h, _, _ =>
    rw [List.filter_cons_of_pos (by rfl), List.filter_cons_of_neg (by intro z; cases z), List.filter_cons_of_pos (by rfl), List.length_cons, List.length_cons] at h
    omega
  | .times _ :: .left _ :: .left _ :: l, _, h, _ =>
    rw [List.filter_cons_of_neg (by intro z; cases z), List.filter_cons_of_pos (by rfl), List.filter_cons_of_pos (by rfl), List.length_cons, List.length_cons] at h
    omega
  | .left _ :: .times _ :: .times _ :: l, h, _, _ =>
    rw [List.filter_cons_of_neg (by intro z; cases z), List.filter_cons_of_pos (by rfl), List.filter_cons_of_pos (by rfl), List.length_cons, List.length_cons] at h
    omega
  | .left _ :: .times _ :: .left _ :: l, _, h, _ =>
    rw [List.filter_cons_of_pos (by rfl), List.filter_cons_of_neg (by intro z; cases z), List.filter_cons_of_pos (by rfl), List.length_cons, List.length_cons] at h
    omega
  | _ :: _ :: .text _ :: _, _, _, h => exact absurd (h _ (List.mem_cons_of_mem _ (List.mem_cons_of_mem _ List.mem_cons_self))) (by intro z; cases z)
end Sn
/-! reading in plain Lean: the numbers of a way -/
namespace Sn
open PySem PySem.Spec PyProof.Rows L2
open SpecMath (Good sayP)
def val (q r : Nat) (y : Sw64.Piece) : Nat := if pk y = 1 then q else r
theorem At_append {c : RC} {a : Nat} {u v : Sw64.Bytes} : c.At a (u ++ v) = true ↔ c.At a u = true ∧ c.At (a + u.length) v = true := by
  unfold RC.At
  rw [List.isPrefixOf_iff_prefix, List.isPrefixOf_iff_prefix, List.isPrefixOf_iff_prefix, ← List.drop_drop]
  generalize c.txt.drop a = d
  constructor
  · rintro ⟨e, he⟩
    rw [List.append_assoc] at he
    refine ⟨⟨v ++ e, he⟩, e, ?_⟩
    rw [← he, List.drop_left]
  · rintro ⟨⟨e, he⟩, f, hf⟩
    refine ⟨f, ?_⟩
    rw [← he, List.drop_left] at hf
    rw [List.append_assoc, hf, he]
theorem At_le {c : RC} {a : Nat} {l : Sw64.Bytes} (ha : a ≤ c.txt.length) (h : c.At a l = true) : a + l.length ≤ c.txt.length := by
  unfold RC.At at h
  rw [List.isPrefixOf_iff_prefix] at h
  have := h.length_le
  rw [List.length_drop] at this
  omega
theorem Says_le {c : RC} {k n a b : Nat} (ha : a ≤ c.txt.length) (h : c.Says k n a b) : a ≤ b ∧ b ≤ c.txt.length := by
  obtain ⟨t, _, h2, rfl⟩ := h
  exact ⟨Nat.le_add_right _ _, At_le ha h2⟩
theorem Mem_le {c : RC} {y : SKey} {n a b : Nat} (ha : a ≤ c.txt.length) (h : c.Mem y n a b) : a ≤ b ∧ b ≤ c.txt.length := Says_le ha h.2.2
theorem slotD_mem {c : RC} {d q r a m : Nat} {cq cr : Nat × Nat} {y : Sw64.Piece} (hy : Sw64.isText y = false) : c.Mem (slotD d cq cr y).2 (val q r y) a m ↔ (if pk y = 1 then inRun q cq else inRun r cr) = true ∧ ∃ u, sayP (Sw64.said c.S) q r y = some u ∧ c.At a u = true ∧ m = a + u.length := by
  cases y with
  | text _ => cases hy
  | times j =>
    show (cq.1 ≤ q ∧ q ≤ cq.2 ∧ c.Says j q a m) ↔ _
    rw [if_pos (show pk (.times j) = 1 from rfl), inRun_iff]
    exact ⟨fun h => ⟨⟨h.1, h.2.1⟩, h.2.2⟩, fun h => ⟨h.1.1, h.1.2, h.2⟩⟩
  | left j =>
    show (cr.1 ≤ r ∧ r ≤ cr.2 ∧ c.Says j r a m) ↔ _
    rw [if_neg (show ¬ pk (.left j) = 1 by intro z; cases z), inRun_iff]
    exact ⟨fun h => ⟨⟨h.1, h.2.1⟩, h.2.2⟩, fun h => ⟨h.1.1, h.1.2, h.2⟩⟩
theorem sq_iff {c : RC} {d q r : Nat} {cq cr : Nat × Nat} : ∀ {sl : List Sw64.Piece} {ls : List Sw64.Bytes} {a b : Nat}, (∀ y ∈ sl, Sw64.isText y = false) → ls.length = sl.length →
    (c.Sq (sl.map (slotD d cq cr)) ls (sl.map (val q r)) a b ↔ (∀ y ∈ sl, (if pk y = 1 then inRun q cq else inRun r cr) = true) ∧ ∃ t, tl (sayP (Sw64.said c.S) q r) ls sl = some t ∧ c.At a t = true ∧ b = a + t.length)
  | [], [], a, b, _, _ => by
    show a = b ↔ _
    constructor
    · rintro rfl
      exact ⟨fun _ h => (by cases h), [], rfl, by unfold RC.At; exact List.isPrefixOf_nil_left, rfl⟩
    · rintro ⟨_, t, h1, _, h3⟩
      cases h1
      exact h3.symm
  | y :: sl, l :: ls, a, b, hy, hl => by
    have ih := fun a b => sq_iff (c := c) (d := d) (q := q) (r := r) (cq := cq) (cr := cr) (sl := sl) (ls := ls) (a := a) (b := b) (fun z hz => hy z (List.mem_cons_of_mem _ hz)) (by simpa using hl)
    show (∃ m, c.Mem (slotD d cq cr y).2 (val q r y) a m ∧ c.At m l = true ∧ c.Sq (sl.map (slotD d cq cr)) ls (sl.map (val q r)) (m + l.length) b) ↔ _
    constructor
    · rintro ⟨m, h1, h2, h3⟩
      obtain ⟨h4, u, h5, h6, rfl⟩ := (slotD_mem (hy y List.mem_cons_self)).mp h1
      obtain ⟨h7, t, h8, h9, rfl⟩ := (ih _ _).mp h3
      refine ⟨fun z hz => ?_, u ++ (l ++ t), by rw [tl, h5, Option.bind_some, h8] <;> rfl, ?_, by rw [List.length_append, List.length_append]; omega⟩
      · rcases List.mem_cons.mp hz with e | hz
        · rw [e]; exact h4
        · exact h7 z hz
      · exact At_append.mpr ⟨h6, At_append.mpr ⟨h2, h9⟩⟩
    · rintro ⟨h1, t, h2, h3, rfl⟩
      rw [tl] at h2
      cases h5 : sayP (Sw64.said c.S) q r y with
      | none => rw [h5] at h2; cases h2
      | some u =>
        rw [h5, Option.bind_some, Option.map_eq_some_iff] at h2
        obtain ⟨t', h8, rfl⟩ := h2
        obtain ⟨h6, h7⟩ := At_append.mp h3
        obtain ⟨h9, h10⟩ := At_append.mp h7
        refine ⟨a + u.length, (slotD_mem (hy y List.mem_cons_self)).mpr ⟨h1 y List.mem_cons_self, u, h5, h6, rfl⟩, h9, (ih _ _).mpr ⟨fun z hz => h1 z (List.mem_cons_of_mem _ hz), t', h8, h10, by rw [List.length_append, List.length_append]; omega⟩⟩
  | [], _ :: _, _, _, _, h => by cases h
  | _ :: _, [], _, _, _, h => by cases h
theorem sq_len {c : RC} : ∀ {ys : List (Nat × SKey)} {ls : List Sw64.Bytes} {vs : List Nat} {a b : Nat}, c.Sq ys ls vs a b → vs.length = ys.length
  | [], _, [], _, _, _ => rfl
  | y :: ys, l :: ls, v :: vs, a, b, ⟨m, _, _, h⟩ => by rw [List.length_cons, List.length_cons, sq_len h]
  | [], _, _ :: _, _, _, h => h.elim
  | _ :: _, [], _, _, _, h => h.elim
  | _ :: _, _ :: _, [], _, _, h => h.elim
/-- numbers for the slots: one for all slots of q, one for all of r -/
theorem vs_form {sl : List Sw64.Piece} (f : sl = [] ∨ (∃ j, sl = [.times j]) ∨ (∃ j, sl = [.left j]) ∨ (∃ i j, sl = [.times i, .left j]) ∨ ∃ i j, sl = [.left j, .times i]) {vs : List Nat} (h : vs.length = sl.length) :
    ∃ q r, vs = sl.map (val q r) ∧ ((∀ y ∈ sl, Sw64.isTimes y = false) → q = 1) ∧ ((∀ y ∈ sl, Sw64.isLeft y = false) → r = 0) := by
  rcases f with rfl | ⟨j, rfl⟩ | ⟨j, rfl⟩ | ⟨i, j, rfl⟩ | ⟨i, j, rfl⟩
  · exact ⟨1, 0, List.length_eq_zero_iff.mp h, fun _ => rfl, fun _ => rfl⟩
  · match vs, h with
    | [v], _ => exact ⟨v, 0, rfl, fun z => absurd (z _ List.mem_cons_self) (by intro z; cases z), fun _ => rfl⟩
  · match vs, h with
    | [v], _ => exact ⟨1, v, rfl, fun _ => rfl, fun z => absurd (z _ List.mem_cons_self) (by intro z; cases z)⟩
  · match vs, h with
    | [v, u], _ => exact ⟨v, u, rfl, fun z => absurd (z _ List.mem_cons_self) (by intro z; cases z), fun z => absurd (z _ (List.mem_cons_of_mem _ List.mem_cons_self)) (by intro z; cases z)⟩
  · match vs, h with
    | [v, u], _ => exact ⟨u, v, rfl, fun z => absurd (z _ (List.mem_cons_of_mem _ List.mem_cons_self)) (by intro z; cases z), fun z => absurd (z _ List.mem_cons_self) (by intro z; cases z)⟩
theorem wval_form {s : Sh} (f : ShFacts s) {d q r : Nat} {cq cr : Nat × Nat} (hq : (∀ y ∈ s.sl, Sw64.isTimes y = false) → q = 1) (hr : (∀ y ∈ s.sl, Sw64.isLeft y = false) → r = 0) : wval (shapeWay d s cq cr) (s.sl.map (val q r)) = d * q + r := by
  have e : wval (shapeWay d s cq cr) (s.sl.map (val q r)) = (if (s.sl.any fun y => decide (pk y = 1)) = true then 0 else d) + vsum (s.sl.map (slotD d cq cr)) (s.sl.map (val q r)) := rfl
  rw [e]
  rcases sl_form f with h | ⟨j, h⟩ | ⟨j, h⟩ | ⟨i, j, h⟩ | ⟨i, j, h⟩
  · rw [h] at hq hr ⊢
    rw [hq (fun _ z => by cases z), hr (fun _ z => by cases z)]
    simp [vsum]
  · rw [h] at hr ⊢
    rw [hr (fun y z => by rw [List.mem_singleton.mp z]; rfl)]
    simp [vsum, slotD, val, pk]
  · rw [h] at hq ⊢
    rw [hq (fun y z => by rw [List.mem_singleton.mp z]; rfl)]
    simp [vsum, slotD, val, pk]
  · rw [h]
    simp [vsum, slotD, val, pk]
  · rw [h]
    simp [vsum, slotD, val, pk]
    omega
end Sn
/-! reading in plain Lean: the numbers of a stretch are those of its ways -/
namespace Sn
open PySem PySem.Spec PyProof.Rows L2
open SpecMath (Good sayP)
theorem divmod {d q r : Nat} (h : r < d) : (d * q + r) / d = q ∧ (d * q + r) % d = r := by
  refine ⟨?_, ?_⟩
  · rw [Nat.mul_add_div (by omega), Nat.div_eq_of_lt h, Nat.add_zero]
  · rw [Nat.mul_add_mod, Nat.mod_eq_of_lt h]
/-- what a way of a shape says -/
structure WayN (c : RC) (k : Nat) (R : Sw64.Rule) (b : (Nat × Nat) × (Nat × Nat)) (s : Sh) (vs : List Nat) (n a e q r : Nat) : Prop where
  evs : vs = s.sl.map (val q r)
  en : n = R.by_ * q + r
  rl : r < R.by_
  bq : inRun q b.1 = true
  br : inRun r b.2 = true
  fit : s.fits q r = true
  says : c.Says k n a e
theorem text_eq {g : Sw64.Piece → Option Sw64.Bytes} {s : Sh} : s.text g = (tl g s.letters.tail s.sl).map fun b => s.letters.headD [] ++ b := rfl
theorem sh_lens {s : Sh} (f : ShFacts s) : s.letters.tail.length = s.sl.length := by
  rw [List.length_tail]
  unfold Sh.letters
  rw [List.length_append, f.ok]; rfl
theorem shape_sound {c : RC} (G : Good c.S) {k lo hi : Nat} {R : Sw64.Rule} {s : Sh} {b : (Nat × Nat) × (Nat × Nat)} {vs : List Nat} {a e : Nat} (hR : R ∈ c.S.getD k []) (h0 : R.by_ ≠ 0) (hs : s ∈ shapesOf R.pieces) (hlh : lo ≤ hi) (hb : b ∈ boxes R.by_ lo hi)
    (hbase : R.base ≤ lo) (hup : hi ≤ Sw64.upTo (c.S.getD k []) R) (o1 : okRun (common b.1 s.q) = true) (o2 : okRun (common b.2 s.r) = true) (hw : c.WSays (shapeWay R.by_ s (common b.1 s.q) (common b.2 s.r)) vs a e) :
    ∃ q r, WayN c k R b s vs (wval (shapeWay R.by_ s (common b.1 s.q) (common b.2 s.r)) vs) a e q r ∧ lo ≤ wval (shapeWay R.by_ s (common b.1 s.q) (common b.2 s.r)) vs ∧ wval (shapeWay R.by_ s (common b.1 s.q) (common b.2 s.r)) vs ≤ hi := by
  have hok := G.rule hR
  obtain ⟨d2, _, _⟩ := SpecMath.rule_by hok h0
  have f := shape_facts hok h0 hs
  obtain ⟨n1, n2⟩ := shape_no hok h0 hs
  obtain ⟨hw1, hw2⟩ := hw
  have hl := sq_len hw2
  have es : (shapeWay R.by_ s (common b.1 s.q) (common b.2 s.r)).slots = s.sl.map (slotD R.by_ (common b.1 s.q) (common b.2 s.r)) := rfl
  have el : (shapeWay R.by_ s (common b.1 s.q) (common b.2 s.r)).letters = s.letters := rfl
  rw [es, List.length_map] at hl
  obtain ⟨q, r, rfl, hq, hr⟩ := vs_form (sl_form f) hl
  rw [wval_form f hq hr]
  rw [el] at hw1
  rw [es, el] at hw2
  obtain ⟨hin, t, ht, hat, rfl⟩ := (sq_iff f.nt (sh_lens f)).mp hw2
  have hcq : inRun q (common b.1 s.q) = true := by
    by_cases z : ∀ y ∈ s.sl, Sw64.isTimes y = false
    · rw [hq z]
      have := n1 z
      unfold okRun at o1
      rw [decide_eq_true_iff] at o1
      rw [this] at o1 ⊢
      rw [inRun_iff]
      unfold common at o1 ⊢
      simp only at o1 ⊢
      omega
    · have ⟨y, hy, hy2⟩ : ∃ y ∈ s.sl, Sw64.isTimes y = true := Classical.byContradiction fun w => z fun y hy => by
        cases q : Sw64.isTimes y with
        | false => rfl
        | true => exact (w ⟨y, hy, q⟩).elim
      have := hin y hy
      rwa [if_pos (by cases y <;> first | rfl | cases hy2)] at this
  have hcr : inRun r (common b.2 s.r) = true := by
    by_cases z : ∀ y ∈ s.sl, Sw64.isLeft y = false
    · rw [hr z]
      have := n2 z
      unfold okRun at o2
      rw [decide_eq_true_iff] at o2
      rw [this] at o2 ⊢
      rw [inRun_iff]
      unfold common at o2 ⊢
      simp only at o2 ⊢
      omega
    · have ⟨y, hy, hy2⟩ : ∃ y ∈ s.sl, Sw64.isLeft y = true := Classical.byContradiction fun w => z fun y hy => by
        cases q : Sw64.isLeft y with
        | false => rfl
        | true => exact (w ⟨y, hy, q⟩).elim
      have := hin y hy
      rwa [if_neg (by cases y <;> first | (intro z; cases z; done) | cases hy2)] at this
  obtain ⟨q1, q2⟩ := common_iff.mp hcq
  obtain ⟨r1, r2⟩ := common_iff.mp hcr
  obtain ⟨m1, m2, m3⟩ := (box_mem d2 hlh q r).mp ⟨b, hb, q1, r1⟩
  have hM : R.by_ * q + r ≤ Sw64.MOST := Nat.le_trans m3 (Nat.le_trans hup (upTo_le G))
  have hRf := (SpecMath.ruleFor_iff (G.rising k) hM (R := R)).mpr ⟨hR, by omega, by omega⟩
  have hsaid := said_shape G hM hRf h0
  obtain ⟨e1, e2⟩ := divmod (q := q) m1
  have hfit : s.fits q r = true := fits_iff.mpr ⟨q2, r2⟩
  have hfind := find_of_disj (p := fun s => s.fits q r) ((shapes_disj R.pieces).imp fun h => h q r) hs hfit
  rw [e1, e2, hfind, Option.bind_some, text_eq, ht] at hsaid
  refine ⟨q, r, ⟨rfl, rfl, m1, q1, r1, hfit, _, hsaid, At_append.mpr ⟨hw1, hat⟩, ?_⟩, m2, m3⟩
  rw [List.length_append]
  exact Nat.add_assoc _ _ _
/-- the ways of a stretch, with what each says -/
theorem ways_sound {c : RC} (G : Good c.S) {y : SKey} (hlh : y.2.1 ≤ y.2.2) (hM : y.2.2 ≤ Sw64.MOST) {w : WayD} (h : w ∈ waysIn c.S y) {vs : List Nat} {a e : Nat} (hw : c.WSays w vs a e) : c.Mem y (wval w vs) a e := by
  obtain ⟨z, hz, ⟨z0, zl, rfl⟩ | ⟨h0, b, hb, s, hs, o1, o2, rfl⟩⟩ := waysIn_mem G h
  · obtain ⟨f1, f2, f3, f4, f5⟩ := meet_facts G hlh hM hz
    obtain ⟨hw1, hw2⟩ := hw
    match vs, hw2 with
    | [], hw2 =>
      have hw2 : a + _ = e := hw2
      have zl : max y.2.1 z.1.base = z.1.base := zl
      show y.2.1 ≤ z.1.base + 0 ∧ z.1.base + 0 ≤ y.2.2 ∧ _
      have hMb : z.1.base ≤ Sw64.MOST := by omega
      refine ⟨by omega, by omega, _, ?_, hw1, hw2.symm⟩
      have := said_base G hMb ((SpecMath.ruleFor_iff (G.rising y.1) hMb (R := z.1)).mpr ⟨f1, Nat.le_refl _, by omega⟩) z0
      rw [if_pos rfl] at this
      exact this
    | _ :: _, hw2 => exact hw2.elim
  · obtain ⟨f1, f2, f3, f4, f5⟩ := meet_facts G hlh hM hz
    have hl2 : (rKey y z).2.1 ≤ (rKey y z).2.2 := Nat.max_le.mpr ⟨Nat.le_min.mpr ⟨hlh, f4⟩, Nat.le_min.mpr ⟨f3, f5⟩⟩
    obtain ⟨q, r, W, w1, w2⟩ := shape_sound G f1 h0 hs hl2 hb (Nat.le_max_right _ _) (by rw [← f2]; exact Nat.min_le_right _ _) o1 o2 hw
    exact ⟨Nat.le_trans (Nat.le_max_left _ _) w1, Nat.le_trans w2 (Nat.min_le_left _ _), W.says⟩
theorem ruleFor_meet {S : Sw64.Sets} (G : Good S) {y : SKey} {n : Nat} {R : Sw64.Rule} (h1 : y.2.1 ≤ n) (h2 : n ≤ y.2.2) (h : Sw64.ruleFor (S.getD y.1 []) n = some R) : (R, Sw64.upTo (S.getD y.1 []) R) ∈ meet S y := by
  have hr := G.rising y.1
  rw [ruleFor_idx hr] at h
  split at h
  · cases h
  · rename_i c0
    have c0 : upCnt (S.getD y.1 []) n ≠ 0 := c0
    have h : (S.getD y.1 [])[upCnt (S.getD y.1 []) n - 1]? = some R := h
    have mono : ∀ {a b : Nat}, a ≤ b → upCnt (S.getD y.1 []) a ≤ upCnt (S.getD y.1 []) b := fun h => by
      unfold upCnt
      rw [← List.countP_eq_length_filter, ← List.countP_eq_length_filter]
      exact List.countP_mono_left fun R _ h => by simp at h ⊢; omega
    have l1 := mono h1
    have l2 := mono h2
    rw [List.mem_iff_getElem?]
    refine ⟨upCnt (S.getD y.1 []) n - 1 - (upCnt (S.getD y.1 []) y.2.1 - 1), ?_⟩
    unfold meet
    rw [List.getElem?_drop, List.getElem?_take, if_pos (by omega)]
    unfold withLast
    rw [List.getElem?_map, show upCnt (S.getD y.1 []) y.2.1 - 1 + (upCnt (S.getD y.1 []) n - 1 - (upCnt (S.getD y.1 []) y.2.1 - 1)) = upCnt (S.getD y.1 []) n - 1 by omega, h] <;> rfl
theorem ways_full {c : RC} (G : Good c.S) {y : SKey} (hM : y.2.2 ≤ Sw64.MOST) {n a e : Nat} (h : c.Mem y n a e) : ∃ w ∈ waysIn c.S y, ∃ vs, c.WSays w vs a e ∧ wval w vs = n := by
  obtain ⟨h1, h2, t, ht, hat, rfl⟩ := h
  have hn : n ≤ Sw64.MOST := by omega
  cases hR : Sw64.ruleFor (c.S.getD y.1 []) n with
  | none => rw [said_none G hn hR] at ht; cases ht
  | some R =>
    have hz := ruleFor_meet G h1 h2 hR
    obtain ⟨hm, hb⟩ := SpecMath.ruleFor_mem hR
    have hup := ((SpecMath.ruleFor_iff (G.rising y.1) hn (R := R)).mp hR).2.2
    have hok := G.rule hm
    have inw : ∀ w, w ∈ ruleWays R (max y.2.1 R.base) (min y.2.2 (Sw64.upTo (c.S.getD y.1 []) R)) → w ∈ waysIn c.S y := fun w hw => List.mem_flatMap.mpr ⟨_, hz, hw⟩
    by_cases h0 : R.by_ = 0
    · rw [said_base G hn hR h0] at ht
      split at ht
      · rename_i e
        cases ht
        subst e
        obtain ⟨s0, z1, z2, _⟩ := base_shape hok h0
        refine ⟨⟨R.base, [R.pieces.flatMap fun x => plet x.2], []⟩, inw _ ?_, [], ⟨by exact hat, by exact Eq.refl (a + _)⟩, by rfl⟩
        unfold ruleWays
        rw [if_neg (by omega), if_pos (by omega), z1, List.headD_cons, z2]
        exact List.mem_singleton.mpr rfl
      · cases ht
    · obtain ⟨d2, db, _⟩ := SpecMath.rule_by hok h0
      rw [said_shape G hn hR h0] at ht
      cases hf : (shapesOf R.pieces).find? (fun s => s.fits (n / R.by_) (n % R.by_)) with
      | none => rw [hf] at ht; cases ht
      | some s =>
        rw [hf, Option.bind_some, text_eq, Option.map_eq_some_iff] at ht
        obtain ⟨t', ht', rfl⟩ := ht
        have hs := List.mem_of_find?_eq_some hf
        have hfit := List.find?_some hf
        obtain ⟨fq, fr⟩ := fits_iff.mp hfit
        have f := shape_facts hok h0 hs
        obtain ⟨n1, n2⟩ := shape_no hok h0 hs
        have em := Nat.div_add_mod n R.by_
        have hr := Nat.mod_lt n (show 0 < R.by_ by omega)
        obtain ⟨b, hb, bq, br⟩ := (box_mem (lo := max y.2.1 R.base) (hi := min y.2.2 (Sw64.upTo (c.S.getD y.1 []) R)) d2 (by omega) (n / R.by_) (n % R.by_)).mpr ⟨hr, by omega, by omega⟩
        have cq := common_iff.mpr ⟨bq, fq⟩
        have cr := common_iff.mpr ⟨br, fr⟩
        have o1 : okRun (common b.1 s.q) = true := decide_eq_true (by have := inRun_iff.mp cq; omega)
        have o2 : okRun (common b.2 s.r) = true := decide_eq_true (by have := inRun_iff.mp cr; omega)
        obtain ⟨hat1, hat2⟩ := At_append.mp hat
        refine ⟨shapeWay R.by_ s (common b.1 s.q) (common b.2 s.r), inw _ ?_, s.sl.map (val (n / R.by_) (n % R.by_)), ⟨hat1, ?_⟩, ?_⟩
        · unfold ruleWays partWays
          rw [if_pos (by omega)]
          refine List.mem_flatMap.mpr ⟨b, hb, List.mem_flatMap.mpr ⟨s, hs, ?_⟩⟩
          unfold boxWays
          rw [o1, o2, if_pos (by rfl)]
          exact List.mem_singleton.mpr rfl
        · refine (sq_iff f.nt (sh_lens f)).mpr ⟨fun p hp => ?_, t', ht', hat2, by rw [List.length_append]; exact (Nat.add_assoc _ _ _).symm⟩
          split
          · exact cq
          · exact cr
        · rw [wval_form f (fun z => ?_) (fun z => ?_)]
          · exact em
          · have := inRun_iff.mp fq
            rw [n1 z] at this
            simp only at this
            omega
          · have := inRun_iff.mp fr
            rw [n2 z] at this
            simp only at this
            omega
theorem ways_iff {c : RC} (G : Good c.S) {y : SKey} (hlh : y.2.1 ≤ y.2.2) (hM : y.2.2 ≤ Sw64.MOST) {n a e : Nat} : (∃ w ∈ waysIn c.S y, ∃ vs, c.WSays w vs a e ∧ wval w vs = n) ↔ c.Mem y n a e :=
  ⟨fun ⟨w, hw, vs, h1, h2⟩ => h2 ▸ ways_sound G hlh hM hw h1, ways_full G hM⟩
/-- different ways say different numbers -/
theorem meet_pw {S : Sw64.Sets} (G : Good S) (y : SKey) : (meet S y).Pairwise fun z z' => z.1.base < z'.1.base := by
  unfold meet
  refine (List.Pairwise.sublist (List.drop_sublist _ _) (List.Pairwise.sublist (List.take_sublist _ _) ?_))
  have p := rising_pw (G.rising y.1)
  rw [List.pairwise_map] at p
  unfold withLast
  rw [List.pairwise_map]
  exact p
/-- what a rule's way says -/
theorem way_zone {c : RC} (G : Good c.S) {y : SKey} (hlh : y.2.1 ≤ y.2.2) (hM : y.2.2 ≤ Sw64.MOST) {z : Sw64.Rule × Nat} (hz : z ∈ meet c.S y) {w : WayD} (hw : w ∈ ruleWays z.1 (rKey y z).2.1 (rKey y z).2.2) {vs : List Nat} {a e : Nat} (h : c.WSays w vs a e) :
    wval w vs ≤ Sw64.MOST ∧ Sw64.ruleFor (c.S.getD y.1 []) (wval w vs) = some z.1 := by
  obtain ⟨f1, f2, f3, f4, f5⟩ := meet_facts G hlh hM hz
  have hl2 : (rKey y z).2.1 ≤ (rKey y z).2.2 := Nat.max_le.mpr ⟨Nat.le_min.mpr ⟨hlh, f4⟩, Nat.le_min.mpr ⟨f3, f5⟩⟩
  have key : (rKey y z).2.1 ≤ wval w vs ∧ wval w vs ≤ (rKey y z).2.2 := by
    unfold ruleWays at hw
    split at hw
    · unfold partWays at hw
      obtain ⟨b, hb, hw⟩ := List.mem_flatMap.mp hw
      obtain ⟨s, hs, hw⟩ := List.mem_flatMap.mp hw
      unfold boxWays at hw
      split at hw
      · rename_i c1 c2
        rw [Bool.and_eq_true] at c2
        rw [List.mem_singleton.mp hw] at h ⊢
        obtain ⟨q, r, _, w1, w2⟩ := shape_sound G f1 (by omega) hs hl2 hb (Nat.le_max_right _ _) (by rw [← f2]; exact Nat.min_le_right _ _) c2.1 c2.2 h
        exact ⟨w1, w2⟩
      · cases hw
    · split at hw
      · rename_i c2
        rw [List.mem_singleton.mp hw] at h ⊢
        have : wval ⟨z.1.base, ((shapesOf z.1.pieces).headD (Sh.new (0, 0) (0, 0))).letters, []⟩ vs = z.1.base := by
          show z.1.base + vsum [] vs = _
          cases vs <;> rfl
        rw [this, ← c2]
        exact ⟨Nat.le_refl _, hl2⟩
      · cases hw
  have k1 : (rKey y z).2.2 ≤ z.2 := Nat.min_le_right _ _
  have k2 : z.1.base ≤ (rKey y z).2.1 := Nat.le_max_right _ _
  have k3 : (rKey y z).2.2 ≤ y.2.2 := Nat.min_le_left _ _
  refine ⟨by omega, (SpecMath.ruleFor_iff (G.rising y.1) (by omega)).mpr ⟨f1, by omega, by rw [← f2]; omega⟩⟩
def Apart (c : RC) (w w' : WayD) : Prop := ∀ vs vs' a e a' e', c.WSays w vs a e → c.WSays w' vs' a' e' → wval w vs = wval w' vs' → False
theorem ways_apart {c : RC} (G : Good c.S) {y : SKey} (hlh : y.2.1 ≤ y.2.2) (hM : y.2.2 ≤ Sw64.MOST) : (waysIn c.S y).Pairwise (Apart c) := by
  unfold waysIn
  rw [List.pairwise_flatMap]
  refine ⟨fun z hz => ?_, ?_⟩
  · obtain ⟨f1, f2, f3, f4, f5⟩ := meet_facts G hlh hM hz
    have hl2 : (rKey y z).2.1 ≤ (rKey y z).2.2 := Nat.max_le.mpr ⟨Nat.le_min.mpr ⟨hlh, f4⟩, Nat.le_min.mpr ⟨f3, f5⟩⟩
    unfold ruleWays
    split
    · rename_i c0
      have ss : ∀ {b s vs a e}, b ∈ boxes z.1.by_ (rKey y z).2.1 (rKey y z).2.2 → s ∈ shapesOf z.1.pieces → ∀ {w}, w ∈ boxWays z.1.by_ b s → c.WSays w vs a e → ∃ q r, WayN c y.1 z.1 b s vs (wval w vs) a e q r := fun {b s vs a e} hb hs {w} hw h => by
        unfold boxWays at hw
        split at hw
        · rename_i c2
          rw [Bool.and_eq_true] at c2
          rw [List.mem_singleton.mp hw] at h ⊢
          obtain ⟨q, r, W, _⟩ := shape_sound G f1 (by omega) hs hl2 hb (Nat.le_max_right _ _) (by rw [← f2]; exact Nat.min_le_right _ _) c2.1 c2.2 h
          exact ⟨q, r, W⟩
        · cases hw
      have same : ∀ {q r q' r'}, r < z.1.by_ → r' < z.1.by_ → z.1.by_ * q + r = z.1.by_ * q' + r' → q = q' ∧ r = r' := fun h1 h2 e => by
        obtain ⟨e1, e2⟩ := divmod (q := _) h1
        obtain ⟨e3, e4⟩ := divmod (q := _) h2
        rw [e] at e1 e2
        exact ⟨e1.symm.trans e3, e2.symm.trans e4⟩
      unfold partWays
      rw [List.pairwise_flatMap]
      refine ⟨fun b hb => ?_, ?_⟩
      · rw [List.pairwise_flatMap]
        refine ⟨fun s _ => ?_, ?_⟩
        · unfold boxWays
          split
          · exact List.pairwise_singleton _ _
          · exact .nil
        · refine (shapes_disj z.1.pieces).imp_of_mem fun {s s'} hs hs' hd w hw w' hw' vs vs' a e a' e' h h' en => ?_
          obtain ⟨q, r, W⟩ := ss hb hs hw h
          obtain ⟨q', r', W'⟩ := ss hb hs' hw' h'
          obtain ⟨rfl, rfl⟩ := same W.rl W'.rl (by rw [← W.en, ← W'.en]; exact en)
          exact hd q r W.fit W'.fit
      · refine (boxes_disj hl2).imp_of_mem fun {b b'} hb hb' hd w hw w' hw' vs vs' a e a' e' h h' en => ?_
        obtain ⟨s, hs, hw⟩ := List.mem_flatMap.mp hw
        obtain ⟨s', hs', hw'⟩ := List.mem_flatMap.mp hw'
        obtain ⟨q, r, W⟩ := ss hb hs hw h
        obtain ⟨q', r', W'⟩ := ss hb' hs' hw' h'
        obtain ⟨rfl, rfl⟩ := same W.rl W'.rl (by rw [← W.en, ← W'.en]; exact en)
        exact hd q r W.bq W.br W'.bq W'.br
    · split
      · exact List.pairwise_singleton _ _
      · exact .nil
  · refine (meet_pw G y).imp_of_mem fun {z z'} hz hz' hb w hw w' hw' vs vs' a e a' e' h h' en => ?_
    obtain ⟨_, r1⟩ := way_zone G hlh hM hz hw h
    obtain ⟨_, r2⟩ := way_zone G hlh hM hz' hw' h'
    rw [en, r2] at r1
    rw [Option.some.inj r1] at hb
    omega
/-- a way's number tells the numbers of its slots -/
theorem way_inj {c : RC} (G : Good c.S) {y : SKey} (hlh : y.2.1 ≤ y.2.2) (hM : y.2.2 ≤ Sw64.MOST) {w : WayD} (hw : w ∈ waysIn c.S y) {vs vs' : List Nat} {a e a' e' : Nat} (h : c.WSays w vs a e) (h' : c.WSays w vs' a' e') (en : wval w vs = wval w vs') : vs = vs' := by
  obtain ⟨z, hz, ⟨z0, zl, rfl⟩ | ⟨h0, b, hb, s, hs, o1, o2, rfl⟩⟩ := waysIn_mem G hw
  · have l1 := sq_len h.2
    have l2 := sq_len h'.2
    rw [List.length_eq_zero_iff.mp l1, List.length_eq_zero_iff.mp l2]
  · obtain ⟨f1, f2, f3, f4, f5⟩ := meet_facts G hlh hM hz
    have hl2 : (rKey y z).2.1 ≤ (rKey y z).2.2 := Nat.max_le.mpr ⟨Nat.le_min.mpr ⟨hlh, f4⟩, Nat.le_min.mpr ⟨f3, f5⟩⟩
    obtain ⟨q, r, W, _⟩ := shape_sound G f1 h0 hs hl2 hb (Nat.le_max_right _ _) (by rw [← f2]; exact Nat.min_le_right _ _) o1 o2 h
    obtain ⟨q', r', W', _⟩ := shape_sound G f1 h0 hs hl2 hb (Nat.le_max_right _ _) (by rw [← f2]; exact Nat.min_le_right _ _) o1 o2 h'
    obtain ⟨e1, e2⟩ := divmod (q := q) W.rl
    obtain ⟨e3, e4⟩ := divmod (q := q') W'.rl
    rw [← W.en, en, W'.en] at e1 e2
    rw [W.evs, W'.evs, ← e1, ← e2, e3, e4]
/-- the slots' stretches are below half of the way's -/
theorem slots_half {c : RC} (G : Good c.S) {y : SKey} (hlh : y.2.1 ≤ y.2.2) (hM : y.2.2 ≤ Sw64.MOST) {w : WayD} (hw : w ∈ waysIn c.S y) {p : Nat × SKey} (hp : p ∈ w.slots) : 2 * p.2.2.2 ≤ y.2.2 ∧ 2 ≤ y.2.2 ∧ p.2.2.1 ≤ p.2.2.2 ∧ p.2.1 < 8 := by
  obtain ⟨z, hz, ⟨z0, zl, rfl⟩ | ⟨h0, b, hb, s, hs, o1, o2, rfl⟩⟩ := waysIn_mem G hw
  · cases hp
  · obtain ⟨f1, f2, f3, f4, f5⟩ := meet_facts G hlh hM hz
    have hl2 : (rKey y z).2.1 ≤ (rKey y z).2.2 := Nat.max_le.mpr ⟨Nat.le_min.mpr ⟨hlh, f4⟩, Nat.le_min.mpr ⟨f3, f5⟩⟩
    have hok := G.rule f1
    obtain ⟨d2, db, _⟩ := SpecMath.rule_by hok h0
    obtain ⟨s1, s2, s3, s4, s5⟩ := shape_runs hok hs
    have k3 : (rKey y z).2.2 ≤ y.2.2 := Nat.min_le_left _ _
    unfold okRun at o1 o2
    rw [decide_eq_true_iff] at o1 o2
    have i1 : inRun (common b.1 s.q).2 (common b.1 s.q) = true := inRun_iff.mpr ⟨o1, Nat.le_refl _⟩
    have i2 : inRun (common b.2 s.r).2 (common b.2 s.r) = true := inRun_iff.mpr ⟨o2, Nat.le_refl _⟩
    obtain ⟨m1, m2, m3⟩ := (box_mem d2 hl2 _ _).mp ⟨b, hb, (common_iff.mp i1).1, (common_iff.mp i2).1⟩
    have q1 : 1 ≤ (common b.1 s.q).2 := by
      have := (inRun_iff.mp (common_iff.mp i1).2).1
      omega
    have hd1 : z.1.by_ * 1 ≤ z.1.by_ * (common b.1 s.q).2 := Nat.mul_le_mul_left _ q1
    have hd2 : 2 * (common b.1 s.q).2 ≤ z.1.by_ * (common b.1 s.q).2 := Nat.mul_le_mul_right _ d2
    have f := shape_facts hok h0 hs
    have hp : p ∈ s.sl.map (slotD z.1.by_ (common b.1 s.q) (common b.2 s.r)) := hp
    obtain ⟨x, hx, rfl⟩ := List.mem_map.mp hp
    have hb8 := f.by8 x hx
    unfold slotD
    split
    · exact ⟨by show 2 * (common b.1 s.q).2 ≤ _; omega, by omega, o1, hb8⟩
    · exact ⟨by show 2 * (common b.2 s.r).2 ≤ _; omega, by omega, o2, hb8⟩
end Sn
/-! reading in plain Lean: masks of ends -/
namespace Sn
open PySem PySem.Spec PyProof.Rows L2
open SpecMath (Good sayP)
open Classical in
noncomputable def RC.EU (c : RC) (y : SKey) (M : Nat) : Nat := bmk (fun b => decide (∃ a, M.testBit a = true ∧ (c.EM y a).testBit b = true)) (c.txt.length + 1)
open Classical in
theorem EM_bit {c : RC} {y : SKey} {a b : Nat} : (c.EM y a).testBit b = true ↔ b ≤ c.txt.length ∧ ∃ n, c.Mem y n a b := by
  unfold RC.EM
  rw [bmk_bit, Bool.and_eq_true, decide_eq_true_iff, decide_eq_true_iff]
  exact ⟨fun h => ⟨by omega, h.2⟩, fun h => ⟨by omega, h.2⟩⟩
open Classical in
theorem WM_bit {c : RC} {w : WayD} {a b : Nat} : (c.WM w a).testBit b = true ↔ b ≤ c.txt.length ∧ ∃ vs, c.WSays w vs a b := by
  unfold RC.WM
  rw [bmk_bit, Bool.and_eq_true, decide_eq_true_iff, decide_eq_true_iff]
  exact ⟨fun h => ⟨by omega, h.2⟩, fun h => ⟨by omega, h.2⟩⟩
open Classical in
theorem EU_bit {c : RC} {y : SKey} {M b : Nat} : (c.EU y M).testBit b = true ↔ b ≤ c.txt.length ∧ ∃ a, M.testBit a = true ∧ (c.EM y a).testBit b = true := by
  unfold RC.EU
  rw [bmk_bit, Bool.and_eq_true, decide_eq_true_iff, decide_eq_true_iff]
  exact ⟨fun h => ⟨by omega, h.2⟩, fun h => ⟨by omega, h.2⟩⟩
theorem LM_bit {c : RC} {l : Sw64.Bytes} {a : Nat} : (c.LM l).testBit a = true ↔ a ≤ c.txt.length ∧ c.At a l = true := by
  unfold RC.LM
  rw [bmk_bit, Bool.and_eq_true, decide_eq_true_iff]
  exact ⟨fun h => ⟨by omega, h.2⟩, fun h => ⟨by omega, h.2⟩⟩
theorem bit_eq {x z : Nat} (h : ∀ b, x.testBit b = true ↔ z.testBit b = true) : x = z := Nat.eq_of_testBit_eq fun b => Bool.eq_iff_iff.mpr (h b)
theorem bit_pos {x a : Nat} (h : x.testBit a = true) : 0 < x := by
  rcases Nat.eq_zero_or_pos x with e | e
  · rw [e, Nat.zero_testBit] at h; cases h
  · exact e
theorem lt_of_bits {x n : Nat} (h : ∀ b, x.testBit b = true → b ≤ n) : x < 2 ^ (n + 1) := Nat.lt_pow_two_of_testBit _ fun b hb => by
  cases e : x.testBit b with
  | false => rfl
  | true => have := h b e; omega
theorem sq_le {c : RC} : ∀ {ys : List (Nat × SKey)} {ls : List Sw64.Bytes} {vs : List Nat} {a b : Nat}, a ≤ c.txt.length → c.Sq ys ls vs a b → a ≤ b ∧ b ≤ c.txt.length
  | [], _, [], a, b, ha, h => by
    have h : a = b := h
    omega
  | y :: ys, l :: ls, v :: vs, a, b, ha, ⟨m, h1, h2, h3⟩ => by
    have m1 := Mem_le ha h1
    have m2 := At_le m1.2 h2
    have := sq_le m2 h3
    omega
  | [], _, _ :: _, _, _, _, h => h.elim
  | _ :: _, [], _, _, _, _, h => h.elim
  | _ :: _, _ :: _, [], _, _, _, h => h.elim
theorem sq_letters {c : RC} : ∀ {ys : List (Nat × SKey)} {ls : List Sw64.Bytes} {vs : List Nat} {a b : Nat}, a ≤ c.txt.length → ls.length = ys.length → c.Sq ys ls vs a b → ∀ l ∈ ls, 0 < c.LM l
  | [], [], _, _, _, _, _, _ => fun _ h => by cases h
  | y :: ys, l :: ls, v :: vs, a, b, ha, hl, ⟨m, h1, h2, h3⟩ => fun k hk => by
    have m1 := Mem_le ha h1
    have m2 := At_le m1.2 h2
    rcases List.mem_cons.mp hk with e | hk
    · rw [e]; exact bit_pos (LM_bit.mpr ⟨m1.2, h2⟩)
    · exact sq_letters m2 (by simpa using hl) h3 k hk
  | [], _ :: _, _, _, _, _, h, _ => by cases h
  | _ :: _, [], _, _, _, _, _, h => h.elim
  | _ :: _, _ :: _, [], _, _, _, _, h => h.elim
theorem says_good {c : RC} {w : WayD} {vs : List Nat} {a b : Nat} (ha : a ≤ c.txt.length) (hl : w.letters.length = w.slots.length + 1) (h : c.WSays w vs a b) : c.good w = true := by
  obtain ⟨h1, h2⟩ := h
  obtain ⟨fx, ls, ys⟩ := w
  cases ls with
  | nil => cases hl
  | cons l ls =>
    have m := At_le ha h1
    have := sq_letters m (by simpa using hl) h2
    unfold RC.good
    rw [List.all_eq_true]
    intro k hk
    rcases List.mem_cons.mp hk with e | hk
    · rw [e]; exact decide_eq_true (bit_pos (LM_bit.mpr ⟨ha, h1⟩))
    · exact decide_eq_true (this k hk)
theorem sq_snoc {c : RC} {y : Nat × SKey} {l : Sw64.Bytes} : ∀ {ys : List (Nat × SKey)} {ls : List Sw64.Bytes} {a b : Nat}, ls.length = ys.length →
    ((∃ vs, c.Sq (ys ++ [y]) (ls ++ [l]) vs a b) ↔ ∃ vs m v m1, c.Sq ys ls vs a m ∧ c.Mem y.2 v m m1 ∧ c.At m1 l = true ∧ b = m1 + l.length)
  | [], [], a, b, _ => by
    constructor
    · rintro ⟨vs, h⟩
      match vs, h with
      | [v], ⟨m, h1, h2, h3⟩ => exact ⟨[], a, v, m, rfl, h1, h2, h3.symm⟩
      | _ :: _ :: _, ⟨m, _, _, h3⟩ => exact h3.elim
    · rintro ⟨vs, m, v, m1, h1, h2, h3, h4⟩
      match vs, h1 with
      | [], h1 =>
        have h1 : a = m := h1
        subst h1
        exact ⟨[v], m1, h2, h3, h4.symm⟩
  | z :: ys, k :: ls, a, b, hl => by
    have ih := fun a b => sq_snoc (c := c) (y := y) (l := l) (ys := ys) (ls := ls) (a := a) (b := b) (by simpa using hl)
    constructor
    · rintro ⟨vs, h⟩
      match vs, h with
      | u :: vs, ⟨p, h1, h2, h3⟩ =>
        obtain ⟨vs', m, v, m1, q1, q2, q3, q4⟩ := (ih _ _).mp ⟨vs, h3⟩
        exact ⟨u :: vs', m, v, m1, ⟨p, h1, h2, q1⟩, q2, q3, q4⟩
    · rintro ⟨vs, m, v, m1, h1, h2, h3, h4⟩
      match vs, h1 with
      | u :: vs, ⟨p, g1, g2, g3⟩ =>
        obtain ⟨vs', q⟩ := (ih (p + k.length) b).mpr ⟨vs, m, v, m1, g3, h2, h3, h4⟩
        exact ⟨u :: vs', p, g1, g2, q⟩
  | [], _ :: _, _, _, h => by cases h
  | _ :: _, [], _, _, h => by cases h
/-- the ends of the first slots -/
structure Ends (c : RC) (w : WayD) (a j E : Nat) : Prop where
  bit : ∀ m, E.testBit m = true ↔ ∃ vs, c.Sq (w.slots.take j) (w.letters.tail.take j) vs (a + (w.letters.headD []).length) m
theorem Ends.zero {c : RC} {w : WayD} {a : Nat} : Ends c w a 0 (1 <<< (a + (w.letters.headD []).length)) := ⟨fun m => by
  rw [Nat.shiftLeft_eq, Nat.one_mul, Nat.testBit_two_pow, decide_eq_true_iff, List.take_zero, List.take_zero]
  constructor
  · intro h; exact ⟨[], h⟩
  · rintro ⟨vs, h⟩
    match vs, h with
    | [], h => exact h⟩
theorem Ends.lt {c : RC} {w : WayD} {a j E : Nat} (h : Ends c w a j E) (ha : a + (w.letters.headD []).length ≤ c.txt.length) : E < 2 ^ (c.txt.length + 1) := lt_of_bits fun b hb => by
  obtain ⟨vs, q⟩ := (h.bit b).mp hb
  exact (sq_le ha q).2
theorem Ends.next {c : RC} {w : WayD} {a j E : Nat} {y : Nat × SKey} {l : Sw64.Bytes} (h : Ends c w a j E) (ha : a + (w.letters.headD []).length ≤ c.txt.length) (hl : w.letters.length = w.slots.length + 1) (hy : w.slots[j]? = some y) (hk : w.letters[j + 1]? = some l) :
    Ends c w a (j + 1) ((c.EU y.2 E &&& c.LM l) <<< l.length) := ⟨fun m => by
  have hk2 : w.letters.tail[j]? = some l := by rw [List.getElem?_tail]; exact hk
  have hj := (List.getElem?_eq_some_iff.mp hy).1
  rw [take_more hy, take_more hk2, sq_snoc (by rw [List.length_take, List.length_take, List.length_tail]; omega), Nat.testBit_shiftLeft, Bool.and_eq_true, decide_eq_true_iff, Nat.testBit_and, Bool.and_eq_true, EU_bit, LM_bit]
  constructor
  · rintro ⟨h1, ⟨h2, p, h3, h4⟩, h5, h6⟩
    obtain ⟨vs, q⟩ := (h.bit p).mp h3
    obtain ⟨_, v, hv⟩ := EM_bit.mp h4
    exact ⟨vs, p, v, m - l.length, q, hv, h6, by omega⟩
  · rintro ⟨vs, p, v, m1, q1, q2, q3, rfl⟩
    have b1 := (sq_le ha q1).2
    have b2 := (Mem_le b1 q2).2
    rw [Nat.add_sub_cancel]
    exact ⟨Nat.le_add_left _ _, ⟨b2, p, (h.bit p).mpr ⟨vs, q1⟩, EM_bit.mpr ⟨b2, v, q2⟩⟩, b2, q3⟩⟩
theorem Ends.done {c : RC} {w : WayD} {a E : Nat} (h : Ends c w a w.slots.length E) (h0 : c.At a (w.letters.headD []) = true) (ha : a ≤ c.txt.length) (hl : w.letters.length = w.slots.length + 1) : E = c.WM w a := bit_eq fun m => by
  have m0 := At_le ha h0
  have e1 : w.letters.tail.take w.slots.length = w.letters.tail := List.take_of_length_le (by rw [List.length_tail]; omega)
  rw [WM_bit, h.bit, List.take_length, e1]
  constructor
  · rintro ⟨vs, q⟩; exact ⟨(sq_le m0 q).2, vs, h0, q⟩
  · rintro ⟨_, vs, q⟩; exact ⟨vs, q.2⟩
end Sn
/-! reading: where numbers of a way, of a stretch can end -/
namespace Sn
open PySem PySem.Spec PyProof.Rows L2
open SpecMath (Good)
/-- a way, as a reading wants it -/
structure WayOk (c : RC) (w : WayD) (g : Nat) : Prop where
  ll : w.letters.length = w.slots.length + 1
  s8 : w.slots.length ≤ 8
  lt : ∀ l ∈ w.letters, l.length ≤ 1000
  cm : ∀ p ∈ w.slots, p.2 ∈ c.C
  fu : ∀ p ∈ w.slots, ∃ f, g = f + 1 ∧ p.2.2.2 < 2 ^ f
  wt : ∀ p ∈ w.slots, p.1 < 2 ^ 64
theorem way_ok {c : RC} {A : Ad} (R0 : RCok c A) {y : SKey} (hy : y ∈ c.C) {f : Nat} (hf : y.2.2 < 2 ^ f) {w : WayD} (hw : w ∈ waysIn c.S y) : WayOk c w f := by
  obtain ⟨k8, hlh, hM⟩ := R0.ok y hy
  obtain ⟨l1, l2⟩ := ways_letters R0.G hw
  refine ⟨l1, l2, fun l hl => ?_, fun p hp => R0.cw y hy w hw p hp, fun p hp => ?_, fun p hp => ?_⟩
  · obtain ⟨z, hz, ⟨z0, zl, rfl⟩ | ⟨h0, b, hb, s, hs, o1, o2, rfl⟩⟩ := waysIn_mem R0.G hw
    · rw [List.mem_singleton.mp hl]
      have h1 : ∀ ps : List Pc, (∀ x ∈ ps, (plet x.2).length ≤ 40) → (ps.flatMap fun x => plet x.2).length ≤ ps.length * 40 := fun ps h => flatMap_len h
      have h2 := rule_short (R0.G.rule (mem_meet hz))
      have h3 := (SpecMath.rule_pieces (R0.G.rule (mem_meet hz))).1
      exact Nat.le_trans (h1 _ h2) (by omega)
    · have hfa := shape_facts (R0.G.rule (mem_meet hz)) h0 hs
      have hl : l ∈ s.letters := hl
      have : l.length ≤ s.letters.flatten.length := by
        obtain ⟨i, hi⟩ := List.mem_iff_getElem?.mp hl
        have := flat_more hi
        have := flat_le (ls := s.letters) (i + 1)
        omega
      have := hfa.len
      omega
  · obtain ⟨h1, h2, _⟩ := slots_half R0.G hlh hM hw hp
    cases f with
    | zero => simp at hf; omega
    | succ f => exact ⟨f, rfl, by rw [Nat.pow_succ] at hf; omega⟩
  · obtain ⟨z, hz, ⟨z0, zl, rfl⟩ | ⟨h0, b, hb, s, hs, o1, o2, rfl⟩⟩ := waysIn_mem R0.G hw
    · cases hp
    · have hp : p ∈ s.sl.map (slotD z.1.by_ (common b.1 s.q) (common b.2 s.r)) := hp
      obtain ⟨x, hx, rfl⟩ := List.mem_map.mp hp
      have hok := R0.G.rule (mem_meet hz)
      obtain ⟨_, db, _⟩ := SpecMath.rule_by hok h0
      have hMv : Sw64.MOST = 1000000000000000 := by decide
      have := SpecMath.rule_base hok
      unfold slotD
      split
      · show z.1.by_ < _; omega
      · show 1 < _; omega
section
variable {P : Program} {w : World} {K : PySem.W.Frag} {mg : Str → Option Value} {base : Heap} {A : Ad}
theorem RInv.wayAt {c : RC} {G : Gh} {x : Option (Addr × V)} {H : Hp} (I : RInv c A G x H) {a : Addr} {wd : WayD} (h : G a = some (.way wd)) (hm : HasM H a) : ∃ dx ll wl sl ml e sas, H a = some (.ins A.C_Way dx (F_Way (.int (wd.fixed : Nat)) (.ref ll) (.ref wl) (.ref sl) (.ref ml) (.ref e))) ∧ LetAt c.F ll wd.letters ∧ NumsAt G wl (wd.slots.map fun y => y.1) ∧
    G sl = some (.frz (.lst (refs sas))) ∧ All2 (fun a y => G a = some (.str y.2)) sas wd.slots ∧ G e = some (.we wd) ∧ NumsAt G ml (wd.letters.map c.LM) := by
  obtain ⟨dx, ll, wl, sl, mv, e, sas, h1, h2, h3, h4, h5, h6, h7⟩ := I.ok a _ h
  rcases h7 with rfl | ⟨ml, rfl, h8⟩
  · obtain ⟨o, q1, C, dx', fs, ml, rfl, q2⟩ := hm
    rw [h1] at q1
    cases q1
    rw [way_masks] at q2
    cases q2
  · exact ⟨dx, ll, wl, sl, ml, e, sas, h1, h2, h3, h4, h5, h6, h8⟩
def spEnds (A : Ad) (f : Nat) : Sp := fun vs H Q _ => ∃ (c : RC) (G : Gh) (rd sa : Addr) (y : SKey) (M : Nat), vs = [.ref rd, .ref sa, .int (M : Int)] ∧ RCok c A ∧ RInv c A G none H ∧ ReadAt c A G rd ∧ G sa = some (.str y) ∧ y ∈ c.C ∧ (∃ f', f = f' + 1 ∧ y.2.2 < 2 ^ f') ∧ M < 2 ^ (c.txt.length + 1) ∧
  ∀ H' G', Ext G G' H H' → RInv c A G' none H' → Q (.int (c.EU y M : Nat)) H'
def spFrom (A : Ad) (f : Nat) : Sp := fun vs H Q _ => ∃ (c : RC) (G : Gh) (rd sa : Addr) (y : SKey) (a : Nat), vs = [.ref rd, .ref sa, .int (a : Int)] ∧ RCok c A ∧ RInv c A G none H ∧ ReadAt c A G rd ∧ G sa = some (.str y) ∧ y ∈ c.C ∧ (∃ f', f = f' + 1 ∧ y.2.2 < 2 ^ f') ∧ a ≤ c.txt.length ∧
  ∀ H' G', Ext G G' H H' → RInv c A G' none H' → Q (.int (c.EM y a : Nat)) H'
def spWayEnds (A : Ad) (g : Nat) : Sp := fun vs H Q _ => ∃ (c : RC) (G : Gh) (rd wa : Addr) (wd : WayD) (a : Nat), vs = [.ref rd, .ref wa, .int (a : Int)] ∧ RCok c A ∧ RInv c A G none H ∧ ReadAt c A G rd ∧ G wa = some (.way wd) ∧ HasM H wa ∧ WayOk c wd g ∧ a ≤ c.txt.length ∧ c.At a (wd.letters.headD []) = true ∧
  ∀ H' G', Ext G G' H H' → RInv c A G' none H' → Q (.int (c.WM wd a : Nat)) H'
theorem ok_way_ends (T : Top K mg A) {g : Nat} (IH : FnOk P w K mg base CX0 (3 * g + 9) A.f_Reading_ends_of A.d_Reading_ends_of P_Reading_ends_of (spEnds A g)) : FnOk P w K mg base CX0 (3 * g + 10) A.f_Reading_way_ends A.d_Reading_way_ends P_Reading_way_ends (spWayEnds A g) := by
  refine T.F_Reading_way_ends.ok sc_Reading_way_ends (fun vs H Q E h => ?_) (fun cdv _ outer s H vs Q E hr h => ?_)
  · obtain ⟨_, _, _, _, _, _, rfl, _⟩ := h
    rfl
  have hu := hu_of hr
  refine ⟨_, (pss_cons (ps_if (pt_cmp (pc_dnotin hu (pv 2) (pe_fld (pv 1) rfl)))
    (pss_cons (ps_set (i := 3) sc_Reading_way_ends.nd rfl (Or.inl rfl) (pe_op op_shlNN pe_int (pe_op op_add (pv 2) (pe_callB call_len_seq (by rfl) T.n_len PySem.boot_len (pa_cons (pe_ix ix_list (pe_fld (pv 1) rfl) pe_int (fun _ _ => rfl)) pa_nil)))))
    (pss_cons (ps_for PassesOwn.never rfl (pi_enum (by rfl) T.n_enumerate (pa_cons (pe_fld (pv 1) rfl) pa_nil)) (pg_tup rfl (pgs_cons (pg_name (i := 4) sc_Reading_way_ends.nd rfl (Or.inl rfl)) (pgs_cons (pg_name (i := 5) sc_Reading_way_ends.nd rfl (Or.inl rfl)) pgs_nil)))
    (pss_cons (ps_set (i := 3) sc_Reading_way_ends.nd rfl (Or.inl rfl) (pe_op op_andN (pe_meth (pv 0) T.c_Reading T.M_Reading_ends_of IH (hr.mono (by omega)) (b_Reading_ends_of T) .nil pass0 (pa_cons (pv 5) (pa_cons (pv 3) pa_nil))) (pe_ix ix_list (pe_fld (pv 1) rfl) (pe_op op_add (pv 4) pe_int) (fun _ _ => rfl))))
    (pss_one (ps_set (i := 3) sc_Reading_way_ends.nd rfl (Or.inl rfl) (pe_op op_shlNN (pv 3) (pe_callB call_len_seq (by rfl) T.n_len PySem.boot_len (pa_cons (pe_ix ix_list (pe_fld (pv 1) rfl) (pe_op op_add (pv 4) pe_int) (fun _ _ => rfl)) pa_nil)))))))
    (pss_one (ps_dput hu (pe_fld (pv 1) rfl) (pv 2) (pv 3) rfl))))
    pss_nil)
    (pss_one (ps_ret (pe_dget hu (pe_fld (pv 1) rfl) (pv 2) (fun _ _ => rfl))))), ?_⟩
  obtain ⟨c, G, rd, wa, wd, a, rfl, R0, I, hR, gw, hm, W, ha, h0, kQ⟩ := h
  obtain ⟨dx, ll, wl, sl, ml, e, sas, o1, ⟨las, o2, o3⟩, o4, o5, o6, o7, o8⟩ := I.wayAt gw hm
  obtain ⟨kvs, k1, k2⟩ := I.ok e _ o7
  have ha' := At_le ha h0
  have tx := R0.tx
  refine ⟨_, rfl, _, rfl, _, _, _, _, _, rfl, o1, T.c_Way, T.n_Way_known_ends, F_Way_known_ends, _, _, rfl, DGet.k (k := Sum.inl (a : Int)) k1, _, rfl, ?_⟩
  cases ek : valV kvs (Sum.inl (a : Int)) with
  | some v =>
    refine if_false_of rfl ?_
    obtain ⟨a', q1, q2, rfl⟩ := DOk.get k2.2 ek
    have q1 : (a : Int) = (a' : Int) := Sum.inl.inj q1
    have q1 : a = a' := by omega
    subst q1
    have g := DGet.k (k := Sum.inl (a : Int)) k1
    rw [ek] at g
    exact ⟨_, rfl, _, _, _, _, _, rfl, o1, T.c_Way, T.n_Way_known_ends, F_Way_known_ends, _, rfl, _, _, rfl, g, kQ H G Ext.rfl I⟩
  | none =>
    refine if_true_of rfl ?_
    obtain ⟨l0, hl0⟩ : ∃ l0, wd.letters[0]? = some l0 := ⟨wd.letters[0]'(by rw [W.ll]; omega), List.getElem?_eq_getElem _⟩
    have eh : wd.letters.headD [] = l0 := by rw [List.headD_eq_head?_getD, List.head?_eq_getElem?, hl0] <;> rfl
    obtain ⟨la0, hla0, hb0⟩ := o3.getx hl0
    have o2' := I.sF _ _ o2
    have hb0' := I.sF _ _ hb0
    have hl0l := W.lt l0 (List.mem_of_getElem? hl0)
    refine ⟨_, rfl, _, rfl, _, _, _, _, _, rfl, o1, T.c_Way, T.n_Way_letters, F_Way_letters, ll, _, _, _, rfl, rfl, SqL.of o2', atI_nat (j := 0) (refs_get hla0), la0, _, rfl, .inl (SqL.of hb0'), _, _, rfl, rfl, 1, a + l0.length, rfl, by rw [bnums_length] <;> rfl, ⟨1, by decide, by decide, by omega⟩, ?_⟩
    refine ⟨_, rfl, _, _, _, _, _, rfl, o1, T.c_Way, T.n_Way_stretches, F_Way_stretches, sl, _, rfl, SqL.of (I.frz o5), for_it (walk_enum (K := K) (a := sl) (xs := refs sas))
      (fun j σ H' => (∃ v4 v5, ∃ E' : Nat, σ = [some (.ref rd), some (.ref wa), some (.int (a : Int)), some (.int (E' : Int)), v4, v5] ∧ Ends c wd a j E') ∧ ∃ G', Ext G G' H H' ∧ RInv c A G' none H')
      ⟨⟨none, none, _, rfl, by rw [← eh]; exact Ends.zero⟩, G, Ext.rfl, I⟩ (fun j σ H' _ p => let ⟨_, G', x', I'⟩ := p; SqL.of (I'.frz (x'.le _ _ o5))) ?_ ?_⟩
    · rintro j v σ H1 H2 hj ⟨⟨v4, v5, E', rfl, hE⟩, G', x', I'⟩ ⟨tp, x, y, rfl, htp, rfl, e1, e2⟩
      rw [refs_length] at hj
      have hx : x = .int (j : Nat) := (Option.some.inj e1).symm
      subst hx
      obtain ⟨sa, yy, rfl, hyy, gy⟩ := objs_get o6 e2
      have s2 := same_new htp (.tup [.int (j : Nat), .ref sa])
      have I2 := I'.new htp (.tup [.int (j : Nat), .ref sa])
      have x2 := x'.trans (Ext.same s2)
      obtain ⟨dxr, ms, bm, kvr, r1, r2, r3, r4⟩ := id hR
      have hr2 := I2.frz (x'.le _ _ r1)
      have hjs := (List.getElem?_eq_some_iff.mp hyy).1
      have hym := List.mem_of_getElem? hyy
      obtain ⟨l, hl⟩ : ∃ l, wd.letters[j + 1]? = some l := ⟨wd.letters[j + 1]'(by rw [W.ll]; omega), List.getElem?_eq_getElem _⟩
      have hll := W.lt l (List.mem_of_getElem? hl)
      have ez : ((j : Nat) : Int) + 1 = ((j + 1 : Nat) : Int) := by omega
      refine ⟨tp, _, rfl, SqT.of upd_same, rfl, _, _, rfl, _, _, rfl, rfl, ?_⟩
      refine ⟨_, rfl, _, _, _, rfl, hr2, F_Reading_no_ends_of, _, rfl, _, rfl, c, G', rd, sa, yy.2, E', rfl, R0, I2, hR.mono x'.le, x'.le _ _ gy, W.cm yy hym, W.fu yy hym, hE.lt ha', fun H3 G3 x3 I3 => ?_⟩
      have x23 := x2.trans x3
      obtain ⟨dx', ll', wl', sl', ml', e', sas', p1, ⟨las', p2, p3⟩, p4, p5, p6, p7, p8⟩ := I3.wayAt (x23.le _ _ gw) (x23.hm _ hm)
      have p2' := I3.sF _ _ p2
      obtain ⟨la, hla, hlb⟩ := p3.getx hl
      have hlb' := I3.sF _ _ hlb
      have hmk : (nums (wd.letters.map c.LM))[j + 1]? = some (.int (c.LM l : Nat)) := by
        unfold nums
        rw [List.getElem?_map, List.getElem?_map, hl] <;> rfl
      refine ⟨_, rfl, _, _, _, _, _, rfl, p1, T.c_Way, T.n_Way_masks, F_Way_masks, _, rfl, _, _, rfl, rfl, ml', _, _, _, rfl, rfl, SqL.of (I3.frz p8), (by rw [ez]; exact atI_nat hmk), _, _, rfl, rfl, ?_⟩
      refine ⟨_, rfl, _, rfl, _, _, _, _, _, rfl, p1, T.c_Way, T.n_Way_letters, F_Way_letters, _, rfl, _, _, rfl, rfl, ll', _, _, _, rfl, rfl, SqL.of p2', (by rw [ez]; exact atI_nat (refs_get hla)), la, _, rfl, .inl (SqL.of hlb'), _, l.length, rfl, by rw [bnums_length], ⟨c.txt.length + 1, ?_, by omega, by omega⟩, ?_⟩
      · refine lt_of_bits fun b hb => ?_
        rw [Nat.testBit_and, Bool.and_eq_true] at hb
        exact (EU_bit.mp hb.1).1
      · exact ⟨⟨_, _, _, rfl, hE.next ha' W.ll hyy hl⟩, G3, x23, I3⟩
    · rintro σ H1 ⟨⟨v4, v5, E', rfl, hE⟩, G', x', I'⟩
      rw [refs_length, o6.length] at hE
      have eE := hE.done h0 ha W.ll
      obtain ⟨dx', ll', wl', sl', ml', e', sas', p1, ⟨las', p2, p3⟩, p4, p5, p6, p7, p8⟩ := I'.wayAt (x'.le _ _ gw) (x'.hm _ hm)
      obtain ⟨kvs', z1, z2⟩ := I'.ok e' _ p7
      have hlen := z2.len ((List.range 301).map fun n => (Sum.inl ((n : Nat) : Int) : L2.Key)) fun k v ⟨b, q1, q2, _⟩ => by
        rw [q1]; exact List.mem_map.mpr ⟨b, List.mem_range.mpr (by omega), rfl⟩
      rw [List.length_map, List.length_range] at hlen
      refine ⟨_, rfl, _, rfl, _, _, _, _, _, rfl, p1, T.c_Way, T.n_Way_known_ends, F_Way_known_ends, _, rfl, _, _, rfl, DPut.k (k := Sum.inl (a : Int)) z1 (by rw [sizeLine_eq]; omega), ?_⟩
      have I2 := I'.set p7 (fun h => (h.notK z1).elim) (o := .dK (putK kvs' (Sum.inl (a : Int)) (.int (E' : Int)))) ⟨_, rfl, z2.set ⟨a, rfl, ha, by rw [eE]⟩⟩
      have x2 : Ext G G' H (upd H1 e' (.dK (putK kvs' (Sum.inl (a : Int)) (.int (E' : Int))))) := x'.trans (Ext.upd_role p7 fun h => (h.notK z1).elim)
      have npe : wa ≠ e' := ne_of p1 z1 (by intro z; cases z)
      have p1' : upd H1 e' (.dK (putK kvs' (Sum.inl (a : Int)) (.int (E' : Int)))) wa = _ := (upd_ne npe).trans p1
      have g := DGet.k (k := Sum.inl (a : Int)) (a := e') (H := upd H1 e' (.dK (putK kvs' (Sum.inl (a : Int)) (.int (E' : Int))))) upd_same
      rw [valV_put, if_pos rfl] at g
      refine ⟨_, rfl, _, _, _, _, _, rfl, p1', T.c_Way, T.n_Way_known_ends, F_Way_known_ends, _, rfl, _, _, rfl, g, ?_⟩
      rw [eE] at I2 x2 ⊢
      exact kQ _ G' x2 I2
end
end Sn
/-! reading: where numbers of a stretch can end -/
namespace Sn
open PySem PySem.Spec PyProof.Rows L2
open SpecMath (Good)
theorem ways_mem {c : RC} {y : SKey} {w : WayD} (h : w ∈ c.ways y) : w ∈ waysIn c.S y := (List.mem_filter.mp h).1
theorem EM_ways {c : RC} {A : Ad} (R0 : RCok c A) {y : SKey} (hy : y ∈ c.C) {a E : Nat} (ha : a ≤ c.txt.length) (h : ∀ b, E.testBit b = true ↔ b ≤ c.txt.length ∧ ∃ w ∈ c.ways y, ∃ vs, c.WSays w vs a b) : E = c.EM y a := bit_eq fun b => by
  obtain ⟨k8, hlh, hM⟩ := R0.ok y hy
  rw [h, EM_bit]
  constructor
  · rintro ⟨h1, w, hw, vs, hs⟩
    exact ⟨h1, _, ways_sound R0.G hlh hM (ways_mem hw) hs⟩
  · rintro ⟨h1, n, hn⟩
    obtain ⟨w, hw, vs, hs, _⟩ := ways_full R0.G hM hn
    exact ⟨h1, w, List.mem_filter.mpr ⟨hw, says_good ha (ways_letters R0.G hw).1 hs⟩, vs, hs⟩
section
variable {P : Program} {w : World} {K : PySem.W.Frag} {mg : Str → Option Value} {base : Heap} {A : Ad}
theorem ReadAt.at {c : RC} {G : Gh} {x : Option (Addr × V)} {H : Hp} {rd : Addr} (h : ReadAt c A G rd) (I : RInv c A G x H) : ∃ dx ms bm, H rd = some (.ins A.C_Reading dx (F_Reading (.ref ms) (.int (c.txt.length : Nat)) (.ref bm))) :=
  let ⟨dx, ms, bm, _, r1, _⟩ := h
  ⟨dx, ms, bm, I.frz r1⟩
theorem letters0 {c : RC} {w : WayD} {g : Nat} (W : WayOk c w g) : ∃ l0, w.letters[0]? = some l0 ∧ w.letters.headD [] = l0 ∧ (nums (w.letters.map c.LM))[0]? = some (.int (c.LM l0 : Nat)) := by
  obtain ⟨l0, hl0⟩ : ∃ l0, w.letters[0]? = some l0 := ⟨w.letters[0]'(by rw [W.ll]; omega), List.getElem?_eq_getElem _⟩
  refine ⟨l0, hl0, by rw [List.headD_eq_head?_getD, List.head?_eq_getElem?, hl0] <;> rfl, ?_⟩
  unfold nums
  rw [List.getElem?_map, List.getElem?_map, hl0] <;> rfl
theorem ok_ends_from (T : Top K mg A) {g : Nat} (IW : FnOk P w K mg base CX0 (3 * g + 10) A.f_Reading_way_ends A.d_Reading_way_ends P_Reading_way_ends (spWayEnds A g)) : FnOk P w K mg base CX0 (3 * g + 11) A.f_Reading_ends_from A.d_Reading_ends_from P_Reading_ends_from (spFrom A (g + 1)) := by
  refine T.F_Reading_ends_from.ok sc_Reading_ends_from (fun vs H Q E h => ?_) (fun cdv _ outer s H vs Q E hr h => ⟨_, (pss_cons (ps_set (i := 3) sc_Reading_ends_from.nd rfl (Or.inl rfl) pe_int)
    (pss_cons (ps_for PassesOwn.never rfl (pi_list (pe_meth (pv 0) T.c_Reading T.M_Reading_ways_of (ok_Reading_ways_of T) (hr.mono (by omega)) (b_Reading_ways_of T) .nil pass0 (pa_cons (pv 1) pa_nil))) (pg_name (i := 4) sc_Reading_ends_from.nd rfl (Or.inl rfl))
    (pss_one (ps_if (pt_val (pe_call (ok_has_place T) (hr.mono (by omega)) (by rfl) T.g_has_place T.F_has_place.kp (b_has_place T) .nil pass0 (pa_cons (pe_ix ix_list (pe_fld (pv 4) rfl) pe_int (fun _ _ => rfl)) (pa_cons (pv 2) pa_nil))))
    (pss_one (ps_aug (i := 3) sc_Reading_ends_from.nd rfl (.inl rfl) (pe_meth (pv 0) T.c_Reading T.M_Reading_way_ends IW (hr.mono (by omega)) (b_Reading_way_ends T) .nil pass0 (pa_cons (pv 4) (pa_cons (pv 2) pa_nil))) ip_or))
    pss_nil)))
    (pss_one (ps_ret (pv 3))))), ?_⟩)
  · obtain ⟨_, _, _, _, _, _, rfl, _⟩ := h
    rfl
  obtain ⟨c, G, rd, sa, y, a, rfl, R0, I, hR, gs, hy, ⟨f, hf, hyf⟩, ha, kQ⟩ := h
  have hf : g = f := by omega
  subst hf
  obtain ⟨dxr, ms, bm, hr1⟩ := hR.at I
  refine ⟨_, rfl, _, _, _, rfl, hr1, F_Reading_no_ways_of, _, rfl, c, G, rd, sa, y, rfl, R0, I, hR, gs, hy, fun H1 G1 l x1 I1 hw => ?_⟩
  obtain ⟨as, hw1, hw2⟩ := hw
  refine ⟨l, rfl, ⟨_, SqL.of (I1.frz hw1)⟩, for_list (K := K) (a := l) (xs := refs as)
    (fun i σ H' => (∃ v4, ∃ E' : Nat, σ = [some (.ref rd), some (.ref sa), some (.int (a : Int)), some (.int (E' : Int)), v4] ∧ ∀ b, E'.testBit b = true ↔ b ≤ c.txt.length ∧ ∃ w ∈ (c.ways y).take i, ∃ vs, c.WSays w vs a b) ∧ ∃ G', Ext G1 G' H1 H' ∧ RInv c A G' none H')
    ⟨⟨none, 0, rfl, fun b => by rw [Nat.zero_testBit, List.take_zero]; exact ⟨fun z => (by cases z), fun z => by obtain ⟨_, w, z, _⟩ := z; cases z⟩⟩, G1, Ext.rfl, I1⟩ ?_ ?_ ?_⟩
  · rintro i σ H' _ ⟨_, G', x', I'⟩
    exact SqL.of (I'.frz (x'.le _ _ hw1))
  · rintro i v σ H' hix ⟨⟨v4, E', rfl, hE⟩, G', x', I'⟩
    obtain ⟨wa, wd, rfl, hwd, gw, hm⟩ := objs_get hw2 hix
    have hwm := List.mem_of_getElem? hwd
    have W := way_ok R0 hy hyf (ways_mem hwm)
    have gw' := x'.le _ _ gw
    have hm' := x'.hm _ hm
    obtain ⟨dx, ll, wl, sl, ml, e, sas, o1, _, _, _, _, _, o8⟩ := I'.wayAt gw' hm'
    obtain ⟨l0, hl0, eh, hmk⟩ := letters0 W
    have hR' := hR.mono (x1.le.trans x'.le)
    obtain ⟨dxr', ms', bm', hr2⟩ := hR'.at I'
    refine ⟨_, rfl, _, _, _, _, _, rfl, o1, T.c_Way, T.n_Way_masks, F_Way_masks, ml, _, _, _, rfl, rfl, SqL.of (I'.frz o8), atI_nat (j := 0) hmk, _, rfl, c.LM l0, a, rfl, _, rfl, ?_⟩
    cases hb : (c.LM l0).testBit a with
    | false =>
      refine if_false_of rfl ⟨⟨_, E', rfl, fun b => ?_⟩, G', x', I'⟩
      rw [hE, take_more hwd]
      constructor
      · rintro ⟨h1, w, hw, vs, hs⟩
        exact ⟨h1, w, List.mem_append_left _ hw, vs, hs⟩
      · rintro ⟨h1, w, hw, vs, hs⟩
        rcases List.mem_append.mp hw with hw | hw
        · exact ⟨h1, w, hw, vs, hs⟩
        · rw [List.mem_singleton.mp hw] at hs
          have := hs.1
          rw [eh] at this
          rw [LM_bit.mpr ⟨ha, this⟩] at hb
          cases hb
    | true =>
      have hAt := (LM_bit.mp hb).2
      refine if_true_of rfl ⟨_, rfl, _, rfl, _, _, _, rfl, hr2, F_Reading_no_way_ends, _, rfl, _, rfl, c, G', rd, wa, wd, a, rfl, R0, I', hR', gw', hm', W, ha, by rw [eh]; exact hAt, fun H3 G3 x3 I3 => ⟨_, _, rfl, rfl, ⟨⟨_, _, rfl, fun b => ?_⟩, G3, x'.trans x3, I3⟩⟩⟩
      rw [Nat.testBit_or, Bool.or_eq_true, hE, WM_bit, take_more hwd]
      constructor
      · rintro (⟨h1, w, hw, vs, hs⟩ | ⟨h1, vs, hs⟩)
        · exact ⟨h1, w, List.mem_append_left _ hw, vs, hs⟩
        · exact ⟨h1, wd, List.mem_append_right _ (List.mem_singleton.mpr rfl), vs, hs⟩
      · rintro ⟨h1, w, hw, vs, hs⟩
        rcases List.mem_append.mp hw with hw | hw
        · exact .inl ⟨h1, w, hw, vs, hs⟩
        · rw [List.mem_singleton.mp hw] at hs
          exact .inr ⟨h1, vs, hs⟩
  · rintro σ H' ⟨⟨v4, E', rfl, hE⟩, G', x', I'⟩
    rw [refs_length, hw2.length, List.take_length] at hE
    rw [EM_ways R0 hy ha hE]
    exact ⟨_, rfl, kQ H' G' (x1.trans x') I'⟩
theorem ends_zero {f : Addr} {fd : FuncData} {ps : List Str} {CX : CXT} {k : Nat} : FnOk P w K mg base CX k f fd ps (spEnds A 0) := by
  have no : ∀ vs H Q E, ¬ spEnds A 0 vs H Q E := fun vs H Q E h => by
    obtain ⟨_, _, _, _, _, _, _, _, _, _, _, _, ⟨f', h, _⟩, _⟩ := h
    omega
  exact ⟨fun vs H Q E h => absurd h (no vs H Q E), fun A outer s H args us vs Q E _ _ _ _ h => absurd h (no vs H Q E)⟩
theorem ok_ends_of (T : Top K mg A) : ∀ f : Nat, FnOk P w K mg base CX0 (3 * f + 9) A.f_Reading_ends_of A.d_Reading_ends_of P_Reading_ends_of (spEnds A f)
  | 0 => ends_zero
  | f + 1 => by
    have IF := ok_ends_from (P := P) (w := w) (base := base) T (ok_way_ends T (ok_ends_of T f))
    refine T.F_Reading_ends_of.ok sc_Reading_ends_of (fun vs H Q E h => ?_) (fun cdv _ outer s H vs Q E hr h => ?_)
    · obtain ⟨_, _, _, _, _, _, rfl, _⟩ := h
      rfl
    have hu := hu_of hr
    refine ⟨_, (pss_cons (ps_set (i := 3) sc_Reading_ends_of.nd rfl (Or.inl rfl) pe_int)
    (pss_cons (ps_set (i := 4) sc_Reading_ends_of.nd rfl (Or.inl rfl) (pe_fld (pv 1) rfl))
    (pss_cons (ps_for PassesOwn.never rfl (pi_list (pe_call (ok_places_of T) (hr.mono (by omega)) (by rfl) T.g_places_of T.F_places_of.kp (b_places_of T) .nil pass0 (pa_cons (pv 2) pa_nil))) (pg_name (i := 5) sc_Reading_ends_of.nd rfl (Or.inl rfl))
    (pss_cons (ps_if (pt_cmp (pc_dnotin hu (pv 5) (pv 4)))
    (pss_one (ps_dput hu (pv 4) (pv 5) (pe_meth (pv 0) T.c_Reading T.M_Reading_ends_from IF (hr.mono (by omega)) (b_Reading_ends_from T) .nil pass0 (pa_cons (pv 1) (pa_cons (pv 5) pa_nil))) rfl))
    pss_nil)
    (pss_one (ps_aug (i := 3) sc_Reading_ends_of.nd rfl (.inl rfl) (pe_dget hu (pv 4) (pv 5) (fun _ _ => rfl)) ip_or))))
    (pss_one (ps_ret (pv 3)))))), ?_⟩
    obtain ⟨c, G, rd, sa, y, M, rfl, R0, I, hR, gs, hy, ⟨f', hf, hyf⟩, hMl, kQ⟩ := h
    have tx := R0.tx
    obtain ⟨dxs, wv, e, n, hs, ge, gn⟩ := I.strAt gs
    refine ⟨_, rfl, _, _, _, _, _, rfl, hs, T.c_Stretch, T.n_Stretch_known_ends, F_Stretch_known_ends, _, rfl, M, c.txt.length + 1, rfl, hMl, by omega, fun H1 p s1 fp hp => ?_⟩
    have I1 := I.same s1
    have gp : G p = none := I.fresh fp
    refine ⟨p, rfl, ⟨_, SqL.of hp⟩, for_list (K := K) (a := p) (xs := nums (placesOf (c.txt.length + 1) M))
      (fun i σ H' => (∃ v5, ∃ E' : Nat, σ = [some (.ref rd), some (.ref sa), some (.int (M : Int)), some (.int (E' : Int)), some (.ref e), v5] ∧ ∀ b, E'.testBit b = true ↔ ∃ s ∈ (placesOf (c.txt.length + 1) M).take i, (c.EM y s).testBit b = true) ∧ ∃ G', Ext G G' H1 H' ∧ RInv c A G' none H')
      ⟨⟨none, 0, rfl, fun b => by rw [Nat.zero_testBit, List.take_zero]; exact ⟨fun z => (by cases z), fun z => by obtain ⟨s, z, _⟩ := z; cases z⟩⟩, G, Ext.rfl, I1⟩ ?_ ?_ ?_⟩
    · rintro i σ H' _ ⟨_, G', x', I'⟩
      exact SqL.of (x'.tmp hp gp).1
    · rintro i v σ H' hix ⟨⟨v5, E', rfl, hE⟩, G', x', I'⟩
      obtain ⟨st, hst, rfl⟩ := nums_getx hix
      have hsm := (mem_placesOf hMl).mp (List.mem_of_getElem? hst)
      have hsl : st ≤ c.txt.length := by
        rcases Nat.lt_or_ge c.txt.length st with z | z
        · have := Nat.testBit_lt_two_pow (x := M) (i := st) (Nat.lt_of_lt_of_le hMl (Nat.pow_le_pow_right (by decide) z))
          rw [this] at hsm; cases hsm
        · exact z
      obtain ⟨kvs, k1, k2⟩ := I'.ok e _ (x'.le _ _ ge)
      have nx : ∀ b, (E' ||| c.EM y st).testBit b = true ↔ ∃ s ∈ (placesOf (c.txt.length + 1) M).take (i + 1), (c.EM y s).testBit b = true := fun b => by
        rw [Nat.testBit_or, Bool.or_eq_true, hE, take_more hst]
        constructor
        · rintro (⟨s, h1, h2⟩ | h)
          · exact ⟨s, List.mem_append_left _ h1, h2⟩
          · exact ⟨st, List.mem_append_right _ (List.mem_singleton.mpr rfl), h⟩
        · rintro ⟨s, h1, h2⟩
          rcases List.mem_append.mp h1 with h1 | h1
          · exact .inl ⟨s, h1, h2⟩
          · rw [List.mem_singleton.mp h1] at h2
            exact .inr h2
      refine ⟨_, rfl, _, rfl, _, _, rfl, DGet.k (k := Sum.inl (st : Int)) k1, _, rfl, ?_⟩
      cases ek : valV kvs (Sum.inl (st : Int)) with
      | some v =>
        refine if_false_of rfl ?_
        obtain ⟨a', q1, q2, rfl⟩ := DOk.get k2.2 ek
        have q1 : (st : Int) = (a' : Int) := Sum.inl.inj q1
        have q1 : st = a' := by omega
        subst q1
        have g := DGet.k (k := Sum.inl (st : Int)) k1
        rw [ek] at g
        exact ⟨_, rfl, _, rfl, _, rfl, _, _, rfl, g, _, _, rfl, rfl, ⟨_, _, rfl, nx⟩, G', x', I'⟩
      | none =>
        refine if_true_of rfl ?_
        have hR' := hR.mono x'.le
        obtain ⟨dxr', ms', bm', hr2⟩ := hR'.at I'
        refine ⟨_, rfl, _, _, _, rfl, hr2, F_Reading_no_ends_from, _, rfl, _, rfl, c, G', rd, sa, y, st, rfl, R0, I', hR', x'.le _ _ gs, hy, ⟨f', hf, hyf⟩, hsl, fun H3 G3 x3 I3 => ?_⟩
        have ge3 := x3.le _ _ (x'.le _ _ ge)
        obtain ⟨kvs3, z1, z2⟩ := I3.ok e _ ge3
        have hlen := z2.len ((List.range 301).map fun n => (Sum.inl ((n : Nat) : Int) : L2.Key)) fun k v ⟨b, q1, q2, _⟩ => by
          rw [q1]; exact List.mem_map.mpr ⟨b, List.mem_range.mpr (by omega), rfl⟩
        rw [List.length_map, List.length_range] at hlen
        refine ⟨_, rfl, _, rfl, _, _, rfl, DPut.k (k := Sum.inl (st : Int)) z1 (by rw [sizeLine_eq]; omega), ?_⟩
        have I4 := I3.set ge3 (fun h => (h.notK z1).elim) (o := .dK (putK kvs3 (Sum.inl (st : Int)) (.int (c.EM y st : Nat)))) ⟨_, rfl, z2.set ⟨st, rfl, hsl, rfl⟩⟩
        have x4 : Ext G G3 H1 (upd H3 e (.dK (putK kvs3 (Sum.inl (st : Int)) (.int (c.EM y st : Nat))))) := (x'.trans x3).trans (Ext.upd_role ge3 fun h => (h.notK z1).elim)
        have g := DGet.k (k := Sum.inl (st : Int)) (a := e) (H := upd H3 e (.dK (putK kvs3 (Sum.inl (st : Int)) (.int (c.EM y st : Nat))))) upd_same
        rw [valV_put, if_pos rfl] at g
        exact ⟨_, rfl, _, rfl, _, rfl, _, _, rfl, g, _, _, rfl, rfl, ⟨_, _, rfl, nx⟩, G3, x4, I4⟩
    · rintro σ H' ⟨⟨v5, E', rfl, hE⟩, G', x', I'⟩
      rw [nums_length, List.take_length] at hE
      have : E' = c.EU y M := bit_eq fun b => by
        rw [hE, EU_bit]
        constructor
        · rintro ⟨s, h1, h2⟩
          exact ⟨(EM_bit.mp h2).1, s, (mem_placesOf hMl).mp h1, h2⟩
        · rintro ⟨_, s, h1, h2⟩
          exact ⟨s, (mem_placesOf hMl).mpr h1, h2⟩
      rw [this]
      exact ⟨_, rfl, kQ H' G' ((Ext.same s1).trans x') I'⟩
theorem EU_one {c : RC} {y : SKey} {a : Nat} : c.EU y (1 <<< a) = c.EM y a := bit_eq fun b => by
  rw [EU_bit]
  constructor
  · rintro ⟨_, s, h1, h2⟩
    rw [Nat.shiftLeft_eq, Nat.one_mul, Nat.testBit_two_pow, decide_eq_true_iff] at h1
    rw [h1]; exact h2
  · intro h
    exact ⟨(EM_bit.mp h).1, a, by rw [Nat.shiftLeft_eq, Nat.one_mul]; exact Nat.testBit_two_pow_self, h⟩
theorem one_lt {c : RC} {a : Nat} (h : a ≤ c.txt.length) : 1 <<< a < 2 ^ (c.txt.length + 1) := by
  rw [Nat.shiftLeft_eq, Nat.one_mul]
  exact Nat.pow_lt_pow_right (by decide) (by omega)
def spCanBe (A : Ad) (f : Nat) : Sp := fun vs H Q _ => ∃ (c : RC) (G : Gh) (rd sa : Addr) (y : SKey) (a b : Nat), vs = [.ref rd, .ref sa, .int (a : Int), .int (b : Int)] ∧ RCok c A ∧ RInv c A G none H ∧ ReadAt c A G rd ∧ G sa = some (.str y) ∧ y ∈ c.C ∧ (∃ f', f = f' + 1 ∧ y.2.2 < 2 ^ f') ∧ a ≤ c.txt.length ∧
  ∀ H' G', Ext G G' H H' → RInv c A G' none H' → Q (.bl ((c.EM y a).testBit b)) H'
theorem ok_can_be (T : Top K mg A) {f : Nat} : FnOk P w K mg base CX0 (3 * f + 10) A.f_Reading_can_be A.d_Reading_can_be P_Reading_can_be (spCanBe A f) := by
  have IE := ok_ends_of (P := P) (w := w) (base := base) T f
  refine T.F_Reading_can_be.ok sc_Reading_can_be (fun vs H Q E h => ?_) (fun cdv _ outer s H vs Q E hr h => ⟨_, (pss_one (ps_ret (pe_call (ok_has_place T) (hr.mono (by omega)) (by rfl) T.g_has_place T.F_has_place.kp (b_has_place T) .nil pass0 (pa_cons (pe_meth (pv 0) T.c_Reading T.M_Reading_ends_of IE (hr.mono (by omega)) (b_Reading_ends_of T) .nil pass0 (pa_cons (pv 1) (pa_cons (pe_op op_shlNN pe_int (pv 2)) pa_nil))) (pa_cons (pv 3) pa_nil))))), ?_⟩)
  · obtain ⟨_, _, _, _, _, _, _, rfl, _⟩ := h
    rfl
  obtain ⟨c, G, rd, sa, y, a, b, rfl, R0, I, hR, gs, hy, hf, ha, kQ⟩ := h
  obtain ⟨dxr, ms, bm, hr1⟩ := hR.at I
  have tx := R0.tx
  refine ⟨_, rfl, _, _, _, rfl, hr1, F_Reading_no_ends_of, _, rfl, _, rfl, 1, a, rfl, rfl, ⟨1, by decide, by decide, by omega⟩, c, G, rd, sa, y, 1 <<< a, rfl, R0, I, hR, gs, hy, hf, one_lt ha, fun H1 G1 x1 I1 => ?_⟩
  refine ⟨_, rfl, _, b, rfl, ?_⟩
  rw [EU_one]
  exact kQ H1 G1 x1 I1
end
end Sn
/-! reading in plain Lean: lists of numbers -/
namespace Sn
open PySem PySem.Spec PyProof.Rows L2
open SpecMath (Good)
def RC.WMem (c : RC) (w : WayD) (n a b : Nat) : Prop := ∃ vs, c.WSays w vs a b ∧ wval w vs = n
/-- no more than so many -/
def Few (p : Nat → Prop) : Prop := ∀ ns : List Nat, ns.Nodup → (∀ n ∈ ns, p n) → ns.length ≤ 1000000
def Just (p : Nat → Prop) (ns : List Nat) : Prop := ns.Nodup ∧ ∀ n, n ∈ ns ↔ p n
theorem Few.mono {p q : Nat → Prop} (h : Few q) (m : ∀ n, p n → q n) : Few p := fun ns h1 h2 => h ns h1 fun n hn => m n (h2 n hn)
theorem Just.len {p : Nat → Prop} {ns : List Nat} (h : Just p ns) (f : Few p) : ns.length ≤ 1000000 := f ns h.1 fun n hn => (h.2 n).mp hn
theorem nodup_map {α β : Type} {f : α → β} : ∀ {l : List α}, l.Nodup → (∀ x ∈ l, ∀ y ∈ l, f x = f y → x = y) → (l.map f).Nodup
  | [], _, _ => List.nodup_nil
  | x :: l, h, hi => by
    rw [List.nodup_cons] at h
    rw [List.map_cons, List.nodup_cons]
    refine ⟨fun z => ?_, nodup_map h.2 fun a ha b hb => hi a (List.mem_cons_of_mem _ ha) b (List.mem_cons_of_mem _ hb)⟩
    obtain ⟨y, hy, e⟩ := List.mem_map.mp z
    rw [hi y (List.mem_cons_of_mem _ hy) x List.mem_cons_self e] at hy
    exact h.1 hy
theorem Few.map {p q : Nat → Prop} {f : Nat → Nat} (h : Few q) (m : ∀ n, p n → q (f n)) (hi : ∀ x y, p x → p y → f x = f y → x = y) : Few p := fun ns h1 h2 => by
  have := h (ns.map f) (nodup_map h1 fun x hx y hy => hi x y (h2 x hx) (h2 y hy)) fun n hn => by
    obtain ⟨x, hx, rfl⟩ := List.mem_map.mp hn
    exact m x (h2 x hx)
  rwa [List.length_map] at this
theorem Just.map {p q : Nat → Prop} {f : Nat → Nat} {ns : List Nat} (h : Just p ns) (m : ∀ n, q n ↔ ∃ x, p x ∧ f x = n) (hi : ∀ x y, p x → p y → f x = f y → x = y) : Just q (ns.map f) := by
  refine ⟨nodup_map h.1 fun x hx y hy => hi x y ((h.2 x).mp hx) ((h.2 y).mp hy), fun n => ?_⟩
  rw [m, List.mem_map]
  constructor
  · rintro ⟨x, h1, h2⟩; exact ⟨x, (h.2 x).mp h1, h2⟩
  · rintro ⟨x, h1, h2⟩; exact ⟨x, (h.2 x).mpr h1, h2⟩
theorem Just.append {p q r : Nat → Prop} {ns ms : List Nat} (h : Just p ns) (h' : Just q ms) (m : ∀ n, r n ↔ p n ∨ q n) (hd : ∀ n, p n → q n → False) : Just r (ns ++ ms) := by
  refine ⟨?_, fun n => ?_⟩
  · rw [List.nodup_append]
    exact ⟨h.1, h'.1, fun a ha b hb e => hd a ((h.2 a).mp ha) ((h'.2 a).mp (e ▸ hb))⟩
  · rw [m, List.mem_append, h.2, h'.2]
theorem Just.nil {p : Nat → Prop} (h : ∀ n, ¬ p n) : Just p [] := ⟨List.nodup_nil, fun n => ⟨fun z => (by cases z), fun z => (h n z).elim⟩⟩
theorem Just.congr {p q : Nat → Prop} {ns : List Nat} (h : Just p ns) (m : ∀ n, q n ↔ p n) : Just q ns := ⟨h.1, fun n => (h.2 n).trans (m n).symm⟩
/-- a product -/
def prod (f : Nat → Nat → Nat) (xs ys : List Nat) : List Nat := xs.flatMap fun x => ys.map (f x)
theorem Just.prod {p q r : Nat → Prop} {f : Nat → Nat → Nat} {xs ys : List Nat} (h : Just p xs) (h' : Just q ys) (m : ∀ n, r n ↔ ∃ x y, p x ∧ q y ∧ f x y = n) (hi : ∀ x y x' y', p x → q y → p x' → q y' → f x y = f x' y' → x = x' ∧ y = y') : Just r (Sn.prod f xs ys) := by
  refine ⟨?_, fun n => ?_⟩
  · unfold Sn.prod
    rw [List.nodup_iff_pairwise_ne, List.pairwise_flatMap]
    refine ⟨fun x hx => ?_, ?_⟩
    · exact nodup_map h'.1 fun y hy z hz e => (hi x y x z ((h.2 x).mp hx) ((h'.2 y).mp hy) ((h.2 x).mp hx) ((h'.2 z).mp hz) e).2
    · refine (List.nodup_iff_pairwise_ne.mp h.1).imp_of_mem fun {x x'} hx hx' ne a ha b hb e => ?_
      obtain ⟨y, hy, rfl⟩ := List.mem_map.mp ha
      obtain ⟨z, hz, rfl⟩ := List.mem_map.mp hb
      exact ne (hi x y x' z ((h.2 x).mp hx) ((h'.2 y).mp hy) ((h.2 x').mp hx') ((h'.2 z).mp hz) e).1
  · rw [m]
    unfold Sn.prod
    rw [List.mem_flatMap]
    constructor
    · rintro ⟨x, hx, hn⟩
      obtain ⟨y, hy, rfl⟩ := List.mem_map.mp hn
      exact ⟨x, y, (h.2 x).mp hx, (h'.2 y).mp hy, rfl⟩
    · rintro ⟨x, y, hx, hy, rfl⟩
      exact ⟨x, (h.2 x).mpr hx, List.mem_map_of_mem ((h'.2 y).mpr hy)⟩
/-- a way that tells its slots' numbers -/
def Inj (c : RC) (w : WayD) : Prop := ∀ vs vs' a e a' e', c.WSays w vs a e → c.WSays w vs' a' e' → wval w vs = wval w vs' → vs = vs'
/-- no slot -/
theorem wmem0 {c : RC} {w : WayD} {a b : Nat} (h : w.slots = []) (hb : (c.WM w a).testBit b = true) : Just (fun n => c.WMem w n a b) [w.fixed] := by
  obtain ⟨_, vs, hs⟩ := WM_bit.mp hb
  have e : ∀ vs, wval w vs = w.fixed := fun vs => by
    unfold wval
    rw [h]
    cases vs <;> rfl
  refine ⟨by simp, fun n => ?_⟩
  rw [List.mem_singleton]
  constructor
  · intro z; exact ⟨vs, hs, by rw [e, z]⟩
  · rintro ⟨vs', _, z⟩; rw [← z, e]
/-- one slot -/
theorem wmem1 {c : RC} {w : WayD} {p : Nat × SKey} {l0 l1 : Sw64.Bytes} {a b : Nat} (h : w.slots = [p]) (hl : w.letters = [l0, l1]) (hb : (c.WM w a).testBit b = true) :
    c.At a l0 = true ∧ l1.length ≤ b ∧ (∀ v, c.Mem p.2 v (a + l0.length) (b - l1.length) → c.WSays w [v] a b) ∧ (∀ v, wval w [v] = w.fixed + p.1 * v) ∧ ∀ n, c.WMem w n a b ↔ ∃ v, c.Mem p.2 v (a + l0.length) (b - l1.length) ∧ w.fixed + p.1 * v = n := by
  have form : ∀ vs, c.WSays w vs a b ↔ ∃ v, vs = [v] ∧ c.At a l0 = true ∧ ∃ m, c.Mem p.2 v (a + l0.length) m ∧ c.At m l1 = true ∧ m + l1.length = b := fun vs => by
    unfold RC.WSays
    rw [h, hl]
    constructor
    · rintro ⟨h1, h2⟩
      match vs, h2 with
      | [v], ⟨m, q1, q2, q3⟩ => exact ⟨v, rfl, h1, m, q1, q2, q3⟩
      | _ :: _ :: _, ⟨m, _, _, q⟩ => exact q.elim
    · rintro ⟨v, rfl, h1, m, q1, q2, q3⟩
      exact ⟨h1, m, q1, q2, q3⟩
  have val1 : ∀ v, wval w [v] = w.fixed + p.1 * v := fun v => by unfold wval; rw [h]; rfl
  obtain ⟨_, vs, hs⟩ := WM_bit.mp hb
  obtain ⟨v0, rfl, h0, m0, q1, q2, q3⟩ := (form _).mp hs
  have em : b - l1.length = m0 := by omega
  refine ⟨h0, by omega, fun v z1 => (form _).mpr ⟨v, rfl, h0, _, z1, by rw [em]; exact q2, by omega⟩, val1, fun n => ⟨?_, ?_⟩⟩
  · rintro ⟨vs, z1, z2⟩
    obtain ⟨v, rfl, _, m, y1, y2, y3⟩ := (form _).mp z1
    have : b - l1.length = m := by omega
    exact ⟨v, by rw [this]; exact y1, by rw [← z2, val1]⟩
  · rintro ⟨v, z1, z2⟩
    exact ⟨[v], (form _).mpr ⟨v, rfl, h0, _, z1, by rw [em]; exact q2, by omega⟩, by rw [val1, z2]⟩
/-- two slots -/
theorem wmem2 {c : RC} {w : WayD} {p q : Nat × SKey} {l0 l1 l2 : Sw64.Bytes} {a b : Nat} (h : w.slots = [p, q]) (hl : w.letters = [l0, l1, l2]) (hb : (c.WM w a).testBit b = true) :
    c.At a l0 = true ∧ l2.length ≤ b ∧ (∀ v u m, c.Mem p.2 v (a + l0.length) m → c.At m l1 = true → c.Mem q.2 u (m + l1.length) (b - l2.length) → c.WSays w [v, u] a b) ∧
      (∀ v u, wval w [v, u] = w.fixed + p.1 * v + q.1 * u) ∧ ∀ n, c.WMem w n a b ↔ ∃ m v u, c.Mem p.2 v (a + l0.length) m ∧ c.At m l1 = true ∧ c.Mem q.2 u (m + l1.length) (b - l2.length) ∧ w.fixed + p.1 * v + q.1 * u = n := by
  have form : ∀ vs, c.WSays w vs a b ↔ ∃ v u, vs = [v, u] ∧ c.At a l0 = true ∧ ∃ m, c.Mem p.2 v (a + l0.length) m ∧ c.At m l1 = true ∧ ∃ k, c.Mem q.2 u (m + l1.length) k ∧ c.At k l2 = true ∧ k + l2.length = b := fun vs => by
    unfold RC.WSays
    rw [h, hl]
    constructor
    · rintro ⟨h1, h2⟩
      match vs, h2 with
      | [v, u], ⟨m, q1, q2, k, q3, q4, q5⟩ => exact ⟨v, u, rfl, h1, m, q1, q2, k, q3, q4, q5⟩
      | [_], ⟨m, _, _, q⟩ => exact q.elim
      | _ :: _ :: _ :: _, ⟨m, _, _, _, _, _, q⟩ => exact q.elim
    · rintro ⟨v, u, rfl, h1, m, q1, q2, k, q3, q4, q5⟩
      exact ⟨h1, m, q1, q2, k, q3, q4, q5⟩
  have val2 : ∀ v u, wval w [v, u] = w.fixed + p.1 * v + q.1 * u := fun v u => by
    unfold wval
    rw [h]
    show w.fixed + (p.1 * v + (q.1 * u + 0)) = _
    omega
  obtain ⟨_, vs, hs⟩ := WM_bit.mp hb
  obtain ⟨v0, u0, rfl, h0, m0, q1, q2, k0, q3, q4, q5⟩ := (form _).mp hs
  have ek : b - l2.length = k0 := by omega
  have back : ∀ v u m, c.Mem p.2 v (a + l0.length) m → c.At m l1 = true → c.Mem q.2 u (m + l1.length) (b - l2.length) → c.WSays w [v, u] a b := fun v u m z1 z2 z3 =>
    (form _).mpr ⟨v, u, rfl, h0, m, z1, z2, _, z3, by rw [ek]; exact q4, by omega⟩
  refine ⟨h0, by omega, back, val2, fun n => ⟨?_, ?_⟩⟩
  · rintro ⟨vs, z1, z2⟩
    obtain ⟨v, u, rfl, _, m, y1, y2, k, y3, y4, y5⟩ := (form _).mp z1
    have : b - l2.length = k := by omega
    exact ⟨m, v, u, y1, y2, by rw [this]; exact y3, by rw [← z2, val2]⟩
  · rintro ⟨m, v, u, z1, z2, z3, z4⟩
    exact ⟨[v, u], back v u m z1 z2 z3, by rw [val2, z4]⟩
end Sn
/-! reading: the numbers of a way -/
namespace Sn
open PySem PySem.Spec PyProof.Rows L2
open SpecMath (Good)
section
variable {P : Program} {w : World} {K : PySem.W.Frag} {mg : Str → Option Value} {base : Heap} {A : Ad}
def spNums (A : Ad) (f : Nat) : Sp := fun vs H Q _ => ∃ (c : RC) (G : Gh) (rd sa : Addr) (y : SKey) (a b : Nat), vs = [.ref rd, .ref sa, .int (a : Int), .int (b : Int)] ∧ RCok c A ∧ RInv c A G none H ∧ ReadAt c A G rd ∧ G sa = some (.str y) ∧ y ∈ c.C ∧ (∃ f', f = f' + 1 ∧ y.2.2 < 2 ^ f') ∧ a ≤ c.txt.length ∧ b ≤ c.txt.length ∧ Few (fun n => c.Mem y n a b) ∧
  ∀ H' G' l ns, Ext G G' H H' → RInv c A G' none H' → NumsAt G' l ns → Just (fun n => c.Mem y n a b) ns → Q (.ref l) H'
def pairF (w : WayD) (p q : Nat × SKey) (x y : Nat) : Nat := w.fixed + p.1 * x + q.1 * y
def spPair (A : Ad) (g : Nat) : Sp := fun vs H Q _ => ∃ (c : RC) (G : Gh) (rd wa t1 t2 : Addr) (wd : WayD) (p q : Nat × SKey) (u v : Nat × Nat), vs = [.ref rd, .ref wa, .ref t1, .ref t2] ∧ RCok c A ∧ RInv c A G none H ∧ ReadAt c A G rd ∧ G wa = some (.way wd) ∧ WayOk c wd g ∧ wd.slots = [p, q] ∧
  H t1 = some (tupI u) ∧ G t1 = none ∧ H t2 = some (tupI v) ∧ G t2 = none ∧ u.1 ≤ c.txt.length ∧ u.2 ≤ c.txt.length ∧ v.1 ≤ c.txt.length ∧ v.2 ≤ c.txt.length ∧
  Few (fun n => c.Mem p.2 n u.1 u.2) ∧ Few (fun n => c.Mem q.2 n v.1 v.2) ∧ Few (fun n => ∃ x y, c.Mem p.2 x u.1 u.2 ∧ c.Mem q.2 y v.1 v.2 ∧ pairF wd p q x y = n) ∧
  (∀ x y x' y', c.Mem p.2 x u.1 u.2 → c.Mem q.2 y v.1 v.2 → c.Mem p.2 x' u.1 u.2 → c.Mem q.2 y' v.1 v.2 → pairF wd p q x y = pairF wd p q x' y' → x = x' ∧ y = y') ∧
  ∀ H' G' l ns, Ext G G' H H' → RInv c A G' none H' → H' l = some (.lst (nums ns)) → Just (fun n => ∃ x y, c.Mem p.2 x u.1 u.2 ∧ c.Mem q.2 y v.1 v.2 ∧ pairF wd p q x y = n) ns → Q (.ref l) H'
theorem prod_more {f : Nat → Nat → Nat} {xs ys : List Nat} {i x : Nat} (h : xs[i]? = some x) : Sn.prod f (xs.take (i + 1)) ys = Sn.prod f (xs.take i) ys ++ ys.map (f x) := flatMap_more h
theorem ok_pair (T : Top K mg A) {g : Nat} (IN : FnOk P w K mg base CX0 (3 * g + 12) A.f_Reading_numbers_of A.d_Reading_numbers_of P_Reading_numbers_of (spNums A g)) : FnOk P w K mg base CX0 (3 * g + 13) A.f_Reading_pair_numbers A.d_Reading_pair_numbers P_Reading_pair_numbers (spPair A g) := by
  refine T.F_Reading_pair_numbers.ok sc_Reading_pair_numbers (fun vs H Q E h => ?_) (fun cdv _ outer s H vs Q E hr h => ⟨_, (pss_cons (ps_set (i := 4) sc_Reading_pair_numbers.nd rfl (Or.inl rfl) (pe_meth (pv 0) T.c_Reading T.M_Reading_numbers_of IN (hr.mono (by omega)) (b_Reading_numbers_of T) .nil pass0 (pa_cons (pe_ix ix_list (pe_fld (pv 1) rfl) pe_int (fun _ _ => rfl)) (pa_cons (pe_ix ix_tup (pv 3) pe_int (fun _ _ => rfl)) (pa_cons (pe_ix ix_tup (pv 3) pe_int (fun _ _ => rfl)) pa_nil)))))
    (pss_cons (ps_setLc (i := 6) (own := [("part", 5)]) (g := gName 5) (tt := tYes) (te := tOp _ (tOp (rIxL K) (tFld K (tVar 1) "weights") (tC (.int 1))) (tVar 5)) rfl sc_Reading_pair_numbers.nd rfl rfl (sw_true rfl rfl rfl (by decide +kernel)) (pi_list (pv 4)) (blkOk_by (own := [("part", 5)]) (N := N_Reading_pair_numbers) (sc := defScope s_Reading_pair_numbers) (by decide +kernel)) (fun _ _ _ _ _ => pg_name (i := 5) sc_Reading_pair_numbers.nd rfl (Or.inl rfl)) (fun _ _ _ _ _ => by exact (pts_nil)) (fun _ _ _ _ _ => by exact (pe_op op_mul (pe_ix ix_list (pe_fld (pv 1) rfl) pe_int (fun _ _ => rfl)) (pv 5))))
    (pss_cons (ps_set (i := 7) sc_Reading_pair_numbers.nd rfl (Or.inl rfl) (pe_lst pa_nil))
    (pss_cons (ps_for PassesOwn.never rfl (pi_list (pe_meth (pv 0) T.c_Reading T.M_Reading_numbers_of IN (hr.mono (by omega)) (b_Reading_numbers_of T) .nil pass0 (pa_cons (pe_ix ix_list (pe_fld (pv 1) rfl) pe_int (fun _ _ => rfl)) (pa_cons (pe_ix ix_tup (pv 2) pe_int (fun _ _ => rfl)) (pa_cons (pe_ix ix_tup (pv 2) pe_int (fun _ _ => rfl)) pa_nil))))) (pg_name (i := 5) sc_Reading_pair_numbers.nd rfl (Or.inl rfl))
    (pss_cons (ps_set (i := 8) sc_Reading_pair_numbers.nd rfl (Or.inr rfl) (pe_op op_add (pe_fld (pv 1) rfl) (pe_op op_mul (pe_ix ix_list (pe_fld (pv 1) rfl) pe_int (fun _ _ => rfl)) (pv 5))))
    (pss_one (ps_expr (pe_bm PySem.F.plainAttrs_list PySem.F.slot_list_extend PySem.F.type_list_extend mt_extend (pv 7) (pa_cons (by exact (pe_lc (own := [("more", 9)]) (g := gName 9) (tt := tYes) (te := tOp _ (tVar 8) (tVar 9)) rfl sc_Reading_pair_numbers.nd (pi_list (pv 6)) (blkOk_by (own := [("more", 9)]) (N := N_Reading_pair_numbers) (sc := defScope s_Reading_pair_numbers) (by decide +kernel)) (fun _ _ _ _ _ => pg_name (i := 9) sc_Reading_pair_numbers.nd rfl (Or.inl rfl)) (fun _ _ _ _ _ => by exact (pts_nil)) (fun _ _ _ _ _ => by exact (pe_op op_add (pv 8) (pv 9))))) pa_nil))))))
    (pss_one (ps_ret (pv 7))))))), ?_⟩)
  · obtain ⟨_, _, _, _, _, _, _, _, _, _, _, rfl, _⟩ := h
    rfl
  obtain ⟨c, G, rd, wa, t1, t2, wd, p, q, u, v, rfl, R0, I, hR, gw, W, hsl, ht1, gt1, ht2, gt2, u1, u2, v1, v2, F0, F1, FP, hinj, kQ⟩ := h
  obtain ⟨dx, ll, wl, sl, mv, e, sas, o1, o2, o3, o4, o5, o6, _⟩ := I.ok wa _ gw
  obtain ⟨dxr, ms, bm, hr1⟩ := hR.at I
  rw [hsl] at o5 o3
  obtain ⟨sa0, e0, g0⟩ := o5.getx (i := 0) (x := p) rfl
  obtain ⟨sa1, e1, g1⟩ := o5.getx (i := 1) (x := q) rfl
  have o4' := I.frz o4
  have hwl : ∀ {G' H'}, Le G G' → RInv c A G' none H' → H' wl = some (.lst (nums [p.1, q.1])) := fun l I' => I'.frz (l _ _ o3)
  have pm : p ∈ wd.slots := by rw [hsl]; exact List.mem_cons_self
  have qm : q ∈ wd.slots := by rw [hsl]; exact List.mem_cons_of_mem _ List.mem_cons_self
  refine ⟨_, rfl, _, _, _, rfl, hr1, F_Reading_no_numbers_of, _, rfl, _, _, _, _, _, rfl, o1, T.c_Way, T.n_Way_stretches, F_Way_stretches, sl, _, _, _, rfl, rfl, SqL.of o4', atI_nat (j := 1) (refs_get e1), _, rfl, t2, _, _, _, rfl, rfl, SqT.of ht2, rfl, _, rfl, t2, _, _, _, rfl, rfl, SqT.of ht2, rfl, ?_⟩
  refine ⟨c, G, rd, sa1, q.2, v.1, v.2, rfl, R0, I, hR, g1, W.cm q qm, W.fu q qm, v1, v2, F1, fun H1 G1 lb ys x1 I1 hlb hys => ?_⟩
  have hyl := hys.len F1
  have hlb1 := I1.frz hlb
  refine ⟨_, rfl, lb, rfl, ⟨_, SqL.of hlb1⟩, fun D1 hD1 => lc_gen hD1 (SqL.of hlb1) (by rw [nums_length, sizeLine_eq]; omega) ys (nums_length _) (fun _ => true) (fun y => V.int ((q.1 * y : Nat) : Int)) (fun _ => rfl) (fun j z y hz hy H2 s2 R k => k H2 Same.rfl) (fun j z y hz hy _ H2 s2 R k => ?_) (fun H2 s2 hD2 => ?_)⟩
  · obtain ⟨y', h1, rfl⟩ := nums_getx hz
    rw [hy] at h1; cases h1
    obtain ⟨dx', ll', wl', sl', mv', e', sas', p1, _, p3, _⟩ := (I1.same s2).ok wa _ (x1.le _ _ gw)
    rw [hsl] at p3
    have hw2 := (I1.same s2).frz p3
    exact ⟨_, rfl, _, _, _, _, _, rfl, p1, T.c_Way, T.n_Way_weights, F_Way_weights, wl', _, _, _, rfl, rfl, SqL.of hw2, atI_nat (j := 1) (xs := nums [p.1, q.1]) rfl, _, rfl, _, _, rfl, rfl, .inl ⟨by have := W.wt q qm; omega, by have := W.wt q qm; omega⟩, k H2 Same.rfl⟩
  have eD2 : ((ys.filter fun _ => true).map fun y => V.int ((q.1 * y : Nat) : Int)) = nums (ys.map fun y => q.1 * y) := by
    rw [List.filter_eq_self.mpr fun _ _ => rfl]; unfold nums; rw [List.map_map] <;> rfl
  rw [eD2] at hD2
  have I2 := I1.same s2
  have x2 := x1.trans (Ext.same s2)
  have gD1 : G1 D1 = none := I1.fresh hD1
  refine ⟨(by show 0 ≤ sizeLine; decide), fun D hD => ?_⟩
  have s3 := same_new hD (.lst [])
  have I3 := I2.new hD (.lst [])
  have x3 := x2.trans (Ext.same s3)
  have gD : G1 D = none := I2.fresh hD
  have fD : c.F D = none := Same.free I2.sF hD
  have hD3 : upd H2 D (.lst []) D = some (.lst (nums [])) := upd_same
  have hD1' := s3 _ _ hD2
  obtain ⟨ht1', gt1'⟩ := x3.tmp ht1 gt1
  generalize upd H2 D (.lst []) = H3 at *
  have nD3 : H3 D ≠ none := by rw [hD3]; intro z; cases z
  have nDD : D1 ≠ D := fun z => by rw [z] at hD2; rw [hD2] at hD; cases hD
  obtain ⟨dx', ll', wl', sl', mv', e', sas', p1, _, _, p4, p5, _⟩ := I3.ok wa _ (x3.le _ _ gw)
  rw [hsl] at p5
  obtain ⟨sb0, e0', g0'⟩ := p5.getx (i := 0) (x := p) rfl
  have p4' := I3.frz p4
  obtain ⟨dxr', ms', bm', hr3⟩ := (hR.mono x3.le).at I3
  refine ⟨_, rfl, _, _, _, rfl, hr3, F_Reading_no_numbers_of, _, rfl, _, _, _, _, _, rfl, p1, T.c_Way, T.n_Way_stretches, F_Way_stretches, sl', _, _, _, rfl, rfl, SqL.of p4', atI_nat (j := 0) (refs_get e0'), _, rfl, t1, _, _, _, rfl, rfl, SqT.of ht1', rfl, _, rfl, t1, _, _, _, rfl, rfl, SqT.of ht1', rfl, ?_⟩
  refine ⟨c, G1, rd, sb0, p.2, u.1, u.2, rfl, R0, I3, hR.mono x3.le, g0', W.cm p pm, W.fu p pm, u1, u2, F0, fun H4 G4 la xs x4 I4 hla hxs => ?_⟩
  have hxl := hxs.len F0
  obtain ⟨hD4, gD4⟩ := x4.tmp hD3 gD
  obtain ⟨hE4, gE4⟩ := x4.tmp hD1' gD1
  have x04 := x3.trans x4
  have JP := Just.prod (f := pairF wd p q) (r := fun n => ∃ x y, c.Mem p.2 x u.1 u.2 ∧ c.Mem q.2 y v.1 v.2 ∧ pairF wd p q x y = n) hxs hys (fun n => Iff.rfl) hinj
  have hPl := JP.len FP
  have nD4 : H4 D ≠ none := by rw [hD4]; intro z; cases z
  have hDH : H D = none := by
    cases e : H D with
    | none => rfl
    | some o =>
      have z1 : H2 D ≠ none := by
        cases e2 : G D with
        | none => rw [x2.kp _ _ e e2]; intro z; cases z
        | some r => exact I2.there (x2.le _ _ e2)
      exact (z1 hD).elim
  refine ⟨la, rfl, ⟨_, SqL.of (I4.frz hla)⟩, for_list (K := K) (a := la) (xs := nums xs)
    (fun i σ H' => (∃ v5 v8 v9, σ = [some (.ref rd), some (.ref wa), some (.ref t1), some (.ref t2), some (.ref lb), v5, some (.ref D1), some (.ref D), v8, v9]) ∧ RInv c A G4 none H' ∧ ExtD D G4 G4 H4 H' ∧ H' D = some (.lst (nums (Sn.prod (pairF wd p q) (xs.take i) ys))))
    ⟨⟨none, none, none, rfl⟩, I4, ExtD.rfl, hD4⟩ ?_ ?_ ?_⟩
  · rintro i σ H' _ ⟨_, I', _⟩
    exact SqL.of (I'.frz hla)
  · rintro i z σ H' hix ⟨⟨v5, v8, v9, rfl⟩, I', W', hD'⟩
    obtain ⟨xn, hx, rfl⟩ := nums_getx hix
    obtain ⟨dx6, ll6, wl6, sl6, mv6, e6, sas6, q1, _, q3, _⟩ := I'.ok wa _ (x04.le _ _ gw)
    rw [hsl] at q3
    have hw6 := I'.frz q3
    have hE6 := W'.kp D1 _ nDD hE4 gE4
    have hlen : (Sn.prod (pairF wd p q) (xs.take (i + 1)) ys).length ≤ 1000000 := by
      refine Nat.le_trans ?_ hPl
      have : Sn.prod (pairF wd p q) xs ys = Sn.prod (pairF wd p q) (xs.take (i + 1)) ys ++ Sn.prod (pairF wd p q) (xs.drop (i + 1)) ys := by
        unfold Sn.prod
        rw [← List.flatMap_append, List.take_append_drop]
      rw [this, List.length_append]; omega
    rw [prod_more hx, List.length_append, List.length_map] at hlen
    refine ⟨_, rfl, _, _, _, _, _, rfl, q1, T.c_Way, T.n_Way_fixed, F_Way_fixed, _, rfl, _, _, _, _, _, rfl, q1, T.c_Way, T.n_Way_weights, F_Way_weights, wl6, _, _, _, rfl, rfl, SqL.of hw6, atI_nat (j := 0) (xs := nums [p.1, q.1]) rfl, _, rfl, _, _, rfl, rfl, .inl ⟨by have := W.wt p pm; omega, by have := W.wt p pm; omega⟩, _, _, rfl, rfl, ?_⟩
    refine ⟨_, rfl, .inl ⟨rfl, _, SqL.of hD'⟩, _, rfl, D1, rfl, ⟨_, SqL.of hE6⟩, fun D5 hD5 => lc_gen hD5 (SqL.of hE6) (by rw [nums_length, List.length_map, sizeLine_eq]; omega) ys (by rw [nums_length, List.length_map]) (fun _ => true) (fun y => V.int ((pairF wd p q xn y : Nat) : Int)) (fun _ => rfl) (fun j z y hz hy H5 s5 R k => k H5 Same.rfl) (fun j z y hz hy _ H5 s5 R k => ?_) (fun H5 s5 hD6 => ?_)⟩
    · obtain ⟨y', h1, rfl⟩ := nums_getx hz
      rw [List.getElem?_map, hy] at h1
      cases h1
      exact ⟨_, rfl, _, rfl, _, _, rfl, rfl, k H5 Same.rfl⟩
    have eD6 : ((ys.filter fun _ => true).map fun y => V.int ((pairF wd p q xn y : Nat) : Int)) = nums (ys.map (pairF wd p q xn)) := by
      rw [List.filter_eq_self.mpr fun _ _ => rfl]; unfold nums; rw [List.map_map] <;> rfl
    rw [eD6] at hD6
    have hD7 := s5 _ _ hD'
    refine ⟨D, D5, _, _, rfl, rfl, hD7, hD6, (by rw [nums_length, nums_length, List.length_map, sizeLine_eq]; omega), ?_⟩
    refine ⟨⟨_, _, _, rfl⟩, (I'.same s5).temp gD4 fD _, (W'.then gD4 nD4 (Ext.same s5) (by rw [hD']; intro z; cases z)).upd, ?_⟩
    rw [upd_same, prod_more hx, nums_append]
  · rintro σ H' ⟨⟨v5, v8, v9, rfl⟩, I', W', hD'⟩
    rw [nums_length, List.take_length] at hD'
    exact ⟨_, rfl, kQ H' G4 D _ (W'.ext2 x04 hDH) I' hD' JP⟩
end
end Sn
/-! reading: the numbers of a way, of a stretch -/
namespace Sn
open PySem PySem.Spec PyProof.Rows L2
open SpecMath (Good)
section
variable {P : Program} {w : World} {K : PySem.W.Frag} {mg : Str → Option Value} {base : Heap} {A : Ad}
def spWayNums (A : Ad) (g : Nat) : Sp := fun vs H Q _ => ∃ (c : RC) (G : Gh) (rd wa : Addr) (wd : WayD) (a b : Nat), vs = [.ref rd, .ref wa, .int (a : Int), .int (b : Int)] ∧ RCok c A ∧ RInv c A G none H ∧ ReadAt c A G rd ∧ G wa = some (.way wd) ∧ HasM H wa ∧ WayOk c wd g ∧ wd.slots.length ≤ 2 ∧
  a ≤ c.txt.length ∧ b ≤ c.txt.length ∧ (c.WM wd a).testBit b = true ∧ Few (fun n => c.WMem wd n a b) ∧ Inj c wd ∧
  ∀ H' G' l ns, Ext G G' H H' → RInv c A G' none H' → H' l = some (.lst (nums ns)) → Just (fun n => c.WMem wd n a b) ns → Q (.ref l) H'
theorem ok_way_numbers (T : Top K mg A) {g : Nat} (IN : FnOk P w K mg base CX0 (3 * g + 12) A.f_Reading_numbers_of A.d_Reading_numbers_of P_Reading_numbers_of (spNums A g)) : FnOk P w K mg base CX0 (3 * g + 14) A.f_Reading_way_numbers A.d_Reading_way_numbers P_Reading_way_numbers (spWayNums A g) := by
  have IE := ok_ends_of (P := P) (w := w) (base := base) T g
  have IC := ok_can_be (P := P) (w := w) (base := base) T (f := g)
  have IP := ok_pair T IN
  refine T.F_Reading_way_numbers.ok sc_Reading_way_numbers (fun vs H Q E h => ?_) (fun cdv _ outer s H vs Q E hr h => ⟨_, (pss_cons (ps_if (pt_cmpR op_eq (pe_callB call_len_seq (by rfl) T.n_len PySem.boot_len (pa_cons (pe_fld (pv 1) rfl) pa_nil)) pe_int (nomark _))
    (pss_one (ps_ret (pe_lst (pa_cons (pe_fld (pv 1) rfl) pa_nil))))
    pss_nil)
    (pss_cons (ps_set (i := 4) sc_Reading_way_numbers.nd rfl (Or.inl rfl) (pe_op op_add (pv 2) (pe_callB call_len_seq (by rfl) T.n_len PySem.boot_len (pa_cons (pe_ix ix_list (pe_fld (pv 1) rfl) pe_int (fun _ _ => rfl)) pa_nil))))
    (pss_cons (ps_set (i := 5) sc_Reading_way_numbers.nd rfl (Or.inl rfl) (pe_op op_sub (pv 3) (pe_callB call_len_seq (by rfl) T.n_len PySem.boot_len (pa_cons (pe_ix ix_list (pe_fld (pv 1) rfl) (pe_un un_neg pe_int) (fun _ _ => rfl)) pa_nil))))
    (pss_cons (ps_if (pt_cmpR op_eq (pe_callB call_len_seq (by rfl) T.n_len PySem.boot_len (pa_cons (pe_fld (pv 1) rfl) pa_nil)) pe_int (nomark _))
    (pss_cons (ps_set (i := 6) sc_Reading_way_numbers.nd rfl (Or.inr rfl) (pe_ix ix_list (pe_fld (pv 1) rfl) pe_int (fun _ _ => rfl)))
    (pss_one (ps_ret (by exact (pe_lc (own := [("part", 10)]) (g := gName 10) (tt := tYes) (te := tOp _ (tFld K (tVar 1) "fixed") (tOp _ (tVar 6) (tVar 10))) rfl sc_Reading_way_numbers.nd (pi_list (pe_meth (pv 0) T.c_Reading T.M_Reading_numbers_of IN (hr.mono (by omega)) (b_Reading_numbers_of T) .nil pass0 (pa_cons (pe_ix ix_list (pe_fld (pv 1) rfl) pe_int (fun _ _ => rfl)) (pa_cons (pv 4) (pa_cons (pv 5) pa_nil))))) (blkOk_by (own := [("part", 10)]) (N := N_Reading_way_numbers) (sc := defScope s_Reading_way_numbers) (by decide +kernel)) (fun _ _ _ _ _ => pg_name (i := 10) sc_Reading_way_numbers.nd rfl (Or.inl rfl)) (fun _ _ _ _ _ => by exact (pts_nil)) (fun _ _ _ _ _ => by exact (pe_op op_add (pe_fld (pv 1) rfl) (pe_op op_mul (pv 6) (pv 10)))))))))
    pss_nil)
    (pss_cons (ps_set (i := 7) sc_Reading_way_numbers.nd rfl (Or.inl rfl) (pe_lst pa_nil))
    (pss_cons (ps_for PassesOwn.never rfl (pi_list (pe_call (ok_places_of T) (hr.mono (by omega)) (by rfl) T.g_places_of T.F_places_of.kp (b_places_of T) .nil pass0 (pa_cons (pe_op op_andN (pe_meth (pv 0) T.c_Reading T.M_Reading_ends_of IE (hr.mono (by omega)) (b_Reading_ends_of T) .nil pass0 (pa_cons (pe_ix ix_list (pe_fld (pv 1) rfl) pe_int (fun _ _ => rfl)) (pa_cons (pe_op op_shlNN pe_int (pv 4)) pa_nil))) (pe_ix ix_list (pe_fld (pv 1) rfl) pe_int (fun _ _ => rfl))) pa_nil))) (pg_name (i := 8) sc_Reading_way_numbers.nd rfl (Or.inl rfl))
    (pss_cons (ps_set (i := 9) sc_Reading_way_numbers.nd rfl (Or.inl rfl) (pe_op op_add (pv 8) (pe_callB call_len_seq (by rfl) T.n_len PySem.boot_len (pa_cons (pe_ix ix_list (pe_fld (pv 1) rfl) pe_int (fun _ _ => rfl)) pa_nil))))
    (pss_one (ps_if (pt_val (pe_meth (pv 0) T.c_Reading T.M_Reading_can_be IC (hr.mono (by omega)) (b_Reading_can_be T) .nil pass0 (pa_cons (pe_ix ix_list (pe_fld (pv 1) rfl) pe_int (fun _ _ => rfl)) (pa_cons (pv 9) (pa_cons (pv 5) pa_nil)))))
    (pss_one (ps_expr (pe_bm PySem.F.plainAttrs_list PySem.F.slot_list_extend PySem.F.type_list_extend mt_extend (pv 7) (pa_cons (pe_meth (pv 0) T.c_Reading T.M_Reading_pair_numbers IP (hr.mono (by omega)) (b_Reading_pair_numbers T) .nil pass0 (pa_cons (pv 1) (pa_cons (pe_tup (pa_cons (pv 4) (pa_cons (pv 8) pa_nil))) (pa_cons (pe_tup (pa_cons (pv 9) (pa_cons (pv 5) pa_nil))) pa_nil)))) pa_nil))))
    pss_nil))))
    (pss_one (ps_ret (pv 7))))))))), ?_⟩)
  · obtain ⟨_, _, _, _, _, _, _, rfl, _⟩ := h
    rfl
  obtain ⟨c, G, rd, wa, wd, a, b, rfl, R0, I, hR, gw, hm, W, hs2, ha, hb, hbit, FW, hinj, kQ⟩ := h
  obtain ⟨dx, ll, wl, sl, ml, e, sas, o1, ⟨las, o2, o2b⟩, o3, o4, o5, o6, o7⟩ := I.wayAt gw hm
  have o4' := I.frz o4
  have o2' := I.sF _ _ o2
  have o3' := I.frz o3
  have hsl := o5.length
  have hWl := W.ll
  obtain ⟨dxr, ms, bm, hr1⟩ := hR.at I
  refine ⟨_, rfl, _, _, _, _, _, rfl, o1, T.c_Way, T.n_Way_stretches, F_Way_stretches, sl, _, rfl, .inl (SqL.of o4'), rfl, _, rfl, ?_⟩
  match hS : wd.slots, hs2 with
  | [], _ =>
    have e0 : decide (V.int ((refs sas).length : Nat) = V.int 0) = true := by rw [refs_length, hsl, hS]; rfl
    refine if_true_of e0 ⟨_, rfl, _, _, _, _, _, rfl, o1, T.c_Way, T.n_Way_fixed, F_Way_fixed, (by show 1 ≤ sizeLine; decide), fun l hl => ?_⟩
    exact kQ _ G l [wd.fixed] (Ext.same (same_new hl _)) (I.new hl _) upd_same (wmem0 hS hbit)
  | [p], _ =>
    have e0 : decide (V.int ((refs sas).length : Nat) = V.int 0) = false := by rw [refs_length, hsl, hS]; rfl
    have e1 : decide (V.int ((refs sas).length : Nat) = V.int 1) = true := by rw [refs_length, hsl, hS]; rfl
    obtain ⟨l0, l1, hL⟩ : ∃ l0 l1, wd.letters = [l0, l1] := by
      rw [hS] at hWl
      match wd.letters, hWl with
      | [x, y], _ => exact ⟨x, y, rfl⟩
    obtain ⟨w1, w2, w3, w5, w4⟩ := wmem1 hS hL hbit
    rw [hL] at o2b
    obtain ⟨la0, hla0, hb0⟩ := o2b.getx (i := 0) (x := l0) rfl
    obtain ⟨la1, hla1, hb1⟩ := o2b.getx (i := 1) (x := l1) rfl
    have hlas : las = [la0, la1] := by
      have := o2b.length
      match las, this, hla0, hla1 with
      | [x, y], _, h1, h2 => cases h1; cases h2; rfl
    have hneg : atI (refs las) (-1) = some (.ref la1) := by rw [hlas]; exact atI_last [V.ref la0] (V.ref la1)
    have hb0' := I.sF _ _ hb0
    have hb1' := I.sF _ _ hb1
    have a0 := At_le ha w1
    refine if_false_of e0 ?_
    refine ⟨_, rfl, _, rfl, _, _, _, _, _, rfl, o1, T.c_Way, T.n_Way_letters, F_Way_letters, ll, _, _, _, rfl, rfl, SqL.of o2', atI_nat (j := 0) (refs_get hla0), la0, _, rfl, .inl (SqL.of hb0'), _, _, rfl, rfl, ?_⟩
    refine ⟨_, rfl, _, rfl, _, _, _, _, _, rfl, o1, T.c_Way, T.n_Way_letters, F_Way_letters, _, rfl, ll, _, _, _, rfl, rfl, SqL.of o2', hneg, la1, _, rfl, .inl (SqL.of hb1'), _, _, rfl, rfl, ?_⟩
    refine ⟨_, rfl, _, _, _, _, _, rfl, o1, T.c_Way, T.n_Way_stretches, F_Way_stretches, sl, _, rfl, .inl (SqL.of o4'), rfl, _, rfl, if_true_of e1 ?_⟩
    rw [hS] at o3' o5
    obtain ⟨sa0, e0', g0⟩ := o5.getx (i := 0) (x := p) rfl
    have pm : p ∈ wd.slots := by rw [hS]; exact List.mem_cons_self
    have ev1 : V.int ((a : Int) + ((bnums l0).length : Nat)) = V.int ((a + l0.length : Nat) : Int) := by rw [bnums_length] <;> rfl
    have ev2 : V.int ((b : Int) - ((bnums l1).length : Nat)) = V.int ((b - l1.length : Nat) : Int) := by rw [bnums_length]; exact natsub w2
    have pin : ∀ x y, c.Mem p.2 x (a + l0.length) (b - l1.length) → c.Mem p.2 y (a + l0.length) (b - l1.length) → wd.fixed + p.1 * x = wd.fixed + p.1 * y → x = y := fun x y hx hy e => by
      have := hinj _ _ _ _ _ _ (w3 x hx) (w3 y hy) (by rw [w5, w5, e])
      simpa using this
    have FP : Few fun n => c.Mem p.2 n (a + l0.length) (b - l1.length) := FW.map (f := fun v => wd.fixed + p.1 * v) (fun n hn => (w4 _).mpr ⟨n, hn, rfl⟩) pin
    refine ⟨_, rfl, _, _, _, _, _, rfl, o1, T.c_Way, T.n_Way_weights, F_Way_weights, wl, _, _, _, rfl, rfl, SqL.of o3', atI_nat (j := 0) (xs := nums [p.1]) rfl, ?_⟩
    refine ⟨_, rfl, _, _, _, rfl, hr1, F_Reading_no_numbers_of, _, rfl, _, _, _, _, _, rfl, o1, T.c_Way, T.n_Way_stretches, F_Way_stretches, sl, _, _, _, rfl, rfl, SqL.of o4', atI_nat (j := 0) (refs_get e0'), _, rfl, _, rfl, c, G, rd, sa0, p.2, a + l0.length, b - l1.length, (by rw [← ev1, ← ev2] <;> rfl), R0, I, hR, g0, W.cm p pm, W.fu p pm, a0, by omega, FP, fun H1 G1 lp ns x1 I1 hlp hns => ?_⟩
    have hlp1 := I1.frz hlp
    have hnl := hns.len FP
    refine ⟨lp, rfl, ⟨_, SqL.of hlp1⟩, fun D hD => lc_gen hD (SqL.of hlp1) (by rw [nums_length, sizeLine_eq]; omega) ns (nums_length _) (fun _ => true) (fun v => V.int ((wd.fixed + p.1 * v : Nat) : Int)) (fun _ => rfl) (fun j z y hz hy H2 s2 R k => k H2 Same.rfl) (fun j z y hz hy _ H2 s2 R k => ?_) (fun H2 s2 hD2 => ?_)⟩
    · obtain ⟨y', h1, rfl⟩ := nums_getx hz
      rw [hy] at h1; cases h1
      obtain ⟨dx', ll', wl', sl', mv', e', sas', p1, _⟩ := (I1.same s2).ok wa _ (x1.le _ _ gw)
      exact ⟨_, rfl, _, _, _, _, _, rfl, p1, T.c_Way, T.n_Way_fixed, F_Way_fixed, _, rfl, _, rfl, _, _, rfl, rfl, .inl ⟨by have := W.wt p pm; omega, by have := W.wt p pm; omega⟩, _, _, rfl, rfl, k H2 Same.rfl⟩
    · have eD2 : ((ns.filter fun _ => true).map fun v => V.int ((wd.fixed + p.1 * v : Nat) : Int)) = nums (ns.map fun v => wd.fixed + p.1 * v) := by
        rw [List.filter_eq_self.mpr fun _ _ => rfl]; unfold nums; rw [List.map_map] <;> rfl
      rw [eD2] at hD2
      exact kQ H2 G1 D _ (x1.trans (Ext.same s2)) (I1.same s2) hD2 (hns.map (f := fun v => wd.fixed + p.1 * v) w4 pin)
  | [p, q], _ =>
    have e0 : decide (V.int ((refs sas).length : Nat) = V.int 0) = false := by rw [refs_length, hsl, hS]; rfl
    have e1 : decide (V.int ((refs sas).length : Nat) = V.int 1) = false := by rw [refs_length, hsl, hS]; rfl
    obtain ⟨l0, l1, l2, hL⟩ : ∃ l0 l1 l2, wd.letters = [l0, l1, l2] := by
      rw [hS] at hWl
      match wd.letters, hWl with
      | [x, y, z], _ => exact ⟨x, y, z, rfl⟩
    obtain ⟨w1, w2, w3, w5, w4⟩ := wmem2 hS hL hbit
    have lens := W.lt
    rw [hL] at o2b lens
    have ln1 := lens l1 (List.mem_cons_of_mem _ List.mem_cons_self)
    obtain ⟨la0, hla0, hb0⟩ := o2b.getx (i := 0) (x := l0) rfl
    obtain ⟨la2, hla2, hb2⟩ := o2b.getx (i := 2) (x := l2) rfl
    obtain ⟨la1, hla1, hb1⟩ := o2b.getx (i := 1) (x := l1) rfl
    have hlas : las = [la0, la1, la2] := by
      have := o2b.length
      match las, this, hla0, hla1, hla2 with
      | [x, y, z], _, h1, h2, h3 => cases h1; cases h2; cases h3; rfl
    have hneg : atI (refs las) (-1) = some (.ref la2) := by rw [hlas]; exact atI_last [V.ref la0, V.ref la1] (V.ref la2)
    have hb0' := I.sF _ _ hb0
    have hb2' := I.sF _ _ hb2
    have a0 := At_le ha w1
    have tx := R0.tx
    have ev1 : V.int ((a : Int) + ((bnums l0).length : Nat)) = V.int ((a + l0.length : Nat) : Int) := by rw [bnums_length] <;> rfl
    have ev2 : V.int ((b : Int) - ((bnums l2).length : Nat)) = V.int ((b - l2.length : Nat) : Int) := by rw [bnums_length]; exact natsub w2
    refine if_false_of e0 ?_
    refine ⟨_, rfl, _, rfl, _, _, _, _, _, rfl, o1, T.c_Way, T.n_Way_letters, F_Way_letters, ll, _, _, _, rfl, rfl, SqL.of o2', atI_nat (j := 0) (refs_get hla0), la0, _, rfl, .inl (SqL.of hb0'), _, _, rfl, rfl, ?_⟩
    refine ⟨_, rfl, _, rfl, _, _, _, _, _, rfl, o1, T.c_Way, T.n_Way_letters, F_Way_letters, _, rfl, ll, _, _, _, rfl, rfl, SqL.of o2', hneg, la2, _, rfl, .inl (SqL.of hb2'), _, _, rfl, rfl, ?_⟩
    refine ⟨_, rfl, _, _, _, _, _, rfl, o1, T.c_Way, T.n_Way_stretches, F_Way_stretches, sl, _, rfl, .inl (SqL.of o4'), rfl, _, rfl, if_false_of e1 ?_⟩
    rw [hS] at o5
    obtain ⟨sa0, e0', g0⟩ := o5.getx (i := 0) (x := p) rfl
    have pm : p ∈ wd.slots := by rw [hS]; exact List.mem_cons_self
    have qm : q ∈ wd.slots := by rw [hS]; exact List.mem_cons_of_mem _ List.mem_cons_self
    refine ⟨(by show 0 ≤ sizeLine; decide), fun D hD => ?_⟩
    have s0 := same_new hD (.lst [])
    have I0 := I.new hD (.lst [])
    have gD : G D = none := I.fresh hD
    have fD : c.F D = none := Same.free I.sF hD
    have o10 := s0 _ _ o1
    have hr0 := s0 _ _ hr1
    have o40 := s0 _ _ o4'
    have hD0 : upd H D (.lst []) D = some (.lst (nums [])) := upd_same
    generalize upd H D (.lst []) = H0 at *
    refine ⟨_, rfl, _, _, _, rfl, hr0, F_Reading_no_ends_of, _, rfl, _, _, _, _, _, rfl, o10, T.c_Way, T.n_Way_stretches, F_Way_stretches, sl, _, _, _, rfl, rfl, SqL.of o40, atI_nat (j := 0) (refs_get e0'), _, rfl, 1, a + l0.length, rfl, ev1, ⟨1, by decide, by decide, by omega⟩, c, G, rd, sa0, p.2, 1 <<< (a + l0.length), rfl, R0, I0, hR, g0, W.cm p pm, W.fu p pm, one_lt a0, fun H1 G1 x1 I1 => ?_⟩
    obtain ⟨dx', ll', wl', sl', ml', e', sas', p1, _, _, _, _, _, p8⟩ := I1.wayAt (x1.le _ _ gw) (x1.hm _ (hm.same s0))
    have hmk : (nums (wd.letters.map c.LM))[1]? = some (.int (c.LM l1 : Nat)) := by rw [hL]; rfl
    have hMl : c.EU p.2 (1 <<< (a + l0.length)) &&& c.LM l1 < 2 ^ (c.txt.length + 1) := lt_of_bits fun m hm => by
      rw [Nat.testBit_and, Bool.and_eq_true] at hm
      exact (EU_bit.mp hm.1).1
    refine ⟨_, rfl, _, _, _, _, _, rfl, p1, T.c_Way, T.n_Way_masks, F_Way_masks, ml', _, _, _, rfl, rfl, SqL.of (I1.frz p8), atI_nat (j := 1) hmk, _, _, rfl, rfl, _, c.txt.length + 1, rfl, hMl, by omega, fun H2 pl s2 fpl hpl => ?_⟩
    have mids_iff : ∀ m, m ∈ placesOf (c.txt.length + 1) (c.EU p.2 (1 <<< (a + l0.length)) &&& c.LM l1) ↔ (∃ x, c.Mem p.2 x (a + l0.length) m) ∧ c.At m l1 = true := fun m => by
      rw [mem_placesOf hMl, Nat.testBit_and, Bool.and_eq_true, EU_one, EM_bit, LM_bit]
      constructor
      · rintro ⟨⟨_, h1⟩, _, h2⟩; exact ⟨h1, h2⟩
      · rintro ⟨⟨x, h1⟩, h2⟩
        have := (Mem_le a0 h1).2
        exact ⟨⟨this, x, h1⟩, this, h2⟩
    have mnd := placesOf_nodup (c.txt.length + 1) (c.EU p.2 (1 <<< (a + l0.length)) &&& c.LM l1)
    generalize placesOf (c.txt.length + 1) (c.EU p.2 (1 <<< (a + l0.length)) &&& c.LM l1) = mids at *
    have I2 := I1.same s2
    obtain ⟨hD1, gD1⟩ := x1.tmp hD0 gD
    have hD2 := s2 _ _ hD1
    have nD2 : H2 D ≠ none := by rw [hD2]; intro z; cases z
    have npD : pl ≠ D := fun z => by rw [z, hD1] at fpl; cases fpl
    have gpl : G1 pl = none := I1.fresh fpl
    have x02 : Ext G G1 H H2 := ((Ext.same s0).trans x1).trans (Ext.same s2)
    refine ⟨pl, rfl, ⟨_, SqL.of hpl⟩, for_list (K := K) (a := pl) (xs := nums mids)
      (fun i σ H' => (∃ v8 v9, σ = [some (.ref rd), some (.ref wa), some (.int (a : Int)), some (.int (b : Int)), some (.int ((a + l0.length : Nat) : Int)), some (.int ((b - l2.length : Nat) : Int)), none, some (.ref D), v8, v9, none]) ∧ ∃ G', ExtD D G1 G' H2 H' ∧ RInv c A G' none H' ∧
        ∃ ns, H' D = some (.lst (nums ns)) ∧ Just (fun n => ∃ m ∈ mids.take i, ∃ x y, c.Mem p.2 x (a + l0.length) m ∧ c.Mem q.2 y (m + l1.length) (b - l2.length) ∧ pairF wd p q x y = n) ns)
      ⟨⟨none, none, by rw [← ev1, ← ev2] <;> rfl⟩, G1, ExtD.rfl, I2, [], hD2, Just.nil fun n z => by obtain ⟨m, hm, _⟩ := z; cases hm⟩ ?_ ?_ ?_⟩
    · rintro i σ H' _ ⟨_, G', W', _⟩
      exact SqL.of (W'.kp _ _ npD hpl gpl)
    · rintro i v σ H' hix ⟨⟨v8, v9, rfl⟩, G', W', I', ns, hDn, hJ⟩
      obtain ⟨m, hmi, rfl⟩ := nums_getx hix
      have hmm := List.mem_of_getElem? hmi
      obtain ⟨⟨x0, hx0⟩, hAt⟩ := (mids_iff m).mp hmm
      have hml := (Mem_le a0 hx0).2
      have hml2 := At_le hml hAt
      have gw' := W'.le _ _ (x02.le _ _ gw)
      have gD' := W'.nw D nD2 gD1
      obtain ⟨dx3, ll3, wl3, sl3, mv3, e3, sas3, q1, ⟨las3, q2, q2b⟩, _, q4, q5, _⟩ := I'.ok wa _ gw'
      rw [hL] at q2b
      rw [hS] at q5
      obtain ⟨lb1, hlb1, hbb⟩ := q2b.getx (i := 1) (x := l1) rfl
      obtain ⟨sb1, f1, gb1⟩ := q5.getx (i := 1) (x := q) rfl
      have q2' := I'.sF _ _ q2
      have hbb' := I'.sF _ _ hbb
      have q4' := I'.frz q4
      have hR' := hR.mono (x02.le.trans W'.le)
      obtain ⟨dxr3, ms3, bm3, hr3⟩ := hR'.at I'
      have ev3 : V.int ((m : Int) + ((bnums l1).length : Nat)) = V.int ((m + l1.length : Nat) : Int) := by rw [bnums_length] <;> rfl
      have tk : ∀ n, (∃ k ∈ mids.take (i + 1), ∃ x y, c.Mem p.2 x (a + l0.length) k ∧ c.Mem q.2 y (k + l1.length) (b - l2.length) ∧ pairF wd p q x y = n) ↔
          (∃ k ∈ mids.take i, ∃ x y, c.Mem p.2 x (a + l0.length) k ∧ c.Mem q.2 y (k + l1.length) (b - l2.length) ∧ pairF wd p q x y = n) ∨ ∃ x y, c.Mem p.2 x (a + l0.length) m ∧ c.Mem q.2 y (m + l1.length) (b - l2.length) ∧ pairF wd p q x y = n := fun n => by
        rw [take_more hmi]
        constructor
        · rintro ⟨k, hk, z⟩
          rcases List.mem_append.mp hk with hk | hk
          · exact .inl ⟨k, hk, z⟩
          · rw [List.mem_singleton.mp hk] at z; exact .inr z
        · rintro (⟨k, hk, z⟩ | z)
          · exact ⟨k, List.mem_append_left _ hk, z⟩
          · exact ⟨m, List.mem_append_right _ (List.mem_singleton.mpr rfl), z⟩
      refine ⟨_, rfl, _, rfl, _, _, _, _, _, rfl, q1, T.c_Way, T.n_Way_letters, F_Way_letters, ll3, _, _, _, rfl, rfl, SqL.of q2', atI_nat (j := 1) (refs_get hlb1), lb1, _, rfl, .inl (SqL.of hbb'), _, _, rfl, rfl, ?_⟩
      refine ⟨_, rfl, _, _, _, rfl, hr3, F_Reading_no_can_be, _, rfl, _, _, _, _, _, rfl, q1, T.c_Way, T.n_Way_stretches, F_Way_stretches, sl3, _, _, _, rfl, rfl, SqL.of q4', atI_nat (j := 1) (refs_get f1), _, rfl, _, rfl, c, G', rd, sb1, q.2, m + l1.length, b - l2.length, (by rw [← ev3] <;> rfl), R0, I', hR', gb1, W.cm q qm, W.fu q qm, hml2, fun H3 G3 x3 I3 => ⟨_, rfl, ?_⟩⟩
      have W3 := W'.then gD1 nD2 x3 (by rw [hDn]; intro z; cases z)
      obtain ⟨hD3, gD3⟩ := x3.tmp hDn gD'
      cases hbt : (c.EM q.2 (m + l1.length)).testBit (b - l2.length) with
      | false =>
        refine if_false_of rfl ⟨⟨_, _, rfl⟩, G3, W3, I3, ns, hD3, hJ.congr fun n => ?_⟩
        rw [tk]
        constructor
        · rintro (z | ⟨x, y, _, z, _⟩)
          · exact z
          · rw [EM_bit.mpr ⟨by omega, y, z⟩] at hbt; cases hbt
        · exact .inl
      | true =>
        obtain ⟨_, y0, hy0⟩ := EM_bit.mp hbt
        have sb : ∀ x y, c.Mem p.2 x (a + l0.length) m → c.Mem q.2 y (m + l1.length) (b - l2.length) → c.WSays wd [x, y] a b := fun x y h1 h2 => w3 x y m h1 hAt h2
        have vl : ∀ x y, wval wd [x, y] = pairF wd p q x y := w5
        have pin : ∀ x y x' y', c.Mem p.2 x (a + l0.length) m → c.Mem q.2 y (m + l1.length) (b - l2.length) → c.Mem p.2 x' (a + l0.length) m → c.Mem q.2 y' (m + l1.length) (b - l2.length) → pairF wd p q x y = pairF wd p q x' y' → x = x' ∧ y = y' := fun x y x' y' h1 h2 h3 h4 e => by
          have := hinj _ _ _ _ _ _ (sb x y h1 h2) (sb x' y' h3 h4) (by rw [vl, vl, e])
          simpa using this
        have toW : ∀ x y, c.Mem p.2 x (a + l0.length) m → c.Mem q.2 y (m + l1.length) (b - l2.length) → c.WMem wd (pairF wd p q x y) a b := fun x y h1 h2 => ⟨[x, y], sb x y h1 h2, vl x y⟩
        have F0 : Few fun n => c.Mem p.2 n (a + l0.length) m := FW.map (f := fun x => pairF wd p q x y0) (fun n hn => toW n y0 hn hy0) fun x x' h1 h2 e => (pin x y0 x' y0 h1 hy0 h2 hy0 e).1
        have F1 : Few fun n => c.Mem q.2 n (m + l1.length) (b - l2.length) := FW.map (f := fun y => pairF wd p q x0 y) (fun n hn => toW x0 n hx0 hn) fun y y' h1 h2 e => (pin x0 y x0 y' hx0 h1 hx0 h2 e).2
        have FP : Few fun n => ∃ x y, c.Mem p.2 x (a + l0.length) m ∧ c.Mem q.2 y (m + l1.length) (b - l2.length) ∧ pairF wd p q x y = n := FW.mono fun n ⟨x, y, h1, h2, h3⟩ => h3 ▸ toW x y h1 h2
        have hR3 := hR'.mono x3.le
        obtain ⟨dxr4, ms4, bm4, hr4⟩ := hR3.at I3
        refine if_true_of rfl ⟨_, rfl, .inl ⟨rfl, _, SqL.of hD3⟩, _, rfl, _, _, _, rfl, hr4, F_Reading_no_pair_numbers, _, rfl, _, rfl, _, rfl, (by show 2 ≤ sizeLine; decide), fun t1 ht1 => ⟨_, rfl, _, rfl, (by show 2 ≤ sizeLine; decide), fun t2 ht2 => ?_⟩⟩
        have s4 := same_new ht1 (.tup [V.int ((a + l0.length : Nat) : Int), V.int (m : Int)])
        have s5 := same_new ht2 (.tup [V.int ((m : Int) + ((bnums l1).length : Nat)), V.int ((b - l2.length : Nat) : Int)])
        have s45 := s4.trans s5
        have I5 := I3.same s45
        have n21 : t2 ≠ t1 := fun z => by rw [z, upd_same] at ht2; cases ht2
        have ft2 : H3 t2 = none := by rwa [upd_ne n21] at ht2
        have z1 : upd (upd H3 t1 (.tup [V.int ((a + l0.length : Nat) : Int), V.int (m : Int)])) t2 (.tup [V.int ((m : Int) + ((bnums l1).length : Nat)), V.int ((b - l2.length : Nat) : Int)]) t1 = some (tupI (a + l0.length, m)) := s5 _ _ upd_same
        have z2 : upd (upd H3 t1 (.tup [V.int ((a + l0.length : Nat) : Int), V.int (m : Int)])) t2 (.tup [V.int ((m : Int) + ((bnums l1).length : Nat)), V.int ((b - l2.length : Nat) : Int)]) t2 = some (tupI (m + l1.length, b - l2.length)) := by
          rw [upd_same, ev3] <;> rfl
        have ml := Mem_le hml2 hy0
        refine ⟨c, G3, rd, wa, t1, t2, wd, p, q, (a + l0.length, m), (m + l1.length, b - l2.length), rfl, R0, I5, hR3, x3.le _ _ gw', W, hS, z1, I3.fresh ht1, z2, I3.fresh ft2, a0, hml, hml2, ml.2, F0, F1, FP, pin, fun H6 G6 lr nr x6 I6 hlr hJr => ?_⟩
        have x56 := (Ext.same s45).trans x6
        have W6 := W3.then gD1 nD2 x56 (by rw [hD3]; intro z; cases z)
        obtain ⟨hD6, gD6⟩ := x56.tmp hD3 gD3
        have noOld : ∀ n, (∃ k ∈ mids.take i, ∃ x y, c.Mem p.2 x (a + l0.length) k ∧ c.Mem q.2 y (k + l1.length) (b - l2.length) ∧ pairF wd p q x y = n) → (∃ x y, c.Mem p.2 x (a + l0.length) m ∧ c.Mem q.2 y (m + l1.length) (b - l2.length) ∧ pairF wd p q x y = n) → False := by
          rintro n ⟨k, hk, x, y, h1, h2, h3⟩ ⟨x', y', h4, h5, h6⟩
          have hkA := ((mids_iff k).mp (List.mem_of_mem_take hk)).2
          have := hinj _ _ _ _ _ _ (w3 x y k h1 hkA h2) (sb x' y' h4 h5) (by rw [w5, vl]; exact h3.trans h6.symm)
          obtain ⟨rfl, rfl⟩ : x = x' ∧ y = y' := by simpa using this
          obtain ⟨_, _, t, ht, _, e1⟩ := h1
          obtain ⟨_, _, t', ht', _, e2⟩ := h4
          rw [ht] at ht'
          cases ht'
          rw [← e1] at e2
          subst e2
          have nd : (mids.take (i + 1)).Nodup := List.Nodup.sublist (List.take_sublist _ _) mnd
          rw [take_more hmi, List.nodup_append] at nd
          exact nd.2.2 m hk m (List.mem_singleton.mpr rfl) rfl
        have hJn := hJ.append hJr tk noOld
        have hFn : (ns ++ nr).length ≤ 1000000 := hJn.len (FW.mono fun n ⟨k, hk, x, y, h1, h2, h3⟩ => by
          have hkm : k ∈ mids := List.mem_of_mem_take hk
          exact (w4 n).mpr ⟨k, x, y, h1, ((mids_iff k).mp hkm).2, h2, h3⟩)
        rw [List.length_append] at hFn
        refine ⟨D, lr, _, _, rfl, rfl, hD6, hlr, (by rw [nums_length, nums_length, sizeLine_eq]; omega), ?_⟩
        refine ⟨⟨_, _, rfl⟩, G6, W6.upd, I6.temp gD6 fD _, ns ++ nr, ?_, hJn⟩
        rw [upd_same, nums_append]
    · rintro σ H' ⟨⟨v8, v9, rfl⟩, G', W', I', ns, hDn, hJ⟩
      rw [nums_length, List.take_length] at hJ
      have hDH : H D = none := hD
      refine ⟨_, rfl, kQ H' G' D ns (W'.ext2 x02 hDH) I' hDn (hJ.congr fun n => ?_)⟩
      rw [w4]
      constructor
      · rintro ⟨m, x, y, h1, h2, h3, h4⟩
        exact ⟨m, (mids_iff m).mpr ⟨⟨x, h1⟩, h2⟩, x, y, h1, h3, h4⟩
      · rintro ⟨m, hm, x, y, h1, h3, h4⟩
        exact ⟨m, x, y, h1, ((mids_iff m).mp hm).2, h3, h4⟩
  | _ :: _ :: _ :: _, h => simp at h
end
end Sn
/-! reading: the numbers of a stretch -/
namespace Sn
open PySem PySem.Spec PyProof.Rows L2
open SpecMath (Good)
theorem slots2 {c : RC} (G : Good c.S) {y : SKey} {w : WayD} (h : w ∈ waysIn c.S y) : w.slots.length ≤ 2 := by
  obtain ⟨z, hz, ⟨_, _, rfl⟩ | ⟨h0, b, _, s, hs, _, _, rfl⟩⟩ := waysIn_mem G h
  · exact Nat.zero_le _
  · have f := shape_facts (G.rule (mem_meet hz)) h0 hs
    have e : (shapeWay z.1.by_ s (common b.1 s.q) (common b.2 s.r)).slots.length = s.sl.length := List.length_map _
    rw [e]
    rcases sl_form f with h | ⟨j, h⟩ | ⟨j, h⟩ | ⟨i, j, h⟩ | ⟨i, j, h⟩ <;> rw [h] <;> simp
section
variable {P : Program} {w : World} {K : PySem.W.Frag} {mg : Str → Option Value} {base : Heap} {A : Ad}
theorem nums_zero {f : Addr} {fd : FuncData} {ps : List Str} {CX : CXT} {k : Nat} : FnOk P w K mg base CX k f fd ps (spNums A 0) := by
  have no : ∀ vs H Q E, ¬ spNums A 0 vs H Q E := fun vs H Q E h => by
    obtain ⟨_, _, _, _, _, _, _, _, _, _, _, _, _, ⟨f', h, _⟩, _⟩ := h
    omega
  exact ⟨fun vs H Q E h => absurd h (no vs H Q E), fun A outer s H args us vs Q E _ _ _ _ h => absurd h (no vs H Q E)⟩
def kP (a b : Nat) : List L2.Key := [Sum.inl (a : Int), Sum.inl (b : Int)]
theorem kP_inj {a b a' b' : Nat} (h : kP a b = kP a' b') : a = a' ∧ b = b' := by
  unfold kP at h
  simp only [List.cons.injEq, Sum.inl.injEq, and_true] at h
  obtain ⟨h1, h2⟩ := h
  have h1 : (a : Int) = a' := h1
  have h2 : (b : Int) = b' := h2
  omega
theorem ok_numbers (T : Top K mg A) : ∀ f : Nat, FnOk P w K mg base CX0 (3 * f + 12) A.f_Reading_numbers_of A.d_Reading_numbers_of P_Reading_numbers_of (spNums A f)
  | 0 => nums_zero
  | f + 1 => by
    have IW := ok_way_ends T (ok_ends_of (P := P) (w := w) (base := base) T f)
    have IV := ok_way_numbers T (ok_numbers T f)
    refine T.F_Reading_numbers_of.ok sc_Reading_numbers_of (fun vs H Q E h => ?_) (fun cdv _ outer s H vs Q E hr h => ?_)
    · obtain ⟨_, _, _, _, _, _, _, rfl, _⟩ := h
      rfl
    have hu := hu_of hr
    refine ⟨_, (pss_cons (ps_set (i := 4) sc_Reading_numbers_of.nd rfl (Or.inl rfl) (pe_tup (pa_cons (pv 2) (pa_cons (pv 3) pa_nil))))
    (pss_cons (ps_if (pt_cmp (pc_dnotin hu (pv 4) (pe_fld (pv 1) rfl)))
    (pss_cons (ps_set (i := 5) sc_Reading_numbers_of.nd rfl (Or.inl rfl) (pe_lst pa_nil))
    (pss_cons (ps_for PassesOwn.never rfl (pi_list (pe_meth (pv 0) T.c_Reading T.M_Reading_ways_of (ok_Reading_ways_of T) (hr.mono (by omega)) (b_Reading_ways_of T) .nil pass0 (pa_cons (pv 1) pa_nil))) (pg_name (i := 6) sc_Reading_numbers_of.nd rfl (Or.inl rfl))
    (pss_one (ps_if (PW.pt (pw_and (pt_val (pe_call (ok_has_place T) (hr.mono (by omega)) (by rfl) T.g_has_place T.F_has_place.kp (b_has_place T) .nil pass0 (pa_cons (pe_ix ix_list (pe_fld (pv 6) rfl) pe_int (fun _ _ => rfl)) (pa_cons (pv 2) pa_nil)))) (pw_and1 (pt_val (pe_call (ok_has_place T) (hr.mono (by omega)) (by rfl) T.g_has_place T.F_has_place.kp (b_has_place T) .nil pass0 (pa_cons (pe_meth (pv 0) T.c_Reading T.M_Reading_way_ends IW (hr.mono (by omega)) (b_Reading_way_ends T) .nil pass0 (pa_cons (pv 6) (pa_cons (pv 2) pa_nil))) (pa_cons (pv 3) pa_nil)))))))
    (pss_one (ps_expr (pe_bm PySem.F.plainAttrs_list PySem.F.slot_list_extend PySem.F.type_list_extend mt_extend (pv 5) (pa_cons (pe_meth (pv 0) T.c_Reading T.M_Reading_way_numbers IV (hr.mono (by omega)) (b_Reading_way_numbers T) .nil pass0 (pa_cons (pv 6) (pa_cons (pv 2) (pa_cons (pv 3) pa_nil)))) pa_nil))))
    pss_nil)))
    (pss_one (ps_dput hu (pe_fld (pv 1) rfl) (pv 4) (pv 5) rfl))))
    pss_nil)
    (pss_one (ps_ret (pe_dget hu (pe_fld (pv 1) rfl) (pv 4) (fun _ _ => rfl)))))), ?_⟩
    obtain ⟨c, G, rd, sa, y, a, b, rfl, R0, I, hR, gs, hy, ⟨f', hf, hyf⟩, ha, hb, FW, kQ⟩ := h
    have hf : f = f' := by omega
    subst hf
    obtain ⟨k8, hlh, hM⟩ := R0.ok y hy
    have tx := R0.tx
    refine ⟨_, rfl, _, rfl, (by show 2 ≤ sizeLine; decide), fun t ht => ?_⟩
    have s1 := same_new ht (.tup [.int (a : Int), .int (b : Int)])
    have I1 := I.new ht (.tup [.int (a : Int), .int (b : Int)])
    have gt : G t = none := I.fresh ht
    have e1 : upd H t (.tup [.int (a : Int), .int (b : Int)]) t = some (.tup ((kP a b).map kV)) := upd_same
    generalize hH1 : upd H t (.tup [.int (a : Int), .int (b : Int)]) = H1 at s1 I1 e1 ⊢
    obtain ⟨dxs, wv, ke, kn, hs, ge, gn⟩ := I1.strAt gs
    obtain ⟨kvs, k1, k2⟩ := I1.ok kn _ gn
    refine ⟨_, rfl, _, rfl, _, _, _, _, _, rfl, hs, T.c_Stretch, T.n_Stretch_known_numbers, F_Stretch_known_numbers, _, _, rfl, DGet.t (k := kP a b) k1 e1, _, rfl, ?_⟩
    cases ek : valV kvs (kP a b) with
    | some v =>
      refine if_false_of rfl ?_
      obtain ⟨a', b', l, ns, q1, q2, q3, rfl, q5, q6⟩ := DOk.get k2.2 ek
      obtain ⟨rfl, rfl⟩ := kP_inj q1
      have g := DGet.t (k := kP a b) k1 e1
      rw [ek] at g
      exact ⟨_, rfl, _, _, _, _, _, rfl, hs, T.c_Stretch, T.n_Stretch_known_numbers, F_Stretch_known_numbers, _, rfl, _, _, rfl, g, kQ _ G l ns (Ext.same s1) I1 q5 q6⟩
    | none =>
      refine if_true_of rfl ?_
      refine ⟨(by show 0 ≤ sizeLine; decide), fun D hD => ?_⟩
      have s2 := same_new hD (.lst [])
      have I2 := I1.new hD (.lst [])
      have gD : G D = none := I1.fresh hD
      have fD : c.F D = none := Same.free I1.sF hD
      have hD2 : upd H1 D (.lst []) D = some (.lst (nums [])) := upd_same
      have fDH : H D = none := Same.free s1 hD
      generalize upd H1 D (.lst []) = H2 at *
      obtain ⟨dxr, ms, bm, hr2⟩ := hR.at I2
      refine ⟨_, rfl, _, _, _, rfl, hr2, F_Reading_no_ways_of, _, rfl, c, G, rd, sa, y, rfl, R0, I2, hR, gs, hy, fun H3 G3 lw x3 I3 hw => ?_⟩
      obtain ⟨as, hw1, hw2⟩ := hw
      obtain ⟨hD3, gD3⟩ := x3.tmp hD2 gD
      obtain ⟨et3, gt3⟩ := x3.tmp (s2 _ _ e1) gt
      have nD3 : H3 D ≠ none := by rw [hD3]; intro z; cases z
      have x03 : Ext G G3 H H3 := ((Ext.same s1).trans (Ext.same s2)).trans x3
      have ntD : t ≠ D := fun z => by rw [z] at e1; rw [e1] at hD; cases hD
      refine ⟨lw, rfl, ⟨_, SqL.of (I3.frz hw1)⟩, for_list (K := K) (a := lw) (xs := refs as)
        (fun i σ H' => (∃ v6, σ = [some (.ref rd), some (.ref sa), some (.int (a : Int)), some (.int (b : Int)), some (.ref t), some (.ref D), v6]) ∧ ∃ G', ExtD D G3 G' H3 H' ∧ RInv c A G' none H' ∧
          ∃ ns, H' D = some (.lst (nums ns)) ∧ Just (fun n => ∃ w ∈ (c.ways y).take i, c.WMem w n a b) ns)
        ⟨⟨none, rfl⟩, G3, ExtD.rfl, I3, [], hD3, Just.nil fun n z => by obtain ⟨m, hm, _⟩ := z; cases hm⟩ ?_ ?_ ?_⟩
      · rintro i σ H' _ ⟨_, G', W', I', _⟩
        exact SqL.of (I'.frz (W'.le _ _ hw1))
      · rintro i v σ H' hix ⟨⟨v6, rfl⟩, G', W', I', ns, hDn, hJ⟩
        obtain ⟨wa, wd, rfl, hwd, gw, hm⟩ := objs_get hw2 hix
        have hwm := List.mem_of_getElem? hwd
        have hwI := ways_mem hwm
        have W := way_ok R0 hy hyf hwI
        have gw' := W'.le _ _ gw
        have nwD : wa ≠ D := fun z => by rw [z, gD3] at gw; cases gw
        have hm' := W'.hm _ nwD hm
        have gD' := W'.nw D nD3 gD3
        obtain ⟨dx, ll, wl, sl, ml, e, sas, o1, _, _, _, _, _, o8⟩ := I'.wayAt gw' hm'
        obtain ⟨l0, hl0, eh, hmk⟩ := letters0 W
        have hR' := hR.mono (x03.le.trans W'.le)
        obtain ⟨dxr', ms', bm', hr3⟩ := hR'.at I'
        have tk : ∀ n, (∃ w ∈ (c.ways y).take (i + 1), c.WMem w n a b) ↔ (∃ w ∈ (c.ways y).take i, c.WMem w n a b) ∨ c.WMem wd n a b := fun n => by
          rw [take_more hwd]
          constructor
          · rintro ⟨k, hk, z⟩
            rcases List.mem_append.mp hk with hk | hk
            · exact .inl ⟨k, hk, z⟩
            · rw [List.mem_singleton.mp hk] at z; exact .inr z
          · rintro (⟨k, hk, z⟩ | z)
            · exact ⟨k, List.mem_append_left _ hk, z⟩
            · exact ⟨wd, List.mem_append_right _ (List.mem_singleton.mpr rfl), z⟩
        refine ⟨_, rfl, _, _, _, _, _, rfl, o1, T.c_Way, T.n_Way_masks, F_Way_masks, ml, _, _, _, rfl, rfl, SqL.of (I'.frz o8), atI_nat (j := 0) hmk, _, rfl, c.LM l0, a, rfl, _, rfl, ?_⟩
        cases hb0 : (c.LM l0).testBit a with
        | false =>
          refine if_false_of rfl (if_false_of rfl ⟨⟨_, rfl⟩, G', W', I', ns, hDn, hJ.congr fun n => ?_⟩)
          rw [tk]
          constructor
          · rintro (z | ⟨vs, hs, _⟩)
            · exact z
            · have := hs.1
              rw [eh] at this
              rw [LM_bit.mpr ⟨ha, this⟩] at hb0; cases hb0
          · exact .inl
        | true =>
          have hAt := (LM_bit.mp hb0).2
          refine if_true_of rfl ⟨_, rfl, _, _, _, rfl, hr3, F_Reading_no_way_ends, _, rfl, _, rfl, c, G', rd, wa, wd, a, rfl, R0, I', hR', gw', hm', W, ha, by rw [eh]; exact hAt, fun H4 G4 x4 I4 => ⟨_, rfl, c.WM wd a, b, rfl, _, rfl, ?_⟩⟩
          have W4 := W'.then gD3 nD3 x4 (by rw [hDn]; intro z; cases z)
          obtain ⟨hD4, gD4⟩ := x4.tmp hDn gD'
          cases hbt : (c.WM wd a).testBit b with
          | false =>
            refine if_false_of rfl ⟨⟨_, rfl⟩, G4, W4, I4, ns, hD4, hJ.congr fun n => ?_⟩
            rw [tk]
            constructor
            · rintro (z | ⟨vs, hs, _⟩)
              · exact z
              · rw [WM_bit.mpr ⟨hb, vs, hs⟩] at hbt; cases hbt
            · exact .inl
          | true =>
            have hR4 := hR'.mono x4.le
            obtain ⟨dxr4, ms4, bm4, hr4⟩ := hR4.at I4
            have FWw : Few fun n => c.WMem wd n a b := FW.mono fun n ⟨vs, h1, h2⟩ => h2 ▸ ways_sound R0.G hlh hM hwI h1
            have hinj : Inj c wd := fun vs vs' a e a' e' h1 h2 h3 => way_inj R0.G hlh hM hwI h1 h2 h3
            refine if_true_of rfl ⟨_, rfl, .inl ⟨rfl, _, SqL.of hD4⟩, _, rfl, _, _, _, rfl, hr4, F_Reading_no_way_numbers, _, rfl, _, rfl, _, rfl, c, G4, rd, wa, wd, a, b, rfl, R0, I4, hR4, x4.le _ _ gw', x4.hm _ hm', W, slots2 R0.G hwI, ha, hb, hbt, FWw, hinj, fun H5 G5 l nr x5 I5 hl hJr => ?_⟩
            have W5 := W4.then gD3 nD3 x5 (by rw [hD4]; intro z; cases z)
            obtain ⟨hD5, gD5⟩ := x5.tmp hD4 gD4
            have hJn := hJ.append hJr tk fun n ⟨k, hk, vs, h1, h2⟩ ⟨vs', h3, h4⟩ => by
              have pw : (c.ways y).Pairwise (Apart c) := List.Pairwise.sublist List.filter_sublist (ways_apart R0.G hlh hM)
              have pw2 := List.Pairwise.sublist (List.take_sublist (i + 1) _) pw
              rw [take_more hwd, List.pairwise_append] at pw2
              exact pw2.2.2 k hk wd (List.mem_singleton.mpr rfl) vs vs' _ _ _ _ h1 h3 (h2.trans h4.symm)
            have hFn : (ns ++ nr).length ≤ 1000000 := hJn.len (FW.mono fun n ⟨k, hk, vs, h1, h2⟩ => h2 ▸ ways_sound R0.G hlh hM (ways_mem (List.mem_of_mem_take hk)) h1)
            rw [List.length_append] at hFn
            refine ⟨D, l, _, _, rfl, rfl, hD5, hl, (by rw [nums_length, nums_length, sizeLine_eq]; omega), ?_⟩
            refine ⟨⟨_, rfl⟩, G5, W5.upd, I5.temp gD5 fD _, ns ++ nr, ?_, hJn⟩
            rw [upd_same, nums_append]
      · rintro σ H' ⟨⟨v6, rfl⟩, G', W', I', ns, hDn, hJ⟩
        rw [refs_length, hw2.length, List.take_length] at hJ
        have hJy : Just (fun n => c.Mem y n a b) ns := hJ.congr fun n => by
          constructor
          · intro z
            obtain ⟨w, hw, vs, h1, h2⟩ := ways_full R0.G hM z
            exact ⟨w, List.mem_filter.mpr ⟨hw, says_good ha (ways_letters R0.G hw).1 h1⟩, vs, h1, h2⟩
          · rintro ⟨w, hw, vs, h1, h2⟩
            exact h2 ▸ ways_sound R0.G hlh hM (ways_mem hw) h1
        have gD' := W'.nw D nD3 gD3
        have et' := W'.kp t _ ntD et3 gt3
        have gt' := W'.nw t (by rw [et3]; intro z; cases z) gt3
        have le4 := le_addR (r := .frz (.lst (nums ns))) gD'
        have I4 := I'.add (p := D) (r := .frz (.lst (nums ns))) gD' fD (by exact hDn)
        obtain ⟨dx5, wv5, ke5, kn5, hs5, _, gn5⟩ := I4.strAt (le4 _ _ (W'.le _ _ (x03.le _ _ gs)))
        obtain ⟨kvs3, z1, z2⟩ := I4.ok kn5 _ gn5
        have hlen := z2.len (((List.range 301).flatMap fun i => (List.range 301).map fun j => kP i j)) fun k v ⟨i, j, l, ns, q1, q2, q3, _⟩ => by
          rw [q1]
          exact List.mem_flatMap.mpr ⟨i, List.mem_range.mpr (by omega), List.mem_map.mpr ⟨j, List.mem_range.mpr (by omega), rfl⟩⟩
        have hll := flatMap_len (n := 301) (l := List.range 301) (f := fun i => (List.range 301).map fun j => kP i j) fun i _ => by rw [List.length_map, List.length_range]; exact Nat.le_refl _
        rw [List.length_range] at hll
        have gt4 : addR G' D (.frz (.lst (nums ns))) t = none := by rw [addR_ne ntD]; exact gt'
        have nt5 : t ≠ kn5 := fun z => by rw [z, gn5] at gt4; cases gt4
        have ns5 : sa ≠ kn5 := ne_of hs5 z1 (by intro z; cases z)
        refine ⟨_, rfl, _, rfl, _, _, _, _, _, rfl, hs5, T.c_Stretch, T.n_Stretch_known_numbers, F_Stretch_known_numbers, _, rfl, _, _, rfl, DPut.t (k := kP a b) z1 et' (by rw [sizeLine_eq]; omega), ?_⟩
        have I5 := I4.set gn5 (fun h => (h.not z1).elim) (o := .dT (putK kvs3 (kP a b) (.ref D))) ⟨_, rfl, z2.set ⟨a, b, D, ns, rfl, ha, hb, rfl, addR_same, hJy⟩⟩
        have x5 : Ext G (addR G' D (.frz (.lst (nums ns)))) H (upd H' kn5 (.dT (putK kvs3 (kP a b) (.ref D)))) := ((W'.ext2 x03 fDH).add fDH gD').trans (Ext.upd_role gn5 fun h => (h.not z1).elim)
        have hs6 : upd H' kn5 (.dT (putK kvs3 (kP a b) (.ref D))) sa = _ := (upd_ne ns5).trans hs5
        have g := DGet.t (k := kP a b) (a := kn5) (b := t) (H := upd H' kn5 (.dT (putK kvs3 (kP a b) (.ref D)))) upd_same ((upd_ne nt5).trans et')
        rw [valV_put, if_pos rfl] at g
        exact ⟨_, rfl, _, _, _, _, _, rfl, hs6, T.c_Stretch, T.n_Stretch_known_numbers, F_Stretch_known_numbers, _, rfl, _, _, rfl, g, kQ _ _ D ns x5 I5 addR_same hJy⟩
end
end Sn
/-! how many stretches a read can come to: in plain Lean, of rules as numbers alone -/
namespace Cnt
/-- a rule: the numbers that fall to it, its divisor, the sets of its slots, the least quotient and rest that they say -/
structure RD where
  b : Nat
  l : Nat
  d : Nat
  jq : Nat
  jr : Nat
  mq : Nat
  mr : Nat
abbrev CK := Nat × Nat × Nat
def lowQ (R : RD) (x : Nat) : Nat := max (if 0 < x % R.d then x / R.d + 1 else x / R.d) R.mq
def lowR (R : RD) (x : Nat) : Nat := max (x % R.d) R.mr
def upQ (R : RD) (y : Nat) : Nat := if y % R.d < R.d - 1 then y / R.d - 1 else y / R.d
def upR (R : RD) (y : Nat) : Nat := y % R.d
section
variable (rd : Nat → Nat → Option RD)
def sing : Nat → Nat → Nat → List CK
  | 0, k, n => [(k, n, n)]
  | f + 1, k, n => (k, n, n) :: match rd k n with
    | none => []
    | some R => if R.d = 0 then [] else sing f R.jq (n / R.d) ++ sing f R.jr (n % R.d)
def mainL : Nat → Nat → Nat → Nat → List CK
  | 0, k, x, y => [(k, x, y)]
  | f + 1, k, x, y => (k, x, y) :: match rd k x with
    | none => []
    | some R => if R.d = 0 then [] else if R.b < x ∧ x ≤ y ∧ y < R.l then (if x / R.d = y / R.d then mainL f R.jr (lowR R x) (upR R y) else mainL f R.jq (lowQ R x) (upQ R y)) else []
def lowP (D : Nat → Nat → List CK) (R : RD) (k x : Nat) : List CK :=
  (k, x, R.l) :: (sing rd 60 R.jq (x / R.d) ++ (mainL rd 60 R.jr (lowR R x) (upR R R.l) ++ (mainL rd 60 R.jq (lowQ R x) (upQ R R.l) ++ (mainL rd 60 R.jr (lowR R x) (R.d - 1) ++ (D R.jq (lowQ R x) ++ D R.jr (lowR R x))))))
def DL : Nat → Nat → Nat → List CK
  | 0, k, x => match rd k x with
    | none => []
    | some R => [(k, x, R.l)]
  | f + 1, k, x => match rd k x with
    | none => []
    | some R => if R.d = 0 ∨ x ≤ R.b then [(k, x, R.l)] else lowP rd (DL f) R k x
def upP (D : Nat → Nat → List CK) (R : RD) (k y : Nat) : List CK :=
  (k, R.b, y) :: (sing rd 60 R.jq (y / R.d) ++ (mainL rd 60 R.jr (lowR R R.b) (upR R y) ++ (mainL rd 60 R.jq (lowQ R R.b) (upQ R y) ++ (mainL rd 60 R.jr R.mr (upR R y) ++ (D R.jq (upQ R y) ++ D R.jr (upR R y))))))
def DU : Nat → Nat → Nat → List CK
  | 0, k, y => match rd k y with
    | none => []
    | some R => [(k, R.b, y)]
  | f + 1, k, y => match rd k y with
    | none => []
    | some R => if R.d = 0 ∨ R.l ≤ y then [(k, R.b, y)] else upP rd (DU f) R k y
/-- what a whole rule asks for -/
def canon (z : Nat × RD) : List CK := if z.2.d = 0 then [(z.1, z.2.b, z.2.l)] else
  lowP rd (DL rd 60) z.2 z.1 z.2.b ++ (upP rd (DU rd 60) z.2 z.1 z.2.l ++ (mainL rd 60 z.2.jr z.2.mr (z.2.d - 1) ++ DU rd 60 z.2.jr (z.2.d - 1)))
def triv : List CK := (List.range 8).flatMap fun j => [(j, 0, 0), (j, 1, 1)]
def all (rules : List (Nat × RD)) (k most : Nat) : List CK := triv ++ (rules.flatMap (canon rd) ++ (mainL rd 60 k 0 most ++ DU rd 60 k most))
/-! ### how long the lists are -/
structure RdOk : Prop where
  at_ : ∀ {k x R}, rd k x = some R → R.b ≤ x ∧ x ≤ R.l ∧ R.l + 1 < 2 ^ 50 ∧ (R.d = 0 ∨ 2 ≤ R.d ∧ R.d ≤ R.b ∧ 1 ≤ R.mq ∧ R.mq ≤ 2 ∧ R.mr ≤ 1)
  same : ∀ {k x R}, rd k x = some R → ∀ y, R.b ≤ y → y ≤ R.l → rd k y = some R
def Sb (t : Nat) : Nat := max 1 (4 * t - 5)
def Fb (t : Nat) : Nat := max 1 ((5 * t * t + 33 * t - 62) / 2)
theorem tabS : ((List.range 55).all fun t => (List.range t).all fun b1 => (List.range t).all fun b2 => !(decide (1 ≤ b1) && decide (b1 + b2 ≤ t + 1)) || decide (1 + (Sb b1 + Sb b2) ≤ Sb t)) = true := by decide +kernel
theorem tabF : ((List.range 52).all fun t => (List.range t).all fun b1 => (List.range t).all fun b2 => !(decide (1 ≤ b1) && decide (b1 + b2 ≤ t + 1)) || decide (1 + Sb (b1 + 1) + 2 * (b2 + 1) + (b1 + 1) + Fb b1 + Fb b2 ≤ Fb t)) = true := by decide +kernel
theorem tabS' {t b1 b2 : Nat} (ht : t < 55) (h1 : b1 < t) (h2 : b2 < t) (h3 : 1 ≤ b1) (h4 : b1 + b2 ≤ t + 1) : 1 + (Sb b1 + Sb b2) ≤ Sb t := by
  have := List.all_eq_true.mp (List.all_eq_true.mp (List.all_eq_true.mp tabS t (List.mem_range.mpr ht)) b1 (List.mem_range.mpr h1)) b2 (List.mem_range.mpr h2)
  rw [decide_eq_true h3, decide_eq_true h4] at this
  simpa using this
theorem tabF' {t b1 b2 : Nat} (ht : t < 52) (h1 : b1 < t) (h2 : b2 < t) (h3 : 1 ≤ b1) (h4 : b1 + b2 ≤ t + 1) : 1 + Sb (b1 + 1) + 2 * (b2 + 1) + (b1 + 1) + Fb b1 + Fb b2 ≤ Fb t := by
  have := List.all_eq_true.mp (List.all_eq_true.mp (List.all_eq_true.mp tabF t (List.mem_range.mpr ht)) b1 (List.mem_range.mpr h1)) b2 (List.mem_range.mpr h2)
  rw [decide_eq_true h3, decide_eq_true h4] at this
  simpa using this
theorem Sb_pos (t : Nat) : 1 ≤ Sb t := Nat.le_max_left _ _
theorem Fb_pos (t : Nat) : 1 ≤ Fb t := Nat.le_max_left _ _
/-- a quotient and a rest in bits -/
theorem bits {a c d m t : Nat} (hd : 2 ≤ d) (ha : 1 ≤ a) (had : a * d ≤ m) (hc : c ≤ d) (hc2 : 2 * c ≤ m) (hm : m < 2 ^ t) : ∃ b1 b2, a < 2 ^ b1 ∧ c < 2 ^ b2 ∧ b1 < t ∧ b2 < t ∧ 1 ≤ b1 ∧ b1 + b2 ≤ t + 1 := by
  have key : ∀ b, ∀ v, 2 ^ b ≤ v → v ≤ m → b < t := fun b v h1 h2 => by
    refine Classical.byContradiction fun z => ?_
    have := Nat.pow_le_pow_right (n := 2) (by decide) (show t ≤ b by omega)
    omega
  have ea : 2 ^ a.log2 ≤ a := Nat.log2_self_le (by omega)
  have la : a < 2 ^ (a.log2 + 1) := (Nat.log2_lt (by omega)).mp (Nat.lt_succ_self _)
  have had2 : a * 2 ≤ a * d := Nat.mul_le_mul_left _ hd
  by_cases c0 : c = 0
  · subst c0
    refine ⟨a.log2 + 1, 0, la, by decide, ?_, ?_, by omega, ?_⟩
    · exact key (a.log2 + 1) (a * 2) (by rw [Nat.pow_succ]; omega) (by omega)
    · have := key a.log2 a ea (by omega); omega
    · have := key a.log2 a ea (by omega); omega
  · have ec : 2 ^ c.log2 ≤ c := Nat.log2_self_le c0
    have lc : c < 2 ^ (c.log2 + 1) := (Nat.log2_lt c0).mp (Nat.lt_succ_self _)
    refine ⟨a.log2 + 1, c.log2 + 1, la, lc, ?_, ?_, by omega, ?_⟩
    · exact key (a.log2 + 1) (a * 2) (by rw [Nat.pow_succ]; omega) (by omega)
    · exact key (c.log2 + 1) (2 * c) (by rw [Nat.pow_succ]; omega) (by omega)
    · have := key (a.log2 + c.log2) (a * c) (by rw [Nat.pow_add]; exact Nat.mul_le_mul ea ec) (Nat.le_trans (Nat.mul_le_mul_left _ hc) had)
      omega
theorem mono2 {a b : Nat} (h : a ≤ b) : 2 ^ a ≤ 2 ^ b := Nat.pow_le_pow_right (by decide) h
variable {rd}
theorem sing_len (O : RdOk rd) : ∀ (f t k n : Nat), t < 55 → n < 2 ^ t → (sing rd f k n).length ≤ Sb t
  | 0, t, k, n, _, _ => Sb_pos t
  | f + 1, t, k, n, ht, hn => by
    rw [sing, List.length_cons]
    cases e : rd k n with
    | none => exact Sb_pos t
    | some R =>
      show (if R.d = 0 then [] else sing rd f R.jq (n / R.d) ++ sing rd f R.jr (n % R.d)).length + 1 ≤ Sb t
      obtain ⟨h1, h2, h3, h4 | ⟨d2, db, _⟩⟩ := O.at_ e
      · rw [if_pos h4]; exact Sb_pos t
      · rw [if_neg (by omega), List.length_append]
        have hmod := Nat.mod_lt n (show 0 < R.d by omega)
        have hdm := Nat.div_add_mod n R.d
        have hq : 1 ≤ n / R.d := (Nat.le_div_iff_mul_le (by omega)).mpr (by omega)
        have hqd : R.d * 1 ≤ R.d * (n / R.d) := Nat.mul_le_mul_left _ hq
        obtain ⟨b1, b2, a1, a2, a3, a4, a5, a6⟩ := bits d2 hq (show n / R.d * R.d ≤ n by rw [Nat.mul_comm]; omega) (Nat.le_of_lt hmod) (by omega) hn
        have i1 := sing_len O f b1 R.jq _ (by omega) a1
        have i2 := sing_len O f b2 R.jr _ (by omega) a2
        have := tabS' ht a3 a4 a5 a6
        omega
theorem lowQ_le {R : RD} {x : Nat} (d2 : 2 ≤ R.d) (hx : R.d < x) (hq : R.mq ≤ 2) : lowQ R x = (x - 1) / R.d + 1 ∧ 1 ≤ (x - 1) / R.d := by
  have h1 : 1 ≤ (x - 1) / R.d := (Nat.le_div_iff_mul_le (by omega)).mpr (by omega)
  refine ⟨?_, h1⟩
  unfold lowQ
  have hx1 := Nat.div_add_mod x R.d
  have hy1 := Nat.div_add_mod (x - 1) R.d
  have hm1 := Nat.mod_lt x (show 0 < R.d by omega)
  have hm2 := Nat.mod_lt (x - 1) (show 0 < R.d by omega)
  generalize x / R.d = u at *
  generalize x % R.d = v at *
  generalize (x - 1) / R.d = u' at *
  generalize (x - 1) % R.d = v' at *
  have cmp : u = u' ∨ u = u' + 1 := by
    rcases Nat.lt_trichotomy u u' with c | c | c
    · have : R.d * (u + 1) ≤ R.d * u' := Nat.mul_le_mul_left _ c
      rw [Nat.mul_add] at this; omega
    · exact .inl c
    · rcases Nat.lt_trichotomy u (u' + 1) with c2 | c2 | c2
      · omega
      · exact .inr c2
      · have : R.d * (u' + 1 + 1) ≤ R.d * u := Nat.mul_le_mul_left _ c2
        rw [Nat.mul_add, Nat.mul_add] at this; omega
  rcases cmp with c | c
  · subst c
    rw [if_pos (by omega)]; omega
  · subst c
    rw [Nat.mul_add] at hx1
    rw [if_neg (by omega)]; omega
theorem lowR_le {R : RD} {x : Nat} (d2 : 2 ≤ R.d) (hx : R.d < x) (hr : R.mr ≤ 1) : lowR R x ≤ x % R.d - 1 + 1 ∧ 2 * (x % R.d - 1) ≤ x - 1 ∧ x % R.d < R.d := by
  have hm1 := Nat.mod_lt x (show 0 < R.d by omega)
  have hx1 := Nat.div_add_mod x R.d
  have h1 : 1 ≤ x / R.d := (Nat.le_div_iff_mul_le (by omega)).mpr (by omega)
  have h2 : R.d * 1 ≤ R.d * (x / R.d) := Nat.mul_le_mul_left _ h1
  unfold lowR
  refine ⟨by omega, by omega, hm1⟩
theorem upQ_eq {R : RD} {y : Nat} (d2 : 2 ≤ R.d) (hy : R.d ≤ y) : upQ R y + 1 = (y + 1) / R.d ∧ 1 ≤ (y + 1) / R.d ∧ y / R.d ≤ (y + 1) / R.d := by
  have h1 : 1 ≤ y / R.d := (Nat.le_div_iff_mul_le (by omega)).mpr (by omega)
  have h2 : y / R.d ≤ (y + 1) / R.d := Nat.div_le_div_right (by omega)
  refine ⟨?_, by omega, h2⟩
  unfold upQ
  have hx1 := Nat.div_add_mod y R.d
  have hy1 := Nat.div_add_mod (y + 1) R.d
  have hm1 := Nat.mod_lt y (show 0 < R.d by omega)
  have hm2 := Nat.mod_lt (y + 1) (show 0 < R.d by omega)
  generalize y / R.d = u at *
  generalize y % R.d = v at *
  generalize (y + 1) / R.d = u' at *
  generalize (y + 1) % R.d = v' at *
  have cmp : u' = u ∨ u' = u + 1 := by
    rcases Nat.lt_trichotomy u' (u + 1) with c2 | c2 | c2
    · omega
    · exact .inr c2
    · have : R.d * (u + 1 + 1) ≤ R.d * u' := Nat.mul_le_mul_left _ c2
      rw [Nat.mul_add, Nat.mul_add] at this; omega
  rcases cmp with c | c
  · subst c
    rw [if_pos (by omega)]; omega
  · subst c
    rw [Nat.mul_add] at hy1
    rw [if_neg (by omega)]
theorem upR_le {R : RD} {y : Nat} (d2 : 2 ≤ R.d) (hy : R.d ≤ y) : upR R y + 1 ≤ R.d ∧ 2 * (upR R y + 1) ≤ y + 1 := by
  have hm1 := Nat.mod_lt y (show 0 < R.d by omega)
  have hx1 := Nat.div_add_mod y R.d
  have h1 : 1 ≤ y / R.d := (Nat.le_div_iff_mul_le (by omega)).mpr (by omega)
  have h2 : R.d * 1 ≤ R.d * (y / R.d) := Nat.mul_le_mul_left _ h1
  unfold upR
  refine ⟨by omega, ?_⟩
  by_cases c : y % R.d = R.d - 1
  · omega
  · omega
theorem pow_half {m a t : Nat} (h : m ≤ 2 ^ (t + 1)) (h2 : 2 * a ≤ m) : a ≤ 2 ^ t := by rw [Nat.pow_succ] at h; omega
/-- a chain is as long as its low end has bits -/
theorem main_len (O : RdOk rd) : ∀ (f t k x y : Nat), x ≤ 2 ^ t → (mainL rd f k x y).length ≤ t + 1
  | 0, t, k, x, y, _ => by rw [mainL]; simp
  | f + 1, t, k, x, y, hx => by
    rw [mainL, List.length_cons]
    cases e : rd k x with
    | none => simp
    | some R =>
      show (if R.d = 0 then [] else if R.b < x ∧ x ≤ y ∧ y < R.l then (if x / R.d = y / R.d then mainL rd f R.jr (lowR R x) (upR R y) else mainL rd f R.jq (lowQ R x) (upQ R y)) else []).length + 1 ≤ t + 1
      obtain ⟨h1, h2, h3, h4 | ⟨d2, db, m1, m2, m3⟩⟩ := O.at_ e
      · rw [if_pos h4]; simp
      rw [if_neg (by omega)]
      split
      · rename_i hc
        obtain ⟨q1, q2⟩ := lowQ_le d2 (show R.d < x by omega) m2
        obtain ⟨r1, r2, r3⟩ := lowR_le d2 (show R.d < x by omega) m3
        match t, hx with
        | 0, hx => rw [Nat.pow_zero] at hx; omega
        | t + 1, hx =>
          split
          · exact Nat.succ_le_succ (main_len O f t _ _ _ (by rw [Nat.pow_succ] at hx; omega))
          · refine Nat.succ_le_succ (main_len O f t _ _ _ ?_)
            have h5 : (x - 1) / R.d * R.d ≤ x - 1 := Nat.div_mul_le_self _ _
            have h6 : (x - 1) / R.d * 2 ≤ (x - 1) / R.d * R.d := Nat.mul_le_mul_left _ d2
            rw [Nat.pow_succ] at hx
            omega
      · simp
/-- and no longer than its high end has bits -/
theorem main_len' (O : RdOk rd) : ∀ (f t k x y : Nat), y < 2 ^ t → (mainL rd f k x y).length ≤ t + 1
  | 0, t, k, x, y, _ => by rw [mainL]; simp
  | f + 1, t, k, x, y, hy => by
    rw [mainL, List.length_cons]
    cases e : rd k x with
    | none => simp
    | some R =>
      show (if R.d = 0 then [] else if R.b < x ∧ x ≤ y ∧ y < R.l then (if x / R.d = y / R.d then mainL rd f R.jr (lowR R x) (upR R y) else mainL rd f R.jq (lowQ R x) (upQ R y)) else []).length + 1 ≤ t + 1
      obtain ⟨h1, h2, h3, h4 | ⟨d2, db, m1, m2, m3⟩⟩ := O.at_ e
      · rw [if_pos h4]; simp
      rw [if_neg (by omega)]
      split
      · rename_i hc
        match t, hy with
        | 0, hy =>
          rw [Nat.pow_zero] at hy
          omega
        | t + 1, hy =>
          have hy2 : y / R.d * 2 ≤ y := Nat.le_trans (Nat.mul_le_mul_left _ d2) (Nat.div_mul_le_self _ _)
          rw [Nat.pow_succ] at hy
          split
          · rename_i hq
            refine Nat.succ_le_succ (main_len' O f t _ _ _ ?_)
            have h1 : 1 ≤ x / R.d := (Nat.le_div_iff_mul_le (by omega)).mpr (by omega)
            have hm1 := Nat.mod_lt y (show 0 < R.d by omega)
            have hx1 := Nat.div_add_mod y R.d
            have h2 : R.d * 1 ≤ R.d * (y / R.d) := Nat.mul_le_mul_left _ (by omega)
            unfold upR
            omega
          · refine Nat.succ_le_succ (main_len' O f t _ _ _ ?_)
            have : upQ R y ≤ y / R.d := by unfold upQ; split <;> omega
            omega
      · simp
theorem lowP_len (O : RdOk rd) {D : Nat → Nat → List CK} (hD : ∀ t k x, t < 52 → x ≤ 2 ^ t → (D k x).length ≤ Fb t) {R : RD} {k x t : Nat} (d2 : 2 ≤ R.d) (hx : R.d < x) (m2 : R.mq ≤ 2) (m3 : R.mr ≤ 1) (ht : t < 52) (hxt : x ≤ 2 ^ t) : (lowP rd D R k x).length ≤ Fb t := by
  obtain ⟨q1, q2⟩ := lowQ_le d2 hx m2
  obtain ⟨r1, r2, r3⟩ := lowR_le d2 hx m3
  obtain ⟨b1, b2, a1, a2, a3, a4, a5, a6⟩ := bits (c := x % R.d - 1) d2 q2 (Nat.div_mul_le_self _ _) (by omega) r2 (show x - 1 < 2 ^ t by omega)
  have hxd : x / R.d ≤ lowQ R x := by
    unfold lowQ
    refine Nat.le_trans ?_ (Nat.le_max_left _ _)
    split <;> omega
  have i1 := sing_len O 60 (b1 + 1) R.jq (x / R.d) (by omega) (by rw [Nat.pow_succ]; omega)
  have i2 := main_len O 60 b2 R.jr (lowR R x) (upR R R.l) (by omega)
  have i3 := main_len O 60 b1 R.jq (lowQ R x) (upQ R R.l) (by omega)
  have i4 := main_len O 60 b2 R.jr (lowR R x) (R.d - 1) (by omega)
  have i5 := hD b1 R.jq (lowQ R x) (by omega) (by omega)
  have i6 := hD b2 R.jr (lowR R x) (by omega) (by omega)
  have := tabF' ht a3 a4 a5 a6
  unfold lowP
  simp only [List.length_cons, List.length_append]
  omega
theorem DL_len (O : RdOk rd) : ∀ (f t k x : Nat), t < 52 → x ≤ 2 ^ t → (DL rd f k x).length ≤ Fb t
  | 0, t, k, x, _, _ => by
    rw [DL]
    have := Fb_pos t
    cases rd k x <;> simp <;> omega
  | f + 1, t, k, x, ht, hx => by
    rw [DL]
    have := Fb_pos t
    cases e : rd k x with
    | none => simp
    | some R =>
      show (if R.d = 0 ∨ x ≤ R.b then [(k, x, R.l)] else lowP rd (DL rd f) R k x).length ≤ Fb t
      split
      · simpa using this
      · rename_i hc
        obtain ⟨h1, h2, h3, h4 | ⟨d2, db, m1, m2, m3⟩⟩ := O.at_ e
        · exact (hc (.inl h4)).elim
        exact lowP_len O (DL_len O f) d2 (by omega) m2 m3 ht hx
theorem upP_len (O : RdOk rd) {D : Nat → Nat → List CK} (hD : ∀ t k y, t < 52 → y + 1 < 2 ^ t → (D k y).length ≤ Fb t) {R : RD} {k y t : Nat} (d2 : 2 ≤ R.d) (hy : R.d ≤ y) (ht : t < 52) (hyt : y + 1 < 2 ^ t) : (upP rd D R k y).length ≤ Fb t := by
  obtain ⟨q1, q2, q3⟩ := upQ_eq d2 hy
  obtain ⟨r1, r2⟩ := upR_le d2 hy
  obtain ⟨b1, b2, a1, a2, a3, a4, a5, a6⟩ := bits (c := upR R y + 1) d2 q2 (Nat.div_mul_le_self _ _) (by omega) r2 hyt
  have i1 := sing_len O 60 (b1 + 1) R.jq (y / R.d) (by omega) (by rw [Nat.pow_succ]; omega)
  have i2 := main_len' O 60 b2 R.jr (lowR R R.b) (upR R y) (by omega)
  have i3 := main_len' O 60 b1 R.jq (lowQ R R.b) (upQ R y) (by omega)
  have i4 := main_len' O 60 b2 R.jr R.mr (upR R y) (by omega)
  have i5 := hD b1 R.jq (upQ R y) (by omega) (by omega)
  have i6 := hD b2 R.jr (upR R y) (by omega) (by omega)
  have := tabF' ht a3 a4 a5 a6
  unfold upP
  simp only [List.length_cons, List.length_append]
  omega
theorem DU_len (O : RdOk rd) : ∀ (f t k y : Nat), t < 52 → y + 1 < 2 ^ t → (DU rd f k y).length ≤ Fb t
  | 0, t, k, y, _, _ => by
    rw [DU]
    have := Fb_pos t
    cases rd k y <;> simp <;> omega
  | f + 1, t, k, y, ht, hy => by
    rw [DU]
    have := Fb_pos t
    cases e : rd k y with
    | none => simp
    | some R =>
      show (if R.d = 0 ∨ R.l ≤ y then [(k, R.b, y)] else upP rd (DU rd f) R k y).length ≤ Fb t
      split
      · simpa using this
      · rename_i hc
        obtain ⟨h1, h2, h3, h4 | ⟨d2, db, m1, m2, m3⟩⟩ := O.at_ e
        · exact (hc (.inl h4)).elim
        exact upP_len O (DU_len O f) d2 (by omega) ht hy
theorem canon_len (O : RdOk rd) {z : Nat × RD} (hz : rd z.1 z.2.b = some z.2) : (canon rd z).length ≤ 22000 := by
  obtain ⟨k, R⟩ := z
  unfold canon
  have f50 : Fb 50 = 7044 := by decide
  split
  · show 1 ≤ _; decide
  rename_i hc
  have hc : R.d ≠ 0 := hc
  have hz : rd k R.b = some R := hz
  obtain ⟨h1, h2, h3, h4 | ⟨d2, db, m1, m2, m3⟩⟩ := O.at_ hz
  · exact (hc h4).elim
  show (lowP rd (DL rd 60) R k R.b ++ (upP rd (DU rd 60) R k R.l ++ (mainL rd 60 R.jr R.mr (R.d - 1) ++ DU rd 60 R.jr (R.d - 1)))).length ≤ 22000
  rw [List.length_append, List.length_append, List.length_append]
  have i2 := upP_len O (DU_len O 60) (k := k) (t := 50) d2 (show R.d ≤ R.l by omega) (by decide) h3
  have i3 := main_len O 60 1 R.jr R.mr (R.d - 1) (by omega)
  have i4 := DU_len O 60 50 R.jr (R.d - 1) (by decide) (by omega)
  have i1 : (lowP rd (DL rd 60) R k R.b).length ≤ 7044 := by
    by_cases c : R.d < R.b
    · rw [← f50]
      exact lowP_len O (DL_len O 60) d2 c m2 m3 (by decide) (by omega)
    · have e : R.b = R.d := by omega
      have hd1 : R.b / R.d = 1 := by rw [e]; exact Nat.div_self (by omega)
      have hd2 : R.b % R.d = 0 := by rw [e]; exact Nat.mod_self _
      have hlq : lowQ R R.b ≤ 2 := by unfold lowQ; rw [hd1, hd2]; simp; omega
      have hlr : lowR R R.b ≤ 1 := by unfold lowR; rw [hd2]; omega
      have i1 := sing_len O 60 1 R.jq (R.b / R.d) (by omega) (by rw [hd1]; decide)
      have i2 := main_len O 60 0 R.jr (lowR R R.b) (upR R R.l) (by omega)
      have i3 := main_len O 60 1 R.jq (lowQ R R.b) (upQ R R.l) (by omega)
      have i4 := main_len O 60 0 R.jr (lowR R R.b) (R.d - 1) (by omega)
      have i5 := DL_len O 60 1 R.jq (lowQ R R.b) (by omega) (by omega)
      have i6 := DL_len O 60 0 R.jr (lowR R R.b) (by omega) (by omega)
      have s1 : Sb 1 = 1 := by decide
      have s2 : Fb 1 = 1 := by decide
      have s3 : Fb 0 = 1 := by decide
      unfold lowP
      simp only [List.length_cons, List.length_append]
      omega
  omega
theorem flat_len {α β : Type} {f : α → List β} {n : Nat} : ∀ {l : List α}, (∀ x ∈ l, (f x).length ≤ n) → (l.flatMap f).length ≤ l.length * n
  | [], _ => by simp
  | x :: l, h => by
    rw [List.flatMap_cons, List.length_append, List.length_cons, Nat.succ_mul]
    have h1 := h x List.mem_cons_self
    have h2 := flat_len (l := l) fun y hy => h y (List.mem_cons_of_mem _ hy)
    omega
theorem all_len (O : RdOk rd) {rules : List (Nat × RD)} (h : ∀ z ∈ rules, rd z.1 z.2.b = some z.2) (hl : rules.length ≤ 480) {k most : Nat} (hm : most + 1 < 2 ^ 50) : (all rd rules k most).length < 16777216 := by
  have i1 := flat_len (f := canon rd) (n := 22000) fun z hz => canon_len O (h z hz)
  have i2 := main_len O 60 0 k 0 most (by decide)
  have i3 := DU_len O 60 50 k most (by decide) hm
  have f50 : Fb 50 = 7044 := by decide
  have ht : triv.length = 16 := by decide
  have : rules.length * 22000 ≤ 480 * 22000 := Nat.mul_le_mul_right _ hl
  unfold all
  rw [List.length_append, List.length_append, List.length_append]
  omega
end
end Cnt
/-! the stretches that a read can come to lie in the lists: closed -/
namespace Cnt
section
variable (rd : Nat → Nat → Option RD) (L : List CK)
def SingIn (k n : Nat) : Prop := ∃ f, n < 2 ^ f ∧ ∀ e ∈ sing rd f k n, e ∈ L
def LowIn (k x : Nat) : Prop := ∃ f, x ≤ 2 ^ f ∧ ∀ e ∈ DL rd f k x, e ∈ L
def UpIn (k y : Nat) : Prop := ∃ f, y + 1 < 2 ^ f ∧ ∀ e ∈ DU rd f k y, e ∈ L
def MainIn (k x y : Nat) : Prop := ∃ f, y < 2 ^ f ∧ ∀ e ∈ mainL rd f k x y, e ∈ L
/-- a stretch whose own ones are all in the list -/
def Sup (z : CK) : Prop := (z.2.1 = z.2.2 ∧ SingIn rd L z.1 z.2.1) ∨ (LowIn rd L z.1 z.2.1 ∧ UpIn rd L z.1 z.2.2 ∧ MainIn rd L z.1 z.2.1 z.2.2)
structure LowPk (R : RD) (x : Nat) : Prop where
  s : SingIn rd L R.jq (x / R.d)
  m1 : MainIn rd L R.jr (lowR R x) (upR R R.l)
  m2 : MainIn rd L R.jq (lowQ R x) (upQ R R.l)
  m3 : MainIn rd L R.jr (lowR R x) (R.d - 1)
  l1 : LowIn rd L R.jq (lowQ R x)
  l2 : LowIn rd L R.jr (lowR R x)
structure UpPk (R : RD) (y : Nat) : Prop where
  s : SingIn rd L R.jq (y / R.d)
  m1 : MainIn rd L R.jr (lowR R R.b) (upR R y)
  m2 : MainIn rd L R.jq (lowQ R R.b) (upQ R y)
  m3 : MainIn rd L R.jr R.mr (upR R y)
  u1 : UpIn rd L R.jq (upQ R y)
  u2 : UpIn rd L R.jr (upR R y)
end
section
variable {rd : Nat → Nat → Option RD} {L : List CK}
theorem SingIn.mem {k n : Nat} (h : SingIn rd L k n) : (k, n, n) ∈ L := by
  obtain ⟨f, _, h⟩ := h
  refine h _ ?_
  cases f with
  | zero => rw [sing]; exact List.mem_singleton.mpr rfl
  | succ f => rw [sing]; exact List.mem_cons_self
theorem MainIn.mem {k x y : Nat} (h : MainIn rd L k x y) : (k, x, y) ∈ L := by
  obtain ⟨f, _, h⟩ := h
  refine h _ ?_
  cases f with
  | zero => rw [mainL]; exact List.mem_singleton.mpr rfl
  | succ f => rw [mainL]; exact List.mem_cons_self
theorem Sup.mem {z : CK} (h : Sup rd L z) : z ∈ L := by
  obtain ⟨k, x, y⟩ := z
  rcases h with ⟨h1, h2⟩ | ⟨_, _, h⟩
  · have h1 : x = y := h1
    subst h1
    exact h2.mem
  · exact h.mem
theorem two_le {f n : Nat} (h : n ≤ 2 ^ f) (hn : 2 < n) : ∃ g, f = g + 1 := by
  cases f with
  | zero => rw [Nat.pow_zero] at h; omega
  | succ g => exact ⟨g, rfl⟩
theorem lt60 {n : Nat} (h : n < 2 ^ 50) : n < 2 ^ 60 := Nat.lt_of_lt_of_le h (mono2 (by decide))
theorem lowP_pk {D : Nat → Nat → List CK} {R : RD} {k x : Nat} (hx : x < 2 ^ 50) (hd : R.d < 2 ^ 50) (hl : R.l < 2 ^ 50) (d0 : 0 < R.d) (h : ∀ e ∈ lowP rd D R k x, e ∈ L) (h1 : (∀ e ∈ D R.jq (lowQ R x), e ∈ L) → LowIn rd L R.jq (lowQ R x)) (h2 : (∀ e ∈ D R.jr (lowR R x), e ∈ L) → LowIn rd L R.jr (lowR R x)) : (k, x, R.l) ∈ L ∧ LowPk rd L R x := by
  unfold lowP at h
  simp only [List.mem_cons, List.mem_append] at h
  have a1 : x / R.d ≤ x := Nat.div_le_self _ _
  have a2 : upR R R.l ≤ R.l := Nat.mod_le _ _
  have a3 : upQ R R.l ≤ R.l := by
    have := Nat.div_le_self R.l R.d
    unfold upQ; split <;> omega
  exact ⟨h _ (.inl rfl), ⟨60, lt60 (by omega), fun e he => h e (.inr (.inl he))⟩, ⟨60, lt60 (by omega), fun e he => h e (.inr (.inr (.inl he)))⟩, ⟨60, lt60 (by omega), fun e he => h e (.inr (.inr (.inr (.inl he))))⟩, ⟨60, lt60 (by omega), fun e he => h e (.inr (.inr (.inr (.inr (.inl he)))))⟩, h1 fun e he => h e (.inr (.inr (.inr (.inr (.inr (.inl he)))))), h2 fun e he => h e (.inr (.inr (.inr (.inr (.inr (.inr he))))))⟩
theorem upP_pk {D : Nat → Nat → List CK} {R : RD} {k y : Nat} (hy : y < 2 ^ 50) (h : ∀ e ∈ upP rd D R k y, e ∈ L) (h1 : (∀ e ∈ D R.jq (upQ R y), e ∈ L) → UpIn rd L R.jq (upQ R y)) (h2 : (∀ e ∈ D R.jr (upR R y), e ∈ L) → UpIn rd L R.jr (upR R y)) : (k, R.b, y) ∈ L ∧ UpPk rd L R y := by
  unfold upP at h
  simp only [List.mem_cons, List.mem_append] at h
  have a1 : y / R.d ≤ y := Nat.div_le_self _ _
  have a2 : upR R y ≤ y := Nat.mod_le _ _
  have a3 : upQ R y ≤ y := by unfold upQ; split <;> omega
  exact ⟨h _ (.inl rfl), ⟨60, lt60 (by omega), fun e he => h e (.inr (.inl he))⟩, ⟨60, lt60 (by omega), fun e he => h e (.inr (.inr (.inl he)))⟩, ⟨60, lt60 (by omega), fun e he => h e (.inr (.inr (.inr (.inl he))))⟩, ⟨60, lt60 (by omega), fun e he => h e (.inr (.inr (.inr (.inr (.inl he)))))⟩, h1 fun e he => h e (.inr (.inr (.inr (.inr (.inr (.inl he)))))), h2 fun e he => h e (.inr (.inr (.inr (.inr (.inr (.inr he))))))⟩
/-- what every list of the kind has -/
structure Has (rd : Nat → Nat → Option RD) (L : List CK) : Prop where
  canon : ∀ {k R}, rd k R.b = some R → ∀ e ∈ canon rd (k, R), e ∈ L
  low : ∀ {j m}, j < 8 → m ≤ 1 → LowIn rd L j m
  sing : ∀ {j m}, j < 8 → m ≤ 1 → SingIn rd L j m
theorem canon_pk (O : RdOk rd) (hA : Has rd L) {k : Nat} {R : RD} (e : rd k R.b = some R) (h0 : R.d ≠ 0) : (k, R.b, R.l) ∈ L ∧ LowPk rd L R R.b ∧ UpPk rd L R R.l ∧ MainIn rd L R.jr R.mr (R.d - 1) ∧ UpIn rd L R.jr (R.d - 1) := by
  have h := hA.canon e
  unfold Cnt.canon at h
  rw [if_neg h0] at h
  simp only [List.mem_append] at h
  obtain ⟨h1, h2, h3, h4 | ⟨d2, db, m1, m2, m3⟩⟩ := O.at_ e
  · exact (h0 h4).elim
  have a1 : lowQ R R.b ≤ 2 ^ 50 := by
    unfold lowQ
    have := Nat.div_le_self R.b R.d
    have : (2 : Nat) ^ 50 = 1125899906842624 := by decide
    refine Nat.max_le.mpr ⟨?_, by omega⟩
    split <;> omega
  have a2 : lowR R R.b ≤ 2 ^ 50 := by
    unfold lowR
    have := Nat.mod_le R.b R.d
    have : (2 : Nat) ^ 50 = 1125899906842624 := by decide
    exact Nat.max_le.mpr ⟨by omega, by omega⟩
  have a3 : upR R R.l ≤ R.l := Nat.mod_le _ _
  have a4 : upQ R R.l ≤ R.l := by
    have := Nat.div_le_self R.l R.d
    unfold upQ; split <;> omega
  have p60 : (2 : Nat) ^ 50 ≤ 2 ^ 60 := mono2 (by decide)
  obtain ⟨c1, c2⟩ := lowP_pk (by omega) (by omega) (by omega) (by omega) (fun e he => h e (.inl he)) (fun q => ⟨60, by omega, q⟩) (fun q => ⟨60, by omega, q⟩)
  obtain ⟨_, c3⟩ := upP_pk (by omega) (fun e he => h e (.inr (.inl he))) (fun q => ⟨60, by omega, q⟩) (fun q => ⟨60, by omega, q⟩)
  exact ⟨c1, c2, c3, ⟨60, by omega, fun e he => h e (.inr (.inr (.inl he)))⟩, ⟨60, by omega, fun e he => h e (.inr (.inr (.inr he)))⟩⟩
theorem low_pk (O : RdOk rd) {k x : Nat} {R : RD} (e : rd k x = some R) (h0 : R.d ≠ 0) (hb : R.b < x) (h : LowIn rd L k x) : LowPk rd L R x := by
  obtain ⟨h1, h2, h3, h4 | ⟨d2, db, m1, m2, m3⟩⟩ := O.at_ e
  · exact (h0 h4).elim
  obtain ⟨f, hf, h⟩ := h
  obtain ⟨g, rfl⟩ := two_le hf (by omega)
  rw [DL, e] at h
  have h : ∀ z ∈ (if R.d = 0 ∨ x ≤ R.b then [(k, x, R.l)] else lowP rd (DL rd g) R k x), z ∈ L := h
  rw [if_neg (by omega)] at h
  obtain ⟨q1, q2⟩ := lowQ_le d2 (show R.d < x by omega) m2
  obtain ⟨r1, r2, r3⟩ := lowR_le d2 (show R.d < x by omega) m3
  rw [Nat.pow_succ] at hf
  have a1 : (x - 1) / R.d * R.d ≤ x - 1 := Nat.div_mul_le_self _ _
  have a2 : (x - 1) / R.d * 2 ≤ (x - 1) / R.d * R.d := Nat.mul_le_mul_left _ d2
  exact (lowP_pk (by omega) (by omega) (by omega) (by omega) h (fun q => ⟨g, by omega, q⟩) (fun q => ⟨g, by omega, q⟩)).2
theorem low_head {k x : Nat} {R : RD} (e : rd k x = some R) (h : LowIn rd L k x) : (k, x, R.l) ∈ L := by
  obtain ⟨f, _, h⟩ := h
  cases f with
  | zero =>
    rw [DL, e] at h
    exact h _ (List.mem_singleton.mpr rfl)
  | succ f =>
    rw [DL, e] at h
    have h : ∀ z ∈ (if R.d = 0 ∨ x ≤ R.b then [(k, x, R.l)] else lowP rd (DL rd f) R k x), z ∈ L := h
    split at h
    · exact h _ (List.mem_singleton.mpr rfl)
    · exact h _ (by unfold lowP; exact List.mem_cons_self)
theorem up_head {k y : Nat} {R : RD} (e : rd k y = some R) (h : UpIn rd L k y) : (k, R.b, y) ∈ L := by
  obtain ⟨f, _, h⟩ := h
  cases f with
  | zero =>
    rw [DU, e] at h
    exact h _ (List.mem_singleton.mpr rfl)
  | succ f =>
    rw [DU, e] at h
    have h : ∀ z ∈ (if R.d = 0 ∨ R.l ≤ y then [(k, R.b, y)] else upP rd (DU rd f) R k y), z ∈ L := h
    split at h
    · exact h _ (List.mem_singleton.mpr rfl)
    · exact h _ (by unfold upP; exact List.mem_cons_self)
theorem up_pk (O : RdOk rd) {k y : Nat} {R : RD} (e : rd k y = some R) (h0 : R.d ≠ 0) (hl : y < R.l) (h : UpIn rd L k y) : UpPk rd L R y := by
  obtain ⟨h1, h2, h3, h4 | ⟨d2, db, m1, m2, m3⟩⟩ := O.at_ e
  · exact (h0 h4).elim
  obtain ⟨f, hf, h⟩ := h
  obtain ⟨g, rfl⟩ := two_le (Nat.le_of_lt hf) (by omega)
  rw [DU, e] at h
  have h : ∀ z ∈ (if R.d = 0 ∨ R.l ≤ y then [(k, R.b, y)] else upP rd (DU rd g) R k y), z ∈ L := h
  rw [if_neg (by omega)] at h
  obtain ⟨q1, q2, q3⟩ := upQ_eq d2 (show R.d ≤ y by omega)
  obtain ⟨r1, r2⟩ := upR_le d2 (show R.d ≤ y by omega)
  rw [Nat.pow_succ] at hf
  have a1 : (y + 1) / R.d * R.d ≤ y + 1 := Nat.div_mul_le_self _ _
  have a2 : (y + 1) / R.d * 2 ≤ (y + 1) / R.d * R.d := Nat.mul_le_mul_left _ d2
  exact (upP_pk (by omega) h (fun q => ⟨g, by omega, q⟩) (fun q => ⟨g, by omega, q⟩)).2
theorem main_pk (O : RdOk rd) {k x y : Nat} {R : RD} (e : rd k x = some R) (h0 : R.d ≠ 0) (hb : R.b < x) (hxy : x ≤ y) (hl : y < R.l) (h : MainIn rd L k x y) :
    (x / R.d = y / R.d → MainIn rd L R.jr (lowR R x) (upR R y)) ∧ (x / R.d ≠ y / R.d → MainIn rd L R.jq (lowQ R x) (upQ R y)) := by
  obtain ⟨h1, h2, h3, h4 | ⟨d2, db, m1, m2, m3⟩⟩ := O.at_ e
  · exact (h0 h4).elim
  obtain ⟨f, hf, h⟩ := h
  obtain ⟨g, rfl⟩ := two_le (Nat.le_of_lt hf) (by omega)
  rw [mainL, e] at h
  have h : ∀ z ∈ (k, x, y) :: (if R.d = 0 then [] else if R.b < x ∧ x ≤ y ∧ y < R.l then (if x / R.d = y / R.d then mainL rd g R.jr (lowR R x) (upR R y) else mainL rd g R.jq (lowQ R x) (upQ R y)) else []), z ∈ L := h
  rw [if_neg h0, if_pos ⟨hb, hxy, hl⟩] at h
  rw [Nat.pow_succ] at hf
  have r2 := (upR_le d2 (show R.d ≤ y by omega)).2
  have hy2 : y / R.d * 2 ≤ y := Nat.le_trans (Nat.mul_le_mul_left _ d2) (Nat.div_mul_le_self _ _)
  have hu : upQ R y ≤ y / R.d := by unfold upQ; split <;> omega
  refine ⟨fun q => ?_, fun q => ?_⟩
  · rw [if_pos q] at h
    exact ⟨g, by omega, fun e he => h e (List.mem_cons_of_mem _ he)⟩
  · rw [if_neg q] at h
    exact ⟨g, by omega, fun e he => h e (List.mem_cons_of_mem _ he)⟩
theorem sing_pk (O : RdOk rd) {k n : Nat} {R : RD} (e : rd k n = some R) (h0 : R.d ≠ 0) (h : SingIn rd L k n) : SingIn rd L R.jq (n / R.d) ∧ SingIn rd L R.jr (n % R.d) := by
  obtain ⟨h1, h2, h3, h4 | ⟨d2, db, m1, m2, m3⟩⟩ := O.at_ e
  · exact (h0 h4).elim
  obtain ⟨f, hf, h⟩ := h
  have hf1 : f ≠ 0 := fun z => by subst z; rw [Nat.pow_zero] at hf; omega
  obtain ⟨g, rfl⟩ : ∃ g, f = g + 1 := ⟨f - 1, by omega⟩
  rw [sing, e] at h
  have h : ∀ z ∈ (k, n, n) :: (if R.d = 0 then [] else sing rd g R.jq (n / R.d) ++ sing rd g R.jr (n % R.d)), z ∈ L := h
  rw [if_neg h0] at h
  rw [Nat.pow_succ] at hf
  have hy2 : n / R.d * 2 ≤ n := Nat.le_trans (Nat.mul_le_mul_left _ d2) (Nat.div_mul_le_self _ _)
  have hm := Nat.mod_lt n (show 0 < R.d by omega)
  have hdm := Nat.div_add_mod n R.d
  have hq : 1 ≤ n / R.d := (Nat.le_div_iff_mul_le (by omega)).mpr (by omega)
  have hqd : R.d * 1 ≤ R.d * (n / R.d) := Nat.mul_le_mul_left _ hq
  exact ⟨⟨g, by omega, fun e he => h e (List.mem_cons_of_mem _ (List.mem_append_left _ he))⟩, ⟨g, by omega, fun e he => h e (List.mem_cons_of_mem _ (List.mem_append_right _ he))⟩⟩
/-- a stretch's part of one rule -/
theorem part_mem (O : RdOk rd) (hA : Has rd L) {k x y : Nat} {R : RD} (e : ∀ n, R.b ≤ n → n ≤ R.l → rd k n = some R) (hbl : R.b ≤ R.l) (hS : Sup rd L (k, x, y)) (hxy : x ≤ y) (h1 : R.b ≤ y) (h2 : x ≤ R.l) : (k, max x R.b, min y R.l) ∈ L := by
  rcases hS with ⟨s1, s2⟩ | ⟨l, u, m⟩
  · have s1 : x = y := s1
    subst s1
    rw [Nat.max_eq_left h1, Nat.min_eq_left h2]
    exact s2.mem
  · have l : LowIn rd L k x := l
    have u : UpIn rd L k y := u
    have m : MainIn rd L k x y := m
    by_cases c1 : x ≤ R.b
    · rw [Nat.max_eq_right c1]
      by_cases c2 : R.l ≤ y
      · rw [Nat.min_eq_right c2]
        by_cases h0 : R.d = 0
        · have h := hA.canon (e R.b (Nat.le_refl _) hbl)
          unfold canon at h
          rw [if_pos h0] at h
          exact h _ (List.mem_singleton.mpr rfl)
        · exact (canon_pk O hA (e R.b (Nat.le_refl _) hbl) h0).1
      · rw [Nat.min_eq_left (by omega)]
        exact up_head (e y h1 (by omega)) u
    · rw [Nat.max_eq_left (by omega)]
      by_cases c2 : R.l ≤ y
      · rw [Nat.min_eq_right c2]
        exact low_head (e x (by omega) h2) l
      · rw [Nat.min_eq_left (by omega)]
        exact m.mem
structure PartIn (rd : Nat → Nat → Option RD) (L : List CK) (R : RD) (lo hi : Nat) : Prop where
  ql : Sup rd L (R.jq, lo / R.d, lo / R.d)
  qh : Sup rd L (R.jq, hi / R.d, hi / R.d)
  one : lo / R.d = hi / R.d → Sup rd L (R.jr, lowR R lo, upR R hi)
  r1 : lo / R.d ≠ hi / R.d → Sup rd L (R.jr, lowR R lo, R.d - 1)
  r2 : lo / R.d ≠ hi / R.d → Sup rd L (R.jr, R.mr, upR R hi)
  r3 : Sup rd L (R.jr, R.mr, R.d - 1)
  q3 : lo / R.d ≠ hi / R.d → Sup rd L (R.jq, lowQ R lo, upQ R hi)
theorem part_in (O : RdOk rd) (hA : Has rd L) {k x y : Nat} {R : RD} (e : ∀ n, R.b ≤ n → n ≤ R.l → rd k n = some R) (hbl : R.b ≤ R.l) (h0 : R.d ≠ 0) (hr8 : R.jr < 8) (hl : LowIn rd L k x) (hu : UpIn rd L k y) (hm : MainIn rd L k x y) (hxy : x ≤ y) (h1 : R.b ≤ y) (h2 : x ≤ R.l) :
    PartIn rd L R (max x R.b) (min y R.l) := by
  obtain ⟨c1, cl, cu, cm, cd⟩ := canon_pk O hA (e R.b (Nat.le_refl _) hbl) h0
  obtain ⟨_, _, _, h4 | ⟨d2, db, m1, m2, m3⟩⟩ := O.at_ (e R.b (Nat.le_refl _) hbl)
  · exact (h0 h4).elim
  have A1 : LowPk rd L R (max x R.b) := by
    by_cases c : x ≤ R.b
    · rw [Nat.max_eq_right c]; exact cl
    · rw [Nat.max_eq_left (by omega)]; exact low_pk O (e x (by omega) h2) h0 (by omega) hl
  have A2 : UpPk rd L R (min y R.l) := by
    by_cases c : R.l ≤ y
    · rw [Nat.min_eq_right c]; exact cu
    · rw [Nat.min_eq_left (by omega)]; exact up_pk O (e y h1 (by omega)) h0 (by omega) hu
  have A3 : (max x R.b / R.d = min y R.l / R.d → MainIn rd L R.jr (lowR R (max x R.b)) (upR R (min y R.l))) ∧ (max x R.b / R.d ≠ min y R.l / R.d → MainIn rd L R.jq (lowQ R (max x R.b)) (upQ R (min y R.l))) := by
    by_cases c : x ≤ R.b
    · rw [Nat.max_eq_right c]; exact ⟨fun _ => A2.m1, fun _ => A2.m2⟩
    · by_cases c2 : R.l ≤ y
      · rw [Nat.min_eq_right c2]; exact ⟨fun _ => A1.m1, fun _ => A1.m2⟩
      · rw [Nat.max_eq_left (by omega), Nat.min_eq_left (by omega)]
        exact main_pk O (e x (by omega) h2) h0 (by omega) hxy (by omega) hm
  exact ⟨.inl ⟨rfl, A1.s⟩, .inl ⟨rfl, A2.s⟩, fun q => .inr ⟨A1.l2, A2.u2, A3.1 q⟩, fun _ => .inr ⟨A1.l2, cd, A1.m3⟩, fun _ => .inr ⟨hA.low hr8 m3, A2.u2, A2.m3⟩, .inr ⟨hA.low hr8 m3, cd, cm⟩, fun q => .inr ⟨A1.l1, A2.u1, A3.2 q⟩⟩
/-! ### the whole list -/
def more (rd : Nat → Nat → Option RD) : List CK := (List.range 8).flatMap fun j => DL rd 60 j 0 ++ DL rd 60 j 1
def full (rd : Nat → Nat → Option RD) (rules : List (Nat × RD)) (k most : Nat) : List CK := more rd ++ all rd rules k most
theorem DL_small (O : RdOk rd) {j m : Nat} (h : m ≤ 1) : (DL rd 60 j m).length ≤ 1 := by
  rw [DL]
  cases e : rd j m with
  | none => simp
  | some R =>
    show (if R.d = 0 ∨ m ≤ R.b then [(j, m, R.l)] else lowP rd (DL rd 59) R j m).length ≤ 1
    obtain ⟨h1, h2, h3, h4 | ⟨d2, db, _⟩⟩ := O.at_ e
    · rw [if_pos (.inl h4)]; simp
    · omega
theorem more_len (O : RdOk rd) : (more rd).length ≤ 16 := by
  have := flat_len (f := fun j => DL rd 60 j 0 ++ DL rd 60 j 1) (n := 2) (l := List.range 8) fun j _ => by
    rw [List.length_append]
    have := DL_small O (j := j) (m := 0) (by decide)
    have := DL_small O (j := j) (m := 1) (by decide)
    omega
  rw [List.length_range] at this
  exact this
theorem full_len (O : RdOk rd) {rules : List (Nat × RD)} (h : ∀ z ∈ rules, rd z.1 z.2.b = some z.2) (hl : rules.length ≤ 480) {k most : Nat} (hm : most + 1 < 2 ^ 50) : (full rd rules k most).length < 16777216 := by
  have i1 := flat_len (f := canon rd) (n := 22000) fun z hz => canon_len O (h z hz)
  have i2 := main_len O 60 0 k 0 most (by decide)
  have i3 := DU_len O 60 50 k most (by decide) hm
  have i4 := more_len O
  have f50 : Fb 50 = 7044 := by decide
  have ht : triv.length = 16 := by decide
  have : rules.length * 22000 ≤ 480 * 22000 := Nat.mul_le_mul_right _ hl
  unfold full all
  rw [List.length_append, List.length_append, List.length_append, List.length_append]
  omega
theorem sing_small (O : RdOk rd) {j m : Nat} (hj : j < 8) (h : m ≤ 1) : ∀ e ∈ sing rd 60 j m, e ∈ triv := by
  have ht : (j, m, m) ∈ triv := by
    unfold triv
    refine List.mem_flatMap.mpr ⟨j, List.mem_range.mpr hj, ?_⟩
    have : m = 0 ∨ m = 1 := by omega
    rcases this with rfl | rfl <;> simp
  intro e he
  rw [sing] at he
  rcases List.mem_cons.mp he with rfl | he
  · exact ht
  · cases q : rd j m with
    | none => rw [q] at he; cases he
    | some R =>
      rw [q] at he
      obtain ⟨h1, h2, h3, h4 | ⟨d2, db, _⟩⟩ := O.at_ q
      · have he : e ∈ (if R.d = 0 then [] else sing rd 59 R.jq (m / R.d) ++ sing rd 59 R.jr (m % R.d)) := he
        rw [if_pos h4] at he; cases he
      · omega
theorem full_has (O : RdOk rd) {rules : List (Nat × RD)} (h : ∀ {k R}, rd k R.b = some R → (k, R) ∈ rules) {k most : Nat} : Has rd (full rd rules k most) := by
  refine ⟨fun {k' R} e z hz => ?_, fun {j m} hj hm => ⟨60, Nat.le_trans hm (by decide), fun z hz => ?_⟩, fun {j m} hj hm => ⟨60, Nat.lt_of_le_of_lt hm (by decide), fun z hz => ?_⟩⟩
  · unfold full all
    exact List.mem_append_right _ (List.mem_append_right _ (List.mem_append_left _ (List.mem_flatMap.mpr ⟨_, h e, hz⟩)))
  · unfold full more
    refine List.mem_append_left _ (List.mem_flatMap.mpr ⟨j, List.mem_range.mpr hj, ?_⟩)
    have : m = 0 ∨ m = 1 := by omega
    rcases this with rfl | rfl
    · exact List.mem_append_left _ hz
    · exact List.mem_append_right _ hz
  · unfold full all
    exact List.mem_append_right _ (List.mem_append_left _ (sing_small O hj hm z hz))
theorem full_root (O : RdOk rd) {rules : List (Nat × RD)} (h : ∀ {k R}, rd k R.b = some R → (k, R) ∈ rules) {k most : Nat} (hk : k < 8) (hm : most + 1 < 2 ^ 50) : Sup rd (full rd rules k most) (k, 0, most) := by
  have p60 : (2 : Nat) ^ 50 ≤ 2 ^ 60 := mono2 (by decide)
  refine .inr ⟨(full_has O h).low hk (Nat.zero_le _), ⟨60, (by show most + 1 < 2 ^ 60; omega), fun z hz => ?_⟩, ⟨60, (by show most < 2 ^ 60; omega), fun z hz => ?_⟩⟩
  · unfold full all
    exact List.mem_append_right _ (List.mem_append_right _ (List.mem_append_right _ (List.mem_append_right _ hz)))
  · unfold full all
    exact List.mem_append_right _ (List.mem_append_right _ (List.mem_append_right _ (List.mem_append_left _ hz)))
end
end Cnt
/-! Reading, by the specification: it gives just the numbers up to the greatest whose text it is, rising. -/
namespace SpecMath
open Sw64

theorem behind_some {p b r : Bytes} : behind p b = some r ↔ b = p ++ r := by
  unfold behind
  constructor
  · intro h
    split at h
    · rename_i h1
      rw [List.isPrefixOf_iff_prefix] at h1
      obtain ⟨t, rfl⟩ := h1
      rw [List.drop_left] at h
      exact congrArg _ (Option.some.inj h)
    · cases h
  · rintro rfl
    have : p.isPrefixOf (p ++ r) = true := by rw [List.isPrefixOf_iff_prefix]; exact List.prefix_append p r
    rw [if_pos this, List.drop_left]

theorem join_cons {x : Option Bytes} {l : List (Option Bytes)} {p : Bytes} : join (x :: l) = some p ↔ ∃ a r, x = some a ∧ join l = some r ∧ p = a ++ r := by
  cases x with
  | none => simp [join]
  | some a =>
    simp only [join, Option.map_eq_some_iff]
    constructor
    · rintro ⟨r, h, rfl⟩; exact ⟨a, r, rfl, h, rfl⟩
    · rintro ⟨a', r, e, h, rfl⟩; cases e; exact ⟨r, h, rfl⟩

/-- what reading parts of a text is to be -/
def Reads (rd : Nat → Nat → Nat → Bytes → List (Nat × Bytes)) (g : Nat → Nat → Option Bytes) (P : Nat → Prop) : Prop :=
  ∀ k m lv t v rest, P m → ((v, rest) ∈ rd k m lv t ↔ v ≤ m ∧ lv ≤ rest.length ∧ ∃ p, g k v = some p ∧ t = p ++ rest)

theorem letters_le {g : Nat → Nat → Option Bytes} {q r : Nat} : ∀ {l : List Piece} {p : Bytes}, join (l.map (sayP g q r)) = some p → letters l ≤ p.length
  | [], p, h => by simp [letters]
  | x :: l, p, h => by
    rw [List.map_cons, join_cons] at h
    obtain ⟨a, s, h1, h2, rfl⟩ := h
    have ih := letters_le h2
    rw [List.length_append]
    cases x with
    | text b => simp only [sayP] at h1; cases h1; simp only [letters]; omega
    | times j => simp only [letters]; omega
    | left j => simp only [letters]; omega

theorem past_some {b : Bytes} : ∀ (x y : Bytes), ∃ z, past b (x ++ (b ++ y)) = some (z ++ y)
  | [], y => by
    rw [List.nil_append]
    cases hb : b ++ y with
    | nil =>
      have h1 : b = [] := (List.append_eq_nil_iff.mp hb).1
      have h2 : y = [] := (List.append_eq_nil_iff.mp hb).2
      subst h1 h2
      exact ⟨[], rfl⟩
    | cons c r =>
      rw [past, ← hb, behind_some.mpr rfl]
      exact ⟨[], rfl⟩
  | c :: x, y => by
    rw [List.cons_append, past]
    cases e : behind b (c :: (x ++ (b ++ y))) with
    | none => exact past_some x y
    | some r =>
      have h := behind_some.mp e
      -- b ++ r = c :: x ++ b ++ y: r ends with y
      have hl : r.length = x.length + 1 + y.length := by
        have := congrArg List.length h
        simp only [List.length_cons, List.length_append] at this
        omega
      refine ⟨r.take (x.length + 1), ?_⟩
      show some r = some (r.take (x.length + 1) ++ y)
      have h' : (c :: x ++ b) ++ y = (b ++ r.take (x.length + 1)) ++ r.drop (x.length + 1) := by
        rw [List.append_assoc b, List.take_append_drop, ← h]; simp
      have hd : y = r.drop (x.length + 1) := by
        have := List.append_inj_right' h' (by rw [List.length_drop]; omega)
        exact this
      rw [hd, List.take_append_drop]

theorem appear_of {g : Nat → Nat → Option Bytes} {q r : Nat} : ∀ {l : List Piece} {p : Bytes} (x y : Bytes), join (l.map (sayP g q r)) = some p → appear l (x ++ (p ++ y)) = true
  | [], p, x, y, h => rfl
  | z :: l, p, x, y, h => by
    rw [List.map_cons, join_cons] at h
    obtain ⟨a, s, h1, h2, rfl⟩ := h
    cases z with
    | text b =>
      simp only [sayP] at h1; cases h1
      obtain ⟨z, hz⟩ := past_some (b := a) x (s ++ y)
      simp only [appear]
      rw [List.append_assoc, hz]
      exact appear_of z y h2
    | times j =>
      simp only [appear]
      have := appear_of (x ++ a) y h2
      simpa [List.append_assoc] using this
    | left j =>
      simp only [appear]
      have := appear_of (x ++ a) y h2
      simpa [List.append_assoc] using this

/-- pieces, read one after another: what stands behind them is what is left of the text -/
theorem pieces_iff {rd : Nat → Nat → Nat → Bytes → List (Nat × Bytes)} {g : Nat → Nat → Option Bytes} {P : Nat → Prop} {most by_ leave : Nat} (hr : Reads rd g P) (hq : P (most / by_)) (hrm : P (min most (by_ - 1))) :
    ∀ (l : List Piece) (w w' : Got), (l.filter isTimes).length ≤ 1 → (l.filter isLeft).length ≤ 1 →
      (w' ∈ pieces rd most by_ leave l w ↔ leave ≤ w'.rest.length ∧ ∃ q r p, join (l.map (sayP g q r)) = some p ∧ w.rest = p ++ w'.rest ∧
        (if l.any isTimes = true then w'.q = some q ∧ q ≤ most / by_ else w'.q = w.q) ∧ (if l.any isLeft = true then w'.r = some r ∧ r ≤ min most (by_ - 1) else w'.r = w.r))
  | [], w, w', _, _ => by
    simp only [pieces, List.map_nil, join, List.any_nil, Bool.false_eq_true, if_false]
    constructor
    · intro h
      split at h
      · rename_i hl
        simp only [List.mem_singleton] at h
        subst h
        exact ⟨hl, 0, 0, [], rfl, rfl, rfl, rfl⟩
      · cases h
    · rintro ⟨hl, _, _, p, e, h1, h2, h3⟩
      cases e
      have : w' = w := by
        cases w; cases w'; simp_all
      subst this
      rw [if_pos (by simpa using hl)]
      simp
  | .text b :: l, w, w', ht, hf => by
    have ht' : (l.filter isTimes).length ≤ 1 := by simpa [List.filter_cons, isTimes] using ht
    have hf' : (l.filter isLeft).length ≤ 1 := by simpa [List.filter_cons, isLeft] using hf
    have ih := pieces_iff hr hq hrm (leave := leave) l
    rw [pieces]
    have e1 : (Piece.text b :: l).any isTimes = l.any isTimes := by simp [isTimes]
    have e2 : (Piece.text b :: l).any isLeft = l.any isLeft := by simp [isLeft]
    rw [e1, e2]
    simp only [List.map_cons, join_cons, sayP]
    cases e : behind b w.rest with
    | none =>
      simp only [List.not_mem_nil, false_iff]
      rintro ⟨_, q, r, p, ⟨a, s, ea, _, rfl⟩, h2, _⟩
      cases ea
      rw [List.append_assoc] at h2
      rw [behind_some.mpr h2] at e
      cases e
    | some t =>
      have ht2 := behind_some.mp e
      simp only
      rw [ih _ _ ht' hf']
      constructor
      · rintro ⟨hl, q, r, p, h1, h2, h3⟩
        refine ⟨hl, q, r, b ++ p, ⟨b, p, rfl, h1, rfl⟩, ?_, h3⟩
        rw [ht2, List.append_assoc]
        exact congrArg _ h2
      · rintro ⟨hl, q, r, p, ⟨a, s, ea, h1, rfl⟩, h2, h3⟩
        cases ea
        refine ⟨hl, q, r, s, h1, ?_, h3⟩
        rw [ht2, List.append_assoc] at h2
        exact List.append_cancel_left h2
  | .times j :: l, w, w', ht, hf => by
    have ht0 : l.filter isTimes = [] := by
      have : (l.filter isTimes).length + 1 ≤ 1 := by simpa [List.filter_cons, isTimes] using ht
      exact List.length_eq_zero_iff.mp (by omega)
    have ht' : (l.filter isTimes).length ≤ 1 := by rw [ht0]; exact Nat.zero_le _
    have hf' : (l.filter isLeft).length ≤ 1 := by simpa [List.filter_cons, isLeft] using hf
    have hn : l.any isTimes = false := by
      rw [Bool.eq_false_iff]
      intro h
      rw [List.any_eq_true] at h
      obtain ⟨x, hx, hy⟩ := h
      have : x ∈ l.filter isTimes := List.mem_filter.mpr ⟨hx, hy⟩
      rw [ht0] at this
      cases this
    have nt : ∀ (q q' r : Nat), l.map (sayP g q r) = l.map (sayP g q' r) := fun q q' r => by
      apply List.map_congr_left
      intro x hx
      cases x with
      | text b => rfl
      | left i => rfl
      | times i =>
        have : l.any isTimes = true := List.any_eq_true.mpr ⟨_, hx, rfl⟩
        rw [hn] at this; cases this
    have ih := pieces_iff hr hq hrm (leave := leave) l
    rw [pieces]
    have e1 : (Piece.times j :: l).any isTimes = true := by simp [isTimes]
    have e2 : (Piece.times j :: l).any isLeft = l.any isLeft := by simp [isLeft]
    rw [e1, e2]
    simp only [List.map_cons, join_cons, sayP, List.mem_flatMap, if_true]
    constructor
    · rintro ⟨⟨v, t⟩, hv, hx⟩
      rw [hr _ _ _ _ _ _ hq] at hv
      obtain ⟨hv1, hv2, p, hp, hb⟩ := hv
      rw [ih _ _ ht' hf', hn] at hx
      obtain ⟨hl, q, r, s, h1, h2, h3, h4⟩ := hx
      refine ⟨hl, v, r, p ++ s, ⟨p, s, hp, by rw [nt v q r]; exact h1, rfl⟩, ?_, ⟨h3, hv1⟩, h4⟩
      rw [hb, List.append_assoc]
      exact congrArg _ h2
    · rintro ⟨hl, q, r, p, ⟨a, s, ha, h1, rfl⟩, h2, ⟨h3, h3'⟩, h4⟩
      refine ⟨(q, s ++ w'.rest), ?_, ?_⟩
      · rw [hr _ _ _ _ _ _ hq]
        refine ⟨h3', ?_, a, ha, by rw [h2, List.append_assoc]⟩
        have := letters_le h1
        rw [List.length_append]
        omega
      · rw [ih _ _ ht' hf', hn]
        exact ⟨hl, q, r, s, h1, rfl, h3, h4⟩
  | .left j :: l, w, w', ht, hf => by
    have ht0 : l.filter isLeft = [] := by
      have : (l.filter isLeft).length + 1 ≤ 1 := by simpa [List.filter_cons, isLeft] using hf
      exact List.length_eq_zero_iff.mp (by omega)
    have ht' : (l.filter isTimes).length ≤ 1 := by simpa [List.filter_cons, isTimes] using ht
    have hf' : (l.filter isLeft).length ≤ 1 := by rw [ht0]; exact Nat.zero_le _
    have hn : l.any isLeft = false := by
      rw [Bool.eq_false_iff]
      intro h
      rw [List.any_eq_true] at h
      obtain ⟨x, hx, hy⟩ := h
      have : x ∈ l.filter isLeft := List.mem_filter.mpr ⟨hx, hy⟩
      rw [ht0] at this
      cases this
    have nt : ∀ (q r r' : Nat), l.map (sayP g q r) = l.map (sayP g q r') := fun q r r' => by
      apply List.map_congr_left
      intro x hx
      cases x with
      | text b => rfl
      | times i => rfl
      | left i =>
        have : l.any isLeft = true := List.any_eq_true.mpr ⟨_, hx, rfl⟩
        rw [hn] at this; cases this
    have ih := pieces_iff hr hq hrm (leave := leave) l
    rw [pieces]
    have e1 : (Piece.left j :: l).any isLeft = true := by simp [isLeft]
    have e2 : (Piece.left j :: l).any isTimes = l.any isTimes := by simp [isTimes]
    rw [e1, e2]
    simp only [List.map_cons, join_cons, sayP, List.mem_flatMap, if_true]
    constructor
    · rintro ⟨⟨v, t⟩, hv, hx⟩
      rw [hr _ _ _ _ _ _ hrm] at hv
      obtain ⟨hv1, hv2, p, hp, hb⟩ := hv
      rw [ih _ _ ht' hf', hn] at hx
      obtain ⟨hl, q, r, s, h1, h2, h3, h4⟩ := hx
      refine ⟨hl, q, v, p ++ s, ⟨p, s, hp, by rw [nt q v r]; exact h1, rfl⟩, ?_, h3, ⟨h4, hv1⟩⟩
      rw [hb, List.append_assoc]
      exact congrArg _ h2
    · rintro ⟨hl, q, r, p, ⟨a, s, ha, h1, rfl⟩, h2, h3, ⟨h4, h4'⟩⟩
      refine ⟨(r, s ++ w'.rest), ?_, ?_⟩
      · rw [hr _ _ _ _ _ _ hrm]
        refine ⟨h4', ?_, a, ha, by rw [h2, List.append_assoc]⟩
        have := letters_le h1
        rw [List.length_append]
        omega
      · rw [ih _ _ ht' hf', hn]
        exact ⟨hl, q, r, s, h1, rfl, h3, h4⟩

/-- what a rule says of a number -/
def bodyR (g : Nat → Nat → Option Bytes) (R : Rule) (n : Nat) : Option Bytes :=
  if R.by_ = 0 then (if n = R.base then join (R.pieces.map fun x => match x.2 with
    | .text b => some b
    | _ => none) else none)
  else if n / R.by_ ≠ 1 ∧ (R.pieces.any fun x => isTimes x.2) = false then none else
    join (((R.pieces.filter fun x => stands (n / R.by_) (n % R.by_) x.1).map fun x => x.2).map (sayP g (n / R.by_) (n % R.by_)))
theorem body_eq (S : Sets) (g : Nat → Nat → Option Bytes) (k n : Nat) : body S g k n = (ruleFor (S.getD k []) n).bind fun R => bodyR g R n := rfl

theorem texts_join : ∀ {l : List (When × Piece)}, (l.all fun x => isText x.2 && x.1 == .always) = true →
    join (l.map fun x => match x.2 with
      | .text b => some b
      | _ => none) = some (l.flatMap fun x => match x.2 with
      | .text t => t
      | _ => [])
  | [], _ => rfl
  | (w, .text b) :: l, h => by
    have h' : (l.all fun x => isText x.2 && x.1 == .always) = true := by
      rw [List.all_cons, Bool.and_eq_true] at h; exact h.2
    rw [List.map_cons, List.flatMap_cons, join_cons]
    exact ⟨b, _, rfl, texts_join h', rfl⟩
  | (w, .times j) :: l, h => by simp [isText] at h
  | (w, .left j) :: l, h => by simp [isText] at h

theorem filter_le {α β : Type} (p : α → Bool) (q : β → Bool) (f : α → β) : ∀ l : List α, (((l.filter p).map f).filter q).length ≤ (l.filter fun x => q (f x)).length
  | [] => Nat.le_refl _
  | x :: l => by
    have ih := filter_le p q f l
    by_cases hp : p x = true
    · rw [List.filter_cons_of_pos hp, List.map_cons]
      by_cases hq : q (f x) = true
      · rw [List.filter_cons_of_pos hq, List.filter_cons_of_pos (by exact hq), List.length_cons, List.length_cons]
        omega
      · rw [List.filter_cons_of_neg hq, List.filter_cons_of_neg (by exact hq)]
        exact ih
    · rw [List.filter_cons_of_neg hp]
      by_cases hq : q (f x) = true
      · rw [List.filter_cons_of_pos (by exact hq), List.length_cons]
        omega
      · rw [List.filter_cons_of_neg (by exact hq)]
        exact ih

theorem base_le_upTo {s : RSet} {R : Rule} (h : rising (s.map fun r => r.base) = true) (hm : R ∈ s) (hb : R.base ≤ MOST) : R.base ≤ upTo s R := by
  induction s with
  | nil => cases hm
  | cons X s ih =>
    cases hm with
    | head =>
      rw [upTo_head h]
      cases s with
      | nil => exact hb
      | cons Y s =>
        have : R.base < Y.base := rising_lt h Y.base (by simp)
        show R.base ≤ Y.base - 1
        omega
    | tail _ hm =>
      rw [upTo_cons h hm]
      exact ih (rising_tail h) hm

/-- a q stands only where it is not 1 or always, an r where it isn't 0 or always -/
theorem times_when {R : Rule} (h : ruleOk R = true) {w : When} {j : Nat} (hm : (w, Piece.times j) ∈ R.pieces) : w = .always ∨ w = .many := by
  have := (rule_pieces h).2 _ hm
  simp only [pieceOk, Bool.and_eq_true, Bool.or_eq_true, beq_iff_eq] at this
  exact this.2
theorem left_when {R : Rule} (h : ruleOk R = true) {w : When} {j : Nat} (hm : (w, Piece.left j) ∈ R.pieces) : w = .always ∨ w = .rest := by
  have := (rule_pieces h).2 _ hm
  simp only [pieceOk, Bool.and_eq_true, Bool.or_eq_true, beq_iff_eq] at this
  exact this.2
theorem left_any {R : Rule} (h : (R.pieces.filter fun x => isLeft x.2).length = 1) : ∃ w j, (w, Piece.left j) ∈ R.pieces := by
  cases e : R.pieces.filter fun x => isLeft x.2 with
  | nil => rw [e] at h; cases h
  | cons x l =>
    have hx : x ∈ R.pieces.filter fun x => isLeft x.2 := by rw [e]; exact List.mem_cons_self
    rw [List.mem_filter] at hx
    obtain ⟨w, p⟩ := x
    cases p with
    | left j => exact ⟨w, j, hx.1⟩
    | text b => simp [isLeft] at hx
    | times j => simp [isLeft] at hx

/-- the four cases -/
def cs : List (Nat × Nat) := [(1, 0), (1, 1), (2, 0), (2, 1)]
theorem mem_cs {c : Nat × Nat} : c ∈ cs ↔ (c.1 = 1 ∨ c.1 = 2) ∧ (c.2 = 0 ∨ c.2 = 1) := by
  obtain ⟨a, b⟩ := c
  simp only [cs, List.mem_cons, List.not_mem_nil, or_false, Prod.mk.injEq]
  omega
theorem stands_case {c : Nat × Nat} (hc : c ∈ cs) {q r : Nat} (h1 : if c.1 = 1 then q = 1 else q ≠ 1) (h2 : if c.2 = 0 then r = 0 else r ≠ 0) (w : When) : stands c.1 c.2 w = stands q r w := by
  rw [mem_cs] at hc
  obtain ⟨a, b⟩ := c
  simp only at hc h1 h2 ⊢
  rcases hc with ⟨rfl | rfl, rfl | rfl⟩ <;> simp at h1 h2 <;> cases w <;> simp [stands, h1, h2]
/-- the pieces that stand -/
def standing (R : Rule) (q r : Nat) : List Piece := (R.pieces.filter fun x => stands q r x.1).map fun x => x.2
theorem times_stands {R : Rule} (h : ruleOk R = true) {q r : Nat} (hq : q ≠ 1) : (standing R q r).any isTimes = R.pieces.any fun x => isTimes x.2 := by
  rw [Bool.eq_iff_iff, List.any_eq_true, List.any_eq_true]
  constructor
  · rintro ⟨p, hp, ht⟩
    simp only [standing, List.mem_map, List.mem_filter] at hp
    obtain ⟨x, ⟨hx, _⟩, rfl⟩ := hp
    exact ⟨x, hx, ht⟩
  · rintro ⟨⟨w, p⟩, hx, ht⟩
    refine ⟨p, ?_, ht⟩
    simp only [standing, List.mem_map, List.mem_filter]
    refine ⟨(w, p), ⟨hx, ?_⟩, rfl⟩
    cases p with
    | times j =>
      rcases times_when h hx with rfl | rfl
      · rfl
      · simpa [stands] using hq
    | text b => simp [isTimes] at ht
    | left j => simp [isTimes] at ht
theorem left_stands {R : Rule} (h : ruleOk R = true) (h1 : (R.pieces.filter fun x => isLeft x.2).length = 1) {q r : Nat} (hr : r ≠ 0) : (standing R q r).any isLeft = true := by
  obtain ⟨w, j, hm⟩ := left_any h1
  rw [List.any_eq_true]
  refine ⟨.left j, ?_, rfl⟩
  simp only [standing, List.mem_map, List.mem_filter]
  refine ⟨(w, .left j), ⟨hm, ?_⟩, rfl⟩
  rcases left_when h hm with rfl | rfl
  · rfl
  · simpa [stands] using hr

theorem byRule_iff {rd : Nat → Nat → Nat → Bytes → List (Nat × Bytes)} {g : Nat → Nat → Option Bytes} {s : RSet} {R : Rule} {most leave : Nat} {b : Bytes} {n : Nat} {rest : Bytes}
    (hs : rising (s.map fun r => r.base) = true) (hR : R ∈ s) (h : ruleOk R = true) {P : Nat → Prop} (hr : Reads rd g P) (hq : R.by_ ≠ 0 → R.base ≤ most → P (most / R.by_) ∧ P (min most (R.by_ - 1))) :
    (n, rest) ∈ byRule rd s R most leave b ↔ R.base ≤ n ∧ n ≤ upTo s R ∧ n ≤ most ∧ leave ≤ rest.length ∧ ∃ p, bodyR g R n = some p ∧ b = p ++ rest := by
  unfold byRule bodyR
  by_cases c0 : most < R.base
  · rw [if_pos c0]
    simp only [List.not_mem_nil, false_iff]
    rintro ⟨h1, _, h2, _⟩
    omega
  rw [if_neg c0]
  by_cases c1 : R.by_ = 0
  · rw [if_pos c1, if_pos c1]
    have ha : (R.pieces.all fun x => isText x.2 && x.1 == .always) = true := by
      simp only [ruleOk, Bool.and_eq_true, if_pos c1] at h
      exact h.2.2.2
    rw [texts_join ha]
    have hbu := base_le_upTo hs hR (rule_base h)
    cases e : behind (R.pieces.flatMap fun x => match x.2 with
      | .text t => t
      | _ => []) b with
    | none =>
      simp only [List.not_mem_nil, false_iff]
      rintro ⟨_, _, _, _, p, h1, h2⟩
      split at h1
      · cases h1
        rw [behind_some.mpr h2] at e
        cases e
      · cases h1
    | some t =>
      have e' := behind_some.mp e
      simp only
      constructor
      · intro hx
        split at hx
        · rename_i hl
          simp only [List.mem_singleton, Prod.mk.injEq] at hx
          obtain ⟨rfl, rfl⟩ := hx
          exact ⟨Nat.le_refl _, hbu, by omega, hl, _, if_pos rfl, e'⟩
        · cases hx
      · rintro ⟨_, _, _, hl, p, h1, h2⟩
        split at h1
        · rename_i hn
          cases h1
          have : rest = t := by
            rw [e'] at h2
            exact (List.append_cancel_left h2).symm
          subst this
          rw [if_pos hl, hn]
          simp
        · cases h1
  · rw [if_neg c1, if_neg c1]
    obtain ⟨d2, db, hmk, ht1, hl1⟩ := rule_by h c1
    obtain ⟨hP1, hP2⟩ := hq c1 (by omega)
    have hdn : 0 < R.by_ := by omega
    show (n, rest) ∈ cs.flatMap _ ↔ _
    simp only [List.mem_flatMap]
    have hlt : ∀ q r, ((standing R q r).filter isTimes).length ≤ 1 := fun q r => Nat.le_trans (filter_le _ _ _ _) ht1
    have hll : ∀ q r, ((standing R q r).filter isLeft).length ≤ 1 := fun q r => Nat.le_trans (filter_le _ _ _ _) (by omega)
    constructor
    · rintro ⟨c, hc, hx⟩
      split at hx
      · cases hx
      rw [List.mem_filterMap] at hx
      obtain ⟨w, hw, hx⟩ := hx
      have hw := (pieces_iff hr hP1 hP2 (standing R c.1 c.2) _ w (hlt _ _) (hll _ _)).mp hw
      obtain ⟨hl, q, r, p, h1, h2, h3, h4⟩ := hw
      obtain ⟨⟨k1, k2, k3, k4⟩, hx⟩ := Option.ite_none_right_eq_some.mp hx
      · simp only [Option.some.injEq, Prod.mk.injEq] at hx
        obtain ⟨rfl, rfl⟩ := hx
        have hr0 : w.r.getD 0 < R.by_ := by
          split at h4
          · rw [h4.1]; show r < _; omega
          · rw [h4]; show 0 < _; omega
        have e1 : (w.q.getD 1 * R.by_ + w.r.getD 0) / R.by_ = w.q.getD 1 := by
          rw [Nat.mul_comm, Nat.mul_add_div hdn, Nat.div_eq_of_lt hr0, Nat.add_zero]
        have e2 : (w.q.getD 1 * R.by_ + w.r.getD 0) % R.by_ = w.r.getD 0 := by
          rw [Nat.mul_comm, Nat.mul_add_mod, Nat.mod_eq_of_lt hr0]
        have es : standing R c.1 c.2 = standing R (w.q.getD 1) (w.r.getD 0) := by
          unfold standing
          congr 2
          funext x
          exact stands_case hc k1 k2 x.1
        refine ⟨k3, by omega, by omega, hl, p, ?_, h2⟩
        rw [e1, e2]
        have hne : ¬ (w.q.getD 1 ≠ 1 ∧ (R.pieces.any fun x => isTimes x.2) = false) := by
          rintro ⟨n1, n2⟩
          have := times_stands h (r := w.r.getD 0) n1
          rw [n2, ← es] at this
          rw [this, if_neg Bool.false_ne_true] at h3
          rw [h3] at n1
          exact n1 rfl
        rw [if_neg hne]
        show join ((standing R (w.q.getD 1) (w.r.getD 0)).map _) = _
        rw [← h1, ← es]
        congr 1
        apply List.map_congr_left
        intro x hx
        cases x with
        | text b => rfl
        | times j =>
          have : (standing R c.1 c.2).any isTimes = true := List.any_eq_true.mpr ⟨_, hx, rfl⟩
          rw [if_pos this] at h3
          rw [h3.1]; rfl
        | left j =>
          have : (standing R c.1 c.2).any isLeft = true := List.any_eq_true.mpr ⟨_, hx, rfl⟩
          rw [if_pos this] at h4
          rw [h4.1]; rfl
    · rintro ⟨k1, k2, k3, hl, p, h1, h2⟩
      split at h1
      · cases h1
      rename_i hne
      have hq1 : ∀ {q r}, n / R.by_ = q → n % R.by_ = r → (standing R q r).any isTimes = false → q = 1 := fun {q r} e1 e2 ha => by
        apply Classical.byContradiction
        intro n1
        have := times_stands h (r := r) n1
        rw [ha] at this
        exact hne ⟨by omega, this.symm⟩
      have hr1 : ∀ {q r}, (standing R q r).any isLeft = false → r = 0 := fun {q r} ha => by
        apply Classical.byContradiction
        intro n1
        have := left_stands h hl1 (q := q) n1
        rw [ha] at this
        cases this
      have hqd := Nat.div_add_mod n R.by_
      have hrl : n % R.by_ < R.by_ := Nat.mod_lt _ hdn
      have hqm : n / R.by_ ≤ most / R.by_ := Nat.div_le_div_right k3
      have hrn : n % R.by_ ≤ n := Nat.mod_le _ _
      generalize eq1 : n / R.by_ = q at *
      generalize er1 : n % R.by_ = r at *
      refine ⟨(if q = 1 then 1 else 2, if r = 0 then 0 else 1), ?_, ?_⟩
      · rw [mem_cs]; constructor <;> (simp only; split <;> simp)
      have hc : ((if q = 1 then 1 else 2, if r = 0 then 0 else 1) : Nat × Nat) ∈ cs := by
        rw [mem_cs]; constructor <;> (simp only; split <;> simp)
      have c1' : if (if q = 1 then 1 else 2) = 1 then q = 1 else q ≠ 1 := by
        by_cases e : q = 1 <;> simp [e]
      have c2' : if (if r = 0 then 0 else 1) = 0 then r = 0 else r ≠ 0 := by
        by_cases e : r = 0 <;> simp [e]
      have es : ((R.pieces.filter fun x => stands (if q = 1 then 1 else 2) (if r = 0 then 0 else 1) x.1).map fun x => x.2) = standing R q r := by
        unfold standing
        congr 2
        funext x
        exact stands_case hc c1' c2' x.1
      rw [es]
      have ha := appear_of [] rest h1
      have hle := letters_le h1
      have hcnd : ¬ ((appear (standing R q r) b && decide (letters (standing R q r) + leave ≤ b.length)) = false) := by
        rw [h2]
        rw [List.nil_append] at ha
        have : letters (standing R q r) + leave ≤ (p ++ rest).length := by
          rw [List.length_append]
          have : letters (standing R q r) ≤ p.length := hle
          omega
        rw [show appear (standing R q r) (p ++ rest) = true from ha, decide_eq_true this]
        simp
      rw [if_neg hcnd, List.mem_filterMap]
      refine ⟨⟨if (standing R q r).any isTimes = true then some q else none, if (standing R q r).any isLeft = true then some r else none, rest⟩, ?_, ?_⟩
      · rw [pieces_iff hr hP1 hP2 (standing R q r) _ _ (hlt _ _) (hll _ _)]
        refine ⟨hl, q, r, p, h1, h2, ?_, ?_⟩
        · by_cases e : (standing R q r).any isTimes = true
          · rw [if_pos e, if_pos e]; exact ⟨rfl, hqm⟩
          · rw [if_neg e, if_neg e]
        · by_cases e : (standing R q r).any isLeft = true
          · rw [if_pos e, if_pos e]; exact ⟨rfl, by omega⟩
          · rw [if_neg e, if_neg e]
      · have g1 : (if (standing R q r).any isTimes = true then some q else none).getD 1 = q := by
          by_cases e : (standing R q r).any isTimes = true
          · rw [if_pos e]; rfl
          · rw [if_neg e]; exact (hq1 rfl rfl (by simpa using e)).symm
        have g2 : (if (standing R q r).any isLeft = true then some r else none).getD 0 = r := by
          by_cases e : (standing R q r).any isLeft = true
          · rw [if_pos e]; rfl
          · rw [if_neg e]; exact (hr1 (by simpa using e)).symm
        simp only
        rw [g1, g2]
        have en : q * R.by_ + r = n := by rw [Nat.mul_comm]; exact hqd
        rw [en, if_pos ⟨c1', c2', k1, by omega⟩]

/-! ### reading a whole text -/
/-- how many rules have a base that isn't above m -/
def cnt (S : Sets) (m : Nat) : Nat := (S.flatten.filter fun R => decide (R.base ≤ m)).length
theorem cnt_le (S : Sets) (m : Nat) : cnt S m ≤ S.flatten.length := List.length_filter_le _ _
theorem filt_mono {l : List Rule} {m m' : Nat} (h : m' ≤ m) : (l.filter fun R => decide (R.base ≤ m')).length ≤ (l.filter fun R => decide (R.base ≤ m)).length := by
  induction l with
  | nil => exact Nat.le_refl _
  | cons x l ih =>
    by_cases c : x.base ≤ m'
    · rw [List.filter_cons_of_pos (by simpa using c), List.filter_cons_of_pos (by simp; omega), List.length_cons, List.length_cons]; omega
    · rw [List.filter_cons_of_neg (by simpa using c)]
      by_cases d : x.base ≤ m
      · rw [List.filter_cons_of_pos (by simpa using d), List.length_cons]; omega
      · rw [List.filter_cons_of_neg (by simpa using d)]; exact ih
theorem filt_lt {l : List Rule} {m m' : Nat} {R : Rule} (hR : R ∈ l) (h : m' < R.base) (h2 : R.base ≤ m) : (l.filter fun R => decide (R.base ≤ m')).length < (l.filter fun R => decide (R.base ≤ m)).length := by
  induction l with
  | nil => cases hR
  | cons x l ih =>
    have hm := filt_mono (l := l) (m := m) (m' := m') (by omega)
    cases hR with
    | head =>
      rw [List.filter_cons_of_neg (by simp; omega), List.filter_cons_of_pos (by simpa using h2), List.length_cons]; omega
    | tail _ hR =>
      have ih := ih hR
      by_cases c : x.base ≤ m'
      · rw [List.filter_cons_of_pos (by simpa using c), List.filter_cons_of_pos (by simp; omega), List.length_cons, List.length_cons]; omega
      · rw [List.filter_cons_of_neg (by simpa using c)]
        by_cases d : x.base ≤ m
        · rw [List.filter_cons_of_pos (by simpa using d), List.length_cons]; omega
        · rw [List.filter_cons_of_neg (by simpa using d)]; exact ih
theorem mem_flat {S : Sets} {k : Nat} {R : Rule} (h : R ∈ S.getD k []) : R ∈ S.flatten := by
  rw [List.mem_flatten]
  refine ⟨S.getD k [], ?_, h⟩
  rw [List.getD_eq_getElem?_getD] at h ⊢
  cases e : S[k]? with
  | none => rw [e] at h; cases h
  | some x => rw [Option.getD_some]; exact List.mem_of_getElem? e
/-- so much fuel is enough -/
def Fuel (S : Sets) (f m : Nat) : Prop := m ≤ MOST ∧ ∃ a b, a + b ≤ f ∧ cnt S m ≤ a ∧ m < 2 ^ b

theorem read_step {S : Sets} (G : Good S) {f k m lv : Nat} {t : Bytes} {v : Nat} {rest : Bytes} (hM : m ≤ MOST)
    (hbr : ∀ R ∈ S.getD k [], ((v, rest) ∈ byRule (readFrom S f) (S.getD k []) R m lv t ↔ R.base ≤ v ∧ v ≤ upTo (S.getD k []) R ∧ v ≤ m ∧ lv ≤ rest.length ∧ ∃ p, bodyR (said S) R v = some p ∧ t = p ++ rest)) :
    ((v, rest) ∈ readFrom S (f + 1) k m lv t ↔ v ≤ m ∧ lv ≤ rest.length ∧ ∃ p, said S k v = some p ∧ t = p ++ rest) := by
  rw [readFrom, List.mem_flatMap]
  constructor
  · rintro ⟨R, hR, hx⟩
    rw [hbr R hR] at hx
    obtain ⟨h1, h2, h3, h4, p, h5, h6⟩ := hx
    refine ⟨h3, h4, p, ?_, h6⟩
    rw [said_body G (Nat.lt_of_le_of_lt (Nat.le_trans h3 hM) (by decide)), body_eq, (ruleFor_iff (G.rising k) (Nat.le_trans h3 hM)).mpr ⟨hR, h1, h2⟩]
    exact h5
  · rintro ⟨h3, h4, p, h5, h6⟩
    rw [said_body G (Nat.lt_of_le_of_lt (Nat.le_trans h3 hM) (by decide)), body_eq, Option.bind_eq_some_iff] at h5
    obtain ⟨R, hR, h5⟩ := h5
    obtain ⟨h0, h1, h2⟩ := (ruleFor_iff (G.rising k) (Nat.le_trans h3 hM)).mp hR
    exact ⟨R, h0, (hbr R h0).mpr ⟨h1, h2, h3, h4, p, h5, h6⟩⟩
theorem readFrom_iff {S : Sets} (G : Good S) : ∀ f, Reads (readFrom S (f + 1)) (said S) (Fuel S f)
  | 0 => fun k m lv t v rest ⟨hM, a, b, hab, hc, hb⟩ => read_step G hM fun R hR => by
    refine byRule_iff (P := fun _ => False) (G.rising k) hR (G.rule hR) (fun _ _ _ _ _ _ h => h.elim) fun h0 hbm => ?_
    obtain ⟨h2, h3, _⟩ := rule_by (G.rule hR) h0
    have : b = 0 := by omega
    subst this
    simp at hb
    omega
  | f + 1 => fun k m lv t v rest ⟨hM, a, b, hab, hc, hb⟩ => read_step G hM fun R hR => by
    refine byRule_iff (P := Fuel S f) (G.rising k) hR (G.rule hR) (readFrom_iff G f) fun h0 hbm => ?_
    obtain ⟨h2, h3, _⟩ := rule_by (G.rule hR) h0
    have hlt : cnt S (min m (R.by_ - 1)) < cnt S m := filt_lt (mem_flat hR) (by omega) hbm
    have hle : cnt S (m / R.by_) ≤ cnt S m := filt_mono (Nat.div_le_self _ _)
    cases b with
    | zero => simp at hb; omega
    | succ b =>
      refine ⟨⟨Nat.le_trans (Nat.div_le_self _ _) hM, a, b, by omega, by omega, (part_lt h2 (by omega) hb).1⟩, ⟨by omega, a - 1, b + 1, by omega, by omega, by omega⟩⟩

theorem flat_le : ∀ {S : Sets}, (∀ s ∈ S, s.length ≤ 60) → S.flatten.length ≤ 60 * S.length
  | [], _ => Nat.le_refl _
  | s :: S, h => by
    have h1 := h s List.mem_cons_self
    have h2 := flat_le (S := S) fun s hs => h s (List.mem_cons_of_mem _ hs)
    rw [List.flatten_cons, List.length_append, List.length_cons]
    omega
theorem Good.flat {S : Sets} (G : Good S) (h8 : S.length = 8) : S.flatten.length ≤ 480 := by
  have := flat_le (S := S) fun s hs => by
    obtain ⟨k, hk, e⟩ := List.mem_iff_getElem.mp hs
    have h1 := G k
    rw [List.getD_eq_getElem?_getD, List.getElem?_eq_getElem hk, Option.getD_some, e] at h1
    simp only [setOk, Bool.and_eq_true, decide_eq_true_eq] at h1
    exact h1.1
  omega

theorem insert_mem (n x : Nat) : ∀ l : List Nat, x ∈ Sw64.insert n l ↔ x = n ∨ x ∈ l
  | [] => by simp [Sw64.insert]
  | m :: l => by
    have ih := insert_mem n x l
    unfold Sw64.insert
    split
    · simp
    · split
      · subst n; simp
      · rw [List.mem_cons, ih, List.mem_cons]
        constructor
        · rintro (h | h | h) <;> simp [h]
        · rintro (h | h | h) <;> simp [h]
theorem insert_lt (n : Nat) : ∀ {l : List Nat}, l.Pairwise (· < ·) → (Sw64.insert n l).Pairwise (· < ·)
  | [], _ => by simp [Sw64.insert]
  | m :: l, h => by
    rw [List.pairwise_cons] at h
    unfold Sw64.insert
    split
    · rename_i h1
      rw [List.pairwise_cons, List.pairwise_cons]
      exact ⟨fun x hx => by cases hx with | head => exact h1 | tail _ hx => exact Nat.lt_trans h1 (h.1 x hx), h⟩
    · split
      · exact List.pairwise_cons.mpr h
      · rw [List.pairwise_cons]
        exact ⟨fun x hx => by
          rw [insert_mem] at hx
          rcases hx with rfl | hx
          · omega
          · exact h.1 x hx, insert_lt n h.2⟩
theorem inserts_mem (x : Nat) : ∀ (l acc : List Nat), x ∈ l.foldl (fun l n => Sw64.insert n l) acc ↔ x ∈ l ∨ x ∈ acc
  | [], acc => by simp
  | n :: l, acc => by
    rw [List.foldl_cons, inserts_mem x l, insert_mem, List.mem_cons]
    constructor
    · rintro (h | h | h) <;> simp [h]
    · rintro ((h | h) | h) <;> simp [h]
theorem inserts_lt : ∀ (l : List Nat) {acc : List Nat}, acc.Pairwise (· < ·) → (l.foldl (fun l n => Sw64.insert n l) acc).Pairwise (· < ·)
  | [], _, h => h
  | n :: l, _, h => inserts_lt l (insert_lt n h)
/-- two rising lists of the same numbers are one -/
theorem rising_ext : ∀ {l m : List Nat}, l.Pairwise (· < ·) → m.Pairwise (· < ·) → (∀ x, x ∈ l ↔ x ∈ m) → l = m
  | [], [], _, _, _ => rfl
  | [], y :: m, _, _, h => by have := (h y).mpr List.mem_cons_self; cases this
  | x :: l, [], _, _, h => by have := (h x).mp List.mem_cons_self; cases this
  | x :: l, y :: m, hl, hm, h => by
    rw [List.pairwise_cons] at hl hm
    have e : x = y := by
      have h1 := (h x).mp List.mem_cons_self
      have h2 := (h y).mpr List.mem_cons_self
      cases h1 with
      | head => rfl
      | tail _ h1 => cases h2 with
        | head => rfl
        | tail _ h2 =>
          have := hm.1 x h1
          have := hl.1 y h2
          omega
    subst e
    congr 1
    refine rising_ext hl.2 hm.2 fun z => ?_
    have hz := h z
    rw [List.mem_cons, List.mem_cons] at hz
    constructor
    · intro h1
      rcases hz.mp (.inr h1) with rfl | h2
      · exact absurd (hl.1 z h1) (Nat.lt_irrefl _)
      · exact h2
    · intro h1
      rcases hz.mpr (.inr h1) with rfl | h2
      · exact absurd (hm.1 z h1) (Nat.lt_irrefl _)
      · exact h2
theorem range_lt (n : Nat) : (List.range n).Pairwise (· < ·) := List.pairwise_lt_range

/-- the numbers up to a greatest whose text it is -/
def numbers (S : Sets) (k most : Nat) (b : Bytes) : List Nat := (List.range (most + 1)).filter fun n => decide (said S k n = some b)
theorem mem_numbers {S : Sets} {k most : Nat} {b : Bytes} {n : Nat} : n ∈ numbers S k most b ↔ n ≤ most ∧ said S k n = some b := by
  unfold numbers
  rw [List.mem_filter, List.mem_range, decide_eq_true_eq]
  constructor
  · rintro ⟨h1, h2⟩; exact ⟨by omega, h2⟩
  · rintro ⟨h1, h2⟩; exact ⟨by omega, h2⟩
/-- **what the specification reads** -/
theorem readAll_eq {S : Sets} (G : Good S) (h8 : S.length = 8) {k most : Nat} {b : Bytes} (hm : most ≤ MOST) : readAll S k most b = numbers S k most b := by
  unfold readAll
  have hF : Fuel S 19999 most := ⟨hm, 480, 50, by decide, Nat.le_trans (cnt_le _ _) (G.flat h8), Nat.lt_of_le_of_lt hm MOST_lt⟩
  refine rising_ext (inserts_lt _ .nil) ((range_lt _).filter _) fun n => ?_
  rw [inserts_mem, List.mem_filterMap]
  show _ ↔ n ∈ numbers S k most b
  rw [mem_numbers]
  constructor
  · rintro (⟨⟨v, rest⟩, h1, h2⟩ | h)
    · have h1 := (readFrom_iff G 19999 k most 0 b v rest hF).mp h1
      obtain ⟨h3, _, p, h4, h5⟩ := h1
      have : rest = [] ∧ v = n := by
        cases rest with
        | nil => exact ⟨rfl, by simpa using h2⟩
        | cons c r => simp at h2
      obtain ⟨rfl, rfl⟩ := this
      rw [List.append_nil] at h5
      exact ⟨h3, h5 ▸ h4⟩
    · cases h
  · rintro ⟨h1, h2⟩
    exact .inl ⟨(n, []), (readFrom_iff G 19999 k most 0 b n [] hF).mpr ⟨h1, Nat.zero_le _, b, h2, by rw [List.append_nil]⟩, rfl⟩
end SpecMath
/-! reading: how many stretches a read can come to -/
namespace Sn
open PySem PySem.Spec PyProof.Rows L2
open SpecMath (Good)
def jqOf (R : Sw64.Rule) : Nat := ((R.pieces.find? fun x => Sw64.isTimes x.2).map fun x => pby x.2).getD 0
def jrOf (R : Sw64.Rule) : Nat := ((R.pieces.find? fun x => Sw64.isLeft x.2).map fun x => pby x.2).getD 0
def mqOf (R : Sw64.Rule) : Nat := if (R.pieces.any fun x => decide (wc x.1 = 3) || decide (wc x.1 = 4)) = true then 2 else 1
def mrOf (R : Sw64.Rule) : Nat := if (R.pieces.any fun x => decide (wc x.1 = 1) || decide (wc x.1 = 2)) = true then 1 else 0
def rdRule (s : Sw64.RSet) (R : Sw64.Rule) : Cnt.RD := ⟨R.base, Sw64.upTo s R, R.by_, jqOf R, jrOf R, mqOf R, mrOf R⟩
/-- the rule that a number falls to, in numbers -/
def rdOf (S : Sw64.Sets) (k x : Nat) : Option Cnt.RD := if x ≤ Sw64.MOST then (Sw64.ruleFor (S.getD k []) x).map (rdRule (S.getD k [])) else none
theorem mq_two (R : Sw64.Rule) : 1 ≤ mqOf R ∧ mqOf R ≤ 2 := by unfold mqOf; split <;> omega
theorem mr_one (R : Sw64.Rule) : mrOf R ≤ 1 := by unfold mrOf; split <;> omega
theorem M50 : Sw64.MOST + 1 < 2 ^ 50 := by decide
theorem rdOf_of {S : Sw64.Sets} (G : Good S) {k x : Nat} {R : Sw64.Rule} (h : R ∈ S.getD k []) (h1 : R.base ≤ x) (h2 : x ≤ Sw64.upTo (S.getD k []) R) : rdOf S k x = some (rdRule (S.getD k []) R) := by
  have hx : x ≤ Sw64.MOST := Nat.le_trans h2 (upTo_le G)
  unfold rdOf
  rw [if_pos hx, (SpecMath.ruleFor_iff (G.rising k) hx).mpr ⟨h, h1, h2⟩] <;> rfl
theorem rdOf_is {S : Sw64.Sets} (G : Good S) {k x : Nat} {D : Cnt.RD} (h : rdOf S k x = some D) : ∃ R ∈ S.getD k [], R.base ≤ x ∧ x ≤ Sw64.upTo (S.getD k []) R ∧ D = rdRule (S.getD k []) R := by
  unfold rdOf at h
  split at h
  · rename_i hx
    rw [Option.map_eq_some_iff] at h
    obtain ⟨R, h1, rfl⟩ := h
    obtain ⟨h2, h3, h4⟩ := (SpecMath.ruleFor_iff (G.rising k) hx).mp h1
    exact ⟨R, h2, h3, h4, rfl⟩
  · cases h
theorem rd_ok {S : Sw64.Sets} (G : Good S) : Cnt.RdOk (rdOf S) := by
  refine ⟨fun {k x D} h => ?_, fun {k x D} h y h1 h2 => ?_⟩
  · obtain ⟨R, h1, h2, h3, rfl⟩ := rdOf_is G h
    have := upTo_le G (k := k) (R := R)
    have hM := M50
    refine ⟨h2, h3, (by show Sw64.upTo (S.getD k []) R + 1 < 2 ^ 50; omega), ?_⟩
    by_cases h0 : R.by_ = 0
    · exact .inl h0
    · obtain ⟨d2, db, _⟩ := SpecMath.rule_by (G.rule h1) h0
      exact .inr ⟨d2, db, (mq_two R).1, (mq_two R).2, mr_one R⟩
  · obtain ⟨R, h3, h4, h5, rfl⟩ := rdOf_is G h
    exact rdOf_of G h3 h1 h2
def rulesOf (S : Sw64.Sets) : List (Nat × Cnt.RD) := (List.range 8).flatMap fun k => (S.getD k []).map fun R => (k, rdRule (S.getD k []) R)
theorem rules_all {S : Sw64.Sets} (G : Good S) (h8 : S.length = 8) {k : Nat} {D : Cnt.RD} (h : rdOf S k D.b = some D) : (k, D) ∈ rulesOf S := by
  obtain ⟨R, h1, _, _, rfl⟩ := rdOf_is G h
  refine List.mem_flatMap.mpr ⟨k, List.mem_range.mpr ?_, List.mem_map.mpr ⟨R, h1, rfl⟩⟩
  refine Classical.byContradiction fun z => ?_
  rw [List.getD_eq_getElem?_getD, List.getElem?_eq_none (by omega)] at h1
  cases h1
theorem rules_are {S : Sw64.Sets} (G : Good S) : ∀ z ∈ rulesOf S, rdOf S z.1 z.2.b = some z.2 := by
  intro z hz
  obtain ⟨k, _, hz⟩ := List.mem_flatMap.mp hz
  obtain ⟨R, hR, rfl⟩ := List.mem_map.mp hz
  exact rdOf_of G hR (Nat.le_refl _) (SpecMath.base_le_upTo (G.rising k) hR (SpecMath.rule_base (G.rule hR)))
theorem rules_len {S : Sw64.Sets} (G : Good S) : (rulesOf S).length ≤ 480 := by
  have := Cnt.flat_len (f := fun k => (S.getD k []).map fun R => (k, rdRule (S.getD k []) R)) (n := 60) (l := List.range 8) fun k _ => by
    rw [List.length_map]
    have h60 : Sw64.RULES = 60 := rfl
    have := G k
    unfold Sw64.setOk at this
    simp only [Bool.and_eq_true, decide_eq_true_eq] at this
    omega
  rw [List.length_range] at this
  exact this
/-! ### the slots of a shape -/
theorem one_of {α : Type} {p : α → Bool} {l : List α} {x y : α} (h : (l.filter p).length ≤ 1) (hx : x ∈ l) (hy : y ∈ l) (px : p x = true) (py : p y = true) : x = y := by
  have m1 := List.mem_filter.mpr ⟨hx, px⟩
  have m2 := List.mem_filter.mpr ⟨hy, py⟩
  match e : l.filter p with
  | [] => rw [e] at m1; cases m1
  | [z] =>
    rw [e] at m1 m2
    rw [List.mem_singleton.mp m1, List.mem_singleton.mp m2]
  | _ :: _ :: _ => rw [e] at h; simp at h
theorem find_one {α : Type} {p : α → Bool} {l : List α} {x : α} (h : (l.filter p).length ≤ 1) (hx : x ∈ l) (px : p x = true) : l.find? p = some x := by
  cases e : l.find? p with
  | none => exact absurd px (by simpa using List.find?_eq_none.mp e x hx)
  | some y => rw [one_of h (List.mem_of_find?_eq_some e) hx (List.find?_some e) px]
theorem slot_in {R : Sw64.Rule} (hok : Sw64.ruleOk R = true) (h0 : R.by_ ≠ 0) {s : Sh} (hs : s ∈ shapesOf R.pieces) {y : Sw64.Piece} (hy : y ∈ s.sl) :
    (pk y = 1 → pby y = jqOf R ∧ (s.q = (1, 1) ∨ s.q = (mqOf R, Sw64.MOST))) ∧ (¬ pk y = 1 → pby y = jrOf R ∧ (s.r = (0, 0) ∨ s.r = (mrOf R, Sw64.MOST))) := by
  have f := shape_facts hok h0 hs
  have hnt := f.nt y hy
  obtain ⟨_, _, _, t1, l1⟩ := SpecMath.rule_by hok h0
  unfold shapesOf at hs
  obtain ⟨q, hq, hs⟩ := List.mem_flatMap.mp hs
  obtain ⟨r, hr, rfl⟩ := List.mem_map.mp hs
  rw [shOf_q, shOf_r]
  have e0 : (shOf R.pieces q r).sl = (stand R.pieces q.1 r.1).filter (fun y => !Sw64.isText y) := (fold_facts (stand R.pieces q.1 r.1) (Sh.new q r)).1
  rw [e0] at hy
  obtain ⟨x, hx, rfl⟩ := List.mem_map.mp (List.mem_filter.mp hy).1
  have hx := (List.mem_filter.mp hx).1
  refine ⟨fun k1 => ?_, fun k1 => ?_⟩
  · have hT : Sw64.isTimes x.2 = true := by cases hh : x.2 <;> rw [hh] at k1 <;> first | rfl | cases k1
    refine ⟨?_, ?_⟩
    · unfold jqOf
      rw [find_one t1 hx hT] <;> rfl
    · unfold qruns at hq
      rw [if_neg (by rw [List.any_eq_true.mpr ⟨x, hx, by simpa using k1⟩]; decide)] at hq
      unfold mqOf
      split at hq
      · rename_i c
        rw [if_pos c]
        simpa using hq
      · rename_i c
        rw [if_neg c]
        exact .inr (by simpa using hq)
  · have hT : Sw64.isLeft x.2 = true := by cases hh : x.2 <;> rw [hh] at k1 hnt <;> first | rfl | exact (k1 rfl).elim | cases hnt
    refine ⟨?_, ?_⟩
    · unfold jrOf
      rw [find_one (Nat.le_of_eq l1) hx hT] <;> rfl
    · unfold rruns at hr
      unfold mrOf
      split at hr
      · rename_i c
        rw [if_pos c]
        simpa using hr
      · rename_i c
        rw [if_neg c]
        exact .inr (by simpa using hr)
/-! ### the lists -/
def Lst (S : Sw64.Sets) (k most : Nat) : List SKey := Cnt.full (rdOf S) (rulesOf S) k most
open Classical in
noncomputable def Cst (S : Sw64.Sets) (k most : Nat) : List SKey := (Lst S k most).filter fun z => decide (z.1 < 8 ∧ z.2.1 ≤ z.2.2 ∧ z.2.2 ≤ Sw64.MOST ∧ Cnt.Sup (rdOf S) (Lst S k most) z)
open Classical in
theorem mem_Cst {S : Sw64.Sets} {k most : Nat} {z : SKey} : z ∈ Cst S k most ↔ z.1 < 8 ∧ z.2.1 ≤ z.2.2 ∧ z.2.2 ≤ Sw64.MOST ∧ Cnt.Sup (rdOf S) (Lst S k most) z := by
  unfold Cst
  rw [List.mem_filter, decide_eq_true_iff]
  exact ⟨fun h => h.2, fun h => ⟨h.2.2.2.mem, h⟩⟩
theorem Lst_len {S : Sw64.Sets} (G : Good S) {k most : Nat} (hm : most ≤ Sw64.MOST) : (Lst S k most).length < sizeLine := by
  have hM := M50
  have := Cnt.full_len (rd_ok G) (rules_are G) (rules_len G) (k := k) (most := most) (by omega)
  rw [sizeLine_eq]; exact this
theorem Cst_len {S : Sw64.Sets} (G : Good S) {k most : Nat} (hm : most ≤ Sw64.MOST) : (Cst S k most).length < sizeLine := Nat.lt_of_le_of_lt (List.length_filter_le _ _) (Lst_len G hm)
theorem Cst_root {S : Sw64.Sets} (G : Good S) (h8 : S.length = 8) {k most : Nat} (hk : k < 8) (hm : most ≤ Sw64.MOST) : (k, 0, most) ∈ Cst S k most :=
  mem_Cst.mpr ⟨hk, Nat.zero_le _, hm, Cnt.full_root (rd_ok G) (rules_all G h8) hk (by have := M50; omega)⟩
section
variable {S : Sw64.Sets} {k most : Nat}
theorem Lst_has (G : Good S) (h8 : S.length = 8) : Cnt.Has (rdOf S) (Lst S k most) := Cnt.full_has (rd_ok G) (rules_all G h8)
theorem meet_rd (G : Good S) {y : SKey} (hlh : y.2.1 ≤ y.2.2) (hM : y.2.2 ≤ Sw64.MOST) {z : Sw64.Rule × Nat} (hz : z ∈ meet S y) : ∀ n, (rdRule (S.getD y.1 []) z.1).b ≤ n → n ≤ (rdRule (S.getD y.1 []) z.1).l → rdOf S y.1 n = some (rdRule (S.getD y.1 []) z.1) := fun n h1 h2 => by
  obtain ⟨f1, f2, f3, f4, f5⟩ := meet_facts G hlh hM hz
  exact rdOf_of G f1 h1 h2
theorem rKey_in (G : Good S) (h8 : S.length = 8) {y : SKey} (hlh : y.2.1 ≤ y.2.2) (hM : y.2.2 ≤ Sw64.MOST) (hS : Cnt.Sup (rdOf S) (Lst S k most) y) {z : Sw64.Rule × Nat} (hz : z ∈ meet S y) : rKey y z ∈ Lst S k most := by
  obtain ⟨f1, f2, f3, f4, f5⟩ := meet_facts G hlh hM hz
  have h := Cnt.part_mem (rd_ok G) (Lst_has G h8) (R := rdRule (S.getD y.1 []) z.1) (meet_rd G hlh hM hz) (by show z.1.base ≤ Sw64.upTo _ _; omega) (x := y.2.1) (y := y.2.2) hS hlh f3 (by show y.2.1 ≤ Sw64.upTo _ _; omega)
  unfold rKey
  rw [f2]
  exact h
theorem common_one {q : Nat} {u : Nat × Nat} (h : okRun (common (q, q) u) = true) : common (q, q) u = (q, q) := by
  unfold okRun at h
  rw [decide_eq_true_iff] at h
  unfold common at h ⊢
  simp only at h ⊢
  rw [show max q u.1 = q by omega, show min q u.2 = q by omega]
theorem common_pt {q : Nat} {u : Nat × Nat} (h : okRun (common u (q, q)) = true) : common u (q, q) = (q, q) := by
  unfold okRun at h
  rw [decide_eq_true_iff] at h
  unfold common at h ⊢
  simp only at h ⊢
  rw [show max u.1 q = q by omega, show min u.2 q = q by omega]
theorem mem_if {α : Type} {c : Prop} [Decidable c] {x b : α} (h : b ∈ if c then [x] else []) : b = x := by
  split at h
  · exact List.mem_singleton.mp h
  · cases h
theorem common_M {a b m : Nat} (h : b ≤ Sw64.MOST) : common (a, b) (m, Sw64.MOST) = (max a m, b) := by
  unfold common
  rw [Nat.min_eq_left h]
theorem slot_sup (G : Good S) (h8 : S.length = 8) {y : SKey} (hlh : y.2.1 ≤ y.2.2) (hM : y.2.2 ≤ Sw64.MOST) (hS : Cnt.Sup (rdOf S) (Lst S k most) y) {z : Sw64.Rule × Nat} (hz : z ∈ meet S y) (h0 : z.1.by_ ≠ 0) {b : (Nat × Nat) × (Nat × Nat)} (hb : b ∈ boxes z.1.by_ (rKey y z).2.1 (rKey y z).2.2) {s : Sh} (hs : s ∈ shapesOf z.1.pieces)
    (o1 : okRun (common b.1 s.q) = true) (o2 : okRun (common b.2 s.r) = true) {x : Sw64.Piece} (hx : x ∈ s.sl) : Cnt.Sup (rdOf S) (Lst S k most) (slotD z.1.by_ (common b.1 s.q) (common b.2 s.r) x).2 := by
  obtain ⟨f1, f2, f3, f4, f5⟩ := meet_facts G hlh hM hz
  have hok := G.rule f1
  obtain ⟨d2, db, _⟩ := SpecMath.rule_by hok h0
  have hbM := SpecMath.rule_base hok
  have hA := Lst_has (k := k) (most := most) G h8
  obtain ⟨c1, c2⟩ := slot_in hok h0 hs hx
  have f := shape_facts hok h0 hs
  have by8 := f.by8 x hx
  have e := meet_rd G hlh hM hz
  have hlo : (rKey y z).2.1 = max y.2.1 z.1.base := rfl
  have hhi : (rKey y z).2.2 = min y.2.2 (Sw64.upTo (S.getD y.1 []) z.1) := by rw [← f2] <;> rfl
  have l1 : (rKey y z).2.2 ≤ Sw64.MOST := Nat.le_trans (Nat.min_le_left _ _) hM
  have lq : (rKey y z).2.2 / z.1.by_ ≤ Sw64.MOST := Nat.le_trans (Nat.div_le_self _ _) l1
  have lr : (rKey y z).2.2 % z.1.by_ ≤ Sw64.MOST := Nat.le_trans (Nat.mod_le _ _) l1
  have key : ∀ P : Cnt.PartIn (rdOf S) (Lst S k most) (rdRule (S.getD y.1 []) z.1) (rKey y z).2.1 (rKey y z).2.2, pby x < 8 → Cnt.Sup (rdOf S) (Lst S k most) (slotD z.1.by_ (common b.1 s.q) (common b.2 s.r) x).2 := fun P by8 => by
    unfold boxes at hb
    unfold slotD
    by_cases k1 : pk x = 1
    · rw [if_pos k1]
      obtain ⟨j, hq⟩ := c1 k1
      show Cnt.Sup _ _ (pby x, (common b.1 s.q).1, (common b.1 s.q).2)
      rcases hq with hq | hq
      · rw [hq] at o1 ⊢
        rw [common_pt o1]
        exact .inl ⟨rfl, hA.sing by8 (Nat.le_refl _)⟩
      · rw [j]
        split at hb
        · rw [List.mem_singleton.mp hb] at o1 ⊢
          rw [common_one o1]
          exact P.ql
        · rename_i c
          rcases List.mem_append.mp hb with hb | hb
          · rcases List.mem_append.mp hb with hb | hb
            · rw [mem_if hb] at o1 ⊢
              rw [common_one o1]
              exact P.ql
            · rw [mem_if hb] at o1 ⊢
              rw [common_one o1]
              exact P.qh
          · have hu : (if (rKey y z).2.2 % z.1.by_ < z.1.by_ - 1 then (rKey y z).2.2 / z.1.by_ - 1 else (rKey y z).2.2 / z.1.by_) ≤ Sw64.MOST := by
              refine Nat.le_trans ?_ lq
              split
              · exact Nat.sub_le _ _
              · exact Nat.le_refl _
            have p := P.q3 c
            rw [mem_if hb, hq, common_M hu]
            exact p
    · rw [if_neg k1]
      obtain ⟨j, hr⟩ := c2 k1
      show Cnt.Sup _ _ (pby x, (common b.2 s.r).1, (common b.2 s.r).2)
      rcases hr with hr | hr
      · rw [hr] at o2 ⊢
        rw [common_pt o2]
        exact .inl ⟨rfl, hA.sing by8 (Nat.zero_le _)⟩
      · rw [j, hr]
        split at hb
        · rename_i c
          rw [List.mem_singleton.mp hb, common_M lr]
          exact P.one c
        · rename_i c
          rcases List.mem_append.mp hb with hb | hb
          · rcases List.mem_append.mp hb with hb | hb
            · rw [mem_if hb, common_M (by omega)]
              exact P.r1 c
            · rw [mem_if hb, common_M lr, Nat.zero_max]
              exact P.r2 c
          · rw [mem_if hb, common_M (by omega), Nat.zero_max]
            exact P.r3
  rcases id hS with ⟨s1, s2⟩ | ⟨l, u, m⟩
  · -- one number alone
    have en : (rKey y z).2.1 = y.2.1 := by rw [hlo]; omega
    have en2 : (rKey y z).2.2 = y.2.1 := by rw [hhi]; omega
    obtain ⟨p1, p2⟩ := Cnt.sing_pk (rd_ok G) (e y.2.1 (by show z.1.base ≤ _; omega) (by show _ ≤ Sw64.upTo _ _; omega)) h0 s2
    unfold boxes at hb
    rw [en, en2, if_pos rfl] at hb
    have hb := List.mem_singleton.mp hb
    rw [hb] at o1 o2 ⊢
    rw [common_one o1, common_one o2]
    unfold slotD
    by_cases k1 : pk x = 1
    · rw [if_pos k1]
      show Cnt.Sup _ _ (pby x, y.2.1 / z.1.by_, y.2.1 / z.1.by_)
      rw [(c1 k1).1]
      exact .inl ⟨rfl, p1⟩
    · rw [if_neg k1]
      show Cnt.Sup _ _ (pby x, y.2.1 % z.1.by_, y.2.1 % z.1.by_)
      rw [(c2 k1).1]
      exact .inl ⟨rfl, p2⟩
  · have hj : ∃ x ∈ z.1.pieces, Sw64.isLeft x.2 = true := by
      obtain ⟨_, _, _, _, l1⟩ := SpecMath.rule_by hok h0
      obtain ⟨w, j, h⟩ := SpecMath.left_any l1
      exact ⟨_, h, rfl⟩
    have hr8 : jrOf z.1 < 8 := by
      obtain ⟨x0, hx0, hl⟩ := hj
      obtain ⟨_, _, _, _, l1⟩ := SpecMath.rule_by hok h0
      unfold jrOf
      rw [find_one (Nat.le_of_eq l1) hx0 hl]
      have h := (SpecMath.rule_pieces hok).2 x0 hx0
      show pby x0.2 < 8
      unfold Sw64.pieceOk at h
      cases hh : x0.2 with
      | text _ => rw [hh] at hl; cases hl
      | times _ => rw [hh] at hl; cases hl
      | left j =>
        rw [hh] at h
        simp only [Bool.and_eq_true, decide_eq_true_eq] at h
        exact h.1
    have P := Cnt.part_in (rd_ok G) hA (R := rdRule (S.getD y.1 []) z.1) e (by show z.1.base ≤ Sw64.upTo _ _; omega) h0 hr8 l u m hlh f3 (by show y.2.1 ≤ Sw64.upTo _ _; omega)
    exact key (by rw [hlo, hhi]; exact P) by8
/-- all that a read can ask for -/
theorem rc_ok {A : Ad} {F : Hp} {st : Addr} {txt : Sw64.Bytes} (hs : SetsAt A F F st S) (G : Good S) (h8 : S.length = 8) (hm : most ≤ Sw64.MOST) (ht : txt.length ≤ 300) : RCok ⟨F, st, S, txt, Cst S k most, Lst S k most⟩ A := by
  refine ⟨hs, G, h8, fun y hy z hz => ?_, fun y hy w hw p hp => ?_, fun y hy => ?_, Cst_len G hm, Lst_len G hm, ht⟩
  · obtain ⟨k8, hlh, hM, hS⟩ := mem_Cst.mp hy
    exact rKey_in G h8 hlh hM hS hz
  · obtain ⟨k8, hlh, hM, hS⟩ := mem_Cst.mp hy
    obtain ⟨h1, h2, h3, h4⟩ := slots_half G hlh hM hw hp
    refine mem_Cst.mpr ⟨h4, h3, by omega, ?_⟩
    obtain ⟨z, hz, ⟨z0, zl, rfl⟩ | ⟨h0, b, hb, s, hs, o1, o2, rfl⟩⟩ := waysIn_mem G hw
    · cases hp
    · have hp : p ∈ s.sl.map (slotD z.1.by_ (common b.1 s.q) (common b.2 s.r)) := hp
      obtain ⟨x, hx, rfl⟩ := List.mem_map.mp hp
      exact slot_sup G h8 hlh hM hS hz h0 hb hs o1 o2 hx
  · obtain ⟨k8, hlh, hM, _⟩ := mem_Cst.mp hy
    exact ⟨k8, hlh, hM⟩
end
end Sn
/-! reading: a text read -/
namespace Sn
open PySem PySem.Spec PyProof.Rows L2
open SpecMath (Good)
theorem says_all {c : RC} {k n : Nat} : c.Says k n 0 c.txt.length ↔ Sw64.said c.S k n = some c.txt := by
  constructor
  · rintro ⟨t, h1, h2, h3⟩
    unfold RC.At at h2
    rw [List.drop_zero, List.isPrefixOf_iff_prefix] at h2
    rw [h1, h2.eq_of_length (by omega)]
  · intro h
    refine ⟨c.txt, h, ?_, (Nat.zero_add _).symm⟩
    unfold RC.At
    rw [List.drop_zero, List.isPrefixOf_iff_prefix]
    exact List.prefix_rfl
theorem mem_all {c : RC} (G : Good c.S) (h8 : c.S.length = 8) {k most n : Nat} (hm : most ≤ Sw64.MOST) : c.Mem (k, 0, most) n 0 c.txt.length ↔ n ∈ Sw64.readAll c.S k most c.txt := by
  rw [SpecMath.readAll_eq G h8 hm, SpecMath.mem_numbers]
  unfold RC.Mem
  rw [says_all]
  exact ⟨fun h => h.2, fun h => ⟨Nat.zero_le _, h⟩⟩
theorem readAll_lt {S : Sw64.Sets} (G : Good S) (h8 : S.length = 8) {k most : Nat} {b : Sw64.Bytes} (hm : most ≤ Sw64.MOST) : (Sw64.readAll S k most b).Pairwise (· < ·) := by
  rw [SpecMath.readAll_eq G h8 hm]
  exact (SpecMath.range_lt _).filter _
theorem lt_nodup {l : List Nat} (h : l.Pairwise (· < ·)) : l.Nodup := h.imp fun h => Nat.ne_of_lt h
/-- the answer in order is the specification's -/
theorem read_order {p : Nat → Prop} {ns us l : List Nat} (h : Just p ns) (hp : us.Perm ns) (ho : us.Pairwise (· ≤ ·)) (hl : l.Pairwise (· < ·)) (hm : ∀ n, p n ↔ n ∈ l) : us = l := by
  have hn : us.Nodup := hp.nodup_iff.mpr h.1
  refine SpecMath.rising_ext ?_ hl fun x => ?_
  · exact List.Pairwise.imp₂ (fun a b h1 h2 => by omega) ho hn
  · rw [hp.mem_iff, h.2, hm]
section
variable {P : Program} {w : World} {K : PySem.W.Frag} {mg : Str → Option Value} {base : Heap} {A : Ad}
def spThat (A : Ad) : Sp := fun vs H Q _ => ∃ (F : Hp) (st tl : Addr) (S : Sw64.Sets) (k most : Nat) (txt : Sw64.Bytes), vs = [.ref st, .int (k : Int), .int (most : Int), .ref tl] ∧ Sets8 A F H st S k ∧ most ≤ Sw64.MOST ∧ H tl = some (.lst (bnums txt)) ∧ txt.length ≤ 300 ∧ (Sw64.readAll S k most txt).length ≤ 1000000 ∧
  ∀ H' p, Same H H' → H' p = some (.lst (nums (Sw64.readAll S k most txt))) → Q (.ref p) H'
theorem ok_numbers_that_say (T : Top K mg A) : FnOk P w K mg base CX0 170 A.f_numbers_that_say A.d_numbers_that_say P_numbers_that_say (spThat A) := by
  have IC := ok_can_be (P := P) (w := w) (base := base) T (f := 51)
  have IN := ok_numbers (P := P) (w := w) (base := base) T 51
  refine T.F_numbers_that_say.ok sc_numbers_that_say (fun vs H Q E h => ?_) (fun cdv _ outer s H vs Q E hr h => ⟨_, (pss_cons (ps_set (i := 4) sc_numbers_that_say.nd rfl (Or.inl rfl) (pe_make T.m_Reading (ok_Reading_init T) (hr.mono (by omega)) (by rfl) T.g_Reading (b_Reading_init T) .nil pass0 (pa_cons (pv 0) (pa_cons (pv 3) pa_nil))))
    (pss_cons (ps_set (i := 5) sc_numbers_that_say.nd rfl (Or.inl rfl) (pe_meth (pe_fld (pv 4) rfl) T.c_Stretches T.M_Stretches_stretch (ok_Stretches_stretch T) (hr.mono (by omega)) (b_Stretches_stretch T) .nil pass0 (pa_cons (pv 1) (pa_cons pe_int (pa_cons (pv 2) pa_nil)))))
    (pss_cons (ps_if (pt_not (pt_val (pe_meth (pv 4) T.c_Reading T.M_Reading_can_be IC (hr.mono (by omega)) (b_Reading_can_be T) .nil pass0 (pa_cons (pv 5) (pa_cons pe_int (pa_cons (pe_callB call_len_seq (by rfl) T.n_len PySem.boot_len (pa_cons (pv 3) pa_nil)) pa_nil))))))
    (pss_one (ps_ret (pe_lst pa_nil)))
    pss_nil)
    (pss_one (ps_ret (pe_callB cr_sortedI (by rfl) T.n_sorted (by decide +kernel) (pa_cons (pe_meth (pv 4) T.c_Reading T.M_Reading_numbers_of IN (hr.mono (by omega)) (b_Reading_numbers_of T) .nil pass0 (pa_cons (pv 5) (pa_cons pe_int (pa_cons (pe_callB call_len_seq (by rfl) T.n_len PySem.boot_len (pa_cons (pv 3) pa_nil)) pa_nil)))) pa_nil))))))), ?_⟩)
  · obtain ⟨_, _, _, _, _, _, _, rfl, _⟩ := h
    rfl
  obtain ⟨F, st, tl, S, k, most, txt, rfl, h8, hm, hT, ht, hlen, kQ⟩ := h
  refine ⟨_, rfl, _, rfl, fun p pd hp hpd npd => ⟨p, pd, st, tl, txt, rfl, upd_same, ?_, ht, fun H1 ms dm DS DW bm kvs f1 f2 f3 f4 n1 n2 h1 h2 h3 h4 h5 B kp => ⟨rfl, ?_⟩⟩⟩
  · rw [upd_ne (ne_of_none hT hp), upd_ne (ne_of_none hT hpd)]; exact hT
  have s1 : Same H H1 := fun b o q => kp b o ((upd_ne (ne_of_none q hp)).trans ((upd_ne (ne_of_none q hpd)).trans q)) (ne_of_none q hp)
  have fr : ∀ {b : Addr}, upd (upd H pd (.own p)) p (.ins A.C_Reading pd []) b = none → b ≠ p ∧ H b = none := fun {b} q => by
    have n1 : b ≠ p := fun z => by rw [z, upd_same] at q; cases q
    rw [upd_ne n1] at q
    have n2 : b ≠ pd := fun z => by rw [z, upd_same] at q; cases q
    rw [upd_ne n2] at q
    exact ⟨n1, q⟩
  obtain ⟨m1, g1⟩ := fr f1
  obtain ⟨m2, g2⟩ := fr f2
  obtain ⟨m3, g3⟩ := fr f3
  obtain ⟨m4, g4⟩ := fr f4
  have R0 : RCok ⟨H, st, S, txt, Cst S k most, Lst S k most⟩ A := by
    obtain ⟨ls, l1, l2⟩ := h8.at_
    exact rc_ok ⟨ls, l1, l2.mono fun _ _ _ _ z => z.mono h8.sF⟩ h8.G h8.h8 hm ht
  have hroot := Cst_root (most := most) h8.G h8.h8 h8.hk hm
  have e8 := h8.h8
  have eG := h8.G
  generalize hc : (⟨H, st, S, txt, Cst S k most, Lst S k most⟩ : RC) = c at R0
  have cF : c.F = H := by rw [← hc]
  have cst : c.st = st := by rw [← hc]
  have cS : c.S = S := by rw [← hc]
  have ctx : c.txt = txt := by rw [← hc]
  have cC : c.C = Cst S k most := by rw [← hc]
  have hy : (k, 0, most) ∈ c.C := by rw [cC]; exact hroot
  have hmem : ∀ n, c.Mem (k, 0, most) n 0 txt.length ↔ n ∈ Sw64.readAll S k most txt := fun n => by
    have := mem_all (c := c) (n := n) (by rw [cS]; exact eG) (by rw [cS]; exact e8) (k := k) hm
    rw [ctx, cS] at this; exact this
  have hlt := readAll_lt eG e8 (k := k) (b := txt) hm
  have FW : Few fun n => c.Mem (k, 0, most) n 0 txt.length := fun ns hn hs => by
    have := hn.length_le_of_subset fun n h => (hmem n).mp (hs n h)
    omega
  -- the roles
  have I0 : RInv c A (fun _ => none) none H1 := ⟨by rw [cF]; exact s1, fun _ _ => rfl, fun _ _ h => (by cases h), fun _ _ h => (by cases h)⟩
  have E0 : Ext (fun _ => none) (fun _ => none) H H1 := Ext.same s1
  have nms : ms ≠ DS := ne_of h2 h3 (by intro z; cases z)
  have nmw : ms ≠ DW := ne_of h2 h4 (by intro z; cases z)
  have nmb : ms ≠ bm := ne_of h2 h5 (by intro z; cases z)
  have nsb : DS ≠ bm := ne_of h3 h5 (by intro z; cases z)
  have nwb : DW ≠ bm := ne_of h4 h5 (by intro z; cases z)
  have I1 := I0.add (p := DS) (r := .ms) rfl (by rw [cF]; exact g2) ⟨[], h3, DOk.nil⟩
  have E1 := E0.add (r := .ms) g2 rfl
  have q2 : addR (fun _ => none) DS .ms DW = none := addR_ne n1.symm
  have I2 := I1.add (p := DW) (r := .mw) q2 (by rw [cF]; exact g3) ⟨[], h4, DOk.nil⟩
  have E2 := E1.add (r := .mw) g3 q2
  have q3 : addR (addR (fun _ => none) DS .ms) DW .mw ms = none := by rw [addR_ne nmw, addR_ne nms]
  have I3 := I2.add (p := ms) (r := .frz (.ins A.C_Stretches dm (F_Stretches (.ref st) (.ref DS) (.ref DW)))) q3 (by rw [cF]; exact g1) h2
  have E3 := E2.add (r := .frz (.ins A.C_Stretches dm (F_Stretches (.ref st) (.ref DS) (.ref DW)))) g1 q3
  have l3 := le_addR (r := .frz (.ins A.C_Stretches dm (F_Stretches (.ref st) (.ref DS) (.ref DW)))) q3
  have q4 : addR (addR (addR (fun _ => none) DS .ms) DW .mw) ms (.frz (.ins A.C_Stretches dm (F_Stretches (.ref st) (.ref DS) (.ref DW)))) bm = none := by rw [addR_ne nmb.symm, addR_ne nwb.symm, addR_ne nsb.symm]
  have I4 := I3.add (p := bm) (r := .frz (.dK kvs)) q4 (by rw [cF]; exact g4) h5
  have E4 := E3.add (r := .frz (.dK kvs)) g4 q4
  have l4 := le_addR (r := .frz (.dK kvs)) q4
  have q5 : addR (addR (addR (addR (fun _ => none) DS .ms) DW .mw) ms (.frz (.ins A.C_Stretches dm (F_Stretches (.ref st) (.ref DS) (.ref DW))))) bm (.frz (.dK kvs)) p = none := by rw [addR_ne m4.symm, addR_ne m1.symm, addR_ne m3.symm, addR_ne m2.symm]
  have I5 := I4.add (p := p) (r := .frz (.ins A.C_Reading pd (F_Reading (.ref ms) (.int (txt.length : Nat)) (.ref bm)))) q5 (by rw [cF]; exact hp) h1
  have E5 := E4.add (r := .frz (.ins A.C_Reading pd (F_Reading (.ref ms) (.int (txt.length : Nat)) (.ref bm)))) hp q5
  have l5 := le_addR (r := .frz (.ins A.C_Reading pd (F_Reading (.ref ms) (.int (txt.length : Nat)) (.ref bm)))) q5
  have hM : MadeAt c A _ ms := ⟨dm, DS, DW, by rw [cst]; exact l5 _ _ (l4 _ _ addR_same), l5 _ _ (l4 _ _ (l3 _ _ (le_addR (r := .mw) q2 _ _ addR_same))), l5 _ _ (l4 _ _ (l3 _ _ addR_same))⟩
  have hR : ReadAt c A _ p := ⟨pd, ms, bm, kvs, by rw [ctx]; exact addR_same, l5 _ _ addR_same, by rw [ctx]; exact B, hM⟩
  generalize addR (addR (addR (addR (addR (fun _ => none) DS .ms) DW .mw) ms (.frz (.ins A.C_Stretches dm (F_Stretches (.ref st) (.ref DS) (.ref DW))))) bm (.frz (.dK kvs))) p (.frz (.ins A.C_Reading pd (F_Reading (.ref ms) (.int (txt.length : Nat)) (.ref bm)))) = G at I5 E5 hM hR
  have zC := R0.zC
  refine ⟨_, rfl, _, _, _, _, _, rfl, h1, T.c_Reading, T.n_Reading_made, F_Reading_made, ms, _, _, rfl, h2, F_Stretches_no_stretch, _, rfl, _, rfl, c, G, none, ms, k, 0, most, rfl, I5, hM, hy, Nat.le_of_lt zC, fun H6 G6 sa x6 I6 gs => ?_⟩
  have hR6 := hR.mono x6.le
  obtain ⟨dxr, ms', bm', hr6⟩ := hR6.at I6
  have hfu : ∃ f', 51 = f' + 1 ∧ (k, 0, most).2.2 < 2 ^ f' := ⟨50, rfl, Nat.lt_of_le_of_lt hm SpecMath.MOST_lt⟩
  have hT6 := I6.sF _ _ (show c.F tl = _ by rw [cF]; exact hT)
  refine ⟨_, rfl, _, _, _, rfl, hr6, F_Reading_no_can_be, _, rfl, _, rfl, tl, _, rfl, .inl (SqL.of hT6), ?_⟩
  rw [bnums_length]
  refine ⟨c, G6, p, sa, (k, 0, most), 0, txt.length, rfl, R0, I6, hR6, gs, hy, hfu, Nat.zero_le _, fun H7 G7 x7 I7 => ?_⟩
  have s7 : Same H H7 := by have := I7.sF; rwa [cF] at this
  have hbit : ((c.EM (k, 0, most) 0).testBit txt.length = true) ↔ ∃ n, n ∈ Sw64.readAll S k most txt := by
    rw [EM_bit, ctx]
    constructor
    · rintro ⟨_, n, hn⟩
      exact ⟨n, (hmem n).mp hn⟩
    · rintro ⟨n, hn⟩
      exact ⟨Nat.le_refl _, n, (hmem n).mpr hn⟩
  cases hb : (c.EM (k, 0, most) 0).testBit txt.length with
  | false =>
    have e : Sw64.readAll S k most txt = [] := by
      cases e : Sw64.readAll S k most txt with
      | nil => rfl
      | cons n l => rw [hbit.mpr ⟨n, by rw [e]; exact List.mem_cons_self⟩] at hb; cases hb
    refine ⟨_, rfl, if_true_of rfl ⟨(by show 0 ≤ sizeLine; decide), fun D hD => ?_⟩⟩
    refine kQ _ D (Same.upd_new s7 (Same.free s7 hD)) ?_
    rw [upd_same, e] <;> rfl
  | true =>
    refine ⟨_, rfl, if_false_of rfl ?_⟩
    have hR7 := hR6.mono x7.le
    obtain ⟨dxr7, ms7, bm7, hr7⟩ := hR7.at I7
    have hT7 := s7 _ _ hT
    refine ⟨_, rfl, _, _, _, rfl, hr7, F_Reading_no_numbers_of, _, rfl, _, rfl, tl, _, rfl, .inl (SqL.of hT7), ?_⟩
    rw [bnums_length]
    refine ⟨c, G7, p, sa, (k, 0, most), 0, txt.length, rfl, R0, I7, hR7, x7.le _ _ gs, hy, hfu, Nat.zero_le _, by rw [ctx]; exact Nat.le_refl _, FW, fun H8 G8 l ns x8 I8 hl hJ => ?_⟩
    have s8 : Same H H8 := by have := I8.sF; rwa [cF] at this
    have hl8 := I8.frz hl
    refine ⟨l, _, rfl, SqL.of (by rw [← nums_ints]; exact hl8), fun zs q hz1 hz2 hq => ?_⟩
    obtain ⟨us, u1, u2, u3⟩ := nat_ints hz1 hz2
    have e := read_order hJ u1 u2 hlt hmem
    refine kQ _ q (Same.upd_new s8 (Same.free s8 hq)) ?_
    rw [upd_same, u3, e]
theorem ok_read (T : Top K mg A) : FnOk P w K mg base (L2.CX P w) 172 A.f_read A.d_read P_read (spCall A K fun c => ∃ k m b, c = .read k m b) := by
  refine T.F_read.okX sc_read (fun vs H Q E h => ?_) (fun cdv _ outer s H vs Q E hr h => ⟨_, (pss_cons (ps_set (i := 2) sc_read.nd rfl (Or.inl rfl) (pe_meth0 (pv 1) T.c_Row T.M_Row_one (ok_Row_one T) (hr.mono (by omega)) (b_Row_one T) .nil pass0))
    (pss_cons (ps_set (i := 3) sc_read.nd rfl (Or.inl rfl) (pe_meth0 (pv 1) T.c_Row T.M_Row_one (ok_Row_one T) (hr.mono (by omega)) (b_Row_one T) .nil pass0))
    (pss_cons (ps_set (i := 4) sc_read.nd rfl (Or.inl rfl) (pe_meth0 (pv 1) T.c_Row T.M_Row_told (ok_Row_told T) (hr.mono (by omega)) (b_Row_told T) .nil pass0))
    (pss_cons (ps_expr (pe_call (ok_check_set T) (hr.mono (by omega)) (by rfl) T.g_check_set T.F_check_set.kp (b_check_set T) .nil (passes_call (takes_of rfl rfl rfl rfl) (fun _ _ _ _ h => h)) (pa_cons (pv 2) pa_nil)))
    (pss_cons (ps_expr (pe_call (ok_check_number T) (hr.mono (by omega)) (by rfl) T.g_check_number T.F_check_number.kp (b_check_number T) .nil (passes_call (takes_of rfl rfl rfl rfl) (fun _ _ _ _ h => h)) (pa_cons (pv 3) pa_nil)))
    (pss_cons (ps_if (pt_cmpR op_gt (pe_callB call_len_seq (by rfl) T.n_len PySem.boot_len (pa_cons (pv 4) pa_nil)) (pe_gi rfl T.k_MOST_TEXT) (nomark _))
    (pss_one (ps_raise rfl (takes_of rfl rfl rfl rfl) (pmk_own0 PySem.F.excBase_Exception T.x_NotAsTold T.g_NotAsTold T.kp_NotAsTold (raises_own T.b_NotAsTold T.t_NotAsTold) (by exact rfl))))
    pss_nil)
    (pss_one (ps_ret (pe_call (ok_listed T) (hr.mono (by omega)) (by rfl) T.g_listed T.F_listed.kp (b_listed T) .nil pass0 (pa_cons (pe_call (ok_numbers_that_say T) (hr.mono (by omega)) (by rfl) T.g_numbers_that_say T.F_numbers_that_say.kp (b_numbers_that_say T) .nil pass0 (pa_cons (pv 0) (pa_cons (pv 2) (pa_cons (pv 3) (pa_cons (pv 4) pa_nil))))) pa_nil)))))))))), ?_⟩)
  · obtain ⟨_, _, _, _, _, _, _, _, _, _, rfl, _⟩ := h
    rfl
  obtain ⟨F, st, a, dx, l, xs, i, S, c, rest, rfl, ⟨k, m, t, rfl⟩, hP, hd, hin, hsm, kA, kS, kQ⟩ := h
  have hd : xs.drop i = k :: m :: t.length :: (Sw64.bytes t ++ rest) := hd
  have hin : t.length ≤ 400 := hin
  obtain ⟨q1, q2, q3⟩ := drop_cons hd
  obtain ⟨q4, q5, q6⟩ := drop_cons q2
  obtain ⟨q7, q8, q9⟩ := drop_cons q5
  obtain ⟨q10, q11, q12⟩ := drop_app q8
  have hbl : (Sw64.bytes t).length = t.length := by unfold Sw64.bytes; rw [List.length_map]
  rw [hbl] at q11 q12
  obtain ⟨r0, rS⟩ := hP.row
  obtain ⟨h1, hS1⟩ := hP.row.upd (i + 1)
  obtain ⟨h2, hS2⟩ := hP.row.upd (i + 1 + 1)
  have ej : i + (encC (.read k m t)).tail.length = i + 1 + 1 + 1 + t.length := by show i + ((Sw64.bytes t).length + 1 + 1 + 1) = _; rw [hbl]; omega
  rw [ej] at kA kS kQ
  have estep : Sw64.step ⟨S⟩ (.read k m t) = if (decide (k < Sw64.SETS) && (decide (m ≤ Sw64.MOST) && decide (t.length ≤ Sw64.LONG))) = false then (⟨S⟩, Sw64.ok (-1)) else (⟨S⟩, ⟨((Sw64.readAll S k m t).length : Nat), [Sw64.readAll S k m t]⟩) := rfl
  have bad : ∀ H', Same (upd H a (.ins A.C_Row dx (rowF l (i + 1 + 1 + 1 + t.length)))) H' → (decide (k < Sw64.SETS) && (decide (m ≤ Sw64.MOST) && decide (t.length ≤ Sw64.LONG))) = false → E (.ref A.C_NotAsTold) none H' := fun H' e hb => by
    rw [if_pos hb] at estep
    rw [estep] at kA
    exact kA rfl H' (hP.after e)
  refine ⟨_, rfl, _, _, _, rfl, r0, F_Row_no_one, a, dx, l, xs, i, _, rfl, r0, rS, q1, ?_⟩
  refine ⟨_, rfl, _, _, _, rfl, h1, F_Row_no_one, a, dx, l, xs, i + 1, _, rfl, h1, hS1, q4, ?_⟩
  rw [upd_upd]
  refine ⟨_, rfl, _, _, _, rfl, h2, F_Row_no_told, a, dx, l, xs, i + 1 + 1, _, rfl, h2, hS2, q7, by have := q12 (by omega); omega, fun p hp => ?_⟩
  rw [upd_upd, q11]
  have npa : p ≠ a := fun z => by rw [z, upd_same] at hp; cases hp
  have fp : H p = none := by rwa [upd_ne npa] at hp
  have s1 : Same (upd H a (.ins A.C_Row dx (rowF l (i + 1 + 1 + 1 + t.length)))) (upd (upd H a (.ins A.C_Row dx (rowF l (i + 1 + 1 + 1 + t.length)))) p (.lst (nums (Sw64.bytes t)))) := same_new (by rw [upd_ne npa]; exact fp) _
  refine ⟨_, rfl, k, rfl, fun e => bad _ s1 (by rw [show decide (k < Sw64.SETS) = false from e, Bool.false_and]), fun e => ?_⟩
  refine ⟨_, rfl, m, rfl, fun e2 => bad _ s1 (by rw [show decide (m ≤ Sw64.MOST) = false from e2, Bool.false_and, Bool.and_false]), fun e2 => ?_⟩
  have hk : k < 8 := of_decide_eq_true e
  have hm : m ≤ Sw64.MOST := of_decide_eq_true e2
  have hb : nums (Sw64.bytes t) = bnums t := rfl
  rw [hb] at s1 ⊢
  generalize hU : upd (upd H a (.ins A.C_Row dx (rowF l (i + 1 + 1 + 1 + t.length)))) p (.lst (bnums t)) = U at s1
  have hpU : U p = some (.lst (bnums t)) := by rw [← hU]; exact upd_same
  refine ⟨_, rfl, p, _, rfl, .inl (SqL.of hpU), _, _, rfl, rfl, _, rfl, ?_⟩
  rw [bnums_length]
  refine split_dec (fun c1 => ?_) (fun c1 => ?_)
  · exact bad U s1 (by rw [show decide (t.length ≤ Sw64.LONG) = false from decide_eq_false (by show ¬ t.length ≤ 300; omega), Bool.and_false, Bool.and_false])
  have ht : t.length ≤ 300 := by omega
  rw [if_neg (by rw [show decide (k < Sw64.SETS) = true from e, show decide (m ≤ Sw64.MOST) = true from e2, show decide (t.length ≤ Sw64.LONG) = true from decide_eq_true ht]; decide)] at estep
  rw [estep] at kQ hsm
  rw [out_len] at hsm
  have h8 := hP.sets8 (j := i + 1 + 1 + 1 + t.length) s1 hk
  refine ⟨_, rfl, _, rfl, _, rfl, _, rfl, F, st, p, S, k, m, t, rfl, h8, hm, hpU, ht, by omega, fun H2 p2 s2 hp2 => ?_⟩
  refine ⟨p2, _, rfl, hp2, by omega, fun H3 p3 s3 fp3 hp3 => ?_⟩
  refine kQ H3 p3 (hP.after (s1.trans (s2.trans s3))) (fresh_of (s1.trans s2) fp3) ?_
  rw [hp3, out_one] <;> rfl
end
end Sn
/-! the answer to one call -/
namespace Sn
open PySem PySem.Spec PyProof.Rows L2
open SpecMath (Good)
section
variable {X : Cx} {CX : CXT} {k i : Nat} {x : Str} {p pos : Pos} {e : Expr} {es : List Expr} {t : TA}
/-- as tCallLS; of the name's def one of some promises is known -/
def tCallLR (i : Nat) (S : Addr → Sp → Prop) (E : L2.St → XK) (t : TA) : TE := fun σ H Q => ∃ f sp, σ[i]? = some (some (.ref f)) ∧ S f sp ∧ t σ H fun vs H1 => sp vs H1 Q (E σ)
theorem pe_callLR {S : Addr → Sp → Prop} {E : L2.St → XK} (A : ∀ f sp, S f sp → HeldS X.prog X.w X.K X.mg X.base CX k f sp) (hr : Room k X.A) (hN : X.N[i]? = some x) (hv : Vis X.env.scope x) (hx : ∀ σ, PassesAt CX X σ (E σ)) (ha : PA X (e :: es) t)
    (hdb : (x == ("__debug__" : Str)) = false := by decide) (hcd : (x == ("__classdict__" : Str)) = false := by decide)
    (he : starEach (e :: es) X.env = (false, eval e X.env) :: starEach es X.env := by rfl) (hpl : (backTo pos (starEach es X.env)).any (·.1) = false := by rfl) : PE X (.Call (.Name x p) (e :: es) [] pos) (tCallLR i S E t) := by
  refine ⟨fun pins s σ H Q I h => ?_⟩
  obtain ⟨f, sp, hs, hS, ht⟩ := h
  obtain ⟨fd, ps, F, hk, hb⟩ := (A f sp hS).ex
  refine wpAny_Call_Name_kw (thn ((pe_var (pos := p) hN hv hdb hcd).run pins s σ H (fun v H1 => v = .ref f ∧ H1 = H) I ⟨.ref f, hs, rfl, rfl⟩) fun u s1 ⟨v, H1, I1, r1, q1⟩ => ?_)
  obtain ⟨rfl, rfl⟩ := q1
  cases r1
  refine PySem.W.callWith_K (h₀ := X.base) I.ok.mod.kin hk (thn (ha.run pos pins s1 σ _ _ I1 ht) fun us s2 ⟨vs, H2, I2, r, q⟩ => ⟨I2.kIn, ?_⟩) he hpl
  exact run_fnS F hr hb (hx σ) I2 r q
end
/-- a def that raises nothing, among those that may -/
theorem fn_up {P : Program} {w : World} {K : PySem.W.Frag} {mg : Str → Option Value} {base : Heap} {CX : CXT} {k : Nat} {f : Addr} {fd : FuncData} {ps : List Str} {sp : Sp} (F : FnOk P w K mg base CX0 k f fd ps sp) : FnOk P w K mg base CX k f fd ps sp :=
  ⟨F.len, fun A outer s H args us vs Q E hr he hb hv hs => codeAny_mono (F.run A outer s H args us vs Q E hr he hb hv hs) fun r s' h => by
    match r, h with
    | .ok (.ret u), h => exact h
    | .ok .next, h => exact h
    | .ok .brk, h => exact h
    | .ok .cont, h => exact h
    | .error e, h => exact h.elim⟩
section
variable {P : Program} {w : World} {K : PySem.W.Frag} {mg : Str → Option Value} {base : Heap} {A : Ad}
theorem Pre.step {F H : Hp} {st a dx l : Addr} {xs : List Nat} {i : Nat} {S : Sw64.Sets} (p : Pre A K F H st a dx l xs i S) : Pre A K F (upd H a (.ins A.C_Row dx (rowF l (i + 1)))) st a dx l xs (i + 1) S := by
  obtain ⟨ls, h1, h2⟩ := p.sets
  exact ⟨⟨ls, (upd_ne p.nsa).trans h1, h2⟩, fun b o q => (upd_ne (ne_of_none q p.fa)).trans (p.sF b o q), p.fst, p.fa, p.row.upd _, p.nls, p.G, p.h8⟩
theorem After.first {F H H' : Hp} {st a dx l : Addr} {xs : List Nat} {i j : Nat} {S S' : Sw64.Sets} (p : Pre A K F H st a dx l xs i S) (h : After A K F (upd H a (.ins A.C_Row dx (rowF l (i + 1)))) H' st a dx l xs j S') : After A K F H H' st a dx l xs j S' :=
  ⟨let ⟨F', f1, f2, f3, f4, f7, f5⟩ := h.ex; ⟨F', f1, f2, f3, f4, fun b q1 q2 => f7 b q1 (fun z => q2 (fresh_of Same.rfl z)), f5⟩, h.row, fun b o q n1 n2 => h.kp b o ((upd_ne n2).trans q) n1 n2, fun b z => by
    have := h.dm b z
    by_cases c : b = a
    · subst c; rw [upd_same] at this; cases this
    · rwa [upd_ne c] at this⟩
theorem After.new {F H H' : Hp} {st a dx l p : Addr} {xs : List Nat} {j : Nat} {S' : Sw64.Sets} {o : HO} (h : After A K F H H' st a dx l xs j S') (hp : H' p = none) : After A K F H (upd H' p o) st a dx l xs j S' := by
  obtain ⟨F', f1, f2, f3, f4, f7, ls, f5, f6⟩ := h.ex
  have s := same_new hp o
  exact ⟨⟨F', f1, f2.trans s, f3, f4, f7, ls, s _ _ f5, f6⟩, ⟨s _ _ h.row.1, s.seq h.row.2⟩, fun b o q n1 n2 => s _ _ (h.kp b o q n1 n2), h.dm.upd⟩
/-- which promise stands for which call -/
inductive CallS (A : Ad) (K : PySem.W.Frag) : Addr → Sp → Prop
  | begins : CallS A K A.f_begins (spCall A K fun c => c = .begins)
  | rules : CallS A K A.f_rules (spCall A K fun c => ∃ k s, c = .rules k s)
  | say : CallS A K A.f_say (spCall A K fun c => ∃ k n, c = .say k n)
  | read : CallS A K A.f_read (spCall A K fun c => ∃ k m b, c = .read k m b)
  | gaps : CallS A K A.f_gaps (spCall A K fun c => ∃ k a b, c = .gaps k a b)
  | alike : CallS A K A.f_alike (spCall A K fun c => ∃ k a b, c = .alike k a b)
  | longest : CallS A K A.f_longest (spCall A K fun c => ∃ k a b, c = .longest k a b)
  | sorted : CallS A K A.f_in_order (spCall A K fun c => ∃ k ns, c = .sorted k ns)
theorem held (T : Top K mg A) {f : Addr} {sp : Sp} (h : CallS A K f sp) : HeldS P w K mg base (L2.CX P w) 172 f sp := by
  cases h with
  | begins => exact ⟨_, _, fn_up ((ok_begins T).mono (by decide)), T.F_begins.kp, b_begins T⟩
  | rules => exact ⟨_, _, (ok_rules T).mono (by decide), T.F_rules.kp, b_rules T⟩
  | say => exact ⟨_, _, (ok_say_call T).mono (by decide), T.F_say.kp, b_say T⟩
  | read => exact ⟨_, _, ok_read T, T.F_read.kp, b_read T⟩
  | gaps => exact ⟨_, _, (ok_gaps T).mono (by decide), T.F_gaps.kp, b_gaps T⟩
  | alike => exact ⟨_, _, (ok_alike T).mono (by decide), T.F_alike.kp, b_alike T⟩
  | longest => exact ⟨_, _, (ok_longest T).mono (by decide), T.F_longest.kp, b_longest T⟩
  | sorted => exact ⟨_, _, (ok_in_order T).mono (by decide), T.F_in_order.kp, b_in_order T⟩
def callsV (A : Ad) : List V := [.ref A.f_begins, .ref A.f_rules, .ref A.f_say, .ref A.f_read, .ref A.f_gaps, .ref A.f_alike, .ref A.f_longest, .ref A.f_in_order]
theorem which (A : Ad) (K : PySem.W.Frag) (c : Sw64.Call) : ∃ (j : Nat) (f : Addr) (is : Sw64.Call → Prop), encC c = j :: (encC c).tail ∧ atI (callsV A) (j : Int) = some (.ref f) ∧ CallS A K f (spCall A K is) ∧ is c := by
  cases c with
  | begins => exact ⟨0, _, _, rfl, rfl, .begins, rfl⟩
  | rules k s => exact ⟨1, _, _, rfl, rfl, .rules, k, s, rfl⟩
  | say k n => exact ⟨2, _, _, rfl, rfl, .say, k, n, rfl⟩
  | read k m b => exact ⟨3, _, _, rfl, rfl, .read, k, m, b, rfl⟩
  | gaps k a b => exact ⟨4, _, _, rfl, rfl, .gaps, k, a, b, rfl⟩
  | alike k a b => exact ⟨5, _, _, rfl, rfl, .alike, k, a, b, rfl⟩
  | longest k a b => exact ⟨6, _, _, rfl, rfl, .longest, k, a, b, rfl⟩
  | sorted k l => exact ⟨7, _, _, rfl, rfl, .sorted, k, l, rfl⟩
def spAnswer (A : Ad) (K : PySem.W.Frag) : Sp := fun vs H Q _ => ∃ (F : Hp) (st a dx l : Addr) (xs : List Nat) (i : Nat) (S : Sw64.Sets) (c : Sw64.Call) (rest : List Nat), vs = [.ref st, .ref a] ∧ Pre A K F H st a dx l xs i S ∧ xs.drop i = encC c ++ rest ∧ CallIn c ∧
  (Sw64Neutral.out (Sw64.step ⟨S⟩ c).2).length ≤ 1000000 ∧
  ∀ H' p, After A K F H H' st a dx l xs (i + (encC c).length) (Sw64.step ⟨S⟩ c).1.sets → H p = none → H' p = some (.lst ((Sw64Neutral.out (Sw64.step ⟨S⟩ c).2).map V.int)) → Q (.ref p) H'
theorem ok_answer (T : Top K mg A) : FnOk P w K mg base CX0 173 A.f_answer A.d_answer P_answer (spAnswer A K) := by
  refine T.F_answer.ok sc_answer (fun vs H Q E h => ?_) (fun cdv _ outer s H vs Q E hr h => ⟨_, pss_cons (ps_set (i := 2) sc_answer.nd rfl (Or.inl rfl) (pe_ix ix_tup (pe_glob (v := .ref A.CALLS) rfl T.g_CALLS rfl) (pe_meth0 (pv 1) T.c_Row T.M_Row_one (ok_Row_one T) (hr.mono (by omega)) (b_Row_one T) .nil pass0) (fun _ _ => rfl)))
      (pss_one (ps_try_many (tb := fun W => tRet (tCallLR 2 (CallS A K) (WE W) (tCons (tVar 0) (tCons (tVar 1) tNil)))) (l := [(.ref A.C_NotAsTold, fun _ _ _ => tRet (tLst (tCons (tUn (rU fun i => .int (-i)) (tC (.int 1))) tNil))), (.ref A.C_NotSaid, fun _ _ _ => tRet (tLst (tCons (tUn (rU fun i => .int (-i)) (tC (.int 6))) tNil)))]) (Wout := fun _ _ _ _ => False) rfl rfl takes_none5
        (fun W pn xe tk _ => pss_one (ps_ret (pe_callLR (fun f sp h => held T h) (hr.mono (by omega)) rfl (.inl rfl) (fun σ => passAt tk σ) (by exact (pa_cons (pv 0) (pa_cons (pv 1) pa_nil))))))
        (.cons ⟨rfl, by decide, Or.inl T.g_NotAsTold⟩ (fun _ _ _ _ _ _ _ => pss_one (ps_ret (pe_lst (pa_cons (pe_un un_neg pe_int) pa_nil))))
          (.cons ⟨rfl, by decide, Or.inl T.g_NotSaid⟩ (fun _ _ _ _ _ _ _ => pss_one (ps_ret (pe_lst (pa_cons (pe_un un_neg pe_int) pa_nil)))) .nil)))), ?_⟩)
  · obtain ⟨_, _, _, _, _, _, _, _, _, _, rfl, _⟩ := h
    rfl
  obtain ⟨F, st, a, dx, l, xs, i, S, c, rest, rfl, hP, hd, hin, hsm, kQ⟩ := h
  obtain ⟨j, f, is, he, hat, hS, hi⟩ := which A K c
  rw [he] at hd
  have hd : xs.drop i = j :: ((encC c).tail ++ rest) := hd
  obtain ⟨q1, q2, q3⟩ := drop_cons hd
  obtain ⟨r0, rS⟩ := hP.row
  have ej : i + (encC c).length = i + 1 + (encC c).tail.length := by
    have : (encC c).length = (encC c).tail.length + 1 := by rw [he] <;> rfl
    omega
  rw [ej] at kQ
  refine ⟨_, rfl, _, _, _, rfl, r0, F_Row_no_one, a, dx, l, xs, i, _, rfl, r0, rS, q1, ?_⟩
  refine ⟨A.CALLS, _, _, _, rfl, rfl, T.q_CALLS _, hat, ?_⟩
  refine ⟨f, _, rfl, hS, _, rfl, _, rfl, F, st, a, dx, l, xs, i + 1, S, c, rest, rfl, hi, hP.step, q2, hin, hsm, fun e1 H' hA => ?_, fun e1 H' hA => ?_, fun H' p hA fp hp => ?_⟩
  · refine ⟨true, T.e_NotAsTold_NotAsTold, fun _ a0 _ => ?_, fun q => Bool.noConfusion q⟩
    refine ⟨_, rfl, (by show 1 ≤ sizeLine; decide), fun p hp => ?_⟩
    refine kQ _ p ((hA.first hP).new hp) ((hA.first hP).dm _ hp) ?_
    rw [upd_same, e1] <;> rfl
  · refine ⟨false, T.e_NotSaid_NotAsTold, fun q => Bool.noConfusion q, fun _ => ⟨true, T.e_NotSaid_NotSaid, fun _ a0 _ => ?_, fun q => Bool.noConfusion q⟩⟩
    refine ⟨_, rfl, (by show 1 ≤ sizeLine; decide), fun p hp => ?_⟩
    refine kQ _ p ((hA.first hP).new hp) ((hA.first hP).dm _ hp) ?_
    rw [upd_same, e1] <;> rfl
  · exact kQ H' p (hA.first hP) (fresh_of Same.rfl fp) hp
end
end Sn
/-! the answers to a line's calls -/
namespace Sn
open PySem PySem.Spec PyProof.Rows L2
open SpecMath (Good)
/-- a line played: the answers; the state behind it -/
def play : Sw64.St → List Sw64.Call → List (List Int)
  | _, [] => []
  | s, c :: r => Sw64Neutral.out (Sw64.step s c).2 :: play (Sw64.step s c).1 r
def stand_ : Sw64.St → List Sw64.Call → Sw64.St
  | s, [] => s
  | s, c :: r => stand_ (Sw64.step s c).1 r
theorem play_append : ∀ (a b : List Sw64.Call) (s : Sw64.St), play s (a ++ b) = play s a ++ play (stand_ s a) b
  | [], _, _ => rfl
  | c :: a, b, s => by
    rw [List.cons_append, play, play_append a b, play, stand_, List.cons_append]
theorem stand_append : ∀ (a b : List Sw64.Call) (s : Sw64.St), stand_ s (a ++ b) = stand_ (stand_ s a) b
  | [], _, _ => rfl
  | c :: a, b, s => by
    rw [List.cons_append, stand_, stand_append a b, stand_]
theorem told_append (a b : List (List Int)) : PyFlat.told (a ++ b) = PyFlat.told a ++ PyFlat.told b := by unfold PyFlat.told; rw [List.flatMap_append]
theorem set_good {S : Sw64.Sets} (G : Good S) {k : Nat} {s : Sw64.RSet} (h : Sw64.setOk s = true) : Good (S.set k s) := fun j => by
  rw [List.getD_eq_getElem?_getD, List.getElem?_set]
  by_cases c : k = j
  · subst c
    rw [if_pos rfl]
    split
    · exact h
    · rfl
  · rw [if_neg c, ← List.getD_eq_getElem?_getD]
    exact G j
theorem good_empty : Good Sw64.empty_ := fun j => by
  have : Sw64.empty_.getD j [] = [] := by
    unfold Sw64.empty_
    rw [List.getD_eq_getElem?_getD, List.getElem?_replicate]
    split <;> rfl
  rw [this] <;> rfl
theorem step_good {s : Sw64.St} (G : Good s.sets) (h8 : s.sets.length = 8) (c : Sw64.Call) : Good (Sw64.step s c).1.sets ∧ (Sw64.step s c).1.sets.length = 8 := by
  cases c with
  | begins => exact ⟨good_empty, rfl⟩
  | rules k r =>
    have e : Sw64.step s (.rules k r) = if (decide (k < Sw64.SETS) && Sw64.setOk r) = false then (s, Sw64.ok (-1)) else (⟨s.sets.set k r⟩, Sw64.ok (r.length : Nat)) := rfl
    rw [e]
    split
    · exact ⟨G, h8⟩
    · rename_i c
      have : Sw64.setOk r = true := by
        cases q : Sw64.setOk r with
        | true => rfl
        | false => rw [q, Bool.and_false] at c; exact absurd rfl c
      exact ⟨set_good G this, by show (s.sets.set k r).length = 8; rw [List.length_set]; exact h8⟩
  | say k n =>
    have e : Sw64.step s (.say k n) = if (decide (k < Sw64.SETS) && decide (n ≤ Sw64.MOST)) = false then (s, Sw64.ok (-1)) else (s, match Sw64.said s.sets k n with
      | none => Sw64.ok (-6)
      | some b => ⟨0, [Sw64.bytes b]⟩) := rfl
    rw [e]
    split <;> exact ⟨G, h8⟩
  | read k m b =>
    have e : Sw64.step s (.read k m b) = if (decide (k < Sw64.SETS) && (decide (m ≤ Sw64.MOST) && decide (b.length ≤ Sw64.LONG))) = false then (s, Sw64.ok (-1)) else (s, ⟨((Sw64.readAll s.sets k m b).length : Nat), [Sw64.readAll s.sets k m b]⟩) := rfl
    rw [e]
    split <;> exact ⟨G, h8⟩
  | gaps k a b =>
    have e : (Sw64.step s (.gaps k a b)).1 = s := by
      show (if Sw64.spanOk k a b = false then (s, Sw64.ok (-1)) else (s, _)).1 = s
      split <;> rfl
    rw [e]; exact ⟨G, h8⟩
  | alike k a b =>
    have e : (Sw64.step s (.alike k a b)).1 = s := by
      show (if Sw64.spanOk k a b = false then (s, Sw64.ok (-1)) else (s, _)).1 = s
      split <;> rfl
    rw [e]; exact ⟨G, h8⟩
  | longest k a b =>
    have e : (Sw64.step s (.longest k a b)).1 = s := by
      show (if Sw64.spanOk k a b = false then (s, Sw64.ok (-1)) else (s, _)).1 = s
      split <;> rfl
    rw [e]; exact ⟨G, h8⟩
  | sorted k l =>
    have e : (Sw64.step s (.sorted k l)).1 = s := by
      show (if (decide (k < Sw64.SETS) && (decide (l.length ≤ Sw64.LIST) && l.all fun n => decide (n ≤ Sw64.MOST))) = false then (s, Sw64.ok (-1)) else (s, _)).1 = s
      split <;> rfl
    rw [e]; exact ⟨G, h8⟩
theorem stand_good : ∀ (cs : List Sw64.Call) {s : Sw64.St}, Good s.sets → s.sets.length = 8 → Good (stand_ s cs).sets ∧ (stand_ s cs).sets.length = 8
  | [], _, G, h8 => ⟨G, h8⟩
  | c :: cs, _, G, h8 => stand_good cs (step_good G h8 c).1 (step_good G h8 c).2
theorem encC_pos (c : Sw64.Call) : 0 < (encC c).length := by cases c <;> exact Nat.succ_pos _
theorem sq_new {K : PySem.W.Frag} {H : Hp} {l d : Addr} {xs : List V} (h : SqL K H l xs) (hd : H d = none) : l ≠ d ∨ ∀ H : Hp, SqL K H l xs := by
  rcases h with h | h
  · refine .inl fun z => ?_
    subst z
    rcases h with h | ⟨o', h⟩ <;> rw [hd] at h <;> cases h
  · exact .inr fun _ => .inr h
section
variable {P : Program} {w : World} {K : PySem.W.Frag} {mg : Str → Option Value} {base : Heap} {A : Ad}
def spAnswers (K : PySem.W.Frag) : Sp := fun vs H Q _ => ∃ (l : Addr) (cs : List Sw64.Call), vs = [.ref l] ∧ SqL K H l (nums (cs.flatMap encC)) ∧ (∀ c ∈ cs, CallIn c) ∧ (∀ y ∈ play Sw64.init cs, y.length ≤ 1000000) ∧ (PyFlat.told (play Sw64.init cs)).length ≤ 10000000 ∧
  ∀ H' p, H' p = some (.lst ((PyFlat.told (play Sw64.init cs)).map V.int)) → Q (.ref p) H'
theorem ok_answers (T : Top K mg A) : FnOk P w K mg base CX0 174 A.f_answers A.d_answers P_answers (spAnswers K) := by
  refine T.F_answers.ok sc_answers (fun vs H Q E h => ?_) (fun cdv _ outer s H vs Q E hr h => ⟨_, (pss_cons (ps_set (i := 1) sc_answers.nd rfl (Or.inl rfl) (pe_make T.m_Row (ok_Row_init T) (hr.mono (by omega)) (by rfl) T.g_Row (b_Row_init T) .nil pass0 (pa_cons (pv 0) pa_nil)))
    (pss_cons (ps_setLc (i := 2) (own := [("k", 5)]) (g := gName 5) (tt := tYes) (te := tLst tNil) rfl sc_answers.nd rfl rfl (sw_true rfl rfl rfl (by decide +kernel)) (pi_range1 rfl T.n_range (pa_cons (pe_gi rfl T.k_HOW_MANY_SETS) pa_nil)) (blkOk_by (own := [("k", 5)]) (N := N_answers) (sc := defScope s_answers) (by decide +kernel)) (fun _ _ _ _ _ => pg_name (i := 5) sc_answers.nd rfl (Or.inl rfl)) (fun _ _ _ _ _ => by exact (pts_nil)) (fun _ _ _ _ _ => by exact (pe_lst pa_nil)))
    (pss_cons (ps_set (i := 3) sc_answers.nd rfl (Or.inl rfl) (pe_lst pa_nil))
    (pss_cons (ps_while PassesOwn.never (pt_val (pe_meth0 (pv 1) T.c_Row T.M_Row_has_more (ok_Row_has_more T) (hr.mono (by omega)) (b_Row_has_more T) .nil pass0))
    (pss_cons (ps_set (i := 4) sc_answers.nd rfl (Or.inl rfl) (pe_call (ok_answer T) (hr.mono (by omega)) (by rfl) T.g_answer T.F_answer.kp (b_answer T) .nil pass0 (pa_cons (pv 2) (pa_cons (pv 1) pa_nil))))
    (pss_cons (ps_expr (pe_bm PySem.F.plainAttrs_list PySem.F.slot_list_append PySem.F.type_list_append mt_append (pv 3) (pa_cons (pe_callB call_len_seq (by rfl) T.n_len PySem.boot_len (pa_cons (pv 4) pa_nil)) pa_nil)))
    (pss_one (ps_expr (pe_bm PySem.F.plainAttrs_list PySem.F.slot_list_extend PySem.F.type_list_extend mt_extend (pv 3) (pa_cons (pv 4) pa_nil)))))))
    (pss_one (ps_ret (pv 3))))))), ?_⟩)
  · obtain ⟨_, _, rfl, _⟩ := h
    rfl
  obtain ⟨l, cs, rfl, hS, hin, hy, hz, kQ⟩ := h
  refine ⟨_, rfl, fun p pd hp hpd npd => ⟨p, pd, l, rfl, upd_same, ⟨rfl, ?_⟩⟩⟩
  have s1 : Same H (upd (upd (upd H pd (.own p)) p (.ins A.C_Row pd [])) p (.ins A.C_Row pd (rowF l 0))) := Same.upd_new (Same.upd_new (same_new hpd _) hp) hp
  have hp1 : upd (upd (upd H pd (.own p)) p (.ins A.C_Row pd [])) p (.ins A.C_Row pd (rowF l 0)) p = some (.ins A.C_Row pd (rowF l 0)) := upd_same
  generalize upd (upd (upd H pd (.own p)) p (.ins A.C_Row pd [])) p (.ins A.C_Row pd (rowF l 0)) = H1 at s1 hp1 ⊢
  refine ⟨8, rfl, by decide, by decide, fun D hD => lc_range (lo := 0) (n := 8) (fun j H' => Same H1 H' ∧ ∃ ls, H' D = some (.lst (refs ls)) ∧ ls.length = j ∧ ∀ lk ∈ ls, H' lk = some (.lst []) ∧ H1 lk = none ∧ lk ≠ D) ⟨same_new hD _, [], upd_same, rfl, fun _ h => by cases h⟩ (fun j H' hj ⟨s2, ls, e1, e2, e3⟩ => ?_) (fun H2 ⟨s2, ls, e1, e2, e3⟩ => ?_)⟩
  · refine ⟨rfl, (by show 0 ≤ sizeLine; decide), fun q hq => ?_⟩
    have nqD : q ≠ D := fun z => by rw [z, e1] at hq; cases hq
    have fq : H1 q = none := Same.free s2 hq
    refine ⟨_, (upd_ne nqD.symm).trans e1, by rw [refs_length, sizeLine_eq]; omega, Same.upd_new (s2.trans (same_new hq _)) hD, ls ++ [q], ?_, by rw [List.length_append, e2] <;> rfl, fun lk hlk => ?_⟩
    · rw [upd_same]; unfold refs; rw [List.map_append] <;> rfl
    · rcases List.mem_append.mp hlk with h | h
      · obtain ⟨g1, g2, g3⟩ := e3 lk h
        have nlq : lk ≠ q := fun z => by rw [z, hq] at g1; cases g1
        exact ⟨by rw [upd_ne g3, upd_ne nlq]; exact g1, g2, g3⟩
      · rw [List.mem_singleton.mp h]
        exact ⟨by rw [upd_ne nqD, upd_same], fq, nqD⟩
  refine ⟨(by show 0 ≤ sizeLine; decide), fun En hE => ?_⟩
  have nED : En ≠ D := fun z => by rw [z, e1] at hE; cases hE
  have hp2 := s2 _ _ hp1
  have nEp : En ≠ p := fun z => by rw [z, hp2] at hE; cases hE
  have nDp : D ≠ p := fun z => by rw [z, hp1] at hD; cases hD
  have fE1 : H1 En = none := Same.free s2 hE
  have sE := same_new hE (.lst [])
  have nlD : l ≠ D ∨ ∀ H : Hp, SqL K H l (nums (cs.flatMap encC)) := sq_new hS (Same.free s1 hD)
  have nlE : l ≠ En ∨ ∀ H : Hp, SqL K H l (nums (cs.flatMap encC)) := sq_new hS (Same.free s1 fE1)
  have hE2 : upd H2 En (.lst []) En = some (.lst []) := upd_same
  have s3 : Same H1 (upd H2 En (.lst [])) := s2.trans sE
  have e1' := sE _ _ e1
  have e3' : ∀ lk ∈ ls, upd H2 En (.lst []) lk = some (.lst []) := fun lk h => sE _ _ (e3 lk h).1
  have hEl : ∀ lk ∈ ls, lk ≠ En := fun lk h z => by have := (e3 lk h).1; rw [z, hE] at this; cases this
  generalize upd H2 En (.lst []) = H3 at *
  have P0 : Pre A K (Wo (Wo (Wo H3 D) p) En) H3 D p pd l (cs.flatMap encC) 0 Sw64.init.sets := by
    refine ⟨⟨ls, e1', ?_⟩, fun b o q => Wo.same _ _ (Wo.same _ _ (Wo.same _ _ q)), ?_, ?_, ⟨s3 _ _ hp1, (s1.trans s3).seq hS⟩, nlD, good_empty, rfl⟩
    · refine All2.of (by rw [e2]; rfl) fun j lk s q1 q2 => ?_
      have hj : j < 8 := by have := (List.getElem?_eq_some_iff.mp q1).1; omega
      have : s = [] := by
        have q2 : (List.replicate 8 ([] : Sw64.RSet))[j]? = some s := q2
        rw [List.getElem?_replicate, if_pos hj] at q2
        exact (Option.some.inj q2).symm
      subst this
      have hm := List.mem_of_getElem? q1
      obtain ⟨g1, g2, g3⟩ := e3 lk hm
      have nlp : lk ≠ p := fun z => by rw [z, hp1] at g2; cases g2
      exact ⟨[], by rw [Wo.ne (hEl lk hm), Wo.ne nlp, Wo.ne g3]; exact e3' lk hm, .nil⟩
    · rw [Wo.ne nED.symm, Wo.ne nDp]; exact Wo.eq
    · rw [Wo.ne nEp.symm]; exact Wo.eq
  refine ⟨fun n σ H' => ∃ (v4 v5 : Option V) (F' : Hp) (done rest : List Sw64.Call), cs = done ++ rest ∧ n = rest.length ∧ σ = [some (.ref l), some (.ref p), some (.ref D), some (.ref En), v4, v5] ∧ Pre A K F' H' D p pd l (cs.flatMap encC) (done.flatMap encC).length (stand_ Sw64.init done).sets ∧ F' En = none ∧ H' En = some (.lst ((PyFlat.told (play Sw64.init done)).map V.int)),
    ⟨cs.length, _, _, _, [], cs, rfl, rfl, rfl, P0, Wo.eq, hE2⟩, ?_⟩
  rintro n σ H' ⟨v4, v5, F', done, rest, hcs, rfl, rfl, hP, fE, hEn⟩
  obtain ⟨r0, rS⟩ := hP.row
  refine ⟨_, rfl, _, _, _, rfl, r0, F_Row_no_has_more, p, pd, l, _, _, rfl, r0, rS, _, rfl, ?_⟩
  cases rest with
  | nil =>
    rw [List.append_nil] at hcs
    subst hcs
    refine if_false_of (decide_eq_false (by omega)) ⟨_, rfl, kQ H' En hEn⟩
  | cons c rest =>
    have hpos := encC_pos c
    have hlen : (cs.flatMap encC).length = (done.flatMap encC).length + ((encC c).length + (rest.flatMap encC).length) := by
      rw [hcs, List.flatMap_append, List.flatMap_cons, List.length_append, List.length_append]
    refine if_true_of (decide_eq_true (by omega)) ?_
    have hd : (cs.flatMap encC).drop (done.flatMap encC).length = encC c ++ rest.flatMap encC := by
      rw [hcs, List.flatMap_append, List.flatMap_cons, List.drop_left]
    have hpl : play Sw64.init cs = play Sw64.init done ++ Sw64Neutral.out (Sw64.step (stand_ Sw64.init done) c).2 :: play (Sw64.step (stand_ Sw64.init done) c).1 rest := by
      rw [hcs, play_append, play]
    have hsm : (Sw64Neutral.out (Sw64.step (stand_ Sw64.init done) c).2).length ≤ 1000000 := hy _ (by rw [hpl]; exact List.mem_append_right _ List.mem_cons_self)
    have htl : (PyFlat.told (play Sw64.init done)).length + (1 + (Sw64Neutral.out (Sw64.step (stand_ Sw64.init done) c).2).length) ≤ 10000000 := by
      rw [hpl, told_append, List.length_append] at hz
      have : (PyFlat.told (Sw64Neutral.out (Sw64.step (stand_ Sw64.init done) c).2 :: play (Sw64.step (stand_ Sw64.init done) c).1 rest)).length = 1 + (Sw64Neutral.out (Sw64.step (stand_ Sw64.init done) c).2).length + (PyFlat.told (play (Sw64.step (stand_ Sw64.init done) c).1 rest)).length := by
        unfold PyFlat.told
        rw [List.flatMap_cons, List.length_append, List.length_cons]; omega
      omega
    have hci : CallIn c := hin c (by rw [hcs]; exact List.mem_append_right _ List.mem_cons_self)
    refine ⟨fun σ' H' => ∃ m', m' < (c :: rest).length ∧ _, fun _ _ z => z, ?_⟩
    refine ⟨_, rfl, _, rfl, F', D, p, pd, l, _, _, _, c, _, rfl, hP, hd, hci, hsm, fun H4 q hA fq hq => ?_⟩
    have nqE : q ≠ En := fun z => by rw [z, hEn] at fq; cases fq
    obtain ⟨F2, f1, f2, f3, f4, f7, ls2, f5, f6⟩ := hA.ex
    have fE2 : F2 En = none := f7 En fE (by rw [hEn]; intro z; cases z)
    have hE4 := hA.kp En _ hEn nED nEp
    refine ⟨_, rfl, .inl ⟨rfl, _, SqL.of hE4⟩, _, rfl, q, _, rfl, .inl (SqL.of hq), En, _, _, rfl, rfl, hE4, (by rw [List.length_map, sizeLine_eq]; omega), ?_⟩
    refine ⟨_, rfl, .inl ⟨rfl, _, SqL.of upd_same⟩, _, rfl, En, q, _, _, rfl, rfl, upd_same, (upd_ne nqE).trans hq, (by rw [List.length_append, List.length_map, List.length_map, sizeLine_eq]; show _ + 1 + (Sw64Neutral.out (Sw64.step (stand_ Sw64.init done) c).2).length ≤ _; omega), ?_⟩
    rw [upd_upd]
    obtain ⟨g1, g2⟩ := step_good (s := stand_ Sw64.init done) (stand_good done good_empty rfl).1 (stand_good done good_empty rfl).2 c
    have est : stand_ Sw64.init (done ++ [c]) = (Sw64.step (stand_ Sw64.init done) c).1 := by rw [stand_append] <;> rfl
    have etl : PyFlat.told (play Sw64.init (done ++ [c])) = PyFlat.told (play Sw64.init done) ++ (((Sw64Neutral.out (Sw64.step (stand_ Sw64.init done) c).2).length : Int) :: Sw64Neutral.out (Sw64.step (stand_ Sw64.init done) c).2) := by
      rw [play_append, told_append, play, play]
      unfold PyFlat.told
      rw [List.flatMap_cons, List.flatMap_nil, List.append_nil]
    refine ⟨rest.length, Nat.lt_succ_self _, _, _, F2, done ++ [c], rest, by rw [hcs, List.append_assoc] <;> rfl, rfl, rfl, ?_, fE2, ?_⟩
    · rw [est]
      have ei : ((done ++ [c]).flatMap encC).length = (done.flatMap encC).length + (encC c).length := by
        rw [List.flatMap_append, List.length_append, List.flatMap_cons, List.flatMap_nil, List.append_nil]
      rw [ei]
      exact ⟨⟨ls2, (upd_ne nED.symm).trans f5, f6⟩, Same.upd_new f2 fE2, f3, f4, ⟨(upd_ne nEp.symm).trans hA.row.1, seq_ne hA.row.2 nlE⟩, nlD, g1, g2⟩
    · rw [upd_same, etl, List.map_append, List.map_cons, List.append_assoc, List.length_map] <;> rfl
end
end Sn
/-! a line as it is handed in, and what is due -/
namespace Sn
open PySem PySem.Spec PyProof.Rows L2
open Sw64Neutral (natIn textIn listIn ruleIn callOf all_ three)
theorem L_inj {a b : List Nat} (h : L a = L b) : a = b := by
  unfold L at h
  exact List.map_inj_right (fun _ _ h => by omega) |>.mp h
theorem L_of {l : List Int} (h : ∀ x ∈ l, 0 ≤ x) : L (l.map Int.toNat) = l := by
  unfold L
  rw [List.map_map]
  refine (List.map_congr_left (g := id) fun x hx => ?_).trans (List.map_id l)
  show ((x.toNat : Nat) : Int) = x
  exact Int.toNat_of_nonneg (h x hx)
theorem L_take (n : Nat) (l : List Nat) : (L l).take n = L (l.take n) := by unfold L; rw [List.map_take]
theorem L_drop (n : Nat) (l : List Nat) : (L l).drop n = L (l.drop n) := by unfold L; rw [List.map_drop]
theorem all_some {α : Type} {x : Option (α × List Int)} {y : α} (h : all_ x = some y) : x = some (y, []) := by
  unfold all_ at h
  rw [Option.bind_eq_some_iff] at h
  obtain ⟨⟨a, r⟩, h1, h2⟩ := h
  cases r with
  | nil =>
    have h2 : some a = some y := h2
    cases h2
    exact h1
  | cons _ _ =>
    have h2 : none = some y := h2
    cases h2
/-- a row: how many, they -/
theorem row_of {l : List Nat} {x t : List Int} (h : PyFlat.row (L l) = some (x, t)) : ∃ a b, l = a.length :: a ++ b ∧ x = L a ∧ t = L b := by
  cases l with
  | nil => cases h
  | cons n r =>
    have h : (if 0 ≤ (n : Int) ∧ (n : Int).toNat ≤ (L r).length then some ((L r).take (n : Int).toNat, (L r).drop (n : Int).toNat) else none) = some (x, t) := h
    split at h
    · rename_i c
      rw [Int.toNat_natCast, L_length] at c
      rw [Int.toNat_natCast, L_take, L_drop] at h
      obtain ⟨rfl, rfl⟩ := by simpa using h
      refine ⟨r.take n, r.drop n, ?_, rfl, rfl⟩
      rw [List.length_take, Nat.min_eq_left c.2, List.cons_append, List.take_append_drop]
    · cases h
theorem rows_one {l : List Nat} {xs : List (List Int)} {t : List Int} (h : PyFlat.rows 1 (L l) = some (xs, t)) : ∃ a b, l = a.length :: a ++ b ∧ xs = [L a] ∧ t = L b := by
  unfold PyFlat.rows at h
  split at h
  · cases h
  · rename_i x s e
    obtain ⟨a, b, h1, h2, h3⟩ := row_of e
    have h : (match PyFlat.rows 0 s with | none => none | some (xs, t) => some (x :: xs, t)) = some (xs, t) := h
    have h : some ([x], s) = some (xs, t) := h
    obtain ⟨rfl, rfl⟩ := by simpa using h
    exact ⟨a, b, h1, by rw [h2], h3⟩
theorem nat1 {l : List Nat} {k : Nat} {r : List Int} (h : natIn (L l) = some (k, r)) : ∃ l', l = k :: l' ∧ r = L l' := by
  obtain ⟨r', h1, h2, _⟩ := nat_inv l k r h
  exact ⟨r', h1, h2⟩
theorem L_nil_of {l : List Nat} (h : ([] : List Int) = L l) : l = [] := L_nil h.symm
/-- one call: its numbers are those that tell it -/
theorem call_of {l : List Nat} {c : List (List Int)} {t : List Int} (h : PyFlat.call PySw64.shape (L l) = some (c, t)) {x : Sw64.Call} (hx : callOf ((PySw64.whole c).headD []) = some x) : ∃ b, l = encC x ++ b ∧ t = L b ∧ CallIn x := by
  cases l with
  | nil => cases h
  | cons p l =>
    have h : (match PySw64.shape (p : Int) with
      | none => none
      | some (n, k) => if (L l).length < n then none else match PyFlat.rows k ((L l).drop n) with
        | none => none
        | some (xs, t) => some (((p : Int) :: (L l).take n) :: xs, t)) = some (c, t) := h
    have zero : ∀ n, PySw64.shape (p : Int) = some (n, 0) → n ≤ l.length ∧ c = [(p : Int) :: L (l.take n)] ∧ t = L (l.drop n) := fun n e => by
      rw [e] at h
      have h : (if (L l).length < n then none else some ([(p : Int) :: (L l).take n], (L l).drop n)) = some (c, t) := h
      split at h
      · cases h
      · rename_i z
        rw [L_length] at z
        obtain ⟨rfl, rfl⟩ := by simpa using h
        exact ⟨by omega, by rw [L_take], by rw [L_drop]⟩
    have one : ∀ n, PySw64.shape (p : Int) = some (n, 1) → n ≤ l.length ∧ ∃ a b, l.drop n = a.length :: a ++ b ∧ c = [(p : Int) :: L (l.take n), L a] ∧ t = L b := fun n e => by
      rw [e] at h
      have h : (if (L l).length < n then none else match PyFlat.rows 1 ((L l).drop n) with
        | none => none
        | some (xs, t) => some (((p : Int) :: (L l).take n) :: xs, t)) = some (c, t) := h
      split at h
      · cases h
      · rename_i z
        rw [L_length] at z
        rw [L_drop] at h
        split at h
        · cases h
        · rename_i xs t' e2
          obtain ⟨a, b, h1, h2, h3⟩ := rows_one e2
          obtain ⟨rfl, rfl⟩ := by simpa using h
          exact ⟨by omega, a, b, h1, by rw [h2, L_take], h3⟩
    match p, l, zero, one, h with
    | 0, l, zero, _, _ =>
      obtain ⟨_, rfl, rfl⟩ := zero 0 rfl
      have hx : callOf [0] = some x := hx
      cases hx
      exact ⟨l, rfl, rfl, trivial⟩
    | 1, l, _, one, _ =>
      obtain ⟨h1, a, b, h2, rfl, rfl⟩ := one 1 rfl
      cases l with
      | nil => exact absurd h1 (by decide)
      | cons k l =>
        have h2 : l = a.length :: a ++ b := h2
        subst h2
        have hx : callOf (1 :: (k : Int) :: L a) = some x := hx
        have hx : all_ ((natIn (L (k :: a))).bind fun k => (listIn 70 ruleIn k.2).map fun x => ((Sw64.Call.rules k.1 x.1 : Sw64.Call), x.2)) = some x := hx
        have hx := all_some hx
        rw [Option.bind_eq_some_iff] at hx
        obtain ⟨⟨k', r⟩, e1, hx⟩ := hx
        rw [Option.map_eq_some_iff] at hx
        obtain ⟨⟨s, r2⟩, e2, e3⟩ := hx
        obtain ⟨a', e4, rfl⟩ := nat1 e1
        injection e4 with e4 e5
        subst e4; subst e5
        obtain ⟨rr, e6, e7, e8⟩ := set_inv _ s r2 e2
        obtain ⟨rfl, rfl⟩ := by simpa using e3
        have := L_nil_of e7
        subst this
        rw [List.append_nil] at e6
        subst e6
        exact ⟨b, by simp [encC], rfl, e8⟩
    | 2, l, zero, _, _ =>
      obtain ⟨h1, rfl, rfl⟩ := zero 2 rfl
      rcases l with _ | ⟨k, _ | ⟨n, l⟩⟩
      · exact absurd h1 (by decide)
      · exact absurd h1 (Nat.not_le_of_lt (Nat.lt_succ_self 1))
      · skip
        have hx : callOf (2 :: L [k, n]) = some x := hx
        have hx : all_ ((natIn (L [k, n])).bind fun k => (natIn k.2).map fun x => ((Sw64.Call.say k.1 x.1 : Sw64.Call), x.2)) = some x := hx
        have hx := all_some hx
        rw [Option.bind_eq_some_iff] at hx
        obtain ⟨⟨k', r⟩, e1, hx⟩ := hx
        rw [Option.map_eq_some_iff] at hx
        obtain ⟨⟨s, r2⟩, e2, e3⟩ := hx
        obtain ⟨a', e4, rfl⟩ := nat1 e1
        injection e4 with e4 e5
        subst e4; subst e5
        obtain ⟨a', e4, rfl⟩ := nat1 e2
        injection e4 with e4 e5
        subst e4; subst e5
        obtain ⟨rfl, _⟩ := by simpa using e3
        exact ⟨l, rfl, rfl, trivial⟩
    | 3, l, _, one, _ =>
      obtain ⟨h1, a, b, h2, rfl, rfl⟩ := one 2 rfl
      rcases l with _ | ⟨k, _ | ⟨m, l⟩⟩
      · exact absurd h1 (by decide)
      · exact absurd h1 (Nat.not_le_of_lt (Nat.lt_succ_self 1))
      · skip
        have h2 : l = a.length :: a ++ b := h2
        subst h2
        have hx : callOf (3 :: (k : Int) :: (m : Int) :: (((L a).length : Nat) : Int) :: L a) = some x := hx
        rw [L_length] at hx
        have hx : all_ ((natIn (L (k :: m :: a.length :: a))).bind fun k => (natIn k.2).bind fun m => (textIn m.2).map fun x => ((Sw64.Call.read k.1 m.1 x.1 : Sw64.Call), x.2)) = some x := hx
        have hx := all_some hx
        rw [Option.bind_eq_some_iff] at hx
        obtain ⟨⟨k', r⟩, e1, hx⟩ := hx
        rw [Option.bind_eq_some_iff] at hx
        obtain ⟨⟨m', r2⟩, e2, hx⟩ := hx
        rw [Option.map_eq_some_iff] at hx
        obtain ⟨⟨s, r3⟩, e3, e4⟩ := hx
        obtain ⟨a', f4, rfl⟩ := nat1 e1
        injection f4 with f4 f5
        subst f4; subst f5
        obtain ⟨a', f4, rfl⟩ := nat1 e2
        injection f4 with f4 f5
        subst f4; subst f5
        obtain ⟨rr, e6, e7, e8⟩ := text_inv _ s r3 e3
        obtain ⟨rfl, rfl⟩ := by simpa using e4
        have := L_nil_of e7
        subst this
        rw [List.append_nil] at e6
        injection e6 with e6 e9
        refine ⟨b, ?_, rfl, e8⟩
        show 3 :: k :: m :: (a.length :: a ++ b) = 3 :: k :: m :: s.length :: (s.map UInt8.toNat ++ b)
        rw [e6, ← e9] <;> rfl
    | 4, l, zero, _, _ =>
      obtain ⟨h1, rfl, rfl⟩ := zero 3 rfl
      rcases l with _ | ⟨k, _ | ⟨n, _ | ⟨m, l⟩⟩⟩
      · exact absurd h1 (by decide)
      · exact absurd h1 (show ¬ 3 ≤ 1 by decide)
      · exact absurd h1 (show ¬ 3 ≤ 2 by decide)
      · skip
        have hx : (all_ (three (L [k, n, m]))).map (fun x => Sw64.Call.gaps x.1 x.2.1 x.2.2) = some x := hx
        rw [Option.map_eq_some_iff] at hx
        obtain ⟨⟨k', n', m'⟩, hx, exx⟩ := hx
        have exx : x = Sw64.Call.gaps k' n' m' := exx.symm
        have hx := all_some hx
        unfold three at hx
        rw [Option.bind_eq_some_iff] at hx
        obtain ⟨⟨k2, r⟩, e1, hx⟩ := hx
        rw [Option.bind_eq_some_iff] at hx
        obtain ⟨⟨m2, r2⟩, e2, hx⟩ := hx
        rw [Option.map_eq_some_iff] at hx
        obtain ⟨⟨s, r3⟩, e3, e4⟩ := hx
        obtain ⟨a', f4, rfl⟩ := nat1 e1
        injection f4 with f4 f5
        subst f4; subst f5
        obtain ⟨a', f4, rfl⟩ := nat1 e2
        injection f4 with f4 f5
        subst f4; subst f5
        obtain ⟨a', f4, rfl⟩ := nat1 e3
        injection f4 with f4 f5
        subst f4; subst f5
        obtain ⟨e5, _⟩ := Prod.mk.inj e4
        obtain ⟨rfl, e6⟩ := Prod.mk.inj e5
        obtain ⟨rfl, rfl⟩ := Prod.mk.inj e6
        rw [exx]
        exact ⟨l, rfl, rfl, trivial⟩
    | 5, l, zero, _, _ =>
      obtain ⟨h1, rfl, rfl⟩ := zero 3 rfl
      rcases l with _ | ⟨k, _ | ⟨n, _ | ⟨m, l⟩⟩⟩
      · exact absurd h1 (by decide)
      · exact absurd h1 (show ¬ 3 ≤ 1 by decide)
      · exact absurd h1 (show ¬ 3 ≤ 2 by decide)
      · skip
        have hx : (all_ (three (L [k, n, m]))).map (fun x => Sw64.Call.alike x.1 x.2.1 x.2.2) = some x := hx
        rw [Option.map_eq_some_iff] at hx
        obtain ⟨⟨k', n', m'⟩, hx, exx⟩ := hx
        have exx : x = Sw64.Call.alike k' n' m' := exx.symm
        have hx := all_some hx
        unfold three at hx
        rw [Option.bind_eq_some_iff] at hx
        obtain ⟨⟨k2, r⟩, e1, hx⟩ := hx
        rw [Option.bind_eq_some_iff] at hx
        obtain ⟨⟨m2, r2⟩, e2, hx⟩ := hx
        rw [Option.map_eq_some_iff] at hx
        obtain ⟨⟨s, r3⟩, e3, e4⟩ := hx
        obtain ⟨a', f4, rfl⟩ := nat1 e1
        injection f4 with f4 f5
        subst f4; subst f5
        obtain ⟨a', f4, rfl⟩ := nat1 e2
        injection f4 with f4 f5
        subst f4; subst f5
        obtain ⟨a', f4, rfl⟩ := nat1 e3
        injection f4 with f4 f5
        subst f4; subst f5
        obtain ⟨e5, _⟩ := Prod.mk.inj e4
        obtain ⟨rfl, e6⟩ := Prod.mk.inj e5
        obtain ⟨rfl, rfl⟩ := Prod.mk.inj e6
        rw [exx]
        exact ⟨l, rfl, rfl, trivial⟩
    | 6, l, zero, _, _ =>
      obtain ⟨h1, rfl, rfl⟩ := zero 3 rfl
      rcases l with _ | ⟨k, _ | ⟨n, _ | ⟨m, l⟩⟩⟩
      · exact absurd h1 (by decide)
      · exact absurd h1 (show ¬ 3 ≤ 1 by decide)
      · exact absurd h1 (show ¬ 3 ≤ 2 by decide)
      · skip
        have hx : (all_ (three (L [k, n, m]))).map (fun x => Sw64.Call.longest x.1 x.2.1 x.2.2) = some x := hx
        rw [Option.map_eq_some_iff] at hx
        obtain ⟨⟨k', n', m'⟩, hx, exx⟩ := hx
        have exx : x = Sw64.Call.longest k' n' m' := exx.symm
        have hx := all_some hx
        unfold three at hx
        rw [Option.bind_eq_some_iff] at hx
        obtain ⟨⟨k2, r⟩, e1, hx⟩ := hx
        rw [Option.bind_eq_some_iff] at hx
        obtain ⟨⟨m2, r2⟩, e2, hx⟩ := hx
        rw [Option.map_eq_some_iff] at hx
        obtain ⟨⟨s, r3⟩, e3, e4⟩ := hx
        obtain ⟨a', f4, rfl⟩ := nat1 e1
        injection f4 with f4 f5
        subst f4; subst f5
        obtain ⟨a', f4, rfl⟩ := nat1 e2
        injection f4 with f4 f5
        subst f4; subst f5
        obtain ⟨a', f4, rfl⟩ := nat1 e3
        injection f4 with f4 f5
        subst f4; subst f5
        obtain ⟨e5, _⟩ := Prod.mk.inj e4
        obtain ⟨rfl, e6⟩ := Prod.mk.inj e5
        obtain ⟨rfl, rfl⟩ := Prod.mk.inj e6
        rw [exx]
        exact ⟨l, rfl, rfl, trivial⟩
    | 7, l, _, one, _ =>
      obtain ⟨h1, a, b, h2, rfl, rfl⟩ := one 1 rfl
      cases l with
      | nil => exact absurd h1 (by decide)
      | cons k l =>
        have h2 : l = a.length :: a ++ b := h2
        subst h2
        have hx : callOf (7 :: (k : Int) :: (((L a).length : Nat) : Int) :: L a) = some x := hx
        rw [L_length] at hx
        have hx : all_ ((natIn (L (k :: a.length :: a))).bind fun k => (listIn ((400 : Nat) : Int) natIn k.2).map fun x => ((Sw64.Call.sorted k.1 x.1 : Sw64.Call), x.2)) = some x := hx
        have hx := all_some hx
        rw [Option.bind_eq_some_iff] at hx
        obtain ⟨⟨k', r⟩, e1, hx⟩ := hx
        rw [Option.map_eq_some_iff] at hx
        obtain ⟨⟨s, r3⟩, e3, e4⟩ := hx
        obtain ⟨a', f4, rfl⟩ := nat1 e1
        injection f4 with f4 f5
        subst f4; subst f5
        obtain ⟨rr, e6, e7, e8, _⟩ := list_inv (most := 400) nat_inv _ s r3 e3
        obtain ⟨rfl, rfl⟩ := by simpa using e4
        have := L_nil_of e7
        subst this
        rw [List.append_nil] at e6
        injection e6 with e6 e9
        have ef : s.flatMap (fun n => [n]) = s := by
          rw [List.flatMap_singleton', ] <;> rfl
        rw [ef] at e9
        subst e9
        exact ⟨b, by simp [encC], rfl, e8⟩
    | n + 8, l, _, _, h =>
      have e : PySw64.shape ((n + 8 : Nat) : Int) = none := by
        unfold PySw64.shape
        rw [if_neg (by omega), if_neg (by omega), if_neg (by omega), if_neg (by omega), if_neg (by omega), if_neg (by omega), if_neg (by omega), if_neg (by omega)]
      rw [e] at h
      cases h
/-- a line's calls -/
theorem calls_of : ∀ (f : Nat) (l : List Nat) (raw : List (List (List Int))), PyFlat.calls PySw64.shape f (L l) = some raw → ((raw.map PySw64.whole).map fun c => c.headD []).all Sw64Neutral.asked1 = true →
    ∃ cs : List Sw64.Call, l = cs.flatMap encC ∧ (∀ c ∈ cs, CallIn c) ∧ (raw.map PySw64.whole).map (fun c => callOf (c.headD [])) = cs.map some
  | f, [], raw, h, _ => by
    have h : some [] = some raw := by
      have : PyFlat.calls PySw64.shape f [] = some raw := h
      cases f <;> exact this
    cases h
    exact ⟨[], rfl, fun _ h => (by cases h), rfl⟩
  | 0, _ :: _, raw, h, _ => by cases h
  | f + 1, p :: l, raw, h, ha => by
    have h : (match PyFlat.call PySw64.shape (L (p :: l)) with
      | none => none
      | some (c, t) => match PyFlat.calls PySw64.shape f t with
        | none => none
        | some cs => some (c :: cs)) = some raw := h
    split at h
    · cases h
    · rename_i c t e
      split at h
      · cases h
      · rename_i cs e2
        cases h
        rw [List.map_cons, List.map_cons, List.all_cons, Bool.and_eq_true] at ha
        obtain ⟨h1, h2⟩ := ha
        obtain ⟨x, hx⟩ := Option.isSome_iff_exists.mp h1
        obtain ⟨b, e3, rfl, e4⟩ := call_of e hx
        obtain ⟨xs, q1, q2, q3⟩ := calls_of f b cs e2 h2
        refine ⟨x :: xs, by rw [e3, q1, List.flatMap_cons], fun y hy => ?_, ?_⟩
        · rcases List.mem_cons.mp hy with rfl | hy
          · exact e4
          · exact q2 y hy
        · rw [List.map_cons, List.map_cons, List.map_cons, q3, hx]
theorem played_of : ∀ (raw : List (List (List Int))) (cs : List Sw64.Call) (s : Sw64.St), raw.map (fun c => callOf (c.headD [])) = cs.map some → PyFlat.played (fun s c => Sw64Neutral.step s (c.headD [])) s raw = play s cs ∧ Sw64Neutral.many s (raw.map fun c => c.headD []) = ((play s cs).map List.length).sum
  | [], [], _, _ => ⟨rfl, rfl⟩
  | [], _ :: _, _, h => by cases h
  | _ :: _, [], _, h => by cases h
  | c :: raw, x :: cs, s, h => by
    rw [List.map_cons, List.map_cons] at h
    injection h with h1 h2
    have e : Sw64Neutral.step s (c.headD []) = ((Sw64.step s x).1, Sw64Neutral.out (Sw64.step s x).2) := by
      unfold Sw64Neutral.step
      rw [h1]
    obtain ⟨i1, i2⟩ := played_of raw cs (Sw64.step s x).1 h2
    constructor
    · show (Sw64Neutral.step s (c.headD [])).2 :: PyFlat.played _ (Sw64Neutral.step s (c.headD [])).1 raw = _
      rw [e, i1] <;> rfl
    · show (Sw64Neutral.step s (c.headD [])).2.length + Sw64Neutral.many (Sw64Neutral.step s (c.headD [])).1 (raw.map fun c => c.headD []) = _
      rw [e, i2] <;> rfl
theorem le_sum : ∀ {l : List (List Int)} {y : List Int}, y ∈ l → y.length ≤ (l.map List.length).sum
  | [], _, h => by cases h
  | a :: l, y, h => by
    rw [List.map_cons, List.sum_cons]
    rcases List.mem_cons.mp h with rfl | h
    · omega
    · have := le_sum h; omega
/-- what is handed in, and what is due -/
theorem line_of {l : List Int} (h : ∀ x ∈ l, 0 ≤ x) (ha : PySw64.answers_asked l = true) : ∃ cs : List Sw64.Call, l.map V.int = nums (cs.flatMap encC) ∧ (∀ c ∈ cs, CallIn c) ∧ (∀ y ∈ play Sw64.init cs, y.length ≤ 1000000) ∧ (PyFlat.told (play Sw64.init cs)).length ≤ 10000000 ∧ PySw64.answers l = PyFlat.told (play Sw64.init cs) := by
  cases e : PyFlat.calls PySw64.shape l.length l with
  | none =>
    unfold PySw64.answers_asked at ha
    rw [e] at ha
    have ha : false = true := ha
    cases ha
  | some raw =>
    unfold PySw64.answers_asked at ha
    rw [e] at ha
    simp only [Bool.and_eq_true] at ha
    obtain ⟨⟨_, h4⟩, h5⟩ := ha
    unfold Sw64Neutral.asked at h4
    simp only [Bool.and_eq_true, decide_eq_true_eq] at h4
    obtain ⟨h6, _, _, h7⟩ := h4
    rw [← L_of h] at e
    obtain ⟨cs, q1, q2, q3⟩ := calls_of _ _ raw e h6
    rw [List.map_map] at q3
    have q3' : (raw.map PySw64.whole).map (fun c => callOf (c.headD [])) = cs.map some := by rw [List.map_map]; exact q3
    obtain ⟨p1, p2⟩ := played_of _ cs Sw64.init q3'
    have ea : PySw64.answers l = PyFlat.told (play Sw64.init cs) := by
      unfold PySw64.answers PySw64.calls
      rw [L_of h] at e
      rw [e]
      show PyFlat.told (PyFlat.played _ Sw64Neutral.start (raw.map PySw64.whole)) = _
      rw [show Sw64Neutral.start = Sw64.init from rfl, p1]
    refine ⟨cs, ?_, q2, fun y hy => ?_, ?_, ea⟩
    · have : l = L (cs.flatMap encC) := by rw [← q1, L_of h]
      rw [this, nums_ints] <;> rfl
    · have := le_sum hy
      have h7 : Sw64Neutral.many Sw64.init ((raw.map PySw64.whole).map fun c => c.headD []) ≤ 1000000 := h7
      omega
    · rw [← ea]
      unfold PyFlat.short at h5
      exact of_decide_eq_true h5
end Sn
/-! the top's facts, put together; the last theorem -/
namespace Sn
open PySem PySem.Spec PyProof.Rows L2
theorem exm_of {K : PySem.W.Frag} {S D : Addr} {b : Bool} (h1 : PySem.W.subIn K (.ref D) (.type "BaseException") = some true) (h2 : PySem.W.isClsIn K D = true) (h3 : PySem.W.typeIn K (.ref D) = some (.type "type")) (h4 : PySem.W.subIn K (.ref S) (.ref D) = some b) :
    PySem.W.exmOne K (.ref S) (.ref D) = some b := by
  have e1 : (PySem.W.subIn K (.ref D) (.type "BaseException") == some true) = true := by rw [h1] <;> rfl
  have e2 : ((PySem.W.clsIn K D).isSome && PySem.W.typeIn K (.ref D) == some (.type "type")) = true := by
    have h2' : (PySem.W.clsIn K D).isSome = true := h2
    rw [h2', h3] <;> rfl
  show (if (PySem.W.subIn K (.ref D) (.type "BaseException") == some true) = true then (if ((PySem.W.clsIn K D).isSome && PySem.W.typeIn K (.ref D) == some (.type "type")) = true then PySem.W.subIn K (.ref S) (.ref D) else none) else none) = some b
  rw [if_pos e1, if_pos e2]
  exact h4
structure FnAt (K : PySem.W.Frag) (mg : Str → Option Value) (x qual : Str) (st : Stmt) (f : Addr) (fd : FuncData) : Prop where
  F : Fun K x qual st f fd
  g : mg x = some (.ref f)
structure MtAt (K : PySem.W.Frag) (C : Addr) (m qual : Str) (st : Stmt) (f : Addr) (fd : FuncData) : Prop where
  F : Fun K m qual st f fd
  M : Meth K C m f
structure ClAt (K : PySem.W.Frag) (mg : Str → Option Value) (x : Str) (C f : Addr) : Prop where
  c : Cls K C
  g : mg x = some (.ref C)
  m : Mk K C f
structure ExAt (K : PySem.W.Frag) (mg : Str → Option Value) (x : Str) (C : Addr) : Prop where
  g : mg x = some (.ref C)
  x : PySem.W.excIn K C [.type "Exception", .type "BaseException", .type "object"] "Exception.__new__" = true
  kp : PySem.W.keepIn K (.ref C) = true
  b : PySem.W.subIn K (.ref C) (.type "BaseException") = some true
  t : PySem.W.typeIn K (.ref C) = some (.type "type")
  i : PySem.W.isClsIn K C = true
section
variable {K : PySem.W.Frag} {h : Heap} {mg : Str → Option Value}
theorem fnAt {x qual : Str} {st : Stmt} {f : Addr} {oc : Value} {od an : Option Addr} {osl : Array (Option Value)} {kV doc pm cdv ct : Value} (X : K.In h) (G : h.Ns mainGlobals mg) (a : PySem.W.nsIn K mainGlobals x = some (some (.ref f)))
    (l : K.lookup f = some ⟨oc, od, .func (PySem.W.fnOf x qual (defArgs st) (defBody st) (defScope st) .none kV doc pm an cdv ct), osl⟩) (c : PySem.W.codeIn K cdv qual = true) (k : PySem.W.keepIn K (.ref f) = true) :
    FnAt K mg x qual st f (PySem.W.fnOf x qual (defArgs st) (defBody st) (defScope st) .none kV doc pm an cdv ct) := ⟨fun_mk l c k, PySem.W.mg_of X G a⟩
theorem mtAt {x qual : Str} {st : Stmt} {C f : Addr} {oc : Value} {od an : Option Addr} {osl : Array (Option Value)} {kV doc pm cdv ct : Value} (a : PySem.W.findIn K (.ref C) x = some (some (.ref f))) (i : PySem.W.isFn K (.ref f) = true)
    (l : K.lookup f = some ⟨oc, od, .func (PySem.W.fnOf x qual (defArgs st) (defBody st) (defScope st) .none kV doc pm an cdv ct), osl⟩) (c : PySem.W.codeIn K cdv qual = true) (k : PySem.W.keepIn K (.ref f) = true) :
    MtAt K C x qual st f (PySem.W.fnOf x qual (defArgs st) (defBody st) (defScope st) .none kV doc pm an cdv ct) := ⟨fun_mk l c k, a, i, k⟩
theorem clAt {x : Str} {C f : Addr} (X : K.In h) (G : h.Ns mainGlobals mg) (a : PySem.W.nsIn K mainGlobals x = some (some (.ref C))) (pg : PySem.W.plainGet K C Str.empty = true) (hd : PySem.W.hasDictIn K C = true) (po : PySem.W.plainOver K C = true) (sa : PySem.W.findIn K (.ref C) "__setattr__" = some (some (.builtin "object.__setattr__")))
    (mk : PySem.W.makesIn K C = true) (ini : PySem.W.findIn K (.ref C) "__init__" = some (some (.ref f))) (fn : PySem.W.isFn K (.ref f) = true) (kp : PySem.W.keepIn K (.ref C) = true) : ClAt K mg x C f := ⟨⟨pg, hd, po, sa⟩, PySem.W.mg_of X G a, ⟨mk, ini, fn, kp⟩⟩
theorem cnst {x : Str} {n : Int} {t : Tok} (X : K.In h) (G : h.Ns mainGlobals mg) (a : PySem.W.nsIn K mainGlobals x = some (some (.int n t))) : ∃ t, mg x = some (.int n t) := ⟨t, PySem.W.mg_of X G a⟩
end
theorem top_all {K : PySem.W.Frag} {mg : Str → Option Value} {C_Row C_Piece C_Shape C_Rule C_Stretch C_Way C_Stretches C_Reading C_NotAsTold C_NotSaid f_Row_init f_Row_has_more f_Row_one f_Row_told f_Piece_init f_Shape_init f_Shape_fits f_Shape_add_piece f_Rule_init f_stands_for f_q_runs f_r_runs f_shapes_of f_rules_up_to f_may_be_piece f_may_say_base f_may_say_parts f_may_be_rule f_told_piece f_told_rule f_told_rules f_rule_for f_shape_for f_say_onto f_text_of f_text_or_none f_those_not_said f_first_alike f_longest_said f_by_their_texts f_Stretch_init f_Way_init f_Way_add_slot f_boxes_of f_common_run f_Stretches_init f_Stretches_stretch f_Stretches_ways_in f_Stretches_rule_ways f_Stretches_part_ways f_Stretches_shape_way f_places_of f_has_place f_Reading_init f_Reading_mask_of f_Reading_ways_of f_Reading_ends_of f_Reading_ends_from f_Reading_way_ends f_Reading_can_be f_Reading_numbers_of f_Reading_way_numbers f_Reading_pair_numbers f_numbers_that_say f_begins f_rules f_say f_read f_gaps f_alike f_longest f_in_order f_listed f_told_run f_check_set f_check_number f_answer f_answers CA : Addr} {d_Row_init d_Row_has_more d_Row_one d_Row_told d_Piece_init d_Shape_init d_Shape_fits d_Shape_add_piece d_Rule_init d_stands_for d_q_runs d_r_runs d_shapes_of d_rules_up_to d_may_be_piece d_may_say_base d_may_say_parts d_may_be_rule d_told_piece d_told_rule d_told_rules d_rule_for d_shape_for d_say_onto d_text_of d_text_or_none d_those_not_said d_first_alike d_longest_said d_by_their_texts d_Stretch_init d_Way_init d_Way_add_slot d_boxes_of d_common_run d_Stretches_init d_Stretches_stretch d_Stretches_ways_in d_Stretches_rule_ways d_Stretches_part_ways d_Stretches_shape_way d_places_of d_has_place d_Reading_init d_Reading_mask_of d_Reading_ways_of d_Reading_ends_of d_Reading_ends_from d_Reading_way_ends d_Reading_can_be d_Reading_numbers_of d_Reading_way_numbers d_Reading_pair_numbers d_numbers_that_say d_begins d_rules d_say d_read d_gaps d_alike d_longest d_in_order d_listed d_told_run d_check_set d_check_number d_answer d_answers : FuncData}
    (cl_Row : ClAt K mg "Row" C_Row f_Row_init)
    (na_Row_numbers : PySem.W.findIn K (.ref C_Row) "numbers" = some none)
    (na_Row_place : PySem.W.findIn K (.ref C_Row) "place" = some none)
    (cl_Piece : ClAt K mg "Piece" C_Piece f_Piece_init)
    (na_Piece_stands : PySem.W.findIn K (.ref C_Piece) "stands" = some none)
    (na_Piece_kind : PySem.W.findIn K (.ref C_Piece) "kind" = some none)
    (na_Piece_letters : PySem.W.findIn K (.ref C_Piece) "letters" = some none)
    (na_Piece_by : PySem.W.findIn K (.ref C_Piece) "by" = some none)
    (cl_Shape : ClAt K mg "Shape" C_Shape f_Shape_init)
    (na_Shape_q_run : PySem.W.findIn K (.ref C_Shape) "q_run" = some none)
    (na_Shape_r_run : PySem.W.findIn K (.ref C_Shape) "r_run" = some none)
    (na_Shape_letters : PySem.W.findIn K (.ref C_Shape) "letters" = some none)
    (na_Shape_slots : PySem.W.findIn K (.ref C_Shape) "slots" = some none)
    (cl_Rule : ClAt K mg "Rule" C_Rule f_Rule_init)
    (na_Rule_base : PySem.W.findIn K (.ref C_Rule) "base" = some none)
    (na_Rule_last : PySem.W.findIn K (.ref C_Rule) "last" = some none)
    (na_Rule_divisor : PySem.W.findIn K (.ref C_Rule) "divisor" = some none)
    (na_Rule_shapes : PySem.W.findIn K (.ref C_Rule) "shapes" = some none)
    (cl_Stretch : ClAt K mg "Stretch" C_Stretch f_Stretch_init)
    (na_Stretch_by : PySem.W.findIn K (.ref C_Stretch) "by" = some none)
    (na_Stretch_low : PySem.W.findIn K (.ref C_Stretch) "low" = some none)
    (na_Stretch_high : PySem.W.findIn K (.ref C_Stretch) "high" = some none)
    (na_Stretch_ways : PySem.W.findIn K (.ref C_Stretch) "ways" = some none)
    (na_Stretch_known_ends : PySem.W.findIn K (.ref C_Stretch) "known_ends" = some none)
    (na_Stretch_known_numbers : PySem.W.findIn K (.ref C_Stretch) "known_numbers" = some none)
    (cl_Way : ClAt K mg "Way" C_Way f_Way_init)
    (na_Way_fixed : PySem.W.findIn K (.ref C_Way) "fixed" = some none)
    (na_Way_letters : PySem.W.findIn K (.ref C_Way) "letters" = some none)
    (na_Way_weights : PySem.W.findIn K (.ref C_Way) "weights" = some none)
    (na_Way_stretches : PySem.W.findIn K (.ref C_Way) "stretches" = some none)
    (na_Way_masks : PySem.W.findIn K (.ref C_Way) "masks" = some none)
    (na_Way_known_ends : PySem.W.findIn K (.ref C_Way) "known_ends" = some none)
    (cl_Stretches : ClAt K mg "Stretches" C_Stretches f_Stretches_init)
    (na_Stretches_sets : PySem.W.findIn K (.ref C_Stretches) "sets" = some none)
    (na_Stretches_made_stretches : PySem.W.findIn K (.ref C_Stretches) "made_stretches" = some none)
    (na_Stretches_made_ways : PySem.W.findIn K (.ref C_Stretches) "made_ways" = some none)
    (cl_Reading : ClAt K mg "Reading" C_Reading f_Reading_init)
    (na_Reading_made : PySem.W.findIn K (.ref C_Reading) "made" = some none)
    (na_Reading_size : PySem.W.findIn K (.ref C_Reading) "size" = some none)
    (na_Reading_byte_masks : PySem.W.findIn K (.ref C_Reading) "byte_masks" = some none)
    (ex_NotAsTold : ExAt K mg "NotAsTold" C_NotAsTold)
    (ex_NotSaid : ExAt K mg "NotSaid" C_NotSaid)
    (su_NotAsTold_NotAsTold : PySem.W.subIn K (.ref C_NotAsTold) (.ref C_NotAsTold) = some true)
    (su_NotAsTold_NotSaid : PySem.W.subIn K (.ref C_NotAsTold) (.ref C_NotSaid) = some false)
    (su_NotSaid_NotAsTold : PySem.W.subIn K (.ref C_NotSaid) (.ref C_NotAsTold) = some false)
    (su_NotSaid_NotSaid : PySem.W.subIn K (.ref C_NotSaid) (.ref C_NotSaid) = some true)
    (fn_stands_for : FnAt K mg "stands_for" "stands_for" s_stands_for f_stands_for d_stands_for)
    (fn_q_runs : FnAt K mg "q_runs" "q_runs" s_q_runs f_q_runs d_q_runs)
    (fn_r_runs : FnAt K mg "r_runs" "r_runs" s_r_runs f_r_runs d_r_runs)
    (fn_shapes_of : FnAt K mg "shapes_of" "shapes_of" s_shapes_of f_shapes_of d_shapes_of)
    (fn_rules_up_to : FnAt K mg "rules_up_to" "rules_up_to" s_rules_up_to f_rules_up_to d_rules_up_to)
    (fn_may_be_piece : FnAt K mg "may_be_piece" "may_be_piece" s_may_be_piece f_may_be_piece d_may_be_piece)
    (fn_may_say_base : FnAt K mg "may_say_base" "may_say_base" s_may_say_base f_may_say_base d_may_say_base)
    (fn_may_say_parts : FnAt K mg "may_say_parts" "may_say_parts" s_may_say_parts f_may_say_parts d_may_say_parts)
    (fn_may_be_rule : FnAt K mg "may_be_rule" "may_be_rule" s_may_be_rule f_may_be_rule d_may_be_rule)
    (fn_told_piece : FnAt K mg "told_piece" "told_piece" s_told_piece f_told_piece d_told_piece)
    (fn_told_rule : FnAt K mg "told_rule" "told_rule" s_told_rule f_told_rule d_told_rule)
    (fn_told_rules : FnAt K mg "told_rules" "told_rules" s_told_rules f_told_rules d_told_rules)
    (fn_rule_for : FnAt K mg "rule_for" "rule_for" s_rule_for f_rule_for d_rule_for)
    (fn_shape_for : FnAt K mg "shape_for" "shape_for" s_shape_for f_shape_for d_shape_for)
    (fn_say_onto : FnAt K mg "say_onto" "say_onto" s_say_onto f_say_onto d_say_onto)
    (fn_text_of : FnAt K mg "text_of" "text_of" s_text_of f_text_of d_text_of)
    (fn_text_or_none : FnAt K mg "text_or_none" "text_or_none" s_text_or_none f_text_or_none d_text_or_none)
    (fn_those_not_said : FnAt K mg "those_not_said" "those_not_said" s_those_not_said f_those_not_said d_those_not_said)
    (fn_first_alike : FnAt K mg "first_alike" "first_alike" s_first_alike f_first_alike d_first_alike)
    (fn_longest_said : FnAt K mg "longest_said" "longest_said" s_longest_said f_longest_said d_longest_said)
    (fn_by_their_texts : FnAt K mg "by_their_texts" "by_their_texts" s_by_their_texts f_by_their_texts d_by_their_texts)
    (fn_boxes_of : FnAt K mg "boxes_of" "boxes_of" s_boxes_of f_boxes_of d_boxes_of)
    (fn_common_run : FnAt K mg "common_run" "common_run" s_common_run f_common_run d_common_run)
    (fn_places_of : FnAt K mg "places_of" "places_of" s_places_of f_places_of d_places_of)
    (fn_has_place : FnAt K mg "has_place" "has_place" s_has_place f_has_place d_has_place)
    (fn_numbers_that_say : FnAt K mg "numbers_that_say" "numbers_that_say" s_numbers_that_say f_numbers_that_say d_numbers_that_say)
    (fn_begins : FnAt K mg "begins" "begins" s_begins f_begins d_begins)
    (fn_rules : FnAt K mg "rules" "rules" s_rules f_rules d_rules)
    (fn_say : FnAt K mg "say" "say" s_say f_say d_say)
    (fn_read : FnAt K mg "read" "read" s_read f_read d_read)
    (fn_gaps : FnAt K mg "gaps" "gaps" s_gaps f_gaps d_gaps)
    (fn_alike : FnAt K mg "alike" "alike" s_alike f_alike d_alike)
    (fn_longest : FnAt K mg "longest" "longest" s_longest f_longest d_longest)
    (fn_in_order : FnAt K mg "in_order" "in_order" s_in_order f_in_order d_in_order)
    (fn_listed : FnAt K mg "listed" "listed" s_listed f_listed d_listed)
    (fn_told_run : FnAt K mg "told_run" "told_run" s_told_run f_told_run d_told_run)
    (fn_check_set : FnAt K mg "check_set" "check_set" s_check_set f_check_set d_check_set)
    (fn_check_number : FnAt K mg "check_number" "check_number" s_check_number f_check_number d_check_number)
    (fn_answer : FnAt K mg "answer" "answer" s_answer f_answer d_answer)
    (fn_answers : FnAt K mg "answers" "answers" s_answers f_answers d_answers)
    (mt_Row_init : MtAt K C_Row "__init__" "Row.__init__" s_Row_init f_Row_init d_Row_init)
    (mt_Row_has_more : MtAt K C_Row "has_more" "Row.has_more" s_Row_has_more f_Row_has_more d_Row_has_more)
    (mt_Row_one : MtAt K C_Row "one" "Row.one" s_Row_one f_Row_one d_Row_one)
    (mt_Row_told : MtAt K C_Row "told" "Row.told" s_Row_told f_Row_told d_Row_told)
    (mt_Piece_init : MtAt K C_Piece "__init__" "Piece.__init__" s_Piece_init f_Piece_init d_Piece_init)
    (mt_Shape_init : MtAt K C_Shape "__init__" "Shape.__init__" s_Shape_init f_Shape_init d_Shape_init)
    (mt_Shape_fits : MtAt K C_Shape "fits" "Shape.fits" s_Shape_fits f_Shape_fits d_Shape_fits)
    (mt_Shape_add_piece : MtAt K C_Shape "add_piece" "Shape.add_piece" s_Shape_add_piece f_Shape_add_piece d_Shape_add_piece)
    (mt_Rule_init : MtAt K C_Rule "__init__" "Rule.__init__" s_Rule_init f_Rule_init d_Rule_init)
    (mt_Stretch_init : MtAt K C_Stretch "__init__" "Stretch.__init__" s_Stretch_init f_Stretch_init d_Stretch_init)
    (mt_Way_init : MtAt K C_Way "__init__" "Way.__init__" s_Way_init f_Way_init d_Way_init)
    (mt_Way_add_slot : MtAt K C_Way "add_slot" "Way.add_slot" s_Way_add_slot f_Way_add_slot d_Way_add_slot)
    (mt_Stretches_init : MtAt K C_Stretches "__init__" "Stretches.__init__" s_Stretches_init f_Stretches_init d_Stretches_init)
    (mt_Stretches_stretch : MtAt K C_Stretches "stretch" "Stretches.stretch" s_Stretches_stretch f_Stretches_stretch d_Stretches_stretch)
    (mt_Stretches_ways_in : MtAt K C_Stretches "ways_in" "Stretches.ways_in" s_Stretches_ways_in f_Stretches_ways_in d_Stretches_ways_in)
    (mt_Stretches_rule_ways : MtAt K C_Stretches "rule_ways" "Stretches.rule_ways" s_Stretches_rule_ways f_Stretches_rule_ways d_Stretches_rule_ways)
    (mt_Stretches_part_ways : MtAt K C_Stretches "part_ways" "Stretches.part_ways" s_Stretches_part_ways f_Stretches_part_ways d_Stretches_part_ways)
    (mt_Stretches_shape_way : MtAt K C_Stretches "shape_way" "Stretches.shape_way" s_Stretches_shape_way f_Stretches_shape_way d_Stretches_shape_way)
    (mt_Reading_init : MtAt K C_Reading "__init__" "Reading.__init__" s_Reading_init f_Reading_init d_Reading_init)
    (mt_Reading_mask_of : MtAt K C_Reading "mask_of" "Reading.mask_of" s_Reading_mask_of f_Reading_mask_of d_Reading_mask_of)
    (mt_Reading_ways_of : MtAt K C_Reading "ways_of" "Reading.ways_of" s_Reading_ways_of f_Reading_ways_of d_Reading_ways_of)
    (mt_Reading_ends_of : MtAt K C_Reading "ends_of" "Reading.ends_of" s_Reading_ends_of f_Reading_ends_of d_Reading_ends_of)
    (mt_Reading_ends_from : MtAt K C_Reading "ends_from" "Reading.ends_from" s_Reading_ends_from f_Reading_ends_from d_Reading_ends_from)
    (mt_Reading_way_ends : MtAt K C_Reading "way_ends" "Reading.way_ends" s_Reading_way_ends f_Reading_way_ends d_Reading_way_ends)
    (mt_Reading_can_be : MtAt K C_Reading "can_be" "Reading.can_be" s_Reading_can_be f_Reading_can_be d_Reading_can_be)
    (mt_Reading_numbers_of : MtAt K C_Reading "numbers_of" "Reading.numbers_of" s_Reading_numbers_of f_Reading_numbers_of d_Reading_numbers_of)
    (mt_Reading_way_numbers : MtAt K C_Reading "way_numbers" "Reading.way_numbers" s_Reading_way_numbers f_Reading_way_numbers d_Reading_way_numbers)
    (mt_Reading_pair_numbers : MtAt K C_Reading "pair_numbers" "Reading.pair_numbers" s_Reading_pair_numbers f_Reading_pair_numbers d_Reading_pair_numbers)
    (co_HIGHEST : ∃ t, mg "HIGHEST" = some (.int 1000000000000000 t))
    (co_HOW_MANY_SETS : ∃ t, mg "HOW_MANY_SETS" = some (.int 8 t))
    (co_MOST_RULES : ∃ t, mg "MOST_RULES" = some (.int 60 t))
    (co_MOST_PIECES : ∃ t, mg "MOST_PIECES" = some (.int 8 t))
    (co_MOST_BYTES : ∃ t, mg "MOST_BYTES" = some (.int 40 t))
    (co_ALWAYS : ∃ t, mg "ALWAYS" = some (.int 0 t))
    (co_IF_R : ∃ t, mg "IF_R" = some (.int 1 t))
    (co_IF_NO_R : ∃ t, mg "IF_NO_R" = some (.int 2 t))
    (co_IF_NOT_ONE : ∃ t, mg "IF_NOT_ONE" = some (.int 3 t))
    (co_IF_ONE : ∃ t, mg "IF_ONE" = some (.int 4 t))
    (co_LETTERS : ∃ t, mg "LETTERS" = some (.int 0 t))
    (co_Q : ∃ t, mg "Q" = some (.int 1 t))
    (co_R : ∃ t, mg "R" = some (.int 2 t))
    (co_MOST_TEXT : ∃ t, mg "MOST_TEXT" = some (.int 300 t))
    (co_MOST_APART : ∃ t, mg "MOST_APART" = some (.int 2999 t))
    (co_MOST_SORTED : ∃ t, mg "MOST_SORTED" = some (.int 200 t))
    (no_len : mg "len" = none)
    (no_any : mg "any" = none)
    (no_all : mg "all" = none)
    (no_max : mg "max" = none)
    (no_min : mg "min" = none)
    (no_sorted : mg "sorted" = none)
    (no_tuple : mg "tuple" = none)
    (no_list : mg "list" = none)
    (no_range : mg "range" = none)
    (no_enumerate : mg "enumerate" = none)
    (gCA : mg "CALLS" = some (.ref CA)) (qCA : ∀ H : Hp, SqT K H CA [.ref f_begins, .ref f_rules, .ref f_say, .ref f_read, .ref f_gaps, .ref f_alike, .ref f_longest, .ref f_in_order]) :
    Top K mg ⟨C_Row, C_Piece, C_Shape, C_Rule, C_Stretch, C_Way, C_Stretches, C_Reading, C_NotAsTold, C_NotSaid, f_Row_init, d_Row_init, f_Row_has_more, d_Row_has_more, f_Row_one, d_Row_one, f_Row_told, d_Row_told, f_Piece_init, d_Piece_init, f_Shape_init, d_Shape_init, f_Shape_fits, d_Shape_fits, f_Shape_add_piece, d_Shape_add_piece, f_Rule_init, d_Rule_init, f_stands_for, d_stands_for, f_q_runs, d_q_runs, f_r_runs, d_r_runs, f_shapes_of, d_shapes_of, f_rules_up_to, d_rules_up_to, f_may_be_piece, d_may_be_piece, f_may_say_base, d_may_say_base, f_may_say_parts, d_may_say_parts, f_may_be_rule, d_may_be_rule, f_told_piece, d_told_piece, f_told_rule, d_told_rule, f_told_rules, d_told_rules, f_rule_for, d_rule_for, f_shape_for, d_shape_for, f_say_onto, d_say_onto, f_text_of, d_text_of, f_text_or_none, d_text_or_none, f_those_not_said, d_those_not_said, f_first_alike, d_first_alike, f_longest_said, d_longest_said, f_by_their_texts, d_by_their_texts, f_Stretch_init, d_Stretch_init, f_Way_init, d_Way_init, f_Way_add_slot, d_Way_add_slot, f_boxes_of, d_boxes_of, f_common_run, d_common_run, f_Stretches_init, d_Stretches_init, f_Stretches_stretch, d_Stretches_stretch, f_Stretches_ways_in, d_Stretches_ways_in, f_Stretches_rule_ways, d_Stretches_rule_ways, f_Stretches_part_ways, d_Stretches_part_ways, f_Stretches_shape_way, d_Stretches_shape_way, f_places_of, d_places_of, f_has_place, d_has_place, f_Reading_init, d_Reading_init, f_Reading_mask_of, d_Reading_mask_of, f_Reading_ways_of, d_Reading_ways_of, f_Reading_ends_of, d_Reading_ends_of, f_Reading_ends_from, d_Reading_ends_from, f_Reading_way_ends, d_Reading_way_ends, f_Reading_can_be, d_Reading_can_be, f_Reading_numbers_of, d_Reading_numbers_of, f_Reading_way_numbers, d_Reading_way_numbers, f_Reading_pair_numbers, d_Reading_pair_numbers, f_numbers_that_say, d_numbers_that_say, f_begins, d_begins, f_rules, d_rules, f_say, d_say, f_read, d_read, f_gaps, d_gaps, f_alike, d_alike, f_longest, d_longest, f_in_order, d_in_order, f_listed, d_listed, f_told_run, d_told_run, f_check_set, d_check_set, f_check_number, d_check_number, f_answer, d_answer, f_answers, d_answers, CA⟩ :=
  ⟨cl_Row.c, cl_Row.g, cl_Row.m, na_Row_numbers, na_Row_place, cl_Piece.c, cl_Piece.g, cl_Piece.m, na_Piece_stands, na_Piece_kind, na_Piece_letters, na_Piece_by, cl_Shape.c, cl_Shape.g, cl_Shape.m, na_Shape_q_run, na_Shape_r_run, na_Shape_letters, na_Shape_slots, cl_Rule.c, cl_Rule.g, cl_Rule.m, na_Rule_base, na_Rule_last, na_Rule_divisor, na_Rule_shapes, cl_Stretch.c, cl_Stretch.g, cl_Stretch.m, na_Stretch_by, na_Stretch_low, na_Stretch_high, na_Stretch_ways, na_Stretch_known_ends, na_Stretch_known_numbers, cl_Way.c, cl_Way.g, cl_Way.m, na_Way_fixed, na_Way_letters, na_Way_weights, na_Way_stretches, na_Way_masks, na_Way_known_ends, cl_Stretches.c, cl_Stretches.g, cl_Stretches.m, na_Stretches_sets, na_Stretches_made_stretches, na_Stretches_made_ways, cl_Reading.c, cl_Reading.g, cl_Reading.m, na_Reading_made, na_Reading_size, na_Reading_byte_masks, ex_NotAsTold.g, ex_NotAsTold.x, ex_NotAsTold.kp, ex_NotAsTold.b, ex_NotAsTold.t, exm_of ex_NotAsTold.b ex_NotAsTold.i ex_NotAsTold.t su_NotAsTold_NotAsTold, exm_of ex_NotSaid.b ex_NotSaid.i ex_NotSaid.t su_NotAsTold_NotSaid, ex_NotSaid.g, ex_NotSaid.x, ex_NotSaid.kp, ex_NotSaid.b, ex_NotSaid.t, exm_of ex_NotAsTold.b ex_NotAsTold.i ex_NotAsTold.t su_NotSaid_NotAsTold, exm_of ex_NotSaid.b ex_NotSaid.i ex_NotSaid.t su_NotSaid_NotSaid, mt_Row_init.F, mt_Row_has_more.F, mt_Row_has_more.M, mt_Row_one.F, mt_Row_one.M, mt_Row_told.F, mt_Row_told.M, mt_Piece_init.F, mt_Shape_init.F, mt_Shape_fits.F, mt_Shape_fits.M, mt_Shape_add_piece.F, mt_Shape_add_piece.M, mt_Rule_init.F, fn_stands_for.F, fn_stands_for.g, fn_q_runs.F, fn_q_runs.g, fn_r_runs.F, fn_r_runs.g, fn_shapes_of.F, fn_shapes_of.g, fn_rules_up_to.F, fn_rules_up_to.g, fn_may_be_piece.F, fn_may_be_piece.g, fn_may_say_base.F, fn_may_say_base.g, fn_may_say_parts.F, fn_may_say_parts.g, fn_may_be_rule.F, fn_may_be_rule.g, fn_told_piece.F, fn_told_piece.g, fn_told_rule.F, fn_told_rule.g, fn_told_rules.F, fn_told_rules.g, fn_rule_for.F, fn_rule_for.g, fn_shape_for.F, fn_shape_for.g, fn_say_onto.F, fn_say_onto.g, fn_text_of.F, fn_text_of.g, fn_text_or_none.F, fn_text_or_none.g, fn_those_not_said.F, fn_those_not_said.g, fn_first_alike.F, fn_first_alike.g, fn_longest_said.F, fn_longest_said.g, fn_by_their_texts.F, fn_by_their_texts.g, mt_Stretch_init.F, mt_Way_init.F, mt_Way_add_slot.F, mt_Way_add_slot.M, fn_boxes_of.F, fn_boxes_of.g, fn_common_run.F, fn_common_run.g, mt_Stretches_init.F, mt_Stretches_stretch.F, mt_Stretches_stretch.M, mt_Stretches_ways_in.F, mt_Stretches_ways_in.M, mt_Stretches_rule_ways.F, mt_Stretches_rule_ways.M, mt_Stretches_part_ways.F, mt_Stretches_part_ways.M, mt_Stretches_shape_way.F, mt_Stretches_shape_way.M, fn_places_of.F, fn_places_of.g, fn_has_place.F, fn_has_place.g, mt_Reading_init.F, mt_Reading_mask_of.F, mt_Reading_mask_of.M, mt_Reading_ways_of.F, mt_Reading_ways_of.M, mt_Reading_ends_of.F, mt_Reading_ends_of.M, mt_Reading_ends_from.F, mt_Reading_ends_from.M, mt_Reading_way_ends.F, mt_Reading_way_ends.M, mt_Reading_can_be.F, mt_Reading_can_be.M, mt_Reading_numbers_of.F, mt_Reading_numbers_of.M, mt_Reading_way_numbers.F, mt_Reading_way_numbers.M, mt_Reading_pair_numbers.F, mt_Reading_pair_numbers.M, fn_numbers_that_say.F, fn_numbers_that_say.g, fn_begins.F, fn_begins.g, fn_rules.F, fn_rules.g, fn_say.F, fn_say.g, fn_read.F, fn_read.g, fn_gaps.F, fn_gaps.g, fn_alike.F, fn_alike.g, fn_longest.F, fn_longest.g, fn_in_order.F, fn_in_order.g, fn_listed.F, fn_listed.g, fn_told_run.F, fn_told_run.g, fn_check_set.F, fn_check_set.g, fn_check_number.F, fn_check_number.g, fn_answer.F, fn_answer.g, fn_answers.F, fn_answers.g, co_HIGHEST, co_HOW_MANY_SETS, co_MOST_RULES, co_MOST_PIECES, co_MOST_BYTES, co_ALWAYS, co_IF_R, co_IF_NO_R, co_IF_NOT_ONE, co_IF_ONE, co_LETTERS, co_Q, co_R, co_MOST_TEXT, co_MOST_APART, co_MOST_SORTED, no_len, no_any, no_all, no_max, no_min, no_sorted, no_tuple, no_list, no_range, no_enumerate, gCA, qCA⟩
theorem answers_ok {P : Program} {w : World} {K : PySem.W.Frag} {mg : Str → Option Value} {A : Ad} {fa : Addr} (T : Top K mg A) (hfa : mg "answers" = some (.ref fa)) :
    ∃ fd : FuncData, (∀ (s : Shared) (us : List Value), us.length = (["calls"] : List Str).length → BindsTo s fd ⟨us, []⟩ ((["calls"] : List Str).zip us)) ∧ ∀ base : Heap, K.In base → base.Ns mainGlobals mg → FnOk P w K mg base CX0 174 fa fd ["calls"] (spAnswers K) := by
  have e := hfa.symm.trans T.g_answers
  cases e
  refine ⟨A.d_answers, ?_, fun base _ _ => ok_answers T⟩
  obtain ⟨oc, od, kV, doc, pm, an, cdv, ct, osl, e, _⟩ := T.F_answers.ex
  rw [e]
  exact fun s us hu => match us, hu with | [_], _ => .of_eq rfl
theorem exAt {K : PySem.W.Frag} {h : Heap} {mg : Str → Option Value} {x : Str} {C : Addr} (X : K.In h) (G : h.Ns mainGlobals mg) (a : PySem.W.nsIn K mainGlobals x = some (some (.ref C))) (e : PySem.W.excIn K C [.type "Exception", .type "BaseException", .type "object"] "Exception.__new__" = true)
    (kp : PySem.W.keepIn K (.ref C) = true) (b : PySem.W.subIn K (.ref C) (.type "BaseException") = some true) (t : PySem.W.typeIn K (.ref C) = some (.type "type")) (i : PySem.W.isClsIn K C = true) : ExAt K mg x C := ⟨PySem.W.mg_of X G a, e, kp, b, t, i⟩
theorem vals_rf : ∀ l : List Addr, Vals (l.map V.ref) (l.map Value.ref)
  | [] => .nil
  | _ :: l => .cons rfl (vals_rf l)
theorem calls_at {K : PySem.W.Frag} {CA f1 f2 f3 f4 f5 f6 f7 f8 : Addr} {od : Option Addr} {n : Nat} {sl : Array (Option Value)} (l : K.lookup CA = some ⟨.type "tuple", od, .seq #[.ref f1, .ref f2, .ref f3, .ref f4, .ref f5, .ref f6, .ref f7, .ref f8] n, sl⟩) (H : Hp) : SqT K H CA [.ref f1, .ref f2, .ref f3, .ref f4, .ref f5, .ref f6, .ref f7, .ref f8] :=
  .inr ⟨_, _, _, l, rfl, rfl, by show 8 ≤ sizeLine; decide, vals_rf [f1, f2, f3, f4, f5, f6, f7, f8]⟩
theorem wi0 {least most : Nat} {lo hi : Int} (h0 : 0 ≤ lo) {a : PySem.W.Codec.denoteAll [.list least most (.int lo hi)]} (h : PySem.W.Codec.withinAll [.list least most (.int lo hi)] a = true) : ∀ x ∈ a.1, (0 : Int) ≤ x := fun x hx => by
  have h1 := (PySem.W.Codec.and_of (show (PySem.W.Codec.inList least most (PySem.W.Codec.inInt lo hi) a.1 && PySem.W.Codec.withinAll [] a.2) = true from h)).1
  have h2 : a.1.all (PySem.W.Codec.inInt lo hi) = true := (PySem.W.Codec.and_of h1).2
  have h3 := PySem.W.Codec.inInt_iff.mp (List.all_eq_true.mp h2 x hx)
  omega
/-- the request and what is due -/
theorem due {K : PySem.W.Frag} {H : Hp} {p : Addr} {l : List Int} (hs : SqL K H p (l.map V.int)) (h0 : ∀ x ∈ l, 0 ≤ x) (ha : PySw64.answers_asked l = true) {E : XK} : spAnswers K [.ref p] H (fun v H' => Dw K H' v (.list ((PySw64.answers l).map PySem.W.WData.int))) E := by
  obtain ⟨cs, q1, q2, q3, q4, q5⟩ := line_of h0 ha
  rw [q1] at hs
  refine ⟨p, cs, rfl, hs, q2, q3, q4, fun H' q hq => ?_⟩
  rw [q5]
  exact .lst (SqL.of hq) (dw_ints _)
end Sn
open PySem PySem.W PyProof.Rows
set_option maxRecDepth 100000 in
set_option maxHeartbeats 0 in
theorem PySem.Challenge.cw_saidnumbers_s01_answers_holds : PySem.Challenge.rw_saidnumbers_s01_answers.Holds := by
  w_on; k_headS; (case hw => exact ⟨[.list [.int 0]], by decide +kernel, by decide +kernel⟩)
  k_fillS
  refine L2.walk_specK (r := PySem.Challenge.rw_saidnumbers_s01_answers) (k := 174) (CX := L2.CX0) (ps := ["calls"]) (sp := Sn.spAnswers) (by decide +kernel) rfl rfl ⟨rfl, by decide, by decide⟩ (fun w h Y => PySem.W.kIn_of Y) ?F ?S (fun _ _ _ _ z => z)
  case F =>
    intro w mg fa h Y KX G hmg
    refine' Sn.answers_ok (Sn.top_all ?cl_Row ?na_Row_numbers ?na_Row_place ?cl_Piece ?na_Piece_stands ?na_Piece_kind ?na_Piece_letters ?na_Piece_by ?cl_Shape ?na_Shape_q_run ?na_Shape_r_run ?na_Shape_letters ?na_Shape_slots ?cl_Rule ?na_Rule_base ?na_Rule_last ?na_Rule_divisor ?na_Rule_shapes ?cl_Stretch ?na_Stretch_by ?na_Stretch_low ?na_Stretch_high ?na_Stretch_ways ?na_Stretch_known_ends ?na_Stretch_known_numbers ?cl_Way ?na_Way_fixed ?na_Way_letters ?na_Way_weights ?na_Way_stretches ?na_Way_masks ?na_Way_known_ends ?cl_Stretches ?na_Stretches_sets ?na_Stretches_made_stretches ?na_Stretches_made_ways ?cl_Reading ?na_Reading_made ?na_Reading_size ?na_Reading_byte_masks ?ex_NotAsTold ?ex_NotSaid ?su_NotAsTold_NotAsTold ?su_NotAsTold_NotSaid ?su_NotSaid_NotAsTold ?su_NotSaid_NotSaid ?fn_stands_for ?fn_q_runs ?fn_r_runs ?fn_shapes_of ?fn_rules_up_to ?fn_may_be_piece ?fn_may_say_base ?fn_may_say_parts ?fn_may_be_rule ?fn_told_piece ?fn_told_rule ?fn_told_rules ?fn_rule_for ?fn_shape_for ?fn_say_onto ?fn_text_of ?fn_text_or_none ?fn_those_not_said ?fn_first_alike ?fn_longest_said ?fn_by_their_texts ?fn_boxes_of ?fn_common_run ?fn_places_of ?fn_has_place ?fn_numbers_that_say ?fn_begins ?fn_rules ?fn_say ?fn_read ?fn_gaps ?fn_alike ?fn_longest ?fn_in_order ?fn_listed ?fn_told_run ?fn_check_set ?fn_check_number ?fn_answer ?fn_answers ?mt_Row_init ?mt_Row_has_more ?mt_Row_one ?mt_Row_told ?mt_Piece_init ?mt_Shape_init ?mt_Shape_fits ?mt_Shape_add_piece ?mt_Rule_init ?mt_Stretch_init ?mt_Way_init ?mt_Way_add_slot ?mt_Stretches_init ?mt_Stretches_stretch ?mt_Stretches_ways_in ?mt_Stretches_rule_ways ?mt_Stretches_part_ways ?mt_Stretches_shape_way ?mt_Reading_init ?mt_Reading_mask_of ?mt_Reading_ways_of ?mt_Reading_ends_of ?mt_Reading_ends_from ?mt_Reading_way_ends ?mt_Reading_can_be ?mt_Reading_numbers_of ?mt_Reading_way_numbers ?mt_Reading_pair_numbers ?co_HIGHEST ?co_HOW_MANY_SETS ?co_MOST_RULES ?co_MOST_PIECES ?co_MOST_BYTES ?co_ALWAYS ?co_IF_R ?co_IF_NO_R ?co_IF_NOT_ONE ?co_IF_ONE ?co_LETTERS ?co_Q ?co_R ?co_MOST_TEXT ?co_MOST_APART ?co_MOST_SORTED ?no_len ?no_any ?no_all ?no_max ?no_min ?no_sorted ?no_tuple ?no_list ?no_range ?no_enumerate ?gCA ?qCA) hmg
    (case cl_Row => refine' Sn.clAt KX G ?a ?pg ?hd ?po ?sa ?mk ?ini ?fn ?kp; (case a => k_is); (case pg => k_is); (case hd => k_is); (case po => k_is); (case sa => k_is); (case mk => k_is); (case ini => k_is); (case fn => k_is); (case kp => k_is))
    (case na_Row_numbers => k_is)
    (case na_Row_place => k_is)
    (case cl_Piece => refine' Sn.clAt KX G ?a ?pg ?hd ?po ?sa ?mk ?ini ?fn ?kp; (case a => k_is); (case pg => k_is); (case hd => k_is); (case po => k_is); (case sa => k_is); (case mk => k_is); (case ini => k_is); (case fn => k_is); (case kp => k_is))
    (case na_Piece_stands => k_is)
    (case na_Piece_kind => k_is)
    (case na_Piece_letters => k_is)
    (case na_Piece_by => k_is)
    (case cl_Shape => refine' Sn.clAt KX G ?a ?pg ?hd ?po ?sa ?mk ?ini ?fn ?kp; (case a => k_is); (case pg => k_is); (case hd => k_is); (case po => k_is); (case sa => k_is); (case mk => k_is); (case ini => k_is); (case fn => k_is); (case kp => k_is))
    (case na_Shape_q_run => k_is)
    (case na_Shape_r_run => k_is)
    (case na_Shape_letters => k_is)
    (case na_Shape_slots => k_is)
    (case cl_Rule => refine' Sn.clAt KX G ?a ?pg ?hd ?po ?sa ?mk ?ini ?fn ?kp; (case a => k_is); (case pg => k_is); (case hd => k_is); (case po => k_is); (case sa => k_is); (case mk => k_is); (case ini => k_is); (case fn => k_is); (case kp => k_is))
    (case na_Rule_base => k_is)
    (case na_Rule_last => k_is)
    (case na_Rule_divisor => k_is)
    (case na_Rule_shapes => k_is)
    (case cl_Stretch => refine' Sn.clAt KX G ?a ?pg ?hd ?po ?sa ?mk ?ini ?fn ?kp; (case a => k_is); (case pg => k_is); (case hd => k_is); (case po => k_is); (case sa => k_is); (case mk => k_is); (case ini => k_is); (case fn => k_is); (case kp => k_is))
    (case na_Stretch_by => k_is)
    (case na_Stretch_low => k_is)
    (case na_Stretch_high => k_is)
    (case na_Stretch_ways => k_is)
    (case na_Stretch_known_ends => k_is)
    (case na_Stretch_known_numbers => k_is)
    (case cl_Way => refine' Sn.clAt KX G ?a ?pg ?hd ?po ?sa ?mk ?ini ?fn ?kp; (case a => k_is); (case pg => k_is); (case hd => k_is); (case po => k_is); (case sa => k_is); (case mk => k_is); (case ini => k_is); (case fn => k_is); (case kp => k_is))
    (case na_Way_fixed => k_is)
    (case na_Way_letters => k_is)
    (case na_Way_weights => k_is)
    (case na_Way_stretches => k_is)
    (case na_Way_masks => k_is)
    (case na_Way_known_ends => k_is)
    (case cl_Stretches => refine' Sn.clAt KX G ?a ?pg ?hd ?po ?sa ?mk ?ini ?fn ?kp; (case a => k_is); (case pg => k_is); (case hd => k_is); (case po => k_is); (case sa => k_is); (case mk => k_is); (case ini => k_is); (case fn => k_is); (case kp => k_is))
    (case na_Stretches_sets => k_is)
    (case na_Stretches_made_stretches => k_is)
    (case na_Stretches_made_ways => k_is)
    (case cl_Reading => refine' Sn.clAt KX G ?a ?pg ?hd ?po ?sa ?mk ?ini ?fn ?kp; (case a => k_is); (case pg => k_is); (case hd => k_is); (case po => k_is); (case sa => k_is); (case mk => k_is); (case ini => k_is); (case fn => k_is); (case kp => k_is))
    (case na_Reading_made => k_is)
    (case na_Reading_size => k_is)
    (case na_Reading_byte_masks => k_is)
    (case ex_NotAsTold => refine' Sn.exAt KX G ?a ?xx ?kp ?b ?t ?i; (case a => k_is); (case xx => k_exc); (case kp => k_is); (case b => k_is); (case t => k_is); (case i => k_is))
    (case ex_NotSaid => refine' Sn.exAt KX G ?a ?xx ?kp ?b ?t ?i; (case a => k_is); (case xx => k_exc); (case kp => k_is); (case b => k_is); (case t => k_is); (case i => k_is))
    (case su_NotAsTold_NotAsTold => k_is)
    (case su_NotAsTold_NotSaid => k_is)
    (case su_NotSaid_NotAsTold => k_is)
    (case su_NotSaid_NotSaid => k_is)
    (case fn_stands_for => refine' Sn.fnAt KX G ?a ?l ?c ?k; (case a => k_is); (case l => k_is); (case c => k_is); (case k => k_is))
    (case fn_q_runs => refine' Sn.fnAt KX G ?a ?l ?c ?k; (case a => k_is); (case l => k_is); (case c => k_is); (case k => k_is))
    (case fn_r_runs => refine' Sn.fnAt KX G ?a ?l ?c ?k; (case a => k_is); (case l => k_is); (case c => k_is); (case k => k_is))
    (case fn_shapes_of => refine' Sn.fnAt KX G ?a ?l ?c ?k; (case a => k_is); (case l => k_is); (case c => k_is); (case k => k_is))
    (case fn_rules_up_to => refine' Sn.fnAt KX G ?a ?l ?c ?k; (case a => k_is); (case l => k_is); (case c => k_is); (case k => k_is))
    (case fn_may_be_piece => refine' Sn.fnAt KX G ?a ?l ?c ?k; (case a => k_is); (case l => k_is); (case c => k_is); (case k => k_is))
    (case fn_may_say_base => refine' Sn.fnAt KX G ?a ?l ?c ?k; (case a => k_is); (case l => k_is); (case c => k_is); (case k => k_is))
    (case fn_may_say_parts => refine' Sn.fnAt KX G ?a ?l ?c ?k; (case a => k_is); (case l => k_is); (case c => k_is); (case k => k_is))
    (case fn_may_be_rule => refine' Sn.fnAt KX G ?a ?l ?c ?k; (case a => k_is); (case l => k_is); (case c => k_is); (case k => k_is))
    (case fn_told_piece => refine' Sn.fnAt KX G ?a ?l ?c ?k; (case a => k_is); (case l => k_is); (case c => k_is); (case k => k_is))
    (case fn_told_rule => refine' Sn.fnAt KX G ?a ?l ?c ?k; (case a => k_is); (case l => k_is); (case c => k_is); (case k => k_is))
    (case fn_told_rules => refine' Sn.fnAt KX G ?a ?l ?c ?k; (case a => k_is); (case l => k_is); (case c => k_is); (case k => k_is))
    (case fn_rule_for => refine' Sn.fnAt KX G ?a ?l ?c ?k; (case a => k_is); (case l => k_is); (case c => k_is); (case k => k_is))
    (case fn_shape_for => refine' Sn.fnAt KX G ?a ?l ?c ?k; (case a => k_is); (case l => k_is); (case c => k_is); (case k => k_is))
    (case fn_say_onto => refine' Sn.fnAt KX G ?a ?l ?c ?k; (case a => k_is); (case l => k_is); (case c => k_is); (case k => k_is))
    (case fn_text_of => refine' Sn.fnAt KX G ?a ?l ?c ?k; (case a => k_is); (case l => k_is); (case c => k_is); (case k => k_is))
    (case fn_text_or_none => refine' Sn.fnAt KX G ?a ?l ?c ?k; (case a => k_is); (case l => k_is); (case c => k_is); (case k => k_is))
    (case fn_those_not_said => refine' Sn.fnAt KX G ?a ?l ?c ?k; (case a => k_is); (case l => k_is); (case c => k_is); (case k => k_is))
    (case fn_first_alike => refine' Sn.fnAt KX G ?a ?l ?c ?k; (case a => k_is); (case l => k_is); (case c => k_is); (case k => k_is))
    (case fn_longest_said => refine' Sn.fnAt KX G ?a ?l ?c ?k; (case a => k_is); (case l => k_is); (case c => k_is); (case k => k_is))
    (case fn_by_their_texts => refine' Sn.fnAt KX G ?a ?l ?c ?k; (case a => k_is); (case l => k_is); (case c => k_is); (case k => k_is))
    (case fn_boxes_of => refine' Sn.fnAt KX G ?a ?l ?c ?k; (case a => k_is); (case l => k_is); (case c => k_is); (case k => k_is))
    (case fn_common_run => refine' Sn.fnAt KX G ?a ?l ?c ?k; (case a => k_is); (case l => k_is); (case c => k_is); (case k => k_is))
    (case fn_places_of => refine' Sn.fnAt KX G ?a ?l ?c ?k; (case a => k_is); (case l => k_is); (case c => k_is); (case k => k_is))
    (case fn_has_place => refine' Sn.fnAt KX G ?a ?l ?c ?k; (case a => k_is); (case l => k_is); (case c => k_is); (case k => k_is))
    (case fn_numbers_that_say => refine' Sn.fnAt KX G ?a ?l ?c ?k; (case a => k_is); (case l => k_is); (case c => k_is); (case k => k_is))
    (case fn_begins => refine' Sn.fnAt KX G ?a ?l ?c ?k; (case a => k_is); (case l => k_is); (case c => k_is); (case k => k_is))
    (case fn_rules => refine' Sn.fnAt KX G ?a ?l ?c ?k; (case a => k_is); (case l => k_is); (case c => k_is); (case k => k_is))
    (case fn_say => refine' Sn.fnAt KX G ?a ?l ?c ?k; (case a => k_is); (case l => k_is); (case c => k_is); (case k => k_is))
    (case fn_read => refine' Sn.fnAt KX G ?a ?l ?c ?k; (case a => k_is); (case l => k_is); (case c => k_is); (case k => k_is))
    (case fn_gaps => refine' Sn.fnAt KX G ?a ?l ?c ?k; (case a => k_is); (case l => k_is); (case c => k_is); (case k => k_is))
    (case fn_alike => refine' Sn.fnAt KX G ?a ?l ?c ?k; (case a => k_is); (case l => k_is); (case c => k_is); (case k => k_is))
    (case fn_longest => refine' Sn.fnAt KX G ?a ?l ?c ?k; (case a => k_is); (case l => k_is); (case c => k_is); (case k => k_is))
    (case fn_in_order => refine' Sn.fnAt KX G ?a ?l ?c ?k; (case a => k_is); (case l => k_is); (case c => k_is); (case k => k_is))
    (case fn_listed => refine' Sn.fnAt KX G ?a ?l ?c ?k; (case a => k_is); (case l => k_is); (case c => k_is); (case k => k_is))
    (case fn_told_run => refine' Sn.fnAt KX G ?a ?l ?c ?k; (case a => k_is); (case l => k_is); (case c => k_is); (case k => k_is))
    (case fn_check_set => refine' Sn.fnAt KX G ?a ?l ?c ?k; (case a => k_is); (case l => k_is); (case c => k_is); (case k => k_is))
    (case fn_check_number => refine' Sn.fnAt KX G ?a ?l ?c ?k; (case a => k_is); (case l => k_is); (case c => k_is); (case k => k_is))
    (case fn_answer => refine' Sn.fnAt KX G ?a ?l ?c ?k; (case a => k_is); (case l => k_is); (case c => k_is); (case k => k_is))
    (case fn_answers => refine' Sn.fnAt KX G ?a ?l ?c ?k; (case a => k_is); (case l => k_is); (case c => k_is); (case k => k_is))
    (case mt_Row_init => refine' Sn.mtAt ?a ?i ?l ?c ?k; (case a => k_is); (case i => k_is); (case l => k_is); (case c => k_is); (case k => k_is))
    (case mt_Row_has_more => refine' Sn.mtAt ?a ?i ?l ?c ?k; (case a => k_is); (case i => k_is); (case l => k_is); (case c => k_is); (case k => k_is))
    (case mt_Row_one => refine' Sn.mtAt ?a ?i ?l ?c ?k; (case a => k_is); (case i => k_is); (case l => k_is); (case c => k_is); (case k => k_is))
    (case mt_Row_told => refine' Sn.mtAt ?a ?i ?l ?c ?k; (case a => k_is); (case i => k_is); (case l => k_is); (case c => k_is); (case k => k_is))
    (case mt_Piece_init => refine' Sn.mtAt ?a ?i ?l ?c ?k; (case a => k_is); (case i => k_is); (case l => k_is); (case c => k_is); (case k => k_is))
    (case mt_Shape_init => refine' Sn.mtAt ?a ?i ?l ?c ?k; (case a => k_is); (case i => k_is); (case l => k_is); (case c => k_is); (case k => k_is))
    (case mt_Shape_fits => refine' Sn.mtAt ?a ?i ?l ?c ?k; (case a => k_is); (case i => k_is); (case l => k_is); (case c => k_is); (case k => k_is))
    (case mt_Shape_add_piece => refine' Sn.mtAt ?a ?i ?l ?c ?k; (case a => k_is); (case i => k_is); (case l => k_is); (case c => k_is); (case k => k_is))
    (case mt_Rule_init => refine' Sn.mtAt ?a ?i ?l ?c ?k; (case a => k_is); (case i => k_is); (case l => k_is); (case c => k_is); (case k => k_is))
    (case mt_Stretch_init => refine' Sn.mtAt ?a ?i ?l ?c ?k; (case a => k_is); (case i => k_is); (case l => k_is); (case c => k_is); (case k => k_is))
    (case mt_Way_init => refine' Sn.mtAt ?a ?i ?l ?c ?k; (case a => k_is); (case i => k_is); (case l => k_is); (case c => k_is); (case k => k_is))
    (case mt_Way_add_slot => refine' Sn.mtAt ?a ?i ?l ?c ?k; (case a => k_is); (case i => k_is); (case l => k_is); (case c => k_is); (case k => k_is))
    (case mt_Stretches_init => refine' Sn.mtAt ?a ?i ?l ?c ?k; (case a => k_is); (case i => k_is); (case l => k_is); (case c => k_is); (case k => k_is))
    (case mt_Stretches_stretch => refine' Sn.mtAt ?a ?i ?l ?c ?k; (case a => k_is); (case i => k_is); (case l => k_is); (case c => k_is); (case k => k_is))
    (case mt_Stretches_ways_in => refine' Sn.mtAt ?a ?i ?l ?c ?k; (case a => k_is); (case i => k_is); (case l => k_is); (case c => k_is); (case k => k_is))
    (case mt_Stretches_rule_ways => refine' Sn.mtAt ?a ?i ?l ?c ?k; (case a => k_is); (case i => k_is); (case l => k_is); (case c => k_is); (case k => k_is))
    (case mt_Stretches_part_ways => refine' Sn.mtAt ?a ?i ?l ?c ?k; (case a => k_is); (case i => k_is); (case l => k_is); (case c => k_is); (case k => k_is))
    (case mt_Stretches_shape_way => refine' Sn.mtAt ?a ?i ?l ?c ?k; (case a => k_is); (case i => k_is); (case l => k_is); (case c => k_is); (case k => k_is))
    (case mt_Reading_init => refine' Sn.mtAt ?a ?i ?l ?c ?k; (case a => k_is); (case i => k_is); (case l => k_is); (case c => k_is); (case k => k_is))
    (case mt_Reading_mask_of => refine' Sn.mtAt ?a ?i ?l ?c ?k; (case a => k_is); (case i => k_is); (case l => k_is); (case c => k_is); (case k => k_is))
    (case mt_Reading_ways_of => refine' Sn.mtAt ?a ?i ?l ?c ?k; (case a => k_is); (case i => k_is); (case l => k_is); (case c => k_is); (case k => k_is))
    (case mt_Reading_ends_of => refine' Sn.mtAt ?a ?i ?l ?c ?k; (case a => k_is); (case i => k_is); (case l => k_is); (case c => k_is); (case k => k_is))
    (case mt_Reading_ends_from => refine' Sn.mtAt ?a ?i ?l ?c ?k; (case a => k_is); (case i => k_is); (case l => k_is); (case c => k_is); (case k => k_is))
    (case mt_Reading_way_ends => refine' Sn.mtAt ?a ?i ?l ?c ?k; (case a => k_is); (case i => k_is); (case l => k_is); (case c => k_is); (case k => k_is))
    (case mt_Reading_can_be => refine' Sn.mtAt ?a ?i ?l ?c ?k; (case a => k_is); (case i => k_is); (case l => k_is); (case c => k_is); (case k => k_is))
    (case mt_Reading_numbers_of => refine' Sn.mtAt ?a ?i ?l ?c ?k; (case a => k_is); (case i => k_is); (case l => k_is); (case c => k_is); (case k => k_is))
    (case mt_Reading_way_numbers => refine' Sn.mtAt ?a ?i ?l ?c ?k; (case a => k_is); (case i => k_is); (case l => k_is); (case c => k_is); (case k => k_is))
    (case mt_Reading_pair_numbers => refine' Sn.mtAt ?a ?i ?l ?c ?k; (case a => k_is); (case i => k_is); (case l => k_is); (case c => k_is); (case k => k_is))
    (case co_HIGHEST => refine' Sn.cnst KX G ?a; (case a => k_is))
    (case co_HOW_MANY_SETS => refine' Sn.cnst KX G ?a; (case a => k_is))
    (case co_MOST_RULES => refine' Sn.cnst KX G ?a; (case a => k_is))
    (case co_MOST_PIECES => refine' Sn.cnst KX G ?a; (case a => k_is))
    (case co_MOST_BYTES => refine' Sn.cnst KX G ?a; (case a => k_is))
    (case co_ALWAYS => refine' Sn.cnst KX G ?a; (case a => k_is))
    (case co_IF_R => refine' Sn.cnst KX G ?a; (case a => k_is))
    (case co_IF_NO_R => refine' Sn.cnst KX G ?a; (case a => k_is))
    (case co_IF_NOT_ONE => refine' Sn.cnst KX G ?a; (case a => k_is))
    (case co_IF_ONE => refine' Sn.cnst KX G ?a; (case a => k_is))
    (case co_LETTERS => refine' Sn.cnst KX G ?a; (case a => k_is))
    (case co_Q => refine' Sn.cnst KX G ?a; (case a => k_is))
    (case co_R => refine' Sn.cnst KX G ?a; (case a => k_is))
    (case co_MOST_TEXT => refine' Sn.cnst KX G ?a; (case a => k_is))
    (case co_MOST_APART => refine' Sn.cnst KX G ?a; (case a => k_is))
    (case co_MOST_SORTED => refine' Sn.cnst KX G ?a; (case a => k_is))
    (case no_len => refine' PySem.W.mg_none_of KX G ?a; (case a => k_is))
    (case no_any => refine' PySem.W.mg_none_of KX G ?a; (case a => k_is))
    (case no_all => refine' PySem.W.mg_none_of KX G ?a; (case a => k_is))
    (case no_max => refine' PySem.W.mg_none_of KX G ?a; (case a => k_is))
    (case no_min => refine' PySem.W.mg_none_of KX G ?a; (case a => k_is))
    (case no_sorted => refine' PySem.W.mg_none_of KX G ?a; (case a => k_is))
    (case no_tuple => refine' PySem.W.mg_none_of KX G ?a; (case a => k_is))
    (case no_list => refine' PySem.W.mg_none_of KX G ?a; (case a => k_is))
    (case no_range => refine' PySem.W.mg_none_of KX G ?a; (case a => k_is))
    (case no_enumerate => refine' PySem.W.mg_none_of KX G ?a; (case a => k_is))
    (case gCA => refine' PySem.W.mg_of KX G ?a; (case a => k_is))
    (case qCA => refine' Sn.calls_at ?a; (case a => k_is))
  case S =>
    intro K H xs a hO hwi hask hx
    cases hx with
    | cons h1 h2 =>
      cases h2
      cases h1 with
      | lst hs ha =>
        have e := L2.ints_dw a.1 _ ha
        subst e
        exact Sn.due hs (Sn.wi0 (least := 0) (most := 16000) (lo := 0) (hi := 18446744073709551615) (a := a) (by decide) hwi) hask
#print axioms PySem.Challenge.cw_saidnumbers_s01_answers_holds

import PyProof.Rows.All
import Wide.All
import OpenK.AllK
import Wide.FinOn
import HandS.ForMost
import HandS.ForExc
import HandS.Evl
import HandS.TupAny
import HandS.TupMul
import HandS.Strs
import HandS.Rev
import HandS.IsInst
import HandS.Wide
import HandS.WideBits
import HandS.Conv
import HandS.More
import PyProof.TypeEq
import KE.BitLaws
import PySem.Challenge.RW_ringbar_k03_numbers_of_settings
set_option Elab.async false
set_option linter.all false
set_option maxRecDepth 100000
set_option maxHeartbeats 4000000
namespace R
open PySem PySem.Spec PyProof.Rows L2 Evl

/-! ### comparing built-in types -/
/-- n names a built-in class whose own class is type -/
def TyM (n : String) : Prop := ∀ s' : Shared, s'.TypeIs (.type n) "type"
theorem tm_int : TyM "int" := PySem.TypeEq.meta_int
theorem tm_str : TyM "str" := PySem.TypeEq.meta_str
theorem tm_bool : TyM "bool" := PySem.TypeEq.meta_bool
theorem tm_none : TyM "NoneType" := PySem.TypeEq.meta_NoneType
theorem tm_list : TyM "list" := PySem.TypeEq.meta_list
theorem tm_tuple : TyM "tuple" := PySem.TypeEq.meta_tuple
theorem tm_dict : TyM "dict" := PySem.TypeEq.meta_dict
theorem tyne {a b : String} (e : ¬ a = b) : (Value.type a == Value.type b) = false := beq_eq_false_iff_ne.mpr fun z => e (Value.type.inj z)
section
variable {prog : Program} {w : World} {A : Around} {E : Value → Shared → Prop} {s : Shared} {Q : Value → Shared → Prop}
theorem slot_type_ne : Slot "type" (cmpInfo .NotEq).2.1 "object.__ne__" :=
  .of (owner := "object") (n := "__ne__") (by rw [typeLookup_type, builtinLookup_eq_fast] <;> kernel_rfl) (by decide +kernel) (by decide +kernel) (by decide +kernel)
    (by first | exact .inl (by decide +kernel) | exact .inr (by decide +kernel)) (by rw [isSubtype_type] <;> kernel_rfl)
theorem slot_type_ne2 : Slot "type" (cmpInfo .NotEq).2.2 "object.__ne__" :=
  .of (owner := "object") (n := "__ne__") (by rw [typeLookup_type, builtinLookup_eq_fast] <;> kernel_rfl) (by decide +kernel) (by decide +kernel) (by decide +kernel)
    (by first | exact .inl (by decide +kernel) | exact .inr (by decide +kernel)) (by rw [isSubtype_type] <;> kernel_rfl)
theorem slot_type_eq' : Slot "type" (Str.ofString "__eq__") "object.__eq__" := PySem.TypeEq.slot_type_eq
theorem argsNe (a b : Value) : argsOk "object.__ne__" ⟨[a, b], []⟩ := by unfold argsOk; kernel_rfl
theorem call_eq_ty {X Y : String} (hX : TyM X) {k : Value → Shared → Prop} (q : k (if X = Y then .bool true else .notImplemented) s) : wpAny (model prog w) A (call (.builtin "object.__eq__") [.type X, .type Y]) k E s := by
  by_cases e : X = Y
  · subst e
    rw [if_pos rfl] at q
    exact call_gives slot_type_eq' (hX s) F.entry_object_eq (F.args_object_eq_2 _ _) (PySem.TypeEq.object_eq_same (a := .type X) (b := .type X) rfl (by simp)) q
  · rw [if_neg e] at q
    exact call_gives slot_type_eq' (hX s) F.entry_object_eq (F.args_object_eq_2 _ _) (PySem.TypeEq.object_eq_other (a := .type X) (b := .type Y) rfl (tyne e)) q
theorem obj_ne_ty {X Y : String} (hX : TyM X) {k : Fin → Shared → Prop}
    (q : if X = Y then k (.done (.ret (.bool false))) s else k (.done (.ret .notImplemented)) s) :
    wpAny (model prog w) A (Builtin.«object.__ne__» ⟨[.type X, .type Y], []⟩) k E s := by
  by_cases e : X = Y
  · rw [if_pos e] at q
    unfold Builtin.«object.__ne__»
    repeat (first
      | with_reducible refine wpAny_cRoomFor_or (.inl rfl) ?_
      | (refine wpAny_bind (m := callSpecialIfBound? (.type X) (Str.ofString "__eq__") [.type Y])
          (wpAny_callSpecialIfBound?_slot (hX s) slot_type_eq' (call_eq_ty hX (by
            rw [if_pos e]
            repeat (first | exact q | exact wpAny_pure q | (refine wpAny_bind (m := truthy (.bool _)) (wpAny_truthy_bool ?_)) | wp_step)))))
      | wp_step)
  · rw [if_neg e] at q
    unfold Builtin.«object.__ne__»
    repeat (first
      | with_reducible refine wpAny_cRoomFor_or (.inl rfl) ?_
      | (refine wpAny_bind (m := callSpecialIfBound? (.type X) (Str.ofString "__eq__") [.type Y])
          (wpAny_callSpecialIfBound?_slot (hX s) slot_type_eq' (call_eq_ty hX (by
            rw [if_neg e]
            repeat (first | exact q | exact wpAny_pure q | wp_step)))))
      | wp_step)
theorem call_ne_ty {X Y : String} (hX : TyM X) {k : Value → Shared → Prop} (q : if X = Y then k (.bool false) s else k .notImplemented s) : wpAny (model prog w) A (call (.builtin "object.__ne__") [.type X, .type Y]) k E s := by
  refine wpAny_call_entry slot_type_ne (hX s) F.cmpEntry_ne (obj_ne_ty hX ?_) (argsNe _ _)
  by_cases e : X = Y
  · rw [if_pos e] at q ⊢
    exact ⟨_, rfl, q⟩
  · rw [if_neg e] at q ⊢
    exact ⟨_, rfl, q⟩
theorem rc_ne_ty {X Y : String} (hX : TyM X) (hY : TyM Y) (q : Q (.bool (!decide (X = Y))) s) : wpAny (model prog w) A (compareOp .NotEq (.type X) (.type Y)) Q E s := by
  show wpAny _ A (richCompare .NotEq _ _) Q E s
  by_cases e : X = Y
  · refine wpAny_richCompare_same (T := "type") (hX s) (hY s) slot_type_ne (call_ne_ty hX ?_)
    rw [if_pos e]
    refine ⟨fun z => (by cases z), ?_⟩
    rw [decide_eq_true e] at q
    exact q
  · have h1 := slot_type_ne
    have h2 := slot_type_ne2
    have hk : isSame (.type X) (.type Y) = pure false := by rw [isSame_plain rfl, tyne e]
    rw [decide_eq_false e] at q
    rcases hi : cmpInfo CmpOp.NotEq with ⟨sym, f, r⟩
    rw [hi] at h1 h2
    simp only [richCompare, hi, (hX s).oneThing_none]
    try with_reducible refine wpAny_holding ?_
    refine wpAny_bind (wpAny_cRoomFor_or (.inl rfl) ?_)
    refine wpAny_bind (wpAny_typeOf (hX s) (wpAny_bind (wpAny_typeOf (hY s) ?_)))
    simp only [bne_self_eq_false, Bool.false_eq_true, if_false, pure_bind, Bool.not_false, if_true]
    refine wpAny_bind (m := tryCompare (.type X) _ (.type Y)) (wpAny_tryCompare_declines (hX s) h1 (call_ne_ty hX ?_))
    rw [if_neg e]
    refine ⟨rfl, ?_⟩
    refine wpAny_bind (m := tryCompare (.type Y) _ (.type X)) (wpAny_tryCompare_declines (hY s) h2 (call_ne_ty hY ?_))
    rw [if_neg (fun z => e z.symm)]
    refine ⟨rfl, ?_⟩
    exact wpAny_bind (wpAny_rule (wpAny_bind (wpAny_of_eq hk (wpAny_pure q))))
end
def rTyEq : R2 := fun x y H Q => ∃ a b, x = .ty a ∧ y = .ty b ∧ TyM a ∧ TyM b ∧ Q (.bl (decide (a = b))) H
def rTyNe : R2 := fun x y H Q => ∃ a b, x = .ty a ∧ y = .ty b ∧ TyM a ∧ TyM b ∧ Q (.bl (!decide (a = b))) H
section
variable {X : Cx}
theorem op_tyEq : OpR X (compareOp .Eq) rTyEq := by
  intro pins s σ H x y v u Q I rx ry h
  obtain ⟨a, b, rfl, rfl, ta, tb, q⟩ := h
  obtain rfl : v = Value.type a := rx
  obtain rfl : u = Value.type b := ry
  by_cases e : a = b
  · subst e
    rw [decide_eq_true rfl] at q
    exact PySem.TypeEq.eq_type_same ta ⟨.bl true, H, I, rfl, q⟩
  · rw [decide_eq_false e] at q
    exact PySem.TypeEq.eq_type_other ta tb (tyne e) ⟨.bl false, H, I, rfl, q⟩
theorem op_tyNe : OpR X (compareOp .NotEq) rTyNe := by
  intro pins s σ H x y v u Q I rx ry h
  obtain ⟨a, b, rfl, rfl, ta, tb, q⟩ := h
  obtain rfl : v = Value.type a := rx
  obtain rfl : u = Value.type b := ry
  exact rc_ne_ty ta tb ⟨.bl _, H, I, rfl, q⟩
end
end R

namespace G
/-! settings as lists of truths; their numbers -/
def od (n : Nat) : Bool := n % 2 == 1
def b1 (b : Bool) : Nat := if b then 1 else 0
def num : List Bool → Nat
  | [] => 0
  | c :: cs => 2 * num cs + b1 (xor c (od (num cs)))
def sets : Nat → Nat → List Bool
  | 0, _ => []
  | n + 1, k => xor (od k) (od (k / 2)) :: sets n (k / 2)
theorem b1_le (b : Bool) : b1 b ≤ 1 := by cases b <;> decide
theorem od_b1 (n : Nat) (b : Bool) : od (2 * n + b1 b) = b := by
  cases b <;> simp [od, b1] <;> omega
theorem half_b1 (n : Nat) (b : Bool) : (2 * n + b1 b) / 2 = n := by
  have := b1_le b
  omega
theorem b1_od (n : Nat) : b1 (od n) = n % 2 := by
  unfold b1 od
  have h : n % 2 = 0 ∨ n % 2 = 1 := by omega
  rcases h with h | h <;> rw [h] <;> rfl
theorem num_lt : ∀ s : List Bool, num s < 2 ^ s.length
  | [] => by decide
  | c :: cs => by
    have h := num_lt cs
    have h2 := b1_le (xor c (od (num cs)))
    simp only [num, List.length_cons, Nat.pow_succ]
    omega
theorem sets_len : ∀ (n k : Nat), (sets n k).length = n
  | 0, _ => rfl
  | n + 1, k => by simp [sets, sets_len n]
theorem num_sets : ∀ (n k : Nat), k < 2 ^ n → num (sets n k) = k
  | 0, k, h => by
    have : k = 0 := by simpa using h
    subst this; rfl
  | n + 1, k, h => by
    have h1 : k / 2 < 2 ^ n := by rw [Nat.pow_succ] at h; omega
    have ih := num_sets n (k / 2) h1
    simp only [sets, num, ih]
    have e : xor (xor (od k) (od (k / 2))) (od (k / 2)) = od k := by cases od k <;> cases od (k / 2) <;> rfl
    rw [e, b1_od]
    omega
theorem sets_num : ∀ s : List Bool, sets s.length (num s) = s
  | [] => rfl
  | c :: cs => by
    simp only [List.length_cons, sets, num]
    rw [half_b1, od_b1, sets_num cs]
    have e : xor (xor c (od (num cs))) (od (num cs)) = c := by cases c <;> cases od (num cs) <;> rfl
    rw [e]
theorem num_inj {s t : List Bool} (hl : s.length = t.length) (h : num s = num t) : s = t := by
  rw [← sets_num s, ← sets_num t, hl, h]
/-! the rule: which rings may be changed -/
def may (s : List Bool) : Nat → Bool
  | 0 => true
  | r + 1 => (s[r]? == some true) && (s.take r).all (fun b => !b)
def flip : List Bool → Nat → List Bool
  | [], _ => []
  | c :: cs, 0 => (!c) :: cs
  | c :: cs, r + 1 => c :: flip cs r
theorem flip_len : ∀ (s : List Bool) (r : Nat), (flip s r).length = s.length
  | [], _ => rfl
  | _ :: _, 0 => rfl
  | c :: cs, r + 1 => by simp [flip, flip_len cs r]
theorem flip_eq : ∀ (s : List Bool) (r : Nat) (h : r < s.length), flip s r = s.take r ++ (!s[r]) :: s.drop (r + 1)
  | c :: cs, 0, _ => rfl
  | c :: cs, r + 1, h => by
    have h' : r < cs.length := by simpa using h
    simp [flip, flip_eq cs r h']
theorem flip_get_self : ∀ (s : List Bool) (r : Nat) (h : r < s.length), (flip s r)[r]? = some (!s[r])
  | c :: cs, 0, _ => rfl
  | c :: cs, r + 1, h => by
    have h' : r < cs.length := by simpa using h
    simp [flip, flip_get_self cs r h']
theorem flip_get_ne : ∀ (s : List Bool) (r j : Nat), j ≠ r → (flip s r)[j]? = s[j]?
  | [], _, _, _ => rfl
  | c :: cs, 0, 0, h => absurd rfl h
  | c :: cs, 0, j + 1, h => rfl
  | c :: cs, r + 1, 0, h => rfl
  | c :: cs, r + 1, j + 1, h => by
    simp only [flip, List.getElem?_cons_succ]
    exact flip_get_ne cs r j (by omega)
theorem flip_flip : ∀ (s : List Bool) (r : Nat), flip (flip s r) r = s
  | [], _ => rfl
  | c :: cs, 0 => by simp [flip]
  | c :: cs, r + 1 => by simp [flip, flip_flip cs r]
theorem may_cons0 (c : Bool) (cs : List Bool) : may (c :: cs) 1 = c := by
  cases c <;> rfl
theorem may_cons (c : Bool) (cs : List Bool) (r : Nat) : may (c :: cs) (r + 2) = (!c && may cs (r + 1)) := by
  simp only [may, List.getElem?_cons_succ, List.take_succ_cons, List.all_cons]
  cases c <;> cases (cs[r]? == some true) <;> simp
/-- a change: the number goes up or down by one, in a way that is told by the ring and by the number -/
theorem flip_num : ∀ (s : List Bool) (r : Nat), r < s.length → may s r = true →
    (decide (r = 0) = !od (num s) → num (flip s r) = num s + 1) ∧ (decide (r = 0) = od (num s) → num (flip s r) + 1 = num s)
  | c :: cs, 0, _, _ => by
    simp only [flip, num, od_b1]
    cases c <;> cases h : od (num cs) <;> simp [b1]
  | c :: cs, 1, h, hm => by
    rw [may_cons0] at hm
    subst hm
    have h' : 0 < cs.length := by simpa using h
    obtain ⟨i1, i2⟩ := flip_num cs 0 h' rfl
    simp only [flip, num, od_b1]
    cases e : od (num cs) with
    | false =>
      have q := i1 (by rw [e]; rfl)
      have o : od (num cs + 1) = true := by simp [od] at e ⊢; omega
      rw [q, o]
      simp [b1]; omega
    | true =>
      have q := i2 (by rw [e]; rfl)
      have o : od (num (flip cs 0)) = false := by simp [od] at e ⊢; omega
      rw [o]
      simp [b1]; omega
  | c :: cs, r + 2, h, hm => by
    rw [may_cons] at hm
    have hc : c = false := by cases c <;> simp_all
    subst hc
    have hm' : may cs (r + 1) = true := by simpa using hm
    have h' : r + 1 < cs.length := by rw [List.length_cons] at h; omega
    obtain ⟨i1, i2⟩ := flip_num cs (r + 1) h' hm'
    simp only [flip, num, od_b1]
    cases e : od (num cs) with
    | false =>
      have q := i2 (by rw [e]; simp)
      have o : od (num (flip cs (r + 1))) = true := by simp [od] at e ⊢; omega
      rw [o]
      simp [b1]; omega
    | true =>
      have q := i1 (by rw [e]; simp)
      have o : od (num cs + 1) = false := by simp [od] at e ⊢; omega
      rw [q, o]
      simp [b1]; omega
theorem flip_up {s : List Bool} {r : Nat} (h : r < s.length) (hm : may s r = true) (hp : decide (r = 0) = !od (num s)) : num (flip s r) = num s + 1 := (flip_num s r h hm).1 hp
theorem flip_down {s : List Bool} {r : Nat} (h : r < s.length) (hm : may s r = true) (hp : decide (r = 0) = od (num s)) : num (flip s r) + 1 = num s := (flip_num s r h hm).2 hp
/-- the place of the first one that is on -/
def fst1 (s : List Bool) : Nat := s.findIdx id
theorem may_succ : ∀ (s : List Bool) (r : Nat), may s (r + 1) = true ↔ (fst1 s = r ∧ r < s.length)
  | [], r => by simp [may]
  | c :: cs, 0 => by
    rw [may_cons0]
    cases c <;> simp [fst1, List.findIdx_cons]
  | c :: cs, r + 1 => by
    rw [may_cons]
    have ih := may_succ cs r
    cases c
    · simp only [Bool.not_false, Bool.true_and, ih, fst1, List.findIdx_cons, List.length_cons, id]
      constructor
      · rintro ⟨h1, h2⟩
        exact ⟨by simp [h1], by omega⟩
      · rintro ⟨h1, h2⟩
        exact ⟨by simpa using h1, by omega⟩
    · simp [fst1, List.findIdx_cons]
theorem may_flip {s : List Bool} {r : Nat} : may (flip s r) r = may s r := by
  cases r with
  | zero => rfl
  | succ r =>
    have e1 : (flip s (r + 1))[r]? = s[r]? := flip_get_ne s (r + 1) r (by omega)
    have e2 : (flip s (r + 1)).take r = s.take r := by
      apply List.ext_getElem?
      intro j
      rw [List.getElem?_take, List.getElem?_take]
      by_cases hj : j < r
      · rw [if_pos hj, if_pos hj, flip_get_ne s (r + 1) j (by omega)]
      · rw [if_neg hj, if_neg hj]
    simp only [may, e1, e2]
/-- no ring behind the first one: all off but perhaps the last -/
theorem num_zeros : ∀ n : Nat, num (List.replicate n false) = 0
  | 0 => rfl
  | n + 1 => by
    rw [List.replicate_succ]
    simp [num, num_zeros n, od, b1]
theorem num_last : ∀ n : Nat, num (List.replicate n false ++ [true]) = 2 ^ (n + 1) - 1
  | 0 => by decide
  | n + 1 => by
    rw [List.replicate_succ, List.cons_append]
    have ih := num_last n
    have hp : 0 < 2 ^ n := Nat.two_pow_pos n
    have e : 2 ^ (n + 1) = 2 * 2 ^ n := by rw [Nat.pow_succ]; omega
    have o : od (num (List.replicate n false ++ [true])) = true := by
      rw [ih, e]
      simp [od]
      omega
    simp only [num]
    rw [o, ih]
    simp [b1]
    have e2 : 2 ^ (n + 1 + 1) = 2 * 2 ^ (n + 1) := by rw [Nat.pow_succ]; omega
    omega
theorem zeros_of : ∀ s : List Bool, true ∉ s → s = List.replicate s.length false
  | [], _ => rfl
  | c :: cs, h => by
    have hc : c = false := by cases c <;> simp_all
    subst hc
    rw [List.length_cons, List.replicate_succ, ← zeros_of cs (fun m => h (List.mem_cons_of_mem _ m))]
/-- where no ring but 0 may be changed: the number is the first or the last -/
theorem ends_of {s : List Bool} (h : s ≠ []) (hn : true ∉ s.dropLast) : num s = 0 ∨ num s = 2 ^ s.length - 1 := by
  have e := List.dropLast_concat_getLast h
  have z := zeros_of s.dropLast hn
  have hl : s.dropLast.length = s.length - 1 := List.length_dropLast
  have hp : 0 < s.length := List.length_pos_iff.mpr h
  rw [hl] at z
  rw [← e, z]
  cases s.getLast h with
  | false =>
    left
    have : List.replicate (s.length - 1) false ++ [false] = List.replicate s.length false := by
      rw [← List.replicate_succ']
      congr 1
      omega
    rw [this, num_zeros]
  | true =>
    right
    rw [num_last]
    simp
theorem fst1_lt {s : List Bool} (h : true ∈ s.dropLast) : fst1 s + 1 < s.length := by
  have h1 : fst1 s.dropLast < s.dropLast.length := List.findIdx_lt_length_of_exists ⟨true, h, rfl⟩
  have hne : s ≠ [] := by intro e; rw [e] at h; simp at h
  have e := List.dropLast_concat_getLast hne
  have h2 : fst1 s = fst1 s.dropLast := by
    conv => lhs; rw [← e]
    unfold fst1
    rw [List.findIdx_append]
    unfold fst1 at h1
    rw [if_pos h1]
  rw [h2]
  rw [List.length_dropLast] at h1
  omega
/-- the next one -/
theorem next_of {n k : Nat} (hk : k + 1 < 2 ^ n) : ∃ r, r < n ∧ may (sets n k) r = true ∧ flip (sets n k) r = sets n (k + 1) := by
  have hl := sets_len n k
  have hN := num_sets n k (by omega)
  have fin : ∀ r, r < n → may (sets n k) r = true → num (flip (sets n k) r) = k + 1 → flip (sets n k) r = sets n (k + 1) := fun r hr hm e => by
    apply num_inj
    · rw [flip_len, hl, sets_len]
    · rw [e, num_sets n (k + 1) hk]
  have hn : 0 < n := by
    cases n with
    | zero => simp at hk
    | succ n => omega
  cases ho : od k with
  | false =>
    refine ⟨0, hn, rfl, fin 0 hn rfl ?_⟩
    have := flip_up (s := sets n k) (r := 0) (by omega) rfl (by rw [hN, ho]; rfl)
    rw [this, hN]
  | true =>
    have hmem : true ∈ (sets n k).dropLast := by
      refine Classical.byContradiction fun h => ?_
      have hne : sets n k ≠ [] := by
        intro e
        rw [e] at hl
        simp at hl
        omega
      rcases ends_of hne h with e | e
      · rw [hN] at e
        rw [e] at ho
        exact absurd ho (by decide)
      · rw [hN, hl] at e
        omega
    have h1 := fst1_lt hmem
    rw [hl] at h1
    have hm : may (sets n k) (fst1 (sets n k) + 1) = true := (may_succ _ _).mpr ⟨rfl, by omega⟩
    refine ⟨_, h1, hm, fin _ h1 hm ?_⟩
    have := flip_up (s := sets n k) (r := fst1 (sets n k) + 1) (by omega) hm (by rw [hN, ho]; simp)
    rw [this, hN]
/-- the rings that may be changed -/
theorem may_mem {s : List Bool} {r : Nat} (h : true ∈ s.dropLast) : may s r = true ∧ r < s.length ↔ r = 0 ∨ r = fst1 s + 1 := by
  have h1 := fst1_lt h
  cases r with
  | zero => simp [may]; omega
  | succ r =>
    rw [may_succ]
    constructor
    · rintro ⟨⟨e, _⟩, _⟩; right; omega
    · rintro (e | e)
      · omega
      · exact ⟨⟨by omega, by omega⟩, by omega⟩
theorem may_only {s : List Bool} {r : Nat} (hne : s ≠ []) (h : true ∉ s.dropLast) : may s r = true ∧ r < s.length ↔ r = 0 := by
  have hp : 0 < s.length := List.length_pos_iff.mpr hne
  cases r with
  | zero => simp [may]; omega
  | succ r =>
    rw [may_succ]
    constructor
    · rintro ⟨⟨e, h1⟩, h2⟩
      exfalso
      apply h
      have hx : s[r] = true := by
        have := List.findIdx_getElem (p := id) (xs := s) (w := by unfold fst1 at e; omega)
        unfold fst1 at e
        simpa [e] using this
      have : (s.dropLast)[r]? = some true := by
        rw [List.getElem?_dropLast, if_pos (by omega), List.getElem?_eq_getElem h1, hx]
      exact List.mem_of_getElem? this
    · intro e; omega
end G

namespace R
open PySem PySem.Spec PyProof.Rows L2 Evl

/-! ### a def that is called: its promise by its name -/
structure Cal (P : Program) (w : World) (K : PySem.W.Frag) (mg : Str → Option Value) (base : Heap) (x : Str) (k : Nat) (ps : List Str) (sp : Sp) : Prop where
  ex : ∃ (a : Addr) (fd : FuncData), mg x = some (.ref a) ∧ PySem.W.keepIn K (.ref a) = true ∧ Binds K fd ps [] ∧ FnOk P w K mg base CX0 k a fd ps sp
theorem pe_cal {X : Cx} {x : Str} {k : Nat} {ps : List Str} {sp : Sp} {p pos : Pos} {e : Expr} {es : List Expr} {t : TA} (C : Cal X.prog X.w X.K X.mg X.base x k ps sp) (hr : Room k X.A) (ha : PA X (e :: es) t) (hg : Gl X x := by rfl)
    (hdb : (x == ("__debug__" : Str)) = false := by decide) (he : starEach (e :: es) X.env = (false, eval e X.env) :: starEach es X.env := by rfl) (hpl : (backTo pos (starEach es X.env)).any (·.1) = false := by rfl) :
    PE X (.Call (.Name x p) (e :: es) [] pos) (tCall sp [] E0 t) := by
  obtain ⟨a, fd, h1, h2, h3, h4⟩ := C.ex
  exact pe_call h4 hr hg h1 h2 h3 .nil pass0 ha hdb he hpl
theorem cal_mk {P : Program} {w : World} {K : PySem.W.Frag} {mg : Str → Option Value} {base : Heap} {x q : Str} {st : Stmt} {a : Addr} {fd : FuncData} {k : Nat} {ps : List Str} {sp : Sp} (F : Fun K x q st a fd) (hm : mg x = some (.ref a)) (hb : Binds K fd ps []) (h : FnOk P w K mg base CX0 k a fd ps sp) :
    Cal P w K mg base x k ps sp := ⟨a, fd, hm, F.kp, hb, h⟩

/-! ### tuples: what an expression gives, whatever object it is -/
def EvP (K : PySem.W.Frag) (te : TE) (σ : L2.St) (H : Hp) (xs : List V) : Prop := ∀ H1, Ex H H1 → ∀ Q : VK, (∀ p H2, Ex H1 H2 → SqT K H2 p xs → Q (.ref p) H2) → te σ H1 Q
def RetP (K : PySem.W.Frag) (xs : List V) (H : Hp) (Q : VK) : Prop := ∀ p H2, Ex H H2 → SqT K H2 p xs → Q (.ref p) H2
/-- promises -/
def spV (f : List V → Hp → V → Prop) : Sp := fun vs H Q _ => ∃ z, f vs H z ∧ RetV z H Q
def spL (f : List V → Hp → List V → Prop) : Sp := fun vs H Q _ => ∃ xs, f vs H xs ∧ RetL xs H Q
def RetN (xs : List V) (H : Hp) (Q : VK) : Prop := ∀ p H2, Ex H H2 → (∃ o : Obj, H2 p = some (.frz o (.tup xs)) ∧ o.dict = none ∧ o.cls = .type "tuple") → Q (.ref p) H2
def spN (f : List V → Hp → List V → Prop) : Sp := fun vs H Q _ => ∃ xs, f vs H xs ∧ RetN xs H Q
def spP (K : PySem.W.Frag) (f : List V → Hp → List V → Prop) : Sp := fun vs H Q _ => ∃ xs, f vs H xs ∧ RetP K xs H Q
section
variable {K : PySem.W.Frag} {σ : L2.St} {H H' : Hp} {ta tb te tx : TE} {t u : TT} {x y z v : V} {r : R2} {xs ys : List V} {D : Ends} {tu tw tz : TS} {ar : TA} {vs : List V}
theorem EvP.mono (e : Ex H H') (h : EvP K te σ H xs) : EvP K te σ H' xs := fun H1 a Q q => h H1 (e.trans a) Q q
theorem ep_is (h : EvP K te σ H xs) (e : xs = ys) : EvP K te σ H ys := e ▸ h
theorem el_is (h : EvL te σ H xs) (e : xs = ys) : EvL te σ H ys := e ▸ h
theorem ep_ev {a : Addr} (h : Ev te σ H (.ref a)) (hs : SqT K H a xs) : EvP K te σ H xs := fun H1 e Q q => h H1 e _ fun H2 e2 => q a H2 e2 (ex_t (e.trans e2) hs)
theorem ep_u (h : EvU te σ H xs) : EvP K te σ H xs := fun H1 e Q q => h H1 e _ fun p H2 _ e2 hp => q p H2 e2 (st_of hp)
theorem ep_tup (h : EvA ar σ H vs) (hl : vs.length ≤ 100000) : EvP K (tTup ar) σ H vs := ep_u (eu_tup h hl)
theorem sp_v {f : List V → Hp → V → Prop} (h : ∀ H1, Ex H H1 → f (vs ++ []) H1 z) : SpV (spV f) (vs ++ []) H z := fun H1 e Q q E => ⟨z, h H1 e, q⟩
/-- a call that gives a value -/
theorem ev_cal {f : List V → Hp → V → Prop} {E : XK} (h : EvA ar σ H vs) (hs : ∀ H1, Ex H H1 → f (vs ++ []) H1 z) : Ev (tCall (spV f) [] E ar) σ H z := fun H1 e Q q =>
  h H1 e _ fun H2 e2 => ⟨z, hs H2 (e.trans e2), fun H3 e3 => q H3 (e2.trans e3)⟩
theorem el_cal {f : List V → Hp → List V → Prop} {E : XK} (h : EvA ar σ H vs) (hs : ∀ H1, Ex H H1 → f (vs ++ []) H1 xs) : EvL (tCall (spL f) [] E ar) σ H xs := fun H1 e Q q =>
  h H1 e _ fun H2 e2 => ⟨xs, hs H2 (e.trans e2), fun p H3 hp e3 h3 => q p H3 (fresh_back e2 hp) (e2.trans e3) h3⟩
theorem ep_cal {f : List V → Hp → List V → Prop} {E : XK} (h : EvA ar σ H vs) (hs : ∀ H1, Ex H H1 → f (vs ++ []) H1 xs) : EvP K (tCall (spP K f) [] E ar) σ H xs := fun H1 e Q q =>
  h H1 e _ fun H2 e2 => ⟨xs, hs H2 (e.trans e2), fun p H3 e3 h3 => q p H3 (e2.trans e3) h3⟩
/-- arguments one of which is a tuple -/
def EaP (K : PySem.W.Frag) (ar : TA) (σ : L2.St) (H : Hp) (f : Addr → List V) (xs : List V) : Prop := ∀ H1, Ex H H1 → ∀ Q : List V → Hp → Prop, (∀ p H2, Ex H1 H2 → SqT K H2 p xs → Q (f p) H2) → ar σ H1 Q
theorem eap_here {ar : TA} {us : List V} (h : EvP K te σ H xs) (hr : EvA ar σ H us) : EaP K (tCons te ar) σ H (fun p => .ref p :: us) xs := fun H1 e Q q =>
  h H1 e _ fun p H2 e2 hp => hr H2 (e.trans e2) _ fun H3 e3 => q p H3 (e2.trans e3) (ex_t e3 hp)
theorem eap_later {ar : TA} {f : Addr → List V} (h : Ev te σ H x) (hr : EaP K ar σ H f xs) : EaP K (tCons te ar) σ H (fun p => x :: f p) xs := fun H1 e Q q =>
  h H1 e _ fun H2 e2 => hr H2 (e.trans e2) _ fun p H3 e3 hp => q p H3 (e2.trans e3) hp
theorem ev_calP {f : List V → Hp → V → Prop} {E : XK} {g : Addr → List V} (h : EaP K ar σ H g xs) (hs : ∀ p H1, Ex H H1 → SqT K H1 p xs → f (g p ++ []) H1 z) : Ev (tCall (spV f) [] E ar) σ H z := fun H1 e Q q =>
  h H1 e _ fun p H2 e2 hp => ⟨z, hs p H2 (e.trans e2) hp, fun H3 e3 => q H3 (e2.trans e3)⟩
/-- slices, sums, copies -/
theorem ep_sl {tl th : TO} {lo hi : Option Int} (h : EvP K te σ H xs) (h1 : EvO tl σ H lo) (h2 : EvO th σ H hi) : EvP K (tSl (rSlA K) te tl th) σ H (cutV xs lo hi) := fun H1 e Q q =>
  h H1 e _ fun a H2 e2 ha => h1 H2 (e.trans e2) _ fun H3 e3 => h2 H3 ((e.trans e2).trans e3) _ fun H4 e4 =>
    ⟨a, xs, rfl, ex_t (e3.trans e4) ha, fun hw => by
      have z : cutV xs lo hi = xs := by
        unfold cutV
        rw [hw.1, hw.2, List.drop_zero, Nat.sub_zero, List.take_length]
      rw [z] at q
      exact q a H4 ((e2.trans e3).trans e4) (ex_t (e3.trans e4) ha), fun _ p hp => q p _ (((e2.trans e3).trans e4).trans (Ex.new hp)) (st_of upd_same)⟩
theorem ep_cat (ha : EvP K ta σ H xs) (hb : EvP K tb σ H ys) (hz : xs.length + ys.length ≤ 100000) : EvP K (tOp (rCatA K) ta tb) σ H (xs ++ ys) := fun H1 e Q q =>
  ha H1 e _ fun a H2 e2 h2 => hb H2 (e.trans e2) _ fun b H3 e3 h3 => ⟨a, b, xs, ys, rfl, rfl, ex_t e3 h2, h3, sz_of hz, fun z => by
    subst z
    exact q b H3 (e2.trans e3) h3, fun _ z => by
    subst z
    rw [List.append_nil] at q
    exact q a H3 (e2.trans e3) (ex_t e3 h2), fun _ _ p hp => q p _ ((e2.trans e3).trans (Ex.new hp)) (st_of upd_same)⟩
/-- tuple(l), l a list: a new tuple, an object without a dict of its own -/
def TupN (H : Hp) (p : Addr) (xs : List V) : Prop := ∃ o : Obj, H p = some (.frz o (.tup xs)) ∧ o.dict = none ∧ o.cls = .type "tuple"
theorem TupN.sq {p : Addr} (h : TupN H p xs) : SqT K H p xs := by
  obtain ⟨o, h1, _⟩ := h
  exact .inl (.inr ⟨o, h1⟩)
theorem ex_n {p : Addr} (e : Ex H H') (h : TupN H p xs) : TupN H' p xs := by
  obtain ⟨o, h1, h2, h3⟩ := h
  exact ⟨o, e _ _ h1, h2, h3⟩
def EvN (te : TE) (σ : L2.St) (H : Hp) (xs : List V) : Prop := ∀ H1, Ex H H1 → ∀ Q : VK, (∀ p H2, Ex H1 H2 → TupN H2 p xs → Q (.ref p) H2) → te σ H1 Q
theorem en_ev {a : Addr} (h : Ev te σ H (.ref a)) (hs : TupN H a xs) : EvN te σ H xs := fun H1 e Q q => h H1 e _ fun H2 e2 => q a H2 e2 (ex_n (e.trans e2) hs)
theorem ep_n (h : EvN te σ H xs) : EvP K te σ H xs := fun H1 e Q q => h H1 e _ fun p H2 e2 hp => q p H2 e2 hp.sq
theorem en_is (h : EvN te σ H xs) (e : xs = ys) : EvN te σ H ys := e ▸ h
def rTupF (K : PySem.W.Frag) : List V → Hp → VK → Prop := fun vs H Q => ∃ p ys, vs = [.ref p] ∧ SqL K H p ys ∧ ∀ l (o : Obj), H l = none → o.dict = none → o.cls = .type "tuple" → Q (.ref l) (upd H l (.frz o (.tup ys)))
theorem call_tupF {X : Cx} : CallR X (.type "tuple") (rTupF X.K) := by
  intro pins s σ H xs us Q I r h
  obtain ⟨p, ys, rfl, hq, q⟩ := h
  obtain ⟨u, rfl, rx⟩ := vals1 r
  cases rx
  obtain ⟨ws, rw', pl, hz⟩ := I.list hq
  have hlen := rw'.length
  refine call_tuple_list pl.isList (fun h' kp => ?_) (by simp only [List.size_toArray] <;> omega)
  have J : Inv X pins σ H { s with heap := h' } := I.kept (t' := s.toks) kp
  refine ⟨.ref h'.objs.size, _, J.laid (t' := s.toks) (o := .frz { cls := .type "tuple", data := .seq ws.toArray } (.tup ys)) (fun b o e => Heap.get?_push_of_some _ e) (Nat.le_refl _) ?_, rfl, q _ _ (J.hok.fresh (Nat.le_refl _)) rfl rfl⟩
  exact ⟨Heap.get?_push_size _ rfl, hz, ws, rw', IsTup.new _ _⟩
theorem en_tupL (h : EvL te σ H xs) : EvN (tCB (rTupF K) (tCons te tNil)) σ H xs := fun H1 e Q q =>
  h H1 e _ fun p H2 _ e2 h2 => ⟨p, xs, rfl, sq_of h2, fun l o hl h3 h4 => q l _ (e2.trans (Ex.new hl)) ⟨o, upd_same, h3, h4⟩⟩
theorem ep_tupL (h : EvL te σ H xs) : EvP K (tCB (rTupF K) (tCons te tNil)) σ H xs := ep_n (en_tupL h)
theorem ev_lenP (h : EvP K te σ H xs) : Ev (tCB (rLenS K) (tCons te tNil)) σ H (.int (xs.length : Int)) := fun H1 e Q q =>
  h H1 e _ fun p H2 e2 h2 => ⟨p, xs, rfl, .inr h2, q H2 e2⟩
theorem ev_ixP {i : Int} (h : EvP K ta σ H xs) (hi : Ev tb σ H (.int i)) (ha : atI xs i = some v) : Ev (tOp (rIxT K) ta tb) σ H v := fun H1 e Q q =>
  h H1 e _ fun p H2 e2 h2 => hi H2 (e.trans e2) _ fun H3 e3 => ⟨p, xs, i, v, rfl, rfl, ex_t e3 h2, ha, q H3 (e2.trans e3)⟩
theorem ev_inP (hx : Ev ta σ H x) (h : EvP K tb σ H xs) (f1 : flatV x = true) (f2 : xs.all flatV = true) : Ev (tOp (rIn K false) ta tb) σ H (.bl (inV x xs)) := fun H1 e Q q =>
  hx H1 e _ fun H2 e2 => h H2 (e.trans e2) _ fun p H3 e3 h3 => ⟨p, xs, rfl, .inr h3, f1, f2, q H3 (e2.trans e3)⟩
theorem ev_niP (hx : Ev ta σ H x) (h : EvP K tb σ H xs) (f1 : flatV x = true) (f2 : xs.all flatV = true) : Ev (tOp (rIn K true) ta tb) σ H (.bl (!inV x xs)) := fun H1 e Q q =>
  hx H1 e _ fun H2 e2 => h H2 (e.trans e2) _ fun p H3 e3 h3 => ⟨p, xs, rfl, .inr h3, f1, f2, q H3 (e2.trans e3)⟩
/-- equality of two pieces of data -/
theorem ev_eqPP {d1 d2 : List PyData} (ha : EvP K ta σ H xs) (hb : EvP K tb σ H ys) (h1 : ∀ H1, DpAll K H1 xs d1) (h2 : ∀ H1, DpAll K H1 ys d2) (s1 : SeqAt.shaped (.tuple d1) = true) (s2 : SeqAt.shaped (.tuple d2) = true) :
    Ev (tOp (rEqD K) ta tb) σ H (.bl (PyData.eqv (.tuple d1) (.tuple d2))) := fun H1 e Q q =>
  ha H1 e _ fun a H2 e2 g1 => hb H2 (e.trans e2) _ fun b H3 e3 g2 => ⟨_, _, .tup (ex_t e3 g1) (h1 _), .tup g2 (h2 _), s1, s2, q H3 (e2.trans e3)⟩
theorem ev_nePP {d1 d2 : List PyData} (ha : EvP K ta σ H xs) (hb : EvP K tb σ H ys) (h1 : ∀ H1, DpAll K H1 xs d1) (h2 : ∀ H1, DpAll K H1 ys d2) (s1 : SeqAt.shaped (.tuple d1) = true) (s2 : SeqAt.shaped (.tuple d2) = true) :
    Ev (tOp (rNeD K) ta tb) σ H (.bl (!PyData.eqv (.tuple d1) (.tuple d2))) := fun H1 e Q q =>
  ha H1 e _ fun a H2 e2 g1 => hb H2 (e.trans e2) _ fun b H3 e3 g2 => ⟨_, _, .tup (ex_t e3 g1) (h1 _), .tup g2 (h2 _), s1, s2, q H3 (e2.trans e3)⟩
theorem ev_eqLL {d1 d2 : List PyData} (ha : EvL ta σ H xs) (hb : EvL tb σ H ys) (h1 : ∀ H1, DpAll K H1 xs d1) (h2 : ∀ H1, DpAll K H1 ys d2) (s1 : SeqAt.shaped (.list d1) = true) (s2 : SeqAt.shaped (.list d2) = true) :
    Ev (tOp (rEqD K) ta tb) σ H (.bl (PyData.eqv (.list d1) (.list d2))) := fun H1 e Q q =>
  ha H1 e _ fun a H2 _ e2 g1 => hb H2 (e.trans e2) _ fun b H3 _ e3 g2 => ⟨_, _, .lst (sq_of (e3 _ _ g1)) (h1 _), .lst (sq_of g2) (h2 _), s1, s2, q H3 (e2.trans e3)⟩
/-! lists of ints, of truths as ints -/
theorem dp_ints : ∀ (ns : List Int) (H1 : Hp), DpAll K H1 (ns.map V.int) (ns.map PyData.int)
  | [], _ => .nil
  | n :: ns, H1 => .cons (.int n) (dp_ints ns H1)
theorem lay_ints : ∀ ns : List Int, PyData.canLayAll0 (ns.map PyData.int) = true
  | [] => rfl
  | n :: ns => by
    show (PyData.canLay0 (.int n) && PyData.canLayAll0 (ns.map PyData.int)) = true
    rw [lay_ints ns]
    rfl
theorem depth_ints : ∀ ns : List Int, PyData.depthAll (ns.map PyData.int) = 0
  | [] => by simp [PyData.depthAll]
  | n :: ns => by simp [PyData.depthAll, PyData.depth, depth_ints ns]
theorem shaped_tup (ns : List Int) : SeqAt.shaped (.tuple (ns.map PyData.int)) = true := by
  unfold SeqAt.shaped
  rw [show PyData.canLay0 (.tuple (ns.map PyData.int)) = PyData.canLayAll0 (ns.map PyData.int) by simp [PyData.canLay0], lay_ints]
  rw [show PyData.depth (.tuple (ns.map PyData.int)) = PyData.depthAll (ns.map PyData.int) + 1 by simp [PyData.depth], depth_ints]
  rfl
theorem shaped_lst (ns : List Int) : SeqAt.shaped (.list (ns.map PyData.int)) = true := by
  unfold SeqAt.shaped
  rw [show PyData.canLay0 (.list (ns.map PyData.int)) = PyData.canLayAll0 (ns.map PyData.int) by simp [PyData.canLay0], lay_ints]
  rw [show PyData.depth (.list (ns.map PyData.int)) = PyData.depthAll (ns.map PyData.int) + 1 by simp [PyData.depth], depth_ints]
  rfl
theorem eqv_ints : ∀ ns ms : List Int, PyData.eqvAll (ns.map PyData.int) (ms.map PyData.int) = decide (ns = ms)
  | [], [] => by simp [PyData.eqvAll]
  | [], m :: ms => by simp [PyData.eqvAll]
  | n :: ns, [] => by simp [PyData.eqvAll]
  | n :: ns, m :: ms => by
    have ih := eqv_ints ns ms
    show (PyData.eqv (.int n) (.int m) && PyData.eqvAll (ns.map PyData.int) (ms.map PyData.int)) = _
    rw [ih]
    by_cases h1 : n = m <;> by_cases h2 : ns = ms <;> simp [PyData.eqv, h1, h2]
theorem ev_eqT {ns ms : List Int} (ha : EvP K ta σ H (ns.map V.int)) (hb : EvP K tb σ H (ms.map V.int)) : Ev (tOp (rEqD K) ta tb) σ H (.bl (decide (ns = ms))) := by
  have h := ev_eqPP ha hb (dp_ints ns) (dp_ints ms) (shaped_tup ns) (shaped_tup ms)
  rw [show PyData.eqv (.tuple (ns.map PyData.int)) (.tuple (ms.map PyData.int)) = PyData.eqvAll (ns.map PyData.int) (ms.map PyData.int) by simp [PyData.eqv], eqv_ints] at h
  exact h
theorem ev_neT {ns ms : List Int} (ha : EvP K ta σ H (ns.map V.int)) (hb : EvP K tb σ H (ms.map V.int)) : Ev (tOp (rNeD K) ta tb) σ H (.bl (!decide (ns = ms))) := by
  have h := ev_nePP ha hb (dp_ints ns) (dp_ints ms) (shaped_tup ns) (shaped_tup ms)
  rw [show PyData.eqv (.tuple (ns.map PyData.int)) (.tuple (ms.map PyData.int)) = PyData.eqvAll (ns.map PyData.int) (ms.map PyData.int) by simp [PyData.eqv], eqv_ints] at h
  exact h
theorem ev_eqLI {ns ms : List Int} (ha : EvL ta σ H (ns.map V.int)) (hb : EvL tb σ H (ms.map V.int)) : Ev (tOp (rEqD K) ta tb) σ H (.bl (decide (ns = ms))) := by
  have h := ev_eqLL (K := K) ha hb (dp_ints ns) (dp_ints ms) (shaped_lst ns) (shaped_lst ms)
  rw [show PyData.eqv (.list (ns.map PyData.int)) (.list (ms.map PyData.int)) = PyData.eqvAll (ns.map PyData.int) (ms.map PyData.int) by simp [PyData.eqv], eqv_ints] at h
  exact h
theorem en_cal {f : List V → Hp → List V → Prop} {E : XK} (h : EvA ar σ H vs) (hs : ∀ H1, Ex H H1 → f (vs ++ []) H1 xs) : EvN (tCall (spN f) [] E ar) σ H xs := fun H1 e Q q =>
  h H1 e _ fun H2 e2 => ⟨xs, hs H2 (e.trans e2), fun p H3 e3 h3 => q p H3 (e2.trans e3) h3⟩
/-! statements -/
theorem s_asgN {i : Nat} (h : EvN te σ H xs) (k : ∀ p H1, Ex H H1 → TupN H1 p xs → D.nx (σ.set i (some (.ref p))) H1) : tAsg te (gName i) D σ H := h H (Ex.refl H) _ fun p H1 e h1 => k p H1 e h1
theorem q_asgN {i : Nat} (h : EvN te σ H xs) (k : ∀ p H1, Ex H H1 → TupN H1 p xs → tz D (σ.set i (some (.ref p))) H1) : tSeq (tAsg te (gName i)) tz D σ H := s_asgN (D := { D with nx := tz D }) h k
theorem s_retN (h : EvN te σ H xs) (k : ∀ p H1, Ex H H1 → TupN H1 p xs → D.rt (.ref p) H1) : tRet te D σ H := h H (Ex.refl H) _ fun p H1 e h1 => k p H1 e h1
theorem s_asgP {i : Nat} (h : EvP K te σ H xs) (k : ∀ p H1, Ex H H1 → SqT K H1 p xs → D.nx (σ.set i (some (.ref p))) H1) : tAsg te (gName i) D σ H := h H (Ex.refl H) _ fun p H1 e h1 => k p H1 e h1
theorem q_asgP {i : Nat} (h : EvP K te σ H xs) (k : ∀ p H1, Ex H H1 → SqT K H1 p xs → tz D (σ.set i (some (.ref p))) H1) : tSeq (tAsg te (gName i)) tz D σ H := s_asgP (D := { D with nx := tz D }) h k
theorem s_retP (h : EvP K te σ H xs) (k : ∀ p H1, Ex H H1 → SqT K H1 p xs → D.rt (.ref p) H1) : tRet te D σ H := h H (Ex.refl H) _ fun p H1 e h1 => k p H1 e h1
/-- ways of an if that are all there is -/
theorem q_dead {b : Bool} (h : EvT t σ H b) (hb : b = false) (k : ∀ H1, Ex H H1 → tz D σ H1) : tSeq (tIfS t tu tNext) tz D σ H := q_when h (fun z => by rw [hb] at z; cases z) fun _ => k
theorem s_dead {b : Bool} (h : EvT t σ H b) (hb : b = false) (k : ∀ H1, Ex H H1 → D.nx σ H1) : tIfS t tu tNext D σ H := s_when h (fun z => by rw [hb] at z; cases z) fun _ => k
/-- chains -/
theorem ev_chain {r' : R2} {tc : TE} {a b : Bool} {c : V} (ha : Ev ta σ H x) (hb : Ev tb σ H y) (h1 : RV r x y H (.bl a)) (h2 : a = true → ∃ c, Ev tc σ H c ∧ RV r' y c H (.bl b)) (h3 : a = false → b = false) : Ev (tChain r r' ta tb tc) σ H (.bl b) := fun H1 e Q q =>
  ha H1 e _ fun H2 e2 => hb H2 (e.trans e2) _ fun H3 e3 => h1 H3 ((e.trans e2).trans e3) _ fun H4 e4 => ⟨a, rfl, by
    cases a with
    | true =>
      rw [if_pos rfl]
      obtain ⟨c, hc, hr⟩ := h2 rfl
      exact hc H4 (((e.trans e2).trans e3).trans e4) _ fun H5 e5 => hr H5 ((((e.trans e2).trans e3).trans e4).trans e5) _ fun H6 e6 => q H6 ((((e2.trans e3).trans e4).trans e5).trans e6)
    | false =>
      have z := h3 rfl
      subst z
      rw [if_neg Bool.false_ne_true]
      exact q H4 ((e2.trans e3).trans e4)⟩
/-- types -/
theorem rv_tyEq {a b : String} (ha : TyM a) (hb : TyM b) : RV rTyEq (.ty a) (.ty b) H (.bl (decide (a = b))) := fun H1 _ _ q => ⟨a, b, rfl, rfl, ha, hb, q H1 (Ex.refl H1)⟩
theorem rv_tyNe {a b : String} (ha : TyM a) (hb : TyM b) : RV rTyNe (.ty a) (.ty b) H (.bl (!decide (a = b))) := fun H1 _ _ q => ⟨a, b, rfl, rfl, ha, hb, q H1 (Ex.refl H1)⟩
theorem ev_type {T : String} (h : Ev te σ H x) (ht : ∀ H1, Ex H H1 → TyB K H1 x T) : Ev (tCB (rTyp K) (tCons te tNil)) σ H (.ty T) := fun H1 e Q q =>
  h H1 e _ fun H2 e2 => ⟨x, T, rfl, ht H2 (e.trans e2), q H2 e2⟩
/-- isinstance(x, c), c a built-in class -/
theorem ev_isi {c : String} {T : String} {b : Bool} (h : EvA ar σ H [x, .ty c]) (ht : ∀ H1, Ex H H1 → TyX K H1 x (.type T)) (hk : kitB T c = some b) : Ev (tCB (rIsi K) ar) σ H (.bl b) := fun H1 e Q q =>
  h H1 e _ fun H2 e2 => ⟨x, .ty c, .type T, .type c, b, rfl, .ty c, ht H2 (e.trans e2), kit_ty hk, q H2 e2⟩
theorem ev_isiP {c : String} {b : Bool} (h : EaP K ar σ H (fun p => [.ref p, .ty c]) xs) (hk : kitB "tuple" c = some b) (ht : ∀ p H1, SqT K H1 p xs → TyX K H1 (.ref p) (.type "tuple")) : Ev (tCB (rIsi K) ar) σ H (.bl b) := fun H1 e Q q =>
  h H1 e _ fun p H2 e2 hp => ⟨.ref p, .ty c, .type "tuple", .type c, b, rfl, .ty c, ht p H2 hp, kit_ty hk, q H2 e2⟩
theorem tyx_tup {p : Addr} (h : SqT K H p xs) : TyX K H (.ref p) (.type "tuple") := by
  rcases h with (h | ⟨o, h⟩) | ⟨o, its, n, h1, h2, _⟩
  · exact .base (.tup h)
  · exact .fTuple h
  · exact .kTuple h1 h2
theorem tyx_lst {p : Addr} (h : SqL K H p xs) : TyX K H (.ref p) (.type "list") := by
  rcases h with (h | ⟨o, h⟩) | ⟨o, its, n, h1, h2, _⟩
  · exact .base (.lst h)
  · exact .base (.frz h)
  · exact .kList h1 h2
theorem tyx_int {i : Int} : TyX K H (.int i) (.type "int") := .base (.int i)
/-- comprehensions over a tuple -/
theorem el_lcP {tl : TE} {j : Nat} {ws : List Nat} (f : Nat → Bool) (g : Nat → V) (h : EvP K tl σ H xs) (hz : xs.length ≤ 40000) (hw : ∀ x, wipe ((wipe σ ws).set j (some x)) ws = wipe σ ws)
    (ht : ∀ (i : Nat) (x : V) H1, Ex H H1 → xs[i]? = some x → EvT t ((wipe σ ws).set j (some x)) H1 (f i)) (he : ∀ (i : Nat) (x : V) H1, Ex H H1 → xs[i]? = some x → f i = true → Ev te ((wipe σ ws).set j (some x)) H1 (g i)) :
    EvL (tLc (iTup K tl) (gName j) t te ws) σ H (given xs.length f g) := fun H0 e Q q => h H0 e _ fun a H1 e1 hx => ⟨a, rfl, ⟨xs, hx⟩, fun Dl hD =>
  lc_tup (xs := xs) (Cw H1 f g Dl) ⟨hD, Ex.new hD, upd_same⟩ (fun i H' _ p => ex_t p.2.1 hx) (fun i x H' hi p => ⟨hw x, cw_turn p (by have := (List.getElem?_eq_some_iff.mp hi).1; omega) (ht i x H1 (e.trans e1) hi) (fun hf => he i x H1 (e.trans e1) hi hf)⟩)
    (fun H' p => q Dl H' (fresh_back e1 p.1) (e1.trans p.2.1) p.2.2)⟩
end
/-! settings -/
def cb (b : Bool) : V := .int (if b then 1 else 0)
def ib (b : Bool) : Int := if b then 1 else 0
theorem cb_map (bs : List Bool) : bs.map cb = (bs.map ib).map V.int := by
  rw [List.map_map]
  rfl
theorem ib_inj {a b : Bool} (h : ib a = ib b) : a = b := by cases a <;> cases b <;> first | rfl | (exact absurd h (by decide))
theorem ibs_inj : ∀ {as bs : List Bool}, as.map ib = bs.map ib → as = bs
  | [], [], _ => rfl
  | [], _ :: _, h => by simp at h
  | _ :: _, [], h => by simp at h
  | a :: as, b :: bs, h => by
    rw [List.map_cons, List.map_cons] at h
    injection h with h1 h2
    rw [ib_inj h1, ibs_inj h2]
theorem ibs_dec (as bs : List Bool) : decide (as.map ib = bs.map ib) = decide (as = bs) := by
  by_cases h : as = bs
  · subst h
    rw [decide_eq_true rfl, decide_eq_true rfl]
  · rw [decide_eq_false h, decide_eq_false (fun z => h (ibs_inj z))]
section
variable {K : PySem.W.Frag} {σ : L2.St} {H H' : Hp} {ta tb te tx : TE}
theorem ev_eqS {as bs : List Bool} (ha : EvP K ta σ H (as.map cb)) (hb : EvP K tb σ H (bs.map cb)) : Ev (tOp (rEqD K) ta tb) σ H (.bl (decide (as = bs))) := by
  rw [cb_map] at ha hb
  rw [← ibs_dec]
  exact ev_eqT ha hb
theorem ev_neS {as bs : List Bool} (ha : EvP K ta σ H (as.map cb)) (hb : EvP K tb σ H (bs.map cb)) : Ev (tOp (rNeD K) ta tb) σ H (.bl (!decide (as = bs))) := by
  rw [cb_map] at ha hb
  rw [← ibs_dec]
  exact ev_neT ha hb
theorem flat_cb (bs : List Bool) : (bs.map cb).all flatV = true := by
  rw [List.all_map]
  exact List.all_eq_true.mpr fun _ _ => rfl
theorem in_cb : ∀ (bs : List Bool), inV (.int 1) (bs.map cb) = bs.any id
  | [] => rfl
  | b :: bs => by
    have ih := in_cb bs
    unfold inV at ih ⊢
    rw [List.map_cons, List.any_cons, ih, List.any_cons]
    cases b <;> rfl
end
end R

namespace R
open PySem PySem.Spec PyProof.Rows L2 Evl
section
variable {K : PySem.W.Frag} {σ : L2.St} {H H' : Hp} {ta tb tc te tx : TE} {t u : TT} {x y z v : V} {r r' : R2} {xs ys : List V} {D : Ends} {tu tw tz : TS} {ar : TA} {vs : List V}
theorem ev_chain2 {a b : Bool} {c : V} (ha : Ev ta σ H x) (hb : Ev tb σ H y) (h1 : RV r x y H (.bl a)) (hc : Ev tc σ H c) (h2 : RV r' y c H (.bl b)) : Ev (tChain r r' ta tb tc) σ H (.bl (a && b)) :=
  ev_chain (c := c) ha hb h1 (fun z => ⟨c, hc, by rw [z, Bool.true_and]; exact h2⟩) (fun z => by rw [z, Bool.false_and])
theorem ev_cast {w : V} (h : Ev te σ H v) (e : v = w := by first | rfl | simp) : Ev te σ H w := e ▸ h
theorem et_cast {a b : Bool} (h : EvT t σ H a) (e : a = b := by first | rfl | simp) : EvT t σ H b := e ▸ h
theorem ev_bits {i : Int} (h : Ev te σ H (.int i)) : Ev (tBits te) σ H (.int (Builtin.Int.intBits i : Nat)) := fun H1 e Q q => h H1 e _ fun H2 e2 => ⟨i, rfl, q H2 e2⟩
def rMin2 : List V → Hp → VK → Prop := fun xs H Q => ∃ i j, xs = [.int i, .int j] ∧ Q (.int (if j < i then j else i)) H
theorem ev_min2 {i j : Int} (ha : Ev ta σ H (.int i)) (hb : Ev tb σ H (.int j)) : Ev (tCB rMin2 (tCons ta (tCons tb tNil))) σ H (.int (if j < i then j else i)) := fun H1 e Q q =>
  ha H1 e _ fun H2 e2 => hb H2 (e.trans e2) _ fun H3 e3 => ⟨i, j, rfl, q H3 (e2.trans e3)⟩
def rAbs : List V → Hp → VK → Prop := fun xs H Q => ∃ i, xs = [.int i] ∧ Q (.int (if i < 0 then -i else i)) H
theorem ev_abs {i : Int} (ha : Ev ta σ H (.int i)) : Ev (tCB rAbs (tCons ta tNil)) σ H (.int (if i < 0 then -i else i)) := fun H1 e Q q => ha H1 e _ fun H2 e2 => ⟨i, rfl, q H2 e2⟩
/-- for x in reversed(t), t a tuple -/
theorem s_forRT {tl : TE} {j : Nat} {a : Addr} (h : Ev tl σ H (.ref a)) (hx : SqT K H a xs) (Pv : Nat → L2.St → Hp → Prop) (h0 : ∀ H1, Ex H H1 → Pv 0 σ H1) (hl : ∀ i σ' H', i ≤ xs.length → Pv i σ' H' → SqT K H' a xs)
    (hs : ∀ i x σ' H', xs[xs.length - 1 - i]? = some x → i < xs.length → Pv i σ' H' → tu { D with nx := Pv (i + 1), ct := Pv (i + 1), bk := D.nx } (σ'.set j (some x)) H') (hd : ∀ σ' H', Pv xs.length σ' H' → D.nx σ' H') :
    tFor (RT.iRevA K tl) (gName j) tu D σ H := h H (Ex.refl H) _ fun H1 e => by
  refine ⟨a, xs, rfl, .inr ⟨ex_t e hx, fun i m σ' H' => Pv i σ' H' ∧ i + m = xs.length, ⟨xs.length, h0 H1 e, by omega⟩, fun i m σ' H' hw => ?_⟩⟩
  obtain ⟨p, hm⟩ := hw
  have hx' : SqT K H' a xs := hl i σ' H' (by omega) p
  by_cases hi : i < xs.length
  · have hk : xs.length - 1 - i < xs.length := by omega
    have hg : xs[xs.length - 1 - i]? = some xs[xs.length - 1 - i] := List.getElem?_eq_getElem hk
    refine .inr ⟨⟨hi, xs, _, hx', hg⟩, fun σ2 H2 => Pv (i + 1) σ2 H2, fun σ2 H2 n => ⟨m - 1, by omega, n, by omega⟩, fun y H2 hy => ?_⟩
    obtain ⟨rfl, hy⟩ := hy
    exact hs i y σ' H2 (hy xs hx') hi p
  · have e2 : i = xs.length := by omega
    subst e2
    exact .inl ⟨Nat.le_refl _, hd σ' H' p⟩
theorem q_forRT {tl : TE} {j : Nat} {a : Addr} (h : Ev tl σ H (.ref a)) (hx : SqT K H a xs) (Pv : Nat → L2.St → Hp → Prop) (h0 : ∀ H1, Ex H H1 → Pv 0 σ H1) (hl : ∀ i σ' H', i ≤ xs.length → Pv i σ' H' → SqT K H' a xs)
    (hs : ∀ i x σ' H', xs[xs.length - 1 - i]? = some x → i < xs.length → Pv i σ' H' → tu { D with nx := Pv (i + 1), ct := Pv (i + 1), bk := tz D } (σ'.set j (some x)) H') (hd : ∀ σ' H', Pv xs.length σ' H' → tz D σ' H') :
    tSeq (tFor (RT.iRevA K tl) (gName j) tu) tz D σ H := s_forRT (D := { D with nx := tz D }) h hx Pv h0 hl hs hd
theorem q_forTn {tl : TE} {j : Nat} {a : Addr} (h : Ev tl σ H (.ref a)) (hx : SqT K H a xs) (Pv : Nat → L2.St → Hp → Prop) (h0 : ∀ H1, Ex H H1 → Pv 0 σ H1) (hl : ∀ i σ' H', i ≤ xs.length → Pv i σ' H' → SqT K H' a xs)
    (hs : ∀ i x σ' H', xs[i]? = some x → Pv i σ' H' → tu { D with nx := Pv (i + 1), ct := Pv (i + 1), bk := tz D } (σ'.set j (some x)) H') (hd : ∀ σ' H', Pv xs.length σ' H' → tz D σ' H') : tSeq (tFor (iTup K tl) (gName j) tu) tz D σ H :=
  q_forT (D := D) h hx Pv h0 hl hs hd
theorem s_forTn {tl : TE} {j : Nat} {a : Addr} (h : Ev tl σ H (.ref a)) (hx : SqT K H a xs) (Pv : Nat → L2.St → Hp → Prop) (h0 : ∀ H1, Ex H H1 → Pv 0 σ H1) (hl : ∀ i σ' H', i ≤ xs.length → Pv i σ' H' → SqT K H' a xs)
    (hs : ∀ i x σ' H', xs[i]? = some x → Pv i σ' H' → tu { D with nx := Pv (i + 1), ct := Pv (i + 1), bk := D.nx } (σ'.set j (some x)) H') (hd : ∀ σ' H', Pv xs.length σ' H' → D.nx σ' H') : tFor (iTup K tl) (gName j) tu D σ H :=
  s_forT h hx Pv h0 hl hs hd
end
end R

namespace R
open PySem PySem.Spec PyProof.Rows L2 Evl
open AutoSeq1 (wpAny_loadPart')
open MeetsSeq MeetsSeq2 MeetsSeq3 SeqRoads2
theorem tmul_one (l : Addr) (ws : Array Value) (n : Nat) (od : Option Addr) (sl : Array (Option Value)) (u : Tok) :
    Meets (Builtin.«tuple.__mul__» ⟨[.ref l, .int 1 u], []⟩) (fun _ R s => s.heap.get? l = some { cls := .type "tuple", dict := od, data := .seq ws n, slots := sl } ∧ R (.ok (.ret (Value.ref l))) s) :=
  .of_wp fun prog w A R s hh => by
    obtain ⟨hp, g, d, tk, os⟩ := s
    obtain ⟨hl, hh⟩ := hh
    have f1 := AutoSeq1.idx_int
    have c0 : (decide ((1 : Int) < -(2 ^ 63)) || decide ((1 : Int) ≥ 2 ^ 63)) = false := by decide
    have c1 : (ws.isEmpty || (1 : Int) == 1) = true := by simp
    wp_walk using wpAny_loadPart' hl
    exact ⟨_, rfl, hh⟩
theorem tmul_zero (l : Addr) (ws : Array Value) (n : Nat) (od : Option Addr) (sl : Array (Option Value)) (u : Tok) (hw : ws.isEmpty = false) :
    Meets (Builtin.«tuple.__mul__» ⟨[.ref l, .int 0 u], []⟩) (fun _ R s => s.heap.get? l = some { cls := .type "tuple", dict := od, data := .seq ws n, slots := sl } ∧
      R (.ok (.ret (Value.ref s.heap.objs.size))) { s with heap := s.heap.push { cls := Value.type "tuple", data := Data.seq #[] }, toks := s.toks }) :=
  .of_wp fun prog w A R s hh => by
    obtain ⟨hp, g, d, tk, os⟩ := s
    obtain ⟨hl, hh⟩ := hh
    have f1 := AutoSeq1.idx_int
    have c1 : (ws.isEmpty || (0 : Int) == 1) = false := by rw [hw]; rfl
    wp_walk using wpAny_loadPart' hl
    repeat (first
      | (refine wpAny_ite_false (decide_eq_false (by rw [c1]; exact Bool.false_ne_true)) ?_; wp_walk using wpAny_loadPart' hl))
    exact ⟨_, rfl, hh⟩
def rRepA (K : PySem.W.Frag) : R2 := fun x y H Q => ∃ l k xs, x = .ref l ∧ y = .int k ∧ SqT K H l xs ∧ xs ≠ [] ∧ 0 ≤ k ∧ k ≤ 1000 ∧ xs.length ≤ 1000 ∧ (k = 1 → Q (.ref l) H) ∧ (k ≠ 1 → ∀ p, H p = none → Q (.ref p) (upd H p (.tup (List.replicate k.toNat xs).flatten)))
def rTIdx (K : PySem.W.Frag) : V → List V → Hp → VK → Prop := fun x xs H Q => ∃ p, ∃ ns : List Int, ∃ z j, x = .ref p ∧ xs = [.int z] ∧ SqT K H p (ns.map V.int) ∧ ns[j]? = some z ∧ (∀ m, m < j → ns[m]? ≠ some z) ∧ Q (.int (j : Nat)) H
def tTIdx (K : PySem.W.Frag) (to : TE) (t : TA) : TE := fun σ H Q => to σ H fun x H1 => (∃ p xs, x = .ref p ∧ TupN H1 p xs) ∧ t σ H1 fun vs H2 => rTIdx K x vs H2 Q
section
variable {X : Cx}
theorem op_repA : OpR X (binaryOp .Mult) (rRepA X.K) := by
  intro pins s σ H x y v u Q I rx ry h
  obtain ⟨l, k, xs, rfl, rfl, hT, hne, h1, h2, hz, q1, q2⟩ := h
  by_cases hk : 2 ≤ k
  · exact op_repT pins s σ H _ _ v u Q I rx ry ⟨l, k, xs, rfl, rfl, hT, hne, hk, h2, hz, q2 (by omega)⟩
  cases rx
  obtain ⟨t, rfl⟩ := ry
  obtain ⟨us, ru, ⟨⟨cc, od, da, sl⟩, ho, hc, n, hd⟩, hs⟩ := I.tuple hT
  simp only at hc hd
  subst hc hd
  have hn : us ≠ [] := fun e => hne (by
    subst e
    exact List.eq_nil_of_length_eq_zero ru.length)
  have hi : us.toArray.isEmpty = false := by
    cases us with
    | nil => exact absurd rfl hn
    | cons a b => rfl
  rcases (show k = 0 ∨ k = 1 by omega) with rfl | rfl
  · refine wpAny_binaryOp_repeat_ref (T := "tuple") (U := "int") (by decide) ⟨_, ho, rfl⟩ (fun s' => typeIs_int s' 0 t) noFill_tuple_mul F.fills_int_mul F.slot_int_rmul repeat_tuple F.slot_int_index.lookup
      (call_meets F.slot_int_rmul (typeIs_int s 0 t) F.entry_int_rmul (F.args_int_rmul_2 _ _) (int_rmul_tuple 0 t l us.toArray n od sl)
        ⟨ho, rfl, ⟨_, ho, rfl⟩, call_meets F.slot_tuple_mul ⟨_, ho, rfl⟩ F.entry_tuple_mul (F.args_tuple_mul_2 _ _) (tmul_zero l us.toArray n od sl t hi) ⟨ho, ?_⟩⟩)
    refine ⟨.ref s.heap.objs.size, _, I.laid (t' := s.toks) (o := .tup []) (fun b ob q => Heap.get?_push_of_some _ q) (Nat.le_refl _) ?_, rfl, q2 (by decide) _ (I.hok.fresh (Nat.le_refl _))⟩
    exact ⟨Nat.zero_le _, [], .nil, IsTup.new _ _⟩
  · exact wpAny_binaryOp_repeat_ref (T := "tuple") (U := "int") (by decide) ⟨_, ho, rfl⟩ (fun s' => typeIs_int s' 1 t) noFill_tuple_mul F.fills_int_mul F.slot_int_rmul repeat_tuple F.slot_int_index.lookup
      (call_meets F.slot_int_rmul (typeIs_int s 1 t) F.entry_int_rmul (F.args_int_rmul_2 _ _) (int_rmul_tuple 1 t l us.toArray n od sl)
        ⟨ho, rfl, ⟨_, ho, rfl⟩, call_meets F.slot_tuple_mul ⟨_, ho, rfl⟩ F.entry_tuple_mul (F.args_tuple_mul_2 _ _) (tmul_one l us.toArray n od sl t) ⟨ho, ⟨.ref l, H, I, rfl, q1 rfl⟩⟩⟩)
/-- t.index(k), t a tuple of ints -/
theorem mt_tindex : MtR X "tuple.index" (rTIdx X.K) := by
  intro pins s σ H x xs v us Q I rx rs h
  obtain ⟨p, ns, z, j, rfl, rfl, hq, hy, hno, q⟩ := h
  cases rx
  obtain ⟨u, rfl, t, rfl⟩ := vals1 rs
  obtain ⟨ws, r, ⟨⟨cc, od, da, sl⟩, ho, hc, n, hd⟩, hz⟩ := I.tuple hq
  simp only at hc hd
  subst hc hd
  have hl : ws.toArray.size = ns.length := by rw [List.size_toArray, ← r.length, List.length_map]
  have hj : j < ws.toArray.size := by
    have := (List.getElem?_eq_some_iff.mp hy).1
    omega
  have fl : (ns.map V.int).all flatV = true := by
    rw [List.all_map]
    exact List.all_eq_true.mpr fun _ _ => rfl
  have it : ∀ (m : Nat) (hm : m < ws.toArray.size), ∃ y t', ns[m]? = some y ∧ ws.toArray[m] = Value.int y t' := fun m hm => by
    have hm' : m < ns.length := by omega
    obtain ⟨w, hw, t', hw'⟩ := r.get (i := m) (x := .int ns[m]) (by simp [hm'])
    refine ⟨ns[m], t', List.getElem?_eq_getElem hm', ?_⟩
    have e := (List.getElem?_eq_some_iff.mp hw).2
    rw [← hw', ← e] <;> simp
  refine call_meets PySem.F.slot_tuple_index ⟨_, ho, rfl⟩ PySem.F.entry_tuple_index (PySem.F.args_tuple_index_2 _ _) (TI.tuple_indexAt p ws.toArray n od sl (.int z t) (eqU (.int z)) j hj ?_ ?_)
    ⟨ho, fun w hw => mem_eqAt (x := .int z) ⟨t, rfl⟩ rfl r fl w (by simpa using hw), ⟨.int (j : Nat), H, I.tok _, ⟨_, rfl⟩, q⟩⟩
  · obtain ⟨y, t', h1, h2⟩ := it j hj
    rw [hy] at h1
    cases h1
    rw [h2]
    show (z == z) = true
    exact beq_self_eq_true z
  · intro m hm hmj
    obtain ⟨y, t', h1, h2⟩ := it m hm
    rw [h2]
    show (y == z) = false
    exact beq_eq_false_iff_ne.mpr fun e => hno m hmj (e ▸ h1)
theorem pe_tindex {o e : Expr} {es : List Expr} {to : TE} {t : TA} {apos cpos : Pos} (ho : PE X o to) (ha : PA X (e :: es) t)
    (hb : attributeBase o "index" X.env (eval o X.env) = eval o X.env := by rfl)
    (hf : ((backTo cpos (starEach (e :: es) X.env)).all (fun x => !x.1) && (backToKw cpos (keywordEach [] X.env)).all (fun x => x.1.isSome)
      && decide ((e :: es).length + ([] : List Keyword).length + (if ([] : List Keyword).isEmpty then 0 else 1) < 30)) = true := by rfl)
    (hn : (apos.endLine == cpos.line) = true := by rfl) (hz : starEach (e :: es) X.env = (false, eval e X.env) :: starEach es X.env := by rfl) (hp : (backTo cpos (starEach es X.env)).any (·.1) = false := by rfl) :
    PE X (.Call (.Attribute o "index" apos) (e :: es) [] cpos) (tTIdx X.K to t) := by
  refine ⟨fun pins s σ H Q I h => ?_⟩
  refine wpAny_Call_method_late hb hf hn rfl (thn (ho.run pins s σ H _ I h) fun v s1 ⟨x, H1, I1, r1, ty, q1⟩ => ?_)
  obtain ⟨p, xs, rfl, ob, g1, g2, g3⟩ := ty
  obtain rfl : v = Value.ref p := r1
  have g4 := (I1.hok p _ g1).1
  refine ⟨"tuple", "tuple.index", PySem.F.plainAttrs_tuple, PySem.F.slot_tuple_index, PySem.F.type_tuple_index, ⟨ob, g4, g3⟩, fun a ea => ?_, ?_⟩
  · cases ea
    exact ⟨ob, g4, g2⟩
  have hA := ha.run cpos pins s1 σ H1 _ I1 q1
  rw [hz] at hA ⊢
  refine Calls.callWith_builtin (by show (false || (backTo cpos (starEach es X.env)).any (·.1)) = false; rw [hp] <;> rfl) (Calls.evalArgs_plain ?_)
  exact thn hA fun us s2 ⟨vs, H2, I2, r2, q2⟩ => mt_tindex pins s2 σ H2 (.ref p) vs (.ref p) us Q I2 rfl r2 q2
end
section
variable {K : PySem.W.Frag} {σ : L2.St} {H H' : Hp} {ta tb tc te tx : TE} {xs : List V} {v : V}
theorem ev_tindex {ns : List Int} {z : Int} {j : Nat} (ha : EvN ta σ H (ns.map V.int)) (hb : Ev tb σ H (.int z)) (hj : ns[j]? = some z) (hm : ∀ m, m < j → ns[m]? ≠ some z) : Ev (tTIdx K ta (tCons tb tNil)) σ H (.int (j : Nat)) := fun H1 e Q q =>
  ha H1 e _ fun p H2 e2 hp => ⟨⟨p, _, rfl, hp⟩, hb H2 (e.trans e2) _ fun H3 e3 => ⟨p, ns, z, j, rfl, rfl, (ex_n e3 hp).sq, hj, hm, q H3 (e2.trans e3)⟩⟩
/-- an item of a list that is made on the way -/
theorem ev_ixNL {i : Int} (h : EvL ta σ H xs) (hi : Ev tb σ H (.int i)) (ha : atI xs i = some v) : Ev (tOp (rIxL K) ta tb) σ H v := fun H1 e Q q =>
  h H1 e _ fun p H2 _ e2 h2 => hi H2 (e.trans e2) _ fun H3 e3 => ⟨p, xs, i, v, rfl, rfl, sq_of (e3 _ _ h2), ha, q H3 (e2.trans e3)⟩
/-- sorted of a list of ints -/
theorem el_sorted {ns ms : List Int} {l : Addr} (ha : Ev ta σ H (.ref l)) (hs : SqL K H l (ns.map V.int)) (h64 : ns.length < 64) (hu : ∀ ns' : List Int, ns'.Perm ns → ns'.Pairwise (· ≤ ·) → ns' = ms) : EvL (tCB (rSorted K) (tCons ta tNil)) σ H (ms.map V.int) := fun H1 e Q q =>
  ha H1 e _ fun H2 e2 => ⟨l, ns, rfl, ex_l (e.trans e2) hs, h64, fun ns' p h1 h2 hp => by
    have z := hu ns' h1 h2
    subst z
    exact q p _ (fresh_back e2 hp) (e2.trans (Ex.new hp)) upd_same⟩
/-- == of a list that stands and one made on the way -/
theorem ev_eqSL {ns ms : List Int} {l : Addr} (ha : Ev ta σ H (.ref l)) (hs : SqL K H l (ns.map V.int)) (hb : EvL tb σ H (ms.map V.int)) : Ev (tOp (rEqD K) ta tb) σ H (.bl (decide (ns = ms))) := by
  have e0 : PyData.eqv (.list (ns.map PyData.int)) (.list (ms.map PyData.int)) = decide (ns = ms) := by
    rw [← eqv_ints]
    simp [PyData.eqv]
  rw [← e0]
  exact fun H1 e Q q => ha H1 e _ fun H2 e2 => hb H2 (e.trans e2) _ fun b H3 _ e3 g2 =>
    ⟨_, _, .lst (ex_l ((e.trans e2).trans e3) hs) (dp_ints ns _), .lst (sq_of g2) (dp_ints ms _), shaped_lst ns, shaped_lst ms, q H3 (e2.trans e3)⟩
theorem ev_neSL {ns ms : List Int} {l : Addr} (ha : Ev ta σ H (.ref l)) (hs : SqL K H l (ns.map V.int)) (hb : EvL tb σ H (ms.map V.int)) : Ev (tOp (rNeD K) ta tb) σ H (.bl (!decide (ns = ms))) := by
  have e0 : PyData.eqv (.list (ns.map PyData.int)) (.list (ms.map PyData.int)) = decide (ns = ms) := by
    rw [← eqv_ints]
    simp [PyData.eqv]
  rw [← e0]
  exact fun H1 e Q q => ha H1 e _ fun H2 e2 => hb H2 (e.trans e2) _ fun b H3 _ e3 g2 =>
    ⟨_, _, .lst (ex_l ((e.trans e2).trans e3) hs) (dp_ints ns _), .lst (sq_of g2) (dp_ints ms _), shaped_lst ns, shaped_lst ms, q H3 (e2.trans e3)⟩
theorem ep_rep {k : Int} (ha : EvP K ta σ H xs) (hb : Ev tb σ H (.int k)) (hne : xs ≠ []) (h0 : 0 ≤ k ∧ k ≤ 1000) (hl : xs.length ≤ 1000) : EvP K (tOp (rRepA K) ta tb) σ H (List.replicate k.toNat xs).flatten := fun H1 e Q q =>
  ha H1 e _ fun a H2 e2 h2 => hb H2 (e.trans e2) _ fun H3 e3 => ⟨a, k, xs, rfl, rfl, ex_t e3 h2, hne, h0.1, h0.2, hl, fun z => by
    subst z
    have q' := q a H3 (e2.trans e3)
    rw [show (List.replicate (1 : Int).toNat xs).flatten = xs by simp] at q'
    exact q' (ex_t e3 h2), fun _ p hp => q p _ ((e2.trans e3).trans (Ex.new hp)) (st_of upd_same)⟩
end
end R

namespace R
open PySem PySem.Spec PyProof.Rows L2 Evl
theorem cb_of {bs : List Bool} {i : Nat} {x : V} (h : (bs.map cb)[i]? = some x) : ∃ b, x = cb b := by
  rw [List.getElem?_map] at h
  cases e : bs[i]? with
  | none =>
    rw [e] at h
    cases h
  | some b =>
    rw [e] at h
    exact ⟨b, (Option.some.inj h).symm⟩
theorem cb_at {bs : List Bool} {i : Nat} {x : V} (h : (bs.map cb)[i]? = some x) : ∃ b, bs[i]? = some b ∧ x = cb b := by
  rw [List.getElem?_map] at h
  cases e : bs[i]? with
  | none =>
    rw [e] at h
    cases h
  | some b =>
    rw [e] at h
    exact ⟨b, rfl, (Option.some.inj h).symm⟩
theorem drop_step {bs : List Bool} {i : Nat} {b : Bool} (hi : i < bs.length) (hb : bs[bs.length - 1 - i]? = some b) : bs.drop (bs.length - (i + 1)) = b :: bs.drop (bs.length - i) := by
  have e : bs.length - (i + 1) = bs.length - 1 - i := by omega
  have hlt : bs.length - 1 - i < bs.length := by omega
  rw [e, List.drop_eq_getElem_cons hlt]
  rw [List.getElem?_eq_getElem hlt] at hb
  rw [Option.some.inj hb]
  congr 2
  omega
theorem num_step (b : Bool) (cs : List Bool) : (G.num (b :: cs) : Int) = 2 * (G.num cs : Int) + Builtin.bitXor (ib b) (Builtin.bitAnd (G.num cs : Int) 1) := by
  rw [bitAnd_m1]
  have h : (G.num cs : Int) % 2 = 0 ∨ (G.num cs : Int) % 2 = 1 := by omega
  show (((2 * G.num cs + G.b1 (xor b (G.od (G.num cs))) : Nat)) : Int) = _
  generalize G.num cs = m at h ⊢
  have e : G.od m = decide ((m : Int) % 2 = 1) := by
    unfold G.od
    rcases h with h | h
    · rw [h]
      have : m % 2 = 0 := by omega
      rw [this]
      rfl
    · rw [h]
      have : m % 2 = 1 := by omega
      rw [this]
      rfl
  rw [e]
  rcases h with h | h <;> rw [h] <;> cases b
  · show ((2 * m + 0 : Nat) : Int) = 2 * (m : Int) + 0
    omega
  · show ((2 * m + 1 : Nat) : Int) = 2 * (m : Int) + 1
    omega
  · show ((2 * m + 1 : Nat) : Int) = 2 * (m : Int) + 1
    omega
  · show ((2 * m + 0 : Nat) : Int) = 2 * (m : Int) + 0
    omega
theorem shl_ok {n k : Nat} (h : k < 2 ^ n) : (!(decide ((0 : Int) ≤ (k : Int)) && decide ((k : Int) ≤ 1 * 2 ^ ((n : Nat) : Int).toNat - 1))) = false := by
  have e : (1 : Int) * 2 ^ ((n : Nat) : Int).toNat = ((2 ^ n : Nat) : Int) := by
    rw [Int.one_mul, Int.toNat_natCast]
    first | rfl | simp | exact (Int.natCast_pow 2 n).symm
  rw [e]
  have h0 : (0 : Int) ≤ (k : Int) := by omega
  have h1 : (k : Int) ≤ ((2 ^ n : Nat) : Int) - 1 := by omega
  rw [decide_eq_true h0, decide_eq_true h1]
  rfl
theorem given_all (n : Nat) (v : Nat → V) : given n (fun _ => true) v = (List.range n).map v := by
  unfold given
  rw [List.filter_eq_self.mpr (fun _ _ => rfl)]
theorem xor_half (k : Nat) : (k ^^^ (k / 2)) / 2 = (k / 2) ^^^ (k / 2 / 2) := by
  have h := Nat.shiftRight_xor_distrib (a := k) (b := k / 2) (i := 1)
  simpa [Nat.shiftRight_eq_div_pow] using h
theorem xor_od (k : Nat) : (k ^^^ (k / 2)) % 2 = G.b1 (xor (G.od k) (G.od (k / 2))) := by
  have h := Nat.testBit_xor k (k / 2) 0
  rw [Nat.testBit_zero, Nat.testBit_zero, Nat.testBit_zero] at h
  unfold G.od G.b1
  have e1 : (k % 2 == 1) = decide (k % 2 = 1) := by
    by_cases z : k % 2 = 1
    · rw [z]; rfl
    · have : k % 2 = 0 := by omega
      rw [this]; rfl
  have e2 : (k / 2 % 2 == 1) = decide (k / 2 % 2 = 1) := by
    by_cases z : k / 2 % 2 = 1
    · rw [z]; rfl
    · have : k / 2 % 2 = 0 := by omega
      rw [this]; rfl
  rw [e1, e2, ← h]
  by_cases z : (k ^^^ (k / 2)) % 2 = 1
  · rw [z]; rfl
  · have : (k ^^^ (k / 2)) % 2 = 0 := by omega
    rw [this]; rfl
theorem sets_at : ∀ (n k i : Nat), i < n → (G.sets n k)[i]? = some (decide ((k ^^^ (k / 2)) / 2 ^ i % 2 = 1))
  | 0, _, _, h => absurd h (by omega)
  | n + 1, k, 0, _ => by
    have e := xor_od k
    simp only [G.sets, List.getElem?_cons_zero, Nat.pow_zero, Nat.div_one]
    rw [e]
    cases xor (G.od k) (G.od (k / 2)) <;> rfl
  | n + 1, k, i + 1, h => by
    simp only [G.sets, List.getElem?_cons_succ]
    rw [sets_at n (k / 2) i (by omega), ← xor_half, Nat.pow_succ, Nat.mul_comm, Nat.div_div_eq_div_mul]
theorem sets_list (n k : Nat) : ((List.range n).map fun i => V.int (Builtin.bitAnd (Builtin.bitXor (k : Int) ((k : Int) / 2 ^ (1 : Int).toNat) / 2 ^ ((i : Nat) : Int).toNat) 1)) = (G.sets n k).map cb := by
  apply List.ext_getElem?
  intro i
  rw [List.getElem?_map, List.getElem?_map]
  by_cases hi : i < n
  · rw [List.getElem?_range hi, sets_at n k i hi]
    have e1 : (k : Int) / 2 ^ (1 : Int).toNat = ((k / 2 : Nat) : Int) := by
      simp
    have e2 : Builtin.bitXor (k : Int) ((k / 2 : Nat) : Int) = ((k ^^^ (k / 2) : Nat) : Int) := Bits.bitXor_pp (by omega) (by omega)
    simp only [Option.map_some]
    rw [e1, e2, bitAnd_m1, Int.toNat_natCast]
    have e3 : (((k ^^^ (k / 2) : Nat) : Int) / 2 ^ i) % 2 = (((k ^^^ (k / 2)) / 2 ^ i % 2 : Nat) : Int) := by
      simp
    rw [e3]
    have h2 : (k ^^^ (k / 2)) / 2 ^ i % 2 = 0 ∨ (k ^^^ (k / 2)) / 2 ^ i % 2 = 1 := by omega
    rcases h2 with z | z <;> rw [z] <;> rfl
  · rw [List.getElem?_eq_none (by rw [List.length_range]; omega), List.getElem?_eq_none (by rw [G.sets_len]; omega)]
    rfl
/-! the script's cells -/
def cell (ns : List Int) (k : Nat) : Int := ns.getD k 0
theorem cell_in {ns : List Int} {k : Nat} (h : k < ns.length) : ns[k]? = some (cell ns k) := by
  unfold cell
  rw [List.getD_eq_getElem?_getD, List.getElem?_eq_getElem h]
  rfl
theorem cell_out {ns : List Int} {k : Nat} (h : ¬ k < ns.length) : cell ns k = 0 := by
  unfold cell
  rw [List.getD_eq_getElem?_getD, List.getElem?_eq_none (by omega)]
  rfl
def mix (ns : List Int) (k : Nat) : Int := (cell ns k + 7919 * (k : Int) + 1) * 48271 % 2147483647
theorem mix_lt (ns : List Int) (k : Nat) : 0 ≤ mix ns k ∧ mix ns k < 2147483647 := ⟨Int.emod_nonneg _ (by decide), Int.emod_lt_of_pos _ (by decide)⟩
/-! slices of settings -/
theorem cut_take (bs : List Bool) (r : Nat) : cutV (bs.map cb) none (some (r : Int)) = (bs.take r).map cb := by
  unfold cutV
  rw [HT.sIx_none, HT.sIx_nat, List.drop_zero, Nat.sub_zero, List.map_take, List.length_map]
  by_cases h : r ≤ bs.length
  · rw [Nat.min_eq_left h]
  · rw [Nat.min_eq_right (by omega), List.take_of_length_le (by rw [List.length_map]; exact Nat.le_refl _), List.take_of_length_le (by rw [List.length_map]; omega)]
theorem flat_cut (bs : List Bool) (lo hi : Option Int) : (cutV (bs.map cb) lo hi).all flatV = true := by
  have h := flat_cb bs
  rw [List.all_eq_true] at h ⊢
  intro x hx
  unfold cutV at hx
  exact h x (List.mem_of_mem_drop (List.mem_of_mem_take hx))
theorem any_all : ∀ bs : List Bool, (!bs.any id) = bs.all (fun b => !b)
  | [] => rfl
  | b :: bs => by
    rw [List.any_cons, List.all_cons, ← any_all bs]
    cases b <;> rfl
end R

namespace R
open PySem PySem.Spec PyProof.Rows L2 Evl
def topS (i : Nat) : Stmt := PySem.Challenge.pw_ringbar_k03_numbers_of_settings.main.body.getD i (.Pass ⟨0, 0, 0, 0⟩)
abbrev s_is_whole : Stmt := topS 6
theorem sc_is_whole : FnScope ["thing", "least", "greatest"] ["thing", "least", "greatest"] (defScope s_is_whole) := ⟨rfl, rfl, rfl, by decide +kernel, rfl, by decide +kernel, by decide +kernel⟩
abbrev s_is_tuple : Stmt := topS 7
theorem sc_is_tuple : FnScope ["thing", "fewest", "most"] ["thing", "fewest", "most"] (defScope s_is_tuple) := ⟨rfl, rfl, rfl, by decide +kernel, rfl, by decide +kernel, by decide +kernel⟩
abbrev s_need_setting : Stmt := topS 10
theorem sc_need_setting : FnScope ["setting", "cell"] ["setting"] (defScope s_need_setting) := ⟨rfl, rfl, rfl, by decide +kernel, rfl, by decide +kernel, by decide +kernel⟩
abbrev s_number_of : Stmt := topS 11
theorem sc_number_of : FnScope ["setting", "number", "cell"] ["setting"] (defScope s_number_of) := ⟨rfl, rfl, rfl, by decide +kernel, rfl, by decide +kernel, by decide +kernel⟩
abbrev s_setting_at : Stmt := topS 12
theorem sc_setting_at : FnScope ["rings", "number", "differing", "ring"] ["rings", "number"] (defScope s_setting_at) := ⟨rfl, rfl, rfl, by decide +kernel, rfl, by decide +kernel, by decide +kernel⟩
abbrev s__law_cell_at : Stmt := topS 14
theorem sc__law_cell_at : FnScope ["_law_script", "_law_k"] ["_law_script", "_law_k"] (defScope s__law_cell_at) := ⟨rfl, rfl, rfl, by decide +kernel, rfl, by decide +kernel, by decide +kernel⟩
abbrev s__law_mixed : Stmt := topS 15
theorem sc__law_mixed : FnScope ["_law_script", "_law_k"] ["_law_script", "_law_k"] (defScope s__law_mixed) := ⟨rfl, rfl, rfl, by decide +kernel, rfl, by decide +kernel, by decide +kernel⟩
abbrev s__law_whole : Stmt := topS 16
theorem sc__law_whole : FnScope ["_law_thing"] ["_law_thing"] (defScope s__law_whole) := ⟨rfl, rfl, rfl, by decide +kernel, rfl, by decide +kernel, by decide +kernel⟩
abbrev s__law_twos : Stmt := topS 17
theorem sc__law_twos : FnScope ["_law_many_times", "_law_found", "_law_turn"] ["_law_many_times"] (defScope s__law_twos) := ⟨rfl, rfl, rfl, by decide +kernel, rfl, by decide +kernel, by decide +kernel⟩
abbrev s__law_may : Stmt := topS 18
theorem sc__law_may : FnScope ["_law_setting", "_law_ring"] ["_law_setting", "_law_ring"] (defScope s__law_may) := ⟨rfl, rfl, rfl, by decide +kernel, rfl, by decide +kernel, by decide +kernel⟩
abbrev s__law_is_setting : Stmt := topS 19
theorem sc__law_is_setting : FnScope ["_law_found", "_law_size", "_law_one"] ["_law_found", "_law_size"] (defScope s__law_is_setting) := ⟨rfl, rfl, rfl, by decide +kernel, rfl, by decide +kernel, by decide +kernel⟩
abbrev s__law_number : Stmt := topS 20
theorem sc__law_number : FnScope ["_law_script", "_law_size", "_law_far", "_law_number_here"] ["_law_script", "_law_size"] (defScope s__law_number) := ⟨rfl, rfl, rfl, by decide +kernel, rfl, by decide +kernel, by decide +kernel⟩
abbrev s_law : Stmt := topS 21
theorem sc_law : FnScope ["_law_script", "_law_size", "_law_number_here", "_law_one", "_law_other", "_law_unlike", "_law_ring"] ["_law_script"] (defScope s_law) := ⟨rfl, rfl, rfl, by decide +kernel, rfl, by decide +kernel, by decide +kernel⟩
structure Bt (mg : Str → Option Value) : Prop where
  n_bool : mg "bool" = none
  n_int : mg "int" = none
  n_isinstance : mg "isinstance" = none
  n_len : mg "len" = none
  n_min : mg "min" = none
  n_range : mg "range" = none
  n_reversed : mg "reversed" = none
  n_tuple : mg "tuple" = none
  n_type : mg "type" = none
  c_MOST_RINGS : ∃ t, mg "MOST_RINGS" = some (.int 40 t)

def sp_law (K : PySem.W.Frag) : Sp := spV fun vs H z => ∃ (a : Addr) (ns : List Int), vs = [.ref a] ∧ SqL K H a (ns.map V.int) ∧ ns.length ≤ 63 ∧ z = .bl true
section
variable {P : Program} {w : World} {K : PySem.W.Frag} {mg : Str → Option Value} {base : Heap}
def nb0 (ns : List Int) (n : Nat) : Int := (cell ns 1 * 1234577 + mix ns 1 * 40503) % 2 ^ n
def mn (n : Nat) : Int := if (2 : Int) ^ n < 16 then 2 ^ n else 16
def numb (ns : List Int) (n : Nat) : Int := if mix ns 2 % 4 = 1 then nb0 ns n % mn n else if mix ns 2 % 4 = 2 then 2 ^ n - 1 - nb0 ns n % mn n else nb0 ns n
theorem p2 (n : Nat) : (0 : Int) < 2 ^ n := Int.pow_pos (by decide)
theorem mn_pos (n : Nat) : 0 < mn n ∧ mn n ≤ 2 ^ n := by
  have := p2 n
  unfold mn
  split <;> omega
theorem numb_lt (ns : List Int) (n : Nat) : 0 ≤ numb ns n ∧ numb ns n < 2 ^ n := by
  have h0 := p2 n
  have h1 : 0 ≤ nb0 ns n ∧ nb0 ns n < 2 ^ n := ⟨Int.emod_nonneg _ (by omega), Int.emod_lt_of_pos _ h0⟩
  have h2 := mn_pos n
  have h3 : 0 ≤ nb0 ns n % mn n ∧ nb0 ns n % mn n < mn n := ⟨Int.emod_nonneg _ (by omega), Int.emod_lt_of_pos _ h2.1⟩
  unfold numb
  split
  · omega
  · split <;> omega
theorem given_one {n r : Nat} {f : Nat → Bool} {v : Nat → V} (hr : r < n) (h : ∀ i, i < n → f i = decide (i = r)) : given n f v = [v r] := by
  have aux : ∀ m, m ≤ n → given m f v = if r < m then [v r] else [] := by
    intro m
    induction m with
    | zero => intro _; unfold given; simp
    | succ m ih =>
      intro hm
      have ihm := ih (by omega)
      by_cases e : m = r
      · subst e
        rw [given_yes (by rw [h m (by omega)]; simp), ihm, if_neg (by omega), if_pos (by omega)]
        rfl
      · rw [given_no (by rw [h m (by omega)]; simp [e]), ihm]
        by_cases z : r < m
        · rw [if_pos z, if_pos (by omega)]
        · rw [if_neg z, if_neg (by omega)]
  rw [aux n (Nat.le_refl _), if_pos hr]
theorem sets_zero : ∀ n : Nat, G.sets n 0 = List.replicate n false
  | 0 => rfl
  | n + 1 => by
    show xor (G.od 0) (G.od (0 / 2)) :: G.sets n (0 / 2) = _
    rw [List.replicate_succ, show (0 / 2 : Nat) = 0 from rfl, sets_zero n]
    rfl
theorem sets_end (n : Nat) : G.sets (n + 1) (2 ^ (n + 1) - 1) = List.replicate n false ++ [true] := by
  apply G.num_inj
  · rw [G.sets_len]
    simp
  · rw [G.num_last, G.num_sets]
    have : 0 < 2 ^ (n + 1) := Nat.two_pow_pos _
    omega
theorem rep_zero (n : Nat) : (List.replicate n [V.int 0]).flatten = (List.replicate n false).map cb := by
  induction n with
  | zero => rfl
  | succ n ih =>
    rw [List.replicate_succ, List.flatten_cons, ih]
    rfl
/-- where two settings beside one another differ -/
theorem flip_ne {s : List Bool} {r i : Nat} (hr : r < s.length) (hi : i < s.length) : (!decide ((s[i]?.getD false) = ((G.flip s r)[i]?.getD false))) = decide (i = r) := by
  by_cases e : i = r
  · subst e
    rw [G.flip_get_self s i hr, List.getElem?_eq_getElem hr]
    simp
  · rw [G.flip_get_ne s r i e]
    simp [e]
theorem cb_get {s : List Bool} {i : Nat} (hi : i < s.length) : (s.map cb)[i]? = some (cb (s[i]?.getD false)) := by
  rw [List.getElem?_map, List.getElem?_eq_getElem hi]
  rfl
theorem cb_ne (a b : Bool) : (!decide (cb a = cb b)) = !decide (a = b) := by cases a <;> cases b <;> rfl
theorem scal_cb (a b : Bool) : scal (cb a) (cb b) = true := rfl
def sp_is_whole (K : PySem.W.Frag) : Sp := spV fun vs _ z => ∃ a b c : Int, vs = [.int a, .int b, .int c] ∧ z = .bl (decide (b ≤ a) && decide (a ≤ c))
theorem ok_is_whole {f : Addr} {fd : FuncData} (F : Fun K "is_whole" "is_whole" s_is_whole f fd) (T : Bt mg) :
    FnOk P w K mg base CX0 1 f fd ["thing", "least", "greatest"] (sp_is_whole K) := by
  refine F.ok sc_is_whole (fun vs H Q E h => ?_) (fun cdv A outer s H vs Q E hr h => ?_)
  · obtain ⟨_, ⟨a, b, c, rfl, rfl⟩, q⟩ := h
    rfl
  · obtain ⟨_, ⟨a, b, c, rfl, rfl⟩, q⟩ := h
    refine ⟨_, (pss_one (ps_ret (pe_and (pe_cmpR op_tyEq (pe_callTy (r := rTyp K) call_type1 (by rfl) T.n_type (by decide +kernel) (pa_cons (pv 0) pa_nil)) (pe_bltn (v := .ty "int") (by rfl) T.n_int (by decide +kernel) rfl) (nomark _)) (pe_and (pe_callB (r := rIsi K) call_isi (by rfl) T.n_isinstance (by decide +kernel) (pa_cons (pv 0) (pa_cons (pe_bltn (v := .ty "int") (by rfl) T.n_int (by decide +kernel) rfl) pa_nil))) (pe_one (pe_chain op_le op_le (pv 1) (pv 0) (pv 2))))))), ?_⟩
    exact s_ret (ev_cast (ev_andV (ev_op (ev_type (ev_var rfl) fun _ _ => .int a) ev_c (rv_tyEq tm_int tm_int)) (fun _ => ev_andV (ev_isi (T := "int") (b := true) (ea_cons (ev_var rfl) (ea_cons ev_c ea_nil)) (fun _ _ => tyx_int) (by decide +kernel)) (fun _ => ev_chain2 (ev_var rfl) (ev_var rfl) rv_I0 (ev_var rfl) rv_I0)))) q
def sp_is_tuple (K : PySem.W.Frag) : Sp := spV fun vs H z => ∃ (p : Addr) (xs : List V) (b c : Int), vs = [.ref p, .int b, .int c] ∧ SqT K H p xs ∧ z = .bl (decide (b ≤ (xs.length : Int)) && decide ((xs.length : Int) ≤ c))
theorem ok_is_tuple {f : Addr} {fd : FuncData} (F : Fun K "is_tuple" "is_tuple" s_is_tuple f fd) (T : Bt mg) :
    FnOk P w K mg base CX0 1 f fd ["thing", "fewest", "most"] (sp_is_tuple K) := by
  refine F.ok sc_is_tuple (fun vs H Q E h => ?_) (fun cdv A outer s H vs Q E hr h => ?_)
  · obtain ⟨_, ⟨p, xs, b, c, rfl, _⟩, q⟩ := h
    rfl
  · obtain ⟨_, ⟨p, xs, b, c, rfl, hS, rfl⟩, q⟩ := h
    refine ⟨_, (pss_one (ps_ret (pe_and (pe_cmpR op_tyEq (pe_callTy (r := rTyp K) call_type1 (by rfl) T.n_type (by decide +kernel) (pa_cons (pv 0) pa_nil)) (pe_bltn (v := .ty "tuple") (by rfl) T.n_tuple (by decide +kernel) rfl) (nomark _)) (pe_and (pe_callB (r := rIsi K) call_isi (by rfl) T.n_isinstance (by decide +kernel) (pa_cons (pv 0) (pa_cons (pe_bltn (v := .ty "tuple") (by rfl) T.n_tuple (by decide +kernel) rfl) pa_nil))) (pe_one (pe_chain op_le op_le (pv 1) (pe_callB (r := rLenS K) call_len_seq (by rfl) T.n_len (by decide +kernel) (pa_cons (pv 0) pa_nil)) (pv 2))))))), ?_⟩
    exact s_ret (ev_cast (ev_andV (ev_op (ev_type (ev_var rfl) fun _ e => .tup (ex_t e hS)) ev_c (rv_tyEq tm_tuple tm_tuple)) (fun _ => ev_andV (ev_isi (T := "tuple") (b := true) (ea_cons (ev_var rfl) (ea_cons ev_c ea_nil)) (fun _ e => tyx_tup (ex_t e hS)) (by decide +kernel)) (fun _ => ev_chain2 (ev_var rfl) (ev_lenP (ep_ev (ev_var rfl) hS)) rv_I0 (ev_var rfl) rv_I0)))) q
def sp_need_setting (K : PySem.W.Frag) : Sp := spV fun vs H z => ∃ (p : Addr) (bs : List Bool), vs = [.ref p] ∧ SqT K H p (bs.map cb) ∧ 1 ≤ bs.length ∧ bs.length ≤ 40 ∧ z = .non
theorem ok_need_setting {f : Addr} {fd : FuncData} (F : Fun K "need_setting" "need_setting" s_need_setting f fd) (T : Bt mg) (c_is_tuple : Cal P w K mg base "is_tuple" 1 ["thing", "fewest", "most"] (sp_is_tuple K)) (c_is_whole : Cal P w K mg base "is_whole" 1 ["thing", "least", "greatest"] (sp_is_whole K)) :
    FnOk P w K mg base CX0 2 f fd ["setting"] (sp_need_setting K) := by
  obtain ⟨_, h_MOST_RINGS⟩ := T.c_MOST_RINGS
  refine F.ok sc_need_setting (fun vs H Q E h => ?_) (fun cdv A outer s H vs Q E hr h => ?_)
  · obtain ⟨_, ⟨p, bs, rfl, _⟩, q⟩ := h
    rfl
  · obtain ⟨_, ⟨p, bs, rfl, hS, h1, h2, rfl⟩, q⟩ := h
    refine ⟨_, (pss_cons (ps_if (pt_not (pt_val (pe_cal c_is_tuple (hr.mono (by decide)) (pa_cons (pv 0) (pa_cons pe_int (pa_cons (pe_glob (v := .int 40) rfl h_MOST_RINGS ⟨_, rfl⟩) pa_nil)))))) (pss_one ps_never) pss_nil) (pss_one (ps_for PassesOwn.never rfl (pi_tup (pv 0)) (pg_name (i := 1) sc_need_setting.nd rfl (Or.inl rfl)) (pss_one (ps_if (pt_not (pt_val (pe_cal c_is_whole (hr.mono (by decide)) (pa_cons (pv 1) (pa_cons pe_int (pa_cons pe_int pa_nil)))))) (pss_one ps_never) pss_nil))))), ?_⟩
    refine q_dead (et_not (et_B (ev_cal (ea_cons (ev_var rfl) (ea_cons ev_c (ea_cons ev_c ea_nil))) fun H1 e => ⟨p, _, 1, 40, rfl, ex_t e hS, rfl⟩))) ?_ fun H1 e1 => ?_
    · rw [List.length_map]
      simp
      omega
    refine s_forTn (ev_var rfl) (ex_t e1 hS) (fun i σ' H' => (∃ c, σ' = [some (.ref p), c]) ∧ Ex H H') (fun H2 e2 => ⟨⟨_, rfl⟩, e1.trans e2⟩) (fun i σ' H' _ h => ex_t h.2 hS) (fun i x σ' H' hx h => ?_) (fun σ' H' h => q H' h.2)
    obtain ⟨⟨c, rfl⟩, e⟩ := h
    obtain ⟨b, rfl⟩ := cb_of hx
    refine s_dead (et_not (et_B (ev_cal (ea_cons (ev_var rfl) (ea_cons ev_c (ea_cons ev_c ea_nil))) fun H1 e => ⟨ib b, 0, 1, rfl, rfl⟩))) (by cases b <;> rfl) fun H2 e2 => ⟨⟨_, rfl⟩, e.trans e2⟩
def sp_number_of (K : PySem.W.Frag) : Sp := spV fun vs H z => ∃ (p : Addr) (bs : List Bool), vs = [.ref p] ∧ SqT K H p (bs.map cb) ∧ 1 ≤ bs.length ∧ bs.length ≤ 40 ∧ z = .int (G.num bs : Nat)
theorem ok_number_of {f : Addr} {fd : FuncData} (F : Fun K "number_of" "number_of" s_number_of f fd) (T : Bt mg) (c_need_setting : Cal P w K mg base "need_setting" 2 ["setting"] (sp_need_setting K)) :
    FnOk P w K mg base CX0 3 f fd ["setting"] (sp_number_of K) := by
  refine F.ok sc_number_of (fun vs H Q E h => ?_) (fun cdv A outer s H vs Q E hr h => ?_)
  · obtain ⟨_, ⟨p, bs, rfl, _⟩, q⟩ := h
    rfl
  · obtain ⟨_, ⟨p, bs, rfl, hS, h1, h2, rfl⟩, q⟩ := h
    refine ⟨_, (pss_cons (ps_expr (pe_cal c_need_setting (hr.mono (by decide)) (pa_cons (pv 0) pa_nil))) (pss_cons (ps_set (i := 1) sc_number_of.nd rfl (Or.inl rfl) pe_int) (pss_cons (ps_for PassesOwn.never rfl (RT.pi_revA (by rfl) T.n_reversed (pv 0)) (pg_name (i := 2) sc_number_of.nd rfl (Or.inl rfl)) (pss_one (ps_set (i := 1) sc_number_of.nd rfl (Or.inl rfl) (pe_op op_add (pe_op op_mul pe_int (pv 1)) (pe_op op_xor (pv 2) (pe_op op_and (pv 1) pe_int)))))) (pss_one (ps_ret (pv 1)))))), ?_⟩
    refine q_drop (ev_cal (ea_cons (ev_var rfl) ea_nil) fun H1 e => ⟨p, bs, rfl, ex_t e hS, h1, h2, rfl⟩) fun H1 e1 => ?_
    refine q_asg ev_c fun H2 e2 => ?_
    refine q_forRT (ev_var rfl) (ex_t (e1.trans e2) hS) (fun i σ' H' => (∃ c, σ' = [some (.ref p), some (.int (G.num (bs.drop (bs.length - i)) : Nat)), c]) ∧ Ex H H') (fun H3 e3 => ⟨⟨_, by
      rw [Nat.sub_zero, List.drop_length]
      rfl⟩, (e1.trans e2).trans e3⟩) (fun i σ' H' _ h => ex_t h.2 hS) (fun i x σ' H' hx hi h => ?_) (fun σ' H' h => ?_)
    · obtain ⟨⟨c, rfl⟩, e⟩ := h
      rw [List.length_map] at hx hi
      obtain ⟨b, hb, rfl⟩ := cb_at hx
      refine s_asg (ev_op (ev_op ev_c (ev_var rfl) (rv_I (.inl ⟨by decide, by decide⟩))) (ev_op (ev_var rfl) (ev_op (ev_var rfl) ev_c rv_I0) rv_I0) rv_I0) fun H4 e4 => ⟨⟨some (cb b), ?_⟩, e.trans e4⟩
      rw [drop_step hi hb, num_step]
      rfl
    · obtain ⟨⟨c, rfl⟩, e⟩ := h
      rw [List.length_map, Nat.sub_self, List.drop_zero]
      exact s_ret (ev_var rfl) fun H4 e4 => q H4 (e.trans e4)
def sp_setting_at (K : PySem.W.Frag) : Sp := spP K fun vs _ xs => ∃ n k : Nat, vs = [.int n, .int k] ∧ 1 ≤ n ∧ n ≤ 40 ∧ k < 2 ^ n ∧ xs = (G.sets n k).map cb
theorem ok_setting_at {f : Addr} {fd : FuncData} (F : Fun K "setting_at" "setting_at" s_setting_at f fd) (T : Bt mg) (c_is_whole : Cal P w K mg base "is_whole" 1 ["thing", "least", "greatest"] (sp_is_whole K)) :
    FnOk P w K mg base CX0 2 f fd ["rings", "number"] (sp_setting_at K) := by
  obtain ⟨_, h_MOST_RINGS⟩ := T.c_MOST_RINGS
  refine F.ok sc_setting_at (fun vs H Q E h => ?_) (fun cdv A outer s H vs Q E hr h => ?_)
  · obtain ⟨_, ⟨n, k, rfl, _⟩, q⟩ := h
    rfl
  · obtain ⟨_, ⟨n, k, rfl, h1, h2, h3, rfl⟩, q⟩ := h
    refine ⟨_, (pss_cons (ps_if (pt_not (pt_val (pe_cal c_is_whole (hr.mono (by decide)) (pa_cons (pv 0) (pa_cons pe_int (pa_cons (pe_glob (v := .int 40) rfl h_MOST_RINGS ⟨_, rfl⟩) pa_nil)))))) (pss_one ps_never) pss_nil) (pss_cons (ps_if (pt_not (pt_val (pe_cal c_is_whole (hr.mono (by decide)) (pa_cons (pv 1) (pa_cons pe_int (pa_cons (pe_op op_sub (pe_op op_shl pe_int (pv 0)) pe_int) pa_nil)))))) (pss_one ps_never) pss_nil) (pss_cons (ps_set (i := 2) sc_setting_at.nd rfl (Or.inr rfl) (pe_op op_xor (pv 1) (pe_op op_shr (pv 1) pe_int))) (pss_one (ps_ret (pe_callTy (r := rTupF K) call_tupF (by rfl) T.n_tuple (by decide +kernel) (pa_cons (pe_lc (own := [("ring", 3)]) (g := gName 3) rfl sc_setting_at.nd (pi_range1 (by rfl) T.n_range (pa_cons (pv 0) pa_nil)) (blkOk_by (own := [("ring", 3)]) (N := ["rings", "number", "differing", "ring"]) (sc := defScope s_setting_at) (by decide +kernel)) (fun _ _ _ _ _ => (pg_name (i := 3) sc_setting_at.nd rfl (Or.inl rfl))) (fun _ _ _ _ _ => pts_nil) (fun _ _ _ _ _ => (pe_op op_and (pe_op op_shr (pv 2) (pv 3)) pe_int))) pa_nil))))))), ?_⟩
    refine q_dead (et_not (et_B (ev_cal (ea_cons (ev_var rfl) (ea_cons ev_c (ea_cons ev_c ea_nil))) fun H1 e => ⟨_, _, _, rfl, rfl⟩))) (by simp; omega) fun H1 e1 => ?_
    refine q_dead (et_not (et_B (ev_cal (ea_cons (ev_var rfl) (ea_cons ev_c (ea_cons (ev_op (ev_op ev_c (ev_var rfl) (rv_I ⟨by omega, by omega, by decide⟩)) ev_c rv_I0) ea_nil))) fun H1 e => ⟨_, _, _, rfl, rfl⟩))) (shl_ok h3) fun H2 e2 => ?_
    refine q_asg (ev_op (ev_var rfl) (ev_op (ev_var rfl) ev_c (rv_I (by decide))) rv_I0) fun H3 e3 => ?_
    refine s_retP (ep_tupL (el_lcR1 (fun _ => true) _ (ea_cons (ev_var rfl) ea_nil) ⟨by omega, by omega⟩ (fun x => rfl) (fun i H4 e4 hi => fun _ _ _ q => q _ (Ex.refl _)) (fun i H4 e4 hi _ => ev_op (ev_op (ev_var rfl) (ev_var rfl) (rv_I (by omega))) ev_c rv_I0))) fun p H4 e4 hp => q p H4 (((e1.trans e2).trans e3).trans e4) ?_
    rw [Int.toNat_natCast, given_all, sets_list] at hp
    exact hp
def sp__law_cell_at (K : PySem.W.Frag) : Sp := spV fun vs H z => ∃ (a : Addr) (ns : List Int) (k : Nat), vs = [.ref a, .int k] ∧ SqL K H a (ns.map V.int) ∧ z = .int (cell ns k)
theorem ok__law_cell_at {f : Addr} {fd : FuncData} (F : Fun K "_law_cell_at" "_law_cell_at" s__law_cell_at f fd) (T : Bt mg) :
    FnOk P w K mg base CX0 1 f fd ["_law_script", "_law_k"] (sp__law_cell_at K) := by
  refine F.ok sc__law_cell_at (fun vs H Q E h => ?_) (fun cdv A outer s H vs Q E hr h => ?_)
  · obtain ⟨_, ⟨a, ns, k, rfl, _⟩, q⟩ := h
    rfl
  · obtain ⟨_, ⟨a, ns, k, rfl, hS, rfl⟩, q⟩ := h
    refine ⟨_, (pss_cons (ps_if (pt_cmpR op_lt (pv 1) (pe_callB (r := rLenS K) call_len_seq (by rfl) T.n_len (by decide +kernel) (pa_cons (pv 0) pa_nil)) (nomark _)) (pss_one (ps_ret (pe_ix (r := rIxL K) ix_list (pv 0) (pv 1) (fun _ _ => rfl)))) pss_nil) (pss_one (ps_ret pe_int))), ?_⟩
    refine q_when (et_test (ev_op (ev_var rfl) (ev_len (ev_var rfl) hS) rv_I0)) (fun hb H1 e1 => ?_) (fun hb H1 e1 => ?_)
    · have hk : k < ns.length := by
        rw [List.length_map] at hb
        have := of_decide_eq_true hb
        omega
      refine s_ret (ev_op (ev_var rfl) (ev_var rfl) (rv_ixL (ex_l e1 hS) (at_of (j := k) (v := .int (cell ns k)) rfl (by rw [List.getElem?_map, cell_in hk] <;> rfl)))) fun H2 e2 => q H2 (e1.trans e2)
    · have hk : ¬ k < ns.length := by
        rw [List.length_map] at hb
        have := of_decide_eq_false hb
        omega
      rw [cell_out hk] at q
      exact s_ret ev_c fun H2 e2 => q H2 (e1.trans e2)
def sp__law_mixed (K : PySem.W.Frag) : Sp := spV fun vs H z => ∃ (a : Addr) (ns : List Int) (k : Nat), vs = [.ref a, .int k] ∧ SqL K H a (ns.map V.int) ∧ k ≤ 1000000 ∧ z = .int (mix ns k)
theorem ok__law_mixed {f : Addr} {fd : FuncData} (F : Fun K "_law_mixed" "_law_mixed" s__law_mixed f fd) (T : Bt mg) (c__law_cell_at : Cal P w K mg base "_law_cell_at" 1 ["_law_script", "_law_k"] (sp__law_cell_at K)) :
    FnOk P w K mg base CX0 2 f fd ["_law_script", "_law_k"] (sp__law_mixed K) := by
  refine F.ok sc__law_mixed (fun vs H Q E h => ?_) (fun cdv A outer s H vs Q E hr h => ?_)
  · obtain ⟨_, ⟨a, ns, k, rfl, _⟩, q⟩ := h
    rfl
  · obtain ⟨_, ⟨a, ns, k, rfl, hS, hk, rfl⟩, q⟩ := h
    refine ⟨_, (pss_one (ps_ret (pe_op op_mod (pe_op op_mul (pe_op op_add (pe_op op_add (pe_cal c__law_cell_at (hr.mono (by decide)) (pa_cons (pv 0) (pa_cons (pv 1) pa_nil))) (pe_op op_mul pe_int (pv 1))) pe_int) pe_int) pe_int))), ?_⟩
    exact s_ret (ev_op (ev_op (ev_op (ev_op (ev_cal (ea_cons (ev_var rfl) (ea_cons (ev_var rfl) ea_nil)) fun H1 e => ⟨a, ns, k, rfl, ex_l e hS, rfl⟩) (ev_op ev_c (ev_var rfl) (rv_I (.inl ⟨by decide, by decide⟩))) rv_I0) ev_c rv_I0) ev_c (rv_I (.inr ⟨by decide, by decide⟩))) ev_c (rv_I (show (0 : Int) < 2147483647 by decide))) q
def sp__law_whole (K : PySem.W.Frag) : Sp := spV fun vs _ z => ∃ i : Int, vs = [.int i] ∧ z = .bl true
theorem ok__law_whole {f : Addr} {fd : FuncData} (F : Fun K "_law_whole" "_law_whole" s__law_whole f fd) (T : Bt mg) :
    FnOk P w K mg base CX0 1 f fd ["_law_thing"] (sp__law_whole K) := by
  refine F.ok sc__law_whole (fun vs H Q E h => ?_) (fun cdv A outer s H vs Q E hr h => ?_)
  · obtain ⟨_, ⟨i, rfl, _⟩, q⟩ := h
    rfl
  · obtain ⟨_, ⟨i, rfl, rfl⟩, q⟩ := h
    refine ⟨_, (pss_one (ps_ret (pe_and (pe_callB (r := rIsi K) call_isi (by rfl) T.n_isinstance (by decide +kernel) (pa_cons (pv 0) (pa_cons (pe_bltn (v := .ty "int") (by rfl) T.n_int (by decide +kernel) rfl) pa_nil))) (pe_one (pe_not (pe_callB (r := rIsi K) call_isi (by rfl) T.n_isinstance (by decide +kernel) (pa_cons (pv 0) (pa_cons (pe_bltn (v := .ty "bool") (by rfl) T.n_bool (by decide +kernel) rfl) pa_nil)))))))), ?_⟩
    exact s_ret (ev_cast (ev_andV (ev_isi (T := "int") (b := true) (ea_cons (ev_var rfl) (ea_cons ev_c ea_nil)) (fun _ _ => tyx_int) (by decide +kernel)) (fun _ => ev_notV (ev_isi (T := "int") (b := false) (ea_cons (ev_var rfl) (ea_cons ev_c ea_nil)) (fun _ _ => tyx_int) (by decide +kernel))))) q
def sp__law_twos (K : PySem.W.Frag) : Sp := spV fun vs _ z => ∃ n : Nat, vs = [.int n] ∧ n ≤ 1000 ∧ z = .int (2 ^ n)
theorem ok__law_twos {f : Addr} {fd : FuncData} (F : Fun K "_law_twos" "_law_twos" s__law_twos f fd) (T : Bt mg) :
    FnOk P w K mg base CX0 1 f fd ["_law_many_times"] (sp__law_twos K) := by
  refine F.ok sc__law_twos (fun vs H Q E h => ?_) (fun cdv A outer s H vs Q E hr h => ?_)
  · obtain ⟨_, ⟨n, rfl, _⟩, q⟩ := h
    rfl
  · obtain ⟨_, ⟨n, rfl, hn, rfl⟩, q⟩ := h
    refine ⟨_, (pss_cons (ps_set (i := 1) sc__law_twos.nd rfl (Or.inl rfl) pe_int) (pss_cons (ps_for PassesOwn.never rfl (pi_range1 (by rfl) T.n_range (pa_cons (pv 0) pa_nil)) (pg_name (i := 2) sc__law_twos.nd rfl (Or.inl rfl)) (pss_one (ps_set (i := 1) sc__law_twos.nd rfl (Or.inl rfl) (pe_op op_mul (pv 1) pe_int)))) (pss_one (ps_ret (pv 1))))), ?_⟩
    refine q_asg ev_c fun H1 e1 => ?_
    refine q_forR1 (n := (n : Int)) (ea_cons (ev_var rfl) ea_nil) ⟨by omega, by omega⟩ (fun i σ' H' => (∃ c, σ' = [some (.int n), some (.int (2 ^ i)), c]) ∧ Ex H H') (fun H2 e2 => ⟨⟨_, rfl⟩, e1.trans e2⟩) (fun i σ' H' hi h => ?_) (fun σ' H' h => ?_)
    · obtain ⟨⟨c, rfl⟩, e⟩ := h
      refine s_asg (ev_op (ev_var rfl) ev_c (rv_I (.inr ⟨by decide, by decide⟩))) fun H3 e3 => ⟨⟨some (.int (i : Int)), ?_⟩, e.trans e3⟩
      rw [show ((2 : Int) ^ i * 2) = 2 ^ (i + 1) from (Int.pow_succ 2 i).symm]
      rfl
    · obtain ⟨⟨c, rfl⟩, e⟩ := h
      rw [Int.toNat_natCast]
      exact s_ret (ev_var rfl) fun H3 e3 => q H3 (e.trans e3)
def sp__law_may (K : PySem.W.Frag) : Sp := spV fun vs H z => ∃ (p : Addr) (bs : List Bool) (r : Nat), vs = [.ref p, .int r] ∧ SqT K H p (bs.map cb) ∧ r ≤ bs.length ∧ bs.length ≤ 1000 ∧ z = .bl (G.may bs r)
theorem ok__law_may {f : Addr} {fd : FuncData} (F : Fun K "_law_may" "_law_may" s__law_may f fd) (T : Bt mg) :
    FnOk P w K mg base CX0 1 f fd ["_law_setting", "_law_ring"] (sp__law_may K) := by
  refine F.ok sc__law_may (fun vs H Q E h => ?_) (fun cdv A outer s H vs Q E hr h => ?_)
  · obtain ⟨_, ⟨p, bs, r, rfl, _⟩, q⟩ := h
    rfl
  · obtain ⟨_, ⟨p, bs, r, rfl, hS, hr1, hz, rfl⟩, q⟩ := h
    refine ⟨_, (pss_cons (ps_if (pt_cmpR op_eq (pv 1) pe_int (nomark _)) (pss_one (ps_ret pe_bl)) pss_nil) (pss_one (ps_ret (pe_and (pe_cmpR op_eq (pe_ix (r := rIxT K) ix_tup (pv 0) (pe_op op_sub (pv 1) pe_int) (fun _ _ => rfl)) pe_int (nomark _)) (pe_one (pe_cmpR (r := rIn K true) op_notIn_seq pe_int (pe_slice (r := rSlA K) sl_tupA (pv 0) po_none (po_some (pe_op op_sub (pv 1) pe_int))) (by with_unfolding_all rfl))))))), ?_⟩
    refine q_when (et_test (ev_op (ev_var rfl) ev_c (rv_eq rfl))) (fun hb H1 e1 => ?_) (fun hb H1 e1 => ?_)
    · have hr0 : r = 0 := by
        have := V.int.inj (of_decide_eq_true hb)
        omega
      subst hr0
      exact s_ret ev_c fun H2 e2 => q H2 (e1.trans e2)
    · obtain ⟨r, rfl⟩ : ∃ j, r = j + 1 := ⟨r - 1, by
        have : r ≠ 0 := fun z => of_decide_eq_false hb (by rw [z] <;> rfl)
        omega⟩
      have hlt : r < bs.length := by omega
      have e1' : ((r + 1 : Nat) : Int) - 1 = (r : Int) := by omega
      refine s_ret (ev_is (ev_andV (ev_op (ev_op (ev_var rfl) (ev_op (ev_var rfl) ev_c rv_I0) (rv_ixT (v := cb bs[r]) (ex_t e1 hS) (by rw [e1']; exact at_of rfl (by rw [List.getElem?_map, List.getElem?_eq_getElem hlt] <;> rfl)))) ev_c (rv_eq rfl))
        (fun _ => ev_niP ev_c (ep_sl (ep_ev (ev_var rfl) (ex_t e1 hS)) eo_none (eo_some (ev_op (ev_var rfl) ev_c rv_I0))) rfl (flat_cut bs _ _))) ?_) fun H2 e2 => q H2 (e1.trans e2)
      rw [e1', cut_take, in_cb]
      show _ = V.bl ((bs[r]? == some true) && (bs.take r).all (fun b => !b))
      rw [List.getElem?_eq_getElem hlt, any_all]
      congr 2
      cases bs[r] <;> rfl
def sp__law_is_setting (K : PySem.W.Frag) : Sp := spV fun vs H z => ∃ (p : Addr) (bs : List Bool) (n : Nat), vs = [.ref p, .int n] ∧ SqT K H p (bs.map cb) ∧ n = bs.length ∧ bs.length ≤ 1000 ∧ z = .bl true
theorem ok__law_is_setting {f : Addr} {fd : FuncData} (F : Fun K "_law_is_setting" "_law_is_setting" s__law_is_setting f fd) (T : Bt mg) (c__law_whole : Cal P w K mg base "_law_whole" 1 ["_law_thing"] (sp__law_whole K)) :
    FnOk P w K mg base CX0 2 f fd ["_law_found", "_law_size"] (sp__law_is_setting K) := by
  refine F.ok sc__law_is_setting (fun vs H Q E h => ?_) (fun cdv A outer s H vs Q E hr h => ?_)
  · obtain ⟨_, ⟨p, bs, n, rfl, _⟩, q⟩ := h
    rfl
  · obtain ⟨_, ⟨p, bs, n, rfl, hS, hn, hz, rfl⟩, q⟩ := h
    refine ⟨_, (pss_cons (ps_if (PW.pt (pw_or (pt_not (pt_val (pe_callB (r := rIsi K) call_isi (by rfl) T.n_isinstance (by decide +kernel) (pa_cons (pv 0) (pa_cons (pe_bltn (v := .ty "tuple") (by rfl) T.n_tuple (by decide +kernel) rfl) pa_nil))))) (pw_or1 (pt_cmpR op_ne (pe_callB (r := rLenS K) call_len_seq (by rfl) T.n_len (by decide +kernel) (pa_cons (pv 0) pa_nil)) (pv 1) (nomark _))))) (pss_one (ps_ret pe_bl)) pss_nil) (pss_one (ps_ret (pe_cmpR (r := rEqD K) (op_eqD hr.units) (pe_lc (own := [("_law_one", 2)]) (g := gName 2) rfl sc__law_is_setting.nd (pi_tup (pv 0)) (blkOk_by (own := [("_law_one", 2)]) (N := ["_law_found", "_law_size", "_law_one"]) (sc := defScope s__law_is_setting) (by decide +kernel)) (fun _ _ _ _ _ => (pg_name (i := 2) sc__law_is_setting.nd rfl (Or.inl rfl))) (fun _ _ _ _ _ => (pts_one (PW.pt (pw_or (pt_not (pt_val (pe_cal c__law_whole (hr.mono (by decide)) (pa_cons (pv 2) pa_nil)))) (pw_or1 (pt_cmpR (r := rIn K true) op_notIn_seq (pv 2) (pe_tup (pa_cons pe_int (pa_cons pe_int pa_nil))) (by with_unfolding_all rfl))))))) (fun _ _ _ _ _ => (pv 2))) (pe_lst pa_nil) (nomark _))))), ?_⟩
    refine q_dead (et_or (et_not (et_B (ev_isi (T := "tuple") (b := true) (ea_cons (ev_var rfl) (ea_cons ev_c ea_nil)) (fun H1 e => tyx_tup (ex_t e hS)) (by decide +kernel)))) (fun _ => et_test (ev_op (ev_lenP (ep_ev (ev_var rfl) hS)) (ev_var rfl) (rv_ne rfl)))) ?_ fun H1 e1 => ?_
    · rw [List.length_map, hn]
      simp
    refine s_ret (ev_is (ev_eqLI (ns := []) (ms := []) (el_is (el_lcP (fun _ => false) (fun _ => .non) (ep_ev (ev_var rfl) (ex_t e1 hS)) (by rw [List.length_map]; omega) (fun x => rfl) (fun i x H2 e2 hx => ?_) (fun i x H2 e2 hx hf => by cases hf)) ?_) (el_lst ea_nil (by decide))) (by simp)) fun H2 e2 => q H2 (e1.trans e2)
    · obtain ⟨b, rfl⟩ := cb_of hx
      refine et_cast (et_or (et_not (et_B (ev_cal (ea_cons (ev_var rfl) ea_nil) fun H3 e3 => ⟨ib b, rfl, rfl⟩))) (fun _ => et_test (ev_niP (ev_var rfl) (ep_tup (ea_cons ev_c (ea_cons ev_c ea_nil)) (by decide)) rfl rfl))) ?_
      cases b <;> rfl
    · unfold given
      simp
def sp__law_number (K : PySem.W.Frag) : Sp := spV fun vs H z => ∃ (a : Addr) (ns : List Int) (n : Nat), vs = [.ref a, .int n] ∧ SqL K H a (ns.map V.int) ∧ n ≤ 1000 ∧ z = .int (numb ns n)
theorem ok__law_number {f : Addr} {fd : FuncData} (F : Fun K "_law_number" "_law_number" s__law_number f fd) (T : Bt mg) (c__law_twos : Cal P w K mg base "_law_twos" 1 ["_law_many_times"] (sp__law_twos K)) (c__law_mixed : Cal P w K mg base "_law_mixed" 2 ["_law_script", "_law_k"] (sp__law_mixed K)) (c__law_cell_at : Cal P w K mg base "_law_cell_at" 1 ["_law_script", "_law_k"] (sp__law_cell_at K)) :
    FnOk P w K mg base CX0 3 f fd ["_law_script", "_law_size"] (sp__law_number K) := by
  refine F.ok sc__law_number (fun vs H Q E h => ?_) (fun cdv A outer s H vs Q E hr h => ?_)
  · obtain ⟨_, ⟨a, ns, n, rfl, _⟩, q⟩ := h
    rfl
  · obtain ⟨_, ⟨a, ns, n, rfl, hS, hn, rfl⟩, q⟩ := h
    refine ⟨_, (pss_cons (ps_set (i := 2) sc__law_number.nd rfl (Or.inl rfl) (pe_cal c__law_twos (hr.mono (by decide)) (pa_cons (pv 1) pa_nil))) (pss_cons (ps_set (i := 3) sc__law_number.nd rfl (Or.inl rfl) (pe_op op_mod (pe_op op_add (pe_op op_mul (pe_cal c__law_cell_at (hr.mono (by decide)) (pa_cons (pv 0) (pa_cons pe_int pa_nil))) pe_int) (pe_op op_mul (pe_cal c__law_mixed (hr.mono (by decide)) (pa_cons (pv 0) (pa_cons pe_int pa_nil))) pe_int)) (pv 2))) (pss_cons (ps_if (pt_cmpR op_eq (pe_op op_mod (pe_cal c__law_mixed (hr.mono (by decide)) (pa_cons (pv 0) (pa_cons pe_int pa_nil))) pe_int) pe_int (nomark _)) (pss_one (ps_ret (pe_op op_mod (pv 3) (pe_callB (r := rMin2) (call_min2 rfl) (by rfl) T.n_min (by decide +kernel) (pa_cons pe_int (pa_cons (pv 2) pa_nil)))))) pss_nil) (pss_cons (ps_if (pt_cmpR op_eq (pe_op op_mod (pe_cal c__law_mixed (hr.mono (by decide)) (pa_cons (pv 0) (pa_cons pe_int pa_nil))) pe_int) pe_int (nomark _)) (pss_one (ps_ret (pe_op op_sub (pe_op op_sub (pv 2) pe_int) (pe_op op_mod (pv 3) (pe_callB (r := rMin2) (call_min2 rfl) (by rfl) T.n_min (by decide +kernel) (pa_cons pe_int (pa_cons (pv 2) pa_nil))))))) pss_nil) (pss_one (ps_ret (pv 3))))))), ?_⟩
    have hp := p2 n
    have hm := mn_pos n
    refine q_asg (ev_cal (ea_cons (ev_var rfl) ea_nil) fun H1 e => ⟨n, rfl, hn, rfl⟩) fun H1 e1 => ?_
    refine q_asg (v := .int (nb0 ns n)) (ev_op (ev_op (ev_op (ev_cal (ea_cons (ev_var rfl) (ea_cons ev_c ea_nil)) fun H2 e => ⟨a, ns, 1, rfl, ex_l (e1.trans e) hS, rfl⟩) ev_c (rv_I (.inr ⟨by decide, by decide⟩))) (ev_op (ev_cal (ea_cons (ev_var rfl) (ea_cons ev_c ea_nil)) fun H2 e => ⟨a, ns, 1, rfl, ex_l (e1.trans e) hS, by decide, rfl⟩) ev_c (rv_I (.inr ⟨by decide, by decide⟩))) rv_I0) (ev_var rfl) (rv_I hp)) fun H2 e2 => ?_
    have eS := ex_l (e1.trans e2) hS
    refine q_when (et_test (ev_op (ev_op (ev_cal (ea_cons (ev_var rfl) (ea_cons ev_c ea_nil)) fun H3 e => ⟨a, ns, 2, rfl, ex_l e eS, by decide, rfl⟩) ev_c (rv_I (show (0 : Int) < 4 by decide))) ev_c (rv_eq rfl))) (fun hb H3 e3 => ?_) (fun hb H3 e3 => ?_)
    · have h1 : mix ns 2 % 4 = 1 := V.int.inj (of_decide_eq_true hb)
      rw [show numb ns n = nb0 ns n % mn n by unfold numb; rw [if_pos h1]] at q
      exact s_ret (ev_op (ev_var rfl) (ev_min2 ev_c (ev_var rfl)) (rv_I hm.1)) fun H4 e4 => q H4 (((e1.trans e2).trans e3).trans e4)
    have h1 : ¬ mix ns 2 % 4 = 1 := fun z => of_decide_eq_false hb (by rw [z])
    refine q_when (et_test (ev_op (ev_op (ev_cal (ea_cons (ev_var rfl) (ea_cons ev_c ea_nil)) fun H4 e => ⟨a, ns, 2, rfl, ex_l (e3.trans e) eS, by decide, rfl⟩) ev_c (rv_I (show (0 : Int) < 4 by decide))) ev_c (rv_eq rfl))) (fun hb H4 e4 => ?_) (fun hb H4 e4 => ?_)
    · have h2 : mix ns 2 % 4 = 2 := V.int.inj (of_decide_eq_true hb)
      rw [show numb ns n = 2 ^ n - 1 - nb0 ns n % mn n by unfold numb; rw [if_neg h1, if_pos h2]] at q
      exact s_ret (ev_op (ev_op (ev_var rfl) ev_c rv_I0) (ev_op (ev_var rfl) (ev_min2 ev_c (ev_var rfl)) (rv_I hm.1)) rv_I0) fun H5 e5 => q H5 ((((e1.trans e2).trans e3).trans e4).trans e5)
    · have h2 : ¬ mix ns 2 % 4 = 2 := fun z => of_decide_eq_false hb (by rw [z])
      rw [show numb ns n = nb0 ns n by unfold numb; rw [if_neg h1, if_neg h2]] at q
      exact s_ret (ev_var rfl) fun H5 e5 => q H5 ((((e1.trans e2).trans e3).trans e4).trans e5)
theorem ok_law {f : Addr} {fd : FuncData} (F : Fun K "law" "law" s_law f fd) (T : Bt mg) (c__law_number : Cal P w K mg base "_law_number" 3 ["_law_script", "_law_size"] (sp__law_number K)) (c_setting_at : Cal P w K mg base "setting_at" 2 ["rings", "number"] (sp_setting_at K)) (c__law_twos : Cal P w K mg base "_law_twos" 1 ["_law_many_times"] (sp__law_twos K)) (c__law_mixed : Cal P w K mg base "_law_mixed" 2 ["_law_script", "_law_k"] (sp__law_mixed K)) (c__law_is_setting : Cal P w K mg base "_law_is_setting" 2 ["_law_found", "_law_size"] (sp__law_is_setting K)) (c__law_whole : Cal P w K mg base "_law_whole" 1 ["_law_thing"] (sp__law_whole K)) (c_number_of : Cal P w K mg base "number_of" 3 ["setting"] (sp_number_of K)) (c__law_may : Cal P w K mg base "_law_may" 1 ["_law_setting", "_law_ring"] (sp__law_may K)) :
    FnOk P w K mg base CX0 4 f fd ["_law_script"] (sp_law K) := by
  refine F.ok sc_law (fun vs H Q E h => ?_) (fun cdv A outer s H vs Q E hr h => ?_)
  · obtain ⟨_, ⟨a, ns, rfl, _⟩, q⟩ := h
    rfl
  · obtain ⟨_, ⟨a, ns, rfl, hS, hlen, rfl⟩, q⟩ := h
    refine ⟨_, (pss_cons (ps_set (i := 1) sc_law.nd rfl (Or.inl rfl) (pe_op op_add pe_int (pe_op op_mod (pe_cal c__law_mixed (hr.mono (by decide)) (pa_cons (pv 0) (pa_cons pe_int pa_nil))) pe_int))) (pss_cons (ps_set (i := 2) sc_law.nd rfl (Or.inl rfl) (pe_cal c__law_number (hr.mono (by decide)) (pa_cons (pv 0) (pa_cons (pv 1) pa_nil)))) (pss_cons (ps_set (i := 3) sc_law.nd rfl (Or.inr rfl) (pe_cal c_setting_at (hr.mono (by decide)) (pa_cons (pv 1) (pa_cons (pv 2) pa_nil)))) (pss_cons (ps_if (PW.pt (pw_or (pt_not (pt_val (pe_cal c__law_is_setting (hr.mono (by decide)) (pa_cons (pv 3) (pa_cons (pv 1) pa_nil))))) (pw_or (pt_not (pt_val (pe_cal c__law_whole (hr.mono (by decide)) (pa_cons (pe_cal c_number_of (hr.mono (by decide)) (pa_cons (pv 3) pa_nil)) pa_nil)))) (pw_or1 (pt_cmpR op_ne (pe_cal c_number_of (hr.mono (by decide)) (pa_cons (pv 3) pa_nil)) (pv 2) (nomark _)))))) (pss_one (ps_ret pe_bl)) pss_nil) (pss_cut (ps_if (pt_cmpR op_lt (pe_op op_add (pv 2) pe_int) (pe_cal c__law_twos (hr.mono (by decide)) (pa_cons (pv 1) pa_nil)) (nomark _)) (pss_cons (ps_set (i := 4) sc_law.nd rfl (Or.inr rfl) (pe_cal c_setting_at (hr.mono (by decide)) (pa_cons (pv 1) (pa_cons (pe_op op_add (pv 2) pe_int) pa_nil)))) (pss_cons (ps_if (PW.pt (pw_or (pt_not (pt_val (pe_cal c__law_is_setting (hr.mono (by decide)) (pa_cons (pv 4) (pa_cons (pv 1) pa_nil))))) (pw_or1 (pt_cmpR op_ne (pe_cal c_number_of (hr.mono (by decide)) (pa_cons (pv 4) pa_nil)) (pe_op op_add (pv 2) pe_int) (nomark _))))) (pss_one (ps_ret pe_bl)) pss_nil) (pss_cons (ps_setLc (i := 5) (own := [("_law_ring", 6)]) (g := gName 6) rfl sc_law.nd rfl rfl (sw_true rfl rfl rfl (by decide +kernel)) (pi_range1 (by rfl) T.n_range (pa_cons (pv 1) pa_nil)) (blkOk_by (own := [("_law_ring", 6)]) (N := ["_law_script", "_law_size", "_law_number_here", "_law_one", "_law_other", "_law_unlike", "_law_ring"]) (sc := defScope s_law) (by decide +kernel)) (fun _ _ _ _ _ => (pg_name (i := 6) sc_law.nd rfl (Or.inl rfl))) (fun _ _ _ _ _ => (pts_one (pt_cmpR op_ne (pe_ix (r := rIxT K) ix_tup (pv 3) (pv 6) (fun _ _ => rfl)) (pe_ix (r := rIxT K) ix_tup (pv 4) (pv 6) (fun _ _ => rfl)) (nomark _)))) (fun _ _ _ _ _ => (pv 6))) (pss_one (ps_if (PW.pt (pw_or (pt_cmpR op_ne (pe_callB (r := rLenS K) call_len_seq (by rfl) T.n_len (by decide +kernel) (pa_cons (pv 5) pa_nil)) pe_int (nomark _)) (pw_or (pt_not (pt_val (pe_cal c__law_may (hr.mono (by decide)) (pa_cons (pv 3) (pa_cons (pe_ix (r := rIxL K) ix_list (pv 5) pe_int (fun _ _ => rfl)) pa_nil))))) (pw_or1 (pt_not (pt_val (pe_cal c__law_may (hr.mono (by decide)) (pa_cons (pv 4) (pa_cons (pe_ix (r := rIxL K) ix_list (pv 5) pe_int (fun _ _ => rfl)) pa_nil))))))))) (pss_one (ps_ret pe_bl)) pss_nil))))) pss_nil) (pss_cons (ps_if (PW.pt (pw_or (pt_cmpR (r := rNeD K) (op_neD hr.units) (pe_cal c_setting_at (hr.mono (by decide)) (pa_cons (pv 1) (pa_cons pe_int pa_nil))) (pe_op (r := rRepA K) op_repA (pe_tup (pa_cons pe_int pa_nil)) (pv 1)) (nomark _)) (pw_or1 (pt_cmpR (r := rNeD K) (op_neD hr.units) (pe_cal c_setting_at (hr.mono (by decide)) (pa_cons (pv 1) (pa_cons (pe_op op_sub (pe_cal c__law_twos (hr.mono (by decide)) (pa_cons (pv 1) pa_nil)) pe_int) pa_nil))) (pe_op (r := rCatA K) op_catA (pe_op (r := rRepA K) op_repA (pe_tup (pa_cons pe_int pa_nil)) (pe_op op_sub (pv 1) pe_int)) (pe_tup (pa_cons pe_int pa_nil))) (nomark _))))) (pss_one (ps_ret pe_bl)) pss_nil) (pss_one (ps_ret (pe_and (pe_cmpR (r := rEqD K) (op_eqD hr.units) (pe_cal c_setting_at (hr.mono (by decide)) (pa_cons (pv 1) (pa_cons (pv 2) pa_nil))) (pv 3) (nomark _)) (pe_one (pe_cmpR op_eq (pe_cal c_number_of (hr.mono (by decide)) (pa_cons (pv 3) pa_nil)) (pv 2) (nomark _)))))))))))), ?_⟩
    obtain ⟨n, hn, hn1, hn2⟩ : ∃ n : Nat, 1 + mix ns 0 % 40 = (n : Int) ∧ 1 ≤ n ∧ n ≤ 40 := ⟨(1 + mix ns 0 % 40).toNat, by omega, by omega, by omega⟩
    obtain ⟨k, hk, hk2⟩ : ∃ k : Nat, numb ns n = (k : Int) ∧ k < 2 ^ n := by
      have h := numb_lt ns n
      have e : ((2 ^ n : Nat) : Int) = 2 ^ n := by simp
      exact ⟨(numb ns n).toNat, by omega, by omega⟩
    have hsl := G.sets_len n k
    refine q_asg (v := .int n) (ev_is (ev_op ev_c (ev_op (ev_cal (ea_cons (ev_var rfl) (ea_cons ev_c ea_nil)) fun H2 e => ⟨a, ns, 0, rfl, ex_l e hS, by decide, rfl⟩) ev_c (rv_I (show (0 : Int) < 40 by decide))) rv_I0) (by rw [hn])) fun H1 e1 => ?_
    refine q_asg (v := .int k) (ev_cal (ea_cons (ev_var rfl) (ea_cons (ev_var rfl) ea_nil)) fun H2 e => ⟨a, ns, n, rfl, ex_l (e1.trans e) hS, by omega, by rw [hk]⟩) fun H2 e2 => ?_
    refine q_asgP (ep_cal (ea_cons (ev_var rfl) (ea_cons (ev_var rfl) ea_nil)) fun H3 e => ⟨n, k, rfl, hn1, hn2, hk2, rfl⟩) fun p H3 e3 hp => ?_
    have nof : ∀ H4, Ex H3 H4 → ∃ (p' : Addr) (bs : List Bool), [V.ref p] ++ [] = [.ref p'] ∧ SqT K H4 p' (bs.map cb) ∧ 1 ≤ bs.length ∧ bs.length ≤ 40 ∧ V.int (k : Int) = .int (G.num bs : Nat) := fun H4 e => ⟨p, _, rfl, ex_t e hp, by omega, by omega, by rw [G.num_sets n k hk2]⟩
    refine q_dead (et_or (et_not (et_B (ev_cal (ea_cons (ev_var rfl) (ea_cons (ev_var rfl) ea_nil)) fun H4 e => ⟨p, _, n, rfl, ex_t e hp, by omega, by omega, rfl⟩))) fun _ =>
      et_or (et_not (et_B (ev_cal (ea_cons (ev_cal (ea_cons (ev_var rfl) ea_nil) nof) ea_nil) fun H4 e => ⟨_, rfl, rfl⟩))) fun _ => et_test (ev_op (ev_cal (ea_cons (ev_var rfl) ea_nil) nof) (ev_var rfl) (rv_ne rfl))) (by simp) fun H4 e4 => ?_
    have E4 := ((e1.trans e2).trans e3).trans e4
    refine q_cut (M := fun σ' H' => (∃ c4 c5, σ' = [some (.ref a), some (.int n), some (.int k), some (.ref p), c4, c5, none]) ∧ Ex H4 H') ?_ fun σ' H' h => ?_
    · refine s_when (et_test (ev_op (ev_op (ev_var rfl) ev_c rv_I0) (ev_cal (ea_cons (ev_var rfl) ea_nil) fun H5 e => ⟨n, rfl, by omega, rfl⟩) rv_I0)) (fun hb H5 e5 => ?_) (fun hb H5 e5 => ⟨⟨_, _, rfl⟩, e5⟩)
      have hk3 : k + 1 < 2 ^ n := by
        have h := of_decide_eq_true hb
        have e : ((2 ^ n : Nat) : Int) = 2 ^ n := by simp
        omega
      obtain ⟨r, hr, hmay, hflip⟩ := G.next_of hk3
      have hmay2 : G.may (G.sets n (k + 1)) r = true := by rw [← hflip, G.may_flip, hmay]
      have hsl2 := G.sets_len n (k + 1)
      refine q_asgP (ep_cal (ea_cons (ev_var rfl) (ea_cons (ev_op (ev_var rfl) ev_c rv_I0) ea_nil)) fun H6 e => ⟨n, k + 1, rfl, hn1, hn2, hk3, rfl⟩) fun p2 H6 e6 hp2 => ?_
      have nof2 : ∀ H7, Ex H6 H7 → ∃ (p' : Addr) (bs : List Bool), [V.ref p2] ++ [] = [.ref p'] ∧ SqT K H7 p' (bs.map cb) ∧ 1 ≤ bs.length ∧ bs.length ≤ 40 ∧ V.int ((k + 1 : Nat) : Int) = .int (G.num bs : Nat) := fun H7 e => ⟨p2, _, rfl, ex_t e hp2, by omega, by omega, by rw [G.num_sets n (k + 1) hk3]⟩
      refine q_dead (et_or (et_not (et_B (ev_cal (ea_cons (ev_var rfl) (ea_cons (ev_var rfl) ea_nil)) fun H7 e => ⟨p2, _, n, rfl, ex_t e hp2, by omega, by omega, rfl⟩))) fun _ =>
        et_test (ev_op (ev_cal (ea_cons (ev_var rfl) ea_nil) nof2) (ev_op (ev_var rfl) ev_c rv_I0) (rv_ne rfl))) (by simp) fun H7 e7 => ?_
      have P1 : SqT K H7 p ((G.sets n k).map cb) := ex_t (((e4.trans e5).trans e6).trans e7) hp
      have P2 : SqT K H7 p2 ((G.sets n (k + 1)).map cb) := ex_t e7 hp2
      refine q_asgL (el_is (ys := [.int (r : Int)]) (el_lcR1 (n := (n : Int)) (fun i => !decide (cb ((G.sets n k)[i]?.getD false) = cb ((G.sets n (k + 1))[i]?.getD false))) (fun i => .int (i : Int)) (ea_cons (ev_var rfl) ea_nil) ⟨by omega, by omega⟩ (fun x => rfl)
        (fun i H8 e8 hi => et_test (ev_op (ev_op (ev_var rfl) (ev_var rfl) (rv_ixT (ex_t e8 P1) (at_of rfl (cb_get (by omega))))) (ev_op (ev_var rfl) (ev_var rfl) (rv_ixT (ex_t e8 P2) (at_of rfl (cb_get (by omega))))) (rv_ne rfl))) (fun i H8 e8 hi _ => ev_var rfl)) ?_) fun l H8 hl e8 hL => ?_
      · rw [Int.toNat_natCast]
        refine given_one hr fun i hi => ?_
        rw [cb_ne, ← hflip]
        exact flip_ne (by omega) (by omega)
      have hLs : SqL K H8 l [.int (r : Int)] := sq_of hL
      refine s_dead (et_or (et_test (ev_op (ev_len (ev_var rfl) hLs) ev_c (rv_ne rfl))) fun _ => et_or (et_not (et_B (ev_cal (ea_cons (ev_var rfl) (ea_cons (ev_op (ev_var rfl) ev_c (rv_ixL hLs (atI_nat (j := 0) rfl))) ea_nil)) fun H9 e => ⟨p, _, r, rfl, ex_t (e8.trans e) P1, by omega, by omega, rfl⟩))) fun _ =>
        et_not (et_B (ev_cal (ea_cons (ev_var rfl) (ea_cons (ev_op (ev_var rfl) ev_c (rv_ixL hLs (atI_nat (j := 0) rfl))) ea_nil)) fun H9 e => ⟨p2, _, r, rfl, ex_t (e8.trans e) P2, by omega, by omega, rfl⟩))) (by simp [hmay, hmay2]) fun H9 e9 => ⟨⟨_, _, rfl⟩, ((((e5.trans e6).trans e7).trans e8).trans e9)⟩
    obtain ⟨⟨c4, c5, rfl⟩, e5⟩ := h
    have P1 : SqT K H' p ((G.sets n k).map cb) := ex_t (e4.trans e5) hp
    obtain ⟨m, rfl⟩ : ∃ m, n = m + 1 := ⟨n - 1, by omega⟩
    have hpow : 0 < 2 ^ (m + 1) := Nat.two_pow_pos _
    have hpe : ((2 ^ (m + 1) : Nat) : Int) = 2 ^ (m + 1) := by simp
    refine q_dead (et_or (et_test (ev_neS (as := G.sets (m + 1) 0) (bs := List.replicate (m + 1) false) (ep_cal (ea_cons (ev_var rfl) (ea_cons ev_c ea_nil)) fun H6 e => ⟨m + 1, 0, rfl, hn1, hn2, by omega, rfl⟩)
      (ep_is (ep_rep (ep_tup (ea_cons ev_c ea_nil) (by decide)) (ev_var rfl) (by simp) ⟨by omega, by omega⟩ (by decide)) (by rw [Int.toNat_natCast, rep_zero])))) fun _ =>
      et_test (ev_neS (as := G.sets (m + 1) (2 ^ (m + 1) - 1)) (bs := List.replicate m false ++ [true]) (ep_cal (ea_cons (ev_var rfl) (ea_cons (ev_op (ev_cal (ea_cons (ev_var rfl) ea_nil) fun H6 e => ⟨m + 1, rfl, by omega, rfl⟩) ev_c rv_I0) ea_nil)) fun H6 e => ⟨m + 1, 2 ^ (m + 1) - 1, by rw [show (((2 ^ (m + 1) - 1 : Nat)) : Int) = 2 ^ (m + 1) - 1 by omega] <;> rfl, hn1, hn2, by omega, rfl⟩)
        (ep_is (ep_cat (ep_rep (k := (m : Int)) (ep_tup (ea_cons ev_c ea_nil) (by decide)) (ev_is (ev_op (ev_var rfl) ev_c rv_I0) (by congr 1; omega)) (by simp) ⟨by omega, by omega⟩ (by decide)) (ep_tup (ea_cons ev_c ea_nil) (by decide)) (by rw [Int.toNat_natCast, rep_zero]; simp; omega)) (by rw [Int.toNat_natCast, rep_zero, List.map_append] <;> rfl)))) (by rw [sets_zero, sets_end]; simp) fun H6 e6 => ?_
    have P2 := ex_t e6 P1
    exact s_ret (ev_is (ev_andV (ev_eqS (ep_cal (ea_cons (ev_var rfl) (ea_cons (ev_var rfl) ea_nil)) fun H7 e => ⟨m + 1, k, rfl, hn1, hn2, hk2, rfl⟩) (ep_ev (ev_var rfl) P2)) fun _ => ev_op (ev_cal (ea_cons (ev_var rfl) ea_nil) fun H7 e => ⟨p, _, rfl, ex_t e P2, by omega, by omega, rfl⟩) (ev_var rfl) (rv_eq rfl)) (by rw [G.num_sets _ k hk2]; simp)) fun H7 e7 => q H7 (((E4.trans e5).trans e6).trans e7)
end
theorem all_mk {l : PySem.W.OpenLaw} {w : World} {K : PySem.W.Frag} {h : Heap} {mg : Str → Option Value} {fa f1 f2 f3 f4 f5 f6 f7 f8 f9 f10 f11 f12 f13 : Addr} (X : K.In h) (G : h.Ns mainGlobals mg) (hfa : mg "law" = some (.ref fa))
    {od1 an1 od2 an2 od3 an3 od4 an4 od5 an5 od6 an6 od7 an7 od8 an8 od9 an9 od10 an10 od11 an11 od12 an12 od13 an13 : Option Addr} {sl1 sl2 sl3 sl4 sl5 sl6 sl7 sl8 sl9 sl10 sl11 sl12 sl13 : Array (Option Value)} {oc1 kV1 dc1 pm1 cd1 ct1 oc2 kV2 dc2 pm2 cd2 ct2 oc3 kV3 dc3 pm3 cd3 ct3 oc4 kV4 dc4 pm4 cd4 ct4 oc5 kV5 dc5 pm5 cd5 ct5 oc6 kV6 dc6 pm6 cd6 ct6 oc7 kV7 dc7 pm7 cd7 ct7 oc8 kV8 dc8 pm8 cd8 ct8 oc9 kV9 dc9 pm9 cd9 ct9 oc10 kV10 dc10 pm10 cd10 ct10 oc11 kV11 dc11 pm11 cd11 ct11 oc12 kV12 dc12 pm12 cd12 ct12 oc13 kV13 dc13 pm13 cd13 ct13 : Value} {tk_MOST_RINGS : Tok}
    (a1 : PySem.W.nsIn K mainGlobals "is_whole" = some (some (.ref f1))) (l1 : K.lookup f1 = some ⟨oc1, od1, .func (PySem.W.fnOf "is_whole" "is_whole" (defArgs s_is_whole) (defBody s_is_whole) (defScope s_is_whole) .none kV1 dc1 pm1 an1 cd1 ct1), sl1⟩) (c1 : PySem.W.codeIn K cd1 "is_whole" = true) (k1 : PySem.W.keepIn K (.ref f1) = true)
    (a2 : PySem.W.nsIn K mainGlobals "is_tuple" = some (some (.ref f2))) (l2 : K.lookup f2 = some ⟨oc2, od2, .func (PySem.W.fnOf "is_tuple" "is_tuple" (defArgs s_is_tuple) (defBody s_is_tuple) (defScope s_is_tuple) .none kV2 dc2 pm2 an2 cd2 ct2), sl2⟩) (c2 : PySem.W.codeIn K cd2 "is_tuple" = true) (k2 : PySem.W.keepIn K (.ref f2) = true)
    (a3 : PySem.W.nsIn K mainGlobals "need_setting" = some (some (.ref f3))) (l3 : K.lookup f3 = some ⟨oc3, od3, .func (PySem.W.fnOf "need_setting" "need_setting" (defArgs s_need_setting) (defBody s_need_setting) (defScope s_need_setting) .none kV3 dc3 pm3 an3 cd3 ct3), sl3⟩) (c3 : PySem.W.codeIn K cd3 "need_setting" = true) (k3 : PySem.W.keepIn K (.ref f3) = true)
    (a4 : PySem.W.nsIn K mainGlobals "number_of" = some (some (.ref f4))) (l4 : K.lookup f4 = some ⟨oc4, od4, .func (PySem.W.fnOf "number_of" "number_of" (defArgs s_number_of) (defBody s_number_of) (defScope s_number_of) .none kV4 dc4 pm4 an4 cd4 ct4), sl4⟩) (c4 : PySem.W.codeIn K cd4 "number_of" = true) (k4 : PySem.W.keepIn K (.ref f4) = true)
    (a5 : PySem.W.nsIn K mainGlobals "setting_at" = some (some (.ref f5))) (l5 : K.lookup f5 = some ⟨oc5, od5, .func (PySem.W.fnOf "setting_at" "setting_at" (defArgs s_setting_at) (defBody s_setting_at) (defScope s_setting_at) .none kV5 dc5 pm5 an5 cd5 ct5), sl5⟩) (c5 : PySem.W.codeIn K cd5 "setting_at" = true) (k5 : PySem.W.keepIn K (.ref f5) = true)
    (a6 : PySem.W.nsIn K mainGlobals "_law_cell_at" = some (some (.ref f6))) (l6 : K.lookup f6 = some ⟨oc6, od6, .func (PySem.W.fnOf "_law_cell_at" "_law_cell_at" (defArgs s__law_cell_at) (defBody s__law_cell_at) (defScope s__law_cell_at) .none kV6 dc6 pm6 an6 cd6 ct6), sl6⟩) (c6 : PySem.W.codeIn K cd6 "_law_cell_at" = true) (k6 : PySem.W.keepIn K (.ref f6) = true)
    (a7 : PySem.W.nsIn K mainGlobals "_law_mixed" = some (some (.ref f7))) (l7 : K.lookup f7 = some ⟨oc7, od7, .func (PySem.W.fnOf "_law_mixed" "_law_mixed" (defArgs s__law_mixed) (defBody s__law_mixed) (defScope s__law_mixed) .none kV7 dc7 pm7 an7 cd7 ct7), sl7⟩) (c7 : PySem.W.codeIn K cd7 "_law_mixed" = true) (k7 : PySem.W.keepIn K (.ref f7) = true)
    (a8 : PySem.W.nsIn K mainGlobals "_law_whole" = some (some (.ref f8))) (l8 : K.lookup f8 = some ⟨oc8, od8, .func (PySem.W.fnOf "_law_whole" "_law_whole" (defArgs s__law_whole) (defBody s__law_whole) (defScope s__law_whole) .none kV8 dc8 pm8 an8 cd8 ct8), sl8⟩) (c8 : PySem.W.codeIn K cd8 "_law_whole" = true) (k8 : PySem.W.keepIn K (.ref f8) = true)
    (a9 : PySem.W.nsIn K mainGlobals "_law_twos" = some (some (.ref f9))) (l9 : K.lookup f9 = some ⟨oc9, od9, .func (PySem.W.fnOf "_law_twos" "_law_twos" (defArgs s__law_twos) (defBody s__law_twos) (defScope s__law_twos) .none kV9 dc9 pm9 an9 cd9 ct9), sl9⟩) (c9 : PySem.W.codeIn K cd9 "_law_twos" = true) (k9 : PySem.W.keepIn K (.ref f9) = true)
    (a10 : PySem.W.nsIn K mainGlobals "_law_may" = some (some (.ref f10))) (l10 : K.lookup f10 = some ⟨oc10, od10, .func (PySem.W.fnOf "_law_may" "_law_may" (defArgs s__law_may) (defBody s__law_may) (defScope s__law_may) .none kV10 dc10 pm10 an10 cd10 ct10), sl10⟩) (c10 : PySem.W.codeIn K cd10 "_law_may" = true) (k10 : PySem.W.keepIn K (.ref f10) = true)
    (a11 : PySem.W.nsIn K mainGlobals "_law_is_setting" = some (some (.ref f11))) (l11 : K.lookup f11 = some ⟨oc11, od11, .func (PySem.W.fnOf "_law_is_setting" "_law_is_setting" (defArgs s__law_is_setting) (defBody s__law_is_setting) (defScope s__law_is_setting) .none kV11 dc11 pm11 an11 cd11 ct11), sl11⟩) (c11 : PySem.W.codeIn K cd11 "_law_is_setting" = true) (k11 : PySem.W.keepIn K (.ref f11) = true)
    (a12 : PySem.W.nsIn K mainGlobals "_law_number" = some (some (.ref f12))) (l12 : K.lookup f12 = some ⟨oc12, od12, .func (PySem.W.fnOf "_law_number" "_law_number" (defArgs s__law_number) (defBody s__law_number) (defScope s__law_number) .none kV12 dc12 pm12 an12 cd12 ct12), sl12⟩) (c12 : PySem.W.codeIn K cd12 "_law_number" = true) (k12 : PySem.W.keepIn K (.ref f12) = true)
    (a13 : PySem.W.nsIn K mainGlobals "law" = some (some (.ref f13))) (l13 : K.lookup f13 = some ⟨oc13, od13, .func (PySem.W.fnOf "law" "law" (defArgs s_law) (defBody s_law) (defScope s_law) .none kV13 dc13 pm13 an13 cd13 ct13), sl13⟩) (c13 : PySem.W.codeIn K cd13 "law" = true) (k13 : PySem.W.keepIn K (.ref f13) = true)
    (z_bool : PySem.W.nsIn K mainGlobals "bool" = some none)
    (z_int : PySem.W.nsIn K mainGlobals "int" = some none)
    (z_isinstance : PySem.W.nsIn K mainGlobals "isinstance" = some none)
    (z_len : PySem.W.nsIn K mainGlobals "len" = some none)
    (z_min : PySem.W.nsIn K mainGlobals "min" = some none)
    (z_range : PySem.W.nsIn K mainGlobals "range" = some none)
    (z_reversed : PySem.W.nsIn K mainGlobals "reversed" = some none)
    (z_tuple : PySem.W.nsIn K mainGlobals "tuple" = some none)
    (z_type : PySem.W.nsIn K mainGlobals "type" = some none)
    (v_MOST_RINGS : PySem.W.nsIn K mainGlobals "MOST_RINGS" = some (some (.int 40 tk_MOST_RINGS)))
    : ∃ fd : FuncData, (∀ (s : Shared) (v : Value), BindsTo s fd ⟨[v], []⟩ [("_law_script", v)]) ∧ ∀ base : Heap, K.In base → base.Ns mainGlobals mg → FnOk l.prog w K mg base CX0 4 fa fd ["_law_script"] (sp_law K) := by
  have e := hfa.symm.trans (PySem.W.mg_of X G a13)
  cases e
  have T : Bt mg := ⟨PySem.W.mg_none_of X G z_bool, PySem.W.mg_none_of X G z_int, PySem.W.mg_none_of X G z_isinstance, PySem.W.mg_none_of X G z_len, PySem.W.mg_none_of X G z_min, PySem.W.mg_none_of X G z_range, PySem.W.mg_none_of X G z_reversed, PySem.W.mg_none_of X G z_tuple, PySem.W.mg_none_of X G z_type, ⟨_, PySem.W.mg_of X G v_MOST_RINGS⟩⟩
  have F1 := fun_mk (st := s_is_whole) l1 c1 k1
  have F2 := fun_mk (st := s_is_tuple) l2 c2 k2
  have F3 := fun_mk (st := s_need_setting) l3 c3 k3
  have F4 := fun_mk (st := s_number_of) l4 c4 k4
  have F5 := fun_mk (st := s_setting_at) l5 c5 k5
  have F6 := fun_mk (st := s__law_cell_at) l6 c6 k6
  have F7 := fun_mk (st := s__law_mixed) l7 c7 k7
  have F8 := fun_mk (st := s__law_whole) l8 c8 k8
  have F9 := fun_mk (st := s__law_twos) l9 c9 k9
  have F10 := fun_mk (st := s__law_may) l10 c10 k10
  have F11 := fun_mk (st := s__law_is_setting) l11 c11 k11
  have F12 := fun_mk (st := s__law_number) l12 c12 k12
  have F13 := fun_mk (st := s_law) l13 c13 k13
  have b1 := F1.binds (ps := ["thing", "least", "greatest"]) fun _ _ _ _ _ _ us hl => match us, hl with | [_, _, _], _ => rfl
  have b2 := F2.binds (ps := ["thing", "fewest", "most"]) fun _ _ _ _ _ _ us hl => match us, hl with | [_, _, _], _ => rfl
  have b3 := F3.binds (ps := ["setting"]) fun _ _ _ _ _ _ us hl => match us, hl with | [_], _ => rfl
  have b4 := F4.binds (ps := ["setting"]) fun _ _ _ _ _ _ us hl => match us, hl with | [_], _ => rfl
  have b5 := F5.binds (ps := ["rings", "number"]) fun _ _ _ _ _ _ us hl => match us, hl with | [_, _], _ => rfl
  have b6 := F6.binds (ps := ["_law_script", "_law_k"]) fun _ _ _ _ _ _ us hl => match us, hl with | [_, _], _ => rfl
  have b7 := F7.binds (ps := ["_law_script", "_law_k"]) fun _ _ _ _ _ _ us hl => match us, hl with | [_, _], _ => rfl
  have b8 := F8.binds (ps := ["_law_thing"]) fun _ _ _ _ _ _ us hl => match us, hl with | [_], _ => rfl
  have b9 := F9.binds (ps := ["_law_many_times"]) fun _ _ _ _ _ _ us hl => match us, hl with | [_], _ => rfl
  have b10 := F10.binds (ps := ["_law_setting", "_law_ring"]) fun _ _ _ _ _ _ us hl => match us, hl with | [_, _], _ => rfl
  have b11 := F11.binds (ps := ["_law_found", "_law_size"]) fun _ _ _ _ _ _ us hl => match us, hl with | [_, _], _ => rfl
  have b12 := F12.binds (ps := ["_law_script", "_law_size"]) fun _ _ _ _ _ _ us hl => match us, hl with | [_, _], _ => rfl
  refine ⟨PySem.W.fnOf "law" "law" (defArgs s_law) (defBody s_law) (defScope s_law) .none kV13 dc13 pm13 an13 cd13 ct13, fun s v => .of_eq rfl, fun base _ _ => ?_⟩
  have C__law_cell_at : Cal l.prog w K mg base "_law_cell_at" 1 ["_law_script", "_law_k"] (sp__law_cell_at K) := cal_mk F6 (PySem.W.mg_of X G a6) b6 (ok__law_cell_at F6 T)
  have C__law_may : Cal l.prog w K mg base "_law_may" 1 ["_law_setting", "_law_ring"] (sp__law_may K) := cal_mk F10 (PySem.W.mg_of X G a10) b10 (ok__law_may F10 T)
  have C__law_twos : Cal l.prog w K mg base "_law_twos" 1 ["_law_many_times"] (sp__law_twos K) := cal_mk F9 (PySem.W.mg_of X G a9) b9 (ok__law_twos F9 T)
  have C__law_whole : Cal l.prog w K mg base "_law_whole" 1 ["_law_thing"] (sp__law_whole K) := cal_mk F8 (PySem.W.mg_of X G a8) b8 (ok__law_whole F8 T)
  have C_is_tuple : Cal l.prog w K mg base "is_tuple" 1 ["thing", "fewest", "most"] (sp_is_tuple K) := cal_mk F2 (PySem.W.mg_of X G a2) b2 (ok_is_tuple F2 T)
  have C_is_whole : Cal l.prog w K mg base "is_whole" 1 ["thing", "least", "greatest"] (sp_is_whole K) := cal_mk F1 (PySem.W.mg_of X G a1) b1 (ok_is_whole F1 T)
  have C__law_is_setting : Cal l.prog w K mg base "_law_is_setting" 2 ["_law_found", "_law_size"] (sp__law_is_setting K) := cal_mk F11 (PySem.W.mg_of X G a11) b11 (ok__law_is_setting F11 T C__law_whole)
  have C__law_mixed : Cal l.prog w K mg base "_law_mixed" 2 ["_law_script", "_law_k"] (sp__law_mixed K) := cal_mk F7 (PySem.W.mg_of X G a7) b7 (ok__law_mixed F7 T C__law_cell_at)
  have C_need_setting : Cal l.prog w K mg base "need_setting" 2 ["setting"] (sp_need_setting K) := cal_mk F3 (PySem.W.mg_of X G a3) b3 (ok_need_setting F3 T C_is_tuple C_is_whole)
  have C_setting_at : Cal l.prog w K mg base "setting_at" 2 ["rings", "number"] (sp_setting_at K) := cal_mk F5 (PySem.W.mg_of X G a5) b5 (ok_setting_at F5 T C_is_whole)
  have C__law_number : Cal l.prog w K mg base "_law_number" 3 ["_law_script", "_law_size"] (sp__law_number K) := cal_mk F12 (PySem.W.mg_of X G a12) b12 (ok__law_number F12 T C__law_twos C__law_mixed C__law_cell_at)
  have C_number_of : Cal l.prog w K mg base "number_of" 3 ["setting"] (sp_number_of K) := cal_mk F4 (PySem.W.mg_of X G a4) b4 (ok_number_of F4 T C_need_setting)
  exact ok_law F13 T C__law_number C_setting_at C__law_twos C__law_mixed C__law_is_setting C__law_whole C_number_of C__law_may
end R
open PySem PySem.W PyProof.Rows
set_option maxRecDepth 100000 in
set_option maxHeartbeats 0 in
theorem PySem.Challenge.cw_ringbar_k03_numbers_of_settings_holds : PySem.Challenge.rw_ringbar_k03_numbers_of_settings.Holds := by
  w_on; o_law; k_head; (case hw => w_witness2)
  k_fill
  refine L2.walk_of (l := PySem.Challenge.rw_ringbar_k03_numbers_of_settings) (n := 63) (k := 4) (x := "_law_script") (CX := fun _ => L2.CX0) (sp := fun w => R.sp_law _) rfl (by decide) rfl ⟨rfl, by decide, by decide⟩ (fun w h Y => PySem.W.kIn_of Y) ?F (fun _ _ a ns hl _ hS => ⟨_, ⟨a, ns, rfl, hS, hl, rfl⟩, fun _ _ => rfl⟩) (fun _ _ _ _ _ h => h)
  case F =>
    intro w mg fa h KX G hmg
    refine' R.all_mk KX G hmg ?a1 ?l1 ?c1 ?k1 ?a2 ?l2 ?c2 ?k2 ?a3 ?l3 ?c3 ?k3 ?a4 ?l4 ?c4 ?k4 ?a5 ?l5 ?c5 ?k5 ?a6 ?l6 ?c6 ?k6 ?a7 ?l7 ?c7 ?k7 ?a8 ?l8 ?c8 ?k8 ?a9 ?l9 ?c9 ?k9 ?a10 ?l10 ?c10 ?k10 ?a11 ?l11 ?c11 ?k11 ?a12 ?l12 ?c12 ?k12 ?a13 ?l13 ?c13 ?k13 ?z_bool ?z_int ?z_isinstance ?z_len ?z_min ?z_range ?z_reversed ?z_tuple ?z_type ?v_MOST_RINGS
    (case a1 => k_is)
    (case l1 => k_is)
    (case c1 => k_is)
    (case k1 => k_is)
    (case a2 => k_is)
    (case l2 => k_is)
    (case c2 => k_is)
    (case k2 => k_is)
    (case a3 => k_is)
    (case l3 => k_is)
    (case c3 => k_is)
    (case k3 => k_is)
    (case a4 => k_is)
    (case l4 => k_is)
    (case c4 => k_is)
    (case k4 => k_is)
    (case a5 => k_is)
    (case l5 => k_is)
    (case c5 => k_is)
    (case k5 => k_is)
    (case a6 => k_is)
    (case l6 => k_is)
    (case c6 => k_is)
    (case k6 => k_is)
    (case a7 => k_is)
    (case l7 => k_is)
    (case c7 => k_is)
    (case k7 => k_is)
    (case a8 => k_is)
    (case l8 => k_is)
    (case c8 => k_is)
    (case k8 => k_is)
    (case a9 => k_is)
    (case l9 => k_is)
    (case c9 => k_is)
    (case k9 => k_is)
    (case a10 => k_is)
    (case l10 => k_is)
    (case c10 => k_is)
    (case k10 => k_is)
    (case a11 => k_is)
    (case l11 => k_is)
    (case c11 => k_is)
    (case k11 => k_is)
    (case a12 => k_is)
    (case l12 => k_is)
    (case c12 => k_is)
    (case k12 => k_is)
    (case a13 => k_is)
    (case l13 => k_is)
    (case c13 => k_is)
    (case k13 => k_is)
    (case z_bool => k_is)
    (case z_int => k_is)
    (case z_isinstance => k_is)
    (case z_len => k_is)
    (case z_min => k_is)
    (case z_range => k_is)
    (case z_reversed => k_is)
    (case z_tuple => k_is)
    (case z_type => k_is)
    (case v_MOST_RINGS => k_is)


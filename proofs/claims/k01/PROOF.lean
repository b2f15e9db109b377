import PyProof.Rows.All
import Wide.All
import OpenK.AllK
import Wide.FinOn
import HandS.ForMost
import HandS.ForExc
import HandS.IsInst
import HandS.CallLocal
import HandS.CallSlots
import HandS.Gcd
import HandS.Wide
import HandS.Defaults
import HandS.Flow
import HandS.TryMany
import HandS.TupLe
import HandS.Comp
import HandS.Ends
import PySem.Challenge.RW_whatran_k01_shares_as_fractions
set_option Elab.async false
set_option linter.all false
set_option maxRecDepth 100000
set_option maxHeartbeats 4000000
namespace My
open PySem PySem.Spec PyProof.Rows L2
/-! ### readings by small steps -/
section
variable {K : PySem.W.Frag} {σ : L2.St} {H : Hp} {Q : VK} {D : Ends} {t u : TS} {ta tb te : TE} {c d : TT} {v x y : V} {r : R2}
theorem x_seq (h : t { D with nx := u D } σ H) : tSeq t u D σ H := h
theorem x_next (h : D.nx σ H) : tNext D σ H := h
theorem x_if {c : TT} (P : Bool → Hp → Prop) (hc : ∀ Q : Bool → Hp → Prop, (∀ b H', P b H' → Q b H') → c σ H Q) (h1 : ∀ H', P true H' → t D σ H') (h0 : ∀ H', P false H' → u D σ H') : tIfS c t u D σ H :=
  hc _ fun b H' p => by
    cases b with
    | true => exact (if_pos rfl : (if true = true then t D σ H' else u D σ H') = _) ▸ h1 H' p
    | false => exact (if_neg Bool.false_ne_true : (if false = true then t D σ H' else u D σ H') = _) ▸ h0 H' p
theorem x_asg {i : Nat} (P : V → Hp → Prop) (he : ∀ Q : VK, (∀ v H', P v H' → Q v H') → te σ H Q) (h : ∀ v H', P v H' → D.nx (σ.set i (some v)) H') : tAsg te (gName i) D σ H := he _ h
theorem x_drop (P : V → Hp → Prop) (he : ∀ Q : VK, (∀ v H', P v H' → Q v H') → te σ H Q) (h : ∀ v H', P v H' → D.nx σ H') : tDrop te D σ H := he _ h
theorem x_ret (P : V → Hp → Prop) (he : ∀ Q : VK, (∀ v H', P v H' → Q v H') → te σ H Q) (h : ∀ v H', P v H' → D.rt v H') : tRet te D σ H := he _ h
theorem x_cut (P : V → Hp → Prop) (he : ∀ Q : VK, (∀ v H', P v H' → Q v H') → te σ H Q) (h : ∀ v H', P v H' → Q v H') : te σ H Q := he _ h
theorem e_asg {i : Nat} (he : te σ H fun v H' => D.nx (σ.set i (some v)) H') : tAsg te (gName i) D σ H := he
theorem e_asgG {g : TG} (he : te σ H fun x H1 => g x σ H1 D.nx) : tAsg te g D σ H := he
theorem e_drop (he : te σ H fun _ H' => D.nx σ H') : tDrop te D σ H := he
theorem e_ret (he : te σ H D.rt) : tRet te D σ H := he
theorem e_if {c : TT} (h : c σ H fun b H1 => if b = true then t D σ H1 else u D σ H1) : tIfS c t u D σ H := h
theorem e_var {i : Nat} (h : σ[i]? = some (some v)) (q : Q v H) : tVar i σ H Q := ⟨v, h, q⟩
theorem e_c (q : Q v H) : tC v σ H Q := q
theorem e_op (h : ta σ H fun x H1 => tb σ H1 fun y H2 => r x y H2 Q) : tOp r ta tb σ H Q := h
theorem e_un {r : V → Hp → VK → Prop} (h : ta σ H fun x H1 => r x H1 Q) : tUn r ta σ H Q := h
theorem e_cb {r : List V → Hp → VK → Prop} {ts : TA} (h : ts σ H fun vs H1 => r vs H1 Q) : tCB r ts σ H Q := h
theorem e_cons {tr : TA} {Q : List V → Hp → Prop} (h : te σ H fun x H1 => tr σ H1 fun xs H2 => Q (x :: xs) H2) : tCons te tr σ H Q := h
theorem e_nil {Q : List V → Hp → Prop} (h : Q [] H) : tNil σ H Q := h
theorem e_tB {Q : Bool → Hp → Prop} (h : te σ H fun x H1 => ∃ c, x = .bl c ∧ Q c H1) : tB te σ H Q := h
theorem e_test {Q : Bool → Hp → Prop} (h : te σ H fun x H1 => ∃ c, x = .bl c ∧ Q c H1) : tTest te σ H Q := h
theorem e_not {Q : Bool → Hp → Prop} (h : c σ H fun b H1 => Q (!b) H1) : tNot c σ H Q := h
theorem e_and {Q : Bool → Hp → Prop} (h : c σ H fun b H1 => if b = true then d σ H1 Q else Q false H1) : tAnd c d σ H Q := h
theorem e_or {Q : Bool → Hp → Prop} (h : c σ H fun b H1 => if b = true then Q true H1 else d σ H1 Q) : tOr c d σ H Q := h
theorem e_andV (h : ta σ H fun x H1 => ∃ c, x = .bl c ∧ if c = true then tb σ H1 Q else Q (.bl false) H1) : tAndV ta tb σ H Q := h
theorem e_orV (h : ta σ H fun x H1 => ∃ c, x = .bl c ∧ if c = true then Q (.bl true) H1 else tb σ H1 Q) : tOrV ta tb σ H Q := h
theorem e_notV (h : ta σ H fun x H1 => ∃ c, x = .bl c ∧ Q (.bl (!c)) H1) : tNotV ta σ H Q := h
theorem e_I0 {g : Int → Int → V} {i j : Int} (h : Q (g i j) H) : rI0 g (.int i) (.int j) H Q := ⟨i, j, rfl, rfl, h⟩
theorem e_I {C : Int → Int → Prop} {g : Int → Int → V} {i j : Int} (hc : C i j) (h : Q (g i j) H) : rI C g (.int i) (.int j) H Q := ⟨i, j, rfl, rfl, hc, h⟩
theorem e_U {g : Int → V} {i : Int} (h : Q (g i) H) : rU g (.int i) H Q := ⟨i, rfl, h⟩
theorem e_eq (hs : scal x y = true) (h : Q (.bl (decide (x = y))) H) : rEq x y H Q := ⟨hs, h⟩
theorem e_ne (hs : scal x y = true) (h : Q (.bl (!decide (x = y))) H) : rNe x y H Q := ⟨hs, h⟩
theorem e_eqI {i j : Int} (h : Q (.bl (decide (i = j))) H) : rEq (.int i) (.int j) H Q := ⟨rfl, by
  have e : decide (V.int i = V.int j) = decide (i = j) := decide_eq_decide.mpr ⟨fun q => V.int.inj q, fun q => congrArg _ q⟩
  rw [e]
  exact h⟩
theorem e_neI {i j : Int} (h : Q (.bl (!decide (i = j))) H) : rNe (.int i) (.int j) H Q := ⟨rfl, by
  have e : decide (V.int i = V.int j) = decide (i = j) := decide_eq_decide.mpr ⟨fun q => V.int.inj q, fun q => congrArg _ q⟩
  rw [e]
  exact h⟩
theorem e_bl {P : Bool → Prop} {b : Bool} (h : P b) : ∃ c, V.bl b = V.bl c ∧ P c := ⟨b, rfl, h⟩
theorem e_nn {A : Prop} (h : A) : V.non = V.non ∧ A := ⟨rfl, h⟩
theorem dec_nn : decide (V.non = V.non) = true := rfl
theorem dec_in (i : Int) : decide (V.int i = V.non) = false := rfl
theorem dec_rn (i : Addr) : decide (V.ref i = V.non) = false := rfl
theorem dec_bn (i : Bool) : decide (V.bl i = V.non) = false := rfl
theorem dec_sn (i : Str) : decide (V.str i = V.non) = false := rfl
theorem e_call {sp : Sp} {E : XK} {ts : TA} (h : ts σ H fun vs H1 => sp vs H1 Q E) : tCall sp [] E ts σ H Q := by
  unfold tCall
  have e : (fun (vs : List V) (H1 : Hp) => sp (vs ++ []) H1 Q E) = fun vs H1 => sp vs H1 Q E := by
    funext vs H1
    rw [List.append_nil]
  rw [e]
  exact h
theorem e_ixL {p : Addr} {xs : List V} {i : Int} (hs : SqL K H p xs) (ha : atI xs i = some v) (h : Q v H) : rIxL K (.ref p) (.int i) H Q := ⟨p, xs, i, v, rfl, rfl, hs, ha, h⟩
theorem e_ixT {p : Addr} {xs : List V} {i : Int} (hs : SqT K H p xs) (ha : atI xs i = some v) (h : Q v H) : rIxT K (.ref p) (.int i) H Q := ⟨p, xs, i, v, rfl, rfl, hs, ha, h⟩
theorem e_setL {p : Addr} {xs : List V} {i : Int} {j : Nat} {Q : Hp → Prop} (hp : H p = some (.lst xs)) (hj : ixN xs.length i = some j) (h : Q (upd H p (.lst (xs.set j v)))) : rSetL (.ref p) (.int i) v H Q := ⟨p, xs, i, j, rfl, rfl, hp, hj, h⟩
theorem e_sub {to ti : TE} {ts : TSet} {Q : L2.St → Hp → Prop} (h : to σ H fun o H1 => ti σ H1 fun i H2 => ts o i v H2 fun H3 => Q σ H3) : gSub to ti ts v σ H Q := h
theorem e_lst {ts : TA} (h : ts σ H fun xs H1 => xs.length ≤ sizeLine ∧ ∀ p, H1 p = none → Q (.ref p) (upd H1 p (.lst xs))) : tLst ts σ H Q := h
theorem e_tup {ts : TA} (h : ts σ H fun xs H1 => xs.length ≤ sizeLine ∧ ∀ p, H1 p = none → Q (.ref p) (upd H1 p (.tup xs))) : tTup ts σ H Q := h
theorem e_ite2 {p : Prop} [Decidable p] {A B : Prop} (h1 : p → A) (h2 : ¬ p → B) : if decide p = true then A else B := by
  by_cases h : p
  · rw [if_pos (decide_eq_true h)]
    exact h1 h
  · rw [if_neg (by simp [h])]
    exact h2 h
end
/-! ### heaps -/
/-- all but the object at a is as it was -/
def Off (a : Addr) (H H' : Hp) : Prop := ∀ b o, b ≠ a → H b = some o → H' b = some o
theorem Off.refl (a : Addr) (H : Hp) : Off a H H := fun _ _ _ h => h
theorem Off.trans {a : Addr} {H H1 H2 : Hp} (x : Off a H H1) (y : Off a H1 H2) : Off a H H2 := fun b o n h => y b o n (x b o n h)
theorem Off.same {a : Addr} {H H' : Hp} (x : Same H H') : Off a H H' := fun b o _ h => x b o h
theorem Off.upd {a : Addr} {H H' : Hp} {o : HO} (x : Off a H H') : Off a H (upd H' a o) := fun b u n h => by
  rw [upd_ne n]
  exact x b u n h
theorem same_new {H : Hp} {p : Addr} (h : H p = none) (o : HO) : Same H (upd H p o) := fun b u q => by
  rw [upd_ne (ne_of_none q h)]
  exact q
/-- a list of three ints at a -/
def Wl (H : Hp) (a : Addr) : Prop := ∃ x y z : Int, H a = some (.lst [.int x, .int y, .int z])
theorem Wl.same {H H' : Hp} {a : Addr} (s : Same H H') (h : Wl H a) : Wl H' a := by
  obtain ⟨x, y, z, e⟩ := h
  exact ⟨x, y, z, s _ _ e⟩
theorem Wl.ne {H : Hp} {a p : Addr} (h : Wl H a) (hp : H p = none) : p ≠ a := by
  obtain ⟨x, y, z, e⟩ := h
  exact fun q => by rw [q, e] at hp; cases hp
/-! ### kinds -/
def names : List String := ["NoneType", "bool", "int", "str", "list", "tuple", "dict"]
def kb (n m : String) : Bool := n == m || (n == "bool" && m == "int")
theorem kit_any {K : PySem.W.Frag} {n m : String} (h : n ∈ names) (h2 : m ∈ names) : PySem.W.kitOne K (.type n) (.type m) = some (kb n m) := by
  simp only [names, List.mem_cons, List.mem_nil_iff, or_false] at h h2
  rcases h with rfl | rfl | rfl | rfl | rfl | rfl | rfl <;> rcases h2 with rfl | rfl | rfl | rfl | rfl | rfl | rfl <;> exact kit_ty (by decide +kernel)
/-- what a thing is, as far as isinstance asks -/
inductive Th (K : PySem.W.Frag) (H : Hp) : V → String → Prop
  | non : Th K H .non "NoneType"
  | bl (b : Bool) : Th K H (.bl b) "bool"
  | int (i : Int) : Th K H (.int i) "int"
  | str (x : Str) : Th K H (.str x) "str"
  | ref {p : Addr} {n : String} (h : TyX K H (.ref p) (.type n)) (hn : n = "list" ∨ n = "tuple" ∨ n = "dict") : Th K H (.ref p) n
theorem Th.tyx {K : PySem.W.Frag} {H : Hp} {x : V} {n : String} (h : Th K H x n) : TyX K H x (.type n) := by
  cases h with
  | non => exact .base .non
  | bl b => exact .base (.bl b)
  | int i => exact .base (.int i)
  | str x => exact .base (.str x)
  | ref h _ => exact h
theorem Th.mem {K : PySem.W.Frag} {H : Hp} {x : V} {n : String} (h : Th K H x n) : n ∈ names := by
  cases h with
  | non => decide
  | bl b => decide
  | int i => decide
  | str x => decide
  | ref h hn => rcases hn with rfl | rfl | rfl <;> decide
theorem e_isi {K : PySem.W.Frag} {H : Hp} {x : V} {n m : String} {Q : VK} (hT : Th K H x n) (hm : m ∈ names) (q : Q (.bl (kb n m)) H) : rIsi K [x, .ty m] H Q :=
  ⟨_, _, _, _, _, rfl, .ty _, hT.tyx, kit_any hT.mem hm, q⟩
end My

set_option Elab.async false
set_option linter.all false
set_option maxRecDepth 100000
set_option maxHeartbeats 4000000
namespace My
open PySem PySem.Spec PyProof.Rows L2
section
variable {X : Cx}
def CDivZ (_ j : Int) : Prop := j ≠ 0 ∧ j.natAbs.log2 < 9000
theorem op_fdivZ : OpR X (binaryOp .FloorDiv) (rI CDivZ fun i j => .int (i.fdiv j)) := opI fun i j _ _ _ _ _ hc q =>
  floordiv_int hc.1 q (.inl (PyProof.noPylong_of_log2 hc.2))
/-- what a def of several, held by a slot, may be -/
structure HeldX (P : Program) (w : World) (K : PySem.W.Frag) (mg : Str → Option Value) (base : Heap) (k : Nat) (f : Addr) (sp : Sp) : Prop where
  ex : ∃ (fd : FuncData) (ps : List Str), FnOk P w K mg base (L2.CX P w) k f fd ps sp ∧ PySem.W.keepIn K (.ref f) = true ∧ Binds K fd ps []
def tCallAS (i : Nat) (S : Addr → Sp → Prop) (W : WX) (t : TA) : TE := fun σ H Q => ∃ f sp, σ[i]? = some (some (.ref f)) ∧ S f sp ∧ t σ H fun vs H1 => sp vs H1 Q (WE W σ)
theorem pe_callAS {k i : Nat} {x : Str} {p pos : Pos} {e : Expr} {es : List Expr} {t : TA} {W : WX} {S : Addr → Sp → Prop} (A : ∀ f sp, S f sp → HeldX X.prog X.w X.K X.mg X.base k f sp) (hr : Room k X.A) (hN : X.N[i]? = some x) (hv : Vis X.env.scope x) (tk : Takes X W) (ha : PA X (e :: es) t)
    (hdb : (x == ("__debug__" : Str)) = false := by decide) (hcd : (x == ("__classdict__" : Str)) = false := by decide)
    (he : starEach (e :: es) X.env = (false, eval e X.env) :: starEach es X.env := by rfl) (hpl : (backTo pos (starEach es X.env)).any (·.1) = false := by rfl) : PE X (.Call (.Name x p) (e :: es) [] pos) (tCallAS i S W t) := by
  refine ⟨fun pins s σ H Q I h => ?_⟩
  obtain ⟨f, sp, hs, hS, ht⟩ := h
  obtain ⟨fd, ps, F, hk, hb⟩ := (A f sp hS).ex
  refine wpAny_Call_Name_kw (thn ((pe_var (pos := p) hN hv hdb hcd).run pins s σ H (fun v H1 => v = .ref f ∧ H1 = H) I ⟨.ref f, hs, rfl, rfl⟩) fun u s1 ⟨v, H1, I1, r1, q1⟩ => ?_)
  obtain ⟨rfl, rfl⟩ := q1
  cases r1
  refine PySem.W.callWith_K (h₀ := X.base) I.ok.mod.kin hk (thn (ha.run pos pins s1 σ _ _ I1 ht) fun us s2 ⟨vs, H2, I2, r, q⟩ => ⟨I2.kIn, ?_⟩) he hpl
  exact run_fnS F hr hb (passAt tk σ) I2 r q
end
theorem x_while {c : TT} {tb : TS} {D : Ends} {σ : L2.St} {H : Hp} (Pv : L2.St → Hp → Prop) (μ : L2.St → Hp → Nat) (h0 : Pv σ H)
    (hs : ∀ σ H, Pv σ H → ∃ b, (∀ Q : Bool → Hp → Prop, Q b H → c σ H Q) ∧ (b = true → tb { D with nx := fun σ' H' => Pv σ' H' ∧ μ σ' H' < μ σ H, ct := fun σ' H' => Pv σ' H' ∧ μ σ' H' < μ σ H, bk := D.nx } σ H) ∧ (b = false → D.nx σ H)) : tWhile c tb D σ H := by
  refine ⟨fun m σ H => m = μ σ H ∧ Pv σ H, ⟨_, rfl, h0⟩, ?_⟩
  rintro m σ H ⟨rfl, p⟩
  obtain ⟨b, hc, h1, h2⟩ := hs σ H p
  refine hc _ ?_
  cases b with
  | true => exact ⟨_, fun σ' H' ⟨p', l⟩ => ⟨_, l, rfl, p'⟩, h1 rfl⟩
  | false => exact h2 rfl
end My
namespace My
open PySem PySem.Spec PyProof.Rows L2
section
variable {K : PySem.W.Frag} {tl : TE} {g : TG} {tb : TS} {D : Ends} {σ : L2.St} {H : Hp}
theorem x_forL (R : Addr → List V → Hp → Prop) (he : ∀ Q : VK, (∀ a xs H1, SqL K H1 a xs → R a xs H1 → Q (.ref a) H1) → tl σ H Q)
    (hb : ∀ a xs H1, SqL K H1 a xs → R a xs H1 → ∃ Pv : Nat → L2.St → Hp → Prop, Pv 0 σ H1 ∧ (∀ i σ H, i ≤ xs.length → Pv i σ H → SqL K H a xs) ∧
      (∀ i x σ H, xs[i]? = some x → Pv i σ H → g x σ H fun σ2 H2 => tb { D with nx := Pv (i + 1), ct := Pv (i + 1), bk := D.nx } σ2 H2) ∧ (∀ σ H, Pv xs.length σ H → D.nx σ H)) : tFor (iList K tl) g tb D σ H := by
  show tl σ H _
  refine he _ fun a xs H1 hs hr => ?_
  obtain ⟨Pv, h0, hl, ht, hd⟩ := hb a xs H1 hs hr
  exact ⟨a, rfl, ⟨xs, hs⟩, for_list (K := K) (a := a) (xs := xs) Pv h0 hl ht hd⟩
theorem x_forT (R : Addr → List V → Hp → Prop) (he : ∀ Q : VK, (∀ a xs H1, SqT K H1 a xs → R a xs H1 → Q (.ref a) H1) → tl σ H Q)
    (hb : ∀ a xs H1, SqT K H1 a xs → R a xs H1 → ∃ Pv : Nat → L2.St → Hp → Prop, Pv 0 σ H1 ∧ (∀ i σ H, i ≤ xs.length → Pv i σ H → SqT K H a xs) ∧
      (∀ i x σ H, xs[i]? = some x → Pv i σ H → g x σ H fun σ2 H2 => tb { D with nx := Pv (i + 1), ct := Pv (i + 1), bk := D.nx } σ2 H2) ∧ (∀ σ H, Pv xs.length σ H → D.nx σ H)) : tFor (iTup K tl) g tb D σ H := by
  show tl σ H _
  refine he _ fun a xs H1 hs hr => ?_
  obtain ⟨Pv, h0, hl, ht, hd⟩ := hb a xs H1 hs hr
  exact ⟨a, rfl, ⟨xs, hs⟩, for_tup (K := K) (a := a) (xs := xs) Pv h0 hl ht hd⟩
end
end My

set_option Elab.async false
set_option linter.all false
set_option maxRecDepth 100000
set_option maxHeartbeats 4000000
set_option exponentiation.threshold 2000
namespace My
open PySem PySem.Spec PyProof.Rows L2
/-! ### the mathematics of fractions -/
def sg (b : Int) : Int := if b < 0 then -1 else 1
def gz (t b : Int) : Nat := Nat.gcd t.natAbs b.natAbs
def lowZ (t b : Int) : Option (Int × Int) := if b = 0 then none else some (sg b * t / (gz t b : Int), sg b * b / (gz t b : Int))
theorem gz_pos {t b : Int} (h : b ≠ 0) : 0 < gz t b := Nat.gcd_pos_of_pos_right _ (by omega)
theorem gz_dvd1 (t b : Int) : (gz t b : Int) ∣ t := Int.ofNat_dvd_left.mpr (Nat.gcd_dvd_left _ _)
theorem gz_dvd2 (t b : Int) : (gz t b : Int) ∣ b := Int.ofNat_dvd_left.mpr (Nat.gcd_dvd_right _ _)
theorem gz_le {t b : Int} (h : b ≠ 0) : gz t b ≤ b.natAbs := Nat.le_of_dvd (by omega) (Nat.gcd_dvd_right _ _)
/-- the program's quotients are the law's -/
theorem low_fdiv {t b : Int} (h : b ≠ 0) (c : Int) (hc : c = if b < 0 then -(gz t b : Int) else (gz t b : Int)) : t.fdiv c = sg b * t / (gz t b : Int) ∧ b.fdiv c = sg b * b / (gz t b : Int) := by
  have g0 : (0 : Int) < (gz t b : Int) := by have := gz_pos (t := t) h; omega
  obtain ⟨x, hx⟩ := gz_dvd1 t b
  obtain ⟨y, hy⟩ := gz_dvd2 t b
  generalize (gz t b : Int) = g at *
  subst hc
  unfold sg
  by_cases hb : b < 0
  · rw [if_pos hb, if_pos hb, hx, hy]
    have e1 : (g * x).fdiv (-g) = -x := by
      rw [show g * x = (-g) * (-x) by rw [Int.neg_mul_neg]]
      exact Int.mul_fdiv_cancel_left _ (by omega)
    have e2 : (g * y).fdiv (-g) = -y := by
      rw [show g * y = (-g) * (-y) by rw [Int.neg_mul_neg]]
      exact Int.mul_fdiv_cancel_left _ (by omega)
    rw [e1, e2]
    constructor
    · rw [show -1 * (g * x) = g * (-x) by rw [Int.mul_neg]; omega, Int.mul_ediv_cancel_left _ (by omega)]
    · rw [show -1 * (g * y) = g * (-y) by rw [Int.mul_neg]; omega, Int.mul_ediv_cancel_left _ (by omega)]
  · rw [if_neg hb, if_neg hb, hx, hy]
    rw [Int.mul_fdiv_cancel_left _ (by omega), Int.mul_fdiv_cancel_left _ (by omega), Int.one_mul, Int.one_mul, Int.mul_ediv_cancel_left _ (by omega), Int.mul_ediv_cancel_left _ (by omega)]
    exact ⟨rfl, rfl⟩
/-- lowest terms have a bottom from 1 on, and no common divisor -/
theorem lowZ_good {t b x y : Int} (h : lowZ t b = some (x, y)) : 1 ≤ y ∧ Nat.gcd x.natAbs y.natAbs = 1 := by
  unfold lowZ at h
  by_cases hb : b = 0
  · rw [if_pos hb] at h
    cases h
  · rw [if_neg hb] at h
    have e := Option.some.inj h
    have e1 : sg b * t / (gz t b : Int) = x := congrArg Prod.fst e
    have e2 : sg b * b / (gz t b : Int) = y := congrArg Prod.snd e
    have g0 := gz_pos (t := t) hb
    obtain ⟨u, hu⟩ := gz_dvd1 t b
    obtain ⟨v, hv⟩ := gz_dvd2 t b
    have s1 : sg b = 1 ∨ sg b = -1 := by unfold sg; split <;> simp
    have nu : t.natAbs = gz t b * u.natAbs := by
      have := congrArg Int.natAbs hu
      rw [Int.natAbs_mul] at this
      simpa using this
    have nv : b.natAbs = gz t b * v.natAbs := by
      have := congrArg Int.natAbs hv
      rw [Int.natAbs_mul] at this
      simpa using this
    have gg : Nat.gcd u.natAbs v.natAbs = 1 := by
      have q : gz t b * Nat.gcd u.natAbs v.natAbs = gz t b * 1 := by
        rw [← Nat.gcd_mul_left, ← nu, ← nv, Nat.mul_one]
        rfl
      exact Nat.eq_of_mul_eq_mul_left g0 q
    have gp : (0 : Int) < (gz t b : Int) := by omega
    have hx : x = sg b * u := by
      rw [← e1]
      generalize (gz t b : Int) = g at hu gp
      rw [show sg b * t = g * (sg b * u) by rw [hu, ← Int.mul_assoc, Int.mul_comm (sg b), Int.mul_assoc]]
      exact Int.mul_ediv_cancel_left _ (by omega)
    have hy : y = sg b * v := by
      rw [← e2]
      generalize sg b = s
      generalize (gz t b : Int) = g at hv gp
      rw [show s * b = g * (s * v) by rw [hv, ← Int.mul_assoc, Int.mul_comm s, Int.mul_assoc]]
      exact Int.mul_ediv_cancel_left _ (by omega)
    have ax : x.natAbs = u.natAbs := by
      rw [hx]
      rcases s1 with s | s <;> rw [s] <;> simp
    have ay : y.natAbs = v.natAbs := by
      rw [hy]
      rcases s1 with s | s <;> rw [s] <;> simp
    refine ⟨?_, by rw [ax, ay]; exact gg⟩
    have v0 : v ≠ 0 := fun z => by rw [z] at hv; omega
    rw [hy]
    unfold sg
    by_cases c : b < 0
    · rw [if_pos c]
      have : v < 0 := by
        apply Int.lt_of_not_ge
        intro z
        have := Int.mul_nonneg (Int.le_of_lt gp) z
        omega
      omega
    · rw [if_neg c]
      have : 0 < v := by
        apply Int.lt_of_not_ge
        intro z
        have := Int.mul_nonneg (Int.le_of_lt gp) (show 0 ≤ -v by omega)
        rw [Int.mul_neg] at this
        omega
      omega
theorem lowZ_one (t : Int) : lowZ t 1 = some (t, 1) := by
  unfold lowZ
  have e : gz t 1 = 1 := Nat.gcd_one_right _
  rw [if_neg (by decide), e]
  show some (1 * t / ((1 : Nat) : Int), 1 * 1 / ((1 : Nat) : Int)) = _
  simp
/-! ### bounds -/
def Sm (x : Int) : Prop := x.natAbs < 2 ^ 400
def Lg (x : Int) : Prop := x.natAbs < 2 ^ 900
theorem two_le {a b n : Nat} (h : n < 2 ^ a) (hab : a ≤ b) : n < 2 ^ b := Nat.lt_of_lt_of_le h (Nat.pow_le_pow_right (by decide) hab)
theorem Sm.lg {x : Int} (h : Sm x) : Lg x := two_le h (by decide)
theorem mul_lt {x y : Int} (hx : Sm x) (hy : Sm y) : (x * y).natAbs < 2 ^ 800 := wide_lt (a := 400) (b := 400) hx hy
theorem mul_lg {x y : Int} (hx : Sm x) (hy : Sm y) : Lg (x * y) := two_le (mul_lt hx hy) (by decide)
theorem add_lg {x y u v : Int} (hx : Sm x) (hy : Sm y) (hu : Sm u) (hv : Sm v) : Lg (x * y + u * v) := by
  have h1 := mul_lt hx hy
  have h2 := mul_lt hu hv
  have h3 : (x * y + u * v).natAbs ≤ (x * y).natAbs + (u * v).natAbs := Int.natAbs_add_le _ _
  have h4 : (2 : Nat) ^ 801 = 2 ^ 800 + 2 ^ 800 := by rw [Nat.pow_succ, Nat.mul_two]
  exact two_le (a := 801) (by rw [h4]; omega) (by decide)
theorem sub_lg {x y u v : Int} (hx : Sm x) (hy : Sm y) (hu : Sm u) (hv : Sm v) : Lg (x * y - u * v) := by
  have h1 := mul_lt hx hy
  have h2 := mul_lt hu hv
  have h3 : (x * y - u * v).natAbs ≤ (x * y).natAbs + (u * v).natAbs := Int.natAbs_sub_le _ _
  have h4 : (2 : Nat) ^ 801 = 2 ^ 800 + 2 ^ 800 := by rw [Nat.pow_succ, Nat.mul_two]
  exact two_le (a := 801) (by rw [h4]; omega) (by decide)
theorem mul_ok {x y : Int} (hx : Sm x) (hy : Sm y) : CMulW x y := wide_mul (a := 400) (b := 400) hx hy (by decide) (by decide) (by decide)
theorem Lg.log2 {x : Int} (h : Lg x) : x.natAbs.log2 < 9000 := Nat.lt_of_lt_of_le (PySem.Flt.log2_lt_of (by decide) h) (by decide)
theorem gz_lg {t b : Int} (h : b ≠ 0) (hb : Lg b) : Lg (gz t b : Int) := by
  have := gz_le (t := t) h
  show ((gz t b : Nat) : Int).natAbs < 2 ^ 900
  rw [Int.natAbs_natCast]
  exact Nat.lt_of_le_of_lt this hb
theorem lowZ_sm {t b x y : Int} (h : lowZ t b = some (x, y)) (ht : Sm t) (hb : Sm b) : Sm x ∧ Sm y := by
  unfold lowZ at h
  by_cases c : b = 0
  · rw [if_pos c] at h
    cases h
  · rw [if_neg c] at h
    have e := Option.some.inj h
    have e1 : sg b * t / (gz t b : Int) = x := congrArg Prod.fst e
    have e2 : sg b * b / (gz t b : Int) = y := congrArg Prod.snd e
    have s1 : sg b = 1 ∨ sg b = -1 := by unfold sg; split <;> simp
    have a1 : (sg b * t).natAbs = t.natAbs := by rcases s1 with s | s <;> rw [s] <;> simp
    have a2 : (sg b * b).natAbs = b.natAbs := by rcases s1 with s | s <;> rw [s] <;> simp
    have q : ∀ z : Int, (gz t b : Int) ∣ z → (z / (gz t b : Int)).natAbs ≤ z.natAbs := fun z hz => by
      rw [Int.natAbs_ediv_of_dvd hz]
      exact Nat.div_le_self _ _
    refine ⟨?_, ?_⟩
    · rw [← e1]
      refine Nat.lt_of_le_of_lt (q _ ?_) (by rw [a1]; exact ht)
      exact Int.dvd_mul_of_dvd_right (gz_dvd1 t b)
    · rw [← e2]
      refine Nat.lt_of_le_of_lt (q _ ?_) (by rw [a2]; exact hb)
      exact Int.dvd_mul_of_dvd_right (gz_dvd2 t b)
end My

set_option Elab.async false
set_option linter.all false
set_option maxRecDepth 100000
set_option maxHeartbeats 4000000
namespace My
open PySem PySem.Spec PyProof.Rows L2
theorem dict_eq_declines_int (l : Addr) (o : Obj) (es : Array DictEntry) (ep : Nat) (hc : o.cls = .type "dict") (hd : o.data = .dict es ep) (b : Int) (u : Tok) :
    Meets (Builtin.«dict.__eq__» ⟨[.ref l, .int b u], []⟩) (fun _ R s => s.heap.get? l = some o ∧ R (.ok (.ret .notImplemented)) s) :=
  .of_wp fun prog w A R s h => by obtain ⟨hp, g, d, tk, os⟩ := s; obtain ⟨hl, h⟩ := h; have f1 := F.sub_int_dict; wp_walk using wpAny_loadPart' hl, wpAny_load hl; exact ⟨_, rfl, h⟩
theorem int_eq_declines_dict (l : Addr) (c : Value) (es : Array DictEntry) (ep : Nat) (dd : Option Addr) (sl : Array (Option Value)) (b : Int) (u : Tok) :
    Meets (Builtin.«int.__eq__» ⟨[.int b u, .ref l], []⟩) (fun _ R s => s.heap.get? l = some { cls := c, dict := dd, data := .dict es ep, slots := sl } ∧ R (.ok (.ret .notImplemented)) s) :=
  .of_wp fun prog w A R s h => by obtain ⟨hp, g, d, tk, os⟩ := s; obtain ⟨hl, h⟩ := h; wp_walk using wpAny_loadPart' hl, wpAny_load hl; exact ⟨_, rfl, h⟩
section
variable {A : Around} {s : Shared} {prog : Program} {w : World}
theorem rc_dict_int {l : Addr} {es : Array DictEntry} {ep : Nat} {dd : Option Addr} {sl : Array (Option Value)} (ho : s.heap.get? l = some { cls := .type "dict", dict := dd, data := .dict es ep, slots := sl }) (b : Int) (u : Tok) (hu : A.units < cLine)
    {E : Value → Shared → Prop} {Q : Value → Shared → Prop} (h : Q (.bool false) s) : wpAny (model prog w) A (richCompare .Eq (.ref l) (.int b u)) Q E s :=
  SeqAt.rc_eq_decline_or (k := false) ⟨_, ho, rfl⟩ (typeIs_int s b u) (by decide) F.sub_int_dict F.slot_dict_eq F.slot_int_eq_refl
    (fun _ hq => call_meets F.slot_dict_eq ⟨_, ho, rfl⟩ F.entry_dict_eq (F.args_dict_eq_2 _ _) (dict_eq_declines_int l _ es ep rfl rfl b u) ⟨ho, hq⟩)
    (fun _ hq => call_meets F.slot_int_eq_refl (typeIs_int s b u) F.entry_int_eq (F.args_int_eq_2 _ _) (int_eq_declines_dict l (.type "dict") es ep dd sl b u) ⟨ho, hq⟩)
    (fun _ hq => wpAny_of_eq (rfl : isSame (.ref l) (.int b u) = pure false) hq) (.inr hu) h
end
/-- == of data, and of a dict with an int -/
def rEqG (K : PySem.W.Frag) : R2 := fun x y H Q => rEqD K x y H Q ∨ ∃ p kvs j, x = .ref p ∧ y = .int j ∧ H p = some (.dK kvs) ∧ Q (.bl false) H
theorem op_eqG {X : Cx} (hu : X.A.units + 64 < cLine) : OpR X (compareOp .Eq) (rEqG X.K) := by
  intro pins s σ H x y v u Q I rx ry h
  rcases h with h | ⟨p, kvs, j, rfl, rfl, hp, q⟩
  · exact op_eqD hu pins s σ H x y v u Q I rx ry h
  · cases (show v = Value.ref p from rx)
    obtain ⟨t, rfl⟩ := (show ∃ t, u = Value.int j t from ry)
    obtain ⟨_, _, vs, _, o, es, ep, h1, h2, h3, _⟩ := (show ObjOk X.prog X.w H s.heap p (.dK kvs) from I.hok p _ hp)
    obtain ⟨cls, dd, data, sl⟩ := o
    obtain ⟨e1, _, _⟩ := h2
    simp only at e1 h3
    subst e1 h3
    exact rc_dict_int h1 j t (by omega) ⟨.bl _, H, I, rfl, q⟩
end My
namespace My
open PySem PySem.Spec PyProof.Rows L2
/-- + of two lists that are read -/
def rCatL (K : PySem.W.Frag) : R2 := fun x y H Q => ∃ l b xs zs, x = .ref l ∧ y = .ref b ∧ SqL K H l xs ∧ SqL K H b zs ∧ xs.length + zs.length ≤ sizeLine ∧ ∀ p, H p = none → Q (.ref p) (upd H p (.lst (xs ++ zs)))
theorem op_catL {X : Cx} : OpR X (binaryOp .Add) (rCatL X.K) := by
  intro pins s σ H x y v u Q I rx ry h
  obtain ⟨l, b, xs, zs, rfl, rfl, hH, hB, hz, q⟩ := h
  cases rx
  cases ry
  obtain ⟨its, r, ⟨⟨cls, dd, data, sl⟩, n, ho, hc, hdn, hd⟩, hl⟩ := I.list hH
  obtain ⟨its2, r2, ⟨⟨cls2, dd2, data2, sl2⟩, n2, ho2, hc2, hdn2, hd2⟩, hl2⟩ := I.list hB
  simp only at hc hd hc2 hd2
  subst hc hd hc2 hd2
  have e1 := r.length
  have e2 := r2.length
  refine concat_meets ⟨_, ho, rfl⟩ ⟨_, ho2, rfl⟩ noFill_list_add seq_list_add PySem.F.slot_list_add PySem.F.entry_list_add (PySem.F.args_list_add_2 _ _) (list_addW l b its.toArray its2.toArray n n2 dd dd2 sl sl2 (by simp; omega)) ⟨ho, ho2, ?_⟩
  have ea : its.toArray ++ its2.toArray = (its ++ its2).toArray := by simp
  rw [ea]
  exact ⟨.ref _, _, I.lnew (t' := s.toks) (r.append r2) (by rw [List.length_append]; omega), rfl, q _ I.fresh⟩
theorem e_callD {sp : Sp} {dvs : List V} {E : XK} {ts : TA} {σ : L2.St} {H : Hp} {Q : VK} (h : ts σ H fun vs H1 => sp (vs ++ dvs) H1 Q E) : tCall sp dvs E ts σ H Q := h
theorem Off.same_of {a : Addr} {H H' : Hp} (x : Off a H H') (h : H a = none) : Same H H' := fun b o e => x b o (fun q => by rw [q, h] at e; cases e) e
end My

set_option Elab.async false
set_option linter.all false
set_option maxRecDepth 100000
set_option maxHeartbeats 4000000
namespace My
open PySem PySem.Spec PyProof.Rows L2
local macro_rules | `(tactic| walk_at "e1") => `(tactic| first
  | refine e_var rfl ?_
  | refine e_c ?_
  | refine e_op ?_
  | refine e_un ?_
  | refine e_cb ?_
  | refine e_cons ?_
  | refine e_nil ?_
  | refine e_tB ?_
  | refine e_test ?_
  | refine e_not ?_
  | refine e_and ?_
  | refine e_or ?_
  | refine e_andV ?_
  | refine e_orV ?_
  | refine e_notV ?_
  | refine e_I0 ?_
  | refine e_I (by (try dsimp only [CDiv, CDivN, CMul, CPow]); first | decide | omega) ?_
  | refine e_U ?_
  | refine e_eqI ?_
  | refine e_neI ?_
  | refine e_bl ?_
  | refine e_call ?_
  | refine e_sub ?_
  | refine e_lst ?_
  | refine e_tup ?_
  | refine e_nn ?_
  | rw [dec_nn]
  | rw [dec_in]
  | rw [dec_rn]
  | rw [dec_bn]
  | rw [dec_sn]
  | rw [Bool.not_true]
  | rw [Bool.not_false]
  | refine iteT ?_
  | refine iteF ?_)
local macro_rules | `(tactic| walk_at "e") => `(tactic| ((try dsimp only); repeat (walk_at "e1"; try dsimp only)))
local macro_rules | `(tactic| walk_at "s1") => `(tactic| first
  | refine x_seq ?_
  | refine x_next ?_
  | refine e_ret ?_
  | refine e_asg ?_
  | refine e_drop ?_
  | refine e_asgG ?_
  | walk_at "e1")
local macro_rules | `(tactic| walk_at "s") => `(tactic| ((try dsimp only); repeat (walk_at "s1"; try dsimp only)))
def top (i : Nat) : Stmt := PySem.Challenge.pw_whatran_k01_shares_as_fractions.main.body.getD i (.Pass ⟨0, 0, 0, 0⟩)
abbrev s_is_whole : Stmt := top 5
theorem sc_is_whole : FnScope ["thing", "low", "high"] ["thing", "low", "high"] (defScope s_is_whole) := ⟨rfl, rfl, rfl, by decide +kernel, rfl, by decide +kernel, by decide +kernel⟩
abbrev s_fraction : Stmt := top 7
theorem sc_fraction : FnScope ["top", "bottom", "common"] ["top", "bottom"] (defScope s_fraction) := ⟨rfl, rfl, rfl, by decide +kernel, rfl, by decide +kernel, by decide +kernel⟩
abbrev s_is_fraction : Stmt := top 8
theorem sc_is_fraction : FnScope ["thing", "top", "bottom"] ["thing"] (defScope s_is_fraction) := ⟨rfl, rfl, rfl, by decide +kernel, rfl, by decide +kernel, by decide +kernel⟩
abbrev s_plus : Stmt := top 9
theorem sc_plus : FnScope ["one", "other"] ["one", "other"] (defScope s_plus) := ⟨rfl, rfl, rfl, by decide +kernel, rfl, by decide +kernel, by decide +kernel⟩
abbrev s_minus : Stmt := top 10
theorem sc_minus : FnScope ["one", "other"] ["one", "other"] (defScope s_minus) := ⟨rfl, rfl, rfl, by decide +kernel, rfl, by decide +kernel, by decide +kernel⟩
abbrev s_times : Stmt := top 11
theorem sc_times : FnScope ["one", "other"] ["one", "other"] (defScope s_times) := ⟨rfl, rfl, rfl, by decide +kernel, rfl, by decide +kernel, by decide +kernel⟩
abbrev s_shared : Stmt := top 12
theorem sc_shared : FnScope ["one", "other"] ["one", "other"] (defScope s_shared) := ⟨rfl, rfl, rfl, by decide +kernel, rfl, by decide +kernel, by decide +kernel⟩
abbrev s_need_fractions : Stmt := top 13
theorem sc_need_fractions : FnScope ["one", "other"] ["one", "other"] (defScope s_need_fractions) := ⟨rfl, rfl, rfl, by decide +kernel, rfl, by decide +kernel, by decide +kernel⟩
abbrev s_l_well : Stmt := top 15
theorem sc_l_well : FnScope ["_law_cell"] ["_law_cell"] (defScope s_l_well) := ⟨rfl, rfl, rfl, by decide +kernel, rfl, by decide +kernel, by decide +kernel⟩
abbrev s_l_draw : Stmt := top 16
theorem sc_l_draw : FnScope ["_law_well_here", "_law_many", "_law_found", "_law_mix"] ["_law_well_here", "_law_many"] (defScope s_l_draw) := ⟨rfl, rfl, rfl, by decide +kernel, rfl, by decide +kernel, by decide +kernel⟩
abbrev s_l_one : Stmt := top 17
theorem sc_l_one : FnScope ["_law_well_here", "_law_some"] ["_law_well_here", "_law_some"] (defScope s_l_one) := ⟨rfl, rfl, rfl, by decide +kernel, rfl, by decide +kernel, by decide +kernel⟩
abbrev s_l_great : Stmt := top 18
theorem sc_l_great : FnScope ["_law_well_here", "_law_kind"] ["_law_well_here"] (defScope s_l_great) := ⟨rfl, rfl, rfl, by decide +kernel, rfl, by decide +kernel, by decide +kernel⟩
abbrev s_l_lowest : Stmt := top 19
theorem sc_l_lowest : FnScope ["_law_top", "_law_bottom", "_law_one_here", "_law_other", "_law_sign"] ["_law_top", "_law_bottom"] (defScope s_l_lowest) := ⟨rfl, rfl, rfl, by decide +kernel, rfl, by decide +kernel, by decide +kernel⟩
abbrev s_l_told : Stmt := top 20
theorem sc_l_told : FnScope ["_law_deed", "_law_one_here", "_law_other"] ["_law_deed", "_law_one_here", "_law_other"] (defScope s_l_told) := ⟨rfl, rfl, rfl, by decide +kernel, rfl, by decide +kernel, by decide +kernel⟩
abbrev s_l_bounds_right : Stmt := top 21
theorem sc_l_bounds_right : FnScope ["_law_well_here", "_law_number", "_law_thing", "_law_low", "_law_high", "_law_due"] ["_law_well_here", "_law_number"] (defScope s_l_bounds_right) := ⟨rfl, rfl, rfl, by decide +kernel, rfl, by decide +kernel, by decide +kernel⟩
abbrev s_law : Stmt := top 22
theorem sc_law : FnScope ["_law_script", "_law_cell", "_law_well_here", "_law_top", "_law_bottom", "_law_one_here", "_law_other", "_law_due", "_law_deeds", "_law_deed", "_law_many", "_law_odd", "_law_bad"] ["_law_script"] (defScope s_law) := ⟨rfl, rfl, rfl, by decide +kernel, rfl, by decide +kernel, by decide +kernel⟩
structure Txt (K : PySem.W.Frag) (mg : Str → Option Value) where
  a_is_whole : Addr
  d_is_whole : FuncData
  F_is_whole : Fun K "is_whole" "is_whole" s_is_whole a_is_whole d_is_whole
  m_is_whole : mg "is_whole" = some (.ref a_is_whole)
  a_fraction : Addr
  d_fraction : FuncData
  F_fraction : FunD K "fraction" "fraction" (defArgs s_fraction) (defBody s_fraction) (defScope s_fraction) [.int 1] [] a_fraction d_fraction
  m_fraction : mg "fraction" = some (.ref a_fraction)
  a_is_fraction : Addr
  d_is_fraction : FuncData
  F_is_fraction : Fun K "is_fraction" "is_fraction" s_is_fraction a_is_fraction d_is_fraction
  m_is_fraction : mg "is_fraction" = some (.ref a_is_fraction)
  a_plus : Addr
  d_plus : FuncData
  F_plus : Fun K "plus" "plus" s_plus a_plus d_plus
  m_plus : mg "plus" = some (.ref a_plus)
  a_minus : Addr
  d_minus : FuncData
  F_minus : Fun K "minus" "minus" s_minus a_minus d_minus
  m_minus : mg "minus" = some (.ref a_minus)
  a_times : Addr
  d_times : FuncData
  F_times : Fun K "times" "times" s_times a_times d_times
  m_times : mg "times" = some (.ref a_times)
  a_shared : Addr
  d_shared : FuncData
  F_shared : Fun K "shared" "shared" s_shared a_shared d_shared
  m_shared : mg "shared" = some (.ref a_shared)
  a_need_fractions : Addr
  d_need_fractions : FuncData
  F_need_fractions : Fun K "_need_fractions" "_need_fractions" s_need_fractions a_need_fractions d_need_fractions
  m_need_fractions : mg "_need_fractions" = some (.ref a_need_fractions)
  a_l_well : Addr
  d_l_well : FuncData
  F_l_well : Fun K "_law_well" "_law_well" s_l_well a_l_well d_l_well
  m_l_well : mg "_law_well" = some (.ref a_l_well)
  a_l_draw : Addr
  d_l_draw : FuncData
  F_l_draw : Fun K "_law_draw" "_law_draw" s_l_draw a_l_draw d_l_draw
  m_l_draw : mg "_law_draw" = some (.ref a_l_draw)
  a_l_one : Addr
  d_l_one : FuncData
  F_l_one : Fun K "_law_one" "_law_one" s_l_one a_l_one d_l_one
  m_l_one : mg "_law_one" = some (.ref a_l_one)
  a_l_great : Addr
  d_l_great : FuncData
  F_l_great : Fun K "_law_great" "_law_great" s_l_great a_l_great d_l_great
  m_l_great : mg "_law_great" = some (.ref a_l_great)
  a_l_lowest : Addr
  d_l_lowest : FuncData
  F_l_lowest : Fun K "_law_lowest" "_law_lowest" s_l_lowest a_l_lowest d_l_lowest
  m_l_lowest : mg "_law_lowest" = some (.ref a_l_lowest)
  a_l_told : Addr
  d_l_told : FuncData
  F_l_told : Fun K "_law_told" "_law_told" s_l_told a_l_told d_l_told
  m_l_told : mg "_law_told" = some (.ref a_l_told)
  a_l_bounds_right : Addr
  d_l_bounds_right : FuncData
  F_l_bounds_right : Fun K "_law_bounds_right" "_law_bounds_right" s_l_bounds_right a_l_bounds_right d_l_bounds_right
  m_l_bounds_right : mg "_law_bounds_right" = some (.ref a_l_bounds_right)
  a_law : Addr
  d_law : FuncData
  F_law : Fun K "law" "law" s_law a_law d_law
  m_law : mg "law" = some (.ref a_law)
  n_isinstance : mg "isinstance" = none
  n_bool : mg "bool" = none
  n_int : mg "int" = none
  n_tuple : mg "tuple" = none
  n_len : mg "len" = none
  n_abs : mg "abs" = none
  m_gcd : mg "gcd" = some (.builtin "math.gcd")
  c_RanError : Addr
  g_RanError : mg "RanError" = some (.ref c_RanError)
  c_NoFraction : Addr
  g_NoFraction : mg "NoFraction" = some (.ref c_NoFraction)
  x_NoFraction : PySem.W.excIn K c_NoFraction [.type "ValueError", .type "Exception", .type "BaseException", .type "object"] "ValueError.__new__" = true
  k_NoFraction : PySem.W.keepIn K (.ref c_NoFraction) = true
  b_NoFraction : PySem.W.subIn K (.ref c_NoFraction) (.type "BaseException") = some true
  t_NoFraction : PySem.W.typeIn K (.ref c_NoFraction) = some (.type "type")
  e_NoFraction : PySem.W.exmOne K (.ref c_NoFraction) (.ref c_NoFraction) = some true
section
variable {K : PySem.W.Frag} {mg : Str → Option Value}
theorem bn_is_whole (T : Txt K mg) : Binds K T.d_is_whole ["thing", "low", "high"] [] := T.F_is_whole.binds (ps := ["thing", "low", "high"]) fun _ _ _ _ _ _ us hl => match us, hl with | [_, _, _], _ => rfl
theorem bn_is_fraction (T : Txt K mg) : Binds K T.d_is_fraction ["thing"] [] := T.F_is_fraction.binds (ps := ["thing"]) fun _ _ _ _ _ _ us hl => match us, hl with | [_], _ => rfl
theorem bn_plus (T : Txt K mg) : Binds K T.d_plus ["one", "other"] [] := T.F_plus.binds (ps := ["one", "other"]) fun _ _ _ _ _ _ us hl => match us, hl with | [_, _], _ => rfl
theorem bn_minus (T : Txt K mg) : Binds K T.d_minus ["one", "other"] [] := T.F_minus.binds (ps := ["one", "other"]) fun _ _ _ _ _ _ us hl => match us, hl with | [_, _], _ => rfl
theorem bn_times (T : Txt K mg) : Binds K T.d_times ["one", "other"] [] := T.F_times.binds (ps := ["one", "other"]) fun _ _ _ _ _ _ us hl => match us, hl with | [_, _], _ => rfl
theorem bn_shared (T : Txt K mg) : Binds K T.d_shared ["one", "other"] [] := T.F_shared.binds (ps := ["one", "other"]) fun _ _ _ _ _ _ us hl => match us, hl with | [_, _], _ => rfl
theorem bn_need_fractions (T : Txt K mg) : Binds K T.d_need_fractions ["one", "other"] [] := T.F_need_fractions.binds (ps := ["one", "other"]) fun _ _ _ _ _ _ us hl => match us, hl with | [_, _], _ => rfl
theorem bn_l_well (T : Txt K mg) : Binds K T.d_l_well ["_law_cell"] [] := T.F_l_well.binds (ps := ["_law_cell"]) fun _ _ _ _ _ _ us hl => match us, hl with | [_], _ => rfl
theorem bn_l_draw (T : Txt K mg) : Binds K T.d_l_draw ["_law_well_here", "_law_many"] [] := T.F_l_draw.binds (ps := ["_law_well_here", "_law_many"]) fun _ _ _ _ _ _ us hl => match us, hl with | [_, _], _ => rfl
theorem bn_l_one (T : Txt K mg) : Binds K T.d_l_one ["_law_well_here", "_law_some"] [] := T.F_l_one.binds (ps := ["_law_well_here", "_law_some"]) fun _ _ _ _ _ _ us hl => match us, hl with | [_, _], _ => rfl
theorem bn_l_great (T : Txt K mg) : Binds K T.d_l_great ["_law_well_here"] [] := T.F_l_great.binds (ps := ["_law_well_here"]) fun _ _ _ _ _ _ us hl => match us, hl with | [_], _ => rfl
theorem bn_l_lowest (T : Txt K mg) : Binds K T.d_l_lowest ["_law_top", "_law_bottom"] [] := T.F_l_lowest.binds (ps := ["_law_top", "_law_bottom"]) fun _ _ _ _ _ _ us hl => match us, hl with | [_, _], _ => rfl
theorem bn_l_told (T : Txt K mg) : Binds K T.d_l_told ["_law_deed", "_law_one_here", "_law_other"] [] := T.F_l_told.binds (ps := ["_law_deed", "_law_one_here", "_law_other"]) fun _ _ _ _ _ _ us hl => match us, hl with | [_, _, _], _ => rfl
theorem bn_l_bounds_right (T : Txt K mg) : Binds K T.d_l_bounds_right ["_law_well_here", "_law_number"] [] := T.F_l_bounds_right.binds (ps := ["_law_well_here", "_law_number"]) fun _ _ _ _ _ _ us hl => match us, hl with | [_, _], _ => rfl
theorem bn_law (T : Txt K mg) : Binds K T.d_law ["_law_script"] [] := T.F_law.binds (ps := ["_law_script"]) fun _ _ _ _ _ _ us hl => match us, hl with | [_], _ => rfl
end
def lowOk (i : Int) : V → Bool
  | .int l => decide (l ≤ i)
  | _ => true
def highOk (i : Int) : V → Bool
  | .int l => decide (i ≤ l)
  | _ => true
def whV : V → V → V → Bool
  | .int i, lo, hi => lowOk i lo && highOk i hi
  | _, _, _ => false
def Bnd (v : V) : Prop := v = .non ∨ ∃ i, v = .int i
def sp_is_whole (K : PySem.W.Frag) : Sp := fun vs H Q _ => ∃ x lo hi n, vs = [x, lo, hi] ∧ Th K H x n ∧ Bnd lo ∧ Bnd hi ∧ Q (.bl (whV x lo hi)) H
section
variable {P : Program} {w : World} {K : PySem.W.Frag} {mg : Str → Option Value} {base : Heap}
theorem ok_is_whole (T : Txt K mg) : FnOk P w K mg base CX0 1 T.a_is_whole T.d_is_whole ["thing", "low", "high"] (sp_is_whole K) := by
  refine T.F_is_whole.ok sc_is_whole (fun vs H Q E h => by obtain ⟨_, _, _, _, rfl, _⟩ := h; rfl) (fun cdv A outer s H vs Q E hr h => ?_)
  obtain ⟨x, lo, hi, n, rfl, hT, hlo, hhi, q⟩ := h
  refine ⟨_, (pss_cons (ps_if (PW.pt (pw_or (pt_val (pe_callB call_isi rfl T.n_isinstance (by decide +kernel) (pa_cons (pv 0) (pa_cons (pe_bltn (by rfl) T.n_bool (v := .ty "bool") (by decide +kernel) rfl) pa_nil)))) (pw_or1 (pt_not (pt_val (pe_callB call_isi rfl T.n_isinstance (by decide +kernel) (pa_cons (pv 0) (pa_cons (pe_bltn (by rfl) T.n_int (v := .ty "int") (by decide +kernel) rfl) pa_nil)))))))) (pss_one (ps_ret pe_bl)) pss_nil)
    (pss_one (ps_ret (pe_and (pe_or (pe_cmpR op_isN (pv 1) pe_non (nomark _)) (pe_one (pe_cmpR op_le (pv 1) (pv 0) (nomark _)))) (pe_one (pe_or (pe_cmpR op_isN (pv 2) pe_non (nomark _)) (pe_one (pe_cmpR op_le (pv 0) (pv 2) (nomark _))))))))), ?_⟩
  have fin : ∀ i, x = .int i → Q (.bl (lowOk i lo && highOk i hi)) H := fun i e => by rw [e] at q; exact q
  refine x_seq (x_if (fun b H' => H' = H ∧ b = (kb n "bool" || !kb n "int")) (fun Q k => ?_) ?_ ?_)
  · walk_at "e"
    refine e_isi hT (by decide) ?_
    walk_at "e"
    cases e : kb n "bool" with
    | true =>
      rw [e] at k
      walk_at "e"
      exact k _ _ ⟨rfl, rfl⟩
    | false =>
      rw [e] at k
      walk_at "e"
      refine e_isi hT (by decide) ?_
      walk_at "e"
      exact k _ _ ⟨rfl, rfl⟩
  · rintro H' ⟨rfl, e⟩
    have z : whV x lo hi = false := by
      cases hT with
      | int i => exact absurd e (by decide)
      | _ => rfl
    rw [z] at q
    exact e_ret (e_c q)
  · rintro H' ⟨rfl, e⟩
    obtain ⟨i, rfl⟩ : ∃ i, x = .int i := by
      cases hT with
      | int i => exact ⟨i, rfl⟩
      | non => exact absurd e (by decide)
      | bl b => exact absurd e (by decide)
      | str b => exact absurd e (by decide)
      | ref h hn => rcases hn with rfl | rfl | rfl <;> exact absurd e (by decide)
    have q := fin i rfl
    walk_at "s"
    rcases hlo with rfl | ⟨l, rfl⟩ <;> rcases hhi with rfl | ⟨u, rfl⟩
    · walk_at "e"
      exact q
    · walk_at "e"
      exact q
    · walk_at "e"
      cases e1 : decide (l ≤ i) with
      | true =>
        have q2 : Q (.bl true) H' := (show (decide (l ≤ i) && true) = true by rw [e1]; rfl) ▸ q
        walk_at "e"
        exact q2
      | false =>
        have q2 : Q (.bl false) H' := (show (decide (l ≤ i) && true) = false by rw [e1]; rfl) ▸ q
        walk_at "e"
        exact q2
    · walk_at "e"
      cases e1 : decide (l ≤ i) with
      | true =>
        have q2 : Q (.bl (decide (i ≤ u))) H' := (show (decide (l ≤ i) && decide (i ≤ u)) = decide (i ≤ u) by rw [e1]; rfl) ▸ q
        walk_at "e"
        exact q2
      | false =>
        have q2 : Q (.bl false) H' := (show (decide (l ≤ i) && decide (i ≤ u)) = false by rw [e1]; rfl) ▸ q
        walk_at "e"
        exact q2
end
end My

set_option Elab.async false
set_option linter.all false
set_option maxRecDepth 100000
set_option maxHeartbeats 4000000
namespace My
open PySem PySem.Spec PyProof.Rows L2
local macro_rules | `(tactic| walk_at "e1") => `(tactic| first
  | refine e_var rfl ?_
  | refine e_c ?_
  | refine e_op ?_
  | refine e_un ?_
  | refine e_cb ?_
  | refine e_cons ?_
  | refine e_nil ?_
  | refine e_tB ?_
  | refine e_test ?_
  | refine e_not ?_
  | refine e_and ?_
  | refine e_or ?_
  | refine e_andV ?_
  | refine e_orV ?_
  | refine e_notV ?_
  | refine e_I0 ?_
  | refine e_I (by (try dsimp only [CDiv, CDivN, CMul, CPow]); first | decide | omega) ?_
  | refine e_U ?_
  | refine e_eqI ?_
  | refine e_neI ?_
  | refine e_bl ?_
  | refine e_call ?_
  | refine e_sub ?_
  | refine e_lst ?_
  | refine e_tup ?_
  | refine e_nn ?_
  | rw [dec_nn]
  | rw [dec_in]
  | rw [dec_rn]
  | rw [dec_bn]
  | rw [dec_sn]
  | rw [Bool.not_true]
  | rw [Bool.not_false]
  | refine iteT ?_
  | refine iteF ?_)
local macro_rules | `(tactic| walk_at "e") => `(tactic| ((try dsimp only); repeat (walk_at "e1"; try dsimp only)))
local macro_rules | `(tactic| walk_at "s1") => `(tactic| first
  | refine x_seq ?_
  | refine x_next ?_
  | refine e_ret ?_
  | refine e_asg ?_
  | refine e_drop ?_
  | refine e_asgG ?_
  | walk_at "e1")
local macro_rules | `(tactic| walk_at "s") => `(tactic| ((try dsimp only); repeat (walk_at "s1"; try dsimp only)))
section
variable {P : Program} {w : World} {K : PySem.W.Frag} {mg : Str → Option Value} {base : Heap}
def sp_l_well : Sp := fun vs H Q _ => ∃ c, vs = [.int c] ∧ ∀ H' p, Same H H' → H p = none → Wl H' p → Q (.ref p) H'
theorem ok_l_well (T : Txt K mg) : FnOk P w K mg base CX0 1 T.a_l_well T.d_l_well ["_law_cell"] sp_l_well := by
  refine T.F_l_well.ok sc_l_well (fun vs H Q E h => by obtain ⟨_, rfl, _⟩ := h; rfl) (fun cdv A outer s H vs Q E hr h => ?_)
  obtain ⟨c, rfl, q⟩ := h
  refine ⟨_, (pss_one (ps_ret (pe_lst (pa_cons (pe_op op_mul (pv 0) (pe_callTy call_int1 rfl T.n_int (by decide +kernel) (pa_cons (pe_cmpR op_ge (pv 0) (pe_op op_pow pe_int pe_int) (nomark _)) pa_nil))) (pa_cons (pe_op op_mod (pv 0) pe_int) (pa_cons pe_int pa_nil)))))), ?_⟩
  walk_at "s"
  refine Or.inr ⟨_, rfl, ?_⟩
  walk_at "e"
  exact ⟨by show 3 ≤ sizeLine; decide, fun p hp => q _ p (same_new hp _) hp ⟨_, _, _, upd_same⟩⟩
def sp_l_draw : Sp := fun vs H Q _ => ∃ a m, vs = [.ref a, .int m] ∧ Wl H a ∧ 0 < m ∧ m < 1073741824 ∧ ∀ r H', 0 ≤ r → r < m → Wl H' a → Off a H H' → Q (.int r) H'
theorem ok_l_draw (T : Txt K mg) : FnOk P w K mg base CX0 1 T.a_l_draw T.d_l_draw ["_law_well_here", "_law_many"] sp_l_draw := by
  refine T.F_l_draw.ok sc_l_draw (fun vs H Q E h => by obtain ⟨_, _, rfl, _⟩ := h; rfl) (fun cdv A outer s H vs Q E hr h => ?_)
  obtain ⟨a, m, rfl, ⟨x, y, z, hW⟩, m0, m1, q⟩ := h
  refine ⟨_, (pss_cons (ps_if (pt_cmpR op_gt (pe_ix ix_list (pv 0) pe_int (fun _ _ => rfl)) pe_int (nomark _)) (pss_cons (ps_set (i := 2) sc_l_draw.nd rfl (Or.inl rfl) (pe_op op_mod (pe_ix ix_list (pv 0) pe_int (fun _ _ => rfl)) (pv 1)))
    (pss_cons (ps_asg (pe_op op_fdiv (pe_ix ix_list (pv 0) pe_int (fun _ _ => rfl)) (pv 1)) (pg_sub (pv 0) pe_int set_list))
    (pss_one (ps_ret (pv 2))))) pss_nil)
    (pss_cons (ps_asg (pe_op op_add (pe_ix ix_list (pv 0) pe_int (fun _ _ => rfl)) pe_int) (pg_sub (pv 0) pe_int set_list))
    (pss_cons (ps_set (i := 3) sc_l_draw.nd rfl (Or.inl rfl) (pe_op op_mod (pe_op op_mul (pe_op op_add (pe_op op_add (pe_ix ix_list (pv 0) pe_int (fun _ _ => rfl)) (pe_op op_mul pe_int (pe_ix ix_list (pv 0) pe_int (fun _ _ => rfl)))) pe_int) pe_int) pe_int))
    (pss_cons (ps_set (i := 3) sc_l_draw.nd rfl (Or.inl rfl) (pe_op op_mod (pe_op op_mul (pv 3) (pe_op op_add (pe_op op_fdiv (pv 3) pe_int) pe_int)) pe_int))
    (pss_one (ps_ret (pe_op op_mod (pe_op op_mod (pe_op op_mul (pv 3) (pe_op op_add (pe_op op_fdiv (pv 3) pe_int) pe_int)) pe_int) (pv 1)))))))), ?_⟩
  refine x_seq (x_if (fun b H' => H' = H) (fun Q k => ?_) ?_ ?_)
  · walk_at "e"
    refine e_ixL (SqL.of hW) (atI_nat (j := 0) rfl) ?_
    walk_at "e"
    exact k _ _ rfl
  · rintro H' rfl
    walk_at "s"
    refine e_ixL (SqL.of hW) (atI_nat (j := 0) rfl) ?_
    walk_at "s"
    refine e_ixL (SqL.of hW) (atI_nat (j := 0) rfl) ?_
    walk_at "s"
    refine e_setL (j := 0) hW rfl ?_
    walk_at "s"
    exact q _ _ (Int.emod_nonneg _ (by omega)) (Int.emod_lt_of_pos _ m0) ⟨_, _, _, upd_same⟩ ((Off.refl a _).upd)
  · rintro H' rfl
    walk_at "s"
    refine e_ixL (SqL.of hW) (atI_nat (j := 2) rfl) ?_
    walk_at "s"
    refine e_setL (j := 2) hW rfl ?_
    have hW2 : upd H' a (.lst ([V.int x, V.int y, V.int z].set 2 (V.int (z + 1)))) a = some (.lst [.int x, .int y, .int (z + 1)]) := upd_same
    have hO : Off a H' (upd H' a (.lst ([V.int x, V.int y, V.int z].set 2 (V.int (z + 1))))) := (Off.refl a _).upd
    generalize upd H' a (.lst ([V.int x, V.int y, V.int z].set 2 (V.int (z + 1)))) = H2 at hW2 hO
    refine x_seq (x_asg (fun v H3 => H3 = H2 ∧ ∃ m, v = .int m ∧ 0 ≤ m ∧ m < 2147483647) (fun Q k => ?_) ?_)
    · walk_at "e"
      refine e_ixL (SqL.of hW2) (atI_nat (j := 1) rfl) ?_
      walk_at "e"
      refine e_ixL (SqL.of hW2) (atI_nat (j := 2) rfl) ?_
      walk_at "e"
      exact k _ _ ⟨rfl, _, rfl, Int.emod_nonneg _ (by omega), Int.emod_lt_of_pos _ (by omega)⟩
    · rintro v H3 ⟨rfl, n, rfl, n0, n1⟩
      dsimp only
      refine x_seq (x_asg (fun v H4 => H4 = H3 ∧ ∃ m, v = .int m ∧ 0 ≤ m ∧ m < 2147483647) (fun Q k => ?_) ?_)
      · walk_at "e"
        exact k _ _ ⟨rfl, _, rfl, Int.emod_nonneg _ (by omega), Int.lt_trans (Int.emod_lt_of_pos _ (by omega)) (by omega)⟩
      · rintro v H4 ⟨rfl, k, rfl, k0, k1⟩
        walk_at "s"
        exact q _ _ (Int.emod_nonneg _ (by omega)) (Int.emod_lt_of_pos _ m0) ⟨_, _, _, hW2⟩ hO
def sp_l_one : Sp := fun vs H Q _ => ∃ a l xs, vs = [.ref a, .ref l] ∧ Wl H a ∧ l ≠ a ∧ H l = some (.lst xs) ∧ 0 < xs.length ∧ xs.length < 1000 ∧ ∀ v H', v ∈ xs → Wl H' a → Off a H H' → Q v H'
theorem ok_l_one (T : Txt K mg) (G_l_draw : FnOk P w K mg base CX0 1 T.a_l_draw T.d_l_draw ["_law_well_here", "_law_many"] sp_l_draw) : FnOk P w K mg base CX0 2 T.a_l_one T.d_l_one ["_law_well_here", "_law_some"] sp_l_one := by
  refine T.F_l_one.ok sc_l_one (fun vs H Q E h => by obtain ⟨_, _, _, rfl, _⟩ := h; rfl) (fun cdv A outer s H vs Q E hr h => ?_)
  obtain ⟨a, l, xs, rfl, hW, hne, hl, l0, l1, q⟩ := h
  refine ⟨_, (pss_one (ps_ret (pe_ix ix_list (pv 1) (pe_call G_l_draw (hr.mono (by decide)) rfl T.m_l_draw T.F_l_draw.kp (bn_l_draw T) .nil pass0 (pa_cons (pv 0) (pa_cons (pe_callB call_len_seq rfl T.n_len (by decide +kernel) (pa_cons (pv 1) pa_nil)) pa_nil))) (fun _ _ => rfl)))), ?_⟩
  walk_at "s"
  refine ⟨l, xs, rfl, .inl (SqL.of hl), ?_⟩
  walk_at "e"
  refine ⟨a, xs.length, rfl, hW, by omega, by omega, fun r H' r0 r1 hW' hO => ?_⟩
  have hr' : r.toNat < xs.length := by omega
  refine e_ixL (v := xs[r.toNat]) (SqL.of (hO _ _ hne hl)) (at_of (j := r.toNat) (by omega) (List.getElem?_eq_getElem hr')) ?_
  exact q _ _ (List.getElem_mem hr') hW' hO
def Gt (g : Int) : Prop := -100000000000000000000000000000000000000000000000000000000000 < g ∧ g < 100000000000000000000000000000000000000000000000000000000000
theorem p9 : (10 : Int) ^ Int.toNat 9 = 1000000000 := by decide +kernel
theorem p6 : (10 : Int) ^ Int.toNat 6 = 1000000 := by decide +kernel
theorem p30 : (10 : Int) ^ Int.toNat 30 = 1000000000000000000000000000000 := by decide +kernel
theorem p49 : (10 : Int) ^ Int.toNat 49 = 10000000000000000000000000000000000000000000000000 := by decide +kernel
theorem p59 : (10 : Int) ^ Int.toNat 59 = 100000000000000000000000000000000000000000000000000000000000 := by decide +kernel
theorem gt3 {r x u : Int} (r0 : 0 ≤ r) (r1 : r < 1000000000) (hx : x = 1000000000 ∨ x = 1000000000000000000000000000000 ∨ x = 10000000000000000000000000000000000000000000000000) (u0 : 0 ≤ u) (u1 : u < 1000000) : Gt (r * x + u) := by
  unfold Gt
  rcases hx with rfl | rfl | rfl <;> omega
def sp_l_great : Sp := fun vs H Q _ => ∃ a, vs = [.ref a] ∧ Wl H a ∧ ∀ g H', Gt g → Wl H' a → Off a H H' → Q (.int g) H'
theorem ok_l_great (T : Txt K mg) (G_l_draw : FnOk P w K mg base CX0 1 T.a_l_draw T.d_l_draw ["_law_well_here", "_law_many"] sp_l_draw) (G_l_one : FnOk P w K mg base CX0 2 T.a_l_one T.d_l_one ["_law_well_here", "_law_some"] sp_l_one) : FnOk P w K mg base CX0 3 T.a_l_great T.d_l_great ["_law_well_here"] sp_l_great := by
  refine T.F_l_great.ok sc_l_great (fun vs H Q E h => by obtain ⟨_, rfl, _⟩ := h; rfl) (fun cdv A outer s H vs Q E hr h => ?_)
  obtain ⟨a, rfl, hW, q⟩ := h
  refine ⟨_, (pss_cons (ps_set (i := 1) sc_l_great.nd rfl (Or.inl rfl) (pe_call G_l_draw (hr.mono (by decide)) rfl T.m_l_draw T.F_l_draw.kp (bn_l_draw T) .nil pass0 (pa_cons (pv 0) (pa_cons pe_int pa_nil))))
    (pss_cons (ps_if (pt_cmpR op_lt (pv 1) pe_int (nomark _)) (pss_one (ps_ret (pe_op op_sub (pe_call G_l_draw (hr.mono (by decide)) rfl T.m_l_draw T.F_l_draw.kp (bn_l_draw T) .nil pass0 (pa_cons (pv 0) (pa_cons pe_int pa_nil))) pe_int))) pss_nil)
    (pss_cons (ps_if (pt_cmpR op_eq (pv 1) pe_int (nomark _)) (pss_one (ps_ret (pe_op op_add (pe_op op_mul (pe_call G_l_draw (hr.mono (by decide)) rfl T.m_l_draw T.F_l_draw.kp (bn_l_draw T) .nil pass0 (pa_cons (pv 0) (pa_cons (pe_op op_pow pe_int pe_int) pa_nil))) (pe_call G_l_one (hr.mono (by decide)) rfl T.m_l_one T.F_l_one.kp (bn_l_one T) .nil pass0 (pa_cons (pv 0) (pa_cons (pe_lst (pa_cons (pe_op op_pow pe_int pe_int) (pa_cons (pe_op op_pow pe_int pe_int) (pa_cons (pe_op op_pow pe_int pe_int) pa_nil)))) pa_nil)))) (pe_call G_l_draw (hr.mono (by decide)) rfl T.m_l_draw T.F_l_draw.kp (bn_l_draw T) .nil pass0 (pa_cons (pv 0) (pa_cons (pe_op op_pow pe_int pe_int) pa_nil)))))) pss_nil)
    (pss_one (ps_ret (pe_op op_add (pe_op op_sub pe_int (pe_op op_pow pe_int pe_int)) (pe_call G_l_draw (hr.mono (by decide)) rfl T.m_l_draw T.F_l_draw.kp (bn_l_draw T) .nil pass0 (pa_cons (pv 0) (pa_cons pe_int pa_nil))))))))), ?_⟩
  walk_at "s"
  refine ⟨a, 5, rfl, hW, by omega, by omega, fun k H1 k0 k1 hW1 hO1 => ?_⟩
  refine x_seq (x_if (fun b H' => H' = H1) (fun Q k => ?_) ?_ ?_)
  · walk_at "e"
    exact k _ _ rfl
  · rintro H' rfl
    walk_at "s"
    refine ⟨a, 25, rfl, hW1, by omega, by omega, fun r H2 r0 r1 hW2 hO2 => ?_⟩
    walk_at "e"
    exact q _ _ (by unfold Gt; omega) hW2 (hO1.trans hO2)
  · rintro H' rfl
    dsimp only
    refine x_next ?_
    dsimp only
    refine x_seq (x_if (fun b H'' => H'' = H') (fun Q k => ?_) ?_ ?_)
    · walk_at "e"
      exact k _ _ rfl
    · rintro H'' rfl
      walk_at "s"
      refine ⟨a, _, rfl, hW1, by rw [p9]; omega, by rw [p9]; omega, fun r H2 r0 r1 hW2 hO2 => ?_⟩
      rw [p9] at r1
      walk_at "e"
      refine ⟨by show 3 ≤ sizeLine; decide, fun p hp => ?_⟩
      walk_at "e"
      refine ⟨a, p, _, rfl, hW2.same (same_new hp _), hW2.ne hp, upd_same, by decide, by decide, fun v H3 hv hW3 hO3 => ?_⟩
      rw [p9, p30, p49] at hv
      obtain ⟨x, rfl, hx⟩ : ∃ x : Int, v = .int x ∧ (x = 1000000000 ∨ x = 1000000000000000000000000000000 ∨ x = 10000000000000000000000000000000000000000000000000) := by
        simp only [List.mem_cons, List.not_mem_nil, or_false] at hv
        rcases hv with rfl | rfl | rfl
        · exact ⟨_, rfl, .inl rfl⟩
        · exact ⟨_, rfl, .inr (.inl rfl)⟩
        · exact ⟨_, rfl, .inr (.inr rfl)⟩
      walk_at "e"
      refine ⟨a, _, rfl, hW3, by rw [p6]; omega, by rw [p6]; omega, fun u H4 u0 u1 hW4 hO4 => ?_⟩
      rw [p6] at u1
      walk_at "e"
      exact q _ _ (gt3 r0 r1 hx u0 u1) hW4 (((hO1.trans hO2).trans (.same (same_new hp _))).trans (hO3.trans hO4))
    · rintro H'' rfl
      walk_at "s"
      refine ⟨a, _, rfl, hW1, by omega, by omega, fun u H4 u0 u1 hW4 hO4 => ?_⟩
      walk_at "e"
      rw [p59]
      exact q _ _ (by unfold Gt; omega) hW4 (hO1.trans hO4)
end
end My

set_option Elab.async false
set_option linter.all false
set_option maxRecDepth 100000
set_option maxHeartbeats 4000000
set_option exponentiation.threshold 2000
namespace My
open PySem PySem.Spec PyProof.Rows L2
local macro_rules | `(tactic| walk_at "e1") => `(tactic| first
  | refine e_var rfl ?_
  | refine e_c ?_
  | refine e_op ?_
  | refine e_un ?_
  | refine e_cb ?_
  | refine e_cons ?_
  | refine e_nil ?_
  | refine e_tB ?_
  | refine e_test ?_
  | refine e_not ?_
  | refine e_and ?_
  | refine e_or ?_
  | refine e_andV ?_
  | refine e_orV ?_
  | refine e_notV ?_
  | refine e_I0 ?_
  | refine e_I (by (try dsimp only [CDiv, CDivN, CMul, CPow]); first | decide | omega) ?_
  | refine e_U ?_
  | refine e_eqI ?_
  | refine e_neI ?_
  | refine e_bl ?_
  | refine e_call ?_
  | refine e_sub ?_
  | refine e_lst ?_
  | refine e_tup ?_
  | refine e_nn ?_
  | rw [dec_nn]
  | rw [dec_in]
  | rw [dec_rn]
  | rw [dec_bn]
  | rw [dec_sn]
  | rw [Bool.not_true]
  | rw [Bool.not_false]
  | refine iteT ?_
  | refine iteF ?_)
local macro_rules | `(tactic| walk_at "e") => `(tactic| ((try dsimp only); repeat (walk_at "e1"; try dsimp only)))
local macro_rules | `(tactic| walk_at "s1") => `(tactic| first
  | refine x_seq ?_
  | refine x_next ?_
  | refine e_ret ?_
  | refine e_asg ?_
  | refine e_drop ?_
  | refine e_asgG ?_
  | walk_at "e1")
local macro_rules | `(tactic| walk_at "s") => `(tactic| ((try dsimp only); repeat (walk_at "s1"; try dsimp only)))
section
variable {P : Program} {w : World} {K : PySem.W.Frag} {mg : Str → Option Value} {base : Heap}
theorem bn_fraction (T : Txt K mg) : Binds K T.d_fraction ["top", "bottom"] [] := by
  obtain ⟨ds, h, b⟩ := T.F_fraction.binds1 (ps := ["top", "bottom"]) 2 1 (by decide) rfl (fun T' kV doc pm an cdv ct us its h1 h2 => match us, its, h1, h2 with
    | [_, _], [_], _, _ => ⟨_, rfl, rfl⟩)
  cases h
  exact b
theorem bn1_fraction (T : Txt K mg) : ∃ ds, Vals [.int 1] ds ∧ Binds K T.d_fraction ["top", "bottom"] ds :=
  T.F_fraction.binds1 (ps := ["top", "bottom"]) 1 0 (by decide) rfl (fun T' kV doc pm an cdv ct us its h1 h2 => match us, its, h1, h2 with
    | [_], [_], _, _ => ⟨_, rfl, rfl⟩)
def lowV : V → V → Option (Int × Int)
  | .int t, .int b => lowZ t b
  | _, _ => none
/-- what a deed of fractions hands back -/
def RetF (c : Addr) (r : Option (Int × Int)) (H : Hp) (Q : VK) (E : XK) : Prop := match r with
  | none => E (.ref c) none H
  | some (t, b) => ∀ H' p, Same H H' → H p = none → H' p = some (.tup [.int t, .int b]) → Q (.ref p) H'
def sp_fraction (K : PySem.W.Frag) (c : Addr) : Sp := fun vs H Q E => ∃ x y n m, vs = [x, y] ∧ Th K H x n ∧ Th K H y m ∧ (∀ t b, x = .int t → y = .int b → Lg t ∧ Lg b) ∧ RetF c (lowV x y) H Q E
theorem whV_none (x : V) : whV x .non .non = true → ∃ i, x = .int i := fun h => by
  cases x with
  | int i => exact ⟨i, rfl⟩
  | _ => cases h
theorem ok_fraction (T : Txt K mg) (G_is_whole : FnOk P w K mg base CX0 1 T.a_is_whole T.d_is_whole ["thing", "low", "high"] (sp_is_whole K)) : FnOk P w K mg base (L2.CX P w) 2 T.a_fraction T.d_fraction ["top", "bottom"] (sp_fraction K T.c_NoFraction) := by
  refine T.F_fraction.ok (CX := L2.CX P w) sc_fraction (fun vs H Q E h => by obtain ⟨_, _, _, _, rfl, _⟩ := h; rfl) (fun cdv A outer s H vs Q E hr h => ?_)
  obtain ⟨x, y, n, m, rfl, hx, hy, hb, q⟩ := h
  refine ⟨_, (pss_cons (ps_if (PW.pt (pw_or (pt_not (pt_val (pe_call G_is_whole (hr.mono (by decide)) rfl T.m_is_whole T.F_is_whole.kp (bn_is_whole T) .nil pass0 (pa_cons (pv 0) (pa_cons pe_non (pa_cons pe_non pa_nil)))))) (pw_or1 (pt_not (pt_val (pe_call G_is_whole (hr.mono (by decide)) rfl T.m_is_whole T.F_is_whole.kp (bn_is_whole T) .nil pass0 (pa_cons (pv 1) (pa_cons pe_non (pa_cons pe_non pa_nil))))))))) (pss_one (ps_raise rfl (takes_of rfl rfl rfl rfl) (pmk_own PySem.F.excBase_ValueError T.x_NoFraction T.g_NoFraction T.k_NoFraction (raises_own T.b_NoFraction T.t_NoFraction) rfl))) pss_nil)
    (pss_cons (ps_if (pt_cmpR op_eq (pv 1) pe_int (nomark _)) (pss_one (ps_raise rfl (takes_of rfl rfl rfl rfl) (pmk_own PySem.F.excBase_ValueError T.x_NoFraction T.g_NoFraction T.k_NoFraction (raises_own T.b_NoFraction T.t_NoFraction) rfl))) pss_nil)
    (pss_cons (ps_set (i := 2) sc_fraction.nd rfl (Or.inl rfl) (pe_callBfun cr_gcd rfl T.m_gcd (pa_cons (pv 0) (pa_cons (pv 1) pa_nil))))
    (pss_cons (ps_if (pt_cmpR op_lt (pv 1) pe_int (nomark _)) (pss_one (ps_set (i := 2) sc_fraction.nd rfl (Or.inl rfl) (pe_un un_neg (pv 2)))) pss_nil)
    (pss_one (ps_ret (pe_tup (pa_cons (pe_op op_fdivZ (pv 0) (pv 2)) (pa_cons (pe_op op_fdivZ (pv 1) (pv 2)) pa_nil))))))))), ?_⟩
  refine x_seq (x_if (fun b H' => H' = H ∧ b = (!whV x .non .non || !whV y .non .non)) (fun Q k => ?_) ?_ ?_)
  · walk_at "e"
    refine ⟨_, _, _, n, rfl, hx, .inl rfl, .inl rfl, ?_⟩
    walk_at "e"
    cases e : whV x .non .non with
    | false =>
      rw [e] at k
      walk_at "e"
      exact k _ _ ⟨rfl, rfl⟩
    | true =>
      rw [e] at k
      walk_at "e"
      refine ⟨_, _, _, m, rfl, hy, .inl rfl, .inl rfl, ?_⟩
      walk_at "e"
      exact k _ _ ⟨rfl, rfl⟩
  · rintro H' ⟨rfl, e⟩
    have z : lowV x y = none := by
      cases x <;> cases y <;> first | rfl | exact absurd (show true = false from e) (by decide)
    rw [z] at q
    exact q
  · rintro H' ⟨rfl, e⟩
    obtain ⟨t, rfl⟩ := whV_none x (by cases h : whV x .non .non; rw [h] at e; cases e; rfl)
    obtain ⟨b, rfl⟩ := whV_none y (by cases h : whV y .non .non; rw [h, Bool.not_false, Bool.or_true] at e; cases e; rfl)
    obtain ⟨lt, lb⟩ := hb t b rfl rfl
    dsimp only
    refine x_next ?_
    dsimp only
    refine x_seq (x_if (fun c H'' => H'' = H' ∧ c = decide (b = 0)) (fun Q k => ?_) ?_ ?_)
    · walk_at "e"
      exact k _ _ ⟨rfl, rfl⟩
    · rintro H'' ⟨rfl, e⟩
      have e0 : b = 0 := of_decide_eq_true e.symm
      have z : lowV (.int t) (.int b) = none := by
        show lowZ t b = none
        unfold lowZ
        rw [if_pos e0]
      rw [z] at q
      exact q
    · rintro H'' ⟨rfl, e⟩
      have e0 : b ≠ 0 := of_decide_eq_false e.symm
      dsimp only
      refine x_next ?_
      dsimp only
      refine x_seq (x_asg (fun v H3 => H3 = H'' ∧ v = .int (gz t b : Int)) (fun Q k => ?_) ?_)
      · walk_at "e"
        exact ⟨_, _, rfl, k _ _ ⟨rfl, rfl⟩⟩
      · rintro v H3 ⟨rfl, rfl⟩
        dsimp only
        have fin : ∀ c : Int, c = (if b < 0 then -(gz t b : Int) else (gz t b : Int)) →
            tRet (tTup (tCons (tOp (rI CDivZ fun i j => .int (i.fdiv j)) (tVar 0) (tVar 2)) (tCons (tOp (rI CDivZ fun i j => .int (i.fdiv j)) (tVar 1) (tVar 2)) tNil))) { nx := fun _ H' => Q .non H', rt := Q } [some (.int t), some (.int b), some (.int c)] H3 := fun c hc => by
          have g0 := gz_pos (t := t) e0
          have c0 : c ≠ 0 := by rw [hc]; split <;> omega
          have cl : c.natAbs.log2 < 9000 := by
            have e1 : c.natAbs = ((gz t b : Nat) : Int).natAbs := by rw [hc]; split <;> omega
            rw [e1]
            exact (gz_lg e0 lb).log2
          walk_at "s"
          refine e_I ⟨c0, cl⟩ ?_
          walk_at "e"
          refine e_I ⟨c0, cl⟩ ?_
          walk_at "e"
          obtain ⟨d1, d2⟩ := low_fdiv e0 c hc
          have z : lowV (.int t) (.int b) = some (t.fdiv c, b.fdiv c) := by
            show lowZ t b = _
            unfold lowZ
            rw [if_neg e0, d1, d2]
          rw [z] at q
          exact ⟨by show 2 ≤ sizeLine; decide, fun p hp => q _ p (same_new hp _) hp upd_same⟩
        refine x_seq (x_if (fun c H4 => H4 = H3 ∧ c = decide (b < 0)) (fun Q k => ?_) ?_ ?_)
        · walk_at "e"
          exact k _ _ ⟨rfl, rfl⟩
        · rintro H4 ⟨rfl, e⟩
          have e1 : b < 0 := of_decide_eq_true e.symm
          refine e_asg (e_un (e_var rfl (e_U ?_)))
          exact fin _ (by rw [if_pos e1])
        · rintro H4 ⟨rfl, e⟩
          have e1 : ¬ b < 0 := of_decide_eq_false e.symm
          exact fin _ (by rw [if_neg e1])
def frXs : List V → Option (Int × Int)
  | [.int t, .int b] => if 1 ≤ b ∧ Nat.gcd t.natAbs b.natAbs = 1 then some (t, b) else none
  | _ => none
/-- a thing, read as a fraction -/
inductive FrV (K : PySem.W.Frag) (H : Hp) : V → Option (Int × Int) → Prop
  | plain {x : V} {n : String} (h : Th K H x n) (hn : n ≠ "tuple") : FrV K H x none
  | tup {p : Addr} {xs : List V} (h : H p = some (.tup xs)) (ha : ∀ y ∈ xs, ∃ n, Th K H y n) : FrV K H (.ref p) (frXs xs)
theorem FrV.get {H : Hp} {x : V} {t b : Int} (h : FrV K H x (some (t, b))) : ∃ p, x = .ref p ∧ H p = some (.tup [.int t, .int b]) := by
  generalize e : some (t, b) = r at h
  cases h with
  | plain _ _ => cases e
  | @tup p xs h ha =>
    refine ⟨p, rfl, ?_⟩
    unfold frXs at e
    split at e
    · split at e
      · cases e
        exact h
      · cases e
    · cases e
theorem tup_th {H : Hp} {p : Addr} {xs : List V} (h : H p = some (.tup xs)) : Th K H (.ref p) "tuple" := .ref (.base (.tup h)) (.inr (.inl rfl))
def sp_is_fraction (K : PySem.W.Frag) : Sp := fun vs H Q _ => ∃ x r, vs = [x] ∧ FrV K H x r ∧ Q (.bl r.isSome) H
theorem ok_is_fraction (T : Txt K mg) (G_is_whole : FnOk P w K mg base CX0 1 T.a_is_whole T.d_is_whole ["thing", "low", "high"] (sp_is_whole K)) : FnOk P w K mg base CX0 2 T.a_is_fraction T.d_is_fraction ["thing"] (sp_is_fraction K) := by
  refine T.F_is_fraction.ok sc_is_fraction (fun vs H Q E h => by obtain ⟨_, _, rfl, _⟩ := h; rfl) (fun cdv A outer s H vs Q E hr h => ?_)
  obtain ⟨x, r, rfl, hx, q⟩ := h
  refine ⟨_, (pss_cons (ps_if (PW.pt (pw_or (pt_not (pt_val (pe_callB call_isi rfl T.n_isinstance (by decide +kernel) (pa_cons (pv 0) (pa_cons (pe_bltn (by rfl) T.n_tuple (v := .ty "tuple") (by decide +kernel) rfl) pa_nil))))) (pw_or1 (pt_cmpR op_ne (pe_callB call_len_seq rfl T.n_len (by decide +kernel) (pa_cons (pv 0) pa_nil)) pe_int (nomark _))))) (pss_one (ps_ret pe_bl)) pss_nil)
    (pss_cons (ps_asg (pv 0) (pg_tup rfl (pgs_cons (pg_name (i := 1) sc_is_fraction.nd rfl (Or.inl rfl)) (pgs_cons (pg_name (i := 2) sc_is_fraction.nd rfl (Or.inl rfl)) pgs_nil))))
    (pss_cons (ps_if (PW.pt (pw_or (pt_not (pt_val (pe_call G_is_whole (hr.mono (by decide)) rfl T.m_is_whole T.F_is_whole.kp (bn_is_whole T) .nil pass0 (pa_cons (pv 1) (pa_cons pe_non (pa_cons pe_non pa_nil)))))) (pw_or1 (pt_not (pt_val (pe_call G_is_whole (hr.mono (by decide)) rfl T.m_is_whole T.F_is_whole.kp (bn_is_whole T) .nil pass0 (pa_cons (pv 2) (pa_cons pe_int (pa_cons pe_non pa_nil))))))))) (pss_one (ps_ret pe_bl)) pss_nil)
    (pss_one (ps_ret (pe_cmpR op_eq (pe_callBfun cr_gcd rfl T.m_gcd (pa_cons (pv 1) (pa_cons (pv 2) pa_nil))) pe_int (nomark _))))))), ?_⟩
  cases hx with
  | @plain _ n hT hn =>
    refine x_seq (x_if (fun b H' => H' = H ∧ b = true) (fun Q k => ?_) ?_ ?_)
    · walk_at "e"
      refine e_isi hT (by decide) ?_
      have e : kb n "tuple" = false := by
        cases hT with
        | ref h hn' =>
          rcases hn' with rfl | rfl | rfl
          · rfl
          · exact absurd rfl hn
          · rfl
        | _ => rfl
      rw [e]
      walk_at "e"
      exact k _ _ ⟨rfl, rfl⟩
    · rintro H' ⟨rfl, _⟩
      exact e_ret (e_c q)
    · rintro H' ⟨_, e⟩
      cases e
  | @tup p xs hp ha =>
    refine x_seq (x_if (fun b H' => H' = H ∧ b = !decide ((xs.length : Int) = 2)) (fun Q k => ?_) ?_ ?_)
    · walk_at "e"
      refine e_isi (tup_th hp) (by decide) ?_
      have e : kb "tuple" "tuple" = true := rfl
      rw [e]
      walk_at "e"
      refine ⟨p, xs, rfl, .inr (SqT.of hp), ?_⟩
      walk_at "e"
      exact k _ _ ⟨rfl, rfl⟩
    · rintro H' ⟨rfl, e⟩
      have z : frXs xs = none := by
        unfold frXs
        split
        · exact absurd (show true = false from e) (by decide)
        · rfl
      rw [z] at q
      exact e_ret (e_c q)
    · rintro H' ⟨rfl, e⟩
      have l2 : xs.length = 2 := by
        have : decide ((xs.length : Int) = 2) = true := by cases h : decide ((xs.length : Int) = 2); rw [h] at e; cases e; rfl
        have := of_decide_eq_true this
        omega
      obtain ⟨u, v, rfl⟩ : ∃ u v, xs = [u, v] := match xs, l2 with | [u, v], _ => ⟨u, v, rfl⟩
      obtain ⟨n, hu⟩ := ha u List.mem_cons_self
      obtain ⟨m, hv⟩ := ha v (List.mem_cons_of_mem _ List.mem_cons_self)
      dsimp only
      refine x_next ?_
      dsimp only
      refine x_seq (e_asgG (e_var rfl ⟨p, [u, v], rfl, SqT.of hp, rfl, u, [v], rfl, v, [], rfl, rfl, ?_⟩))
      dsimp only
      refine x_seq (x_if (fun b H'' => H'' = H' ∧ b = (!whV u .non .non || !whV v (.int 1) .non)) (fun Q k => ?_) ?_ ?_)
      · walk_at "e"
        refine ⟨_, _, _, n, rfl, hu, .inl rfl, .inl rfl, ?_⟩
        walk_at "e"
        cases e : whV u .non .non with
        | false =>
          rw [e] at k
          walk_at "e"
          exact k _ _ ⟨rfl, rfl⟩
        | true =>
          rw [e] at k
          walk_at "e"
          refine ⟨_, _, _, m, rfl, hv, .inr ⟨1, rfl⟩, .inl rfl, ?_⟩
          walk_at "e"
          exact k _ _ ⟨rfl, rfl⟩
      · rintro H'' ⟨rfl, e⟩
        have z : frXs [u, v] = none := by
          unfold frXs
          split
          · rename_i t b q1
            have z1 := List.cons.inj q1
            have z2 := List.cons.inj z1.2
            rw [z1.1, z2.1] at e
            have e2 : true = !(decide (1 ≤ b) && true) := e
            rw [Bool.and_true] at e2
            have e3 : decide (1 ≤ b) = false := by cases h : decide (1 ≤ b); rfl; rw [h] at e2; cases e2
            rw [if_neg (fun h => (of_decide_eq_false e3) h.1)]
          · rfl
        rw [z] at q
        exact e_ret (e_c q)
      · rintro H'' ⟨rfl, e⟩
        have e1 : whV u .non .non = true := by cases h : whV u .non .non; rw [h] at e; cases e; rfl
        have e2 : whV v (.int 1) .non = true := by cases h : whV v (.int 1) .non; rw [h, e1] at e; cases e; rfl
        obtain ⟨t, rfl⟩ := whV_none u e1
        obtain ⟨b, rfl, hb⟩ : ∃ b, v = .int b ∧ 1 ≤ b := by
          cases v with
          | int b =>
            refine ⟨b, rfl, ?_⟩
            have : (decide (1 ≤ b) && true) = true := e2
            rw [Bool.and_true] at this
            exact of_decide_eq_true this
          | _ => cases e2
        have z : (frXs [V.int t, V.int b]).isSome = decide ((gz t b : Int) = 1) := by
          show (if 1 ≤ b ∧ Nat.gcd t.natAbs b.natAbs = 1 then some (t, b) else none).isSome = _
          by_cases h : Nat.gcd t.natAbs b.natAbs = 1
          · rw [if_pos ⟨hb, h⟩, decide_eq_true (by show ((Nat.gcd t.natAbs b.natAbs : Nat) : Int) = 1; omega)]
            rfl
          · rw [if_neg (fun h' => h h'.2), decide_eq_false (by show ¬ ((Nat.gcd t.natAbs b.natAbs : Nat) : Int) = 1; omega)]
            rfl
        rw [z] at q
        walk_at "s"
        refine ⟨_, _, rfl, ?_⟩
        walk_at "e"
        exact q
def sp_need (K : PySem.W.Frag) (c : Addr) : Sp := fun vs H Q E => ∃ x y r u, vs = [x, y] ∧ FrV K H x r ∧ FrV K H y u ∧ (r.isSome = true → u.isSome = true → Q .non H) ∧ ((r = none ∨ u = none) → E (.ref c) none H)
theorem ok_need (T : Txt K mg) (G_is_fraction : FnOk P w K mg base CX0 2 T.a_is_fraction T.d_is_fraction ["thing"] (sp_is_fraction K)) : FnOk P w K mg base (L2.CX P w) 3 T.a_need_fractions T.d_need_fractions ["one", "other"] (sp_need K T.c_NoFraction) := by
  refine T.F_need_fractions.okX sc_need_fractions (fun vs H Q E h => by obtain ⟨_, _, _, _, rfl, _⟩ := h; rfl) (fun cdv A outer s H vs Q E hr h => ?_)
  obtain ⟨x, y, r, u, rfl, hx, hy, q1, q2⟩ := h
  refine ⟨_, (pss_one (ps_if (PW.pt (pw_or (pt_not (pt_val (pe_call G_is_fraction (hr.mono (by decide)) rfl T.m_is_fraction T.F_is_fraction.kp (bn_is_fraction T) .nil pass0 (pa_cons (pv 0) pa_nil)))) (pw_or1 (pt_not (pt_val (pe_call G_is_fraction (hr.mono (by decide)) rfl T.m_is_fraction T.F_is_fraction.kp (bn_is_fraction T) .nil pass0 (pa_cons (pv 1) pa_nil))))))) (pss_one (ps_raise rfl (takes_of rfl rfl rfl rfl) (pmk_own PySem.F.excBase_ValueError T.x_NoFraction T.g_NoFraction T.k_NoFraction (raises_own T.b_NoFraction T.t_NoFraction) rfl))) pss_nil)), ?_⟩
  refine x_if (fun b H' => H' = H ∧ b = (!r.isSome || !u.isSome)) (fun Q k => ?_) ?_ ?_
  · walk_at "e"
    refine ⟨_, r, rfl, hx, ?_⟩
    walk_at "e"
    cases e : r.isSome with
    | false =>
      rw [e] at k
      walk_at "e"
      exact k _ _ ⟨rfl, rfl⟩
    | true =>
      rw [e] at k
      walk_at "e"
      refine ⟨_, u, rfl, hy, ?_⟩
      walk_at "e"
      exact k _ _ ⟨rfl, rfl⟩
  · rintro H' ⟨rfl, e⟩
    refine q2 ?_
    cases r with
    | none => exact .inl rfl
    | some r =>
      cases u with
      | none => exact .inr rfl
      | some u => cases e
  · rintro H' ⟨rfl, e⟩
    refine x_next (q1 ?_ ?_)
    · cases h : r.isSome
      · rw [h] at e; cases e
      · rfl
    · cases h : u.isSome
      · rw [h, Bool.not_false, Bool.or_true] at e; cases e
      · rfl
end
end My

set_option Elab.async false
set_option linter.all false
set_option maxRecDepth 100000
set_option maxHeartbeats 4000000
set_option exponentiation.threshold 2000
namespace My
open PySem PySem.Spec PyProof.Rows L2
local macro_rules | `(tactic| walk_at "e1") => `(tactic| first
  | refine e_var rfl ?_
  | refine e_c ?_
  | refine e_op ?_
  | refine e_un ?_
  | refine e_cb ?_
  | refine e_cons ?_
  | refine e_nil ?_
  | refine e_tB ?_
  | refine e_test ?_
  | refine e_not ?_
  | refine e_and ?_
  | refine e_or ?_
  | refine e_andV ?_
  | refine e_orV ?_
  | refine e_notV ?_
  | refine e_I0 ?_
  | refine e_I (by (try dsimp only [CDiv, CDivN, CMul, CPow]); first | decide | omega) ?_
  | refine e_U ?_
  | refine e_eqI ?_
  | refine e_neI ?_
  | refine e_bl ?_
  | refine e_call ?_
  | refine e_sub ?_
  | refine e_lst ?_
  | refine e_tup ?_
  | refine e_nn ?_
  | rw [dec_nn]
  | rw [dec_in]
  | rw [dec_rn]
  | rw [dec_bn]
  | rw [dec_sn]
  | rw [Bool.not_true]
  | rw [Bool.not_false]
  | refine iteT ?_
  | refine iteF ?_)
local macro_rules | `(tactic| walk_at "e") => `(tactic| ((try dsimp only); repeat (walk_at "e1"; try dsimp only)))
local macro_rules | `(tactic| walk_at "s1") => `(tactic| first
  | refine x_seq ?_
  | refine x_next ?_
  | refine e_ret ?_
  | refine e_asg ?_
  | refine e_drop ?_
  | refine e_asgG ?_
  | walk_at "e1")
local macro_rules | `(tactic| walk_at "s") => `(tactic| ((try dsimp only); repeat (walk_at "s1"; try dsimp only)))
section
variable {P : Program} {w : World} {K : PySem.W.Frag} {mg : Str → Option Value} {base : Heap}
def arV (F : Int → Int → Int → Int → Int × Int) : Option (Int × Int) → Option (Int × Int) → Option (Int × Int)
  | some (t, b), some (s, d) => lowZ (F t b s d).1 (F t b s d).2
  | _, _ => none
def sp_ar (K : PySem.W.Frag) (c : Addr) (F : Int → Int → Int → Int → Int × Int) : Sp := fun vs H Q E => ∃ x y r u, vs = [x, y] ∧ FrV K H x r ∧ FrV K H y u ∧ (∀ t b, r = some (t, b) → Sm t ∧ Sm b) ∧ (∀ t b, u = some (t, b) → Sm t ∧ Sm b) ∧ RetF c (arV F r u) H Q E
def plusZ (t b s d : Int) : Int × Int := (t * d + s * b, b * d)
theorem ok_plus (T : Txt K mg) (G_need_fractions : FnOk P w K mg base (L2.CX P w) 3 T.a_need_fractions T.d_need_fractions ["one", "other"] (sp_need K T.c_NoFraction)) (G_fraction : FnOk P w K mg base (L2.CX P w) 2 T.a_fraction T.d_fraction ["top", "bottom"] (sp_fraction K T.c_NoFraction)) :
    FnOk P w K mg base (L2.CX P w) 4 T.a_plus T.d_plus ["one", "other"] (sp_ar K T.c_NoFraction plusZ) := by
  refine T.F_plus.okX sc_plus (fun vs H Q E h => by obtain ⟨_, _, _, _, rfl, _⟩ := h; rfl) (fun cdv A outer s H vs Q E hr h => ?_)
  obtain ⟨x, y, r, u, rfl, hx, hy, hsr, hsu, q⟩ := h
  refine ⟨_, (pss_cons (ps_expr (pe_call G_need_fractions (hr.mono (by decide)) rfl T.m_need_fractions T.F_need_fractions.kp (bn_need_fractions T) .nil (passes_call (takes_of rfl rfl rfl rfl) (fun _ _ _ _ h => h)) (pa_cons (pv 0) (pa_cons (pv 1) pa_nil))))
    (pss_one (ps_ret (pe_call G_fraction (hr.mono (by decide)) rfl T.m_fraction T.F_fraction.kp (bn_fraction T) .nil (passes_call (takes_of rfl rfl rfl rfl) (fun _ _ _ _ h => h)) (pa_cons (pe_op op_add (pe_op op_mulW (pe_ix ix_tup (pv 0) pe_int (fun _ _ => rfl)) (pe_ix ix_tup (pv 1) pe_int (fun _ _ => rfl))) (pe_op op_mulW (pe_ix ix_tup (pv 1) pe_int (fun _ _ => rfl)) (pe_ix ix_tup (pv 0) pe_int (fun _ _ => rfl)))) (pa_cons (pe_op op_mulW (pe_ix ix_tup (pv 0) pe_int (fun _ _ => rfl)) (pe_ix ix_tup (pv 1) pe_int (fun _ _ => rfl))) pa_nil)))))), ?_⟩
  refine x_seq (e_drop ?_)
  walk_at "e"
  refine ⟨x, y, r, u, rfl, hx, hy, fun h1 h2 => ?_, fun h => ?_⟩
  · cases r with
    | none => cases h1
    | some r =>
    cases u with
    | none => cases h2
    | some u =>
    obtain ⟨t, b⟩ := r
    obtain ⟨s', d⟩ := u
    obtain ⟨ht, hb⟩ := hsr t b rfl
    obtain ⟨hs, hd⟩ := hsu s' d rfl
    obtain ⟨p, rfl, hp⟩ := hx.get
    obtain ⟨r', rfl, hr'⟩ := hy.get
    walk_at "s"
    refine e_ixT (SqT.of hp) (atI_nat (j := 0) rfl) ?_
    walk_at "e"
    refine e_ixT (SqT.of hr') (atI_nat (j := 1) rfl) ?_
    walk_at "e"
    refine e_I (mul_ok ht hd) ?_
    walk_at "e"
    refine e_ixT (SqT.of hr') (atI_nat (j := 0) rfl) ?_
    walk_at "e"
    refine e_ixT (SqT.of hp) (atI_nat (j := 1) rfl) ?_
    walk_at "e"
    refine e_I (mul_ok hs hb) ?_
    walk_at "e"
    refine e_ixT (SqT.of hp) (atI_nat (j := 1) rfl) ?_
    walk_at "e"
    refine e_ixT (SqT.of hr') (atI_nat (j := 1) rfl) ?_
    walk_at "e"
    refine e_I (mul_ok hb hd) ?_
    walk_at "e"
    exact ⟨_, _, _, _, rfl, .int _, .int _, fun t' b' e1 e2 => ⟨V.int.inj e1 ▸ add_lg ht hd hs hb, V.int.inj e2 ▸ mul_lg hb hd⟩, q⟩
  · have z : arV plusZ r u = none := by
      rcases h with rfl | rfl
      · rfl
      · cases r <;> rfl
    rw [z] at q
    exact q
def minusZ (t b s d : Int) : Int × Int := (t * d - s * b, b * d)
theorem ok_minus (T : Txt K mg) (G_need_fractions : FnOk P w K mg base (L2.CX P w) 3 T.a_need_fractions T.d_need_fractions ["one", "other"] (sp_need K T.c_NoFraction)) (G_fraction : FnOk P w K mg base (L2.CX P w) 2 T.a_fraction T.d_fraction ["top", "bottom"] (sp_fraction K T.c_NoFraction)) :
    FnOk P w K mg base (L2.CX P w) 4 T.a_minus T.d_minus ["one", "other"] (sp_ar K T.c_NoFraction minusZ) := by
  refine T.F_minus.okX sc_minus (fun vs H Q E h => by obtain ⟨_, _, _, _, rfl, _⟩ := h; rfl) (fun cdv A outer s H vs Q E hr h => ?_)
  obtain ⟨x, y, r, u, rfl, hx, hy, hsr, hsu, q⟩ := h
  refine ⟨_, (pss_cons (ps_expr (pe_call G_need_fractions (hr.mono (by decide)) rfl T.m_need_fractions T.F_need_fractions.kp (bn_need_fractions T) .nil (passes_call (takes_of rfl rfl rfl rfl) (fun _ _ _ _ h => h)) (pa_cons (pv 0) (pa_cons (pv 1) pa_nil))))
    (pss_one (ps_ret (pe_call G_fraction (hr.mono (by decide)) rfl T.m_fraction T.F_fraction.kp (bn_fraction T) .nil (passes_call (takes_of rfl rfl rfl rfl) (fun _ _ _ _ h => h)) (pa_cons (pe_op op_sub (pe_op op_mulW (pe_ix ix_tup (pv 0) pe_int (fun _ _ => rfl)) (pe_ix ix_tup (pv 1) pe_int (fun _ _ => rfl))) (pe_op op_mulW (pe_ix ix_tup (pv 1) pe_int (fun _ _ => rfl)) (pe_ix ix_tup (pv 0) pe_int (fun _ _ => rfl)))) (pa_cons (pe_op op_mulW (pe_ix ix_tup (pv 0) pe_int (fun _ _ => rfl)) (pe_ix ix_tup (pv 1) pe_int (fun _ _ => rfl))) pa_nil)))))), ?_⟩
  refine x_seq (e_drop ?_)
  walk_at "e"
  refine ⟨x, y, r, u, rfl, hx, hy, fun h1 h2 => ?_, fun h => ?_⟩
  · cases r with
    | none => cases h1
    | some r =>
    cases u with
    | none => cases h2
    | some u =>
    obtain ⟨t, b⟩ := r
    obtain ⟨s', d⟩ := u
    obtain ⟨ht, hb⟩ := hsr t b rfl
    obtain ⟨hs, hd⟩ := hsu s' d rfl
    obtain ⟨p, rfl, hp⟩ := hx.get
    obtain ⟨r', rfl, hr'⟩ := hy.get
    walk_at "s"
    refine e_ixT (SqT.of hp) (atI_nat (j := 0) rfl) ?_
    walk_at "e"
    refine e_ixT (SqT.of hr') (atI_nat (j := 1) rfl) ?_
    walk_at "e"
    refine e_I (mul_ok ht hd) ?_
    walk_at "e"
    refine e_ixT (SqT.of hr') (atI_nat (j := 0) rfl) ?_
    walk_at "e"
    refine e_ixT (SqT.of hp) (atI_nat (j := 1) rfl) ?_
    walk_at "e"
    refine e_I (mul_ok hs hb) ?_
    walk_at "e"
    refine e_ixT (SqT.of hp) (atI_nat (j := 1) rfl) ?_
    walk_at "e"
    refine e_ixT (SqT.of hr') (atI_nat (j := 1) rfl) ?_
    walk_at "e"
    refine e_I (mul_ok hb hd) ?_
    walk_at "e"
    exact ⟨_, _, _, _, rfl, .int _, .int _, fun t' b' e1 e2 => ⟨V.int.inj e1 ▸ sub_lg ht hd hs hb, V.int.inj e2 ▸ mul_lg hb hd⟩, q⟩
  · have z : arV minusZ r u = none := by
      rcases h with rfl | rfl
      · rfl
      · cases r <;> rfl
    rw [z] at q
    exact q
def timesZ (t b s d : Int) : Int × Int := (t * s, b * d)
theorem ok_times (T : Txt K mg) (G_need_fractions : FnOk P w K mg base (L2.CX P w) 3 T.a_need_fractions T.d_need_fractions ["one", "other"] (sp_need K T.c_NoFraction)) (G_fraction : FnOk P w K mg base (L2.CX P w) 2 T.a_fraction T.d_fraction ["top", "bottom"] (sp_fraction K T.c_NoFraction)) :
    FnOk P w K mg base (L2.CX P w) 4 T.a_times T.d_times ["one", "other"] (sp_ar K T.c_NoFraction timesZ) := by
  refine T.F_times.okX sc_times (fun vs H Q E h => by obtain ⟨_, _, _, _, rfl, _⟩ := h; rfl) (fun cdv A outer s H vs Q E hr h => ?_)
  obtain ⟨x, y, r, u, rfl, hx, hy, hsr, hsu, q⟩ := h
  refine ⟨_, (pss_cons (ps_expr (pe_call G_need_fractions (hr.mono (by decide)) rfl T.m_need_fractions T.F_need_fractions.kp (bn_need_fractions T) .nil (passes_call (takes_of rfl rfl rfl rfl) (fun _ _ _ _ h => h)) (pa_cons (pv 0) (pa_cons (pv 1) pa_nil))))
    (pss_one (ps_ret (pe_call G_fraction (hr.mono (by decide)) rfl T.m_fraction T.F_fraction.kp (bn_fraction T) .nil (passes_call (takes_of rfl rfl rfl rfl) (fun _ _ _ _ h => h)) (pa_cons (pe_op op_mulW (pe_ix ix_tup (pv 0) pe_int (fun _ _ => rfl)) (pe_ix ix_tup (pv 1) pe_int (fun _ _ => rfl))) (pa_cons (pe_op op_mulW (pe_ix ix_tup (pv 0) pe_int (fun _ _ => rfl)) (pe_ix ix_tup (pv 1) pe_int (fun _ _ => rfl))) pa_nil)))))), ?_⟩
  refine x_seq (e_drop ?_)
  walk_at "e"
  refine ⟨x, y, r, u, rfl, hx, hy, fun h1 h2 => ?_, fun h => ?_⟩
  · cases r with
    | none => cases h1
    | some r =>
    cases u with
    | none => cases h2
    | some u =>
    obtain ⟨t, b⟩ := r
    obtain ⟨s', d⟩ := u
    obtain ⟨ht, hb⟩ := hsr t b rfl
    obtain ⟨hs, hd⟩ := hsu s' d rfl
    obtain ⟨p, rfl, hp⟩ := hx.get
    obtain ⟨r', rfl, hr'⟩ := hy.get
    walk_at "s"
    refine e_ixT (SqT.of hp) (atI_nat (j := 0) rfl) ?_
    walk_at "e"
    refine e_ixT (SqT.of hr') (atI_nat (j := 0) rfl) ?_
    walk_at "e"
    refine e_I (mul_ok ht hs) ?_
    walk_at "e"
    refine e_ixT (SqT.of hp) (atI_nat (j := 1) rfl) ?_
    walk_at "e"
    refine e_ixT (SqT.of hr') (atI_nat (j := 1) rfl) ?_
    walk_at "e"
    refine e_I (mul_ok hb hd) ?_
    walk_at "e"
    exact ⟨_, _, _, _, rfl, .int _, .int _, fun t' b' e1 e2 => ⟨V.int.inj e1 ▸ mul_lg ht hs, V.int.inj e2 ▸ mul_lg hb hd⟩, q⟩
  · have z : arV timesZ r u = none := by
      rcases h with rfl | rfl
      · rfl
      · cases r <;> rfl
    rw [z] at q
    exact q
def sharedZ (t b s d : Int) : Int × Int := (t * d, b * s)
theorem ok_shared (T : Txt K mg) (G_need_fractions : FnOk P w K mg base (L2.CX P w) 3 T.a_need_fractions T.d_need_fractions ["one", "other"] (sp_need K T.c_NoFraction)) (G_fraction : FnOk P w K mg base (L2.CX P w) 2 T.a_fraction T.d_fraction ["top", "bottom"] (sp_fraction K T.c_NoFraction)) :
    FnOk P w K mg base (L2.CX P w) 4 T.a_shared T.d_shared ["one", "other"] (sp_ar K T.c_NoFraction sharedZ) := by
  refine T.F_shared.okX sc_shared (fun vs H Q E h => by obtain ⟨_, _, _, _, rfl, _⟩ := h; rfl) (fun cdv A outer s H vs Q E hr h => ?_)
  obtain ⟨x, y, r, u, rfl, hx, hy, hsr, hsu, q⟩ := h
  refine ⟨_, (pss_cons (ps_expr (pe_call G_need_fractions (hr.mono (by decide)) rfl T.m_need_fractions T.F_need_fractions.kp (bn_need_fractions T) .nil (passes_call (takes_of rfl rfl rfl rfl) (fun _ _ _ _ h => h)) (pa_cons (pv 0) (pa_cons (pv 1) pa_nil))))
    (pss_one (ps_ret (pe_call G_fraction (hr.mono (by decide)) rfl T.m_fraction T.F_fraction.kp (bn_fraction T) .nil (passes_call (takes_of rfl rfl rfl rfl) (fun _ _ _ _ h => h)) (pa_cons (pe_op op_mulW (pe_ix ix_tup (pv 0) pe_int (fun _ _ => rfl)) (pe_ix ix_tup (pv 1) pe_int (fun _ _ => rfl))) (pa_cons (pe_op op_mulW (pe_ix ix_tup (pv 0) pe_int (fun _ _ => rfl)) (pe_ix ix_tup (pv 1) pe_int (fun _ _ => rfl))) pa_nil)))))), ?_⟩
  refine x_seq (e_drop ?_)
  walk_at "e"
  refine ⟨x, y, r, u, rfl, hx, hy, fun h1 h2 => ?_, fun h => ?_⟩
  · cases r with
    | none => cases h1
    | some r =>
    cases u with
    | none => cases h2
    | some u =>
    obtain ⟨t, b⟩ := r
    obtain ⟨s', d⟩ := u
    obtain ⟨ht, hb⟩ := hsr t b rfl
    obtain ⟨hs, hd⟩ := hsu s' d rfl
    obtain ⟨p, rfl, hp⟩ := hx.get
    obtain ⟨r', rfl, hr'⟩ := hy.get
    walk_at "s"
    refine e_ixT (SqT.of hp) (atI_nat (j := 0) rfl) ?_
    walk_at "e"
    refine e_ixT (SqT.of hr') (atI_nat (j := 1) rfl) ?_
    walk_at "e"
    refine e_I (mul_ok ht hd) ?_
    walk_at "e"
    refine e_ixT (SqT.of hp) (atI_nat (j := 1) rfl) ?_
    walk_at "e"
    refine e_ixT (SqT.of hr') (atI_nat (j := 0) rfl) ?_
    walk_at "e"
    refine e_I (mul_ok hb hs) ?_
    walk_at "e"
    exact ⟨_, _, _, _, rfl, .int _, .int _, fun t' b' e1 e2 => ⟨V.int.inj e1 ▸ mul_lg ht hd, V.int.inj e2 ▸ mul_lg hb hs⟩, q⟩
  · have z : arV sharedZ r u = none := by
      rcases h with rfl | rfl
      · rfl
      · cases r <;> rfl
    rw [z] at q
    exact q
end
end My

set_option Elab.async false
set_option linter.all false
set_option maxRecDepth 100000
set_option maxHeartbeats 4000000
set_option exponentiation.threshold 2000
namespace My
open PySem PySem.Spec PyProof.Rows L2
local macro_rules | `(tactic| walk_at "e1") => `(tactic| first
  | refine e_var rfl ?_
  | refine e_c ?_
  | refine e_op ?_
  | refine e_un ?_
  | refine e_cb ?_
  | refine e_cons ?_
  | refine e_nil ?_
  | refine e_tB ?_
  | refine e_test ?_
  | refine e_not ?_
  | refine e_and ?_
  | refine e_or ?_
  | refine e_andV ?_
  | refine e_orV ?_
  | refine e_notV ?_
  | refine e_I0 ?_
  | refine e_I (by (try dsimp only [CDiv, CDivN, CMul, CPow]); first | decide | omega) ?_
  | refine e_U ?_
  | refine e_eqI ?_
  | refine e_neI ?_
  | refine e_bl ?_
  | refine e_call ?_
  | refine e_sub ?_
  | refine e_lst ?_
  | refine e_tup ?_
  | refine e_nn ?_
  | rw [dec_nn]
  | rw [dec_in]
  | rw [dec_rn]
  | rw [dec_bn]
  | rw [dec_sn]
  | rw [Bool.not_true]
  | rw [Bool.not_false]
  | refine iteT ?_
  | refine iteF ?_)
local macro_rules | `(tactic| walk_at "e") => `(tactic| ((try dsimp only); repeat (walk_at "e1"; try dsimp only)))
local macro_rules | `(tactic| walk_at "s1") => `(tactic| first
  | refine x_seq ?_
  | refine x_next ?_
  | refine e_ret ?_
  | refine e_asg ?_
  | refine e_drop ?_
  | refine e_asgG ?_
  | walk_at "e1")
local macro_rules | `(tactic| walk_at "s") => `(tactic| ((try dsimp only); repeat (walk_at "s1"; try dsimp only)))
section
variable {P : Program} {w : World} {K : PySem.W.Frag} {mg : Str → Option Value} {base : Heap}
/-- what the law's own reckoning hands back -/
def RetN (r : Option (Int × Int)) (H : Hp) (Q : VK) : Prop := match r with
  | none => Q .non H
  | some (t, b) => ∀ H' p, Same H H' → H p = none → H' p = some (.tup [.int t, .int b]) → Q (.ref p) H'
def sp_l_lowest : Sp := fun vs H Q _ => ∃ t b : Int, vs = [.int t, .int b] ∧ Lg t ∧ Lg b ∧ RetN (lowZ t b) H Q
def slotN (σ : L2.St) (i : Nat) : Nat := match σ[i]? with
  | some (some (V.int n)) => n.toNat
  | _ => 0
theorem abs_nat (i : Int) : (if i < 0 then -i else i) = ((i.natAbs : Nat) : Int) := by split <;> omega
theorem ok_l_lowest (T : Txt K mg) : FnOk P w K mg base CX0 1 T.a_l_lowest T.d_l_lowest ["_law_top", "_law_bottom"] sp_l_lowest := by
  refine T.F_l_lowest.ok sc_l_lowest (fun vs H Q E h => by obtain ⟨_, _, rfl, _⟩ := h; rfl) (fun cdv A outer s H vs Q E hr h => ?_)
  obtain ⟨t, b, rfl, lt, lb, q⟩ := h
  refine ⟨_, (pss_cons (ps_if (pt_cmpR op_eq (pv 1) pe_int (nomark _)) (pss_one (ps_ret pe_non)) pss_nil)
    (pss_cons (ps_par (i := 2) (j := 3) rfl sc_l_lowest.nd rfl rfl (by decide) rfl rfl (pa_cons (pe_callB call_abs rfl T.n_abs (by decide +kernel) (pa_cons (pv 0) pa_nil)) (pa_cons (pe_callB call_abs rfl T.n_abs (by decide +kernel) (pa_cons (pv 1) pa_nil)) pa_nil)) rfl)
    (pss_cons (ps_while PassesOwn.never (pt_cmpR op_gt (pv 3) pe_int (nomark _)) (pss_one (ps_par (i := 2) (j := 3) rfl sc_l_lowest.nd rfl rfl (by decide) rfl rfl (pa_cons (pv 3) (pa_cons (pe_op op_mod (pv 2) (pv 3)) pa_nil)) rfl)))
    (pss_cons (ps_set (i := 4) sc_l_lowest.nd rfl (Or.inl rfl) (pe_ix ix_list (pe_lst (pa_cons pe_int (pa_cons (pe_un un_neg pe_int) pa_nil))) (pe_callTy call_int1 rfl T.n_int (by decide +kernel) (pa_cons (pe_cmpR op_lt (pv 1) pe_int (nomark _)) pa_nil)) (fun _ _ => rfl)))
    (pss_one (ps_ret (pe_tup (pa_cons (pe_op op_fdivW (pe_op op_mul (pv 4) (pv 0)) (pv 2)) (pa_cons (pe_op op_fdivW (pe_op op_mul (pv 4) (pv 1)) (pv 2)) pa_nil))))))))), ?_⟩
  refine x_seq (x_if (fun c H' => H' = H ∧ c = decide (b = 0)) (fun Q k => ?_) ?_ ?_)
  · walk_at "e"
    exact k _ _ ⟨rfl, rfl⟩
  · rintro H' ⟨rfl, e⟩
    have e0 : b = 0 := of_decide_eq_true e.symm
    have z : lowZ t b = none := by
      unfold lowZ
      rw [if_pos e0]
    rw [z] at q
    exact e_ret (e_c q)
  · rintro H' ⟨rfl, e⟩
    have e0 : b ≠ 0 := of_decide_eq_false e.symm
    have z : lowZ t b = some (sg b * t / (gz t b : Int), sg b * b / (gz t b : Int)) := by
      unfold lowZ
      rw [if_neg e0]
    rw [z] at q
    dsimp only
    refine x_next ?_
    dsimp only
    refine x_seq ?_
    show tPar 2 3 _ _ _ _
    refine e_cons ?_
    walk_at "e"
    refine ⟨_, rfl, ?_⟩
    walk_at "e"
    refine ⟨_, rfl, ?_⟩
    walk_at "e"
    refine ⟨_, _, rfl, ?_⟩
    rw [abs_nat, abs_nat]
    refine x_seq (x_while (fun σ H => H = H' ∧ ∃ m n : Nat, σ = [some (.int t), some (.int b), some (.int m), some (.int n), none] ∧ Nat.gcd m n = gz t b) (fun σ _ => slotN σ 3) ⟨rfl, _, _, rfl, rfl⟩ ?_)
    rintro σ H2 ⟨rfl, m, n, rfl, hg⟩
    refine ⟨decide ((0 : Int) < n), fun Q k => ?_, fun h => ?_, fun h => ?_⟩
    · walk_at "e"
      exact k
    · have n0 : (0 : Int) < n := of_decide_eq_true h
      show tPar 2 3 _ _ _ _
      refine e_cons ?_
      walk_at "e"
      refine ⟨_, _, rfl, ?_⟩
      have e1 : ((m : Int) % (n : Int)) = ((m % n : Nat) : Int) := (Int.natCast_emod m n).symm
      rw [e1]
      refine ⟨⟨rfl, n, m % n, rfl, ?_⟩, ?_⟩
      · rw [← hg, Nat.gcd_comm n (m % n), ← Nat.gcd_rec, Nat.gcd_comm]
      · show ((m % n : Nat) : Int).toNat < ((n : Nat) : Int).toNat
        rw [Int.toNat_natCast, Int.toNat_natCast]
        exact Nat.mod_lt _ (by omega)
    · have n0 : n = 0 := by
        have := of_decide_eq_false h
        omega
      rw [n0, Nat.gcd_zero_right] at hg
      rw [hg]
      have g0 : (0 : Int) < (gz t b : Int) := by have := gz_pos (t := t) e0; omega
      have cd : ∀ i, CDivW i (gz t b : Int) := fun i => ⟨g0, (gz_lg e0 lb).log2⟩
      dsimp only
      refine x_seq (x_asg (fun v H3 => Same H2 H3 ∧ v = .int (sg b)) (fun Q k => ?_) ?_)
      · walk_at "e"
        refine ⟨by show 2 ≤ sizeLine; decide, fun p hp => ?_⟩
        walk_at "e"
        refine Or.inr ⟨_, rfl, ?_⟩
        refine e_ixL (v := .int (sg b)) (SqL.of upd_same) ?_ (k _ _ ⟨same_new hp _, rfl⟩)
        unfold sg
        by_cases c : b < 0
        · rw [if_pos c, decide_eq_true c]
          rfl
        · rw [if_neg c, decide_eq_false c]
          rfl
      · rintro v H3 ⟨hS, rfl⟩
        have s1 : sg b = 1 ∨ sg b = -1 := by unfold sg; split <;> simp
        walk_at "s"
        refine e_I (C := CDivW) (cd _) ?_
        walk_at "e"
        refine e_I (C := CDivW) (cd _) ?_
        walk_at "e"
        refine ⟨by show 2 ≤ sizeLine; decide, fun p hp => q _ p (hS.trans (same_new hp _)) (hS.free hp) upd_same⟩
end
end My

set_option Elab.async false
set_option linter.all false
set_option maxRecDepth 100000
set_option maxHeartbeats 4000000
set_option exponentiation.threshold 2000
namespace My
open PySem PySem.Spec PyProof.Rows L2
local macro_rules | `(tactic| walk_at "e1") => `(tactic| first
  | refine e_var rfl ?_
  | refine e_c ?_
  | refine e_op ?_
  | refine e_un ?_
  | refine e_cb ?_
  | refine e_cons ?_
  | refine e_nil ?_
  | refine e_tB ?_
  | refine e_test ?_
  | refine e_not ?_
  | refine e_and ?_
  | refine e_or ?_
  | refine e_andV ?_
  | refine e_orV ?_
  | refine e_notV ?_
  | refine e_I0 ?_
  | refine e_I (by (try dsimp only [CDiv, CDivN, CMul, CPow]); first | decide | omega) ?_
  | refine e_U ?_
  | refine e_eqI ?_
  | refine e_neI ?_
  | refine e_bl ?_
  | refine e_call ?_
  | refine e_sub ?_
  | refine e_lst ?_
  | refine e_tup ?_
  | refine e_nn ?_
  | rw [dec_nn]
  | rw [dec_in]
  | rw [dec_rn]
  | rw [dec_bn]
  | rw [dec_sn]
  | rw [Bool.not_true]
  | rw [Bool.not_false]
  | refine iteT ?_
  | refine iteF ?_)
local macro_rules | `(tactic| walk_at "e") => `(tactic| ((try dsimp only); repeat (walk_at "e1"; try dsimp only)))
local macro_rules | `(tactic| walk_at "s1") => `(tactic| first
  | refine x_seq ?_
  | refine x_next ?_
  | refine e_ret ?_
  | refine e_asg ?_
  | refine e_drop ?_
  | refine e_asgG ?_
  | walk_at "e1")
local macro_rules | `(tactic| walk_at "s") => `(tactic| ((try dsimp only); repeat (walk_at "s1"; try dsimp only)))
section
variable {P : Program} {w : World} {K : PySem.W.Frag} {mg : Str → Option Value} {base : Heap}
/-- a value that is no number -/
inductive Odd (n : Int) (H : Hp) : V → Prop
  | bl (b : Bool) : Odd n H (.bl b)
  | non : Odd n H .non
  | str : Odd n H (.str "1")
  | lst {p : Addr} : H p = some (.lst [.int n]) → Odd n H (.ref p)
  | tup {p : Addr} : H p = some (.tup [.int n]) → Odd n H (.ref p)
  | dict {p : Addr} : H p = some (.dK []) → Odd n H (.ref p)
theorem Odd.th {n : Int} {H : Hp} {v : V} (h : Odd n H v) : ∃ m, Th K H v m := by
  cases h with
  | bl b => exact ⟨_, .bl b⟩
  | non => exact ⟨_, .non⟩
  | str => exact ⟨_, .str _⟩
  | lst h => exact ⟨_, .ref (.base (.lst h)) (.inl rfl)⟩
  | tup h => exact ⟨_, .ref (.base (.tup h)) (.inr (.inl rfl))⟩
  | dict h => exact ⟨_, .ref (.base (.dK h)) (.inr (.inr rfl))⟩
theorem Odd.same {n : Int} {H H' : Hp} {v : V} (s : Same H H') (h : Odd n H v) : Odd n H' v := by
  cases h with
  | bl b => exact .bl b
  | non => exact .non
  | str => exact .str
  | lst h => exact .lst (s _ _ h)
  | tup h => exact .tup (s _ _ h)
  | dict h => exact .dict (s _ _ h)
theorem Odd.wh {n : Int} {H : Hp} {v lo hi : V} (h : Odd n H v) : whV v lo hi = false := by cases h <;> rfl
/-- thing == number: what it comes to; a truth may be alike -/
theorem e_eqOdd {n : Int} {H : Hp} {v : V} {Q : VK} (h : Odd n H v) (q0 : Q (.bl false) H) (q1 : (∃ b, v = .bl b) → Q (.bl true) H) : rEqG K v (.int n) H Q := by
  cases h with
  | bl b =>
    refine .inl ⟨_, _, .bl b, .int n, rfl, rfl, ?_⟩
    cases e : PyData.eqv (.bool b) (.int n) with
    | true => exact q1 ⟨b, rfl⟩
    | false => exact q0
  | non => exact .inl ⟨_, _, .non, .int n, rfl, rfl, q0⟩
  | str => exact .inl ⟨_, _, .str _, .int n, by decide +kernel, rfl, q0⟩
  | lst h => exact .inl ⟨_, _, .lst (SqL.of h) (.cons (.int n) .nil), .int n, rfl, rfl, q0⟩
  | tup h => exact .inl ⟨_, _, .tup (SqT.of h) (.cons (.int n) .nil), .int n, rfl, rfl, q0⟩
  | dict h => exact .inr ⟨_, _, _, rfl, rfl, h, q0⟩
theorem e_eqNum {n : Int} {H : Hp} {Q : VK} (q : Q (.bl true) H) : rEqG K (.int n) (.int n) H Q :=
  .inl ⟨_, _, .int n, .int n, rfl, rfl, by
    have e : PyData.eqv (.int n) (.int n) = true := SeqAt.eqv_refl _ rfl
    rw [e]
    exact q⟩
def sp_bounds : Sp := fun vs H Q _ => ∃ a n, vs = [.ref a, .int n] ∧ Wl H a ∧ ∀ H', Wl H' a → Off a H H' → Q (.bl true) H'
def pairsOf (n : Int) : List (V × V) := [(.non, .non), (.int n, .non), (.int (n + 1), .non), (.non, .int n), (.non, .int (n - 1))]
/-- what is due of a number -/
theorem due_num {n : Int} {lo hi : V} (h : (lo, hi) ∈ pairsOf n) : whV (.int n) lo hi = (!decide (lo = .int (n + 1)) && !decide (hi = .int (n - 1))) ∧ Bnd lo ∧ Bnd hi := by
  unfold pairsOf at h
  simp only [List.mem_cons, List.not_mem_nil, or_false, Prod.mk.injEq] at h
  have i1 : ∀ i j : Int, decide (V.int i = V.int j) = decide (i = j) := fun i j => decide_eq_decide.mpr ⟨fun q => V.int.inj q, fun q => congrArg _ q⟩
  have i2 : ∀ j : Int, decide (V.non = V.int j) = false := fun j => rfl
  rcases h with ⟨rfl, rfl⟩ | ⟨rfl, rfl⟩ | ⟨rfl, rfl⟩ | ⟨rfl, rfl⟩ | ⟨rfl, rfl⟩
  · exact ⟨rfl, .inl rfl, .inl rfl⟩
  · refine ⟨?_, .inr ⟨_, rfl⟩, .inl rfl⟩
    rw [i1, i2]
    show (decide (n ≤ n) && true) = _
    rw [decide_eq_true (Int.le_refl n), decide_eq_false (by omega)]
    rfl
  · refine ⟨?_, .inr ⟨_, rfl⟩, .inl rfl⟩
    rw [i1, i2]
    show (decide (n + 1 ≤ n) && true) = _
    rw [decide_eq_false (by omega), decide_eq_true rfl]
    rfl
  · refine ⟨?_, .inl rfl, .inr ⟨_, rfl⟩⟩
    rw [i1, i2]
    show (true && decide (n ≤ n)) = _
    rw [decide_eq_true (Int.le_refl n), decide_eq_false (by omega)]
    rfl
  · refine ⟨?_, .inl rfl, .inr ⟨_, rfl⟩⟩
    rw [i1, i2]
    show (true && decide (n ≤ n - 1)) = _
    rw [decide_eq_false (by omega), decide_eq_true rfl]
    rfl
/-- the thing is the number, or none -/
def Tv (n : Int) (H : Hp) (v : V) : Prop := v = .int n ∨ Odd n H v
theorem Tv.same {n : Int} {H H' : Hp} {v : V} (s : Same H H') (h : Tv n H v) : Tv n H' v := h.elim .inl fun h => .inr (h.same s)
theorem Tv.th {n : Int} {H : Hp} {v : V} (h : Tv n H v) : ∃ m, Th K H v m := by
  rcases h with rfl | h
  · exact ⟨_, .int n⟩
  · exact h.th
theorem ok_l_bounds (T : Txt K mg) (G_is_whole : FnOk P w K mg base CX0 1 T.a_is_whole T.d_is_whole ["thing", "low", "high"] (sp_is_whole K)) (G_l_one : FnOk P w K mg base CX0 2 T.a_l_one T.d_l_one ["_law_well_here", "_law_some"] sp_l_one) : FnOk P w K mg base CX0 3 T.a_l_bounds_right T.d_l_bounds_right ["_law_well_here", "_law_number"] sp_bounds := by
  refine T.F_l_bounds_right.ok sc_l_bounds_right (fun vs H Q E h => by obtain ⟨_, _, rfl, _⟩ := h; rfl) (fun cdv A outer s H vs Q E hr h => ?_)
  obtain ⟨a, n, rfl, hW, q⟩ := h
  refine ⟨_, (pss_cons (ps_for PassesOwn.never rfl (pi_list (pe_lst (pa_cons (pv 1) (pa_cons (pe_call G_l_one (hr.mono (by decide)) rfl T.m_l_one T.F_l_one.kp (bn_l_one T) .nil pass0 (pa_cons (pv 0) (pa_cons (pe_lst (pa_cons pe_bl (pa_cons pe_bl (pa_cons pe_non (pa_cons pe_str (pa_cons (pe_lst (pa_cons (pv 1) pa_nil)) (pa_cons (pe_tup (pa_cons (pv 1) pa_nil)) (pa_cons pe_dnewK pa_nil)))))))) pa_nil))) pa_nil)))) (pg_name (i := 2) sc_l_bounds_right.nd rfl (Or.inl rfl))
    (pss_one (ps_for PassesOwn.never rfl (pi_list (pe_lst (pa_cons (pe_tup (pa_cons pe_non (pa_cons pe_non pa_nil))) (pa_cons (pe_tup (pa_cons (pv 1) (pa_cons pe_non pa_nil))) (pa_cons (pe_tup (pa_cons (pe_op op_add (pv 1) pe_int) (pa_cons pe_non pa_nil))) (pa_cons (pe_tup (pa_cons pe_non (pa_cons (pv 1) pa_nil))) (pa_cons (pe_tup (pa_cons pe_non (pa_cons (pe_op op_sub (pv 1) pe_int) pa_nil))) pa_nil))))))) (pg_tup rfl (pgs_cons (pg_name (i := 3) sc_l_bounds_right.nd rfl (Or.inl rfl)) (pgs_cons (pg_name (i := 4) sc_l_bounds_right.nd rfl (Or.inl rfl)) pgs_nil)))
    (pss_cons (ps_set (i := 5) sc_l_bounds_right.nd rfl (Or.inl rfl) (pe_and (pe_cmpR (op_eqG hr.units) (pv 2) (pv 1) (nomark _)) (pe_and (pe_not (pe_callB call_isi rfl T.n_isinstance (by decide +kernel) (pa_cons (pv 2) (pa_cons (pe_bltn (by rfl) T.n_bool (v := .ty "bool") (by decide +kernel) rfl) pa_nil)))) (pe_and (pe_cmpR op_ne (pv 3) (pe_op op_add (pv 1) pe_int) (nomark _)) (pe_one (pe_cmpR op_ne (pv 4) (pe_op op_sub (pv 1) pe_int) (nomark _)))))))
    (pss_cons (ps_if (pt_val (pe_callB call_isi rfl T.n_isinstance (by decide +kernel) (pa_cons (pv 2) (pa_cons (pe_bltn (by rfl) T.n_bool (v := .ty "bool") (by decide +kernel) rfl) pa_nil)))) (pss_one (ps_set (i := 5) sc_l_bounds_right.nd rfl (Or.inl rfl) pe_bl)) pss_nil)
    (pss_one (ps_if (pt_cmpR op_ne (pe_call G_is_whole (hr.mono (by decide)) rfl T.m_is_whole T.F_is_whole.kp (bn_is_whole T) .nil pass0 (pa_cons (pv 2) (pa_cons (pv 3) (pa_cons (pv 4) pa_nil)))) (pv 5) (nomark _)) (pss_one (ps_ret pe_bl)) pss_nil)))))))
    (pss_one (ps_ret (pe_cmpR op_is_bl (pe_call G_is_whole (hr.mono (by decide)) rfl T.m_is_whole T.F_is_whole.kp (bn_is_whole T) .nil pass0 (pa_cons (pv 1) (pa_cons (pe_op op_add (pv 1) pe_int) (pa_cons (pe_op op_sub (pv 1) pe_int) pa_nil)))) pe_bl (nomark _))))), ?_⟩
  refine x_seq ?_
  dsimp only
  -- the two things
  refine x_forL (fun p xs H1 => ∃ x, xs = [.int n, x] ∧ Odd n H1 x ∧ Wl H1 a ∧ Off a H H1 ∧ H1 p = some (.lst xs)) (fun Q k => ?_) ?_
  · walk_at "e"
    refine ⟨by show 1 ≤ sizeLine; decide, fun p1 hp1 => ?_⟩
    walk_at "e"
    refine ⟨by show 1 ≤ sizeLine; decide, fun p2 hp2 => ?_⟩
    walk_at "e"
    intro p3 hp3
    walk_at "e"
    refine ⟨by show 7 ≤ sizeLine; decide, fun p4 hp4 => ?_⟩
    walk_at "e"
    have s1 := same_new hp1 (.lst [.int n])
    have e1 : upd H p1 (.lst [.int n]) p1 = some (.lst [.int n]) := upd_same
    generalize upd H p1 (.lst [.int n]) = H1 at *
    have s2 := same_new hp2 (.tup [.int n])
    have e2 : upd H1 p2 (.tup [.int n]) p2 = some (.tup [.int n]) := upd_same
    generalize upd H1 p2 (.tup [.int n]) = H2 at *
    have s3 := same_new hp3 (.dK [])
    have e3 : upd H2 p3 (.dK []) p3 = some (.dK []) := upd_same
    generalize upd H2 p3 (.dK []) = H3 at *
    have s4 := same_new hp4 (.lst [.bl true, .bl false, .non, .str (Str.ofString "1"), .ref p1, .ref p2, .ref p3])
    have e4 : upd H3 p4 (.lst [.bl true, .bl false, .non, .str (Str.ofString "1"), .ref p1, .ref p2, .ref p3]) p4 = some (.lst [.bl true, .bl false, .non, .str (Str.ofString "1"), .ref p1, .ref p2, .ref p3]) := upd_same
    have n4 : p4 ≠ a := (hW.same (s1.trans (s2.trans s3))).ne hp4
    generalize upd H3 p4 (.lst [.bl true, .bl false, .non, .str (Str.ofString "1"), .ref p1, .ref p2, .ref p3]) = H4 at *
    have hW4 := hW.same (s1.trans (s2.trans (s3.trans s4)))
    refine ⟨a, p4, _, rfl, hW4, n4, e4, by show 0 < 7; decide, by show 7 < 1000; decide, fun v H5 hv hW5 hO5 => ?_⟩
    have n1 : p1 ≠ a := hW.ne hp1
    have n2 : p2 ≠ a := (hW.same s1).ne hp2
    have n3 : p3 ≠ a := (hW.same (s1.trans s2)).ne hp3
    have o1 : H5 p1 = some (.lst [.int n]) := hO5 _ _ n1 (s4 _ _ (s3 _ _ (s2 _ _ e1)))
    have o2 : H5 p2 = some (.tup [.int n]) := hO5 _ _ n2 (s4 _ _ (s3 _ _ e2))
    have o3 : H5 p3 = some (.dK []) := hO5 _ _ n3 (s4 _ _ e3)
    have od : Odd n H5 v := by
      simp only [List.mem_cons, List.not_mem_nil, or_false] at hv
      rcases hv with rfl | rfl | rfl | rfl | rfl | rfl | rfl
      · exact .bl _
      · exact .bl _
      · exact .non
      · exact .str
      · exact .lst o1
      · exact .tup o2
      · exact .dict o3
    walk_at "e"
    refine ⟨by show 2 ≤ sizeLine; decide, fun p5 hp5 => ?_⟩
    have s5 := same_new hp5 (.lst [.int n, v])
    exact k p5 _ _ (SqL.of upd_same) ⟨v, rfl, od.same s5, hW5.same s5, ((Off.same (s1.trans (s2.trans (s3.trans s4)))).trans hO5).trans (.same s5), upd_same⟩
  · rintro p xs H1 hS ⟨x, rfl, hod, hW1, hO1, hp⟩
    refine ⟨fun _ σ H2 => Same H1 H2 ∧ ∃ s2 s3 s4 s5, σ = [some (.ref a), some (.int n), s2, s3, s4, s5], ⟨Same.refl _, _, _, _, _, rfl⟩, fun i σ H2 _ h => h.1.seq hS, ?_, ?_⟩
    · rintro i v σ H2 hv ⟨hs2, s2, s3, s4, s5, rfl⟩
      have tv : Tv n H2 v := by
        match i, hv with
        | 0, e => exact .inl (Option.some.inj e).symm
        | 1, e => exact .inr ((Option.some.inj e) ▸ hod.same hs2)
      show tFor _ _ _ _ _ _
      refine x_forL (fun p xs H3 => Same H2 H3 ∧ ∀ y ∈ xs, ∃ q lo hi, y = .ref q ∧ H3 q = some (.tup [lo, hi]) ∧ (lo, hi) ∈ pairsOf n) (fun Q k => ?_) ?_
      · walk_at "e"
        refine ⟨by show 2 ≤ sizeLine; decide, fun p1 hp1 => ?_⟩
        walk_at "e"
        refine ⟨by show 2 ≤ sizeLine; decide, fun p2 hp2 => ?_⟩
        walk_at "e"
        refine ⟨by show 2 ≤ sizeLine; decide, fun p3 hp3 => ?_⟩
        walk_at "e"
        refine ⟨by show 2 ≤ sizeLine; decide, fun p4 hp4 => ?_⟩
        walk_at "e"
        refine ⟨by show 2 ≤ sizeLine; decide, fun p5 hp5 => ?_⟩
        walk_at "e"
        refine ⟨by show 5 ≤ sizeLine; decide, fun p6 hp6 => ?_⟩
        refine k p6 _ _ (SqL.of upd_same) ⟨?_, ?_⟩
        · exact (same_new hp1 _).trans ((same_new hp2 _).trans ((same_new hp3 _).trans ((same_new hp4 _).trans ((same_new hp5 _).trans (same_new hp6 _)))))
        · have k5 := same_new hp6 (.lst [.ref p1, .ref p2, .ref p3, .ref p4, .ref p5])
          have k4 := (same_new hp5 (.tup [.non, .int (n - 1)])).trans k5
          have k3 := (same_new hp4 (.tup [.non, .int n])).trans k4
          have k2 := (same_new hp3 (.tup [.int (n + 1), .non])).trans k3
          have k1 := (same_new hp2 (.tup [.int n, .non])).trans k2
          intro y hy
          simp only [List.mem_cons, List.not_mem_nil, or_false] at hy
          rcases hy with rfl | rfl | rfl | rfl | rfl
          · exact ⟨_, _, _, rfl, k1 _ _ upd_same, by simp [pairsOf]⟩
          · exact ⟨_, _, _, rfl, k2 _ _ upd_same, by simp [pairsOf]⟩
          · exact ⟨_, _, _, rfl, k3 _ _ upd_same, by simp [pairsOf]⟩
          · exact ⟨_, _, _, rfl, k4 _ _ upd_same, by simp [pairsOf]⟩
          · exact ⟨_, _, _, rfl, k5 _ _ upd_same, by simp [pairsOf]⟩
      · rintro p' ys H3 hS3 ⟨hs3, hys⟩
        refine ⟨fun _ σ H4 => Same H3 H4 ∧ ∃ s3 s4 s5, σ = [some (.ref a), some (.int n), some v, s3, s4, s5], ⟨Same.refl _, _, _, _, rfl⟩, fun i σ H2 _ h => h.1.seq hS3, ?_, ?_⟩
        · rintro j y σ H4 hy ⟨hs4, s3, s4, s5, rfl⟩
          obtain ⟨q', lo, hi, rfl, hq, hm⟩ := hys y (List.mem_of_getElem? hy)
          have tv4 := tv.same (hs3.trans hs4)
          obtain ⟨m, hT⟩ := tv4.th (K := K)
          obtain ⟨dn, bl, bh⟩ := due_num hm
          refine ⟨q', [lo, hi], rfl, SqT.of (hs4 _ _ hq), rfl, lo, [hi], rfl, hi, [], rfl, rfl, ?_⟩
          dsimp only
          refine x_seq (x_asg (fun u H5 => H5 = H4 ∧ u = .bl (whV v lo hi)) (fun Q k => ?_) ?_)
          · walk_at "e"
            rcases tv4 with rfl | od
            · refine e_eqNum ?_
              walk_at "e"
              refine e_isi (.int n) (by decide) ?_
              have e : kb "int" "bool" = false := rfl
              rw [e]
              walk_at "e"
              have sc : ∀ (z : V) (j : Int), Bnd z → scal z (.int j) = true := fun z j h => by rcases h with rfl | ⟨i, rfl⟩ <;> rfl
              refine e_ne (sc _ _ bl) ?_
              walk_at "e"
              rw [dn] at k
              cases e1 : decide (lo = V.int (n + 1)) with
              | true =>
                rw [e1] at k
                walk_at "e"
                exact k _ _ ⟨rfl, rfl⟩
              | false =>
                rw [e1] at k
                walk_at "e"
                refine e_ne (sc _ _ bh) ?_
                exact k _ _ ⟨rfl, rfl⟩
            · have z := od.wh (lo := lo) (hi := hi)
              rw [z] at k
              refine e_eqOdd od ?_ ?_
              · walk_at "e"
                exact k _ _ ⟨rfl, rfl⟩
              · rintro ⟨b, rfl⟩
                walk_at "e"
                refine e_isi (.bl b) (by decide) ?_
                have e : kb "bool" "bool" = true := rfl
                rw [e]
                walk_at "e"
                exact k _ _ ⟨rfl, rfl⟩
          · rintro u H5 ⟨rfl, rfl⟩
            dsimp only
            have fin : tIfS (tTest (tOp rNe (tCall (sp_is_whole K) [] E0 (tCons (tVar 2) (tCons (tVar 3) (tCons (tVar 4) tNil)))) (tVar 5))) (tRet (tC (V.bl false))) tNext
                { nx := fun σ H4 => Same H3 H4 ∧ ∃ s3 s4 s5, σ = [some (.ref a), some (.int n), some v, s3, s4, s5], rt := Q,
                  ct := fun σ H4 => Same H3 H4 ∧ ∃ s3 s4 s5, σ = [some (.ref a), some (.int n), some v, s3, s4, s5],
                  bk := fun σ H2 => Same H1 H2 ∧ ∃ s2 s3 s4 s5, σ = [some (.ref a), some (.int n), s2, s3, s4, s5] }
                [some (.ref a), some (.int n), some v, some lo, some hi, some (.bl (whV v lo hi))] H5 := by
              refine x_if (fun b H' => H' = H5 ∧ b = false) (fun Q k => ?_) ?_ ?_
              · walk_at "e"
                refine ⟨v, lo, hi, m, rfl, hT, bl, bh, ?_⟩
                walk_at "e"
                refine e_ne rfl ?_
                walk_at "e"
                rw [decide_eq_true rfl]
                exact k _ _ ⟨rfl, rfl⟩
              · rintro H' ⟨_, e⟩
                cases e
              · rintro H' ⟨rfl, _⟩
                exact ⟨hs4, _, _, _, rfl⟩
            refine x_seq (x_if (fun b H' => H' = H5 ∧ b = kb m "bool") (fun Q k => ?_) ?_ ?_)
            · walk_at "e"
              refine e_isi hT (by decide) ?_
              walk_at "e"
              exact k _ _ ⟨rfl, rfl⟩
            · rintro H' ⟨rfl, e⟩
              have z : whV v lo hi = false := by
                rcases tv4 with rfl | od
                · cases hT
                  exact absurd e (by decide)
                · exact od.wh
              rw [z] at fin
              exact e_asg (e_c fin)
            · rintro H' ⟨rfl, e⟩
              exact fin
        · rintro σ H4 ⟨hs4, s3, s4, s5, rfl⟩
          exact ⟨hs2.trans (hs3.trans hs4), _, _, _, _, rfl⟩
    · rintro σ H2 ⟨hs2, s2, s3, s4, s5, rfl⟩
      walk_at "s"
      refine ⟨_, _, _, _, rfl, .int n, .inr ⟨_, rfl⟩, .inr ⟨_, rfl⟩, ?_⟩
      walk_at "e"
      refine ⟨_, _, rfl, rfl, ?_⟩
      have z : whV (V.int n) (V.int (n + 1)) (V.int (n - 1)) = false := by
        show (decide (n + 1 ≤ n) && decide (n ≤ n - 1)) = false
        rw [decide_eq_false (by omega)]
        rfl
      rw [z]
      exact q _ (hW1.same hs2) (hO1.trans (.same hs2))
end
end My

set_option Elab.async false
set_option linter.all false
set_option maxRecDepth 100000
set_option maxHeartbeats 4000000
set_option exponentiation.threshold 2000
namespace My
open PySem PySem.Spec PyProof.Rows L2
local macro_rules | `(tactic| walk_at "e1") => `(tactic| first
  | refine e_var rfl ?_
  | refine e_c ?_
  | refine e_op ?_
  | refine e_un ?_
  | refine e_cb ?_
  | refine e_cons ?_
  | refine e_nil ?_
  | refine e_tB ?_
  | refine e_test ?_
  | refine e_not ?_
  | refine e_and ?_
  | refine e_or ?_
  | refine e_andV ?_
  | refine e_orV ?_
  | refine e_notV ?_
  | refine e_I0 ?_
  | refine e_I (by (try dsimp only [CDiv, CDivN, CMul, CPow]); first | decide | omega) ?_
  | refine e_U ?_
  | refine e_eqI ?_
  | refine e_neI ?_
  | refine e_bl ?_
  | refine e_call ?_
  | refine e_sub ?_
  | refine e_lst ?_
  | refine e_tup ?_
  | refine e_nn ?_
  | rw [dec_nn]
  | rw [dec_in]
  | rw [dec_rn]
  | rw [dec_bn]
  | rw [dec_sn]
  | rw [Bool.not_true]
  | rw [Bool.not_false]
  | refine iteT ?_
  | refine iteF ?_)
local macro_rules | `(tactic| walk_at "e") => `(tactic| ((try dsimp only); repeat (walk_at "e1"; try dsimp only)))
local macro_rules | `(tactic| walk_at "s1") => `(tactic| first
  | refine x_seq ?_
  | refine x_next ?_
  | refine e_ret ?_
  | refine e_asg ?_
  | refine e_drop ?_
  | refine e_asgG ?_
  | walk_at "e1")
local macro_rules | `(tactic| walk_at "s") => `(tactic| ((try dsimp only); repeat (walk_at "s1"; try dsimp only)))
section
variable {P : Program} {w : World} {K : PySem.W.Frag} {mg : Str → Option Value} {base : Heap}
def Deeds (T : Txt K mg) (f : Addr) (sp : Sp) : Prop := (f = T.a_fraction ∧ sp = sp_fraction K T.c_NoFraction) ∨ (f = T.a_plus ∧ sp = sp_ar K T.c_NoFraction plusZ) ∨ (f = T.a_minus ∧ sp = sp_ar K T.c_NoFraction minusZ) ∨
  (f = T.a_times ∧ sp = sp_ar K T.c_NoFraction timesZ) ∨ (f = T.a_shared ∧ sp = sp_ar K T.c_NoFraction sharedZ)
theorem held (T : Txt K mg) (G_fraction : FnOk P w K mg base (L2.CX P w) 2 T.a_fraction T.d_fraction ["top", "bottom"] (sp_fraction K T.c_NoFraction)) (G_plus : FnOk P w K mg base (L2.CX P w) 4 T.a_plus T.d_plus ["one", "other"] (sp_ar K T.c_NoFraction plusZ))
    (G_minus : FnOk P w K mg base (L2.CX P w) 4 T.a_minus T.d_minus ["one", "other"] (sp_ar K T.c_NoFraction minusZ)) (G_times : FnOk P w K mg base (L2.CX P w) 4 T.a_times T.d_times ["one", "other"] (sp_ar K T.c_NoFraction timesZ))
    (G_shared : FnOk P w K mg base (L2.CX P w) 4 T.a_shared T.d_shared ["one", "other"] (sp_ar K T.c_NoFraction sharedZ)) : ∀ f sp, Deeds T f sp → HeldX P w K mg base 4 f sp := by
  rintro f sp (⟨rfl, rfl⟩ | ⟨rfl, rfl⟩ | ⟨rfl, rfl⟩ | ⟨rfl, rfl⟩ | ⟨rfl, rfl⟩)
  · obtain ⟨_, _, _, _, _, _, _, _, _, _, e, _⟩ := T.F_fraction.ex
    exact ⟨⟨_, _, G_fraction.mono (by decide), T.F_fraction.kp, bn_fraction T⟩⟩
  · exact ⟨⟨_, _, G_plus, T.F_plus.kp, bn_plus T⟩⟩
  · exact ⟨⟨_, _, G_minus, T.F_minus.kp, bn_minus T⟩⟩
  · exact ⟨⟨_, _, G_times, T.F_times.kp, bn_times T⟩⟩
  · exact ⟨⟨_, _, G_shared, T.F_shared.kp, bn_shared T⟩⟩
def sp_l_told (T : Txt K mg) : Sp := fun vs H Q _ => ∃ f x y sp r, vs = [.ref f, x, y] ∧ Deeds T f sp ∧ (∀ Q E, RetF T.c_NoFraction r H Q E → sp [x, y] H Q E) ∧ RetN r H Q
theorem ok_l_told (T : Txt K mg) (hd : ∀ f sp, Deeds T f sp → HeldX P w K mg base 4 f sp) : FnOk P w K mg base CX0 5 T.a_l_told T.d_l_told ["_law_deed", "_law_one_here", "_law_other"] (sp_l_told T) := by
  refine T.F_l_told.ok sc_l_told (fun vs H Q E h => by obtain ⟨_, _, _, _, _, rfl, _⟩ := h; rfl) (fun cdv A outer s H vs Q E hr h => ?_)
  obtain ⟨f, x, y, sp, r, rfl, hS, hsp, q⟩ := h
  refine ⟨_, (pss_one (ps_try_many (tb := fun W => tRet (tCallAS 0 (Deeds T) W (tCons (tVar 1) (tCons (tVar 2) tNil)))) (l := [(.ref T.c_NoFraction, fun _ _ _ => tRet (tC .non)), (.ref T.c_RanError, fun _ _ _ => tRet (tC (.str "other")))]) (Wout := fun _ _ _ _ => False) rfl rfl takes0
    (fun W pn xe tk _ => pss_one (ps_ret (pe_callAS hd hr rfl (.inl rfl) tk (pa_cons (pv 1) (pa_cons (pv 2) pa_nil)))))
    (.cons ⟨rfl, by decide, .inl T.g_NoFraction⟩ (fun a oe cls d pn _ _ => pss_one (ps_ret pe_non)) (.cons ⟨rfl, by decide, .inl T.g_RanError⟩ (fun a oe cls d pn _ _ => pss_one (ps_ret pe_str)) .nil)))), ?_⟩
  refine ⟨f, sp, rfl, hS, _, rfl, _, rfl, hsp _ _ ?_⟩
  cases r with
  | none => exact ⟨true, T.e_NoFraction, fun _ a _ => q, fun e => nomatch e⟩
  | some r => exact q
end
end My

set_option Elab.async false
set_option linter.all false
set_option maxRecDepth 100000
set_option maxHeartbeats 8000000
set_option exponentiation.threshold 2000
namespace My
open PySem PySem.Spec PyProof.Rows L2
local macro_rules | `(tactic| walk_at "e1") => `(tactic| first
  | refine e_var rfl ?_
  | refine e_c ?_
  | refine e_op ?_
  | refine e_un ?_
  | refine e_cb ?_
  | refine e_cons ?_
  | refine e_nil ?_
  | refine e_tB ?_
  | refine e_test ?_
  | refine e_not ?_
  | refine e_and ?_
  | refine e_or ?_
  | refine e_andV ?_
  | refine e_orV ?_
  | refine e_notV ?_
  | refine e_I0 ?_
  | refine e_I (by (try dsimp only [CDiv, CDivN, CMul, CPow]); first | decide | omega) ?_
  | refine e_U ?_
  | refine e_eqI ?_
  | refine e_neI ?_
  | refine e_bl ?_
  | refine e_call ?_
  | refine e_sub ?_
  | refine e_lst ?_
  | refine e_tup ?_
  | refine e_nn ?_
  | rw [dec_nn]
  | rw [dec_in]
  | rw [dec_rn]
  | rw [dec_bn]
  | rw [dec_sn]
  | rw [Bool.not_true]
  | rw [Bool.not_false]
  | refine iteT ?_
  | refine iteF ?_)
local macro_rules | `(tactic| walk_at "e") => `(tactic| ((try dsimp only); repeat (walk_at "e1"; try dsimp only)))
local macro_rules | `(tactic| walk_at "s1") => `(tactic| first
  | refine x_seq ?_
  | refine x_next ?_
  | refine e_ret ?_
  | refine e_asg ?_
  | refine e_drop ?_
  | refine e_asgG ?_
  | walk_at "e1")
local macro_rules | `(tactic| walk_at "s") => `(tactic| ((try dsimp only); repeat (walk_at "s1"; try dsimp only)))
section
variable {P : Program} {w : World} {K : PySem.W.Frag} {mg : Str → Option Value} {base : Heap}
def RepR (H : Hp) (v : V) : Option (Int × Int) → Prop
  | none => v = .non
  | some (x, y) => ∃ p, v = .ref p ∧ H p = some (.tup [.int x, .int y])
def toD : Option (Int × Int) → PyData
  | none => .none
  | some (x, y) => .tuple [.int x, .int y]
theorem RepR.dp {H : Hp} {v : V} {r : Option (Int × Int)} (h : RepR H v r) : Dp K H v (toD r) := by
  cases r with
  | none =>
    cases (show v = .non from h)
    exact .non
  | some r =>
    obtain ⟨p, rfl, hp⟩ := h
    exact .tup (SqT.of hp) (.cons (.int _) (.cons (.int _) .nil))
theorem toD_shaped (r : Option (Int × Int)) : SeqAt.shaped (toD r) = true := by
  cases r <;> rfl
theorem RepR.off {H H' : Hp} {a : Addr} {v : V} {r : Option (Int × Int)} (h : RepR H v r) (o : Off a H H') (n : ∀ p, v = .ref p → H p ≠ none → p ≠ a) : RepR H' v r := by
  cases r with
  | none => exact h
  | some r =>
    obtain ⟨p, rfl, hp⟩ := h
    exact ⟨p, rfl, o _ _ (n p rfl (by rw [hp]; exact fun z => nomatch z)) hp⟩
theorem RepR.same {H H' : Hp} {v : V} {r : Option (Int × Int)} (h : RepR H v r) (o : Same H H') : RepR H' v r := by
  cases r with
  | none => exact h
  | some r =>
    obtain ⟨p, rfl, hp⟩ := h
    exact ⟨p, rfl, o _ _ hp⟩
/-- from what a deed hands back -/
theorem retN_of {r : Option (Int × Int)} {H : Hp} {Q : VK} (k : ∀ v H', Same H H' → RepR H' v r → Q v H') : RetN r H Q := by
  cases r with
  | none => exact k _ _ (Same.refl _) rfl
  | some r => exact fun H' p s _ e => k _ _ s ⟨p, rfl, e⟩
theorem retF_of {c : Addr} {r : Option (Int × Int)} {H : Hp} {Q : VK} {E : XK} (hr : r ≠ none) (k : ∀ v H', Same H H' → RepR H' v r → Q v H') : RetF c r H Q E := by
  cases r with
  | none => exact absurd rfl hr
  | some r => exact fun H' p s _ e => k _ _ s ⟨p, rfl, e⟩
theorem frXs_low {t b x y : Int} (h : lowZ t b = some (x, y)) : frXs [.int x, .int y] = some (x, y) := if_pos (lowZ_good h)
theorem frV_low {H : Hp} {p : Addr} {t b x y : Int} (h : lowZ t b = some (x, y)) (hp : H p = some (.tup [.int x, .int y])) : FrV K H (.ref p) (some (x, y)) := by
  have z : FrV K H (.ref p) (frXs [.int x, .int y]) := .tup hp fun z hz => by
    simp only [List.mem_cons, List.not_mem_nil, or_false] at hz
    rcases hz with rfl | rfl
    · exact ⟨_, .int _⟩
    · exact ⟨_, .int _⟩
  rw [frXs_low h] at z
  exact z
theorem Gt.sm {g : Int} (h : Gt g) : Sm g := by
  have e : (2 : Nat) ^ 400 = 2582249878086908589655919172003011874329705792829223512830659356540647622016841194629645353280137831435903171972747493376 := by decide +kernel
  unfold Gt at h
  unfold Sm
  rw [e]
  omega
theorem sm_small {x : Int} (h0 : -1000 ≤ x) (h1 : x ≤ 1000) : Sm x := Gt.sm ⟨by omega, by omega⟩
/-- (0, 1), or the fraction's lowest terms -/
def oneZ (t b : Int) : Int × Int := (lowZ t b).getD (0, 1)
theorem oneZ_low (t b : Int) : ∃ t' b', lowZ t' b' = some (oneZ t b) := by
  unfold oneZ
  cases h : lowZ t b with
  | none => exact ⟨0, 1, lowZ_one 0⟩
  | some r => exact ⟨t, b, h⟩
theorem oneZ_sm {t b : Int} (ht : Sm t) (hb : Sm b) : Sm (oneZ t b).1 ∧ Sm (oneZ t b).2 := by
  unfold oneZ
  cases h : lowZ t b with
  | none => exact ⟨sm_small (by decide) (by decide), sm_small (by decide) (by decide)⟩
  | some r => exact lowZ_sm (x := r.1) (y := r.2) h ht hb
theorem RepR.upd {H : Hp} {d : Addr} {xs : List V} {o : HO} {v : V} {r : Option (Int × Int)} (h : RepR H v r) (hd : H d = some (.lst xs)) : RepR (upd H d o) v r := by
  cases r with
  | none => exact h
  | some r =>
    obtain ⟨p, rfl, hp⟩ := h
    exact ⟨p, rfl, by rw [upd_ne (ne_of hp hd (by intro z; cases z))]; exact hp⟩
theorem tup_upd {H : Hp} {d p : Addr} {xs ys : List V} {o : HO} (hp : H p = some (.tup ys)) (hd : H d = some (.lst xs)) : upd H d o p = some (.tup ys) := by
  rw [upd_ne (ne_of hp hd (by intro z; cases z))]
  exact hp
theorem Wl.upd {H : Hp} {a d : Addr} {o : HO} (h : Wl H a) (n : d ≠ a) : Wl (L2.upd H d o) a := by
  obtain ⟨x, y, z, e⟩ := h
  exact ⟨x, y, z, by rw [upd_ne (Ne.symm n)]; exact e⟩
inductive Reps (H : Hp) : List V → List (Option (Int × Int)) → Prop
  | nil : Reps H [] []
  | cons {v : V} {r : Option (Int × Int)} {vs : List V} {rs : List (Option (Int × Int))} : RepR H v r → Reps H vs rs → Reps H (v :: vs) (r :: rs)
theorem Reps.same {H H' : Hp} (s : Same H H') : ∀ {vs : List V} {rs : List (Option (Int × Int))}, Reps H vs rs → Reps H' vs rs
  | _, _, .nil => .nil
  | _, _, .cons h t => .cons (h.same s) (Reps.same s t)
theorem Reps.upd {H : Hp} {d : Addr} {xs : List V} {o : HO} (hd : H d = some (.lst xs)) : ∀ {vs : List V} {rs : List (Option (Int × Int))}, Reps H vs rs → Reps (upd H d o) vs rs
  | _, _, .nil => .nil
  | _, _, .cons h t => .cons (h.upd hd) (Reps.upd hd t)
theorem Reps.snoc {H : Hp} {v : V} {r : Option (Int × Int)} (h : RepR H v r) : ∀ {vs : List V} {rs : List (Option (Int × Int))}, Reps H vs rs → Reps H (vs ++ [v]) (rs ++ [r])
  | _, _, .nil => .cons h .nil
  | _, _, .cons a t => .cons a (Reps.snoc h t)
theorem Reps.length {H : Hp} : ∀ {vs : List V} {rs : List (Option (Int × Int))}, Reps H vs rs → vs.length = rs.length
  | _, _, .nil => rfl
  | _, _, .cons _ t => congrArg (· + 1) (Reps.length t)
theorem Reps.dp {H : Hp} : ∀ {vs : List V} {rs : List (Option (Int × Int))}, Reps H vs rs → DpAll K H vs (rs.map toD)
  | _, _, .nil => .nil
  | _, _, .cons h t => .cons h.dp (Reps.dp t)
theorem list_shaped (r1 r2 r3 r4 : Option (Int × Int)) : SeqAt.shaped (.list ([r1, r2, r3, r4].map toD)) = true := by
  cases r1 <;> cases r2 <;> cases r3 <;> cases r4 <;> rfl
theorem eqv_self {d : PyData} (h : SeqAt.shaped d = true) : PyData.eqv d d = true := SeqAt.eqv_refl d (SeqAt.canLay_of_shaped h)
/-- the four deeds and what they come to -/
def fourF : List (Int → Int → Int → Int → Int × Int) := [plusZ, minusZ, timesZ, sharedZ]
def fourA (T : Txt K mg) : List V := [.ref T.a_plus, .ref T.a_minus, .ref T.a_times, .ref T.a_shared]
theorem deed_at (T : Txt K mg) {i : Nat} {x : V} (h : (fourA T)[i]? = some x) : ∃ f F, x = .ref f ∧ Deeds T f (sp_ar K T.c_NoFraction F) ∧ fourF[i]? = some F := by
  match i, h with
  | 0, h => exact ⟨_, _, (Option.some.inj h).symm, .inr (.inl ⟨rfl, rfl⟩), rfl⟩
  | 1, h => exact ⟨_, _, (Option.some.inj h).symm, .inr (.inr (.inl ⟨rfl, rfl⟩)), rfl⟩
  | 2, h => exact ⟨_, _, (Option.some.inj h).symm, .inr (.inr (.inr (.inl ⟨rfl, rfl⟩))), rfl⟩
  | 3, h => exact ⟨_, _, (Option.some.inj h).symm, .inr (.inr (.inr (.inr ⟨rfl, rfl⟩))), rfl⟩
def flatS : V → Bool
  | .non | .bl _ | .int _ | .str _ => true
  | _ => false
theorem flatS.th {H : Hp} {v : V} (h : flatS v = true) : ∃ n, Th K H v n := by
  cases v with
  | non => exact ⟨_, .non⟩
  | bl b => exact ⟨_, .bl b⟩
  | int i => exact ⟨_, .int i⟩
  | str x => exact ⟨_, .str x⟩
  | _ => cases h
/-- what is no fraction: a flat value, a list, a tuple of flat values -/
inductive Bad (H : Hp) : V → Prop
  | flat {v : V} (h : flatS v = true) : Bad H v
  | lst {p : Addr} {xs : List V} (h : H p = some (.lst xs)) : Bad H (.ref p)
  | tup {p : Addr} {xs : List V} (h : H p = some (.tup xs)) (ha : ∀ y ∈ xs, flatS y = true) (hn : frXs xs = none) : Bad H (.ref p)
theorem Bad.same {H H' : Hp} {v : V} (s : Same H H') (h : Bad H v) : Bad H' v := by
  cases h with
  | flat h => exact .flat h
  | lst h => exact .lst (s _ _ h)
  | tup h ha hn => exact .tup (s _ _ h) ha hn
theorem Bad.off {H H' : Hp} {a : Addr} {v : V} (o : Off a H H') (n : v ≠ .ref a) (h : Bad H v) : Bad H' v := by
  cases h with
  | flat h => exact .flat h
  | lst h => exact .lst (o _ _ (fun z => n (by rw [z])) h)
  | tup h ha hn => exact .tup (o _ _ (fun z => n (by rw [z])) h) ha hn
theorem Bad.fr {H : Hp} {v : V} (h : Bad H v) : FrV K H v none := by
  cases h with
  | @flat _ h =>
    cases v with
    | non => exact .plain .non (by decide)
    | bl b => exact .plain (.bl b) (by decide)
    | int i => exact .plain (.int i) (by decide)
    | str x => exact .plain (.str x) (by decide)
    | _ => cases h
  | lst h => exact .plain (.ref (.base (.lst h)) (.inl rfl)) (by decide)
  | tup h ha hn =>
    rw [← hn]
    exact .tup h fun y hy => flatS.th (ha y hy)
def sp_law (K : PySem.W.Frag) : Sp := fun vs H Q _ => ∃ (a : Addr) (ns : List Int), vs = [.ref a] ∧ SqL K H a (ns.map V.int) ∧ ns.length ≤ 63 ∧ ∀ H', Q (.bl true) H'
theorem ok_law (T : Txt K mg) (G_fraction : FnOk P w K mg base (L2.CX P w) 2 T.a_fraction T.d_fraction ["top", "bottom"] (sp_fraction K T.c_NoFraction))
    (G_is_fraction : FnOk P w K mg base CX0 2 T.a_is_fraction T.d_is_fraction ["thing"] (sp_is_fraction K)) (G_l_well : FnOk P w K mg base CX0 1 T.a_l_well T.d_l_well ["_law_cell"] sp_l_well)
    (G_l_draw : FnOk P w K mg base CX0 1 T.a_l_draw T.d_l_draw ["_law_well_here", "_law_many"] sp_l_draw) (G_l_one : FnOk P w K mg base CX0 2 T.a_l_one T.d_l_one ["_law_well_here", "_law_some"] sp_l_one)
    (G_l_great : FnOk P w K mg base CX0 3 T.a_l_great T.d_l_great ["_law_well_here"] sp_l_great) (G_l_lowest : FnOk P w K mg base CX0 1 T.a_l_lowest T.d_l_lowest ["_law_top", "_law_bottom"] sp_l_lowest)
    (G_l_told : FnOk P w K mg base CX0 5 T.a_l_told T.d_l_told ["_law_deed", "_law_one_here", "_law_other"] (sp_l_told T)) (G_l_bounds_right : FnOk P w K mg base CX0 3 T.a_l_bounds_right T.d_l_bounds_right ["_law_well_here", "_law_number"] sp_bounds) :
    FnOk P w K mg base CX0 6 T.a_law T.d_law ["_law_script"] (sp_law K) := by
  refine T.F_law.ok sc_law (fun vs H Q E h => by obtain ⟨_, _, rfl, _⟩ := h; rfl) (fun cdv A outer s H vs Q E hr h => ?_)
  obtain ⟨a, ns, rfl, hS, h63, q⟩ := h
  obtain ⟨ds1, v1, b1⟩ := bn1_fraction T
  refine ⟨_, (pss_cons (ps_for PassesOwn.never rfl (pi_list (pe_slice sl_list (pe_op op_catL (pv 0) (pe_lst (pa_cons pe_int pa_nil))) po_none (po_some pe_int))) (pg_name (i := 1) sc_law.nd rfl (Or.inl rfl))
    (pss_cons (ps_set (i := 2) sc_law.nd rfl (Or.inl rfl) (pe_call G_l_well (hr.mono (by decide)) rfl T.m_l_well T.F_l_well.kp (bn_l_well T) .nil pass0 (pa_cons (pv 1) pa_nil)))
    (pss_cons (ps_par (i := 3) (j := 4) rfl sc_law.nd rfl rfl (by decide) rfl rfl (pa_cons (pe_call G_l_great (hr.mono (by decide)) rfl T.m_l_great T.F_l_great.kp (bn_l_great T) .nil pass0 (pa_cons (pv 2) pa_nil)) (pa_cons (pe_call G_l_great (hr.mono (by decide)) rfl T.m_l_great T.F_l_great.kp (bn_l_great T) .nil pass0 (pa_cons (pv 2) pa_nil)) pa_nil)) rfl)
    (pss_cons (ps_set (i := 5) sc_law.nd rfl (Or.inr rfl) (pe_orT (pe_call G_l_lowest (hr.mono (by decide)) rfl T.m_l_lowest T.F_l_lowest.kp (bn_l_lowest T) .nil pass0 (pa_cons (pv 3) (pa_cons (pv 4) pa_nil))) (pe_one (pe_tup (pa_cons pe_int (pa_cons pe_int pa_nil))))))
    (pss_cons (ps_set (i := 6) sc_law.nd rfl (Or.inr rfl) (pe_call G_l_lowest (hr.mono (by decide)) rfl T.m_l_lowest T.F_l_lowest.kp (bn_l_lowest T) .nil pass0 (pa_cons (pe_call G_l_great (hr.mono (by decide)) rfl T.m_l_great T.F_l_great.kp (bn_l_great T) .nil pass0 (pa_cons (pv 2) pa_nil)) (pa_cons (pe_op op_add pe_int (pe_call G_l_draw (hr.mono (by decide)) rfl T.m_l_draw T.F_l_draw.kp (bn_l_draw T) .nil pass0 (pa_cons (pv 2) (pa_cons pe_int pa_nil)))) pa_nil))))
    (pss_cons (ps_if (PW.pt (pw_or (pt_cmpR (op_neD hr.units) (pe_call G_l_told (hr.mono (by decide)) rfl T.m_l_told T.F_l_told.kp (bn_l_told T) .nil pass0 (pa_cons (pe_glob (v := .ref T.a_fraction) rfl T.m_fraction rfl) (pa_cons (pv 3) (pa_cons (pv 4) pa_nil)))) (pe_call G_l_lowest (hr.mono (by decide)) rfl T.m_l_lowest T.F_l_lowest.kp (bn_l_lowest T) .nil pass0 (pa_cons (pv 3) (pa_cons (pv 4) pa_nil))) (nomark _)) (pw_or1 (pt_not (pt_val (pe_call G_is_fraction (hr.mono (by decide)) rfl T.m_is_fraction T.F_is_fraction.kp (bn_is_fraction T) .nil pass0 (pa_cons (pv 5) pa_nil))))))) (pss_one (ps_ret pe_bl)) pss_nil)
    (pss_cons (ps_set (i := 7) sc_law.nd rfl (Or.inl rfl) (pe_lst (pa_cons (pe_call G_l_lowest (hr.mono (by decide)) rfl T.m_l_lowest T.F_l_lowest.kp (bn_l_lowest T) .nil pass0 (pa_cons (pe_op op_add (pe_op op_mulW (pe_ix ix_tup (pv 5) pe_int (fun _ _ => rfl)) (pe_ix ix_tup (pv 6) pe_int (fun _ _ => rfl))) (pe_op op_mulW (pe_ix ix_tup (pv 6) pe_int (fun _ _ => rfl)) (pe_ix ix_tup (pv 5) pe_int (fun _ _ => rfl)))) (pa_cons (pe_op op_mulW (pe_ix ix_tup (pv 5) pe_int (fun _ _ => rfl)) (pe_ix ix_tup (pv 6) pe_int (fun _ _ => rfl))) pa_nil))) pa_nil)))
    (pss_cons (ps_expr (pe_bm PySem.F.plainAttrs_list PySem.F.slot_list_append PySem.F.type_list_append mt_append (pv 7) (pa_cons (pe_call G_l_lowest (hr.mono (by decide)) rfl T.m_l_lowest T.F_l_lowest.kp (bn_l_lowest T) .nil pass0 (pa_cons (pe_op op_sub (pe_op op_mulW (pe_ix ix_tup (pv 5) pe_int (fun _ _ => rfl)) (pe_ix ix_tup (pv 6) pe_int (fun _ _ => rfl))) (pe_op op_mulW (pe_ix ix_tup (pv 6) pe_int (fun _ _ => rfl)) (pe_ix ix_tup (pv 5) pe_int (fun _ _ => rfl)))) (pa_cons (pe_op op_mulW (pe_ix ix_tup (pv 5) pe_int (fun _ _ => rfl)) (pe_ix ix_tup (pv 6) pe_int (fun _ _ => rfl))) pa_nil))) pa_nil)))
    (pss_cons (ps_expr (pe_bm PySem.F.plainAttrs_list PySem.F.slot_list_append PySem.F.type_list_append mt_append (pv 7) (pa_cons (pe_call G_l_lowest (hr.mono (by decide)) rfl T.m_l_lowest T.F_l_lowest.kp (bn_l_lowest T) .nil pass0 (pa_cons (pe_op op_mulW (pe_ix ix_tup (pv 5) pe_int (fun _ _ => rfl)) (pe_ix ix_tup (pv 6) pe_int (fun _ _ => rfl))) (pa_cons (pe_op op_mulW (pe_ix ix_tup (pv 5) pe_int (fun _ _ => rfl)) (pe_ix ix_tup (pv 6) pe_int (fun _ _ => rfl))) pa_nil))) pa_nil)))
    (pss_cons (ps_expr (pe_bm PySem.F.plainAttrs_list PySem.F.slot_list_append PySem.F.type_list_append mt_append (pv 7) (pa_cons (pe_call G_l_lowest (hr.mono (by decide)) rfl T.m_l_lowest T.F_l_lowest.kp (bn_l_lowest T) .nil pass0 (pa_cons (pe_op op_mulW (pe_ix ix_tup (pv 5) pe_int (fun _ _ => rfl)) (pe_ix ix_tup (pv 6) pe_int (fun _ _ => rfl))) (pa_cons (pe_op op_mulW (pe_ix ix_tup (pv 5) pe_int (fun _ _ => rfl)) (pe_ix ix_tup (pv 6) pe_int (fun _ _ => rfl))) pa_nil))) pa_nil)))
    (pss_cons (ps_set (i := 8) sc_law.nd rfl (Or.inl rfl) (pe_lst (pa_cons (pe_glob (v := .ref T.a_plus) rfl T.m_plus rfl) (pa_cons (pe_glob (v := .ref T.a_minus) rfl T.m_minus rfl) (pa_cons (pe_glob (v := .ref T.a_times) rfl T.m_times rfl) (pa_cons (pe_glob (v := .ref T.a_shared) rfl T.m_shared rfl) pa_nil))))))
    (pss_cons (ps_if (PW.pt (pw_or (pt_cmpR (op_neD hr.units) (pe_lc (own := [("_law_deed", 9)]) (g := gName 9) rfl sc_law.nd (pi_list (pv 8)) (blkOk_by (own := [("_law_deed", 9)]) (N := ["_law_script", "_law_cell", "_law_well_here", "_law_top", "_law_bottom", "_law_one_here", "_law_other", "_law_due", "_law_deeds", "_law_deed", "_law_many", "_law_odd", "_law_bad"]) (sc := defScope s_law) (by decide +kernel)) (fun _ _ _ _ _ => pg_name (i := 9) sc_law.nd rfl (Or.inl rfl)) (fun _ _ _ _ _ => pts_nil) (fun _ _ _ _ _ => (pe_call G_l_told (hr.mono (by decide)) rfl T.m_l_told T.F_l_told.kp (bn_l_told T) .nil pass0 (pa_cons (pv 9) (pa_cons (pv 5) (pa_cons (pv 6) pa_nil)))))) (pv 7) (nomark _)) (pw_or1 (pt_cmpR (op_neD hr.units) (pe_call G_fraction (hr.mono (by decide)) rfl T.m_fraction T.F_fraction.kp b1 v1 passL (pa_cons (pv 3) pa_nil)) (pe_tup (pa_cons (pv 3) (pa_cons pe_int pa_nil))) (nomark _))))) (pss_one (ps_ret pe_bl)) pss_nil)
    (pss_cons (ps_set (i := 10) sc_law.nd rfl (Or.inl rfl) (pe_op op_add pe_int (pe_call G_l_draw (hr.mono (by decide)) rfl T.m_l_draw T.F_l_draw.kp (bn_l_draw T) .nil pass0 (pa_cons (pv 2) (pa_cons pe_int pa_nil)))))
    (pss_cons (ps_set (i := 11) sc_law.nd rfl (Or.inl rfl) (pe_lst (pa_cons pe_non (pa_cons (pv 3) (pa_cons pe_bl (pa_cons pe_str (pa_cons (pe_lst (pa_cons pe_int (pa_cons pe_int pa_nil))) (pa_cons (pe_tup (pa_cons pe_int pa_nil)) (pa_cons (pe_tup (pa_cons pe_int (pa_cons pe_int (pa_cons pe_int pa_nil)))) (pa_cons (pe_tup (pa_cons (pe_op op_mul (pv 10) pe_int) (pa_cons (pe_op op_mul (pv 10) pe_int) pa_nil))) (pa_cons (pe_tup (pa_cons pe_int (pa_cons pe_int pa_nil))) (pa_cons (pe_tup (pa_cons (pe_un un_neg pe_int) (pa_cons (pe_un un_neg pe_int) pa_nil))) pa_nil))))))))))))
    (pss_cons (ps_set (i := 11) sc_law.nd rfl (Or.inl rfl) (pe_op op_catL (pv 11) (pe_lst (pa_cons (pe_tup (pa_cons pe_bl (pa_cons pe_int pa_nil))) (pa_cons (pe_tup (pa_cons pe_int (pa_cons pe_str pa_nil))) pa_nil)))))
    (pss_cons (ps_set (i := 12) sc_law.nd rfl (Or.inl rfl) (pe_call G_l_one (hr.mono (by decide)) rfl T.m_l_one T.F_l_one.kp (bn_l_one T) .nil pass0 (pa_cons (pv 2) (pa_cons (pv 11) pa_nil))))
    (pss_cons (ps_for PassesOwn.never rfl (pi_list (pv 8)) (pg_name (i := 9) sc_law.nd rfl (Or.inl rfl))
    (pss_one (ps_if (PW.pt (pw_or (pt_cmpR op_notN (pe_call G_l_told (hr.mono (by decide)) rfl T.m_l_told T.F_l_told.kp (bn_l_told T) .nil pass0 (pa_cons (pv 9) (pa_cons (pv 12) (pa_cons (pv 6) pa_nil)))) pe_non (nomark _)) (pw_or1 (pt_cmpR op_notN (pe_call G_l_told (hr.mono (by decide)) rfl T.m_l_told T.F_l_told.kp (bn_l_told T) .nil pass0 (pa_cons (pv 9) (pa_cons (pv 6) (pa_cons (pv 12) pa_nil)))) pe_non (nomark _))))) (pss_one (ps_ret pe_bl)) pss_nil)))
    (pss_one (ps_if (PW.pt (pw_or (pt_cmpR op_isnot_bl (pe_call G_is_fraction (hr.mono (by decide)) rfl T.m_is_fraction T.F_is_fraction.kp (bn_is_fraction T) .nil pass0 (pa_cons (pv 12) pa_nil)) pe_bl (nomark _)) (pw_or (pt_cmpR op_notN (pe_call G_l_told (hr.mono (by decide)) rfl T.m_l_told T.F_l_told.kp (bn_l_told T) .nil pass0 (pa_cons (pe_glob (v := .ref T.a_fraction) rfl T.m_fraction rfl) (pa_cons pe_str (pa_cons pe_int pa_nil)))) pe_non (nomark _)) (pw_or1 (pt_not (pt_val (pe_call G_l_bounds_right (hr.mono (by decide)) rfl T.m_l_bounds_right T.F_l_bounds_right.kp (bn_l_bounds_right T) .nil pass0 (pa_cons (pv 2) (pa_cons (pv 3) pa_nil))))))))) (pss_one (ps_ret pe_bl)) pss_nil)))))))))))))))))))
    (pss_one (ps_ret pe_bl))), ?_⟩
  refine x_seq ?_
  dsimp only
  refine x_forL (fun p xs H1 => Same H H1 ∧ ∀ x ∈ xs, ∃ i, x = V.int i) (fun Q k => ?_) ?_
  · walk_at "e"
    refine ⟨by show 1 ≤ sizeLine; decide, fun p0 hp0 => ?_⟩
    walk_at "e"
    have s0 := same_new hp0 (.lst [.int 0])
    refine ⟨a, p0, _, _, rfl, rfl, s0.seq hS, SqL.of upd_same, ?_, fun p1 hp1 => ?_⟩
    · rw [List.length_map]
      exact Nat.le_trans (Nat.add_le_add_right h63 1) (by decide)
    have s1 := same_new hp1 (.lst (ns.map V.int ++ [.int 0]))
    refine ⟨8, rfl, p1, _, rfl, SqL.of upd_same, fun p2 hp2 => k p2 _ _ (SqL.of upd_same) ⟨s0.trans (s1.trans (same_new hp2 _)), fun x hx => ?_⟩⟩
    have hx2 : x ∈ ns.map V.int ++ [V.int 0] := List.mem_of_mem_drop (List.mem_of_mem_take hx)
    rcases List.mem_append.mp hx2 with h | h
    · obtain ⟨i, _, e⟩ := List.mem_map.mp h
      exact ⟨i, e.symm⟩
    · exact ⟨0, List.mem_singleton.mp h⟩
  · rintro p xs H1 hS1 ⟨hs1, hx⟩
    refine ⟨fun _ σ H2 => Same H1 H2 ∧ ∃ s1 s2 s3 s4 s5 s6 s7 s8 s9 s10 s11 s12, σ = [some (.ref a), s1, s2, s3, s4, s5, s6, s7, s8, s9, s10, s11, s12], ⟨Same.refl _, _, _, _, _, _, _, _, _, _, _, _, _, rfl⟩, fun i σ H2 _ h => h.1.seq hS1, ?_, ?_⟩
    · rintro i x σ H2 hi ⟨hs2, s1, s2, s3, s4, s5, s6, s7, s8, s9, s10, s11, s12, rfl⟩
      obtain ⟨cell, rfl⟩ := hx x (List.mem_of_getElem? hi)
      show tSeq _ _ _ _ _
      -- the well
      refine x_seq (e_asg ?_)
      walk_at "e"
      refine ⟨cell, rfl, fun H3 wa hs3 hn3 hW3 => ?_⟩
      dsimp only
      -- top, bottom
      refine x_seq ?_
      show tPar 3 4 _ _ _ _
      refine e_cons ?_
      walk_at "e"
      refine ⟨wa, rfl, hW3, fun tp H4 gt4 hW4 hO4 => ?_⟩
      walk_at "e"
      refine ⟨wa, rfl, hW4, fun bt H5 gt5 hW5 hO5 => ?_⟩
      walk_at "e"
      refine ⟨_, _, rfl, ?_⟩
      have st := Gt.sm gt4
      have sb := Gt.sm gt5
      -- one
      obtain ⟨t0, b0, low1⟩ := oneZ_low tp bt
      obtain ⟨sm1, sm1'⟩ := oneZ_sm st sb
      have gd : oneZ tp bt = (lowZ tp bt).getD (0, 1) := rfl
      refine x_seq (x_asg (fun v H6 => Same H5 H6 ∧ ∃ q1, v = .ref q1 ∧ H5 q1 = none ∧ H6 q1 = some (.tup [.int (oneZ tp bt).1, .int (oneZ tp bt).2])) (fun Q k => ?_) ?_)
      · show tCall sp_l_lowest [] E0 _ _ _ _
        walk_at "e"
        refine ⟨tp, bt, rfl, st.lg, sb.lg, ?_⟩
        cases hl : lowZ tp bt with
        | none =>
          rw [hl] at gd
          refine ⟨false, rfl, ?_⟩
          walk_at "e"
          refine ⟨by show 2 ≤ sizeLine; decide, fun p hp => k _ _ ⟨same_new hp _, p, rfl, hp, ?_⟩⟩
          rw [gd]
          exact upd_same
        | some r =>
          obtain ⟨x, y⟩ := r
          rw [hl] at gd
          intro H' p hs hn e
          refine ⟨true, .inr (.inl ⟨_, SqT.of e, rfl⟩), ?_⟩
          refine iteT (k _ _ ⟨hs, p, rfl, hn, ?_⟩)
          rw [gd]
          exact e
      · rintro v H6 ⟨hs6, q1, rfl, hn1, hq1⟩
        have hW6 := hW5.same hs6
        have n1 : q1 ≠ wa := hW5.ne hn1
        generalize oneZ tp bt = f1 at *
        obtain ⟨t1, b1⟩ := f1
        -- other
        dsimp only
        refine x_seq (e_asg ?_)
        walk_at "e"
        refine ⟨wa, rfl, hW6, fun g H7 gt7 hW7 hO7 => ?_⟩
        walk_at "e"
        refine ⟨wa, 40, rfl, hW7, by decide, by decide, fun r H8 r0 r1 hW8 hO8 => ?_⟩
        walk_at "e"
        have sg7 := Gt.sm gt7
        have sr : Sm (1 + r) := sm_small (by omega) (by omega)
        refine ⟨g, 1 + r, rfl, sg7.lg, sr.lg, ?_⟩
        have hl2 : ∃ x y, lowZ g (1 + r) = some (x, y) := by
          unfold lowZ
          rw [if_neg (by omega)]
          exact ⟨_, _, rfl⟩
        obtain ⟨t2, b2, low2⟩ := hl2
        rw [low2]
        obtain ⟨sm2, sm2'⟩ := lowZ_sm low2 sg7 sr
        intro H9 q2 hs9 hn2 hq2
        have n2 : q2 ≠ wa := hW8.ne hn2
        have hW9 := hW8.same hs9
        have hq1 : H9 q1 = some (.tup [.int t1, .int b1]) := hs9 _ _ (hO8 _ _ n1 (hO7 _ _ n1 hq1))
        have big : Same H1 H9 := by
          have o : Off wa H2 H9 := ((Off.same hs3).trans ((hO4.trans hO5).trans (.same hs6))).trans ((hO7.trans hO8).trans (.same hs9))
          exact hs2.trans (o.same_of hn3)
        clear hO7 hO8 hs9 hn2 hW8 hW7 hW6 hn1 hs6 hW5 hW4 hO4 hO5 hW3 hs3
        -- the first question: fraction and lowest agree, and one is a fraction
        try dsimp only
        refine x_seq (x_if (fun b H' => Same H9 H' ∧ b = false) (fun Q k => ?_) ?_ ?_)
        · walk_at "e"
          refine ⟨T.a_fraction, .int tp, .int bt, _, lowZ tp bt, rfl, .inl ⟨rfl, rfl⟩, fun Q E hR => ⟨.int tp, .int bt, _, _, rfl, .int _, .int _, fun t b e1 e2 => ⟨V.int.inj e1 ▸ st.lg, V.int.inj e2 ▸ sb.lg⟩, hR⟩, retN_of fun v H' hs hr => ?_⟩
          walk_at "e"
          refine ⟨tp, bt, rfl, st.lg, sb.lg, retN_of fun v2 H'' hs2 hr2 => ?_⟩
          refine ⟨_, _, (hr.same hs2).dp, hr2.dp, toD_shaped _, toD_shaped _, ?_⟩
          rw [eqv_self (toD_shaped _)]
          walk_at "e"
          refine ⟨.ref q1, some (t1, b1), rfl, frV_low low1 (hs2 _ _ (hs _ _ hq1)), ?_⟩
          walk_at "e"
          exact k _ _ ⟨hs.trans hs2, rfl⟩
        · rintro H' ⟨_, e⟩
          cases e
        rintro H10 ⟨hs10, _⟩
        have hW10 := hW9.same hs10
        have hq1 := hs10 _ _ hq1
        have hq2 := hs10 _ _ hq2
        have big := big.trans hs10
        clear hs10 hW9
        try dsimp only
        refine x_next ?_
        -- due
        try dsimp only
        refine x_seq (x_asg (fun v H' => ∃ d x1, Same H10 H' ∧ H10 d = none ∧ v = .ref d ∧ H' d = some (.lst [x1]) ∧ RepR H' x1 (arV plusZ (some (t1, b1)) (some (t2, b2)))) (fun Q k => ?_) ?_)
        · walk_at "e"
          refine e_ixT (SqT.of hq1) (atI_nat (j := 0) rfl) ?_
          walk_at "e"
          refine e_ixT (SqT.of hq2) (atI_nat (j := 1) rfl) ?_
          walk_at "e"
          refine e_I (mul_ok sm1 sm2') ?_
          walk_at "e"
          refine e_ixT (SqT.of hq2) (atI_nat (j := 0) rfl) ?_
          walk_at "e"
          refine e_ixT (SqT.of hq1) (atI_nat (j := 1) rfl) ?_
          walk_at "e"
          refine e_I (mul_ok sm2 sm1') ?_
          walk_at "e"
          refine e_ixT (SqT.of hq1) (atI_nat (j := 1) rfl) ?_
          walk_at "e"
          refine e_ixT (SqT.of hq2) (atI_nat (j := 1) rfl) ?_
          walk_at "e"
          refine e_I (mul_ok sm1' sm2') ?_
          walk_at "e"
          refine ⟨_, _, rfl, add_lg sm1 sm2' sm2 sm1', mul_lg sm1' sm2', retN_of fun v H' hs hr => ?_⟩
          walk_at "e"
          refine ⟨by show 1 ≤ sizeLine; decide, fun p hp => ?_⟩
          have sn := same_new hp (.lst [v])
          exact k _ _ ⟨p, v, hs.trans sn, hs.free hp, rfl, upd_same, hr.same sn⟩
        rintro v H11 ⟨d, x1, hs11, nd, rfl, hd, hr1⟩
        have hW11 := hW10.same hs11
        have hq1 := hs11 _ _ hq1
        have hq2 := hs11 _ _ hq2
        have ndw : d ≠ wa := hW10.ne nd
        have nd1 : H1 d = none := big.free nd
        have big : Off d H1 H11 := .same (big.trans hs11)
        have reps : Reps H11 [x1] [arV plusZ (some (t1, b1)) (some (t2, b2))] := .cons hr1 .nil
        clear hs11 hW10 nd hr1
        try dsimp only
        refine x_seq (x_drop (fun v H' => ∃ x2, Wl H' wa ∧ H' q1 = some (.tup [.int t1, .int b1]) ∧ H' q2 = some (.tup [.int t2, .int b2]) ∧ Off d H11 H' ∧ H' d = some (.lst [x1, x2]) ∧ Reps H' [x1, x2] [arV plusZ (some (t1, b1)) (some (t2, b2)), arV minusZ (some (t1, b1)) (some (t2, b2))]) (fun Q k => ?_) ?_)
        · refine e_var rfl ?_
          refine ⟨.inl ⟨rfl, _, SqL.of hd⟩, ?_⟩
          walk_at "e"
          refine e_ixT (SqT.of hq1) (atI_nat (j := 0) rfl) ?_
          walk_at "e"
          refine e_ixT (SqT.of hq2) (atI_nat (j := 1) rfl) ?_
          walk_at "e"
          refine e_I (mul_ok sm1 sm2') ?_
          walk_at "e"
          refine e_ixT (SqT.of hq2) (atI_nat (j := 0) rfl) ?_
          walk_at "e"
          refine e_ixT (SqT.of hq1) (atI_nat (j := 1) rfl) ?_
          walk_at "e"
          refine e_I (mul_ok sm2 sm1') ?_
          walk_at "e"
          refine e_ixT (SqT.of hq1) (atI_nat (j := 1) rfl) ?_
          walk_at "e"
          refine e_ixT (SqT.of hq2) (atI_nat (j := 1) rfl) ?_
          walk_at "e"
          refine e_I (mul_ok sm1' sm2') ?_
          walk_at "e"
          refine ⟨_, _, rfl, sub_lg sm1 sm2' sm2 sm1', mul_lg sm1' sm2', retN_of fun v H' hs hr => ?_⟩
          walk_at "e"
          have hd' := hs _ _ hd
          refine ⟨d, _, v, rfl, rfl, hd', (by show 1 < sizeLine; decide), ?_⟩
          exact k _ _ ⟨v, (hW11.same hs).upd ndw, tup_upd (hs _ _ hq1) hd', tup_upd (hs _ _ hq2) hd', (Off.same hs).upd, upd_same, ((reps.same hs).snoc hr).upd hd'⟩
        rintro _ H12 ⟨x2, hW12, hq1, hq2, ho, hd, reps⟩
        have big := big.trans ho
        clear ho hW11
        try dsimp only
        refine x_seq (x_drop (fun v H' => ∃ x3, Wl H' wa ∧ H' q1 = some (.tup [.int t1, .int b1]) ∧ H' q2 = some (.tup [.int t2, .int b2]) ∧ Off d H12 H' ∧ H' d = some (.lst [x1, x2, x3]) ∧ Reps H' [x1, x2, x3] [arV plusZ (some (t1, b1)) (some (t2, b2)), arV minusZ (some (t1, b1)) (some (t2, b2)), arV timesZ (some (t1, b1)) (some (t2, b2))]) (fun Q k => ?_) ?_)
        · refine e_var rfl ?_
          refine ⟨.inl ⟨rfl, _, SqL.of hd⟩, ?_⟩
          walk_at "e"
          refine e_ixT (SqT.of hq1) (atI_nat (j := 0) rfl) ?_
          walk_at "e"
          refine e_ixT (SqT.of hq2) (atI_nat (j := 0) rfl) ?_
          walk_at "e"
          refine e_I (mul_ok sm1 sm2) ?_
          walk_at "e"
          refine e_ixT (SqT.of hq1) (atI_nat (j := 1) rfl) ?_
          walk_at "e"
          refine e_ixT (SqT.of hq2) (atI_nat (j := 1) rfl) ?_
          walk_at "e"
          refine e_I (mul_ok sm1' sm2') ?_
          walk_at "e"
          refine ⟨_, _, rfl, mul_lg sm1 sm2, mul_lg sm1' sm2', retN_of fun v H' hs hr => ?_⟩
          walk_at "e"
          have hd' := hs _ _ hd
          refine ⟨d, _, v, rfl, rfl, hd', (by show 2 < sizeLine; decide), ?_⟩
          exact k _ _ ⟨v, (hW12.same hs).upd ndw, tup_upd (hs _ _ hq1) hd', tup_upd (hs _ _ hq2) hd', (Off.same hs).upd, upd_same, ((reps.same hs).snoc hr).upd hd'⟩
        rintro _ H13 ⟨x3, hW13, hq1, hq2, ho, hd, reps⟩
        have big := big.trans ho
        clear ho hW12
        try dsimp only
        refine x_seq (x_drop (fun v H' => ∃ x4, Wl H' wa ∧ H' q1 = some (.tup [.int t1, .int b1]) ∧ H' q2 = some (.tup [.int t2, .int b2]) ∧ Off d H13 H' ∧ H' d = some (.lst [x1, x2, x3, x4]) ∧ Reps H' [x1, x2, x3, x4] [arV plusZ (some (t1, b1)) (some (t2, b2)), arV minusZ (some (t1, b1)) (some (t2, b2)), arV timesZ (some (t1, b1)) (some (t2, b2)), arV sharedZ (some (t1, b1)) (some (t2, b2))]) (fun Q k => ?_) ?_)
        · refine e_var rfl ?_
          refine ⟨.inl ⟨rfl, _, SqL.of hd⟩, ?_⟩
          walk_at "e"
          refine e_ixT (SqT.of hq1) (atI_nat (j := 0) rfl) ?_
          walk_at "e"
          refine e_ixT (SqT.of hq2) (atI_nat (j := 1) rfl) ?_
          walk_at "e"
          refine e_I (mul_ok sm1 sm2') ?_
          walk_at "e"
          refine e_ixT (SqT.of hq1) (atI_nat (j := 1) rfl) ?_
          walk_at "e"
          refine e_ixT (SqT.of hq2) (atI_nat (j := 0) rfl) ?_
          walk_at "e"
          refine e_I (mul_ok sm1' sm2) ?_
          walk_at "e"
          refine ⟨_, _, rfl, mul_lg sm1 sm2', mul_lg sm1' sm2, retN_of fun v H' hs hr => ?_⟩
          walk_at "e"
          have hd' := hs _ _ hd
          refine ⟨d, _, v, rfl, rfl, hd', (by show 3 < sizeLine; decide), ?_⟩
          exact k _ _ ⟨v, (hW13.same hs).upd ndw, tup_upd (hs _ _ hq1) hd', tup_upd (hs _ _ hq2) hd', (Off.same hs).upd, upd_same, ((reps.same hs).snoc hr).upd hd'⟩
        rintro _ H14 ⟨x4, hW14, hq1, hq2, ho, hd, reps⟩
        have big := big.trans ho
        clear ho hW13
        have big : Same H1 H14 := big.same_of nd1
        clear nd1
        -- the deeds
        try dsimp only
        refine x_seq (x_asg (fun v H' => ∃ e, Same H14 H' ∧ v = .ref e ∧ H' e = some (.lst (fourA T))) (fun Q k => ?_) ?_)
        · walk_at "e"
          exact ⟨by show 4 ≤ sizeLine; decide, fun p hp => k _ _ ⟨p, same_new hp _, rfl, upd_same⟩⟩
        rintro v H15 ⟨e, hs15, rfl, he⟩
        have hW15 := hW14.same hs15
        have hq1 := hs15 _ _ hq1
        have hq2 := hs15 _ _ hq2
        have hd := hs15 _ _ hd
        have reps := reps.same hs15
        have big := big.trans hs15
        clear hs15 hW14
        -- what the deeds come to, by a comprehension
        try dsimp only
        refine x_seq (x_if (fun b H' => Same H15 H' ∧ b = false) (fun Q k => ?_) ?_ ?_)
        · walk_at "e"
          refine ⟨_, rfl, e, rfl, ⟨_, SqL.of he⟩, fun D hD => lc_list (K := K) (a := e) (xs := fourA T) (fun i H' => Off D H15 H' ∧ ∃ acc, H' D = some (.lst acc) ∧ Reps H' acc ((fourF.take i).map fun F => arV F (some (t1, b1)) (some (t2, b2)))) ?_ ?_ ?_ ?_⟩
          · exact ⟨.same (same_new hD _), [], upd_same, .nil⟩
          · intro i H' _ h
            exact SqL.of (h.1 _ _ (fun z => by rw [z, hD] at he; cases he) he)
          · rintro i x H' hx ⟨hO, acc, hacc, hr⟩
            obtain ⟨f, F, rfl, hdf, hF⟩ := deed_at T hx
            have n1D : q1 ≠ D := fun z => by rw [z, hD] at hq1; cases hq1
            have n2D : q2 ≠ D := fun z => by rw [z, hD] at hq2; cases hq2
            have h1' := hO _ _ n1D hq1
            have h2' := hO _ _ n2D hq2
            refine ⟨rfl, ?_⟩
            dsimp only [tYes]
            refine iteT ?_
            walk_at "e"
            refine ⟨f, .ref q1, .ref q2, _, arV F (some (t1, b1)) (some (t2, b2)), rfl, hdf, fun Q E hR => ⟨_, _, some (t1, b1), some (t2, b2), rfl, frV_low low1 h1', frV_low low2 h2', fun t b z => by cases z; exact ⟨sm1, sm1'⟩, fun t b z => by cases z; exact ⟨sm2, sm2'⟩, hR⟩, retN_of fun v H'' hs hrv => ?_⟩
            have ha2 := hs _ _ hacc
            refine ⟨acc, ha2, ?_, (hO.trans (.same hs)).upd, _, upd_same, ?_⟩
            · rw [hr.length, List.length_map, List.length_take]
              exact Nat.lt_of_le_of_lt (Nat.min_le_left _ _) (Nat.lt_of_lt_of_le (List.getElem?_eq_some_iff.mp hx).1 (by show 4 ≤ sizeLine; decide))
            · have et : fourF.take (i + 1) = fourF.take i ++ [F] := by rw [List.take_add_one, hF]; rfl
              rw [et, List.map_append]
              exact ((hr.same hs).snoc hrv).upd ha2
          · rintro H' ⟨hO, acc, hacc, hr⟩
            have hs' : Same H15 H' := hO.same_of hD
            walk_at "e"
            refine ⟨_, _, .lst (SqL.of hacc) hr.dp, .lst (SqL.of (hs' _ _ hd)) (reps.same hs').dp, list_shaped _ _ _ _, list_shaped _ _ _ _, ?_⟩
            have ev : PyData.eqv (.list (((fourF.take (fourA T).length).map fun F => arV F (some (t1, b1)) (some (t2, b2))).map toD)) (.list ([arV plusZ (some (t1, b1)) (some (t2, b2)), arV minusZ (some (t1, b1)) (some (t2, b2)), arV timesZ (some (t1, b1)) (some (t2, b2)), arV sharedZ (some (t1, b1)) (some (t2, b2))].map toD)) = true :=
              eqv_self (list_shaped _ _ _ _)
            rw [ev]
            walk_at "e"
            refine ⟨.int tp, .int 1, _, _, rfl, .int _, .int _, fun t b z1 z2 => ⟨V.int.inj z1 ▸ st.lg, V.int.inj z2 ▸ (sm_small (by decide) (by decide)).lg⟩, ?_⟩
            have z : lowV (.int tp) (.int 1) = some (tp, 1) := lowZ_one tp
            rw [z]
            intro H'' p hs'' _ hp
            walk_at "e"
            refine ⟨by show 2 ≤ sizeLine; decide, fun p2 hp2 => ?_⟩
            have sn := same_new hp2 (.tup [.int tp, .int 1])
            refine ⟨_, _, .tup (SqT.of (sn _ _ hp)) (.cons (.int _) (.cons (.int _) .nil)), .tup (SqT.of upd_same) (.cons (.int _) (.cons (.int _) .nil)), toD_shaped (some (tp, 1)), toD_shaped (some (tp, 1)), ?_⟩
            have ev2 : PyData.eqv (.tuple [.int tp, .int 1]) (.tuple [.int tp, .int 1]) = true := eqv_self (toD_shaped (some (tp, 1)))
            rw [ev2]
            walk_at "e"
            exact k _ _ ⟨hs'.trans (hs''.trans sn), rfl⟩
        · rintro H' ⟨_, z⟩
          cases z
        rintro H16 ⟨hs16, _⟩
        have hW16 := hW15.same hs16
        have hq1 := hs16 _ _ hq1
        have hq2 := hs16 _ _ hq2
        have he := hs16 _ _ he
        have big := big.trans hs16
        clear hs16 hW15 hd reps low1
        try dsimp only
        refine x_next ?_
        -- what is no fraction
        try dsimp only
        refine x_seq (x_asg (fun v H17 => ∃ m, v = .int (2 + m) ∧ 0 ≤ m ∧ m < 7 ∧ Wl H17 wa ∧ Off wa H16 H17) (fun Q k => ?_) ?_)
        · walk_at "e"
          refine ⟨wa, 7, rfl, hW16, by decide, by decide, fun m H17 m0 m1 hW17 hO17 => ?_⟩
          walk_at "e"
          exact k _ _ ⟨m, rfl, m0, m1, hW17, hO17⟩
        rintro v H17 ⟨m, rfl, m0, m1, hW17, hO17⟩
        have hq1 := hO17 _ _ n1 hq1
        have hq2 := hO17 _ _ n2 hq2
        have new : e ≠ wa := fun z => by
          obtain ⟨x, y, u, ew⟩ := hW16
          rw [z, ew] at he
          exact absurd (show (3 : Nat) = 4 from congrArg List.length (HO.lst.inj (Option.some.inj he))) (by decide)
        have he := hO17 _ _ new he
        have big : Off wa H1 H17 := (Off.same big).trans hO17
        clear hO17 hW16
        try dsimp only
        refine x_seq (x_asg (fun v H' => ∃ l xs, Same H17 H' ∧ v = .ref l ∧ l ≠ wa ∧ H' l = some (.lst xs) ∧ xs.length = 10 ∧ ∀ y ∈ xs, Bad H' y ∧ y ≠ .ref wa) (fun Q k => ?_) ?_)
        · walk_at "e"
          refine ⟨by show 2 ≤ sizeLine; decide, fun p1 hp1 => ?_⟩
          walk_at "e"
          refine ⟨by show 1 ≤ sizeLine; decide, fun p2 hp2 => ?_⟩
          walk_at "e"
          refine ⟨by show 3 ≤ sizeLine; decide, fun p3 hp3 => ?_⟩
          walk_at "e"
          refine ⟨by show 2 ≤ sizeLine; decide, fun p4 hp4 => ?_⟩
          walk_at "e"
          refine ⟨by show 2 ≤ sizeLine; decide, fun p5 hp5 => ?_⟩
          walk_at "e"
          refine ⟨by show 2 ≤ sizeLine; decide, fun p6 hp6 => ?_⟩
          walk_at "e"
          refine ⟨by show 10 ≤ sizeLine; decide, fun p7 hp7 => ?_⟩
          have w1 := hW17.ne hp1
          have t1' := same_new hp1 (.lst [.int 1, .int 2])
          have w2 := (hW17.same t1').ne hp2
          have t2' := same_new hp2 (.tup [.int 1])
          have w3 := ((hW17.same t1').same t2').ne hp3
          have t3' := same_new hp3 (.tup [.int 1, .int 2, .int 1])
          have w4 := (((hW17.same t1').same t2').same t3').ne hp4
          have t4' := same_new hp4 (.tup [.int ((2 + m) * 3), .int ((2 + m) * 2)])
          have w5 := ((((hW17.same t1').same t2').same t3').same t4').ne hp5
          have t5' := same_new hp5 (.tup [.int 1, .int 0])
          have w6 := (((((hW17.same t1').same t2').same t3').same t4').same t5').ne hp6
          have t6' := same_new hp6 (.tup [.int (-1), .int (-2)])
          have w7 := ((((((hW17.same t1').same t2').same t3').same t4').same t5').same t6').ne hp7
          have t7' := same_new hp7 (.lst [.non, .int tp, .bl true, .str (Str.ofString "1/2"), .ref p1, .ref p2, .ref p3, .ref p4, .ref p5, .ref p6])
          refine k _ _ ⟨p7, _, ?_, rfl, w7, upd_same, rfl, ?_⟩
          · exact t1'.trans (t2'.trans (t3'.trans (t4'.trans (t5'.trans (t6'.trans t7')))))
          · have rn : ∀ {p : Addr}, p ≠ wa → V.ref p ≠ V.ref wa := fun h z => h (V.ref.inj z)
            intro y hy
            simp only [List.mem_cons, List.not_mem_nil, or_false] at hy
            rcases hy with rfl | rfl | rfl | rfl | rfl | rfl | rfl | rfl | rfl | rfl
            · exact ⟨.flat rfl, fun z => nomatch z⟩
            · exact ⟨.flat rfl, fun z => nomatch z⟩
            · exact ⟨.flat rfl, fun z => nomatch z⟩
            · exact ⟨.flat rfl, fun z => nomatch z⟩
            · exact ⟨.lst ((t2'.trans (t3'.trans (t4'.trans (t5'.trans (t6'.trans t7'))))) _ _ upd_same), rn w1⟩
            · exact ⟨.tup ((t3'.trans (t4'.trans (t5'.trans (t6'.trans t7')))) _ _ upd_same) (by simp [flatS]) rfl, rn w2⟩
            · exact ⟨.tup ((t4'.trans (t5'.trans (t6'.trans t7'))) _ _ upd_same) (by simp [flatS]) rfl, rn w3⟩
            · refine ⟨.tup ((t5'.trans (t6'.trans t7')) _ _ upd_same) (by simp [flatS]) ?_, rn w4⟩
              refine if_neg fun h => ?_
              have h2 := h.2
              rw [Int.natAbs_mul, Int.natAbs_mul, Nat.gcd_mul_left] at h2
              have e3 : Nat.gcd (3 : Int).natAbs (2 : Int).natAbs = 1 := rfl
              rw [e3] at h2
              omega
            · exact ⟨.tup ((t6'.trans t7') _ _ upd_same) (by simp [flatS]) rfl, rn w5⟩
            · exact ⟨.tup (t7' _ _ upd_same) (by simp [flatS]) rfl, rn w6⟩
        rintro v H18 ⟨l, xs, hs18, rfl, nl, hl, len10, hbad⟩
        have hW18 := hW17.same hs18
        have hq1 := hs18 _ _ hq1
        have hq2 := hs18 _ _ hq2
        have he := hs18 _ _ he
        have big := big.trans (.same hs18)
        clear hs18 hW17
        try dsimp only
        refine x_seq (x_asg (fun v H' => ∃ l xs, Same H18 H' ∧ v = .ref l ∧ l ≠ wa ∧ H' l = some (.lst xs) ∧ xs.length = 12 ∧ ∀ y ∈ xs, Bad H' y ∧ y ≠ .ref wa) (fun Q k => ?_) ?_)
        · walk_at "e"
          refine ⟨by show 2 ≤ sizeLine; decide, fun p1 hp1 => ?_⟩
          walk_at "e"
          refine ⟨by show 2 ≤ sizeLine; decide, fun p2 hp2 => ?_⟩
          walk_at "e"
          refine ⟨by show 2 ≤ sizeLine; decide, fun p3 hp3 => ?_⟩
          walk_at "e"
          have t1' := same_new hp1 (.tup [.bl true, .int 1])
          have w1 := hW18.ne hp1
          have t2' := same_new hp2 (.tup [.int 1, .str (Str.ofString "1")])
          have w2 := (hW18.same t1').ne hp2
          have t3' := same_new hp3 (.lst [.ref p1, .ref p2])
          have hl3 := t3' _ _ (t2' _ _ (t1' _ _ hl))
          refine ⟨l, p3, xs, _, rfl, rfl, SqL.of hl3, SqL.of upd_same, by rw [len10]; show 12 ≤ sizeLine; decide, fun p4 hp4 => ?_⟩
          have t4' := same_new hp4 (.lst (xs ++ [.ref p1, .ref p2]))
          have w4 := (((hW18.same t1').same t2').same t3').ne hp4
          have tt := t1'.trans (t2'.trans (t3'.trans t4'))
          refine k _ _ ⟨p4, _, tt, rfl, w4, upd_same, by rw [List.length_append, len10]; rfl, fun y hy => ?_⟩
          have rn : ∀ {p : Addr}, p ≠ wa → V.ref p ≠ V.ref wa := fun h z => h (V.ref.inj z)
          rcases List.mem_append.mp hy with h | h
          · exact ⟨(hbad y h).1.same tt, (hbad y h).2⟩
          · simp only [List.mem_cons, List.not_mem_nil, or_false] at h
            rcases h with rfl | rfl
            · exact ⟨.tup ((t2'.trans (t3'.trans t4')) _ _ upd_same) (by simp [flatS]) rfl, rn w1⟩
            · exact ⟨.tup ((t3'.trans t4') _ _ upd_same) (by simp [flatS]) rfl, rn w2⟩
        rintro v H19 ⟨l2, xs2, hs19, rfl, nl2, hl2, len12, hbad⟩
        have hW19 := hW18.same hs19
        have hq1 := hs19 _ _ hq1
        have hq2 := hs19 _ _ hq2
        have he := hs19 _ _ he
        have big := big.trans (.same hs19)
        clear hs19 hW18 hl len10
        try dsimp only
        refine x_seq (x_asg (fun v H' => Wl H' wa ∧ Off wa H19 H' ∧ Bad H' v) (fun Q k => ?_) ?_)
        · walk_at "e"
          refine ⟨wa, l2, xs2, rfl, hW19, nl2, hl2, by rw [len12]; decide, by rw [len12]; decide, fun v H' hv hW' hO' => ?_⟩
          exact k _ _ ⟨hW', hO', (hbad v hv).1.off hO' (hbad v hv).2⟩
        rintro bad H20 ⟨hW20, hO20, hfb⟩
        have hq1 := hO20 _ _ n1 hq1
        have hq2 := hO20 _ _ n2 hq2
        have he := hO20 _ _ new he
        have big := big.trans hO20
        clear hO20 hW19 hl2 len12 hbad
        -- each deed refuses it
        try dsimp only
        refine x_seq (x_forL (fun p xs H' => p = e ∧ xs = fourA T ∧ H' = H20) (fun Q k => e_var rfl (k e _ _ (SqL.of he) ⟨rfl, rfl, rfl⟩)) ?_)
        rintro p' xs' H20 hS' ⟨rfl, rfl, rfl⟩
        refine ⟨fun _ σ H' => Same H20 H' ∧ ∃ s9, σ = [some (.ref a), some (.int cell), some (.ref wa), some (.int tp), some (.int bt), some (.ref q1), some (.ref q2), some (.ref d), some (.ref p'), s9, some (.int (2 + m)), some (.ref l2), some bad], ⟨Same.refl _, _, rfl⟩, fun i σ H' _ h => h.1.seq hS', ?_, ?_⟩
        · rintro i x σ H' hx ⟨hs', s9', rfl⟩
          obtain ⟨f, F, rfl, hdf, hF⟩ := deed_at T hx
          show tIfS _ _ _ _ _ _
          refine x_if (fun b H'' => Same H' H'' ∧ b = false) (fun Q k => ?_) ?_ ?_
          · walk_at "e"
            have h2' := hs' _ _ hq2
            have hb' := hfb.same hs'
            refine ⟨f, bad, .ref q2, _, none, rfl, hdf, fun Q E hR => ⟨_, _, none, some (t2, b2), rfl, hb'.fr, frV_low low2 h2', fun _ _ z => (nomatch z), fun t b z => by cases z; exact ⟨sm2, sm2'⟩, hR⟩, ?_⟩
            show _ ∧ _
            walk_at "e"
            refine ⟨f, .ref q2, bad, _, none, rfl, hdf, fun Q E hR => ⟨_, _, some (t2, b2), none, rfl, frV_low low2 h2', hb'.fr, fun t b z => by cases z; exact ⟨sm2, sm2'⟩, fun _ _ z => (nomatch z), hR⟩, ?_⟩
            show _ ∧ _
            walk_at "e"
            exact k _ _ ⟨Same.refl _, rfl⟩
          · rintro H'' ⟨_, z⟩
            cases z
          · rintro H'' ⟨hs'', _⟩
            exact ⟨hs'.trans hs'', _, rfl⟩
        · rintro σ H21 ⟨hs21, s9', rfl⟩
          try dsimp only
          have hW21 := hW20.same hs21
          have hfb := hfb.same hs21
          have big := big.trans (.same hs21)
          refine x_if (fun b H'' => Off wa H21 H'' ∧ b = false) (fun Q k => ?_) ?_ ?_
          · walk_at "e"
            refine ⟨bad, none, rfl, hfb.fr, ?_⟩
            walk_at "e"
            refine ⟨_, _, rfl, rfl, ?_⟩
            walk_at "e"
            refine ⟨T.a_fraction, .str _, .int 2, _, none, rfl, .inl ⟨rfl, rfl⟩, fun Q E hR => ⟨_, _, _, _, rfl, .str _, .int _, fun _ _ z => (nomatch z), hR⟩, ?_⟩
            show _ ∧ _
            walk_at "e"
            refine ⟨wa, tp, rfl, hW21, fun H' _ hO' => ?_⟩
            walk_at "e"
            exact k _ _ ⟨hO', rfl⟩
          · rintro H'' ⟨_, z⟩
            cases z
          · rintro H'' ⟨hO', _⟩
            refine x_next ⟨(big.trans hO').same_of (hs2.free hn3), ?_⟩
            exact ⟨_, _, _, _, _, _, _, _, _, _, _, _, rfl⟩
    · rintro σ H2 ⟨hs2, s1, s2, s3, s4, s5, s6, s7, s8, s9, s10, s11, s12, rfl⟩
      walk_at "s"
      exact q _
end
end My

set_option Elab.async false
set_option linter.all false
set_option maxRecDepth 100000
set_option maxHeartbeats 8000000
set_option exponentiation.threshold 2000
namespace My
open PySem PySem.Spec PyProof.Rows L2
section
variable {P : Program} {w : World} {K : PySem.W.Frag} {mg : Str → Option Value} {base : Heap}
theorem ok_all (T : Txt K mg) : FnOk P w K mg base CX0 6 T.a_law T.d_law ["_law_script"] (sp_law K) := by
  have g1 := ok_is_whole (P := P) (w := w) (base := base) T
  have g2 := ok_fraction T g1
  have g3 := ok_is_fraction T g1
  have g4 := ok_need T g3
  have g5 := ok_plus T g4 g2
  have g6 := ok_minus T g4 g2
  have g7 := ok_times T g4 g2
  have g8 := ok_shared T g4 g2
  have g9 := ok_l_well (P := P) (w := w) (base := base) T
  have g10 := ok_l_draw (P := P) (w := w) (base := base) T
  have g11 := ok_l_one T g10
  have g12 := ok_l_great T g10 g11
  have g13 := ok_l_lowest (P := P) (w := w) (base := base) T
  have g14 := ok_l_told T (held T g2 g5 g6 g7 g8)
  have g15 := ok_l_bounds T g1 g11
  exact ok_law T g2 g3 g9 g10 g11 g12 g13 g14 g15
end
theorem exm_self {K : PySem.W.Frag} {S : Addr} (h1 : PySem.W.subIn K (.ref S) (.type "BaseException") = some true) (h2 : PySem.W.isClsIn K S = true) (h3 : PySem.W.typeIn K (.ref S) = some (.type "type")) (h4 : PySem.W.subIn K (.ref S) (.ref S) = some true) :
    PySem.W.exmOne K (.ref S) (.ref S) = some true := by
  have e1 : (PySem.W.subIn K (.ref S) (.type "BaseException") == some true) = true := by rw [h1] <;> rfl
  have e2 : ((PySem.W.clsIn K S).isSome && PySem.W.typeIn K (.ref S) == some (.type "type")) = true := by
    have h2' : (PySem.W.clsIn K S).isSome = true := h2
    rw [h2', h3] <;> rfl
  show (if (PySem.W.subIn K (.ref S) (.type "BaseException") == some true) = true then (if ((PySem.W.clsIn K S).isSome && PySem.W.typeIn K (.ref S) == some (.type "type")) = true then PySem.W.subIn K (.ref S) (.ref S) else none) else none) = some true
  rw [if_pos e1, if_pos e2]
  exact h4
theorem all_mk {P : Program} {w : World} {K : PySem.W.Frag} {h : Heap} {mg : Str → Option Value} {fa : Addr} (X : K.In h) (G : h.Ns mainGlobals mg) (hfa : mg "law" = some (.ref fa))
    {f_is_whole f_fraction f_is_fraction f_plus f_minus f_times f_shared f_need_fractions f_l_well f_l_draw f_l_one f_l_great f_l_lowest f_l_told f_l_bounds_right f_law C_RanError C_NoFraction D_fraction : Addr} {od_is_whole an_is_whole od_fraction an_fraction od_is_fraction an_is_fraction od_plus an_plus od_minus an_minus od_times an_times od_shared an_shared od_need_fractions an_need_fractions od_l_well an_l_well od_l_draw an_l_draw od_l_one an_l_one od_l_great an_l_great od_l_lowest an_l_lowest od_l_told an_l_told od_l_bounds_right an_l_bounds_right od_law an_law dd0_fraction : Option Addr} {sl_is_whole sl_fraction sl_is_fraction sl_plus sl_minus sl_times sl_shared sl_need_fractions sl_l_well sl_l_draw sl_l_one sl_l_great sl_l_lowest sl_l_told sl_l_bounds_right sl_law ds_fraction : Array (Option Value)} {oc_is_whole kV_is_whole dc_is_whole pm_is_whole cd_is_whole ct_is_whole oc_fraction kV_fraction dc_fraction pm_fraction cd_fraction ct_fraction oc_is_fraction kV_is_fraction dc_is_fraction pm_is_fraction cd_is_fraction ct_is_fraction oc_plus kV_plus dc_plus pm_plus cd_plus ct_plus oc_minus kV_minus dc_minus pm_minus cd_minus ct_minus oc_times kV_times dc_times pm_times cd_times ct_times oc_shared kV_shared dc_shared pm_shared cd_shared ct_shared oc_need_fractions kV_need_fractions dc_need_fractions pm_need_fractions cd_need_fractions ct_need_fractions oc_l_well kV_l_well dc_l_well pm_l_well cd_l_well ct_l_well oc_l_draw kV_l_draw dc_l_draw pm_l_draw cd_l_draw ct_l_draw oc_l_one kV_l_one dc_l_one pm_l_one cd_l_one ct_l_one oc_l_great kV_l_great dc_l_great pm_l_great cd_l_great ct_l_great oc_l_lowest kV_l_lowest dc_l_lowest pm_l_lowest cd_l_lowest ct_l_lowest oc_l_told kV_l_told dc_l_told pm_l_told cd_l_told ct_l_told oc_l_bounds_right kV_l_bounds_right dc_l_bounds_right pm_l_bounds_right cd_l_bounds_right ct_l_bounds_right oc_law kV_law dc_law pm_law cd_law ct_law dc0_fraction : Value} {dn_fraction : Nat} {tk0 : Tok} 
    (a_is_whole : PySem.W.nsIn K mainGlobals "is_whole" = some (some (.ref f_is_whole)))
    (l_is_whole : K.lookup f_is_whole = some ⟨oc_is_whole, od_is_whole, .func (PySem.W.fnOf "is_whole" "is_whole" (defArgs s_is_whole) (defBody s_is_whole) (defScope s_is_whole) .none kV_is_whole dc_is_whole pm_is_whole an_is_whole cd_is_whole ct_is_whole), sl_is_whole⟩)
    (c_is_whole : PySem.W.codeIn K cd_is_whole "is_whole" = true)
    (k_is_whole : PySem.W.keepIn K (.ref f_is_whole) = true)
    (a_fraction : PySem.W.nsIn K mainGlobals "fraction" = some (some (.ref f_fraction)))
    (l_fraction : K.lookup f_fraction = some ⟨oc_fraction, od_fraction, .func (PySem.W.fnOf "fraction" "fraction" (defArgs s_fraction) (defBody s_fraction) (defScope s_fraction) (.ref D_fraction) kV_fraction dc_fraction pm_fraction an_fraction cd_fraction ct_fraction), sl_fraction⟩)
    (c_fraction : PySem.W.codeIn K cd_fraction "fraction" = true)
    (k_fraction : PySem.W.keepIn K (.ref f_fraction) = true)
    (dl_fraction : K.lookup D_fraction = some ⟨dc0_fraction, dd0_fraction, .seq #[Value.int 1 tk0] dn_fraction, ds_fraction⟩)
    (a_is_fraction : PySem.W.nsIn K mainGlobals "is_fraction" = some (some (.ref f_is_fraction)))
    (l_is_fraction : K.lookup f_is_fraction = some ⟨oc_is_fraction, od_is_fraction, .func (PySem.W.fnOf "is_fraction" "is_fraction" (defArgs s_is_fraction) (defBody s_is_fraction) (defScope s_is_fraction) .none kV_is_fraction dc_is_fraction pm_is_fraction an_is_fraction cd_is_fraction ct_is_fraction), sl_is_fraction⟩)
    (c_is_fraction : PySem.W.codeIn K cd_is_fraction "is_fraction" = true)
    (k_is_fraction : PySem.W.keepIn K (.ref f_is_fraction) = true)
    (a_plus : PySem.W.nsIn K mainGlobals "plus" = some (some (.ref f_plus)))
    (l_plus : K.lookup f_plus = some ⟨oc_plus, od_plus, .func (PySem.W.fnOf "plus" "plus" (defArgs s_plus) (defBody s_plus) (defScope s_plus) .none kV_plus dc_plus pm_plus an_plus cd_plus ct_plus), sl_plus⟩)
    (c_plus : PySem.W.codeIn K cd_plus "plus" = true)
    (k_plus : PySem.W.keepIn K (.ref f_plus) = true)
    (a_minus : PySem.W.nsIn K mainGlobals "minus" = some (some (.ref f_minus)))
    (l_minus : K.lookup f_minus = some ⟨oc_minus, od_minus, .func (PySem.W.fnOf "minus" "minus" (defArgs s_minus) (defBody s_minus) (defScope s_minus) .none kV_minus dc_minus pm_minus an_minus cd_minus ct_minus), sl_minus⟩)
    (c_minus : PySem.W.codeIn K cd_minus "minus" = true)
    (k_minus : PySem.W.keepIn K (.ref f_minus) = true)
    (a_times : PySem.W.nsIn K mainGlobals "times" = some (some (.ref f_times)))
    (l_times : K.lookup f_times = some ⟨oc_times, od_times, .func (PySem.W.fnOf "times" "times" (defArgs s_times) (defBody s_times) (defScope s_times) .none kV_times dc_times pm_times an_times cd_times ct_times), sl_times⟩)
    (c_times : PySem.W.codeIn K cd_times "times" = true)
    (k_times : PySem.W.keepIn K (.ref f_times) = true)
    (a_shared : PySem.W.nsIn K mainGlobals "shared" = some (some (.ref f_shared)))
    (l_shared : K.lookup f_shared = some ⟨oc_shared, od_shared, .func (PySem.W.fnOf "shared" "shared" (defArgs s_shared) (defBody s_shared) (defScope s_shared) .none kV_shared dc_shared pm_shared an_shared cd_shared ct_shared), sl_shared⟩)
    (c_shared : PySem.W.codeIn K cd_shared "shared" = true)
    (k_shared : PySem.W.keepIn K (.ref f_shared) = true)
    (a_need_fractions : PySem.W.nsIn K mainGlobals "_need_fractions" = some (some (.ref f_need_fractions)))
    (l_need_fractions : K.lookup f_need_fractions = some ⟨oc_need_fractions, od_need_fractions, .func (PySem.W.fnOf "_need_fractions" "_need_fractions" (defArgs s_need_fractions) (defBody s_need_fractions) (defScope s_need_fractions) .none kV_need_fractions dc_need_fractions pm_need_fractions an_need_fractions cd_need_fractions ct_need_fractions), sl_need_fractions⟩)
    (c_need_fractions : PySem.W.codeIn K cd_need_fractions "_need_fractions" = true)
    (k_need_fractions : PySem.W.keepIn K (.ref f_need_fractions) = true)
    (a_l_well : PySem.W.nsIn K mainGlobals "_law_well" = some (some (.ref f_l_well)))
    (l_l_well : K.lookup f_l_well = some ⟨oc_l_well, od_l_well, .func (PySem.W.fnOf "_law_well" "_law_well" (defArgs s_l_well) (defBody s_l_well) (defScope s_l_well) .none kV_l_well dc_l_well pm_l_well an_l_well cd_l_well ct_l_well), sl_l_well⟩)
    (c_l_well : PySem.W.codeIn K cd_l_well "_law_well" = true)
    (k_l_well : PySem.W.keepIn K (.ref f_l_well) = true)
    (a_l_draw : PySem.W.nsIn K mainGlobals "_law_draw" = some (some (.ref f_l_draw)))
    (l_l_draw : K.lookup f_l_draw = some ⟨oc_l_draw, od_l_draw, .func (PySem.W.fnOf "_law_draw" "_law_draw" (defArgs s_l_draw) (defBody s_l_draw) (defScope s_l_draw) .none kV_l_draw dc_l_draw pm_l_draw an_l_draw cd_l_draw ct_l_draw), sl_l_draw⟩)
    (c_l_draw : PySem.W.codeIn K cd_l_draw "_law_draw" = true)
    (k_l_draw : PySem.W.keepIn K (.ref f_l_draw) = true)
    (a_l_one : PySem.W.nsIn K mainGlobals "_law_one" = some (some (.ref f_l_one)))
    (l_l_one : K.lookup f_l_one = some ⟨oc_l_one, od_l_one, .func (PySem.W.fnOf "_law_one" "_law_one" (defArgs s_l_one) (defBody s_l_one) (defScope s_l_one) .none kV_l_one dc_l_one pm_l_one an_l_one cd_l_one ct_l_one), sl_l_one⟩)
    (c_l_one : PySem.W.codeIn K cd_l_one "_law_one" = true)
    (k_l_one : PySem.W.keepIn K (.ref f_l_one) = true)
    (a_l_great : PySem.W.nsIn K mainGlobals "_law_great" = some (some (.ref f_l_great)))
    (l_l_great : K.lookup f_l_great = some ⟨oc_l_great, od_l_great, .func (PySem.W.fnOf "_law_great" "_law_great" (defArgs s_l_great) (defBody s_l_great) (defScope s_l_great) .none kV_l_great dc_l_great pm_l_great an_l_great cd_l_great ct_l_great), sl_l_great⟩)
    (c_l_great : PySem.W.codeIn K cd_l_great "_law_great" = true)
    (k_l_great : PySem.W.keepIn K (.ref f_l_great) = true)
    (a_l_lowest : PySem.W.nsIn K mainGlobals "_law_lowest" = some (some (.ref f_l_lowest)))
    (l_l_lowest : K.lookup f_l_lowest = some ⟨oc_l_lowest, od_l_lowest, .func (PySem.W.fnOf "_law_lowest" "_law_lowest" (defArgs s_l_lowest) (defBody s_l_lowest) (defScope s_l_lowest) .none kV_l_lowest dc_l_lowest pm_l_lowest an_l_lowest cd_l_lowest ct_l_lowest), sl_l_lowest⟩)
    (c_l_lowest : PySem.W.codeIn K cd_l_lowest "_law_lowest" = true)
    (k_l_lowest : PySem.W.keepIn K (.ref f_l_lowest) = true)
    (a_l_told : PySem.W.nsIn K mainGlobals "_law_told" = some (some (.ref f_l_told)))
    (l_l_told : K.lookup f_l_told = some ⟨oc_l_told, od_l_told, .func (PySem.W.fnOf "_law_told" "_law_told" (defArgs s_l_told) (defBody s_l_told) (defScope s_l_told) .none kV_l_told dc_l_told pm_l_told an_l_told cd_l_told ct_l_told), sl_l_told⟩)
    (c_l_told : PySem.W.codeIn K cd_l_told "_law_told" = true)
    (k_l_told : PySem.W.keepIn K (.ref f_l_told) = true)
    (a_l_bounds_right : PySem.W.nsIn K mainGlobals "_law_bounds_right" = some (some (.ref f_l_bounds_right)))
    (l_l_bounds_right : K.lookup f_l_bounds_right = some ⟨oc_l_bounds_right, od_l_bounds_right, .func (PySem.W.fnOf "_law_bounds_right" "_law_bounds_right" (defArgs s_l_bounds_right) (defBody s_l_bounds_right) (defScope s_l_bounds_right) .none kV_l_bounds_right dc_l_bounds_right pm_l_bounds_right an_l_bounds_right cd_l_bounds_right ct_l_bounds_right), sl_l_bounds_right⟩)
    (c_l_bounds_right : PySem.W.codeIn K cd_l_bounds_right "_law_bounds_right" = true)
    (k_l_bounds_right : PySem.W.keepIn K (.ref f_l_bounds_right) = true)
    (a_law : PySem.W.nsIn K mainGlobals "law" = some (some (.ref f_law)))
    (l_law : K.lookup f_law = some ⟨oc_law, od_law, .func (PySem.W.fnOf "law" "law" (defArgs s_law) (defBody s_law) (defScope s_law) .none kV_law dc_law pm_law an_law cd_law ct_law), sl_law⟩)
    (c_law : PySem.W.codeIn K cd_law "law" = true)
    (k_law : PySem.W.keepIn K (.ref f_law) = true)
    (z_isinstance : PySem.W.nsIn K mainGlobals "isinstance" = some none)
    (z_bool : PySem.W.nsIn K mainGlobals "bool" = some none)
    (z_int : PySem.W.nsIn K mainGlobals "int" = some none)
    (z_tuple : PySem.W.nsIn K mainGlobals "tuple" = some none)
    (z_len : PySem.W.nsIn K mainGlobals "len" = some none)
    (z_abs : PySem.W.nsIn K mainGlobals "abs" = some none)
    (i_gcd : PySem.W.nsIn K mainGlobals "gcd" = some (some (.builtin "math.gcd")))
    (g_RanError : PySem.W.nsIn K mainGlobals "RanError" = some (some (.ref C_RanError)))
    (g_NoFraction : PySem.W.nsIn K mainGlobals "NoFraction" = some (some (.ref C_NoFraction)))
    (x_NoFraction : PySem.W.excIn K C_NoFraction [.type "ValueError", .type "Exception", .type "BaseException", .type "object"] "ValueError.__new__" = true)
    (kc_NoFraction : PySem.W.keepIn K (.ref C_NoFraction) = true)
    (b_NoFraction : PySem.W.subIn K (.ref C_NoFraction) (.type "BaseException") = some true)
    (t_NoFraction : PySem.W.typeIn K (.ref C_NoFraction) = some (.type "type"))
    (ic_NoFraction : PySem.W.isClsIn K C_NoFraction = true)
    (sc_NoFraction : PySem.W.subIn K (.ref C_NoFraction) (.ref C_NoFraction) = some true) :
    ∃ fd : FuncData, (∀ (s : Shared) (u : Value), BindsTo s fd ⟨[u], []⟩ [("_law_script", u)]) ∧ ∀ base : Heap, K.In base → base.Ns mainGlobals mg → FnOk P w K mg base CX0 6 fa fd ["_law_script"] (sp_law K) := by
  have e : f_law = fa := Value.ref.inj (Option.some.inj ((PySem.W.mg_of X G a_law).symm.trans hfa))
  subst e
  let T : Txt K mg := {
    a_is_whole := f_is_whole, d_is_whole := _, F_is_whole := fun_mk l_is_whole c_is_whole k_is_whole, m_is_whole := PySem.W.mg_of X G a_is_whole,
    a_fraction := f_fraction, d_fraction := _, F_fraction := ⟨⟨_, _, _, _, _, _, _, _, _, _, rfl, l_fraction, c_fraction, .inr ⟨by decide, _, _, _, _, rfl, dl_fraction, rfl, (.cons ⟨_, rfl⟩ .nil)⟩, .inl rfl⟩, k_fraction⟩, m_fraction := PySem.W.mg_of X G a_fraction,
    a_is_fraction := f_is_fraction, d_is_fraction := _, F_is_fraction := fun_mk l_is_fraction c_is_fraction k_is_fraction, m_is_fraction := PySem.W.mg_of X G a_is_fraction,
    a_plus := f_plus, d_plus := _, F_plus := fun_mk l_plus c_plus k_plus, m_plus := PySem.W.mg_of X G a_plus,
    a_minus := f_minus, d_minus := _, F_minus := fun_mk l_minus c_minus k_minus, m_minus := PySem.W.mg_of X G a_minus,
    a_times := f_times, d_times := _, F_times := fun_mk l_times c_times k_times, m_times := PySem.W.mg_of X G a_times,
    a_shared := f_shared, d_shared := _, F_shared := fun_mk l_shared c_shared k_shared, m_shared := PySem.W.mg_of X G a_shared,
    a_need_fractions := f_need_fractions, d_need_fractions := _, F_need_fractions := fun_mk l_need_fractions c_need_fractions k_need_fractions, m_need_fractions := PySem.W.mg_of X G a_need_fractions,
    a_l_well := f_l_well, d_l_well := _, F_l_well := fun_mk l_l_well c_l_well k_l_well, m_l_well := PySem.W.mg_of X G a_l_well,
    a_l_draw := f_l_draw, d_l_draw := _, F_l_draw := fun_mk l_l_draw c_l_draw k_l_draw, m_l_draw := PySem.W.mg_of X G a_l_draw,
    a_l_one := f_l_one, d_l_one := _, F_l_one := fun_mk l_l_one c_l_one k_l_one, m_l_one := PySem.W.mg_of X G a_l_one,
    a_l_great := f_l_great, d_l_great := _, F_l_great := fun_mk l_l_great c_l_great k_l_great, m_l_great := PySem.W.mg_of X G a_l_great,
    a_l_lowest := f_l_lowest, d_l_lowest := _, F_l_lowest := fun_mk l_l_lowest c_l_lowest k_l_lowest, m_l_lowest := PySem.W.mg_of X G a_l_lowest,
    a_l_told := f_l_told, d_l_told := _, F_l_told := fun_mk l_l_told c_l_told k_l_told, m_l_told := PySem.W.mg_of X G a_l_told,
    a_l_bounds_right := f_l_bounds_right, d_l_bounds_right := _, F_l_bounds_right := fun_mk l_l_bounds_right c_l_bounds_right k_l_bounds_right, m_l_bounds_right := PySem.W.mg_of X G a_l_bounds_right,
    a_law := f_law, d_law := _, F_law := fun_mk l_law c_law k_law, m_law := PySem.W.mg_of X G a_law,
    n_isinstance := PySem.W.mg_none_of X G z_isinstance,
    n_bool := PySem.W.mg_none_of X G z_bool,
    n_int := PySem.W.mg_none_of X G z_int,
    n_tuple := PySem.W.mg_none_of X G z_tuple,
    n_len := PySem.W.mg_none_of X G z_len,
    n_abs := PySem.W.mg_none_of X G z_abs,
    m_gcd := PySem.W.mg_of X G i_gcd,
    c_RanError := C_RanError, g_RanError := PySem.W.mg_of X G g_RanError,
    c_NoFraction := C_NoFraction, g_NoFraction := PySem.W.mg_of X G g_NoFraction,
    x_NoFraction := x_NoFraction, k_NoFraction := kc_NoFraction, b_NoFraction := b_NoFraction, t_NoFraction := t_NoFraction, e_NoFraction := exm_self b_NoFraction ic_NoFraction t_NoFraction sc_NoFraction }
  exact ⟨T.d_law, fun s u => .of_eq rfl, fun base _ _ => ok_all T⟩
theorem walk_law {l : PySem.W.OpenLaw} {q : Program} {loose : List Str} {XP : (Str → Option Value) → Heap → Prop} {YP : World → Heap → Prop} {d : DefRec} {K : Params → PySem.W.Frag} (hn : l.most = some 63) (hdf : d.params.defaults = [])
    (hY : ∀ (w : World) (h : Heap), YP w h → (K w.params).In h)
    (F : ∀ (w : World) (mg : Str → Option Value) (fa : Addr) (h : Heap), (K w.params).In h → h.Ns mainGlobals mg → mg d.name = some (.ref fa) →
      ∃ fd : FuncData, (∀ (s : Shared) (u : Value), BindsTo s fd ⟨[u], []⟩ [("_law_script", u)]) ∧ ∀ base : Heap, (K w.params).In base → base.Ns mainGlobals mg → FnOk l.prog w (K w.params) mg base CX0 6 fa fd ["_law_script"] (sp_law (K w.params))) :
    PySem.W.WalkO q loose XP YP l.row.toRowW d [] (fun f vs => PySem.call f vs) :=
  L2.walk_of (n := 63) (k := 6) (x := "_law_script") (CX := fun _ => CX0) (sp := fun w => sp_law (K w.params)) hn (by decide) hdf ⟨rfl, by decide, by decide⟩ hY F (fun _ _ a ns hl _ hS => ⟨a, ns, rfl, hS, hl, fun _ => rfl⟩) fun _ _ _ _ _ z => z
end My
open PySem PySem.W PyProof.Rows
set_option maxRecDepth 100000 in
set_option maxHeartbeats 0 in
theorem PySem.Challenge.cw_whatran_k01_shares_as_fractions_holds : PySem.Challenge.rw_whatran_k01_shares_as_fractions.Holds := by
  w_on; o_law; k_head; (case hw => w_witness2)
  k_fill
  refine My.walk_law (l := PySem.Challenge.rw_whatran_k01_shares_as_fractions) rfl rfl (fun w h Y => PySem.W.kIn_of Y) ?F
  case F =>
    intro w mg fa h KX G hmg
    refine' My.all_mk KX G hmg ?a_is_whole ?l_is_whole ?c_is_whole ?k_is_whole ?a_fraction ?l_fraction ?c_fraction ?k_fraction ?dl_fraction ?a_is_fraction ?l_is_fraction ?c_is_fraction ?k_is_fraction ?a_plus ?l_plus ?c_plus ?k_plus ?a_minus ?l_minus ?c_minus ?k_minus ?a_times ?l_times ?c_times ?k_times ?a_shared ?l_shared ?c_shared ?k_shared ?a_need_fractions ?l_need_fractions ?c_need_fractions ?k_need_fractions ?a_l_well ?l_l_well ?c_l_well ?k_l_well ?a_l_draw ?l_l_draw ?c_l_draw ?k_l_draw ?a_l_one ?l_l_one ?c_l_one ?k_l_one ?a_l_great ?l_l_great ?c_l_great ?k_l_great ?a_l_lowest ?l_l_lowest ?c_l_lowest ?k_l_lowest ?a_l_told ?l_l_told ?c_l_told ?k_l_told ?a_l_bounds_right ?l_l_bounds_right ?c_l_bounds_right ?k_l_bounds_right ?a_law ?l_law ?c_law ?k_law ?z_isinstance ?z_bool ?z_int ?z_tuple ?z_len ?z_abs ?i_gcd ?g_RanError ?g_NoFraction ?x_NoFraction ?kc_NoFraction ?b_NoFraction ?t_NoFraction ?ic_NoFraction ?sc_NoFraction
    (case a_is_whole => k_is)
    (case l_is_whole => k_is)
    (case c_is_whole => k_is)
    (case k_is_whole => k_is)
    (case a_fraction => k_is)
    (case l_fraction => k_is)
    (case c_fraction => k_is)
    (case k_fraction => k_is)
    (case dl_fraction => k_is)
    (case a_is_fraction => k_is)
    (case l_is_fraction => k_is)
    (case c_is_fraction => k_is)
    (case k_is_fraction => k_is)
    (case a_plus => k_is)
    (case l_plus => k_is)
    (case c_plus => k_is)
    (case k_plus => k_is)
    (case a_minus => k_is)
    (case l_minus => k_is)
    (case c_minus => k_is)
    (case k_minus => k_is)
    (case a_times => k_is)
    (case l_times => k_is)
    (case c_times => k_is)
    (case k_times => k_is)
    (case a_shared => k_is)
    (case l_shared => k_is)
    (case c_shared => k_is)
    (case k_shared => k_is)
    (case a_need_fractions => k_is)
    (case l_need_fractions => k_is)
    (case c_need_fractions => k_is)
    (case k_need_fractions => k_is)
    (case a_l_well => k_is)
    (case l_l_well => k_is)
    (case c_l_well => k_is)
    (case k_l_well => k_is)
    (case a_l_draw => k_is)
    (case l_l_draw => k_is)
    (case c_l_draw => k_is)
    (case k_l_draw => k_is)
    (case a_l_one => k_is)
    (case l_l_one => k_is)
    (case c_l_one => k_is)
    (case k_l_one => k_is)
    (case a_l_great => k_is)
    (case l_l_great => k_is)
    (case c_l_great => k_is)
    (case k_l_great => k_is)
    (case a_l_lowest => k_is)
    (case l_l_lowest => k_is)
    (case c_l_lowest => k_is)
    (case k_l_lowest => k_is)
    (case a_l_told => k_is)
    (case l_l_told => k_is)
    (case c_l_told => k_is)
    (case k_l_told => k_is)
    (case a_l_bounds_right => k_is)
    (case l_l_bounds_right => k_is)
    (case c_l_bounds_right => k_is)
    (case k_l_bounds_right => k_is)
    (case a_law => k_is)
    (case l_law => k_is)
    (case c_law => k_is)
    (case k_law => k_is)
    (case z_isinstance => k_is)
    (case z_bool => k_is)
    (case z_int => k_is)
    (case z_tuple => k_is)
    (case z_len => k_is)
    (case z_abs => k_is)
    (case i_gcd => k_is)
    (case g_RanError => k_is)
    (case g_NoFraction => k_is)
    (case x_NoFraction => k_exc)
    (case kc_NoFraction => k_is)
    (case b_NoFraction => k_is)
    (case t_NoFraction => k_is)
    (case ic_NoFraction => k_is)
    (case sc_NoFraction => first | rfl | k_is)

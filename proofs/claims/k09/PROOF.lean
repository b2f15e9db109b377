import PyProof.Rows.All
import Wide.All
import OpenK.AllK
import Wide.FinOn
import HandS.ForMost
import HandS.ForExc
import HandS.IsInst
import HandS.CallLocal
import HandS.CallSlots
import HandS.Gcd
import HandS.Wide
import HandS.Defaults
import HandS.Flow
import HandS.TryMany
import HandS.Star
import PyProof.CollectIter
import PyProof.WalksMore
import HandS.Ends
import HandS.Comp
import HandS.More
import HandS.WordsExc
import HandS.Text
import PyProof.ReprLen
import HandS.TupLe
import PySem.Challenge.RW_whatran_k09_conditions_as_texts
set_option Elab.async false
set_option linter.all false
set_option maxRecDepth 100000
set_option maxHeartbeats 4000000
namespace My
open PySem PySem.Spec PyProof.Rows L2
/-! ### readings by small steps -/
section
variable {K : PySem.W.Frag} {σ : L2.St} {H : Hp} {Q : VK} {D : Ends} {t u : TS} {ta tb te : TE} {c d : TT} {v x y : V} {r : R2}
theorem x_seq (h : t { D with nx := u D } σ H) : tSeq t u D σ H := h
theorem x_next (h : D.nx σ H) : tNext D σ H := h
theorem x_if {c : TT} (P : Bool → Hp → Prop) (hc : ∀ Q : Bool → Hp → Prop, (∀ b H', P b H' → Q b H') → c σ H Q) (h1 : ∀ H', P true H' → t D σ H') (h0 : ∀ H', P false H' → u D σ H') : tIfS c t u D σ H :=
  hc _ fun b H' p => by
    cases b with
    | true => exact (if_pos rfl : (if true = true then t D σ H' else u D σ H') = _) ▸ h1 H' p
    | false => exact (if_neg Bool.false_ne_true : (if false = true then t D σ H' else u D σ H') = _) ▸ h0 H' p
theorem x_asg {i : Nat} (P : V → Hp → Prop) (he : ∀ Q : VK, (∀ v H', P v H' → Q v H') → te σ H Q) (h : ∀ v H', P v H' → D.nx (σ.set i (some v)) H') : tAsg te (gName i) D σ H := he _ h
theorem x_drop (P : V → Hp → Prop) (he : ∀ Q : VK, (∀ v H', P v H' → Q v H') → te σ H Q) (h : ∀ v H', P v H' → D.nx σ H') : tDrop te D σ H := he _ h
theorem x_ret (P : V → Hp → Prop) (he : ∀ Q : VK, (∀ v H', P v H' → Q v H') → te σ H Q) (h : ∀ v H', P v H' → D.rt v H') : tRet te D σ H := he _ h
theorem x_cut (P : V → Hp → Prop) (he : ∀ Q : VK, (∀ v H', P v H' → Q v H') → te σ H Q) (h : ∀ v H', P v H' → Q v H') : te σ H Q := he _ h
theorem e_asg {i : Nat} (he : te σ H fun v H' => D.nx (σ.set i (some v)) H') : tAsg te (gName i) D σ H := he
theorem e_asgG {g : TG} (he : te σ H fun x H1 => g x σ H1 D.nx) : tAsg te g D σ H := he
theorem e_drop (he : te σ H fun _ H' => D.nx σ H') : tDrop te D σ H := he
theorem e_ret (he : te σ H D.rt) : tRet te D σ H := he
theorem e_if {c : TT} (h : c σ H fun b H1 => if b = true then t D σ H1 else u D σ H1) : tIfS c t u D σ H := h
theorem e_var {i : Nat} (h : σ[i]? = some (some v)) (q : Q v H) : tVar i σ H Q := ⟨v, h, q⟩
theorem e_c (q : Q v H) : tC v σ H Q := q
theorem e_op (h : ta σ H fun x H1 => tb σ H1 fun y H2 => r x y H2 Q) : tOp r ta tb σ H Q := h
theorem e_un {r : V → Hp → VK → Prop} (h : ta σ H fun x H1 => r x H1 Q) : tUn r ta σ H Q := h
theorem e_cb {r : List V → Hp → VK → Prop} {ts : TA} (h : ts σ H fun vs H1 => r vs H1 Q) : tCB r ts σ H Q := h
theorem e_cons {tr : TA} {Q : List V → Hp → Prop} (h : te σ H fun x H1 => tr σ H1 fun xs H2 => Q (x :: xs) H2) : tCons te tr σ H Q := h
theorem e_nil {Q : List V → Hp → Prop} (h : Q [] H) : tNil σ H Q := h
theorem e_tB {Q : Bool → Hp → Prop} (h : te σ H fun x H1 => ∃ c, x = .bl c ∧ Q c H1) : tB te σ H Q := h
theorem e_test {Q : Bool → Hp → Prop} (h : te σ H fun x H1 => ∃ c, x = .bl c ∧ Q c H1) : tTest te σ H Q := h
theorem e_not {Q : Bool → Hp → Prop} (h : c σ H fun b H1 => Q (!b) H1) : tNot c σ H Q := h
theorem e_and {Q : Bool → Hp → Prop} (h : c σ H fun b H1 => if b = true then d σ H1 Q else Q false H1) : tAnd c d σ H Q := h
theorem e_or {Q : Bool → Hp → Prop} (h : c σ H fun b H1 => if b = true then Q true H1 else d σ H1 Q) : tOr c d σ H Q := h
theorem e_andV (h : ta σ H fun x H1 => ∃ c, x = .bl c ∧ if c = true then tb σ H1 Q else Q (.bl false) H1) : tAndV ta tb σ H Q := h
theorem e_orV (h : ta σ H fun x H1 => ∃ c, x = .bl c ∧ if c = true then Q (.bl true) H1 else tb σ H1 Q) : tOrV ta tb σ H Q := h
theorem e_notV (h : ta σ H fun x H1 => ∃ c, x = .bl c ∧ Q (.bl (!c)) H1) : tNotV ta σ H Q := h
theorem e_I0 {g : Int → Int → V} {i j : Int} (h : Q (g i j) H) : rI0 g (.int i) (.int j) H Q := ⟨i, j, rfl, rfl, h⟩
theorem e_I {C : Int → Int → Prop} {g : Int → Int → V} {i j : Int} (hc : C i j) (h : Q (g i j) H) : rI C g (.int i) (.int j) H Q := ⟨i, j, rfl, rfl, hc, h⟩
theorem e_U {g : Int → V} {i : Int} (h : Q (g i) H) : rU g (.int i) H Q := ⟨i, rfl, h⟩
theorem e_eq (hs : scal x y = true) (h : Q (.bl (decide (x = y))) H) : rEq x y H Q := ⟨hs, h⟩
theorem e_ne (hs : scal x y = true) (h : Q (.bl (!decide (x = y))) H) : rNe x y H Q := ⟨hs, h⟩
theorem e_eqI {i j : Int} (h : Q (.bl (decide (i = j))) H) : rEq (.int i) (.int j) H Q := ⟨rfl, by
  have e : decide (V.int i = V.int j) = decide (i = j) := decide_eq_decide.mpr ⟨fun q => V.int.inj q, fun q => congrArg _ q⟩
  rw [e]
  exact h⟩
theorem e_neI {i j : Int} (h : Q (.bl (!decide (i = j))) H) : rNe (.int i) (.int j) H Q := ⟨rfl, by
  have e : decide (V.int i = V.int j) = decide (i = j) := decide_eq_decide.mpr ⟨fun q => V.int.inj q, fun q => congrArg _ q⟩
  rw [e]
  exact h⟩
theorem e_bl {P : Bool → Prop} {b : Bool} (h : P b) : ∃ c, V.bl b = V.bl c ∧ P c := ⟨b, rfl, h⟩
theorem e_nn {A : Prop} (h : A) : V.non = V.non ∧ A := ⟨rfl, h⟩
theorem dec_nn : decide (V.non = V.non) = true := rfl
theorem dec_in (i : Int) : decide (V.int i = V.non) = false := rfl
theorem dec_rn (i : Addr) : decide (V.ref i = V.non) = false := rfl
theorem dec_bn (i : Bool) : decide (V.bl i = V.non) = false := rfl
theorem dec_sn (i : Str) : decide (V.str i = V.non) = false := rfl
theorem e_call {sp : Sp} {E : XK} {ts : TA} (h : ts σ H fun vs H1 => sp vs H1 Q E) : tCall sp [] E ts σ H Q := by
  unfold tCall
  have e : (fun (vs : List V) (H1 : Hp) => sp (vs ++ []) H1 Q E) = fun vs H1 => sp vs H1 Q E := by
    funext vs H1
    rw [List.append_nil]
  rw [e]
  exact h
theorem e_ixL {p : Addr} {xs : List V} {i : Int} (hs : SqL K H p xs) (ha : atI xs i = some v) (h : Q v H) : rIxL K (.ref p) (.int i) H Q := ⟨p, xs, i, v, rfl, rfl, hs, ha, h⟩
theorem e_ixT {p : Addr} {xs : List V} {i : Int} (hs : SqT K H p xs) (ha : atI xs i = some v) (h : Q v H) : rIxT K (.ref p) (.int i) H Q := ⟨p, xs, i, v, rfl, rfl, hs, ha, h⟩
theorem e_setL {p : Addr} {xs : List V} {i : Int} {j : Nat} {Q : Hp → Prop} (hp : H p = some (.lst xs)) (hj : ixN xs.length i = some j) (h : Q (upd H p (.lst (xs.set j v)))) : rSetL (.ref p) (.int i) v H Q := ⟨p, xs, i, j, rfl, rfl, hp, hj, h⟩
theorem e_sub {to ti : TE} {ts : TSet} {Q : L2.St → Hp → Prop} (h : to σ H fun o H1 => ti σ H1 fun i H2 => ts o i v H2 fun H3 => Q σ H3) : gSub to ti ts v σ H Q := h
theorem e_lst {ts : TA} (h : ts σ H fun xs H1 => xs.length ≤ sizeLine ∧ ∀ p, H1 p = none → Q (.ref p) (upd H1 p (.lst xs))) : tLst ts σ H Q := h
theorem e_tup {ts : TA} (h : ts σ H fun xs H1 => xs.length ≤ sizeLine ∧ ∀ p, H1 p = none → Q (.ref p) (upd H1 p (.tup xs))) : tTup ts σ H Q := h
theorem e_ite2 {p : Prop} [Decidable p] {A B : Prop} (h1 : p → A) (h2 : ¬ p → B) : if decide p = true then A else B := by
  by_cases h : p
  · rw [if_pos (decide_eq_true h)]
    exact h1 h
  · rw [if_neg (by simp [h])]
    exact h2 h
end
/-! ### heaps -/
/-- all but the object at a is as it was -/
def Off (a : Addr) (H H' : Hp) : Prop := ∀ b o, b ≠ a → H b = some o → H' b = some o
theorem Off.refl (a : Addr) (H : Hp) : Off a H H := fun _ _ _ h => h
theorem Off.trans {a : Addr} {H H1 H2 : Hp} (x : Off a H H1) (y : Off a H1 H2) : Off a H H2 := fun b o n h => y b o n (x b o n h)
theorem Off.same {a : Addr} {H H' : Hp} (x : Same H H') : Off a H H' := fun b o _ h => x b o h
theorem Off.upd {a : Addr} {H H' : Hp} {o : HO} (x : Off a H H') : Off a H (upd H' a o) := fun b u n h => by
  rw [upd_ne n]
  exact x b u n h
theorem same_new {H : Hp} {p : Addr} (h : H p = none) (o : HO) : Same H (upd H p o) := fun b u q => by
  rw [upd_ne (ne_of_none q h)]
  exact q
/-- a list of three ints at a -/
def Wl (H : Hp) (a : Addr) : Prop := ∃ x y z : Int, H a = some (.lst [.int x, .int y, .int z])
theorem Wl.same {H H' : Hp} {a : Addr} (s : Same H H') (h : Wl H a) : Wl H' a := by
  obtain ⟨x, y, z, e⟩ := h
  exact ⟨x, y, z, s _ _ e⟩
theorem Wl.ne {H : Hp} {a p : Addr} (h : Wl H a) (hp : H p = none) : p ≠ a := by
  obtain ⟨x, y, z, e⟩ := h
  exact fun q => by rw [q, e] at hp; cases hp
/-! ### kinds -/
def names : List String := ["NoneType", "bool", "int", "str", "list", "tuple", "dict"]
def kb (n m : String) : Bool := n == m || (n == "bool" && m == "int")
theorem kit_any {K : PySem.W.Frag} {n m : String} (h : n ∈ names) (h2 : m ∈ names) : PySem.W.kitOne K (.type n) (.type m) = some (kb n m) := by
  simp only [names, List.mem_cons, List.mem_nil_iff, or_false] at h h2
  rcases h with rfl | rfl | rfl | rfl | rfl | rfl | rfl <;> rcases h2 with rfl | rfl | rfl | rfl | rfl | rfl | rfl <;> exact kit_ty (by decide +kernel)
/-- what a thing is, as far as isinstance asks -/
inductive Th (K : PySem.W.Frag) (H : Hp) : V → String → Prop
  | non : Th K H .non "NoneType"
  | bl (b : Bool) : Th K H (.bl b) "bool"
  | int (i : Int) : Th K H (.int i) "int"
  | str (x : Str) : Th K H (.str x) "str"
  | ref {p : Addr} {n : String} (h : TyX K H (.ref p) (.type n)) (hn : n = "list" ∨ n = "tuple" ∨ n = "dict") : Th K H (.ref p) n
theorem Th.tyx {K : PySem.W.Frag} {H : Hp} {x : V} {n : String} (h : Th K H x n) : TyX K H x (.type n) := by
  cases h with
  | non => exact .base .non
  | bl b => exact .base (.bl b)
  | int i => exact .base (.int i)
  | str x => exact .base (.str x)
  | ref h _ => exact h
theorem Th.mem {K : PySem.W.Frag} {H : Hp} {x : V} {n : String} (h : Th K H x n) : n ∈ names := by
  cases h with
  | non => decide
  | bl b => decide
  | int i => decide
  | str x => decide
  | ref h hn => rcases hn with rfl | rfl | rfl <;> decide
theorem e_isi {K : PySem.W.Frag} {H : Hp} {x : V} {n m : String} {Q : VK} (hT : Th K H x n) (hm : m ∈ names) (q : Q (.bl (kb n m)) H) : rIsi K [x, .ty m] H Q :=
  ⟨_, _, _, _, _, rfl, .ty _, hT.tyx, kit_any hT.mem hm, q⟩
end My

set_option Elab.async false
set_option linter.all false
set_option maxRecDepth 100000
set_option maxHeartbeats 4000000
namespace My
open PySem PySem.Spec PyProof.Rows L2
section
variable {X : Cx}
def CDivZ (_ j : Int) : Prop := j ≠ 0 ∧ j.natAbs.log2 < 9000
theorem op_fdivZ : OpR X (binaryOp .FloorDiv) (rI CDivZ fun i j => .int (i.fdiv j)) := opI fun i j _ _ _ _ _ hc q =>
  floordiv_int hc.1 q (.inl (PyProof.noPylong_of_log2 hc.2))
/-- what a def of several, held by a slot, may be -/
structure HeldX (P : Program) (w : World) (K : PySem.W.Frag) (mg : Str → Option Value) (base : Heap) (k : Nat) (f : Addr) (sp : Sp) : Prop where
  ex : ∃ (fd : FuncData) (ps : List Str), FnOk P w K mg base (L2.CX P w) k f fd ps sp ∧ PySem.W.keepIn K (.ref f) = true ∧ Binds K fd ps []
def tCallAS (i : Nat) (S : Addr → Sp → Prop) (W : WX) (t : TA) : TE := fun σ H Q => ∃ f sp, σ[i]? = some (some (.ref f)) ∧ S f sp ∧ t σ H fun vs H1 => sp vs H1 Q (WE W σ)
theorem pe_callAS {k i : Nat} {x : Str} {p pos : Pos} {e : Expr} {es : List Expr} {t : TA} {W : WX} {S : Addr → Sp → Prop} (A : ∀ f sp, S f sp → HeldX X.prog X.w X.K X.mg X.base k f sp) (hr : Room k X.A) (hN : X.N[i]? = some x) (hv : Vis X.env.scope x) (tk : Takes X W) (ha : PA X (e :: es) t)
    (hdb : (x == ("__debug__" : Str)) = false := by decide) (hcd : (x == ("__classdict__" : Str)) = false := by decide)
    (he : starEach (e :: es) X.env = (false, eval e X.env) :: starEach es X.env := by rfl) (hpl : (backTo pos (starEach es X.env)).any (·.1) = false := by rfl) : PE X (.Call (.Name x p) (e :: es) [] pos) (tCallAS i S W t) := by
  refine ⟨fun pins s σ H Q I h => ?_⟩
  obtain ⟨f, sp, hs, hS, ht⟩ := h
  obtain ⟨fd, ps, F, hk, hb⟩ := (A f sp hS).ex
  refine wpAny_Call_Name_kw (thn ((pe_var (pos := p) hN hv hdb hcd).run pins s σ H (fun v H1 => v = .ref f ∧ H1 = H) I ⟨.ref f, hs, rfl, rfl⟩) fun u s1 ⟨v, H1, I1, r1, q1⟩ => ?_)
  obtain ⟨rfl, rfl⟩ := q1
  cases r1
  refine PySem.W.callWith_K (h₀ := X.base) I.ok.mod.kin hk (thn (ha.run pos pins s1 σ _ _ I1 ht) fun us s2 ⟨vs, H2, I2, r, q⟩ => ⟨I2.kIn, ?_⟩) he hpl
  exact run_fnS F hr hb (passAt tk σ) I2 r q
end
theorem x_while {c : TT} {tb : TS} {D : Ends} {σ : L2.St} {H : Hp} (Pv : L2.St → Hp → Prop) (μ : L2.St → Hp → Nat) (h0 : Pv σ H)
    (hs : ∀ σ H, Pv σ H → ∃ b, (∀ Q : Bool → Hp → Prop, Q b H → c σ H Q) ∧ (b = true → tb { D with nx := fun σ' H' => Pv σ' H' ∧ μ σ' H' < μ σ H, ct := fun σ' H' => Pv σ' H' ∧ μ σ' H' < μ σ H, bk := D.nx } σ H) ∧ (b = false → D.nx σ H)) : tWhile c tb D σ H := by
  refine ⟨fun m σ H => m = μ σ H ∧ Pv σ H, ⟨_, rfl, h0⟩, ?_⟩
  rintro m σ H ⟨rfl, p⟩
  obtain ⟨b, hc, h1, h2⟩ := hs σ H p
  refine hc _ ?_
  cases b with
  | true => exact ⟨_, fun σ' H' ⟨p', l⟩ => ⟨_, l, rfl, p'⟩, h1 rfl⟩
  | false => exact h2 rfl
end My
namespace My
open PySem PySem.Spec PyProof.Rows L2
section
variable {K : PySem.W.Frag} {tl : TE} {g : TG} {tb : TS} {D : Ends} {σ : L2.St} {H : Hp}
theorem x_forL (R : Addr → List V → Hp → Prop) (he : ∀ Q : VK, (∀ a xs H1, SqL K H1 a xs → R a xs H1 → Q (.ref a) H1) → tl σ H Q)
    (hb : ∀ a xs H1, SqL K H1 a xs → R a xs H1 → ∃ Pv : Nat → L2.St → Hp → Prop, Pv 0 σ H1 ∧ (∀ i σ H, i ≤ xs.length → Pv i σ H → SqL K H a xs) ∧
      (∀ i x σ H, xs[i]? = some x → Pv i σ H → g x σ H fun σ2 H2 => tb { D with nx := Pv (i + 1), ct := Pv (i + 1), bk := D.nx } σ2 H2) ∧ (∀ σ H, Pv xs.length σ H → D.nx σ H)) : tFor (iList K tl) g tb D σ H := by
  show tl σ H _
  refine he _ fun a xs H1 hs hr => ?_
  obtain ⟨Pv, h0, hl, ht, hd⟩ := hb a xs H1 hs hr
  exact ⟨a, rfl, ⟨xs, hs⟩, for_list (K := K) (a := a) (xs := xs) Pv h0 hl ht hd⟩
theorem x_forT (R : Addr → List V → Hp → Prop) (he : ∀ Q : VK, (∀ a xs H1, SqT K H1 a xs → R a xs H1 → Q (.ref a) H1) → tl σ H Q)
    (hb : ∀ a xs H1, SqT K H1 a xs → R a xs H1 → ∃ Pv : Nat → L2.St → Hp → Prop, Pv 0 σ H1 ∧ (∀ i σ H, i ≤ xs.length → Pv i σ H → SqT K H a xs) ∧
      (∀ i x σ H, xs[i]? = some x → Pv i σ H → g x σ H fun σ2 H2 => tb { D with nx := Pv (i + 1), ct := Pv (i + 1), bk := D.nx } σ2 H2) ∧ (∀ σ H, Pv xs.length σ H → D.nx σ H)) : tFor (iTup K tl) g tb D σ H := by
  show tl σ H _
  refine he _ fun a xs H1 hs hr => ?_
  obtain ⟨Pv, h0, hl, ht, hd⟩ := hb a xs H1 hs hr
  exact ⟨a, rfl, ⟨xs, hs⟩, for_tup (K := K) (a := a) (xs := xs) Pv h0 hl ht hd⟩
end
end My

set_option Elab.async false
set_option linter.all false
set_option maxRecDepth 100000
set_option maxHeartbeats 4000000
namespace My
open PySem PySem.Spec PyProof.Rows L2
theorem dict_eq_declines_int (l : Addr) (o : Obj) (es : Array DictEntry) (ep : Nat) (hc : o.cls = .type "dict") (hd : o.data = .dict es ep) (b : Int) (u : Tok) :
    Meets (Builtin.«dict.__eq__» ⟨[.ref l, .int b u], []⟩) (fun _ R s => s.heap.get? l = some o ∧ R (.ok (.ret .notImplemented)) s) :=
  .of_wp fun prog w A R s h => by obtain ⟨hp, g, d, tk, os⟩ := s; obtain ⟨hl, h⟩ := h; have f1 := F.sub_int_dict; wp_walk using wpAny_loadPart' hl, wpAny_load hl; exact ⟨_, rfl, h⟩
theorem int_eq_declines_dict (l : Addr) (c : Value) (es : Array DictEntry) (ep : Nat) (dd : Option Addr) (sl : Array (Option Value)) (b : Int) (u : Tok) :
    Meets (Builtin.«int.__eq__» ⟨[.int b u, .ref l], []⟩) (fun _ R s => s.heap.get? l = some { cls := c, dict := dd, data := .dict es ep, slots := sl } ∧ R (.ok (.ret .notImplemented)) s) :=
  .of_wp fun prog w A R s h => by obtain ⟨hp, g, d, tk, os⟩ := s; obtain ⟨hl, h⟩ := h; wp_walk using wpAny_loadPart' hl, wpAny_load hl; exact ⟨_, rfl, h⟩
section
variable {A : Around} {s : Shared} {prog : Program} {w : World}
theorem rc_dict_int {l : Addr} {es : Array DictEntry} {ep : Nat} {dd : Option Addr} {sl : Array (Option Value)} (ho : s.heap.get? l = some { cls := .type "dict", dict := dd, data := .dict es ep, slots := sl }) (b : Int) (u : Tok) (hu : A.units < cLine)
    {E : Value → Shared → Prop} {Q : Value → Shared → Prop} (h : Q (.bool false) s) : wpAny (model prog w) A (richCompare .Eq (.ref l) (.int b u)) Q E s :=
  SeqAt.rc_eq_decline_or (k := false) ⟨_, ho, rfl⟩ (typeIs_int s b u) (by decide) F.sub_int_dict F.slot_dict_eq F.slot_int_eq_refl
    (fun _ hq => call_meets F.slot_dict_eq ⟨_, ho, rfl⟩ F.entry_dict_eq (F.args_dict_eq_2 _ _) (dict_eq_declines_int l _ es ep rfl rfl b u) ⟨ho, hq⟩)
    (fun _ hq => call_meets F.slot_int_eq_refl (typeIs_int s b u) F.entry_int_eq (F.args_int_eq_2 _ _) (int_eq_declines_dict l (.type "dict") es ep dd sl b u) ⟨ho, hq⟩)
    (fun _ hq => wpAny_of_eq (rfl : isSame (.ref l) (.int b u) = pure false) hq) (.inr hu) h
end
/-- == of data, and of a dict with an int -/
def rEqG (K : PySem.W.Frag) : R2 := fun x y H Q => rEqD K x y H Q ∨ ∃ p kvs j, x = .ref p ∧ y = .int j ∧ H p = some (.dK kvs) ∧ Q (.bl false) H
theorem op_eqG {X : Cx} (hu : X.A.units + 64 < cLine) : OpR X (compareOp .Eq) (rEqG X.K) := by
  intro pins s σ H x y v u Q I rx ry h
  rcases h with h | ⟨p, kvs, j, rfl, rfl, hp, q⟩
  · exact op_eqD hu pins s σ H x y v u Q I rx ry h
  · cases (show v = Value.ref p from rx)
    obtain ⟨t, rfl⟩ := (show ∃ t, u = Value.int j t from ry)
    obtain ⟨_, _, vs, _, o, es, ep, h1, h2, h3, _⟩ := (show ObjOk X.prog X.w H s.heap p (.dK kvs) from I.hok p _ hp)
    obtain ⟨cls, dd, data, sl⟩ := o
    obtain ⟨e1, _, _⟩ := h2
    simp only at e1 h3
    subst e1 h3
    exact rc_dict_int h1 j t (by omega) ⟨.bl _, H, I, rfl, q⟩
end My
namespace My
open PySem PySem.Spec PyProof.Rows L2
/-- + of two lists that are read -/
def rCatL (K : PySem.W.Frag) : R2 := fun x y H Q => ∃ l b xs zs, x = .ref l ∧ y = .ref b ∧ SqL K H l xs ∧ SqL K H b zs ∧ xs.length + zs.length ≤ sizeLine ∧ ∀ p, H p = none → Q (.ref p) (upd H p (.lst (xs ++ zs)))
theorem op_catL {X : Cx} : OpR X (binaryOp .Add) (rCatL X.K) := by
  intro pins s σ H x y v u Q I rx ry h
  obtain ⟨l, b, xs, zs, rfl, rfl, hH, hB, hz, q⟩ := h
  cases rx
  cases ry
  obtain ⟨its, r, ⟨⟨cls, dd, data, sl⟩, n, ho, hc, hdn, hd⟩, hl⟩ := I.list hH
  obtain ⟨its2, r2, ⟨⟨cls2, dd2, data2, sl2⟩, n2, ho2, hc2, hdn2, hd2⟩, hl2⟩ := I.list hB
  simp only at hc hd hc2 hd2
  subst hc hd hc2 hd2
  have e1 := r.length
  have e2 := r2.length
  refine concat_meets ⟨_, ho, rfl⟩ ⟨_, ho2, rfl⟩ noFill_list_add seq_list_add PySem.F.slot_list_add PySem.F.entry_list_add (PySem.F.args_list_add_2 _ _) (list_addW l b its.toArray its2.toArray n n2 dd dd2 sl sl2 (by simp; omega)) ⟨ho, ho2, ?_⟩
  have ea : its.toArray ++ its2.toArray = (its ++ its2).toArray := by simp
  rw [ea]
  exact ⟨.ref _, _, I.lnew (t' := s.toks) (r.append r2) (by rw [List.length_append]; omega), rfl, q _ I.fresh⟩
theorem e_callD {sp : Sp} {dvs : List V} {E : XK} {ts : TA} {σ : L2.St} {H : Hp} {Q : VK} (h : ts σ H fun vs H1 => sp (vs ++ dvs) H1 Q E) : tCall sp dvs E ts σ H Q := h
theorem Off.same_of {a : Addr} {H H' : Hp} (x : Off a H H') (h : H a = none) : Same H H' := fun b o e => x b o (fun q => by rw [q, h] at e; cases e) e
end My

set_option Elab.async false
set_option linter.all false
set_option maxRecDepth 100000
set_option maxHeartbeats 4000000
namespace My
open PySem PySem.Spec PyProof.Rows L2
section
variable {prog : Program} {w : World} {A : Around} {E : Value → Shared → Prop} {s : Shared}
/-- what a tuple's iterator has ahead of it -/
theorem walks_tupIter {it t : Addr} {items : Array Value} (hne : t ≠ it) (hh : A.handled = none) (m : Nat) (hm : m ≤ items.size) :
    WalksS prog w A it [it, t] [it] (fun a b => a = b) (items.size - m) (fun j v => items[m + j]? = some v) (fun j s => IsTupIter s.heap it t (m + j) ∧ IsTup s.heap t items) where
  sub := fun b hb => by
    rw [List.mem_singleton.mp hb]
    exact List.mem_cons_self
  grefl := fun _ => rfl
  gtrans := fun _ _ _ x y => x.trans y
  frame := fun i s h' tk ⟨⟨o, h1, h2, h3⟩, ⟨o2, k1, k2⟩⟩ _ hk =>
    ⟨⟨o, hk it List.mem_cons_self o h1, h2, h3⟩, ⟨o2, hk t (List.mem_cons_of_mem _ List.mem_cons_self) o2 k1, k2⟩⟩
  item := fun i s Q E hi ⟨h1, h2⟩ hQ => by
    have hx : items[m + i]? = some items[m + i] := by simp
    refine next_tuple_item h1 h2 hx fun h' a b => hQ _ _ hx ⟨a, h2.extBut b.extBut hne⟩ ⟨fun c o hc e => ?_, rfl, rfl, rfl, Nat.le_refl _⟩
    exact b.extBut c o (fun z => hc (by rw [z]; exact List.mem_singleton.mpr rfl)) e
  done := fun s Q E ⟨h1, h2⟩ hQ => by
    refine next_tuple_end hh h1 h2 (by simp; omega) fun h' a => hQ _ ⟨fun c o hc e => ?_, rfl, rfl, rfl, Nat.le_refl _⟩
    exact a c o (fun z => hc (by rw [z]; exact List.mem_singleton.mpr rfl)) e
  self := fun i s Q E h hQ => wpAny_pyIter_tupleiter (t := t) (i := m + i) h.1 hQ
/-- a, *b = a tuple: its first item, and a new list of the others -/
theorem unpack_first {t : Addr} {x : Value} {xs : List Value} {targets : List (Bool × (Value → Sem Unit))} {Q : Unit → Shared → Prop} (hh : A.handled = none) (ht : IsTup s.heap t (x :: xs).toArray) (hz : xs.length ≤ sizeLine)
    (hn : targets.length = 2) (hst : targets.findIdx? (·.1) = some 1)
    (h : ∀ (h1 : Heap) (tk : Tok), (∀ (b : Addr) (o : Obj), s.heap.get? b = some o → h1.get? b = some o) →
      wpAny (model prog w) A (assignInOrder (targets.map (·.2)) [x, .ref h1.objs.size]) Q E { s with heap := h1.push { cls := .type "list", data := .seq xs.toArray }, toks := tk }) :
    wpAny (model prog w) A (unpack (.ref t) targets) Q E s := by
  have hlt : t ≠ s.heap.objs.size := by obtain ⟨o, ho, _⟩ := ht; exact Nat.ne_of_lt (Heap.lt_size ho)
  unfold unpack
  rw [hn, hst]
  refine wpAny_bind (wpAny_holding ?_)
  unfold unpackItems
  refine wpAny_bind ?_
  unfold notIterableAtAll
  refine wpAny_bind (wpAny_specialOf ht.typeIs slot_tuple_iter.lookup ?_)
  refine wpAny_pure ?_
  simp only [Bool.false_eq_true, if_false]
  refine wpAny_bind (wpAny_holding (iter_tuple ht ?_))
  refine wpAny_bind (wpAny_holding (draw_tuple hlt 1 0 _ _ ⟨_, Heap.get?_push_size _ rfl, rfl, rfl⟩ (ht.push _) (by simp) fun h₁ hit₁ hs₁ => ?_))
  have e1 : List.take 1 (List.drop 0 (x :: xs).toArray.toList) = [x] := by simp
  rw [e1]
  rw [if_neg (by simp)]
  have ht₁ : IsTup h₁ t (x :: xs).toArray := (ht.push _).extBut hs₁.extBut hlt
  have keep₁ : ∀ b o, s.heap.get? b = some o → h₁.get? b = some o := fun b o e => hs₁.extBut b o (Nat.ne_of_lt (Heap.lt_size e)) (Heap.get?_push_of_some _ e)
  have lt2 : ∀ b ∈ [s.heap.objs.size, t], b < h₁.objs.size := fun b hb => by
    rcases List.mem_cons.mp hb with e | hb
    · obtain ⟨o, ho, _⟩ := hit₁
      rw [e]
      exact Heap.lt_size ho
    · rw [List.mem_singleton.mp hb]
      obtain ⟨o, ho, _⟩ := ht₁
      exact Heap.lt_size ho
  refine wpAny_bind (wpAny_holding (wpAny_collect_iter (T := "tuple_iterator") (.inr (.inr (.inr rfl))) (walks_tupIter (A := A.in1) hlt hh 1 (by simp)) (fun i s h => ?_) ⟨hit₁, ht₁⟩ lt2 List.mem_cons_self (fun s' acc hm ha => ?_) (by simp; omega)))
  · obtain ⟨⟨o, k1, k2, _⟩, _⟩ := h
    exact ⟨o, k1, k2⟩
  · have ea : acc.toList = xs := by
      obtain ⟨hsz, hit⟩ := ha
      have hsz' : acc.size = xs.length := by simpa using hsz
      refine List.ext_getElem? fun j => ?_
      by_cases hj : j < acc.size
      · have hx : (x :: xs).toArray[1 + j]? = some acc[j] := hit j acc[j] (by simp [hj])
        rw [Nat.add_comm 1 j] at hx
        have hx2 : xs[j]? = some acc[j] := by simpa using hx
        rw [hx2]
        simp [hj]
      · rw [List.getElem?_eq_none (by simpa using hj), List.getElem?_eq_none (by omega)]
    rw [ea]
    have e2 : (2 - 1 - 1 : Nat) = 0 := rfl
    simp only [e2, Nat.not_lt_zero, if_false, Nat.sub_zero, List.take_length, List.drop_length, List.append_nil]
    refine wpAny_bind (wpAny_newObj_type (wpAny_pure ?_) (by show xs.toArray.size ≤ sizeLine; simpa using hz))
    obtain ⟨hp, gs, dr, tk, os⟩ := s'
    have e3 := hm.gens
    have e4 := hm.drawn
    have e5 := hm.os
    dsimp only at e3 e4 e5
    subst e3 e4 e5
    refine h hp tk fun b o e => hm.heap b o (fun z => ?_) (keep₁ b o e)
    rw [List.mem_singleton.mp z] at e
    exact absurd (Heap.lt_size e) (Nat.lt_irrefl _)
end
/-- a, *b = .. -/
def gStar (K : PySem.W.Frag) (t : TGs) : TG := fun v σ H Q => ∃ a x xs, v = .ref a ∧ SqT K H a (x :: xs) ∧ ∀ p, H p = none → t [x, .ref p] σ (upd H p (.lst xs)) Q
section
variable {X : Cx} {pos : Pos}
theorem pg_star {es es' : List Expr} {k : Nat} {t : TGs} (hc : X.calm = true) (h : PGs X es' t) (hE : (assignEach es X.env).map (·.2) = (assignEach es' X.env).map (·.2) := by rfl)
    (hn : (assignEach es X.env).length = 2 := by rfl) (hst : (assignEach es X.env).findIdx? (·.1) = some 1 := by rfl) : PG X (.Tuple es k pos) (gStar X.K t) := by
  refine ⟨fun pins s σ H v u Q I r hw => ?_⟩
  obtain ⟨a, x, xs, e1, hq, hw⟩ := hw
  subst e1
  cases r
  obtain ⟨its, rv, ht, hz⟩ := I.tuple hq
  cases rv with
  | @cons _ u us _ ru rus =>
    rw [PyProof.Rows.assign_Tuple]
    have hl := rus.length
    have hz' : (x :: xs).length ≤ sizeLine := hz
    rw [List.length_cons] at hz'
    refine wpAny_bind (wpAny_standAt (unpack_first (I.ok.hd hc) ht (by omega) hn hst fun h1 tk hk => ?_))
    have I1 : Inv X pins σ H { s with heap := h1, toks := tk } := I.kept hk
    have I2 := I1.lnew (t' := tk) rus (by omega)
    rw [hE]
    exact h.run pins _ σ _ [x, .ref h1.objs.size] _ Q I2 (.cons ru (.cons rfl .nil)) (hw _ I1.fresh)
end
end My

set_option Elab.async false
set_option linter.all false
set_option maxRecDepth 100000
set_option maxHeartbeats 4000000
namespace My
open PySem PySem.Spec PyProof.Rows L2
/-! ### promises of defs that are called where no repr is under way -/
structure FnG (P : Program) (w : World) (K : PySem.W.Frag) (mg : Str → Option Value) (base : Heap) (k : Nat) (f : Addr) (fd : FuncData) (ps : List Str) (sp : Sp) : Prop where
  len : ∀ vs H Q E, sp vs H Q E → vs.length = ps.length
  run : ∀ (A : Around) (outer : List Env) (s : Shared) (H : Hp) (args : Args) (us : List Value) (vs : List V) (Q : VK) (E : XK), A.guards = some [] → Room k A → Env0 P w K mg base A outer s H → BindsTo s fd args (ps.zip us) → Vals vs us → sp vs H Q E →
    codeAny (model P w) A (.call (.ref f) args) (CR CX0 outer P w H s Q E) s
section
variable {P : Program} {w : World} {K : PySem.W.Frag} {mg : Str → Option Value} {base : Heap} {x qual : Str} {st : Stmt} {f : Addr} {fd : FuncData} {N ps : List Str} {k : Nat} {sp : Sp}
theorem Fun.okG (F : Fun K x qual st f fd) (S : FnScope N ps (defScope st)) (len : ∀ vs H Q E, sp vs H Q E → vs.length = ps.length)
    (hbody : ∀ (cdv : Value) (A : Around) (outer : List Env) (s : Shared) (H : Hp) (vs : List V) (Q : VK) (E : XK), A.guards = some [] → Room k (A.deeper (envOfC qual (defScope st) s.heap.objs.size f cdv)) → sp vs H Q E →
      ∃ t, PSs (cxOf CX0 P w K mg base N qual (defScope st) f cdv A outer s H E).nox (defBody st) t ∧ t { nx := fun _ H' => Q .non H', rt := Q } (start N vs) H) : FnG P w K mg base (k + 1) f fd ps sp := by
  obtain ⟨oc, od, kV, doc, pm, an, cdv, ct, osl, rfl, lk, hcd⟩ := F.ex
  refine ⟨len, fun A outer s H args us vs Q E hg hr e0 hb r hsp => ?_⟩
  have hl := len _ _ _ _ hsp
  have KX : K.In s.heap := e0.mod.kin.keeps fun b o e => (e0.bs b o e).1
  have lim : s.heap.NoLimit := e0.mod.nolimit.keeps fun b o e => (e0.bs b o e).1
  refine codeAny_call_function hr.depth (KX _ _ lk) rfl S.co S.gen rfl (PySem.W.codeRec_of KX hcd) (hb _ _ _ _ ?_)
  refine wpAny_newFunctionEnv_cells S.kind (fun y hy => ?_) fun env he s1 z => ?_
  · obtain ⟨n, v⟩ := y
    rcases S.par n (List.of_mem_zip hy).1 with q | q
    · exact .inl q
    · exact .inr ⟨q, PySem.W.cellsFrom_some _ _ _ (.inl q)⟩
  subst he
  refine ⟨lim.keeps z.toInCall.keep, codeAny_func ?_⟩
  obtain ⟨t, ht, hq⟩ := hbody cdv A outer s H vs Q E hg (hr.deeper _) hsp
  refine wpAny_mono (ht.nox.run [] s1 (start N vs) H _ (inv_start S hr.hd e0 hl r z) hq) (fun fl s' hs => ?_) fun e s' hs => hs
  cases fl with
  | ret u =>
    obtain ⟨v, σ', H', J, rv, q⟩ := hs
    exact ⟨v, H', J.os, J.bare, J.base, J.hok, rv, q⟩
  | next =>
    obtain ⟨σ', H', J, q⟩ := hs
    exact ⟨.non, H', J.os, J.bare, J.base, J.hok, rfl, q⟩
  | brk => exact (let ⟨_, _, _, q⟩ := hs; False.elim q)
  | cont => exact (let ⟨_, _, _, q⟩ := hs; False.elim q)
end
section
variable {X : Cx} {x : Str} {p pos : Pos} {e : Expr} {es : List Expr} {t : TA}
/-- f(..), f such a def -/
theorem pe_callG {k : Nat} {f : Addr} {fd : FuncData} {ps : List Str} {sp : Sp} (F : FnG X.prog X.w X.K X.mg X.base k f fd ps sp) (hgd : X.A.guards = some []) (hr : Room k X.A) (hg : Gl X x) (hm : X.mg x = some (.ref f)) (hk : PySem.W.keepIn X.K (.ref f) = true) (hb : Binds X.K fd ps [])
    (ha : PA X (e :: es) t) (hdb : (x == ("__debug__" : Str)) = false := by decide) (he : starEach (e :: es) X.env = (false, eval e X.env) :: starEach es X.env := by rfl) (hpl : (backTo pos (starEach es X.env)).any (·.1) = false := by rfl) :
    PE X (.Call (.Name x p) (e :: es) [] pos) (tCall sp [] E0 t) := by
  refine ⟨fun pins s σ H Q I h => ?_⟩
  refine wpAny_Call_Name_kw (ld_glob I hg hm ?_ hdb)
  refine PySem.W.callWith_K (h₀ := X.base) I.ok.mod.kin hk (thn (ha.run pos pins s σ H _ I h) fun us s1 ⟨vs, H1, I1, r, q⟩ => ⟨I1.kIn, ?_⟩) he hpl
  have q : sp (vs ++ []) H1 Q E0 := q
  rw [List.append_nil] at q
  have hl : us.length = ps.length := by rw [← r.length]; exact F.len _ _ _ _ q
  have b := hb s1 us I1.kIn (by rw [List.append_nil]; exact hl)
  rw [List.append_nil] at b
  refine wpAny_call (codeAny_mono (F.run X.A X.stack s1 H1 ⟨us, []⟩ us vs Q E0 hgd hr I1.env0 b r q) fun r s' hq => ?_)
  cases r with
  | error e => exact False.elim hq
  | ok fl =>
    cases fl with
    | ret u => exact I1.after hq
    | next => exact False.elim hq
    | brk => exact False.elim hq
    | cont => exact False.elim hq
/-- repr(data) -/
def rReprD (K : PySem.W.Frag) : List V → Hp → VK → Prop := fun xs H Q => ∃ a d, xs = [.ref a] ∧ Dp K H (.ref a) d ∧ d.showable = true ∧ d.hasDict = false ∧ d.depth ≤ 64 ∧ d.shown.length ≤ sizeLine ∧ Q (.str d.shown) H
theorem call_reprD (hgd : X.A.guards = some []) (hu : X.A.units + 66 < cLine) : CallR X (.builtin "repr") (rReprD X.K) := by
  intro pins s σ H xs us Q I r h
  obtain ⟨a, d, rfl, hd, hs, hn, hdp, hz, q⟩ := h
  obtain ⟨u, rfl, rx⟩ := vals1 r
  obtain ⟨as, rd⟩ := Dp.reads I d _ u hd rx
  cases (show u = Value.ref a from rx)
  exact repr_of_reads' rd hs (PyData.noDict_hsm hn) hgd (by omega) (fun _ _ e => e) (fun h' u tk hk => ⟨.str d.shown, H, I.kept hk, ⟨_, rfl⟩, q⟩) hz
end
section
/-- the law's call, from a promise that holds where no repr is under way -/
theorem law_callG {P : Program} {w : World} {K : PySem.W.Frag} {mg mb : Str → Option Value} {k : Nat} {fa a : Addr} {fd : FuncData} {x : Str} {sp : Sp} {s₁ : Shared} {vs : List Value} {ns : List Int}
    (KX : K.In s₁.heap) (hns : s₁.heap.Ns mainGlobals mg) (hb : s₁.heap.Ns builtinsNs mb) (hbb : ∀ x : Str, x ≠ "__name__" → mb x = bootBuiltins x) (hlim : s₁.heap.NoLimit) (hg : s₁.gens = #[])
    (ha : s₁.heap.get? a = some { cls := .type "list", data := .seq vs.toArray }) (hi : IntsAre vs ns) (hl : ns.length ≤ sizeLine) (hr : Room k callerA)
    (F : ∀ base : Heap, K.In base → base.Ns mainGlobals mg → FnG P w K mg base k fa fd [x] sp) (hbind : ∀ (s : Shared) (u : Value), BindsTo s fd ⟨[u], []⟩ [(x, u)])
    (hsp : ∀ H : Hp, Only H → SqL K H a (ns.map V.int) → sp [.ref a] H (fun v _ => v = .bl true) fun _ _ _ => False) :
    codeAny (model P w) callerA (.call (.ref fa) ⟨[.ref a], []⟩) (fun r s' => r = .ok (.ret (.bool true)) ∧ OldK s₁.heap s'.heap ∧ s'.os = s₁.os ∧ AllBare s'.gens) s₁ := by
  have rv := vals_ints hi
  have lenV := hi.length
  have core : ∀ H : Hp, Only H → SqL K H a (ns.map V.int) → HOk P w H s₁.heap → (∀ b, H b ≠ none → b = a) → (H a ≠ none → K.lookup a = none) →
      codeAny (model P w) callerA (.call (.ref fa) ⟨[.ref a], []⟩) (fun r s' => r = .ok (.ret (.bool true)) ∧ OldK s₁.heap s'.heap ∧ s'.os = s₁.os ∧ AllBare s'.gens) s₁ := by
    intro H hO hS hok hA hK
    have only : ∀ {b : Addr}, b ≠ a → H b = none := fun {b} n => by
      cases q : H b with
      | none => rfl
      | some u => exact absurd (hA b (by rw [q]; simp)) n
    have base_of : ∀ {b : Addr} {o : Obj}, s₁.heap.get? b = some o → H b = none → (hidT s₁.heap H).get? b = some o := fun e n => hidT_get e n
    have nsK : ∀ {b : Addr} {m : Str → Option Value}, s₁.heap.Ns b m → (hidT s₁.heap H).Ns b m := fun {b m} ⟨o, es, ep, e, d, r⟩ => by
      refine ⟨o, es, ep, base_of e (only fun z => ?_), d, r⟩
      rw [z, ha] at e
      cases e
      have d' : Data.seq vs.toArray _ = Data.dict es ep := d
      cases d'
    have hKb : K.In (hidT s₁.heap H) := fun b o e => by
      refine base_of (KX b o e) ?_
      cases q : H b with
      | none => rfl
      | some u =>
        have z : b = a := hA b (by rw [q]; simp)
        rw [z] at e q
        rw [hK (by rw [q]; simp)] at e
        cases e
    have hM : Mod K mg (hidT s₁.heap H) := ⟨hKb, nsK hns, ⟨mb, nsK hb, hbb⟩, let ⟨mc, h1, h2⟩ := hlim; ⟨mc, nsK h1, h2⟩⟩
    have e0 : Env0 P w K mg (hidT s₁.heap H) callerA [] s₁ H := ⟨rfl, hM, fun b o e => of_hidT e, Nat.le_of_eq (hidT_size _ _), trivial, fun b hb => absurd (show b ∈ ([] : List Addr) from hb) (by simp), hok, .of_eq hg⟩
    refine codeAny_mono ((F _ hKb (nsK hns)).run callerA [] s₁ H ⟨[.ref a], []⟩ [.ref a] [.ref a] _ _ rfl hr e0 (hbind s₁ (.ref a)) (.cons rfl .nil) (hsp H hO hS)) fun r s' h => ?_
    cases r with
    | error e => exact False.elim h
    | ok fl =>
      cases fl with
      | next => exact False.elim h
      | brk => exact False.elim h
      | cont => exact False.elim h
      | ret u =>
        obtain ⟨v, H', os, bare, un, hok', r', q⟩ := h
        have q' : v = .bl true := q
        subst q'
        obtain rfl : u = Value.bool true := r'
        refine ⟨rfl, OldK.of_keep fun b o e => ?_, os, bare⟩
        cases q : H b with
        | none => exact un.keep b o e q (by intro z; exact absurd (show b ∈ ([] : List Addr) from z) (by simp)) (by simp)
        | some u =>
          rcases hO b with z | ⟨ob, xs, z⟩
          · rw [q] at z; cases z
          · obtain ⟨e1, _⟩ := hok b _ z
            obtain ⟨e2, _⟩ := hok' b _ (un.frzs b ob _ z)
            rw [e] at e1; cases e1
            exact e2
  cases hk : K.lookup a with
  | some o =>
    have e := KX a o hk
    rw [ha] at e
    cases e
    exact core (fun _ => none) (fun _ => .inl rfl) (.inr ⟨_, vs.toArray, _, hk, rfl, rfl, rfl, by rw [List.size_toArray, lenV]; exact hl, by simpa using rv⟩) (fun b u z => nomatch (show (none : Option HO) = some u from z)) (fun b z => absurd rfl z) fun z => absurd rfl z
  | none =>
    refine core (fun b => if b = a then some (.frz { cls := .type "list", data := .seq vs.toArray } (.lst (ns.map V.int))) else none) (fun b => ?_) (.inl (.inr ⟨{ cls := .type "list", data := .seq vs.toArray }, if_pos rfl⟩)) (fun b u z => ?_) (fun b z => ?_) fun _ => hk
    · by_cases hb : b = a
      · exact .inr ⟨_, _, if_pos hb⟩
      · exact .inl (if_neg hb)
    · by_cases hb : b = a
      · have z' := (if_pos hb).symm.trans z
        cases z'
        subst hb
        exact ⟨ha, by rw [List.length_map]; exact hl, vs, _, rv, ha⟩
      · have z' := (if_neg hb).symm.trans z
        cases z'
    · by_cases hb : b = a
      · exact hb
      · exact absurd (if_neg hb) z
theorem walk_ofG {l : PySem.W.OpenLaw} {n k : Nat} {q : Program} {loose : List Str} {XP : (Str → Option Value) → Heap → Prop} {YP : World → Heap → Prop} {d : DefRec} {K : Params → PySem.W.Frag} {sp : World → Sp} {x : Str}
    (hn : l.most = some n) (hn2 : n ≤ sizeLine) (hdf : d.params.defaults = []) (hr : Room k callerA) (hY : ∀ (w : World) (h : Heap), YP w h → (K w.params).In h)
    (F : ∀ (w : World) (mg : Str → Option Value) (fa : Addr) (h : Heap), (K w.params).In h → h.Ns mainGlobals mg → mg d.name = some (.ref fa) →
      ∃ fd : FuncData, (∀ (s : Shared) (u : Value), BindsTo s fd ⟨[u], []⟩ [(x, u)]) ∧ ∀ base : Heap, (K w.params).In base → base.Ns mainGlobals mg → FnG l.prog w (K w.params) mg base k fa fd [x] (sp w))
    (hsp : ∀ (w : World) (H : Hp) (a : Addr) (ns : List Int), ns.length ≤ n → Only H → SqL (K w.params) H a (ns.map V.int) → sp w [.ref a] H (fun v _ => v = .bl true) fun _ _ _ => False) :
    PySem.W.WalkO q loose XP YP l.row.toRowW d [] (fun f vs => PySem.call f vs) := by
  refine Att.attach_call hn hdf fun w s₀ s₁ mg mb fa o pm cd doc a vs ns G Y ho hd hcd hmg hobj hints hlen hg => ?_
  have KX := hY w _ Y
  obtain ⟨fd, hb, hF⟩ := F w mg fa _ KX G.T.g hmg
  exact law_callG KX G.T.g G.T.b G.T.builtins G.T.nolimit hg hobj hints (Nat.le_trans hlen hn2) hr hF hb fun H hO hS => hsp w H a ns hlen hO hS
end
end My

set_option Elab.async false
set_option linter.all false
set_option maxRecDepth 100000
set_option maxHeartbeats 4000000
namespace My
open PySem PySem.Spec PyProof.Rows L2
/-! ### trees of tuples -/
mutual
inductive Tr (H : Hp) : V → PyData → Prop
  | non : Tr H .non .none
  | bl (b : Bool) : Tr H (.bl b) (.bool b)
  | int (i : Int) : Tr H (.int i) (.int i)
  | str (x : Str) : Tr H (.str x) (.str x)
  | tup {p : Addr} {xs : List V} {ds : List PyData} : H p = some (.tup xs) → TrAll H xs ds → Tr H (.ref p) (.tuple ds)
  /-- some list, whatever it holds -/
  | lst {p : Addr} {xs : List V} : H p = some (.lst xs) → Tr H (.ref p) (.list [])
inductive TrAll (H : Hp) : List V → List PyData → Prop
  | nil : TrAll H [] []
  | cons {v : V} {vs : List V} {d : PyData} {ds : List PyData} : Tr H v d → TrAll H vs ds → TrAll H (v :: vs) (d :: ds)
end
mutual
theorem Tr.same {H H' : Hp} (s : Same H H') : ∀ {d : PyData} {v : V}, Tr H v d → Tr H' v d
  | _, _, .non => .non
  | _, _, .bl b => .bl b
  | _, _, .int i => .int i
  | _, _, .str x => .str x
  | _, _, .tup h t => .tup (s _ _ h) (TrAll.same s t)
  | _, _, .lst h => .lst (s _ _ h)
theorem TrAll.same {H H' : Hp} (s : Same H H') : ∀ {ds : List PyData} {vs : List V}, TrAll H vs ds → TrAll H' vs ds
  | _, _, .nil => .nil
  | _, _, .cons h t => .cons (Tr.same s h) (TrAll.same s t)
end
/-- a list's content may change -/
def Lch (D : Addr) (H H' : Hp) : Prop := (∀ b o, b ≠ D → H b = some o → H' b = some o) ∧ ((∃ xs, H D = some (.lst xs)) → ∃ xs, H' D = some (.lst xs)) ∧ ∀ xs, H D ≠ some (.tup xs)
mutual
theorem Tr.lch {D : Addr} {H H' : Hp} (s : Lch D H H') : ∀ {d : PyData} {v : V}, Tr H v d → Tr H' v d
  | _, _, .non => .non
  | _, _, .bl b => .bl b
  | _, _, .int i => .int i
  | _, _, .str x => .str x
  | _, _, .tup (p := p) h t => .tup (s.1 _ _ (fun e => by rw [e] at h; exact s.2.2 _ h) h) (TrAll.lch s t)
  | _, _, .lst (p := p) h => by
    by_cases e : p = D
    · rw [e] at h ⊢
      obtain ⟨ys, h'⟩ := s.2.1 ⟨_, h⟩
      exact .lst h'
    · exact .lst (s.1 _ _ e h)
theorem TrAll.lch {D : Addr} {H H' : Hp} (s : Lch D H H') : ∀ {ds : List PyData} {vs : List V}, TrAll H vs ds → TrAll H' vs ds
  | _, _, .nil => .nil
  | _, _, .cons h t => .cons (Tr.lch s h) (TrAll.lch s t)
end
theorem Lch.upd {D : Addr} {H : Hp} {xs ys : List V} (h : H D = some (.lst xs)) : Lch D H (L2.upd H D (.lst ys)) :=
  ⟨fun b o n e => by rw [upd_ne n]; exact e, fun _ => ⟨ys, upd_same⟩, fun z e => by rw [h] at e; cases e⟩
theorem Off.lch {a : Addr} {H H' : Hp} {xs : List V} (o : Off a H H') (h : H a = some (.lst xs)) {ys : List V} (h' : H' a = some (.lst ys)) : Lch a H H' :=
  ⟨o, fun _ => ⟨ys, h'⟩, fun z e => by rw [h] at e; cases e⟩
theorem TrAll.length {H : Hp} : ∀ {vs : List V} {ds : List PyData}, TrAll H vs ds → vs.length = ds.length
  | _, _, .nil => rfl
  | _, _, .cons _ t => congrArg (· + 1) (TrAll.length t)
theorem TrAll.append {H : Hp} : ∀ {vs ws : List V} {ds es : List PyData}, TrAll H vs ds → TrAll H ws es → TrAll H (vs ++ ws) (ds ++ es)
  | _, _, _, _, .nil, h => h
  | _, _, _, _, .cons a t, h => .cons a (TrAll.append t h)
theorem TrAll.get {H : Hp} : ∀ {vs : List V} {ds : List PyData} {i : Nat} {v : V}, TrAll H vs ds → vs[i]? = some v → ∃ d, ds[i]? = some d ∧ Tr H v d
  | _, _, _, _, .nil, e => by simp at e
  | _, _, 0, _, .cons h _, e => by
    have e : _ = _ := Option.some.inj e
    subst e
    exact ⟨_, rfl, h⟩
  | _, _, i + 1, _, .cons _ t, e => TrAll.get (i := i) t (by simpa using e)
theorem TrAll.get' {H : Hp} : ∀ {vs : List V} {ds : List PyData} {i : Nat} {d : PyData}, TrAll H vs ds → ds[i]? = some d → ∃ v, vs[i]? = some v ∧ Tr H v d
  | _, _, _, _, .nil, e => by simp at e
  | _, _, 0, _, .cons h _, e => by
    have e : _ = _ := Option.some.inj e
    subst e
    exact ⟨_, rfl, h⟩
  | _, _, i + 1, _, .cons _ t, e => TrAll.get' (i := i) t (by simpa using e)
/-! no list within -/
mutual
def plainD : PyData → Bool
  | .list _ | .dict _ => false
  | .tuple ds => plainAll ds
  | _ => true
def plainAll : List PyData → Bool
  | [] => true
  | d :: ds => plainD d && plainAll ds
end
mutual
theorem Tr.dp {K : PySem.W.Frag} {H : Hp} : ∀ {d : PyData} {v : V}, Tr H v d → plainD d = true → Dp K H v d
  | _, _, .non, _ => .non
  | _, _, .bl b, _ => .bl b
  | _, _, .int i, _ => .int i
  | _, _, .str x, _ => .str x
  | _, _, .tup h t, q => .tup (SqT.of h) (TrAll.dp t (by simpa [plainD] using q))
  | _, _, .lst h, q => by simp [plainD] at q
theorem TrAll.dp {K : PySem.W.Frag} {H : Hp} : ∀ {ds : List PyData} {vs : List V}, TrAll H vs ds → plainAll ds = true → DpAll K H vs ds
  | _, _, .nil, _ => .nil
  | _, _, .cons h t, q => by
    simp only [plainAll, Bool.and_eq_true] at q
    exact .cons (Tr.dp h q.1) (TrAll.dp t q.2)
end
def kindD : PyData → String
  | .none => "NoneType" | .bool _ => "bool" | .int _ => "int" | .str _ => "str" | .list _ => "list" | .tuple _ => "tuple" | .dict _ => "dict"
theorem Tr.th {K : PySem.W.Frag} {H : Hp} {v : V} {d : PyData} (h : Tr H v d) : Th K H v (kindD d) := by
  cases h with
  | non => exact .non
  | bl b => exact .bl b
  | int i => exact .int i
  | str x => exact .str x
  | tup h t => exact .ref (.base (.tup h)) (.inr (.inl rfl))
  | lst h => exact .ref (.base (.lst h)) (.inl rfl)
theorem Tr.flat {H : Hp} {v : V} {x : Str} (h : Tr H v (.str x)) : v = .str x := by
  cases h
  rfl
end My

set_option Elab.async false
set_option linter.all false
set_option maxRecDepth 100000
set_option maxHeartbeats 4000000
namespace My
open PySem PySem.Spec PyProof.Rows L2
/-! ### the mathematics of conditions -/
def cmpL : List V := [.str "=", .str "<"]
def plcL : List V := [.str "a", .str "b", .str "c"]
def numL : List V := [.str "0", .str "1", .str "2", .str "3"]
def cmpW (w : Str) : Bool := inV (.str w) cmpL
def vwS (x : Str) : Bool := inV (.str x) plcL || inV (.str x) numL
def vwD : PyData → Bool
  | .str x => vwS x
  | _ => false
def sidesN (w : Str) : Option Nat := if w = "not" then some 1 else if w = "and" ∨ w = "or" then some 2 else none
def builtD : Nat → PyData → Bool
  | 0, _ => false
  | n + 1, d => match d with
    | .tuple (.str w :: ds) => if cmpW w then ds.length == 2 && ds.all vwD else (match sidesN w with
      | some k => ds.length == k && ds.all (builtD n)
      | none => false)
    | _ => false
mutual
def partsD : PyData → List PyData
  | .tuple (.str w :: ds) => if cmpW w then [.tuple (.str w :: ds)] else partsAll ds
  | _ => []
def partsAll : List PyData → List PyData
  | [] => []
  | d :: ds => partsD d ++ partsAll ds
end
mutual
/-- the words of a condition -/
def wordsD : PyData → List Str
  | .tuple (.str w :: ds) => w :: (if cmpW w then leavesAll ds else wordsAll ds)
  | _ => []
def wordsAll : List PyData → List Str
  | [] => []
  | d :: ds => wordsD d ++ wordsAll ds
def leavesAll : List PyData → List Str
  | [] => []
  | .str x :: ds => x :: leavesAll ds
  | _ :: ds => leavesAll ds
end
theorem built_shape {n : Nat} {d : PyData} (h : builtD (n + 1) d = true) : ∃ w ds, d = .tuple (.str w :: ds) ∧ ((cmpW w = true ∧ ds.length = 2 ∧ ds.all vwD = true) ∨ (cmpW w = false ∧ ∃ k, sidesN w = some k ∧ ds.length = k ∧ ds.all (builtD n) = true)) := by
  unfold builtD at h
  split at h
  · rename_i w ds
    refine ⟨w, ds, rfl, ?_⟩
    by_cases c : cmpW w = true
    · rw [if_pos c] at h
      rw [Bool.and_eq_true] at h
      exact .inl ⟨c, by simpa using h.1, h.2⟩
    · rw [if_neg c] at h
      refine .inr ⟨by simpa using c, ?_⟩
      split at h
      · rename_i k hk
        rw [Bool.and_eq_true] at h
        exact ⟨k, hk, by simpa using h.1, h.2⟩
      · cases h
  · cases h
theorem sidesN_some {w : Str} {k : Nat} (h : sidesN w = some k) : (w = "not" ∧ k = 1) ∨ ((w = "and" ∨ w = "or") ∧ k = 2) := by
  unfold sidesN at h
  by_cases c : w = "not"
  · rw [if_pos c] at h
    exact .inl ⟨c, (Option.some.inj h).symm⟩
  · rw [if_neg c] at h
    by_cases c2 : w = "and" ∨ w = "or"
    · rw [if_pos c2] at h
      exact .inr ⟨c2, (Option.some.inj h).symm⟩
    · rw [if_neg c2] at h
      cases h
theorem parts_cmp {w : Str} {ds : List PyData} (h : cmpW w = true) : partsD (.tuple (.str w :: ds)) = [.tuple (.str w :: ds)] := by
  rw [partsD, if_pos h]
theorem parts_in {w : Str} {ds : List PyData} (h : cmpW w = false) : partsD (.tuple (.str w :: ds)) = partsAll ds := by
  rw [partsD, if_neg (by rw [h]; exact Bool.false_ne_true)]
theorem words_cmp {w : Str} {ds : List PyData} (h : cmpW w = true) : wordsD (.tuple (.str w :: ds)) = w :: leavesAll ds := by
  rw [wordsD, if_pos h]
theorem words_in {w : Str} {ds : List PyData} (h : cmpW w = false) : wordsD (.tuple (.str w :: ds)) = w :: wordsAll ds := by
  rw [wordsD, if_neg (by rw [h]; exact Bool.false_ne_true)]
theorem all_two {p : PyData → Bool} {ds : List PyData} (h : ds.length = 2) (ha : ds.all p = true) : ∃ a b, ds = [a, b] ∧ p a = true ∧ p b = true := by
  match ds, h with
  | [a, b], _ =>
    simp only [List.all_cons, List.all_nil, Bool.and_true, Bool.and_eq_true] at ha
    exact ⟨a, b, rfl, ha.1, ha.2⟩
theorem all_one {p : PyData → Bool} {ds : List PyData} (h : ds.length = 1) (ha : ds.all p = true) : ∃ a, ds = [a] ∧ p a = true := by
  match ds, h with
  | [a], _ =>
    simp only [List.all_cons, List.all_nil, Bool.and_true] at ha
    exact ⟨a, rfl, ha⟩
theorem vwD_str {d : PyData} (h : vwD d = true) : ∃ x, d = .str x ∧ vwS x = true := by
  cases d with
  | str x => exact ⟨x, rfl, h⟩
  | _ => cases h
/-- a condition, by cases -/
inductive Built : Nat → PyData → Prop
  | part {n : Nat} {w x y : Str} (hw : cmpW w = true) (hx : vwS x = true) (hy : vwS y = true) : Built (n + 1) (.tuple [.str w, .str x, .str y])
  | one {n : Nat} {d : PyData} (h : Built n d) : Built (n + 1) (.tuple [.str "not", d])
  | two {n : Nat} {w : Str} {d e : PyData} (hw : w = "and" ∨ w = "or") (h : Built n d) (k : Built n e) : Built (n + 1) (.tuple [.str w, d, e])
theorem cmp_not : cmpW "not" = false := by decide +kernel
theorem cmp_and : cmpW "and" = false := by decide +kernel
theorem cmp_or : cmpW "or" = false := by decide +kernel
theorem cmp_two {w : Str} (h : w = "and" ∨ w = "or") : cmpW w = false := by
  rcases h with rfl | rfl
  · exact cmp_and
  · exact cmp_or
theorem built_of : ∀ {n : Nat} {d : PyData}, builtD n d = true → Built n d
  | 0, _, h => by cases h
  | n + 1, d, h => by
    obtain ⟨w, ds, rfl, ⟨c, hl, ha⟩ | ⟨c, k, hk, hl, ha⟩⟩ := built_shape h
    · obtain ⟨a, b, rfl, h1, h2⟩ := all_two hl ha
      obtain ⟨x, rfl, hx⟩ := vwD_str h1
      obtain ⟨y, rfl, hy⟩ := vwD_str h2
      exact .part c hx hy
    · rcases sidesN_some hk with ⟨rfl, rfl⟩ | ⟨hw, rfl⟩
      · obtain ⟨a, rfl, h1⟩ := all_one hl ha
        exact .one (built_of h1)
      · obtain ⟨a, b, rfl, h1, h2⟩ := all_two hl ha
        exact .two hw (built_of h1) (built_of h2)
theorem sides_not : sidesN "not" = some 1 := by decide +kernel
theorem sides_two {w : Str} (h : w = "and" ∨ w = "or") : sidesN w = some 2 := by
  rcases h with rfl | rfl <;> decide +kernel
theorem Built.dec : ∀ {n : Nat} {d : PyData}, Built n d → builtD n d = true
  | _, _, .part hw hx hy => by
    rw [builtD, if_pos hw]
    simp [vwD, hx, hy]
  | _, _, .one h => by
    rw [builtD, if_neg (by rw [cmp_not]; exact Bool.false_ne_true), sides_not]
    simp [Built.dec h]
  | _, _, .two hw h k => by
    rw [builtD, if_neg (by rw [cmp_two hw]; exact Bool.false_ne_true), sides_two hw]
    simp [Built.dec h, Built.dec k]
theorem Built.up {n m : Nat} {d : PyData} (h : Built n d) : n ≤ m → Built m d := by
  induction h generalizing m with
  | part hw hx hy =>
    intro l
    obtain ⟨m, rfl⟩ : ∃ k, m = k + 1 := ⟨m - 1, by omega⟩
    exact .part hw hx hy
  | one h ih =>
    intro l
    obtain ⟨m, rfl⟩ : ∃ k, m = k + 1 := ⟨m - 1, by omega⟩
    exact .one (ih (by omega))
  | two hw h k ih1 ih2 =>
    intro l
    obtain ⟨m, rfl⟩ : ∃ k, m = k + 1 := ⟨m - 1, by omega⟩
    exact .two hw (ih1 (by omega)) (ih2 (by omega))
theorem Built.plain {n : Nat} {d : PyData} (h : Built n d) : plainD d = true := by
  induction h with
  | part => simp [plainD, plainAll]
  | one h ih => simp [plainD, plainAll, ih]
  | two hw h k ih1 ih2 => simp [plainD, plainAll, ih1, ih2]
/-- how many parts, words -/
theorem Built.parts_len {n : Nat} {d : PyData} (h : Built n d) : 1 ≤ (partsD d).length ∧ (partsD d).length ≤ 2 ^ n := by
  induction h with
  | part hw hx hy =>
    rw [parts_cmp hw]
    exact ⟨Nat.le_refl _, Nat.one_le_two_pow⟩
  | @one n d h ih =>
    rw [parts_in cmp_not]
    simp only [partsAll, List.append_nil]
    rw [Nat.pow_succ]
    omega
  | @two n w d e hw h k ih1 ih2 =>
    rw [parts_in (cmp_two hw)]
    simp only [partsAll, List.append_nil, List.length_append]
    rw [Nat.pow_succ]
    omega
theorem Built.words_len {n : Nat} {d : PyData} (h : Built n d) : 1 ≤ (wordsD d).length ∧ (wordsD d).length + 1 ≤ 4 * 2 ^ n := by
  induction h with
  | part hw hx hy =>
    rw [words_cmp hw]
    simp only [leavesAll, List.length_cons, List.length_nil]
    rw [Nat.pow_succ]
    have := Nat.one_le_two_pow (n := ‹Nat›)
    omega
  | @one n d h ih =>
    rw [words_in cmp_not]
    simp only [wordsAll, List.append_nil, List.length_cons]
    rw [Nat.pow_succ]
    have := Nat.one_le_two_pow (n := n)
    omega
  | @two n w d e hw h k ih1 ih2 =>
    rw [words_in (cmp_two hw)]
    simp only [wordsAll, List.append_nil, List.length_cons, List.length_append]
    rw [Nat.pow_succ]
    have := Nat.one_le_two_pow (n := n)
    omega
end My

set_option Elab.async false
set_option linter.all false
set_option maxRecDepth 100000
set_option maxHeartbeats 4000000
namespace My
open PySem PySem.Spec PyProof.Rows L2
/-! ### comprehensions by small steps -/
section
variable {K : PySem.W.Frag} {tl tl1 : TE} {te : TE} {σ : L2.St} {H : Hp} {Q : VK} {i i1 : Nat} {vs vs1 : List Nat}
theorem yes_if {F G : Hp → Prop} (h : F H) : tYes σ H (fun b H3 => if b = true then F H3 else G H3) := by
  show (if true = true then F H else G H)
  rw [if_pos rfl]
  exact h
theorem lt_of_get {xs : List V} {n : Nat} {x : V} (hx : xs[n]? = some x) : n < xs.length := by
  rcases Nat.lt_or_ge n xs.length with h | h
  · exact h
  · rw [List.getElem?_eq_none h] at hx
    cases hx
/-- what a list under way at D comes to, turn by turn -/
structure Turns (D : Addr) (n : Nat) (Sq : Hp → Prop) (H0 : Hp) (Pv : Nat → List V → Hp → Prop) (step : Nat → List V → Hp → Prop) (Qd : Hp → Prop) : Prop where
  start : Pv 0 [] (upd H0 D (.lst []))
  seq : ∀ i acc H, i ≤ n → Pv i acc H → Sq H
  at_ : ∀ i acc H, Pv i acc H → H D = some (.lst acc)
  turn : ∀ j acc H, j < n → Pv j acc H → acc.length < sizeLine ∧ step j acc H
  done : ∀ acc H, Pv n acc H → Qd H
theorem x_lcL (hw : ∀ x, wipe ((wipe σ vs).set i (some x)) vs = wipe σ vs) (R : Addr → List V → Hp → Prop) (he : ∀ Q : VK, (∀ a xs H1, SqL K H1 a xs → R a xs H1 → Q (.ref a) H1) → tl σ H Q)
    (hb : ∀ a xs H1 D, SqL K H1 a xs → R a xs H1 → H1 D = none → ∃ Pv : Nat → List V → Hp → Prop, Turns D xs.length (fun H => SqL K H a xs) H1 Pv
      (fun j acc H => ∀ x, xs[j]? = some x → ∀ Q : VK, (∀ y H', H' D = some (.lst acc) → Pv (j + 1) (acc ++ [y]) (upd H' D (.lst (acc ++ [y]))) → Q y H') → te ((wipe σ vs).set i (some x)) H Q) (Q (.ref D))) : tLc (iList K tl) (gName i) tYes te vs σ H Q := by
  show tl σ H _
  refine he _ fun a xs H1 hs hr => ?_
  refine ⟨a, rfl, ⟨xs, hs⟩, fun D hD => ?_⟩
  obtain ⟨Pv, T⟩ := hb a xs H1 D hs hr hD
  refine lc_list (K := K) (a := a) (xs := xs) (fun n H => ∃ acc, Pv n acc H) ⟨_, T.start⟩ (fun n H hn ⟨acc, p⟩ => T.seq n acc H hn p) (fun n x H hx ⟨acc, p⟩ => ?_) fun H ⟨acc, p⟩ => T.done acc H p
  refine ⟨hw x, ?_⟩
  refine yes_if ?_
  obtain ⟨hz, ht⟩ := T.turn n acc H (lt_of_get hx) p
  exact ht x hx _ fun y H' h1 h2 => ⟨acc, h1, hz, _, h2⟩
theorem x_lcT (hw : ∀ x, wipe ((wipe σ vs).set i (some x)) vs = wipe σ vs) (R : Addr → List V → Hp → Prop) (he : ∀ Q : VK, (∀ a xs H1, SqT K H1 a xs → R a xs H1 → Q (.ref a) H1) → tl σ H Q)
    (hb : ∀ a xs H1 D, SqT K H1 a xs → R a xs H1 → H1 D = none → ∃ Pv : Nat → List V → Hp → Prop, Turns D xs.length (fun H => SqT K H a xs) H1 Pv
      (fun j acc H => ∀ x, xs[j]? = some x → ∀ Q : VK, (∀ y H', H' D = some (.lst acc) → Pv (j + 1) (acc ++ [y]) (upd H' D (.lst (acc ++ [y]))) → Q y H') → te ((wipe σ vs).set i (some x)) H Q) (Q (.ref D))) : tLc (iTup K tl) (gName i) tYes te vs σ H Q := by
  show tl σ H _
  refine he _ fun a xs H1 hs hr => ?_
  refine ⟨a, rfl, ⟨xs, hs⟩, fun D hD => ?_⟩
  obtain ⟨Pv, T⟩ := hb a xs H1 D hs hr hD
  refine lc_tup (K := K) (a := a) (xs := xs) (fun n H => ∃ acc, Pv n acc H) ⟨_, T.start⟩ (fun n H hn ⟨acc, p⟩ => T.seq n acc H hn p) (fun n x H hx ⟨acc, p⟩ => ?_) fun H ⟨acc, p⟩ => T.done acc H p
  refine ⟨hw x, ?_⟩
  refine yes_if ?_
  obtain ⟨hz, ht⟩ := T.turn n acc H (lt_of_get hx) p
  exact ht x hx _ fun y H' h1 h2 => ⟨acc, h1, hz, _, h2⟩
/-- [y for x in a tuple for y in a list of x]: each turn's list is told whole, and joined to what is there -/
theorem x_lc2 (hte : te = tVar i1) (hi1 : ∀ x y, ((wipe ((wipe σ vs).set i (some x)) vs1).set i1 (some y))[i1]? = some (some y)) (hw : ∀ x, wipe ((wipe σ vs).set i (some x)) vs = wipe σ vs) (hw1 : ∀ x y, wipe ((wipe ((wipe σ vs).set i (some x)) vs1).set i1 (some y)) vs1 = wipe ((wipe σ vs).set i (some x)) vs1)
    (R : Addr → List V → Hp → Prop) (he : ∀ Q : VK, (∀ a xs H1, SqT K H1 a xs → R a xs H1 → Q (.ref a) H1) → tl σ H Q)
    (hb : ∀ a xs H1 D, SqT K H1 a xs → R a xs H1 → H1 D = none → ∃ Pv : Nat → List V → Hp → Prop, Pv 0 [] (upd H1 D (.lst [])) ∧ (∀ j acc H, Pv j acc H → H D = some (.lst acc)) ∧ (∀ j acc H, j ≤ xs.length → Pv j acc H → SqT K H a xs) ∧
      (∀ j x acc H, xs[j]? = some x → Pv j acc H → ∀ Q : VK, (∀ p ys H', p ≠ D → H' D = some (.lst acc) → H' p = some (.lst ys) → acc.length + ys.length ≤ sizeLine → Pv (j + 1) (acc ++ ys) (upd H' D (.lst (acc ++ ys))) → Q (.ref p) H') → tl1 ((wipe σ vs).set i (some x)) H Q) ∧
      (∀ acc H, Pv xs.length acc H → Q (.ref D) H)) :
    tLc2 (iTup K tl) (gName i) tYes (iList K tl1) (gName i1) tYes te vs vs1 σ H Q := by
  show tl σ H _
  refine he _ fun a xs H1 hs hr => ?_
  refine ⟨a, rfl, ⟨xs, hs⟩, fun D hD => ?_⟩
  obtain ⟨Pv, p0, pa, ps, pt, pd⟩ := hb a xs H1 D hs hr hD
  refine ⟨fun n m H => m = xs.length - n ∧ n ≤ xs.length ∧ ∃ acc, Pv n acc H, ⟨xs.length, by simp, Nat.zero_le _, _, p0⟩, ?_⟩
  rintro n m H ⟨rfl, hn, acc, p⟩
  have q := ps n acc H hn p
  by_cases hlt : n < xs.length
  · refine .inr ⟨⟨xs, xs[n], q, by simp [hlt]⟩, fun H' => ∃ acc', Pv (n + 1) acc' H', fun H' p' => ⟨xs.length - (n + 1), by omega, rfl, hlt, p'⟩, fun x H' y => ?_⟩
    obtain ⟨e, y⟩ := y
    subst e
    refine ⟨hw x, ?_⟩
    refine yes_if ?_
    refine pt n x acc H' (y xs q) p _ fun c ys H2 hne hD2 hc hz hP => ?_
    refine ⟨c, rfl, ⟨ys, SqL.of hc⟩, ?_⟩
    refine ⟨fun j k H3 => k = ys.length - j ∧ j ≤ ys.length ∧ H3 = upd H2 D (.lst (acc ++ ys.take j)), ⟨ys.length, by simp, Nat.zero_le _, ?_⟩, ?_⟩
    · rw [List.take_zero, List.append_nil]
      funext b
      by_cases hb : b = D
      · rw [hb, upd_same, hD2]
      · rw [upd_ne hb]
    · rintro j k H3 ⟨rfl, hj, rfl⟩
      have hc3 : (upd H2 D (.lst (acc ++ ys.take j))) c = some (.lst ys) := by rw [upd_ne hne]; exact hc
      by_cases hjl : j < ys.length
      · refine .inr ⟨⟨ys, ys[j], SqL.of hc3, by simp [hjl]⟩, fun H4 => H4 = upd H2 D (.lst (acc ++ ys.take (j + 1))), fun H4 e4 => ⟨ys.length - (j + 1), by omega, rfl, hjl, e4⟩, fun z H4 yz => ?_⟩
        obtain ⟨e4, yz⟩ := yz
        subst e4
        refine ⟨hw1 x z, ?_⟩
        refine yes_if ?_
        rw [hte]
        have hz1 : ys[j]? = some z := yz ys (SqL.of hc3)
        refine ⟨z, hi1 x z, acc ++ ys.take j, upd_same, ?_, ?_⟩
        · rw [List.length_append, List.length_take]
          omega
        · funext b
          by_cases hb : b = D
          · rw [hb, upd_same, upd_same, List.take_add_one, hz1, List.append_assoc]
            rfl
          · rw [upd_ne hb, upd_ne hb, upd_ne hb]
      · refine .inl ⟨⟨ys, SqL.of hc3, by omega⟩, acc ++ ys, ?_⟩
        have e : ys.take j = ys := List.take_of_length_le (by omega)
        rw [e]
        exact hP
  · have e : n = xs.length := by omega
    subst e
    exact .inl ⟨⟨xs, q, Nat.le_refl _⟩, pd acc H p⟩
end
end My

set_option Elab.async false
set_option linter.all false
set_option maxRecDepth 100000
set_option maxHeartbeats 4000000
namespace My
open PySem PySem.Spec PyProof.Rows L2
theorem same_tup {K : PySem.W.Frag} {H H' : Hp} {a : Addr} {xs : List V} (s : Same H H') (h : SqT K H a xs) : SqT K H' a xs := by
  rcases h with h | h
  · refine .inl ?_
    rcases h with h | ⟨o, h⟩
    · exact .inl (s _ _ h)
    · exact .inr ⟨o, s _ _ h⟩
  · exact .inr h
/-- behind a change of what is new -/
theorem same_upd {H H' : Hp} {D : Addr} (s : Same H H') (h : H D = none) (o : HO) : Same H (upd H' D o) := fun b u q => by
  rw [upd_ne (ne_of_none q h)]
  exact s b u q
section
variable {K : PySem.W.Frag} {tl tl1 : TE} {te : TE} {σ : L2.St} {H : Hp} {Q : VK} {i i1 : Nat} {vs vs1 : List Nat}
theorem x_lcMap {p : Addr} {xs ys : List V} (hw : ∀ x, wipe ((wipe σ vs).set i (some x)) vs = wipe σ vs) (hp : SqL K H p xs) (he : ∀ Q : VK, Q (.ref p) H → tl σ H Q) (hl : xs.length = ys.length) (hz : xs.length ≤ sizeLine)
    (ht : ∀ (j : Nat) x y H', xs[j]? = some x → ys[j]? = some y → Same H H' → ∀ Q : VK, (∀ H'', Same H' H'' → Q y H'') → te ((wipe σ vs).set i (some x)) H' Q)
    (hd : ∀ D H', Same H H' → H D = none → H' D = some (.lst ys) → Q (.ref D) H') : tLc (iList K tl) (gName i) tYes te vs σ H Q := by
  refine x_lcL hw (fun a zs H1 => a = p ∧ zs = xs ∧ H1 = H) (fun Q k => he _ (k p xs H hp ⟨rfl, rfl, rfl⟩)) ?_
  rintro a zs H1 D hs ⟨rfl, rfl, rfl⟩ hD
  refine ⟨fun j acc H' => Same H1 H' ∧ H' D = some (.lst acc) ∧ acc = ys.take j, ⟨⟨same_new hD _, upd_same, rfl⟩, fun j acc H' _ q => q.1.seq hp, fun j acc H' q => q.2.1, fun j acc H' hj q => ⟨?_, fun x hx Q k => ?_⟩, fun acc H' q => ?_⟩⟩
  · rw [q.2.2, List.length_take]
    omega
  · have hy : ys[j]? = some ys[j] := List.getElem?_eq_getElem (by omega)
    refine ht j x _ H' hx hy q.1 _ fun H'' s => k _ _ (s _ _ q.2.1) ⟨same_upd (q.1.trans s) hD _, upd_same, ?_⟩
    rw [q.2.2, List.take_add_one, hy]
    rfl
  · refine hd D H' q.1 hD ?_
    rw [q.2.1, q.2.2, hl, List.take_length]
theorem x_lc2App {xs : List V} {ds : List PyData} {f : PyData → List PyData} (hi1 : ∀ x y, ((wipe ((wipe σ vs).set i (some x)) vs1).set i1 (some y))[i1]? = some (some y)) (hw : ∀ x, wipe ((wipe σ vs).set i (some x)) vs = wipe σ vs) (hw1 : ∀ x y, wipe ((wipe ((wipe σ vs).set i (some x)) vs1).set i1 (some y)) vs1 = wipe ((wipe σ vs).set i (some x)) vs1)
    (he : ∀ Q : VK, (∀ a H1, SqT K H1 a xs → Same H H1 → Q (.ref a) H1) → tl σ H Q) (hl : xs.length = ds.length) (hz : (ds.flatMap f).length ≤ sizeLine)
    (ht : ∀ (j : Nat) x d H', xs[j]? = some x → ds[j]? = some d → Same H H' → ∀ Q : VK, (∀ p ys H'', Same H' H'' → H' p = none → H'' p = some (.lst ys) → TrAll H'' ys (f d) → Q (.ref p) H'') → tl1 ((wipe σ vs).set i (some x)) H' Q)
    (hd : ∀ D ys H', Same H H' → H D = none → H' D = some (.lst ys) → TrAll H' ys (ds.flatMap f) → Q (.ref D) H') : tLc2 (iTup K tl) (gName i) tYes (iList K tl1) (gName i1) tYes (tVar i1) vs vs1 σ H Q := by
  refine x_lc2 rfl hi1 hw hw1 (fun a zs H1 => zs = xs ∧ Same H H1) (fun Q k => he _ fun a H1 h s => k a xs H1 h ⟨rfl, s⟩) ?_
  rintro a zs H1 D hs ⟨rfl, s0⟩ hD
  have hD0 : H D = none := s0.free hD
  refine ⟨fun j acc H' => Same H1 H' ∧ H' D = some (.lst acc) ∧ TrAll H' acc ((ds.take j).flatMap f), ⟨same_new hD _, upd_same, .nil⟩, fun j acc H' q => q.2.1, fun j acc H' _ q => same_tup q.1 hs, fun j x acc H' hx q Q k => ?_, fun acc H' q => ?_⟩
  · have hj := lt_of_get hx
    have hy : ds[j]? = some ds[j] := List.getElem?_eq_getElem (by omega)
    refine ht j x _ H' hx hy (s0.trans q.1) _ fun p ys H'' s hp hp' hT => ?_
    have hne : p ≠ D := fun e => by rw [e, q.2.1] at hp; cases hp
    have e : (ds.take (j + 1)).flatMap f = (ds.take j).flatMap f ++ f ds[j] := by
      rw [List.take_add_one, hy, List.flatMap_append]
      simp
    have hTT : TrAll H'' (acc ++ ys) ((ds.take (j + 1)).flatMap f) := by
      rw [e]
      exact (q.2.2.same s).append hT
    have hlen : (acc ++ ys).length ≤ sizeLine := by
      refine Nat.le_trans ?_ hz
      rw [hTT.length]
      have := congrArg List.length (show (ds.take (j + 1)).flatMap f ++ (ds.drop (j + 1)).flatMap f = ds.flatMap f by rw [← List.flatMap_append, List.take_append_drop])
      rw [List.length_append] at this
      omega
    rw [List.length_append] at hlen
    exact k p ys H'' hne (s _ _ q.2.1) hp' hlen ⟨same_upd (q.1.trans s) hD _, upd_same, hTT.lch (Lch.upd (s _ _ q.2.1))⟩
  · refine hd D acc H' (s0.trans q.1) hD0 q.2.1 ?_
    have := q.2.2
    rw [hl, List.take_length] at this
    exact this
end
end My

set_option Elab.async false
set_option linter.all false
set_option maxRecDepth 100000
set_option maxHeartbeats 4000000
namespace My
open PySem PySem.Spec PyProof.Rows L2
/-! ### a condition read from words -/
def readK (f : Nat → Option (PyData × Nat)) : Nat → Nat → Option (List PyData × Nat)
  | 0, e => some ([], e)
  | k + 1, e => match f e with
    | none => none
    | some (d, e') => (readK f k e').map fun r => (d :: r.1, r.2)
def readD : Nat → List Str → Nat → Option (PyData × Nat)
  | 0, _, _ => none
  | n + 1, ws, s => match ws[s]? with
    | none => none
    | some w => if cmpW w then some (.tuple (.str w :: ((ws.drop (s + 1)).take 2).map PyData.str), s + 3) else match sidesN w with
      | none => none
      | some k => (readK (readD n ws) k (s + 1)).map fun r => (.tuple (.str w :: r.1), r.2)
theorem readD_out {n : Nat} {ws : List Str} {s : Nat} (h : ws.length ≤ s) : readD n ws s = none := by
  cases n with
  | zero => rfl
  | succ n => rw [readD, List.getElem?_eq_none h]
theorem readD_cmp {n : Nat} {ws : List Str} {s : Nat} {w : Str} (h : ws[s]? = some w) (c : cmpW w = true) : readD (n + 1) ws s = some (.tuple (.str w :: ((ws.drop (s + 1)).take 2).map PyData.str), s + 3) := by
  rw [readD, h]
  exact if_pos c
theorem readD_no {n : Nat} {ws : List Str} {s : Nat} {w : Str} (h : ws[s]? = some w) (c : cmpW w = false) (k : sidesN w = none) : readD (n + 1) ws s = none := by
  rw [readD, h]
  show (if cmpW w = true then _ else _) = none
  rw [if_neg (by rw [c]; exact Bool.false_ne_true), k]
theorem readD_in {n k : Nat} {ws : List Str} {s : Nat} {w : Str} (h : ws[s]? = some w) (c : cmpW w = false) (hk : sidesN w = some k) : readD (n + 1) ws s = (readK (readD n ws) k (s + 1)).map fun r => (.tuple (.str w :: r.1), r.2) := by
  rw [readD, h]
  show (if cmpW w = true then _ else _) = _
  rw [if_neg (by rw [c]; exact Bool.false_ne_true), hk]
theorem at_mid {α : Type} (pre : List α) (w : α) (rest : List α) : (pre ++ w :: rest)[pre.length]? = some w := by
  rw [List.getElem?_append_right (Nat.le_refl _), Nat.sub_self]
  rfl
/-- what was written is read -/
theorem readD_words {n : Nat} {d : PyData} (h : Built n d) : ∀ (m : Nat) (ws pre rest : List Str), n ≤ m → ws = pre ++ (wordsD d ++ rest) → readD m ws pre.length = some (d, pre.length + (wordsD d).length) := by
  induction h with
  | @part n w x y hw hx hy =>
    rintro m ws pre rest hm rfl
    obtain ⟨m, rfl⟩ : ∃ k, m = k + 1 := ⟨m - 1, by omega⟩
    rw [words_cmp hw]
    simp only [leavesAll, List.cons_append, List.nil_append, List.length_cons, List.length_nil]
    rw [readD_cmp (at_mid _ _ _) hw]
    have e : (pre ++ w :: x :: y :: rest).drop (pre.length + 1) = x :: y :: rest := by
      have : pre ++ w :: x :: y :: rest = (pre ++ [w]) ++ (x :: y :: rest) := by simp
      rw [this, List.drop_append_of_le_length (by simp), List.drop_eq_nil_of_le (by simp)]
      rfl
    rw [e]
    rfl
  | @one n d h ih =>
    rintro m ws pre rest hm rfl
    obtain ⟨m, rfl⟩ : ∃ k, m = k + 1 := ⟨m - 1, by omega⟩
    rw [words_in cmp_not]
    simp only [wordsAll, List.append_nil, List.cons_append, List.length_cons]
    rw [readD_in (at_mid _ _ _) cmp_not sides_not]
    have r := ih m (pre ++ ("not" : Str) :: (wordsD d ++ rest)) (pre ++ [("not" : Str)]) rest (by omega) (by simp)
    rw [show (pre ++ [("not" : Str)]).length = pre.length + 1 by simp] at r
    rw [readK, r]
    simp only [readK, Option.map]
    congr 2
    omega
  | @two n w d e hw h k ih1 ih2 =>
    rintro m ws pre rest hm rfl
    obtain ⟨m, rfl⟩ : ∃ k, m = k + 1 := ⟨m - 1, by omega⟩
    rw [words_in (cmp_two hw)]
    simp only [wordsAll, List.append_nil, List.cons_append, List.length_cons, List.length_append, List.append_assoc]
    rw [readD_in (at_mid _ _ _) (cmp_two hw) (sides_two hw)]
    have r1 := ih1 m (pre ++ w :: (wordsD d ++ (wordsD e ++ rest))) (pre ++ [w]) (wordsD e ++ rest) (by omega) (by simp)
    rw [show (pre ++ [w]).length = pre.length + 1 by simp] at r1
    have r2 := ih2 m (pre ++ w :: (wordsD d ++ (wordsD e ++ rest))) (pre ++ [w] ++ wordsD d) rest (by omega) (by simp)
    rw [show (pre ++ [w] ++ wordsD d).length = pre.length + 1 + (wordsD d).length by simp; omega] at r2
    rw [readK, r1]
    show Option.map _ (Option.map _ (readK _ 1 _)) = _
    rw [readK, r2]
    simp only [readK, Option.map]
    congr 2
    omega
end My

set_option Elab.async false
set_option linter.all false
set_option maxRecDepth 100000
set_option maxHeartbeats 4000000
namespace My
open PySem PySem.Spec PyProof.Rows L2
/-! ### the words of a condition, and how it is shown -/
def allWs : List Str := ["not", "and", "or", "=", "<", "a", "b", "c", "0", "1", "2", "3"]
theorem inV_str {x : Str} : ∀ {l : List Str}, inV (.str x) (l.map V.str) = true → x ∈ l
  | [], h => by cases h
  | y :: l, h => by
    have h : (eqV (.str y) (.str x) || inV (.str x) (l.map V.str)) = true := h
    rcases (Bool.or_eq_true _ _).mp h with h | h
    · have : y = x := by simpa [eqV] using h
      rw [this]
      exact List.mem_cons_self
    · exact List.mem_cons_of_mem _ (inV_str h)
theorem cmp_mem {w : Str} (h : cmpW w = true) : w ∈ allWs := by
  have := inV_str (l := ["=", "<"]) h
  have a : ∀ w ∈ (["=", "<"] : List Str), w ∈ allWs := by decide +kernel
  exact a w this
theorem vw_mem {w : Str} (h : vwS w = true) : w ∈ allWs := by
  unfold vwS at h
  rcases (Bool.or_eq_true _ _).mp h with h | h
  · have := inV_str (l := ["a", "b", "c"]) h
    have a : ∀ w ∈ (["a", "b", "c"] : List Str), w ∈ allWs := by decide +kernel
    exact a w this
  · have := inV_str (l := ["0", "1", "2", "3"]) h
    have a : ∀ w ∈ (["0", "1", "2", "3"] : List Str), w ∈ allWs := by decide +kernel
    exact a w this
theorem two_mem {w : Str} (h : w = "and" ∨ w = "or") : w ∈ allWs := by
  rcases h with rfl | rfl <;> decide +kernel
theorem not_mem : ("not" : Str) ∈ allWs := by decide +kernel
theorem Built.words_mem {n : Nat} {d : PyData} (h : Built n d) : ∀ w ∈ wordsD d, w ∈ allWs := by
  induction h with
  | @part n w x y hw hx hy =>
    rw [words_cmp hw]
    intro z hz
    simp only [leavesAll, List.mem_cons, List.not_mem_nil, or_false] at hz
    rcases hz with rfl | rfl | rfl
    · exact cmp_mem hw
    · exact vw_mem hx
    · exact vw_mem hy
  | @one n d h ih =>
    rw [words_in cmp_not]
    intro z hz
    simp only [wordsAll, List.append_nil, List.mem_cons] at hz
    rcases hz with rfl | hz
    · exact not_mem
    · exact ih z hz
  | @two n w d e hw h k ih1 ih2 =>
    rw [words_in (cmp_two hw)]
    intro z hz
    simp only [wordsAll, List.append_nil, List.mem_cons, List.mem_append] at hz
    rcases hz with rfl | hz | hz
    · exact two_mem hw
    · exact ih1 z hz
    · exact ih2 z hz
theorem ws_len : ∀ w ∈ allWs, w.length ≤ 3 := by decide +kernel
theorem ws_size : ∀ w ∈ allWs, w.cps.size ≤ 3 := by decide +kernel
theorem ws_short : ∀ w ∈ allWs, PyData.leavesShort 8 (.str w) = true := by decide +kernel
theorem ws_lay : ∀ w ∈ allWs, PyData.canLay0 (.str w) = true := by decide +kernel
theorem ws_noblank : ∀ w ∈ allWs, 32 ∉ w.cps.toList := by decide +kernel
theorem sum_le {ws : List Str} (h : ∀ w ∈ ws, w.length ≤ 3) : (ws.map (·.length)).sum ≤ 3 * ws.length := by
  induction ws with
  | nil => exact Nat.zero_le _
  | cons w ws ih =>
    have h1 := h w List.mem_cons_self
    have h2 := ih fun z hz => h z (List.mem_cons_of_mem _ hz)
    simp only [List.map_cons, List.sum_cons, List.length_cons]
    omega
theorem Built.sum_words {n : Nat} {d : PyData} (h : Built n d) : ((wordsD d).map (·.length)).sum ≤ 3 * (wordsD d).length := sum_le fun w hw => ws_len w (h.words_mem w hw)
/-- good to be shown -/
structure Shows (d : PyData) (k m : Nat) : Prop where
  sh : d.showable = true
  nd : d.hasDict = false
  dp : d.depth ≤ k
  lf : PyData.leavesShort 8 d = true
  wt : PyData.weight d ≤ m
  cl : d.canLay0 = true
theorem shows_str {w : Str} (h : w ∈ allWs) : Shows (.str w) 0 3 := ⟨by simp only [PyData.showable], by simp only [PyData.hasDict], by simp only [PyData.depth]; omega, ws_short w h, by simp only [PyData.weight]; exact ws_size w h, ws_lay w h⟩
theorem shows_two {a b : PyData} {k l m n : Nat} (ha : Shows a k m) (hb : Shows b l n) : Shows (.tuple [a, b]) (max k l + 1) (m + n + 2) := by
  obtain ⟨a1, a2, a3, a4, a5, a6⟩ := ha
  obtain ⟨b1, b2, b3, b4, b5, b6⟩ := hb
  refine ⟨?_, ?_, ?_, ?_, ?_, ?_⟩
  · simp only [PyData.showable, PyData.showableAll, a1, b1, Bool.and_self]
  · simp only [PyData.hasDict, PyData.hasDictAll, a2, b2, Bool.or_self]
  · simp only [PyData.depth, PyData.depthAll]; omega
  · simp only [PyData.leavesShort, PyData.leavesShortAll, a4, b4, Bool.and_self]
  · simp only [PyData.weight, PyData.weightAll]; omega
  · simp only [PyData.canLay0, PyData.canLayAll0, a6, b6, Bool.and_self]
theorem shows_three {a b c : PyData} {k l j m n o : Nat} (ha : Shows a k m) (hb : Shows b l n) (hc : Shows c j o) : Shows (.tuple [a, b, c]) (max k (max l j) + 1) (m + n + o + 3) := by
  obtain ⟨a1, a2, a3, a4, a5, a6⟩ := ha
  obtain ⟨b1, b2, b3, b4, b5, b6⟩ := hb
  obtain ⟨c1, c2, c3, c4, c5, c6⟩ := hc
  refine ⟨?_, ?_, ?_, ?_, ?_, ?_⟩
  · simp only [PyData.showable, PyData.showableAll, a1, b1, c1, Bool.and_self]
  · simp only [PyData.hasDict, PyData.hasDictAll, a2, b2, c2, Bool.or_self]
  · simp only [PyData.depth, PyData.depthAll]; omega
  · simp only [PyData.leavesShort, PyData.leavesShortAll, a4, b4, c4, Bool.and_self]
  · simp only [PyData.weight, PyData.weightAll]; omega
  · simp only [PyData.canLay0, PyData.canLayAll0, a6, b6, c6, Bool.and_self]
theorem Shows.up {d : PyData} {k k' m m' : Nat} (h : Shows d k m) (hk : k ≤ k') (hm : m ≤ m') : Shows d k' m' := ⟨h.sh, h.nd, Nat.le_trans h.dp hk, h.lf, Nat.le_trans h.wt hm, h.cl⟩
theorem Built.shows {n : Nat} {d : PyData} (h : Built n d) : Shows d n (16 * 2 ^ n - 8) := by
  induction h with
  | @part n w x y hw hx hy =>
    refine (shows_three (shows_str (cmp_mem hw)) (shows_str (vw_mem hx)) (shows_str (vw_mem hy))).up (by omega) ?_
    have := Nat.one_le_two_pow (n := n)
    rw [Nat.pow_succ]
    omega
  | @one n d h ih =>
    refine (shows_two (shows_str not_mem) ih).up (by omega) ?_
    have := Nat.one_le_two_pow (n := n)
    rw [Nat.pow_succ]
    omega
  | @two n w d e hw h k ih1 ih2 =>
    refine (shows_three (shows_str (two_mem hw)) ih1 ih2).up (by omega) ?_
    have := Nat.one_le_two_pow (n := n)
    rw [Nat.pow_succ]
    omega
theorem Built.part_mem {n : Nat} {d : PyData} (h : Built n d) : ∀ e ∈ partsD d, Built 1 e := by
  induction h with
  | @part n w x y hw hx hy =>
    rw [parts_cmp hw]
    intro e he
    rw [List.mem_singleton.mp he]
    exact .part hw hx hy
  | @one n d h ih =>
    rw [parts_in cmp_not]
    simp only [partsAll, List.append_nil]
    exact ih
  | @two n w d e hw h k ih1 ih2 =>
    rw [parts_in (cmp_two hw)]
    simp only [partsAll, List.append_nil]
    intro z hz
    rcases List.mem_append.mp hz with hz | hz
    · exact ih1 z hz
    · exact ih2 z hz
theorem shows_list : ∀ {ds : List PyData} {k m : Nat}, (∀ d ∈ ds, Shows d k m) → Shows (.list ds) (k + 1) ((m + 1) * ds.length)
  | [], k, m, _ => ⟨by decide +kernel, by decide +kernel, by simp only [PyData.depth, PyData.depthAll]; omega, by decide +kernel, by simp only [PyData.weight, PyData.weightAll]; omega, by decide +kernel⟩
  | d :: ds, k, m, h => by
    have h1 := h d List.mem_cons_self
    have h2 := shows_list (ds := ds) (k := k) (m := m) fun e he => h e (List.mem_cons_of_mem _ he)
    obtain ⟨a1, a2, a3, a4, a5, a6⟩ := h1
    obtain ⟨b1, b2, b3, b4, b5, b6⟩ := h2
    simp only [PyData.showable] at b1
    simp only [PyData.hasDict] at b2
    simp only [PyData.depth] at b3
    simp only [PyData.leavesShort] at b4
    simp only [PyData.weight] at b5
    simp only [PyData.canLay0] at b6
    refine ⟨?_, ?_, ?_, ?_, ?_, ?_⟩
    · simp only [PyData.showable, PyData.showableAll, a1, b1, Bool.and_self]
    · simp only [PyData.hasDict, PyData.hasDictAll, a2, b2, Bool.or_self]
    · simp only [PyData.depth, PyData.depthAll]; omega
    · simp only [PyData.leavesShort, PyData.leavesShortAll, a4, b4, Bool.and_self]
    · simp only [PyData.weight, PyData.weightAll, List.length_cons, Nat.mul_add]; omega
    · simp only [PyData.canLay0, PyData.canLayAll0, a6, b6, Bool.and_self]
theorem Shows.shaped {d : PyData} {k m : Nat} (h : Shows d k m) (hk : k ≤ 64) : SeqAt.shaped d = true := by
  unfold SeqAt.shaped
  rw [h.cl, decide_eq_true (Nat.le_trans h.dp hk)]
  rfl
theorem Shows.same {d : PyData} {k m : Nat} (h : Shows d k m) : PyData.eqv d d = true := SeqAt.eqv_refl d h.cl
theorem Shows.fits {d : PyData} {k m : Nat} (h : Shows d k m) (hm : m ≤ 2 ^ 20) : d.shown.length ≤ sizeLine := PyData.shown_fits (B := 8) (by decide) (by decide) h.lf (Nat.le_trans h.wt hm)
end My

set_option Elab.async false
set_option linter.all false
set_option maxRecDepth 100000
set_option maxHeartbeats 4000000
namespace My
open PySem PySem.Spec PyProof.Rows L2
local macro_rules | `(tactic| walk_at "e1") => `(tactic| first
  | refine e_var rfl ?_
  | refine e_c ?_
  | refine e_op ?_
  | refine e_un ?_
  | refine e_cb ?_
  | refine e_cons ?_
  | refine e_nil ?_
  | refine e_tB ?_
  | refine e_test ?_
  | refine e_not ?_
  | refine e_and ?_
  | refine e_or ?_
  | refine e_andV ?_
  | refine e_orV ?_
  | refine e_notV ?_
  | refine e_I0 ?_
  | refine e_I (by (try dsimp only [CDiv, CDivN, CMul, CPow]); first | decide | omega) ?_
  | refine e_U ?_
  | refine e_eqI ?_
  | refine e_neI ?_
  | refine e_bl ?_
  | refine e_call ?_
  | refine e_sub ?_
  | refine e_lst ?_
  | refine e_tup ?_
  | refine e_nn ?_
  | rw [dec_nn]
  | rw [dec_in]
  | rw [dec_rn]
  | rw [dec_bn]
  | rw [dec_sn]
  | rw [Bool.not_true]
  | rw [Bool.not_false]
  | refine iteT ?_
  | refine iteF ?_)
local macro_rules | `(tactic| walk_at "e") => `(tactic| ((try dsimp only); repeat (walk_at "e1"; try dsimp only)))
local macro_rules | `(tactic| walk_at "s1") => `(tactic| first
  | refine x_seq ?_
  | refine x_next ?_
  | refine e_ret ?_
  | refine e_asg ?_
  | refine e_drop ?_
  | refine e_asgG ?_
  | walk_at "e1")
local macro_rules | `(tactic| walk_at "s") => `(tactic| ((try dsimp only); repeat (walk_at "s1"; try dsimp only)))
def top (i : Nat) : Stmt := PySem.Challenge.pw_whatran_k09_conditions_as_texts.main.body.getD i (.Pass ⟨0, 0, 0, 0⟩)
abbrev s_is_value_word : Stmt := top 10
theorem sc_is_value_word : FnScope ["thing"] ["thing"] (defScope s_is_value_word) := ⟨rfl, rfl, rfl, by decide +kernel, rfl, by decide +kernel, by decide +kernel⟩
abbrev s_is_condition : Stmt := top 11
theorem sc_is_condition : FnScope ["thing"] ["thing"] (defScope s_is_condition) := ⟨rfl, rfl, rfl, by decide +kernel, rfl, by decide +kernel, by decide +kernel⟩
abbrev s_condition_text : Stmt := top 12
theorem sc_condition_text : FnScope ["condition"] ["condition"] (defScope s_condition_text) := ⟨rfl, rfl, rfl, by decide +kernel, rfl, by decide +kernel, by decide +kernel⟩
abbrev s_read_condition : Stmt := top 13
theorem sc_read_condition : FnScope ["text", "words", "condition", "end"] ["text"] (defScope s_read_condition) := ⟨rfl, rfl, rfl, by decide +kernel, rfl, by decide +kernel, by decide +kernel⟩
abbrev s_parts_of : Stmt := top 14
theorem sc_parts_of : FnScope ["condition"] ["condition"] (defScope s_parts_of) := ⟨rfl, rfl, rfl, by decide +kernel, rfl, by decide +kernel, by decide +kernel⟩
abbrev s_need_condition : Stmt := top 15
theorem sc_need_condition : FnScope ["thing"] ["thing"] (defScope s_need_condition) := ⟨rfl, rfl, rfl, by decide +kernel, rfl, by decide +kernel, by decide +kernel⟩
abbrev s_is_built : Stmt := top 16
theorem sc_is_built : FnScope ["thing", "levels", "word", "sides", "side"] ["thing", "levels"] (defScope s_is_built) := ⟨rfl, rfl, rfl, by decide +kernel, rfl, by decide +kernel, by decide +kernel⟩
abbrev s_parts : Stmt := top 17
theorem sc_parts : FnScope ["condition", "side", "part"] ["condition"] (defScope s_parts) := ⟨rfl, rfl, rfl, by decide +kernel, rfl, by decide +kernel, by decide +kernel⟩
abbrev s_words : Stmt := top 18
theorem sc_words : FnScope ["condition", "side", "word"] ["condition"] (defScope s_words) := ⟨rfl, rfl, rfl, by decide +kernel, rfl, by decide +kernel, by decide +kernel⟩
abbrev s_read_from : Stmt := top 19
theorem sc_read_from : FnScope ["words", "start", "levels", "word", "end", "sides", "_", "side"] ["words", "start", "levels"] (defScope s_read_from) := ⟨rfl, rfl, rfl, by decide +kernel, rfl, by decide +kernel, by decide +kernel⟩
abbrev s_l_cell_at : Stmt := top 21
theorem sc_l_cell_at : FnScope ["_law_script", "_law_k"] ["_law_script", "_law_k"] (defScope s_l_cell_at) := ⟨rfl, rfl, rfl, by decide +kernel, rfl, by decide +kernel, by decide +kernel⟩
abbrev s_l_digit : Stmt := top 22
theorem sc_l_digit : FnScope ["_law_state", "_law_base", "_law_found", "_law_number"] ["_law_state", "_law_base"] (defScope s_l_digit) := ⟨rfl, rfl, rfl, by decide +kernel, rfl, by decide +kernel, by decide +kernel⟩
abbrev s_l_pick : Stmt := top 23
theorem sc_l_pick : FnScope ["_law_state", "_law_some"] ["_law_state", "_law_some"] (defScope s_l_pick) := ⟨rfl, rfl, rfl, by decide +kernel, rfl, by decide +kernel, by decide +kernel⟩
abbrev s_l_grown : Stmt := top 24
theorem sc_l_grown : FnScope ["_law_state", "_law_many", "_law_deep", "_law_way", "_law_first", "_law_word"] ["_law_state", "_law_many", "_law_deep"] (defScope s_l_grown) := ⟨rfl, rfl, rfl, by decide +kernel, rfl, by decide +kernel, by decide +kernel⟩
abbrev s_l_words : Stmt := top 25
theorem sc_l_words : FnScope ["_law_condition", "_law_found", "_law_one"] ["_law_condition"] (defScope s_l_words) := ⟨rfl, rfl, rfl, by decide +kernel, rfl, by decide +kernel, by decide +kernel⟩
abbrev s_l_parts : Stmt := top 26
theorem sc_l_parts : FnScope ["_law_condition", "_law_found", "_law_one"] ["_law_condition"] (defScope s_l_parts) := ⟨rfl, rfl, rfl, by decide +kernel, rfl, by decide +kernel, by decide +kernel⟩
abbrev s_law : Stmt := top 27
theorem sc_law : FnScope ["_law_script", "_law_cell", "_law_state", "_law_condition", "_law_due", "_law_found", "_law_turn", "_law_told"] ["_law_script"] (defScope s_law) := ⟨rfl, rfl, rfl, by decide +kernel, rfl, by decide +kernel, by decide +kernel⟩
structure Txt (w : World) (K : PySem.W.Frag) (mg : Str → Option Value) where
  a_is_value_word : Addr
  d_is_value_word : FuncData
  F_is_value_word : Fun K "is_value_word" "is_value_word" s_is_value_word a_is_value_word d_is_value_word
  m_is_value_word : mg "is_value_word" = some (.ref a_is_value_word)
  a_is_condition : Addr
  d_is_condition : FuncData
  F_is_condition : Fun K "is_condition" "is_condition" s_is_condition a_is_condition d_is_condition
  m_is_condition : mg "is_condition" = some (.ref a_is_condition)
  a_condition_text : Addr
  d_condition_text : FuncData
  F_condition_text : Fun K "condition_text" "condition_text" s_condition_text a_condition_text d_condition_text
  m_condition_text : mg "condition_text" = some (.ref a_condition_text)
  a_read_condition : Addr
  d_read_condition : FuncData
  F_read_condition : Fun K "read_condition" "read_condition" s_read_condition a_read_condition d_read_condition
  m_read_condition : mg "read_condition" = some (.ref a_read_condition)
  a_parts_of : Addr
  d_parts_of : FuncData
  F_parts_of : Fun K "parts_of" "parts_of" s_parts_of a_parts_of d_parts_of
  m_parts_of : mg "parts_of" = some (.ref a_parts_of)
  a_need_condition : Addr
  d_need_condition : FuncData
  F_need_condition : Fun K "_need_condition" "_need_condition" s_need_condition a_need_condition d_need_condition
  m_need_condition : mg "_need_condition" = some (.ref a_need_condition)
  a_is_built : Addr
  d_is_built : FuncData
  F_is_built : Fun K "_is_built" "_is_built" s_is_built a_is_built d_is_built
  m_is_built : mg "_is_built" = some (.ref a_is_built)
  a_parts : Addr
  d_parts : FuncData
  F_parts : Fun K "_parts" "_parts" s_parts a_parts d_parts
  m_parts : mg "_parts" = some (.ref a_parts)
  a_words : Addr
  d_words : FuncData
  F_words : Fun K "_words" "_words" s_words a_words d_words
  m_words : mg "_words" = some (.ref a_words)
  a_read_from : Addr
  d_read_from : FuncData
  F_read_from : Fun K "_read_from" "_read_from" s_read_from a_read_from d_read_from
  m_read_from : mg "_read_from" = some (.ref a_read_from)
  a_l_cell_at : Addr
  d_l_cell_at : FuncData
  F_l_cell_at : Fun K "_law_cell_at" "_law_cell_at" s_l_cell_at a_l_cell_at d_l_cell_at
  m_l_cell_at : mg "_law_cell_at" = some (.ref a_l_cell_at)
  a_l_digit : Addr
  d_l_digit : FuncData
  F_l_digit : Fun K "_law_digit" "_law_digit" s_l_digit a_l_digit d_l_digit
  m_l_digit : mg "_law_digit" = some (.ref a_l_digit)
  a_l_pick : Addr
  d_l_pick : FuncData
  F_l_pick : Fun K "_law_pick" "_law_pick" s_l_pick a_l_pick d_l_pick
  m_l_pick : mg "_law_pick" = some (.ref a_l_pick)
  a_l_grown : Addr
  d_l_grown : FuncData
  F_l_grown : Fun K "_law_grown" "_law_grown" s_l_grown a_l_grown d_l_grown
  m_l_grown : mg "_law_grown" = some (.ref a_l_grown)
  a_l_words : Addr
  d_l_words : FuncData
  F_l_words : Fun K "_law_words" "_law_words" s_l_words a_l_words d_l_words
  m_l_words : mg "_law_words" = some (.ref a_l_words)
  a_l_parts : Addr
  d_l_parts : FuncData
  F_l_parts : Fun K "_law_parts" "_law_parts" s_l_parts a_l_parts d_l_parts
  m_l_parts : mg "_law_parts" = some (.ref a_l_parts)
  a_law : Addr
  d_law : FuncData
  F_law : Fun K "law" "law" s_law a_law d_law
  m_law : mg "law" = some (.ref a_law)
  n_isinstance : mg "isinstance" = none
  n_str : mg "str" = none
  n_tuple : mg "tuple" = none
  n_list : mg "list" = none
  n_len : mg "len" = none
  n_range : mg "range" = none
  n_all : mg "all" = none
  n_repr : mg "repr" = none
  c_RanError : Addr
  g_RanError : mg "RanError" = some (.ref c_RanError)
  c_NoCondition : Addr
  g_NoCondition : mg "NoCondition" = some (.ref c_NoCondition)
  x_NoCondition : PySem.W.excIn K c_NoCondition [.type "ValueError", .type "Exception", .type "BaseException", .type "object"] "ValueError.__new__" = true
  k_NoCondition : PySem.W.keepIn K (.ref c_NoCondition) = true
  b_NoCondition : PySem.W.subIn K (.ref c_NoCondition) (.type "BaseException") = some true
  t_NoCondition : PySem.W.typeIn K (.ref c_NoCondition) = some (.type "type")
  e_NoCondition : PySem.W.exmOne K (.ref c_NoCondition) (.ref c_NoCondition) = some true
  c_PLACES : Addr
  m_PLACES : mg "PLACES" = some (.ref c_PLACES)
  q_PLACES : ∀ H, SqT K H c_PLACES plcL
  c_NUMBERS : Addr
  m_NUMBERS : mg "NUMBERS" = some (.ref c_NUMBERS)
  q_NUMBERS : ∀ H, SqT K H c_NUMBERS numL
  c_COMPARING : Addr
  m_COMPARING : mg "COMPARING" = some (.ref c_COMPARING)
  q_COMPARING : ∀ H, SqT K H c_COMPARING cmpL
  k_MOST_PARTS : Tok
  m_MOST_PARTS : mg "MOST_PARTS" = some (.int 8 k_MOST_PARTS)
  k_MOST_LEVELS : Tok
  m_MOST_LEVELS : mg "MOST_LEVELS" = some (.int 8 k_MOST_LEVELS)
  c_SIDES : Addr
  m_SIDES : mg "SIDES" = some (.ref c_SIDES)
  es_SIDES : Array DictEntry
  n_SIDES : Nat
  kd : KDict K w c_SIDES es_SIDES n_SIDES
  ns_SIDES : ∀ z : Str, ∃ r, PySem.W.nsIn K c_SIDES z = some r ∧ r.isSome = (sidesN z).isSome ∧ ∀ k, sidesN z = some k → ∃ t, r = some (.int (k : Nat) t)
section
variable {w : World} {K : PySem.W.Frag} {mg : Str → Option Value}
theorem bn_is_value_word (T : Txt w K mg) : Binds K T.d_is_value_word ["thing"] [] := T.F_is_value_word.binds (ps := ["thing"]) fun _ _ _ _ _ _ us hl => match us, hl with | [_], _ => rfl
theorem bn_is_condition (T : Txt w K mg) : Binds K T.d_is_condition ["thing"] [] := T.F_is_condition.binds (ps := ["thing"]) fun _ _ _ _ _ _ us hl => match us, hl with | [_], _ => rfl
theorem bn_condition_text (T : Txt w K mg) : Binds K T.d_condition_text ["condition"] [] := T.F_condition_text.binds (ps := ["condition"]) fun _ _ _ _ _ _ us hl => match us, hl with | [_], _ => rfl
theorem bn_read_condition (T : Txt w K mg) : Binds K T.d_read_condition ["text"] [] := T.F_read_condition.binds (ps := ["text"]) fun _ _ _ _ _ _ us hl => match us, hl with | [_], _ => rfl
theorem bn_parts_of (T : Txt w K mg) : Binds K T.d_parts_of ["condition"] [] := T.F_parts_of.binds (ps := ["condition"]) fun _ _ _ _ _ _ us hl => match us, hl with | [_], _ => rfl
theorem bn_need_condition (T : Txt w K mg) : Binds K T.d_need_condition ["thing"] [] := T.F_need_condition.binds (ps := ["thing"]) fun _ _ _ _ _ _ us hl => match us, hl with | [_], _ => rfl
theorem bn_is_built (T : Txt w K mg) : Binds K T.d_is_built ["thing", "levels"] [] := T.F_is_built.binds (ps := ["thing", "levels"]) fun _ _ _ _ _ _ us hl => match us, hl with | [_, _], _ => rfl
theorem bn_parts (T : Txt w K mg) : Binds K T.d_parts ["condition"] [] := T.F_parts.binds (ps := ["condition"]) fun _ _ _ _ _ _ us hl => match us, hl with | [_], _ => rfl
theorem bn_words (T : Txt w K mg) : Binds K T.d_words ["condition"] [] := T.F_words.binds (ps := ["condition"]) fun _ _ _ _ _ _ us hl => match us, hl with | [_], _ => rfl
theorem bn_read_from (T : Txt w K mg) : Binds K T.d_read_from ["words", "start", "levels"] [] := T.F_read_from.binds (ps := ["words", "start", "levels"]) fun _ _ _ _ _ _ us hl => match us, hl with | [_, _, _], _ => rfl
theorem bn_l_cell_at (T : Txt w K mg) : Binds K T.d_l_cell_at ["_law_script", "_law_k"] [] := T.F_l_cell_at.binds (ps := ["_law_script", "_law_k"]) fun _ _ _ _ _ _ us hl => match us, hl with | [_, _], _ => rfl
theorem bn_l_digit (T : Txt w K mg) : Binds K T.d_l_digit ["_law_state", "_law_base"] [] := T.F_l_digit.binds (ps := ["_law_state", "_law_base"]) fun _ _ _ _ _ _ us hl => match us, hl with | [_, _], _ => rfl
theorem bn_l_pick (T : Txt w K mg) : Binds K T.d_l_pick ["_law_state", "_law_some"] [] := T.F_l_pick.binds (ps := ["_law_state", "_law_some"]) fun _ _ _ _ _ _ us hl => match us, hl with | [_, _], _ => rfl
theorem bn_l_grown (T : Txt w K mg) : Binds K T.d_l_grown ["_law_state", "_law_many", "_law_deep"] [] := T.F_l_grown.binds (ps := ["_law_state", "_law_many", "_law_deep"]) fun _ _ _ _ _ _ us hl => match us, hl with | [_, _, _], _ => rfl
theorem bn_l_words (T : Txt w K mg) : Binds K T.d_l_words ["_law_condition"] [] := T.F_l_words.binds (ps := ["_law_condition"]) fun _ _ _ _ _ _ us hl => match us, hl with | [_], _ => rfl
theorem bn_l_parts (T : Txt w K mg) : Binds K T.d_l_parts ["_law_condition"] [] := T.F_l_parts.binds (ps := ["_law_condition"]) fun _ _ _ _ _ _ us hl => match us, hl with | [_], _ => rfl
theorem bn_law (T : Txt w K mg) : Binds K T.d_law ["_law_script"] [] := T.F_law.binds (ps := ["_law_script"]) fun _ _ _ _ _ _ us hl => match us, hl with | [_], _ => rfl
end
theorem Tr.kind_str {K : PySem.W.Frag} {H : Hp} {v : V} {d : PyData} (h : Tr H v d) (e : kb (kindD d) "str" = true) : ∃ x, v = .str x ∧ d = .str x := by
  cases h with
  | str x => exact ⟨x, rfl, rfl⟩
  | non => exact absurd (show kb "NoneType" "str" = true from e) (by decide)
  | bl b => exact absurd (show kb "bool" "str" = true from e) (by decide)
  | int b => exact absurd (show kb "int" "str" = true from e) (by decide)
  | tup h t => exact absurd (show kb "tuple" "str" = true from e) (by decide)
  | lst h => exact absurd (show kb "list" "str" = true from e) (by decide)
theorem vwD_not {d : PyData} (e : kb (kindD d) "str" = false) : vwD d = false := by
  cases d with
  | str x => exact absurd (show kb "str" "str" = false from e) (by decide)
  | _ => rfl
theorem flat_plc : plcL.all flatV = true := by decide +kernel
theorem flat_num : numL.all flatV = true := by decide +kernel
theorem flat_cmp : cmpL.all flatV = true := by decide +kernel
def sp_is_value_word : Sp := fun vs H Q _ => ∃ x d, vs = [x] ∧ Tr H x d ∧ Q (.bl (vwD d)) H
section
variable {P : Program} {w : World} {K : PySem.W.Frag} {mg : Str → Option Value} {base : Heap}
theorem ok_is_value_word (T : Txt w K mg) : FnOk P w K mg base CX0 1 T.a_is_value_word T.d_is_value_word ["thing"] sp_is_value_word := by
  refine T.F_is_value_word.ok sc_is_value_word (fun vs H Q E h => by obtain ⟨_, _, rfl, _⟩ := h; rfl) (fun cdv A outer s H vs Q E hr h => ?_)
  obtain ⟨x, d, rfl, hT, q⟩ := h
  refine ⟨_, (pss_one (ps_ret (pe_and (pe_callB call_isi rfl T.n_isinstance (by decide +kernel) (pa_cons (pv 0) (pa_cons (pe_bltn (by rfl) T.n_str (v := .ty "str") (by decide +kernel) rfl) pa_nil))) (pe_one (pe_or (pe_cmpR op_in_seq (pv 0) (pe_glob (v := .ref T.c_PLACES) rfl T.m_PLACES rfl) rfl) (pe_one (pe_cmpR op_in_seq (pv 0) (pe_glob (v := .ref T.c_NUMBERS) rfl T.m_NUMBERS rfl) rfl))))))), ?_⟩
  walk_at "s"
  refine e_isi hT.th (by decide) ?_
  refine ⟨_, rfl, ?_⟩
  cases e : kb (kindD d) "str" with
  | false =>
    rw [vwD_not e] at q
    exact q
  | true =>
    obtain ⟨y, rfl, rfl⟩ := Tr.kind_str (K := K) hT e
    refine iteT ?_
    walk_at "e"
    refine ⟨_, _, rfl, .inr (T.q_PLACES _), rfl, flat_plc, ?_⟩
    refine ⟨_, rfl, ?_⟩
    have hq : vwD (.str y) = (inV (.str y) plcL || inV (.str y) numL) := rfl
    rw [hq] at q
    cases e1 : inV (.str y) plcL with
    | true =>
      rw [e1] at q
      exact q
    | false =>
      rw [e1] at q
      walk_at "e"
      exact ⟨_, _, rfl, .inr (T.q_NUMBERS _), rfl, flat_num, q⟩
end
end My

set_option Elab.async false
set_option linter.all false
set_option maxRecDepth 100000
set_option maxHeartbeats 4000000
namespace My
open PySem PySem.Spec PyProof.Rows L2
local macro_rules | `(tactic| walk_at "e1") => `(tactic| first
  | refine e_var rfl ?_
  | refine e_c ?_
  | refine e_op ?_
  | refine e_un ?_
  | refine e_cb ?_
  | refine e_cons ?_
  | refine e_nil ?_
  | refine e_tB ?_
  | refine e_test ?_
  | refine e_not ?_
  | refine e_and ?_
  | refine e_or ?_
  | refine e_andV ?_
  | refine e_orV ?_
  | refine e_notV ?_
  | refine e_I0 ?_
  | refine e_I (by (try dsimp only [CDiv, CDivN, CMul, CPow]); first | decide | omega) ?_
  | refine e_U ?_
  | refine e_eqI ?_
  | refine e_neI ?_
  | refine e_bl ?_
  | refine e_call ?_
  | refine e_sub ?_
  | refine e_lst ?_
  | refine e_tup ?_
  | refine e_nn ?_
  | rw [dec_nn]
  | rw [dec_in]
  | rw [dec_rn]
  | rw [dec_bn]
  | rw [dec_sn]
  | rw [Bool.not_true]
  | rw [Bool.not_false]
  | refine iteT ?_
  | refine iteF ?_)
local macro_rules | `(tactic| walk_at "e") => `(tactic| ((try dsimp only); repeat (walk_at "e1"; try dsimp only)))
local macro_rules | `(tactic| walk_at "s1") => `(tactic| first
  | refine x_seq ?_
  | refine x_next ?_
  | refine e_ret ?_
  | refine e_asg ?_
  | refine e_drop ?_
  | refine e_asgG ?_
  | walk_at "e1")
local macro_rules | `(tactic| walk_at "s") => `(tactic| ((try dsimp only); repeat (walk_at "s1"; try dsimp only)))
section
variable {P : Program} {w : World} {K : PySem.W.Frag} {mg : Str → Option Value} {base : Heap}
def sp_built : Nat → Sp
  | 0 => fun _ _ _ _ => False
  | n + 1 => fun vs H Q _ => ∃ x d, ∃ m : Nat, vs = [x, .int m] ∧ m ≤ n ∧ Tr H x d ∧ ∀ H', Same H H' → Q (.bl (builtD m d)) H'
theorem tup_kind {K : PySem.W.Frag} {H : Hp} {v : V} {d : PyData} (h : Tr H v d) (e : kb (kindD d) "tuple" = true) : ∃ p xs ds, v = .ref p ∧ d = .tuple ds ∧ H p = some (.tup xs) ∧ TrAll H xs ds := by
  cases h with
  | tup h t => exact ⟨_, _, _, rfl, rfl, h, t⟩
  | non => exact absurd (show kb "NoneType" "tuple" = true from e) (by decide)
  | bl b => exact absurd (show kb "bool" "tuple" = true from e) (by decide)
  | int b => exact absurd (show kb "int" "tuple" = true from e) (by decide)
  | str b => exact absurd (show kb "str" "tuple" = true from e) (by decide)
  | lst h => exact absurd (show kb "list" "tuple" = true from e) (by decide)
theorem built_notup {m : Nat} {d : PyData} (e : kb (kindD d) "tuple" = false) : builtD m d = false := by
  cases m with
  | zero => rfl
  | succ m =>
    cases d with
    | tuple ds => exact absurd (show kb "tuple" "tuple" = false from e) (by decide)
    | _ => rfl
theorem built_nostr {m : Nat} {d : PyData} {ds : List PyData} (e : kb (kindD d) "str" = false) : builtD m (.tuple (d :: ds)) = false := by
  cases m with
  | zero => rfl
  | succ m =>
    cases d with
    | str x => exact absurd (show kb "str" "str" = false from e) (by decide)
    | _ => rfl
theorem built_cmp {m : Nat} {w : Str} {ds : List PyData} (h : cmpW w = true) : builtD (m + 1) (.tuple (.str w :: ds)) = (ds.length == 2 && ds.all vwD) := by
  rw [builtD, if_pos h]
theorem built_in {m : Nat} {w : Str} {ds : List PyData} (h : cmpW w = false) : builtD (m + 1) (.tuple (.str w :: ds)) = (sidesN w).elim false (fun k => ds.length == k && ds.all (builtD m)) := by
  rw [builtD, if_neg (by rw [h]; exact Bool.false_ne_true)]
  cases sidesN w <;> rfl
theorem ok_is_built (T : Txt w K mg) (G_is_value_word : FnOk P w K mg base CX0 1 T.a_is_value_word T.d_is_value_word ["thing"] sp_is_value_word) : ∀ n : Nat, FnOk P w K mg base CX0 (n + 1) T.a_is_built T.d_is_built ["thing", "levels"] (sp_built n)
  | 0 => ⟨fun _ _ _ _ h => h.elim, fun _ _ _ _ _ _ _ _ _ _ _ _ _ h => h.elim⟩
  | n + 1 => by
    have G_is_built := ok_is_built T G_is_value_word n
    refine T.F_is_built.ok sc_is_built (fun vs H Q E h => by obtain ⟨_, _, _, rfl, _⟩ := h; rfl) (fun cdv A outer s H vs Q E hr h => ?_)
    obtain ⟨x, d, m, rfl, hm, hT, q⟩ := h
    refine ⟨_, (pss_cons (ps_if (PW.pt (pw_or (pt_cmpR op_eq (pv 1) pe_int (nomark _)) (pw_or (pt_not (pt_val (pe_callB call_isi rfl T.n_isinstance (by decide +kernel) (pa_cons (pv 0) (pa_cons (pe_bltn (by rfl) T.n_tuple (v := .ty "tuple") (by decide +kernel) rfl) pa_nil))))) (pw_or1 (pt_cmpR op_eq (pe_callB call_len_seq rfl T.n_len (by decide +kernel) (pa_cons (pv 0) pa_nil)) pe_int (nomark _)))))) (pss_one (ps_ret pe_bl)) pss_nil)
    (pss_cons (ps_asg (pv 0) (pg_star rfl (pgs_cons (pg_name (i := 2) sc_is_built.nd rfl (Or.inl rfl)) (pgs_cons (pg_name (i := 3) sc_is_built.nd rfl (Or.inl rfl)) pgs_nil))))
    (pss_cons (ps_if (pt_not (pt_val (pe_callB call_isi rfl T.n_isinstance (by decide +kernel) (pa_cons (pv 2) (pa_cons (pe_bltn (by rfl) T.n_str (v := .ty "str") (by decide +kernel) rfl) pa_nil))))) (pss_one (ps_ret pe_bl)) pss_nil)
    (pss_cons (ps_if (pt_cmpR op_in_seq (pv 2) (pe_glob (v := .ref T.c_COMPARING) rfl T.m_COMPARING rfl) rfl) (pss_one (ps_ret (pe_and (pe_cmpR op_eq (pe_callB call_len_seq rfl T.n_len (by decide +kernel) (pa_cons (pv 3) pa_nil)) pe_int (nomark _)) (pe_one (pe_callB (cr_all rfl) rfl T.n_all (by decide +kernel) (pa_cons (pe_lc (own := [("side", 4)]) (g := gName 4) rfl sc_is_built.nd (pi_list (pv 3)) (blkOk_by (own := [("side", 4)]) (N := ["thing", "levels", "word", "sides", "side"]) (sc := defScope s_is_built) (by decide +kernel)) (fun _ _ _ _ _ => pg_name (i := 4) sc_is_built.nd rfl (Or.inl rfl)) (fun _ _ _ _ _ => pts_nil) (fun _ _ _ _ _ => (pe_call G_is_value_word (hr.mono (by omega)) rfl T.m_is_value_word T.F_is_value_word.kp (bn_is_value_word T) .nil pass0 (pa_cons (pv 4) pa_nil)))) pa_nil)))))) pss_nil)
    (pss_cons (ps_if (PW.pt (pw_or (pt_cmpR (op_notIn_kd T.kd) (pv 2) (pe_glob (v := .ref T.c_SIDES) rfl T.m_SIDES rfl) rfl) (pw_or1 (pt_cmpR op_ne (pe_callB call_len_seq rfl T.n_len (by decide +kernel) (pa_cons (pv 3) pa_nil)) (pe_ix ix_kdict (pe_glob (v := .ref T.c_SIDES) rfl T.m_SIDES rfl) (pv 2) (fun _ _ => rfl)) (nomark _))))) (pss_one (ps_ret pe_bl)) pss_nil)
    (pss_one (ps_ret (pe_callB (cr_all rfl) rfl T.n_all (by decide +kernel) (pa_cons (pe_lc (own := [("side", 4)]) (g := gName 4) rfl sc_is_built.nd (pi_list (pv 3)) (blkOk_by (own := [("side", 4)]) (N := ["thing", "levels", "word", "sides", "side"]) (sc := defScope s_is_built) (by decide +kernel)) (fun _ _ _ _ _ => pg_name (i := 4) sc_is_built.nd rfl (Or.inl rfl)) (fun _ _ _ _ _ => pts_nil) (fun _ _ _ _ _ => (pe_call G_is_built (hr.mono (by omega)) rfl T.m_is_built T.F_is_built.kp (bn_is_built T) .nil pass0 (pa_cons (pv 4) (pa_cons (pe_op op_sub (pv 1) pe_int) pa_nil))))) pa_nil))))))))), ?_⟩
    refine x_seq (x_if (fun b H' => H' = H ∧ (b = true → builtD m d = false) ∧ (b = false → m ≠ 0 ∧ ∃ p xs ds, x = .ref p ∧ d = .tuple ds ∧ H p = some (.tup xs) ∧ TrAll H xs ds ∧ ds ≠ [])) (fun Q k => ?_) ?_ ?_)
    · walk_at "e"
      by_cases h0 : m = 0
      · subst h0
        walk_at "e"
        exact k _ _ ⟨rfl, fun _ => rfl, fun e => by cases e⟩
      · have e0 : decide ((m : Int) = 0) = false := by simp [h0]
        rw [e0]
        walk_at "e"
        refine e_isi hT.th (by decide) ?_
        walk_at "e"
        cases e : kb (kindD d) "tuple" with
        | false =>
          walk_at "e"
          exact k _ _ ⟨rfl, fun _ => built_notup e, fun e => by cases e⟩
        | true =>
          obtain ⟨p, xs, ds, rfl, rfl, hp, ht⟩ := tup_kind (K := K) hT e
          walk_at "e"
          refine ⟨p, xs, rfl, .inr (SqT.of hp), ?_⟩
          walk_at "e"
          refine k _ _ ⟨rfl, fun e => ?_, fun e => ⟨h0, p, xs, ds, rfl, rfl, hp, ht, ?_⟩⟩
          · have : xs.length = 0 := by simpa using e
            rw [ht.length] at this
            have : ds = [] := List.length_eq_zero_iff.mp this
            subst this
            cases m <;> rfl
          · rintro rfl
            have := ht.length
            simp at this
            subst this
            simp at e
    · rintro H' ⟨rfl, e, _⟩
      have q := q H' (Same.refl _)
      rw [e rfl] at q
      exact e_ret (e_c q)
    · rintro H' ⟨rfl, _, e⟩
      obtain ⟨h0, p, xs, ds, rfl, rfl, hp, ht, hne⟩ := e rfl
      obtain ⟨m, rfl⟩ : ∃ k, m = k + 1 := ⟨m - 1, by omega⟩
      cases ht with
      | nil => exact absurd rfl hne
      | @cons v vs d ds hv ht =>
        refine x_next ?_
        dsimp only
        refine x_seq (e_asgG ?_)
        walk_at "e"
        refine ⟨p, v, vs, rfl, SqT.of hp, fun p1 hp1 => ?_⟩
        refine ⟨_, _, rfl, ?_⟩
        refine ⟨_, _, rfl, ?_⟩
        refine ⟨rfl, ?_⟩
        try dsimp only
        have s1 := same_new hp1 (.lst vs)
        have hp1' : upd H' p1 (.lst vs) p1 = some (.lst vs) := upd_same
        generalize upd H' p1 (.lst vs) = H1 at s1 hp1'
        refine x_seq (x_if (fun b H' => H' = H1 ∧ b = !kb (kindD d) "str") (fun Q k => ?_) ?_ ?_)
        · walk_at "e"
          refine e_isi (hv.same s1).th (by decide) ?_
          walk_at "e"
          exact k _ _ ⟨rfl, rfl⟩
        · rintro H2 ⟨rfl, e⟩
          have e : kb (kindD d) "str" = false := by simpa using e.symm
          have q := q _ s1
          rw [built_nostr e] at q
          exact e_ret (e_c q)
        rintro H2 ⟨rfl, e⟩
        have e : kb (kindD d) "str" = true := by simpa using e.symm
        obtain ⟨w0, rfl, rfl⟩ := Tr.kind_str (K := K) hv e
        have ht2 := ht.same s1
        have hlen := ht.length
        refine x_next ?_
        dsimp only
        refine x_seq (x_if (fun b H' => H' = H2 ∧ b = cmpW w0) (fun Q k => ?_) ?_ ?_)
        · walk_at "e"
          refine ⟨_, _, rfl, .inr (T.q_COMPARING _), rfl, flat_cmp, ?_⟩
          walk_at "e"
          exact k _ _ ⟨rfl, rfl⟩
        · rintro H3 ⟨rfl, ec⟩
          rw [built_cmp ec.symm] at q
          walk_at "s"
          refine ⟨p1, vs, rfl, .inl (SqL.of hp1'), ?_⟩
          walk_at "e"
          by_cases h2 : ds.length = 2
          · have e2 : decide ((vs.length : Int) = 2) = true := decide_eq_true (by omega)
            have e3 : (ds.length == 2) = true := by simp [h2]
            rw [e2]
            rw [e3, Bool.true_and] at q
            refine iteT ?_
            walk_at "e"
            refine x_lcMap (K := K) (ys := (ds.map vwD).map V.bl) (fun _ => rfl) (SqL.of hp1') (fun Q k => ⟨_, rfl, k⟩) (by rw [List.length_map, List.length_map]; exact hlen) (by rw [hlen, h2]; decide) (fun j x y H' hx hy s Q k => ?_) (fun D H' s hD hD' => ?_)
            · obtain ⟨d, hd, hT⟩ := ht2.get hx
              rw [List.getElem?_map, List.getElem?_map, hd] at hy
              cases (Option.some.inj hy)
              walk_at "e"
              exact ⟨_, _, rfl, hT.same s, k _ (Same.refl _)⟩
            · walk_at "e"
              refine ⟨D, ds.map vwD, rfl, SqL.of hD', ?_⟩
              rw [List.all_map]
              exact q _ (s1.trans s)
          · have e2 : decide ((vs.length : Int) = 2) = false := decide_eq_false (by omega)
            have e3 : (ds.length == 2) = false := by simp [h2]
            rw [e2]
            rw [e3, Bool.false_and] at q
            exact q _ s1
        rintro H3 ⟨rfl, ec⟩
        rw [built_in ec.symm] at q
        obtain ⟨r, hr1, hr2, hr3⟩ := T.ns_SIDES w0
        refine x_next ?_
        dsimp only
        refine x_seq (x_if (fun b H' => H' = H3 ∧ ((b = true ∧ ∀ f : PyData → Bool, (sidesN w0).elim false (fun k => ds.length == k && ds.all f) = false) ∨ (b = false ∧ sidesN w0 = some ds.length))) (fun Q k => ?_) ?_ ?_)
        · walk_at "e"
          refine ⟨w0, r, rfl, rfl, hr1, ?_⟩
          walk_at "e"
          cases es : sidesN w0 with
          | none =>
            rw [es] at hr2
            rw [hr2]
            walk_at "e"
            exact k _ _ ⟨rfl, .inl ⟨rfl, fun f => by rw [es]; rfl⟩⟩
          | some n0 =>
            obtain ⟨t, rfl⟩ := hr3 n0 es
            walk_at "e"
            refine ⟨p1, vs, rfl, .inl (SqL.of hp1'), ?_⟩
            walk_at "e"
            refine ⟨_, _, .int (n0 : Nat), rfl, rfl, ⟨_, _, _, T.kd.at_, T.kd.lit, hr1, ⟨t, rfl⟩⟩, ?_⟩
            walk_at "e"
            refine k _ _ ⟨rfl, ?_⟩
            by_cases hn : ds.length = n0
            · refine .inr ⟨congrArg (!·) (decide_eq_true (by omega)), by rw [es, hn]⟩
            · refine .inl ⟨congrArg (!·) (decide_eq_false (by omega)), fun f => ?_⟩
              rw [es]
              show (ds.length == n0 && ds.all f) = false
              have : (ds.length == n0) = false := by simp [hn]
              rw [this]
              rfl
        · rintro H4 ⟨rfl, ⟨_, e⟩ | ⟨e, _⟩⟩
          · have q := q _ s1
            rw [e] at q
            exact e_ret (e_c q)
          · cases e
        rintro H4 ⟨rfl, ⟨e, _⟩ | ⟨_, es⟩⟩
        · cases e
        rw [es] at q
        have e3 : (ds.length == ds.length) = true := by simp
        have q2 : ∀ H'_1, Same H' H'_1 → Q (V.bl (ds.all (builtD m))) H'_1 := fun H5 s5 => by
          have := q H5 s5
          simpa using this
        have hs2 : ds.length ≤ sizeLine := by
          rcases sidesN_some es with ⟨_, e⟩ | ⟨_, e⟩ <;> rw [e] <;> decide
        refine x_next ?_
        walk_at "s"
        refine x_lcMap (K := K) (ys := (ds.map (builtD m)).map V.bl) (fun _ => rfl) (SqL.of hp1') (fun Q k => ⟨_, rfl, k⟩) (by rw [List.length_map, List.length_map]; exact hlen) (by rw [hlen]; exact hs2) (fun j x y H' hx hy s Q k => ?_) (fun D H' s hD hD' => ?_)
        · obtain ⟨d, hd, hT⟩ := ht2.get hx
          rw [List.getElem?_map, List.getElem?_map, hd] at hy
          cases (Option.some.inj hy)
          walk_at "e"
          obtain ⟨n, rfl⟩ : ∃ k, n = k + 1 := ⟨n - 1, by omega⟩
          refine ⟨_, _, m, ?_, by omega, hT.same s, fun H'' s2 => k _ s2⟩
          have : ((m + 1 : Nat) : Int) - 1 = (m : Int) := by omega
          rw [this]
          rfl
        · walk_at "e"
          refine ⟨D, ds.map (builtD m), rfl, SqL.of hD', ?_⟩
          rw [List.all_map]
          exact q2 _ (s1.trans s)
end
end My

set_option Elab.async false
set_option linter.all false
set_option maxRecDepth 100000
set_option maxHeartbeats 4000000
namespace My
open PySem PySem.Spec PyProof.Rows L2
local macro_rules | `(tactic| walk_at "e1") => `(tactic| first
  | refine e_var rfl ?_
  | refine e_c ?_
  | refine e_op ?_
  | refine e_un ?_
  | refine e_cb ?_
  | refine e_cons ?_
  | refine e_nil ?_
  | refine e_tB ?_
  | refine e_test ?_
  | refine e_not ?_
  | refine e_and ?_
  | refine e_or ?_
  | refine e_andV ?_
  | refine e_orV ?_
  | refine e_notV ?_
  | refine e_I0 ?_
  | refine e_I (by (try dsimp only [CDiv, CDivN, CMul, CPow]); first | decide | omega) ?_
  | refine e_U ?_
  | refine e_eqI ?_
  | refine e_neI ?_
  | refine e_bl ?_
  | refine e_call ?_
  | refine e_sub ?_
  | refine e_lst ?_
  | refine e_tup ?_
  | refine e_nn ?_
  | rw [dec_nn]
  | rw [dec_in]
  | rw [dec_rn]
  | rw [dec_bn]
  | rw [dec_sn]
  | rw [Bool.not_true]
  | rw [Bool.not_false]
  | refine iteT ?_
  | refine iteF ?_)
local macro_rules | `(tactic| walk_at "e") => `(tactic| ((try dsimp only); repeat (walk_at "e1"; try dsimp only)))
local macro_rules | `(tactic| walk_at "s1") => `(tactic| first
  | refine x_seq ?_
  | refine x_next ?_
  | refine e_ret ?_
  | refine e_asg ?_
  | refine e_drop ?_
  | refine e_asgG ?_
  | walk_at "e1")
local macro_rules | `(tactic| walk_at "s") => `(tactic| ((try dsimp only); repeat (walk_at "s1"; try dsimp only)))
theorem built0 {d : PyData} (h : Built 0 d) : False := by cases h
theorem Built.shape {n : Nat} {d : PyData} (h : Built (n + 1) d) : ∃ w ds, d = .tuple (.str w :: ds) ∧ ds ≠ [] ∧ ((cmpW w = true ∧ ∃ x y, ds = [.str x, .str y] ∧ vwS x = true ∧ vwS y = true) ∨ (cmpW w = false ∧ sidesN w = some ds.length ∧ ∀ d ∈ ds, Built n d)) := by
  cases h with
  | part hw hx hy => exact ⟨_, _, rfl, by simp, .inl ⟨hw, _, _, rfl, hx, hy⟩⟩
  | one h => exact ⟨_, _, rfl, by simp, .inr ⟨cmp_not, sides_not, fun d m => by rw [List.mem_singleton.mp m]; exact h⟩⟩
  | two hw h k =>
    refine ⟨_, _, rfl, by simp, .inr ⟨cmp_two hw, sides_two hw, fun d m => ?_⟩⟩
    rcases List.mem_cons.mp m with rfl | m
    · exact h
    · rw [List.mem_singleton.mp m]
      exact k
theorem partsAll_flat : ∀ ds : List PyData, partsAll ds = ds.flatMap partsD
  | [] => rfl
  | d :: ds => by rw [partsAll, partsAll_flat ds, List.flatMap_cons]
def wordsV (d : PyData) : List PyData := (wordsD d).map PyData.str
theorem wordsAll_flat : ∀ ds : List PyData, (wordsAll ds).map PyData.str = ds.flatMap wordsV
  | [] => rfl
  | d :: ds => by rw [wordsAll, List.map_append, wordsAll_flat ds, List.flatMap_cons]; rfl
theorem cut1 (v : V) (vs : List V) : cutV (v :: vs) (some 1) none = vs := by
  unfold cutV
  have e1 : HT.sIx (v :: vs).length 0 (some 1) = 1 := by
    show (if (1 : Int) < 0 then ((1 : Int) + ((v :: vs).length : Int)).toNat else min (1 : Int).toNat (v :: vs).length) = 1
    rw [if_neg (by omega), List.length_cons]
    show min 1 (vs.length + 1) = 1
    omega
  have e2 : HT.sIx (v :: vs).length (v :: vs).length none = vs.length + 1 := rfl
  rw [e1, e2]
  show (vs.take (vs.length + 1 - 1)) = vs
  rw [Nat.add_sub_cancel, List.take_length]
theorem cut1_ne (v : V) (vs : List V) : ¬ (HT.sIx (v :: vs).length 0 (some 1) = 0 ∧ HT.sIx (v :: vs).length (v :: vs).length none = (v :: vs).length) := by
  rintro ⟨e, _⟩
  have e1 : HT.sIx (v :: vs).length 0 (some 1) = 1 := by
    show (if (1 : Int) < 0 then ((1 : Int) + ((v :: vs).length : Int)).toNat else min (1 : Int).toNat (v :: vs).length) = 1
    rw [if_neg (by omega), List.length_cons]
    show min 1 (vs.length + 1) = 1
    omega
  rw [e1] at e
  cases e
/-- a told condition, by its parts in the heap -/
theorem tr_cond {H : Hp} {v : V} {w : Str} {ds : List PyData} (h : Tr H v (.tuple (.str w :: ds))) : ∃ p vs, v = .ref p ∧ H p = some (.tup (.str w :: vs)) ∧ TrAll H vs ds := by
  cases h with
  | tup hp ht =>
    cases ht with
    | cons hv ht =>
      cases hv.flat
      exact ⟨_, _, rfl, hp, ht⟩
theorem flat_strs {H : Hp} : ∀ {vs : List V} {ws : List Str}, TrAll H vs (ws.map PyData.str) → vs = ws.map V.str
  | _, [], .nil => rfl
  | _, w :: ws, .cons h t => by
    rw [h.flat, flat_strs t]
    rfl
theorem strs_flat {H : Hp} : ∀ (ws : List Str), TrAll H (ws.map V.str) (ws.map PyData.str)
  | [] => .nil
  | w :: ws => .cons (.str w) (strs_flat ws)
theorem pow_le {n : Nat} (h : n ≤ 20) : 4 * 2 ^ n ≤ sizeLine := by
  have : 2 ^ n ≤ 2 ^ 20 := Nat.pow_le_pow_right (by decide) h
  have e : sizeLine = 16777216 := sizeLine_eq
  omega
def sp_parts (n : Nat) : Sp := fun vs H Q _ => ∃ x d, vs = [x] ∧ Tr H x d ∧ Built n d ∧ ∀ H' p ys, Same H H' → H p = none → H' p = some (.lst ys) → TrAll H' ys (partsD d) → Q (.ref p) H'
def sp_words (n : Nat) : Sp := fun vs H Q _ => ∃ x d, vs = [x] ∧ Tr H x d ∧ Built n d ∧ ∀ H' p, Same H H' → H p = none → H' p = some (.lst ((wordsD d).map V.str)) → Q (.ref p) H'
section
variable {P : Program} {w : World} {K : PySem.W.Frag} {mg : Str → Option Value} {base : Heap}
theorem ok_parts (T : Txt w K mg) : ∀ n : Nat, n ≤ 20 → FnOk P w K mg base CX0 (n + 1) T.a_parts T.d_parts ["condition"] (sp_parts n)
  | 0, _ => ⟨fun _ _ _ _ h => by obtain ⟨_, _, _, _, h, _⟩ := h; exact (built0 h).elim, fun _ _ _ _ _ _ _ _ _ _ _ _ _ h => by obtain ⟨_, _, _, _, h, _⟩ := h; exact (built0 h).elim⟩
  | n + 1, hn => by
    have G_parts := ok_parts T n (by omega)
    refine T.F_parts.ok sc_parts (fun vs H Q E h => by obtain ⟨_, _, rfl, _⟩ := h; rfl) (fun cdv A outer s H vs Q E hr h => ?_)
    obtain ⟨x, d, rfl, hT, hB, q⟩ := h
    have hlen := hB.parts_len.2
    obtain ⟨w0, ds, rfl, hne, hc⟩ := hB.shape
    obtain ⟨p, vs, rfl, hp, ht⟩ := tr_cond hT
    refine ⟨_, (pss_cons (ps_if (pt_cmpR op_in_seq (pe_ix ix_tup (pv 0) pe_int (fun _ _ => rfl)) (pe_glob (v := .ref T.c_COMPARING) rfl T.m_COMPARING rfl) rfl) (pss_one (ps_ret (pe_lst (pa_cons (pv 0) pa_nil)))) pss_nil)
    (pss_one (ps_ret (pe_lc2 (own := [("side", 1), ("part", 2)]) (vs1 := [2]) (g := gName 1) (g1 := gName 2) (wi1 := iList K _) rfl sc_parts.nd (pi_tup (pe_slice sl_tup (pv 0) (po_some pe_int) po_none)) (blkOk_by (own := [("side", 1), ("part", 2)]) (N := ["condition", "side", "part"]) (sc := defScope s_parts) (by decide +kernel)) (by decide) (fun _ _ _ _ _ => pg_name (i := 1) sc_parts.nd rfl (Or.inl rfl)) (fun _ _ _ _ _ => pts_nil) (fun _ _ _ _ _ => (pi_list (pe_call G_parts (hr.mono (by omega)) rfl T.m_parts T.F_parts.kp (bn_parts T) .nil pass0 (pa_cons (pv 1) pa_nil)))) (fun _ _ _ _ _ => pg_name (i := 2) sc_parts.nd rfl (Or.inl rfl)) (fun _ _ _ _ _ => pts_nil) (fun _ _ _ _ _ => (pv 2)))))), ?_⟩
    refine x_seq (x_if (fun b H' => H' = H ∧ b = cmpW w0) (fun Q k => ?_) ?_ ?_)
    · walk_at "e"
      refine e_ixT (SqT.of hp) (atI_nat (j := 0) rfl) ?_
      walk_at "e"
      refine ⟨_, _, rfl, .inr (T.q_COMPARING _), rfl, flat_cmp, ?_⟩
      walk_at "e"
      exact k _ _ ⟨rfl, rfl⟩
    · rintro H' ⟨rfl, e⟩
      rw [parts_cmp e.symm] at q
      walk_at "s"
      refine ⟨by show 1 ≤ sizeLine; decide, fun p1 hp1 => q _ p1 _ (same_new hp1 _) hp1 upd_same (.cons (hT.same (same_new hp1 _)) .nil)⟩
    · rintro H' ⟨rfl, e⟩
      rcases hc with ⟨c, _⟩ | ⟨c, _, hds⟩
      · rw [c] at e
        cases e
      rw [parts_in c, partsAll_flat] at q
      rw [parts_in c, partsAll_flat] at hlen
      refine x_next ?_
      walk_at "s"
      refine x_lc2App (K := K) (xs := vs) (ds := ds) (f := partsD) (fun _ _ => rfl) (fun _ => rfl) (fun _ _ => rfl) (fun Q k => ?_) ht.length ?_ (fun j x d H1 hx hd s1 Q k => ?_) (fun D ys H1 s1 hD hD1 hT1 => q _ _ _ s1 hD hD1 hT1)
      · refine ⟨_, rfl, 1, rfl, p, _, rfl, SqT.of hp, cut1_ne _ _, fun p1 hp1 => ?_⟩
        rw [cut1]
        exact k _ _ (SqT.of upd_same) (same_new hp1 _)
      · have := pow_le (n := n + 1) hn
        omega
      · obtain ⟨d', hd', hT'⟩ := ht.get hx
        rw [hd] at hd'
        cases (Option.some.inj hd')
        walk_at "e"
        exact ⟨x, d, rfl, hT'.same s1, hds d (List.mem_of_getElem? hd), fun H2 p2 ys s2 hp2 hp2' hT2 => k p2 ys H2 s2 hp2 hp2' hT2⟩
theorem ok_words (T : Txt w K mg) : ∀ n : Nat, n ≤ 20 → FnOk P w K mg base CX0 (n + 1) T.a_words T.d_words ["condition"] (sp_words n)
  | 0, _ => ⟨fun _ _ _ _ h => by obtain ⟨_, _, _, _, h, _⟩ := h; exact (built0 h).elim, fun _ _ _ _ _ _ _ _ _ _ _ _ _ h => by obtain ⟨_, _, _, _, h, _⟩ := h; exact (built0 h).elim⟩
  | n + 1, hn => by
    have G_words := ok_words T n (by omega)
    refine T.F_words.ok sc_words (fun vs H Q E h => by obtain ⟨_, _, rfl, _⟩ := h; rfl) (fun cdv A outer s H vs Q E hr h => ?_)
    obtain ⟨x, d, rfl, hT, hB, q⟩ := h
    have hlen := hB.words_len.2
    obtain ⟨w0, ds, rfl, hne, hc⟩ := hB.shape
    obtain ⟨p, vs, rfl, hp, ht⟩ := tr_cond hT
    refine ⟨_, (pss_cons (ps_if (pt_cmpR op_in_seq (pe_ix ix_tup (pv 0) pe_int (fun _ _ => rfl)) (pe_glob (v := .ref T.c_COMPARING) rfl T.m_COMPARING rfl) rfl) (pss_one (ps_ret (pe_callTy call_list_of rfl T.n_list (by decide +kernel) (pa_cons (pv 0) pa_nil)))) pss_nil)
    (pss_one (ps_ret (pe_op op_catL (pe_lst (pa_cons (pe_ix ix_tup (pv 0) pe_int (fun _ _ => rfl)) pa_nil)) (pe_lc2 (own := [("side", 1), ("word", 2)]) (vs1 := [2]) (g := gName 1) (g1 := gName 2) (wi1 := iList K _) rfl sc_words.nd (pi_tup (pe_slice sl_tup (pv 0) (po_some pe_int) po_none)) (blkOk_by (own := [("side", 1), ("word", 2)]) (N := ["condition", "side", "word"]) (sc := defScope s_words) (by decide +kernel)) (by decide) (fun _ _ _ _ _ => pg_name (i := 1) sc_words.nd rfl (Or.inl rfl)) (fun _ _ _ _ _ => pts_nil) (fun _ _ _ _ _ => (pi_list (pe_call G_words (hr.mono (by omega)) rfl T.m_words T.F_words.kp (bn_words T) .nil pass0 (pa_cons (pv 1) pa_nil)))) (fun _ _ _ _ _ => pg_name (i := 2) sc_words.nd rfl (Or.inl rfl)) (fun _ _ _ _ _ => pts_nil) (fun _ _ _ _ _ => (pv 2))))))), ?_⟩
    refine x_seq (x_if (fun b H' => H' = H ∧ b = cmpW w0) (fun Q k => ?_) ?_ ?_)
    · walk_at "e"
      refine e_ixT (SqT.of hp) (atI_nat (j := 0) rfl) ?_
      walk_at "e"
      refine ⟨_, _, rfl, .inr (T.q_COMPARING _), rfl, flat_cmp, ?_⟩
      walk_at "e"
      exact k _ _ ⟨rfl, rfl⟩
    · rintro H' ⟨rfl, e⟩
      rcases hc with ⟨c, x, y, rfl, hx, hy⟩ | ⟨c, _⟩
      · rw [words_cmp c] at q
        have ev : vs = [.str x, .str y] := flat_strs (ws := [x, y]) ht
        subst ev
        walk_at "s"
        exact ⟨p, _, rfl, .inr (SqT.of hp), fun l hl => q _ l (same_new hl _) hl upd_same⟩
      · rw [c] at e
        cases e
    · rintro H' ⟨rfl, e⟩
      rcases hc with ⟨c, _⟩ | ⟨c, _, hds⟩
      · rw [c] at e
        cases e
      have hz := pow_le (n := n + 1) hn
      rw [words_in c] at q
      rw [words_in c] at hlen
      have hwl : (ds.flatMap wordsV).length = (wordsAll ds).length := by rw [← wordsAll_flat, List.length_map]
      rw [List.length_cons] at hlen
      refine x_next ?_
      walk_at "s"
      refine e_ixT (SqT.of hp) (atI_nat (j := 0) rfl) ?_
      walk_at "e"
      refine ⟨by show 1 ≤ sizeLine; decide, fun p0 hp0 => ?_⟩
      have s0 := same_new hp0 (.lst [.str w0])
      have hp0' : (upd H' p0 (.lst [V.str w0])) p0 = some (.lst [.str w0]) := upd_same
      generalize upd H' p0 (.lst [V.str w0]) = H0 at s0 hp0'
      walk_at "e"
      refine x_lc2App (K := K) (xs := vs) (ds := ds) (f := wordsV) (fun _ _ => rfl) (fun _ => rfl) (fun _ _ => rfl) (fun Q k => ?_) ht.length ?_ (fun j x d H1 hx hd s1 Q k => ?_) (fun D ys H1 s1 hD hD1 hT1 => ?_)
      · refine ⟨_, rfl, 1, rfl, p, _, rfl, SqT.of (s0 _ _ hp), cut1_ne _ _, fun p1 hp1 => ?_⟩
        rw [cut1]
        exact k _ _ (SqT.of upd_same) (same_new hp1 _)
      · omega
      · obtain ⟨d', hd', hT'⟩ := ht.get hx
        rw [hd] at hd'
        cases (Option.some.inj hd')
        walk_at "e"
        exact ⟨x, d, rfl, hT'.same (s0.trans s1), hds d (List.mem_of_getElem? hd), fun H2 p2 s2 hp2 hp2' => k p2 _ H2 s2 hp2 hp2' (strs_flat _)⟩
      · rw [← wordsAll_flat] at hT1
        have ey := flat_strs hT1
        subst ey
        refine ⟨p0, D, _, _, rfl, rfl, SqL.of (s1 _ _ hp0'), SqL.of hD1, ?_, fun p2 hp2 => q _ p2 ((s0.trans s1).trans (same_new hp2 _)) ((s0.trans s1).free hp2) upd_same⟩
        rw [List.length_map]
        show 1 + (wordsAll ds).length ≤ sizeLine
        omega
end
end My

set_option Elab.async false
set_option linter.all false
set_option maxRecDepth 100000
set_option maxHeartbeats 4000000
namespace My
open PySem PySem.Spec PyProof.Rows L2
local macro_rules | `(tactic| walk_at "e1") => `(tactic| first
  | refine e_var rfl ?_
  | refine e_c ?_
  | refine e_op ?_
  | refine e_un ?_
  | refine e_cb ?_
  | refine e_cons ?_
  | refine e_nil ?_
  | refine e_tB ?_
  | refine e_test ?_
  | refine e_not ?_
  | refine e_and ?_
  | refine e_or ?_
  | refine e_andV ?_
  | refine e_orV ?_
  | refine e_notV ?_
  | refine e_I0 ?_
  | refine e_I (by (try dsimp only [CDiv, CDivN, CMul, CPow]); first | decide | omega) ?_
  | refine e_U ?_
  | refine e_eqI ?_
  | refine e_neI ?_
  | refine e_bl ?_
  | refine e_call ?_
  | refine e_sub ?_
  | refine e_lst ?_
  | refine e_tup ?_
  | refine e_nn ?_
  | rw [dec_nn]
  | rw [dec_in]
  | rw [dec_rn]
  | rw [dec_bn]
  | rw [dec_sn]
  | rw [Bool.not_true]
  | rw [Bool.not_false]
  | refine iteT ?_
  | refine iteF ?_)
local macro_rules | `(tactic| walk_at "e") => `(tactic| ((try dsimp only); repeat (walk_at "e1"; try dsimp only)))
local macro_rules | `(tactic| walk_at "s1") => `(tactic| first
  | refine x_seq ?_
  | refine x_next ?_
  | refine e_ret ?_
  | refine e_asg ?_
  | refine e_drop ?_
  | refine e_asgG ?_
  | walk_at "e1")
local macro_rules | `(tactic| walk_at "s") => `(tactic| ((try dsimp only); repeat (walk_at "s1"; try dsimp only)))
def condD (d : PyData) : Bool := builtD 8 d && decide ((partsD d).length ≤ 8)
theorem cond_built {d : PyData} (h : condD d = true) : Built 8 d := by
  unfold condD at h
  rw [Bool.and_eq_true] at h
  exact built_of h.1
def sp_is_condition : Sp := fun vs H Q _ => ∃ x d, vs = [x] ∧ Tr H x d ∧ ∀ H', Same H H' → Q (.bl (condD d)) H'
def sp_need (c : Addr) : Sp := fun vs H Q E => ∃ x d, vs = [x] ∧ Tr H x d ∧ (condD d = true → ∀ H', Same H H' → Q .non H') ∧ (condD d = false → ∀ H', Same H H' → E (.ref c) none H')
def textD (d : PyData) : Str := Txt.join " " (wordsD d)
def sp_condition_text (c : Addr) : Sp := fun vs H Q E => ∃ x d, vs = [x] ∧ Tr H x d ∧ ((wordsD d).map (·.length)).sum ≤ 16000000 ∧ (condD d = true → ∀ H', Same H H' → Q (.str (textD d)) H') ∧ (condD d = false → ∀ H', Same H H' → E (.ref c) none H')
def sp_parts_of (c : Addr) : Sp := fun vs H Q E => ∃ x d, vs = [x] ∧ Tr H x d ∧ (condD d = true → ∀ H' p ys, Same H H' → H p = none → H' p = some (.lst ys) → TrAll H' ys (partsD d) → Q (.ref p) H') ∧ (condD d = false → ∀ H', Same H H' → E (.ref c) none H')
section
variable {P : Program} {w : World} {K : PySem.W.Frag} {mg : Str → Option Value} {base : Heap}
theorem ok_is_condition (T : Txt w K mg) (G_is_built : FnOk P w K mg base CX0 10 T.a_is_built T.d_is_built ["thing", "levels"] (sp_built 9)) (G_parts : FnOk P w K mg base CX0 9 T.a_parts T.d_parts ["condition"] (sp_parts 8)) :
    FnOk P w K mg base CX0 11 T.a_is_condition T.d_is_condition ["thing"] sp_is_condition := by
  refine T.F_is_condition.ok sc_is_condition (fun vs H Q E h => by obtain ⟨_, _, rfl, _⟩ := h; rfl) (fun cdv A outer s H vs Q E hr h => ?_)
  obtain ⟨x, d, rfl, hT, q⟩ := h
  refine ⟨_, (pss_one (ps_ret (pe_and (pe_call G_is_built (hr.mono (by omega)) rfl T.m_is_built T.F_is_built.kp (bn_is_built T) .nil pass0 (pa_cons (pv 0) (pa_cons (pe_glob (v := .int 8) rfl T.m_MOST_LEVELS ⟨_, rfl⟩) pa_nil))) (pe_one (pe_cmpR op_le (pe_callB call_len_seq rfl T.n_len (by decide +kernel) (pa_cons (pe_call G_parts (hr.mono (by omega)) rfl T.m_parts T.F_parts.kp (bn_parts T) .nil pass0 (pa_cons (pv 0) pa_nil)) pa_nil)) (pe_glob (v := .int 8) rfl T.m_MOST_PARTS ⟨_, rfl⟩) (nomark _)))))), ?_⟩
  walk_at "s"
  refine ⟨x, d, 8, rfl, Nat.le_refl _, hT, fun H1 s1 => ?_⟩
  have q := q
  refine ⟨_, rfl, ?_⟩
  cases e : builtD 8 d with
  | false =>
    have e2 : condD d = false := by unfold condD; rw [e]; rfl
    rw [e2] at q
    exact q _ s1
  | true =>
    have e2 : condD d = decide ((partsD d).length ≤ 8) := by unfold condD; rw [e]; rfl
    rw [e2] at q
    refine iteT ?_
    walk_at "e"
    refine ⟨x, d, rfl, hT.same s1, built_of e, fun H2 p ys s2 hp hp2 ht => ?_⟩
    walk_at "e"
    refine ⟨p, ys, rfl, .inl (SqL.of hp2), ?_⟩
    walk_at "e"
    have e3 : decide ((ys.length : Int) ≤ 8) = decide ((partsD d).length ≤ 8) := by
      rw [ht.length]
      exact decide_eq_decide.mpr (by omega)
    rw [e3]
    exact q _ (s1.trans s2)
theorem ok_need_condition (T : Txt w K mg) (G_is_condition : FnOk P w K mg base CX0 11 T.a_is_condition T.d_is_condition ["thing"] sp_is_condition) :
    FnOk P w K mg base (L2.CX P w) 12 T.a_need_condition T.d_need_condition ["thing"] (sp_need T.c_NoCondition) := by
  refine T.F_need_condition.okX sc_need_condition (fun vs H Q E h => by obtain ⟨_, _, rfl, _⟩ := h; rfl) (fun cdv A outer s H vs Q E hr h => ?_)
  obtain ⟨x, d, rfl, hT, q1, q2⟩ := h
  refine ⟨_, (pss_one (ps_if (pt_not (pt_val (pe_call G_is_condition (hr.mono (by omega)) rfl T.m_is_condition T.F_is_condition.kp (bn_is_condition T) .nil pass0 (pa_cons (pv 0) pa_nil)))) (pss_one (ps_raise rfl (takes_of rfl rfl rfl rfl) (pmk_own PySem.F.excBase_ValueError T.x_NoCondition T.g_NoCondition T.k_NoCondition (raises_own T.b_NoCondition T.t_NoCondition) rfl))) pss_nil)), ?_⟩
  refine x_if (fun b H' => Same H H' ∧ b = !condD d) (fun Q k => ?_) ?_ ?_
  · walk_at "e"
    refine ⟨x, d, rfl, hT, fun H1 s1 => ?_⟩
    walk_at "e"
    exact k _ _ ⟨s1, rfl⟩
  · rintro H' ⟨s1, e⟩
    exact q2 (by simpa using e.symm) _ s1
  · rintro H' ⟨s1, e⟩
    exact x_next (q1 (by simpa using e.symm) _ s1)
theorem ok_condition_text (T : Txt w K mg) (G_need_condition : FnOk P w K mg base (L2.CX P w) 12 T.a_need_condition T.d_need_condition ["thing"] (sp_need T.c_NoCondition)) (G_words : FnOk P w K mg base CX0 9 T.a_words T.d_words ["condition"] (sp_words 8)) :
    FnOk P w K mg base (L2.CX P w) 13 T.a_condition_text T.d_condition_text ["condition"] (sp_condition_text T.c_NoCondition) := by
  refine T.F_condition_text.okX sc_condition_text (fun vs H Q E h => by obtain ⟨_, _, rfl, _⟩ := h; rfl) (fun cdv A outer s H vs Q E hr h => ?_)
  obtain ⟨x, d, rfl, hT, hz, q1, q2⟩ := h
  refine ⟨_, (pss_cons (ps_expr (pe_call G_need_condition (hr.mono (by omega)) rfl T.m_need_condition T.F_need_condition.kp (bn_need_condition T) .nil (passes_call (takes_of rfl rfl rfl rfl) (fun _ _ _ _ h => h)) (pa_cons (pv 0) pa_nil)))
    (pss_one (ps_ret (pe_join pe_str (pe_call G_words (hr.mono (by omega)) rfl T.m_words T.F_words.kp (bn_words T) .nil pass0 (pa_cons (pv 0) pa_nil)))))), ?_⟩
  refine x_seq (e_drop ?_)
  walk_at "e"
  refine ⟨x, d, rfl, hT, fun hc H1 s1 => ?_, fun hc H1 s1 => q2 hc _ s1⟩
  dsimp only
  have hB := cond_built hc
  walk_at "s"
  refine ⟨⟨_, rfl⟩, ?_⟩
  walk_at "e"
  refine ⟨x, d, rfl, hT.same s1, hB, fun H2 p s2 hp hp2 => ?_⟩
  refine ⟨" ", p, wordsD d, rfl, rfl, .inl (SqL.of hp2), ?_, q1 hc _ (s1.trans s2)⟩
  have := hB.words_len.2
  have e : (" " : Str).length = 1 := by decide +kernel
  rw [e]
  omega
theorem ok_parts_of (T : Txt w K mg) (G_need_condition : FnOk P w K mg base (L2.CX P w) 12 T.a_need_condition T.d_need_condition ["thing"] (sp_need T.c_NoCondition)) (G_parts : FnOk P w K mg base CX0 9 T.a_parts T.d_parts ["condition"] (sp_parts 8)) :
    FnOk P w K mg base (L2.CX P w) 13 T.a_parts_of T.d_parts_of ["condition"] (sp_parts_of T.c_NoCondition) := by
  refine T.F_parts_of.okX sc_parts_of (fun vs H Q E h => by obtain ⟨_, _, rfl, _⟩ := h; rfl) (fun cdv A outer s H vs Q E hr h => ?_)
  obtain ⟨x, d, rfl, hT, q1, q2⟩ := h
  refine ⟨_, (pss_cons (ps_expr (pe_call G_need_condition (hr.mono (by omega)) rfl T.m_need_condition T.F_need_condition.kp (bn_need_condition T) .nil (passes_call (takes_of rfl rfl rfl rfl) (fun _ _ _ _ h => h)) (pa_cons (pv 0) pa_nil)))
    (pss_one (ps_ret (pe_call G_parts (hr.mono (by omega)) rfl T.m_parts T.F_parts.kp (bn_parts T) .nil pass0 (pa_cons (pv 0) pa_nil))))), ?_⟩
  refine x_seq (e_drop ?_)
  walk_at "e"
  refine ⟨x, d, rfl, hT, fun hc H1 s1 => ?_, fun hc H1 s1 => q2 hc _ s1⟩
  dsimp only
  walk_at "s"
  exact ⟨x, d, rfl, hT.same s1, cond_built hc, fun H2 p ys s2 hp hp2 ht => q1 hc _ p ys (s1.trans s2) (s1.free hp) hp2 ht⟩
end
end My

set_option Elab.async false
set_option linter.all false
set_option maxRecDepth 100000
set_option maxHeartbeats 4000000
namespace My
open PySem PySem.Spec PyProof.Rows L2
local macro_rules | `(tactic| walk_at "e1") => `(tactic| first
  | refine e_var rfl ?_
  | refine e_c ?_
  | refine e_op ?_
  | refine e_un ?_
  | refine e_cb ?_
  | refine e_cons ?_
  | refine e_nil ?_
  | refine e_tB ?_
  | refine e_test ?_
  | refine e_not ?_
  | refine e_and ?_
  | refine e_or ?_
  | refine e_andV ?_
  | refine e_orV ?_
  | refine e_notV ?_
  | refine e_I0 ?_
  | refine e_I (by (try dsimp only [CDiv, CDivN, CMul, CPow]); first | decide | omega) ?_
  | refine e_U ?_
  | refine e_eqI ?_
  | refine e_neI ?_
  | refine e_bl ?_
  | refine e_call ?_
  | refine e_sub ?_
  | refine e_lst ?_
  | refine e_tup ?_
  | refine e_nn ?_
  | rw [dec_nn]
  | rw [dec_in]
  | rw [dec_rn]
  | rw [dec_bn]
  | rw [dec_sn]
  | rw [Bool.not_true]
  | rw [Bool.not_false]
  | refine iteT ?_
  | refine iteF ?_)
local macro_rules | `(tactic| walk_at "e") => `(tactic| ((try dsimp only); repeat (walk_at "e1"; try dsimp only)))
local macro_rules | `(tactic| walk_at "s1") => `(tactic| first
  | refine x_seq ?_
  | refine x_next ?_
  | refine e_ret ?_
  | refine e_asg ?_
  | refine e_drop ?_
  | refine e_asgG ?_
  | walk_at "e1")
local macro_rules | `(tactic| walk_at "s") => `(tactic| ((try dsimp only); repeat (walk_at "s1"; try dsimp only)))
def RetR (c : Addr) (r : Option (PyData × Nat)) (H : Hp) (Q : VK) (E : XK) : Prop := match r with
  | none => ∀ H', Same H H' → E (.ref c) none H'
  | some (d, e) => ∀ H' v q, Same H H' → H q = none → H' q = some (.tup [v, .int (e : Nat)]) → Tr H' v d → Q (.ref q) H'
def sp_read (K : PySem.W.Frag) (c : Addr) (n : Nat) : Sp := fun vs H Q E => ∃ p ws, ∃ s m : Nat, vs = [.ref p, .int s, .int m] ∧ SqL K H p (ws.map V.str) ∧ ws.length ≤ sizeLine ∧ m + 1 ≤ n ∧ RetR c (readD m ws s) H Q E
theorem cut2 {α : Type} (ws : List α) (f : α → V) (s : Nat) : cutV (ws.map f) (some ((s + 1 : Nat) : Int)) (some ((s + 3 : Nat) : Int)) = ((ws.drop (s + 1)).take 2).map f := by
  unfold cutV
  rw [HT.sIx_nat, HT.sIx_nat, List.length_map, List.map_take, List.map_drop]
  by_cases h : s + 1 ≤ ws.length
  · rw [Nat.min_eq_left h]
    by_cases h3 : s + 3 ≤ ws.length
    · rw [Nat.min_eq_left h3]
      congr 1
      omega
    · rw [Nat.min_eq_right (by omega)]
      have e : (ws.map f).drop (s + 1) = ((ws.map f).drop (s + 1)) := rfl
      rw [List.take_of_length_le (by rw [List.length_drop, List.length_map]; omega), List.take_of_length_le (by rw [List.length_drop, List.length_map]; omega)]
  · rw [Nat.min_eq_right (by omega), Nat.min_eq_right (by omega), List.drop_eq_nil_of_le (by rw [List.length_map]; omega), List.drop_eq_nil_of_le (by rw [List.length_map]; omega), List.take_nil, List.take_nil]
section
variable {P : Program} {w : World} {K : PySem.W.Frag} {mg : Str → Option Value} {base : Heap}
theorem ok_read_from (T : Txt w K mg) : ∀ n : Nat, FnOk P w K mg base (L2.CX P w) (n + 1) T.a_read_from T.d_read_from ["words", "start", "levels"] (sp_read K T.c_NoCondition n)
  | 0 => ⟨fun _ _ _ _ h => by obtain ⟨_, _, _, _, _, _, _, h, _⟩ := h; omega, fun _ _ _ _ _ _ _ _ _ _ _ _ _ h => by obtain ⟨_, _, _, _, _, _, _, h, _⟩ := h; omega⟩
  | n + 1 => by
    have G_read_from := ok_read_from T n
    refine T.F_read_from.okX sc_read_from (fun vs H Q E h => by obtain ⟨_, _, _, _, rfl, _⟩ := h; rfl) (fun cdv A outer s H vs Q E hr h => ?_)
    obtain ⟨p, ws, s0, m, rfl, hS, hwz, hm, q⟩ := h
    refine ⟨_, (pss_cons (ps_if (PW.pt (pw_or (pt_cmpR op_eq (pv 2) pe_int (nomark _)) (pw_or1 (pt_cmpR op_ge (pv 1) (pe_callB call_len_seq rfl T.n_len (by decide +kernel) (pa_cons (pv 0) pa_nil)) (nomark _))))) (pss_one (ps_raise rfl (takes_of rfl rfl rfl rfl) (pmk_own PySem.F.excBase_ValueError T.x_NoCondition T.g_NoCondition T.k_NoCondition (raises_own T.b_NoCondition T.t_NoCondition) rfl))) pss_nil)
    (pss_cons (ps_set (i := 3) sc_read_from.nd rfl (Or.inl rfl) (pe_ix ix_list (pv 0) (pv 1) (fun _ _ => rfl)))
    (pss_cons (ps_set (i := 4) sc_read_from.nd rfl (Or.inl rfl) (pe_op op_add (pv 1) pe_int))
    (pss_cons (ps_if (pt_cmpR op_in_seq (pv 3) (pe_glob (v := .ref T.c_COMPARING) rfl T.m_COMPARING rfl) rfl) (pss_cons (ps_set (i := 5) sc_read_from.nd rfl (Or.inl rfl) (pe_slice sl_list (pv 0) (po_some (pv 4)) (po_some (pe_op op_add (pv 4) pe_int))))
    (pss_one (ps_ret (pe_tup (pa_cons (pe_tup (pa_cons (pv 3) (StX.pa_star (pv 5) pa_nil))) (pa_cons (pe_op op_add (pv 4) pe_int) pa_nil)))))) pss_nil)
    (pss_cons (ps_if (pt_cmpR (op_notIn_kd T.kd) (pv 3) (pe_glob (v := .ref T.c_SIDES) rfl T.m_SIDES rfl) rfl) (pss_one (ps_raise rfl (takes_of rfl rfl rfl rfl) (pmk_own PySem.F.excBase_ValueError T.x_NoCondition T.g_NoCondition T.k_NoCondition (raises_own T.b_NoCondition T.t_NoCondition) rfl))) pss_nil)
    (pss_cons (ps_set (i := 5) sc_read_from.nd rfl (Or.inl rfl) (pe_lst pa_nil))
    (pss_cons (ps_for (passes_of rfl) rfl (pi_range1 rfl T.n_range (pa_cons (pe_ix ix_kdict (pe_glob (v := .ref T.c_SIDES) rfl T.m_SIDES rfl) (pv 3) (fun _ _ => rfl)) pa_nil)) (pg_name (i := 6) sc_read_from.nd rfl (Or.inl rfl))
    (pss_cons (ps_asg (pe_call G_read_from (hr.mono (by omega)) rfl T.m_read_from T.F_read_from.kp (bn_read_from T) .nil (passes_call (takes_of rfl rfl rfl rfl) (fun _ _ _ _ h => h)) (pa_cons (pv 0) (pa_cons (pv 4) (pa_cons (pe_op op_sub (pv 2) pe_int) pa_nil)))) (pg_tup rfl (pgs_cons (pg_name (i := 7) sc_read_from.nd rfl (Or.inl rfl)) (pgs_cons (pg_name (i := 4) sc_read_from.nd rfl (Or.inl rfl)) pgs_nil))))
    (pss_one (ps_expr (pe_bm PySem.F.plainAttrs_list PySem.F.slot_list_append PySem.F.type_list_append mt_append (pv 5) (pa_cons (pv 7) pa_nil))))))
    (pss_one (ps_ret (pe_tup (pa_cons (pe_tup (pa_cons (pv 3) (StX.pa_star (pv 5) pa_nil))) (pa_cons (pv 4) pa_nil)))))))))))), ?_⟩
    refine x_seq (x_if (fun b H' => H' = H ∧ b = (decide (m = 0) || decide (ws.length ≤ s0))) (fun Q k => ?_) ?_ ?_)
    · walk_at "e"
      by_cases h0 : m = 0
      · subst h0
        walk_at "e"
        exact k _ _ ⟨rfl, rfl⟩
      · have e0 : decide ((m : Int) = 0) = false := by simp [h0]
        rw [e0]
        walk_at "e"
        refine ⟨p, _, rfl, .inl hS, ?_⟩
        walk_at "e"
        refine k _ _ ⟨rfl, ?_⟩
        rw [List.length_map, decide_eq_false h0, Bool.false_or]
        exact decide_eq_decide.mpr (by omega)
    · rintro H' ⟨rfl, e⟩
      have z : readD m ws s0 = none := by
        rcases (Bool.or_eq_true _ _).mp e.symm with e | e
        · rw [of_decide_eq_true e]; rfl
        · exact readD_out (of_decide_eq_true e)
      rw [z] at q
      exact q _ (Same.refl _)
    rintro H' ⟨rfl, e⟩
    obtain ⟨e1, e2⟩ := Bool.or_eq_false_iff.mp e.symm
    have hm0 := of_decide_eq_false e1
    have hs0 := of_decide_eq_false e2
    obtain ⟨m, rfl⟩ : ∃ k, m = k + 1 := ⟨m - 1, by omega⟩
    have hw : ws[s0]? = some ws[s0] := List.getElem?_eq_getElem (by omega)
    generalize ws[s0] = w0 at hw
    refine x_next ?_
    dsimp only
    refine x_seq (e_asg ?_)
    walk_at "e"
    refine e_ixL (v := .str w0) hS (atI_nat (j := s0) (by rw [List.getElem?_map, hw]; rfl)) ?_
    refine x_seq (e_asg (e_op (e_var rfl (e_c (e_I0 ?_)))))
    dsimp only
    refine x_seq ?_
    refine x_if (fun b H2 => H2 = H' ∧ b = cmpW w0) (fun Q k => ?_) ?_ ?_
    · walk_at "e"
      refine ⟨_, _, rfl, .inr (T.q_COMPARING _), rfl, flat_cmp, ?_⟩
      walk_at "e"
      exact k _ _ ⟨rfl, rfl⟩
    · rintro H2 ⟨rfl, c⟩
      rw [readD_cmp hw c.symm] at q
      have ev : ((s0 : Int) + 1) = ((s0 + 1 : Nat) : Int) := by omega
      have ev3 : ((s0 : Int) + 1 + 2) = ((s0 + 3 : Nat) : Int) := by omega
      refine x_seq (e_asg ?_)
      refine ⟨_, rfl, _, rfl, _, rfl, ?_⟩
      walk_at "e"
      refine ⟨_, rfl, p, _, rfl, hS, fun p1 hp1 => ?_⟩
      rw [ev3, ev, cut2]
      have s1 := same_new hp1 (.lst (((ws.drop (s0 + 1)).take 2).map V.str))
      have hp1' : (upd H2 p1 (.lst (((ws.drop (s0 + 1)).take 2).map V.str))) p1 = some (.lst (((ws.drop (s0 + 1)).take 2).map V.str)) := upd_same
      generalize upd H2 p1 (.lst (((ws.drop (s0 + 1)).take 2).map V.str)) = H3 at s1 hp1'
      walk_at "s"
      refine ⟨p1, _, rfl, .inr (SqL.of hp1'), ?_⟩
      walk_at "e"
      refine ⟨?_, fun p2 hp2 => ?_⟩
      · simp only [List.append_nil, List.length_cons, List.length_map, List.length_take]
        have : sizeLine = 16777216 := sizeLine_eq
        omega
      rw [List.append_nil]
      have s2 := same_new hp2 (.tup (.str w0 :: ((ws.drop (s0 + 1)).take 2).map V.str))
      walk_at "e"
      refine ⟨by show 2 ≤ sizeLine; decide, fun p3 hp3 => ?_⟩
      rw [show (((s0 + 1 : Nat) : Int) + 2) = ((s0 + 3 : Nat) : Int) by omega]
      have s3 := same_new hp3 (.tup [.ref p2, .int ((s0 + 3 : Nat) : Int)])
      refine q _ (.ref p2) p3 ((s1.trans s2).trans s3) ((s1.trans s2).free hp3) upd_same ?_
      exact .tup (s3 _ _ upd_same) (.cons (.str _) (strs_flat _))
    rintro H2 ⟨rfl, c⟩
    obtain ⟨r, hr1, hr2, hr3⟩ := T.ns_SIDES w0
    refine x_next ?_
    dsimp only
    refine x_seq (x_if (fun b H3 => H3 = H2 ∧ b = !(sidesN w0).isSome) (fun Q k => ?_) ?_ ?_)
    · walk_at "e"
      refine ⟨w0, r, rfl, rfl, hr1, ?_⟩
      walk_at "e"
      exact k _ _ ⟨rfl, by rw [hr2]⟩
    · rintro H3 ⟨rfl, e⟩
      have z : sidesN w0 = none := by
        cases h : sidesN w0 with
        | none => rfl
        | some k => rw [h] at e; cases e
      rw [readD_no hw c.symm z] at q
      exact q _ (Same.refl _)
    rintro H3 ⟨rfl, e⟩
    obtain ⟨k, hk⟩ : ∃ k, sidesN w0 = some k := by
      cases h : sidesN w0 with
      | none => rw [h] at e; cases e
      | some k => exact ⟨k, rfl⟩
    obtain ⟨t, rfl⟩ := hr3 k hk
    have hk2 : k ≤ 2 := by
      rcases sidesN_some hk with ⟨_, e⟩ | ⟨_, e⟩ <;> omega
    rw [readD_in hw c.symm hk] at q
    refine x_next ?_
    walk_at "s"
    refine ⟨by show 0 ≤ sizeLine; decide, fun p1 hp1 => ?_⟩
    have s1 := same_new hp1 (.lst [])
    have hp1' : (upd H3 p1 (.lst [])) p1 = some (.lst []) := upd_same
    generalize upd H3 p1 (.lst []) = H4 at s1 hp1'
    refine x_seq ?_
    have hns : KDct K w T.c_SIDES w0 (.int (k : Nat)) := ⟨_, _, _, T.kd.at_, T.kd.lit, hr1, ⟨t, rfl⟩⟩
    refine ⟨_, rfl, T.c_SIDES, w0, .int (k : Nat), rfl, rfl, hns, ?_⟩
    refine ⟨(k : Nat), rfl, by omega, by omega, ?_⟩
    rw [Int.toNat_natCast]
    refine for_range (fun i σ' H5 => ∃ (e : Nat) (acc : List V) (ds : List PyData) (a b : Option V), σ' = [some (.ref p), some (.int s0), some (.int ((m + 1 : Nat) : Int)), some (.str w0), some (.int (e : Nat)), some (.ref p1), a, b] ∧ Same H3 H5 ∧ H5 p1 = some (.lst acc) ∧ TrAll H5 acc ds ∧ acc.length = i ∧
      readK (readD m ws) k (s0 + 1) = (readK (readD m ws) (k - i) e).map fun r => (ds ++ r.1, r.2)) ?_ ?_ ?_
    · refine ⟨s0 + 1, [], [], none, none, rfl, s1, hp1', .nil, rfl, ?_⟩
      rw [Nat.sub_zero]
      cases readK (readD m ws) k (s0 + 1) with
      | none => rfl
      | some r => rfl
    · rintro i σ' H5 hi ⟨e, acc, ds, a, b, rfl, s5, h5, hT5, hl5, hr5⟩
      refine x_seq (e_asgG ?_)
      walk_at "e"
      obtain ⟨j, hj⟩ : ∃ j, k - i = j + 1 := ⟨k - i - 1, by omega⟩
      rw [hj, readK] at hr5
      have em : (((m + 1 : Nat) : Int) - 1) = (m : Int) := by omega
      rw [em]
      refine ⟨p, ws, e, m, rfl, s5.seq hS, hwz, by omega, ?_⟩
      cases hd : readD m ws e with
      | none =>
        rw [hd] at hr5
        rw [hr5] at q
        intro H6 s6
        exact q _ (s5.trans s6)
      | some r =>
        obtain ⟨d, e'⟩ := r
        rw [hd] at hr5
        intro H6 v q6 s6 hq6 hq6' hT6
        refine ⟨q6, _, rfl, SqT.of hq6', rfl, ?_⟩
        refine ⟨_, _, rfl, ?_⟩
        refine ⟨_, _, rfl, ?_⟩
        refine ⟨rfl, ?_⟩
        have h6 := s6 _ _ h5
        walk_at "s"
        refine ⟨.inl ⟨rfl, _, SqL.of h6⟩, ?_⟩
        walk_at "e"
        refine ⟨p1, acc, v, rfl, rfl, h6, by have : sizeLine = 16777216 := sizeLine_eq; omega, ?_⟩
        have hL : Lch p1 H6 (upd H6 p1 (.lst (acc ++ [v]))) := Lch.upd h6
        refine ⟨e', acc ++ [v], ds ++ [d], _, _, rfl, same_upd (s5.trans s6) hp1 _, upd_same, ((hT5.same s6).append (.cons hT6 .nil)).lch hL, by rw [List.length_append, hl5]; rfl, ?_⟩
        rw [hr5, show k - (i + 1) = j by omega]
        show Option.map _ (Option.map _ (readK (readD m ws) j e')) = _
        cases readK (readD m ws) j e' with
        | none => rfl
        | some r => simp
    · rintro σ' H5 ⟨e, acc, ds, a, b, rfl, s5, h5, hT5, hl5, hr5⟩
      rw [Nat.sub_self, readK] at hr5
      have hr5 : readK (readD m ws) k (s0 + 1) = some (ds, e) := by rw [hr5]; simp
      rw [hr5] at q
      walk_at "s"
      refine ⟨p1, acc, rfl, .inr (SqL.of h5), ?_⟩
      walk_at "e"
      refine ⟨?_, fun p2 hp2 => ?_⟩
      · simp only [List.append_nil, List.length_cons]
        have : sizeLine = 16777216 := sizeLine_eq
        omega
      rw [List.append_nil]
      have s2 := same_new hp2 (.tup (.str w0 :: acc))
      walk_at "e"
      refine ⟨by show 2 ≤ sizeLine; decide, fun p3 hp3 => ?_⟩
      have s3 := same_new hp3 (.tup [.ref p2, .int (e : Nat)])
      refine q _ (.ref p2) p3 ((s5.trans s2).trans s3) ((s5.trans s2).free hp3) upd_same ?_
      exact .tup (s3 _ _ upd_same) (.cons (.str _) (hT5.same (s2.trans s3)))
end
end My

set_option Elab.async false
set_option linter.all false
set_option maxRecDepth 100000
set_option maxHeartbeats 4000000
namespace My
open PySem PySem.Spec PyProof.Rows L2
local macro_rules | `(tactic| walk_at "e1") => `(tactic| first
  | refine e_var rfl ?_
  | refine e_c ?_
  | refine e_op ?_
  | refine e_un ?_
  | refine e_cb ?_
  | refine e_cons ?_
  | refine e_nil ?_
  | refine e_tB ?_
  | refine e_test ?_
  | refine e_not ?_
  | refine e_and ?_
  | refine e_or ?_
  | refine e_andV ?_
  | refine e_orV ?_
  | refine e_notV ?_
  | refine e_I0 ?_
  | refine e_I (by (try dsimp only [CDiv, CDivN, CMul, CPow]); first | decide | omega) ?_
  | refine e_U ?_
  | refine e_eqI ?_
  | refine e_neI ?_
  | refine e_bl ?_
  | refine e_call ?_
  | refine e_sub ?_
  | refine e_lst ?_
  | refine e_tup ?_
  | refine e_nn ?_
  | rw [dec_nn]
  | rw [dec_in]
  | rw [dec_rn]
  | rw [dec_bn]
  | rw [dec_sn]
  | rw [Bool.not_true]
  | rw [Bool.not_false]
  | refine iteT ?_
  | refine iteF ?_)
local macro_rules | `(tactic| walk_at "e") => `(tactic| ((try dsimp only); repeat (walk_at "e1"; try dsimp only)))
local macro_rules | `(tactic| walk_at "s1") => `(tactic| first
  | refine x_seq ?_
  | refine x_next ?_
  | refine e_ret ?_
  | refine e_asg ?_
  | refine e_drop ?_
  | refine e_asgG ?_
  | walk_at "e1")
local macro_rules | `(tactic| walk_at "s") => `(tactic| ((try dsimp only); repeat (walk_at "s1"; try dsimp only)))
theorem x_seqP {t u : TS} {D : Ends} {σ : L2.St} {H : Hp} (R : L2.St → Hp → Prop) (ht : ∀ N : L2.St → Hp → Prop, (∀ σ' H', R σ' H' → N σ' H') → t { D with nx := N } σ H) (hu : ∀ σ' H', R σ' H' → u D σ' H') : tSeq t u D σ H := ht _ hu
/-- the condition that a text tells -/
def readT (t : Str) : Option PyData := match readD 8 (Txt.split t " ") 0 with
  | none => none
  | some (d, e) => if e = (Txt.split t " ").length ∧ condD d = true then some d else none
def readX : PyData → Option PyData
  | .str t => readT t
  | _ => none
def RetC (c : Addr) (r : Option PyData) (H : Hp) (Q : VK) (E : XK) : Prop := match r with
  | none => ∀ H', Same H H' → E (.ref c) none H'
  | some d => ∀ H' v, Same H H' → Tr H' v d → Q v H'
def sp_read_condition (c : Addr) : Sp := fun vs H Q E => ∃ x d, vs = [x] ∧ Tr H x d ∧ (∀ t, d = .str t → t.length ≤ 16000000 ∧ (Txt.split t " ").length ≤ sizeLine) ∧ RetC c (readX d) H Q E
section
variable {P : Program} {w : World} {K : PySem.W.Frag} {mg : Str → Option Value} {base : Heap}
theorem ok_read_condition (T : Txt w K mg) (G_read_from : FnOk P w K mg base (L2.CX P w) 10 T.a_read_from T.d_read_from ["words", "start", "levels"] (sp_read K T.c_NoCondition 9)) (G_need_condition : FnOk P w K mg base (L2.CX P w) 12 T.a_need_condition T.d_need_condition ["thing"] (sp_need T.c_NoCondition)) :
    FnOk P w K mg base (L2.CX P w) 13 T.a_read_condition T.d_read_condition ["text"] (sp_read_condition T.c_NoCondition) := by
  refine T.F_read_condition.okX sc_read_condition (fun vs H Q E h => by obtain ⟨_, _, rfl, _⟩ := h; rfl) (fun cdv A outer s H vs Q E hr h => ?_)
  obtain ⟨x, d, rfl, hT, hz, q⟩ := h
  refine ⟨_, (pss_cons (ps_if (pt_not (pt_val (pe_callB call_isi rfl T.n_isinstance (by decide +kernel) (pa_cons (pv 0) (pa_cons (pe_bltn (by rfl) T.n_str (v := .ty "str") (by decide +kernel) rfl) pa_nil))))) (pss_one (ps_raise rfl (takes_of rfl rfl rfl rfl) (pmk_own PySem.F.excBase_ValueError T.x_NoCondition T.g_NoCondition T.k_NoCondition (raises_own T.b_NoCondition T.t_NoCondition) rfl))) pss_nil)
    (pss_cons (ps_set (i := 1) sc_read_condition.nd rfl (Or.inl rfl) (pe_split (pv 0) pe_str))
    (pss_cons (ps_asg (pe_call G_read_from (hr.mono (by omega)) rfl T.m_read_from T.F_read_from.kp (bn_read_from T) .nil (passes_call (takes_of rfl rfl rfl rfl) (fun _ _ _ _ h => h)) (pa_cons (pv 1) (pa_cons pe_int (pa_cons (pe_glob (v := .int 8) rfl T.m_MOST_LEVELS ⟨_, rfl⟩) pa_nil)))) (pg_tup rfl (pgs_cons (pg_name (i := 2) sc_read_condition.nd rfl (Or.inl rfl)) (pgs_cons (pg_name (i := 3) sc_read_condition.nd rfl (Or.inl rfl)) pgs_nil))))
    (pss_cons (ps_if (pt_cmpR op_ne (pv 3) (pe_callB call_len_seq rfl T.n_len (by decide +kernel) (pa_cons (pv 1) pa_nil)) (nomark _)) (pss_one (ps_raise rfl (takes_of rfl rfl rfl rfl) (pmk_own PySem.F.excBase_ValueError T.x_NoCondition T.g_NoCondition T.k_NoCondition (raises_own T.b_NoCondition T.t_NoCondition) rfl))) pss_nil)
    (pss_cons (ps_expr (pe_call G_need_condition (hr.mono (by omega)) rfl T.m_need_condition T.F_need_condition.kp (bn_need_condition T) .nil (passes_call (takes_of rfl rfl rfl rfl) (fun _ _ _ _ h => h)) (pa_cons (pv 2) pa_nil)))
    (pss_one (ps_ret (pv 2)))))))), ?_⟩
  refine x_seq (x_if (fun b H' => H' = H ∧ b = !kb (kindD d) "str") (fun Q k => ?_) ?_ ?_)
  · walk_at "e"
    refine e_isi hT.th (by decide) ?_
    walk_at "e"
    exact k _ _ ⟨rfl, rfl⟩
  · rintro H' ⟨rfl, e⟩
    have e : kb (kindD d) "str" = false := by simpa using e.symm
    have z : readX d = none := by
      cases d with
      | str t => exact absurd (show kb "str" "str" = false from e) (by decide)
      | _ => rfl
    rw [z] at q
    exact q _ (Same.refl _)
  rintro H' ⟨rfl, e⟩
  have e : kb (kindD d) "str" = true := by simpa using e.symm
  obtain ⟨t, rfl, rfl⟩ := Tr.kind_str (K := K) hT e
  obtain ⟨hz1, hz2⟩ := hz t rfl
  have eq : readX (.str t) = readT t := rfl
  rw [eq] at q
  unfold readT at q
  refine x_next ?_
  dsimp only
  refine x_seq (e_asg ?_)
  refine ⟨_, rfl, ⟨_, rfl⟩, ?_⟩
  refine ⟨t, " ", rfl, rfl, by decide +kernel, by have : sizeLine = 16777216 := sizeLine_eq; omega, fun p1 hp1 => ?_⟩
  have s1 := same_new hp1 (.lst ((Txt.split t " ").map V.str))
  have hp1' : (upd H' p1 (.lst ((Txt.split t " ").map V.str))) p1 = some (.lst ((Txt.split t " ").map V.str)) := upd_same
  generalize upd H' p1 (.lst ((Txt.split t " ").map V.str)) = H1 at s1 hp1'
  generalize Txt.split t " " = ws at q hz2 hp1'
  dsimp only
  refine x_seq (e_asgG ?_)
  walk_at "e"
  refine ⟨p1, ws, 0, 8, rfl, SqL.of hp1', hz2, Nat.le_refl _, ?_⟩
  cases hd : readD 8 ws 0 with
  | none =>
    rw [hd] at q
    intro H2 s2
    exact q _ (s1.trans s2)
  | some r =>
    obtain ⟨d, e'⟩ := r
    rw [hd] at q
    dsimp only at q
    intro H2 v p2 s2 hp2 hp2' hT2
    refine ⟨p2, _, rfl, SqT.of hp2', rfl, ?_⟩
    refine ⟨_, _, rfl, ?_⟩
    refine ⟨_, _, rfl, ?_⟩
    refine ⟨rfl, ?_⟩
    have h2 := s2 _ _ hp1'
    refine x_seq (x_if (fun b H3 => H3 = H2 ∧ b = !decide (e' = ws.length)) (fun Q k => ?_) ?_ ?_)
    · walk_at "e"
      refine ⟨p1, _, rfl, .inl (SqL.of h2), ?_⟩
      walk_at "e"
      refine k _ _ ⟨rfl, congrArg (!·) (decide_eq_decide.mpr ?_)⟩
      rw [List.length_map]
      omega
    · rintro H3 ⟨rfl, e⟩
      have e : ¬ e' = ws.length := of_decide_eq_false (by simpa using e.symm)
      rw [if_neg (fun h => e h.1)] at q
      exact q _ (s1.trans s2)
    rintro H3 ⟨rfl, e⟩
    have e : e' = ws.length := of_decide_eq_true (by simpa using e.symm)
    refine x_next ?_
    dsimp only
    refine x_seq (e_drop ?_)
    walk_at "e"
    refine ⟨v, d, rfl, hT2, fun hc H4 s4 => ?_, fun hc H4 s4 => ?_⟩
    · rw [if_pos ⟨e, hc⟩] at q
      refine e_ret ?_
      exact ⟨_, rfl, q _ v ((s1.trans s2).trans s4) (hT2.same s4)⟩
    · rw [if_neg (fun h => by rw [hc] at h; exact Bool.false_ne_true h.2)] at q
      exact q _ ((s1.trans s2).trans s4)
/-! ### the law's own defs -/
def StW (H : Hp) (a : Addr) : Prop := ∃ x : Int, H a = some (.lst [.int x]) ∨ Wl H a
theorem StW.same {H H' : Hp} {a : Addr} (s : Same H H') (h : StW H a) : StW H' a := by
  obtain ⟨x, h | h⟩ := h
  · exact ⟨x, .inl (s _ _ h)⟩
  · exact ⟨0, .inr (h.same s)⟩
def sp_l_cell_at (K : PySem.W.Frag) : Sp := fun vs H Q _ => ∃ (a : Addr) (ns : List Int), vs = [.ref a, .int 0] ∧ SqL K H a (ns.map V.int) ∧ ∀ i, Q (.int i) H
theorem ok_l_cell_at (T : Txt w K mg) : FnOk P w K mg base CX0 1 T.a_l_cell_at T.d_l_cell_at ["_law_script", "_law_k"] (sp_l_cell_at K) := by
  refine T.F_l_cell_at.ok sc_l_cell_at (fun vs H Q E h => by obtain ⟨_, _, rfl, _⟩ := h; rfl) (fun cdv A outer s H vs Q E hr h => ?_)
  obtain ⟨a, ns, rfl, hS, q⟩ := h
  refine ⟨_, (pss_cons (ps_if (pt_cmpR op_lt (pv 1) (pe_callB call_len_seq rfl T.n_len (by decide +kernel) (pa_cons (pv 0) pa_nil)) (nomark _)) (pss_one (ps_ret (pe_ix ix_list (pv 0) (pv 1) (fun _ _ => rfl)))) pss_nil)
    (pss_one (ps_ret pe_int))), ?_⟩
  refine x_seq (x_if (fun b H' => H' = H ∧ b = decide ((0 : Int) < ((ns.map V.int).length : Int))) (fun Q k => ?_) ?_ ?_)
  · walk_at "e"
    refine ⟨a, _, rfl, .inl hS, ?_⟩
    walk_at "e"
    exact k _ _ ⟨rfl, rfl⟩
  · rintro H' ⟨rfl, e⟩
    have e := of_decide_eq_true e.symm
    walk_at "s"
    cases ns with
    | nil => simp at e
    | cons i ns =>
      refine e_ixL hS (atI_nat (j := 0) rfl) ?_
      exact q i
  · rintro H' ⟨rfl, e⟩
    walk_at "s"
    exact q 0
def sp_l_digit : Sp := fun vs H Q _ => ∃ a m, vs = [.ref a, .int m] ∧ StW H a ∧ 0 < m ∧ m < 1073741824 ∧ ∀ r H', 0 ≤ r → r < m → Wl H' a → Off a H H' → Q (.int r) H'
theorem ok_l_digit (T : Txt w K mg) : FnOk P w K mg base CX0 1 T.a_l_digit T.d_l_digit ["_law_state", "_law_base"] sp_l_digit := by
  refine T.F_l_digit.ok sc_l_digit (fun vs H Q E h => by obtain ⟨_, _, rfl, _⟩ := h; rfl) (fun cdv A outer s H vs Q E hr h => ?_)
  obtain ⟨a, m, rfl, hW0, m0, m1, q⟩ := h
  refine ⟨_, (pss_cons (ps_if (pt_cmpR op_eq (pe_callB call_len_seq rfl T.n_len (by decide +kernel) (pa_cons (pv 0) pa_nil)) pe_int (nomark _)) (pss_one (ps_expr (pe_bm PySem.F.plainAttrs_list PySem.F.slot_list_extend PySem.F.type_list_extend mt_extend (pv 0) (pa_cons (pe_lst (pa_cons (pe_op op_mod (pe_ix ix_list (pv 0) pe_int (fun _ _ => rfl)) pe_int) (pa_cons pe_int pa_nil))) pa_nil)))) pss_nil)
    (pss_cons (ps_if (pt_cmpR op_ge (pe_ix ix_list (pv 0) pe_int (fun _ _ => rfl)) (pv 1) (nomark _)) (pss_cons (ps_set (i := 2) sc_l_digit.nd rfl (Or.inl rfl) (pe_op op_mod (pe_ix ix_list (pv 0) pe_int (fun _ _ => rfl)) (pv 1)))
    (pss_cons (ps_asg (pe_op op_fdiv (pe_ix ix_list (pv 0) pe_int (fun _ _ => rfl)) (pv 1)) (pg_sub (pv 0) pe_int set_list))
    (pss_one (ps_ret (pv 2))))) pss_nil)
    (pss_cons (ps_asg (pe_op op_add (pe_ix ix_list (pv 0) pe_int (fun _ _ => rfl)) pe_int) (pg_sub (pv 0) pe_int set_list))
    (pss_cons (ps_set (i := 3) sc_l_digit.nd rfl (Or.inl rfl) (pe_op op_mod (pe_op op_mul (pe_op op_add (pe_op op_add (pe_ix ix_list (pv 0) pe_int (fun _ _ => rfl)) (pe_op op_mul pe_int (pe_ix ix_list (pv 0) pe_int (fun _ _ => rfl)))) pe_int) pe_int) pe_int))
    (pss_cons (ps_set (i := 3) sc_l_digit.nd rfl (Or.inl rfl) (pe_op op_mod (pe_op op_mul (pv 3) (pe_op op_add (pe_op op_fdiv (pv 3) pe_int) pe_int)) pe_int))
    (pss_one (ps_ret (pe_op op_mod (pe_op op_mod (pe_op op_mul (pv 3) (pe_op op_add (pe_op op_fdiv (pv 3) pe_int) pe_int)) pe_int) (pv 1))))))))), ?_⟩
  refine x_seqP (fun σ' H' => σ' = start ["_law_state", "_law_base", "_law_found", "_law_number"] [.ref a, .int m] ∧ Off a H H' ∧ Wl H' a) (fun N hN => ?_) ?_
  · refine x_if (fun b H' => H' = H ∧ (b = true → ∃ x : Int, H a = some (.lst [.int x])) ∧ (b = false → Wl H a)) (fun Q k => ?_) ?_ ?_
    · walk_at "e"
      obtain ⟨x, h | ⟨x, y, z, h⟩⟩ := hW0
      · refine ⟨a, _, rfl, .inl (SqL.of h), ?_⟩
        walk_at "e"
        exact k _ _ ⟨rfl, fun _ => ⟨x, h⟩, fun e => nomatch (show (true : Bool) = false from e)⟩
      · refine ⟨a, _, rfl, .inl (SqL.of h), ?_⟩
        walk_at "e"
        rw [show decide ((([V.int x, V.int y, V.int z].length : Nat) : Int) = 1) = false from rfl]
        exact k _ _ ⟨rfl, fun e => (by cases e), fun _ => ⟨x, y, z, h⟩⟩
    · rintro H' ⟨rfl, e, _⟩
      obtain ⟨x, h⟩ := e rfl
      walk_at "s"
      refine ⟨.inl ⟨rfl, _, SqL.of h⟩, ?_⟩
      walk_at "e"
      refine e_ixL (SqL.of h) (atI_nat (j := 0) rfl) ?_
      walk_at "e"
      refine ⟨by show 2 ≤ sizeLine; decide, fun p hp => ?_⟩
      have hne : p ≠ a := fun e => by rw [e, h] at hp; cases hp
      walk_at "e"
      refine ⟨a, p, _, _, rfl, rfl, same_new hp _ _ _ h, upd_same, by show 1 + 2 ≤ sizeLine; decide, hN _ _ ⟨rfl, ?_, _, _, _, upd_same⟩⟩
      exact (Off.same (same_new hp _)).upd
    · rintro H' ⟨rfl, _, e⟩
      exact x_next (hN _ _ ⟨rfl, Off.refl _ _, e rfl⟩)
  rintro σ' H0 ⟨rfl, hO0, x, y, z, hW⟩
  refine x_seq (x_if (fun b H' => H' = H0) (fun Q k => ?_) ?_ ?_)
  · walk_at "e"
    refine e_ixL (SqL.of hW) (atI_nat (j := 0) rfl) ?_
    walk_at "e"
    exact k _ _ rfl
  · rintro H' rfl
    walk_at "s"
    refine e_ixL (SqL.of hW) (atI_nat (j := 0) rfl) ?_
    walk_at "s"
    refine e_ixL (SqL.of hW) (atI_nat (j := 0) rfl) ?_
    walk_at "s"
    refine e_setL (j := 0) hW rfl ?_
    walk_at "s"
    exact q _ _ (Int.emod_nonneg _ (by omega)) (Int.emod_lt_of_pos _ m0) ⟨_, _, _, upd_same⟩ hO0.upd
  · rintro H' rfl
    walk_at "s"
    refine e_ixL (SqL.of hW) (atI_nat (j := 2) rfl) ?_
    walk_at "s"
    refine e_setL (j := 2) hW rfl ?_
    have hW2 : upd H' a (.lst ([V.int x, V.int y, V.int z].set 2 (V.int (z + 1)))) a = some (.lst [.int x, .int y, .int (z + 1)]) := upd_same
    have hO : Off a H (upd H' a (.lst ([V.int x, V.int y, V.int z].set 2 (V.int (z + 1))))) := hO0.upd
    generalize upd H' a (.lst ([V.int x, V.int y, V.int z].set 2 (V.int (z + 1)))) = H2 at hW2 hO
    refine x_seq (x_asg (fun v H3 => H3 = H2 ∧ ∃ m, v = .int m ∧ 0 ≤ m ∧ m < 2147483647) (fun Q k => ?_) ?_)
    · walk_at "e"
      refine e_ixL (SqL.of hW2) (atI_nat (j := 1) rfl) ?_
      walk_at "e"
      refine e_ixL (SqL.of hW2) (atI_nat (j := 2) rfl) ?_
      walk_at "e"
      exact k _ _ ⟨rfl, _, rfl, Int.emod_nonneg _ (by omega), Int.emod_lt_of_pos _ (by omega)⟩
    · rintro v H3 ⟨rfl, n, rfl, n0, n1⟩
      dsimp only
      refine x_seq (x_asg (fun v H4 => H4 = H3 ∧ ∃ m, v = .int m ∧ 0 ≤ m ∧ m < 2147483647) (fun Q k => ?_) ?_)
      · walk_at "e"
        exact k _ _ ⟨rfl, _, rfl, Int.emod_nonneg _ (by omega), Int.emod_lt_of_pos _ (by omega)⟩
      · rintro v H4 ⟨rfl, k, rfl, k0, k1⟩
        walk_at "s"
        exact q _ _ (Int.emod_nonneg _ (by omega)) (Int.emod_lt_of_pos _ m0) ⟨_, _, _, hW2⟩ hO
/-- one of a list, of a text -/
def Some1 (H : Hp) (a : Addr) (y : V) (Ok : V → Prop) : Prop := (∃ l xs, y = .ref l ∧ l ≠ a ∧ H l = some (.lst xs) ∧ 0 < xs.length ∧ xs.length < 1000 ∧ ∀ v ∈ xs, Ok v) ∨ ∃ z : Str, y = .str z ∧ 0 < z.length ∧ z.length < 1000 ∧ ∀ c ∈ z.cps.toList, Ok (.str ⟨#[c]⟩)
def sp_l_pick : Sp := fun vs H Q _ => ∃ a y Ok, vs = [.ref a, y] ∧ StW H a ∧ Some1 H a y Ok ∧ ∀ v H', Ok v → Wl H' a → Off a H H' → Q v H'
theorem ok_l_pick (T : Txt w K mg) (G_l_digit : FnOk P w K mg base CX0 1 T.a_l_digit T.d_l_digit ["_law_state", "_law_base"] sp_l_digit) : FnOk P w K mg base CX0 2 T.a_l_pick T.d_l_pick ["_law_state", "_law_some"] sp_l_pick := by
  refine T.F_l_pick.ok sc_l_pick (fun vs H Q E h => by obtain ⟨_, _, _, rfl, _⟩ := h; rfl) (fun cdv A outer s H vs Q E hr h => ?_)
  obtain ⟨a, y, Ok, rfl, hW, hy, q⟩ := h
  refine ⟨_, (pss_one (ps_ret (pe_ix ix_seq (pv 1) (pe_call G_l_digit (hr.mono (by omega)) rfl T.m_l_digit T.F_l_digit.kp (bn_l_digit T) .nil pass0 (pa_cons (pv 0) (pa_cons (pe_callB call_len rfl T.n_len (by decide +kernel) (pa_cons (pv 1) pa_nil)) pa_nil))) (fun _ _ => rfl)))), ?_⟩
  walk_at "s"
  rcases hy with ⟨l, xs, rfl, hne, hl, h0, h1, hok⟩ | ⟨z, rfl, h0, h1, hok⟩
  · refine ⟨_, _, rfl, .inl ⟨_, SqL.of hl, rfl⟩, ?_⟩
    walk_at "e"
    refine ⟨a, _, rfl, hW, by omega, by omega, fun r H' r0 r1 hW' hO => ?_⟩
    have hr' : r.toNat < xs.length := by omega
    refine .inl ⟨l, xs, r, xs[r.toNat], rfl, rfl, SqL.of (hO _ _ hne hl), at_of (j := r.toNat) (by omega) (List.getElem?_eq_getElem hr'), ?_⟩
    exact q _ _ (hok _ (List.getElem_mem hr')) hW' hO
  · refine ⟨_, _, rfl, ⟨by have : sizeLine = 16777216 := sizeLine_eq; omega, rfl⟩, ?_⟩
    walk_at "e"
    refine ⟨a, _, rfl, hW, by omega, by omega, fun r H' r0 r1 hW' hO => ?_⟩
    have hr' : r.toNat < z.cps.toList.length := by
      have : z.cps.toList.length = z.length := by simp [Str.length]
      omega
    have hat : atI z.cps.toList r = some z.cps.toList[r.toNat] := by
      have e : r = ((r.toNat : Nat) : Int) := by omega
      rw [show atI z.cps.toList r = atI z.cps.toList ((r.toNat : Nat) : Int) from congrArg _ e]
      exact atI_nat (List.getElem?_eq_getElem hr')
    refine .inr (.inr ⟨z, r, z.cps.toList[r.toNat], rfl, rfl, by have : sizeLine = 16777216 := sizeLine_eq; omega, hat, ?_⟩)
    exact q _ _ (hok _ (List.getElem_mem hr')) hW' hO
end
end My

set_option Elab.async false
set_option linter.all false
set_option maxRecDepth 100000
set_option maxHeartbeats 4000000
namespace My
open PySem PySem.Spec PyProof.Rows L2
local macro_rules | `(tactic| walk_at "e1") => `(tactic| first
  | refine e_var rfl ?_
  | refine e_c ?_
  | refine e_op ?_
  | refine e_un ?_
  | refine e_cb ?_
  | refine e_cons ?_
  | refine e_nil ?_
  | refine e_tB ?_
  | refine e_test ?_
  | refine e_not ?_
  | refine e_and ?_
  | refine e_or ?_
  | refine e_andV ?_
  | refine e_orV ?_
  | refine e_notV ?_
  | refine e_I0 ?_
  | refine e_I (by (try dsimp only [CDiv, CDivN, CMul, CPow]); first | decide | omega) ?_
  | refine e_U ?_
  | refine e_eqI ?_
  | refine e_neI ?_
  | refine e_bl ?_
  | refine e_call ?_
  | refine e_sub ?_
  | refine e_lst ?_
  | refine e_tup ?_
  | refine e_nn ?_
  | rw [dec_nn]
  | rw [dec_in]
  | rw [dec_rn]
  | rw [dec_bn]
  | rw [dec_sn]
  | rw [Bool.not_true]
  | rw [Bool.not_false]
  | refine iteT ?_
  | refine iteF ?_)
local macro_rules | `(tactic| walk_at "e") => `(tactic| ((try dsimp only); repeat (walk_at "e1"; try dsimp only)))
local macro_rules | `(tactic| walk_at "s1") => `(tactic| first
  | refine x_seq ?_
  | refine x_next ?_
  | refine e_ret ?_
  | refine e_asg ?_
  | refine e_drop ?_
  | refine e_asgG ?_
  | walk_at "e1")
local macro_rules | `(tactic| walk_at "s") => `(tactic| ((try dsimp only); repeat (walk_at "s1"; try dsimp only)))
def sp_grown (n : Nat) : Sp := fun vs H Q _ => ∃ a, ∃ k dp : Nat, vs = [.ref a, .int k, .int dp] ∧ StW H a ∧ 1 ≤ k ∧ k ≤ 1000 ∧ 1 ≤ dp ∧ dp ≤ n ∧ ∀ v H' d, Tr H' v d → Built dp d → (partsD d).length ≤ k → Wl H' a → Off a H H' → Q v H'
theorem Wl.st {H : Hp} {a : Addr} (h : Wl H a) : StW H a := ⟨0, .inr h⟩
theorem StW.lst {H : Hp} {a : Addr} (h : StW H a) : ∃ xs, H a = some (.lst xs) := by
  obtain ⟨x, h | ⟨_, _, _, h⟩⟩ := h <;> exact ⟨_, h⟩
theorem off_lch {H H' : Hp} {a : Addr} (o : Off a H H') (h : StW H a) (h' : Wl H' a) : Lch a H H' := by
  obtain ⟨xs, e⟩ := h.lst
  obtain ⟨_, _, _, e'⟩ := h'
  exact o.lch e e'
section
variable {P : Program} {w : World} {K : PySem.W.Frag} {mg : Str → Option Value} {base : Heap}
theorem ok_l_grown (T : Txt w K mg) (G_l_digit : FnOk P w K mg base CX0 1 T.a_l_digit T.d_l_digit ["_law_state", "_law_base"] sp_l_digit) (G_l_pick : FnOk P w K mg base CX0 2 T.a_l_pick T.d_l_pick ["_law_state", "_law_some"] sp_l_pick) :
    ∀ n : Nat, FnOk P w K mg base CX0 (n + 2) T.a_l_grown T.d_l_grown ["_law_state", "_law_many", "_law_deep"] (sp_grown n)
  | 0 => ⟨fun _ _ _ _ h => by obtain ⟨_, _, _, _, _, _, _, h1, h2, _⟩ := h; omega, fun _ _ _ _ _ _ _ _ _ _ _ _ _ h => by obtain ⟨_, _, _, _, _, _, _, h1, h2, _⟩ := h; omega⟩
  | n + 1 => by
    have G_l_grown := ok_l_grown T G_l_digit G_l_pick n
    refine T.F_l_grown.ok sc_l_grown (fun vs H Q E h => by obtain ⟨_, _, _, rfl, _⟩ := h; rfl) (fun cdv A outer s H vs Q E hr h => ?_)
    obtain ⟨a, k, dp, rfl, hW, k1, k2, d1, d2, q⟩ := h
    refine ⟨_, (pss_cons (ps_set (i := 3) sc_l_grown.nd rfl (Or.inl rfl) (pe_call G_l_digit (hr.mono (by omega)) rfl T.m_l_digit T.F_l_digit.kp (bn_l_digit T) .nil pass0 (pa_cons (pv 0) (pa_cons pe_int pa_nil))))
    (pss_cons (ps_if (PW.pt (pw_and (pt_cmpR op_gt (pv 2) pe_int (nomark _)) (pw_and1 (pt_cmpR op_eq (pv 3) pe_int (nomark _))))) (pss_one (ps_ret (pe_tup (pa_cons pe_str (pa_cons (pe_call G_l_grown (hr.mono (by omega)) rfl T.m_l_grown T.F_l_grown.kp (bn_l_grown T) .nil pass0 (pa_cons (pv 0) (pa_cons (pv 1) (pa_cons (pe_op op_sub (pv 2) pe_int) pa_nil)))) pa_nil))))) pss_nil)
    (pss_cons (ps_if (PW.pt (pw_and (pt_cmpR op_gt (pv 2) pe_int (nomark _)) (pw_and (pt_cmpR op_gt (pv 1) pe_int (nomark _)) (pw_and1 (pt_cmpR op_lt (pv 3) pe_int (nomark _)))))) (pss_cons (ps_set (i := 4) sc_l_grown.nd rfl (Or.inl rfl) (pe_op op_add pe_int (pe_call G_l_digit (hr.mono (by omega)) rfl T.m_l_digit T.F_l_digit.kp (bn_l_digit T) .nil pass0 (pa_cons (pv 0) (pa_cons (pe_op op_sub (pv 1) pe_int) pa_nil)))))
    (pss_cons (ps_set (i := 5) sc_l_grown.nd rfl (Or.inl rfl) (pe_call G_l_pick (hr.mono (by omega)) rfl T.m_l_pick T.F_l_pick.kp (bn_l_pick T) .nil pass0 (pa_cons (pv 0) (pa_cons (pe_lst (pa_cons pe_str (pa_cons pe_str pa_nil))) pa_nil))))
    (pss_one (ps_ret (pe_tup (pa_cons (pv 5) (pa_cons (pe_call G_l_grown (hr.mono (by omega)) rfl T.m_l_grown T.F_l_grown.kp (bn_l_grown T) .nil pass0 (pa_cons (pv 0) (pa_cons (pv 4) (pa_cons (pe_op op_sub (pv 2) pe_int) pa_nil)))) (pa_cons (pe_call G_l_grown (hr.mono (by omega)) rfl T.m_l_grown T.F_l_grown.kp (bn_l_grown T) .nil pass0 (pa_cons (pv 0) (pa_cons (pe_op op_sub (pv 1) (pv 4)) (pa_cons (pe_op op_sub (pv 2) pe_int) pa_nil)))) pa_nil)))))))) pss_nil)
    (pss_one (ps_ret (pe_tup (pa_cons (pe_call G_l_pick (hr.mono (by omega)) rfl T.m_l_pick T.F_l_pick.kp (bn_l_pick T) .nil pass0 (pa_cons (pv 0) (pa_cons (pe_lst (pa_cons pe_str (pa_cons pe_str pa_nil))) pa_nil))) (pa_cons (pe_call G_l_pick (hr.mono (by omega)) rfl T.m_l_pick T.F_l_pick.kp (bn_l_pick T) .nil pass0 (pa_cons (pv 0) (pa_cons pe_str pa_nil))) (pa_cons (pe_call G_l_pick (hr.mono (by omega)) rfl T.m_l_pick T.F_l_pick.kp (bn_l_pick T) .nil pass0 (pa_cons (pv 0) (pa_cons pe_str pa_nil))) pa_nil))))))))), ?_⟩
    refine x_seq (e_asg ?_)
    walk_at "e"
    refine ⟨a, 5, rfl, hW, by omega, by omega, fun way H1 w0 w1 hW1 hO1 => ?_⟩
    have leaf : ∀ H2 (x y z : Str) p, cmpW x = true → vwS y = true → vwS z = true → Wl H2 a → Off a H H2 → H2 p = some (.tup [.str x, .str y, .str z]) → Q (.ref p) H2 := fun H2 x y z p hx hy hz hW2 hO2 hp => by
      obtain ⟨dp, rfl⟩ : ∃ k, dp = k + 1 := ⟨dp - 1, by omega⟩
      exact q _ _ _ (.tup hp (.cons (.str x) (.cons (.str y) (.cons (.str z) .nil)))) (.part hx hy hz) (by rw [parts_cmp hx]; exact k1) hW2 hO2
    refine x_seq (x_if (fun b H' => H' = H1 ∧ (b = true → 1 < dp)) (fun Q k => ?_) ?_ ?_)
    · walk_at "e"
      by_cases h : 1 < dp
      · rw [show decide ((dp : Int) > 1) = true from decide_eq_true (by omega)]
        walk_at "e"
        exact k _ _ ⟨rfl, fun _ => h⟩
      · rw [show decide ((dp : Int) > 1) = false from decide_eq_false (by omega)]
        walk_at "e"
        exact k _ _ ⟨rfl, fun e => by cases e⟩
    · rintro H' ⟨rfl, e⟩
      have hd := e rfl
      obtain ⟨dp, rfl⟩ : ∃ k, dp = k + 1 := ⟨dp - 1, by omega⟩
      walk_at "s"
      refine ⟨a, k, dp, ?_, hW1.st, k1, k2, by omega, by omega, fun v H2 d hT hB hp hW2 hO2 => ?_⟩
      · rw [show (((dp + 1 : Nat) : Int) - 1) = (dp : Int) by omega]
        rfl
      walk_at "e"
      refine ⟨by show 2 ≤ sizeLine; decide, fun p hp1 => ?_⟩
      have s2 := same_new hp1 (.tup [.str "not", v])
      refine q _ _ _ (.tup upd_same (.cons (.str _) (.cons (hT.same s2) .nil))) (.one hB) ?_ (hW2.same s2) ((hO1.trans hO2).trans (.same s2))
      rw [parts_in cmp_not]
      simp only [partsAll, List.append_nil]
      exact hp
    rintro H' ⟨rfl, _⟩
    refine x_next ?_
    dsimp only
    refine x_seq (x_if (fun b H2 => H2 = H' ∧ (b = true → 1 < dp ∧ 1 < k)) (fun Q kk => ?_) ?_ ?_)
    · walk_at "e"
      by_cases h : 1 < dp
      · rw [show decide ((dp : Int) > 1) = true from decide_eq_true (by omega)]
        walk_at "e"
        by_cases h2 : 1 < k
        · rw [show decide ((k : Int) > 1) = true from decide_eq_true (by omega)]
          walk_at "e"
          exact kk _ _ ⟨rfl, fun _ => ⟨h, h2⟩⟩
        · rw [show decide ((k : Int) > 1) = false from decide_eq_false (by omega)]
          walk_at "e"
          exact kk _ _ ⟨rfl, fun e => by cases e⟩
      · rw [show decide ((dp : Int) > 1) = false from decide_eq_false (by omega)]
        walk_at "e"
        exact kk _ _ ⟨rfl, fun e => by cases e⟩
    · rintro H2 ⟨rfl, e⟩
      obtain ⟨hd, hk⟩ := e rfl
      obtain ⟨dp, rfl⟩ : ∃ k, dp = k + 1 := ⟨dp - 1, by omega⟩
      walk_at "s"
      refine ⟨a, (k : Int) - 1, rfl, hW1.st, by omega, by omega, fun r H3 r0 r1 hW3 hO3 => ?_⟩
      walk_at "s"
      refine ⟨by show 2 ≤ sizeLine; decide, fun p hp => ?_⟩
      have s3 := same_new hp (.lst [.str "and", .str "or"])
      walk_at "e"
      refine ⟨a, .ref p, fun v => ∃ w, v = .str w ∧ (w = "and" ∨ w = "or"), rfl, (hW3.same s3).st, .inl ⟨p, _, rfl, hW3.ne hp, upd_same, by decide, by decide, fun v hv => ?_⟩, fun v H4 ⟨w, e, hw⟩ hW4 hO4 => ?_⟩
      · simp only [List.mem_cons, List.not_mem_nil, or_false] at hv
        rcases hv with rfl | rfl
        · exact ⟨_, rfl, .inl rfl⟩
        · exact ⟨_, rfl, .inr rfl⟩
      subst e
      walk_at "s"
      refine ⟨a, (1 + r).toNat, dp, ?_, hW4.st, by omega, by omega, by omega, by omega, fun v1 H5 d1 hT1 hB1 hp1 hW5 hO5 => ?_⟩
      · rw [show (((dp + 1 : Nat) : Int) - 1) = (dp : Int) by omega, show (((1 + r).toNat : Nat) : Int) = 1 + r by omega]
        rfl
      walk_at "e"
      refine ⟨a, k - (1 + r).toNat, dp, ?_, hW5.st, by omega, by omega, by omega, by omega, fun v2 H6 d2 hT2 hB2 hp2 hW6 hO6 => ?_⟩
      · rw [show (((dp + 1 : Nat) : Int) - 1) = (dp : Int) by omega, show ((k - (1 + r).toNat : Nat) : Int) = (k : Int) - (1 + r) by omega]
        rfl
      walk_at "e"
      refine ⟨by show 3 ≤ sizeLine; decide, fun p7 hp7 => ?_⟩
      have s7 := same_new hp7 (.tup [.str w, v1, v2])
      have hTT1 := (hT1.lch (off_lch hO6 hW5.st hW6)).same s7
      refine q _ _ _ (.tup upd_same (.cons (.str _) (.cons hTT1 (.cons (hT2.same s7) .nil)))) (.two hw hB1 hB2) ?_ (hW6.same s7) ?_
      · rw [parts_in (cmp_two hw)]
        simp only [partsAll, List.append_nil, List.length_append]
        omega
      · exact (((((hO1.trans hO3).trans (.same s3)).trans hO4).trans hO5).trans hO6).trans (.same s7)
    rintro H2 ⟨rfl, _⟩
    refine x_next ?_
    walk_at "s"
    refine ⟨by show 2 ≤ sizeLine; decide, fun p hp => ?_⟩
    have s3 := same_new hp (.lst [.str "=", .str "<"])
    walk_at "e"
    refine ⟨a, .ref p, fun v => ∃ w, v = .str w ∧ cmpW w = true, rfl, (hW1.same s3).st, .inl ⟨p, _, rfl, hW1.ne hp, upd_same, by decide, by decide, fun v hv => ?_⟩, fun v H4 ⟨w, e, hw⟩ hW4 hO4 => ?_⟩
    · simp only [List.mem_cons, List.not_mem_nil, or_false] at hv
      rcases hv with rfl | rfl
      · exact ⟨_, rfl, by decide +kernel⟩
      · exact ⟨_, rfl, by decide +kernel⟩
    subst e
    have hs : ∀ H, Some1 H a (.str "abc0123") (fun v => ∃ x, v = .str x ∧ vwS x = true) := fun H => by
      refine .inr ⟨_, rfl, by decide +kernel, by decide +kernel, fun c hc => ⟨_, rfl, ?_⟩⟩
      have : ∀ c ∈ ("abc0123" : Str).cps.toList, vwS ⟨#[c]⟩ = true := by decide +kernel
      exact this c hc
    walk_at "e"
    refine ⟨a, _, _, rfl, hW4.st, hs _, fun v H5 ⟨x, e, hx⟩ hW5 hO5 => ?_⟩
    subst e
    walk_at "e"
    refine ⟨a, _, _, rfl, hW5.st, hs _, fun v H6 ⟨y, e, hy⟩ hW6 hO6 => ?_⟩
    subst e
    walk_at "e"
    refine ⟨by show 3 ≤ sizeLine; decide, fun p7 hp7 => ?_⟩
    have s7 := same_new hp7 (.tup [.str w, .str x, .str y])
    exact leaf _ w x y p7 hw hx hy (hW6.same s7) (((((hO1.trans (.same s3)).trans hO4).trans hO5).trans hO6).trans (.same s7)) upd_same
end
end My

set_option Elab.async false
set_option linter.all false
set_option maxRecDepth 100000
set_option maxHeartbeats 4000000
namespace My
open PySem PySem.Spec PyProof.Rows L2
local macro_rules | `(tactic| walk_at "e1") => `(tactic| first
  | refine e_var rfl ?_
  | refine e_c ?_
  | refine e_op ?_
  | refine e_un ?_
  | refine e_cb ?_
  | refine e_cons ?_
  | refine e_nil ?_
  | refine e_tB ?_
  | refine e_test ?_
  | refine e_not ?_
  | refine e_and ?_
  | refine e_or ?_
  | refine e_andV ?_
  | refine e_orV ?_
  | refine e_notV ?_
  | refine e_I0 ?_
  | refine e_I (by (try dsimp only [CDiv, CDivN, CMul, CPow]); first | decide | omega) ?_
  | refine e_U ?_
  | refine e_eqI ?_
  | refine e_neI ?_
  | refine e_bl ?_
  | refine e_call ?_
  | refine e_sub ?_
  | refine e_lst ?_
  | refine e_tup ?_
  | refine e_nn ?_
  | rw [dec_nn]
  | rw [dec_in]
  | rw [dec_rn]
  | rw [dec_bn]
  | rw [dec_sn]
  | rw [Bool.not_true]
  | rw [Bool.not_false]
  | refine iteT ?_
  | refine iteF ?_)
local macro_rules | `(tactic| walk_at "e") => `(tactic| ((try dsimp only); repeat (walk_at "e1"; try dsimp only)))
local macro_rules | `(tactic| walk_at "s1") => `(tactic| first
  | refine x_seq ?_
  | refine x_next ?_
  | refine e_ret ?_
  | refine e_asg ?_
  | refine e_drop ?_
  | refine e_asgG ?_
  | walk_at "e1")
local macro_rules | `(tactic| walk_at "s") => `(tactic| ((try dsimp only); repeat (walk_at "s1"; try dsimp only)))
section
variable {P : Program} {w : World} {K : PySem.W.Frag} {mg : Str → Option Value} {base : Heap}
theorem flat_take {f : PyData → List PyData} {ds : List PyData} {j : Nat} {d : PyData} (h : ds[j]? = some d) : (ds.take (j + 1)).flatMap f = (ds.take j).flatMap f ++ f d := by
  rw [List.take_add_one, h, List.flatMap_append]
  simp
theorem flat_le {f : PyData → List PyData} (ds : List PyData) (j : Nat) : ((ds.take j).flatMap f).length ≤ (ds.flatMap f).length := by
  have := congrArg List.length (show (ds.take j).flatMap f ++ (ds.drop j).flatMap f = ds.flatMap f by rw [← List.flatMap_append, List.take_append_drop])
  rw [List.length_append] at this
  omega
theorem ok_l_parts (T : Txt w K mg) : ∀ n : Nat, n ≤ 20 → FnOk P w K mg base CX0 (n + 1) T.a_l_parts T.d_l_parts ["_law_condition"] (sp_parts n)
  | 0, _ => ⟨fun _ _ _ _ h => by obtain ⟨_, _, _, _, h, _⟩ := h; exact (built0 h).elim, fun _ _ _ _ _ _ _ _ _ _ _ _ _ h => by obtain ⟨_, _, _, _, h, _⟩ := h; exact (built0 h).elim⟩
  | n + 1, hn => by
    have G_l_parts := ok_l_parts T n (by omega)
    refine T.F_l_parts.ok sc_l_parts (fun vs H Q E h => by obtain ⟨_, _, rfl, _⟩ := h; rfl) (fun cdv A outer s H vs Q E hr h => ?_)
    obtain ⟨x, d, rfl, hT, hB, q⟩ := h
    have hlen := hB.parts_len.2
    have hz := pow_le (n := n + 1) hn
    obtain ⟨w0, ds, rfl, hne, hc⟩ := hB.shape
    obtain ⟨p, vs, rfl, hp, ht⟩ := tr_cond hT
    refine ⟨_, (pss_cons (ps_if (pt_cmpR op_in_seq (pe_ix ix_tup (pv 0) pe_int (fun _ _ => rfl)) (pe_tup (pa_cons pe_str (pa_cons pe_str pa_nil))) rfl) (pss_one (ps_ret (pe_lst (pa_cons (pv 0) pa_nil)))) pss_nil)
    (pss_cons (ps_set (i := 1) sc_l_parts.nd rfl (Or.inl rfl) (pe_lst pa_nil))
    (pss_cons (ps_for PassesOwn.never rfl (pi_tup (pe_slice sl_tup (pv 0) (po_some pe_int) po_none)) (pg_name (i := 2) sc_l_parts.nd rfl (Or.inl rfl))
    (pss_one (ps_set (i := 1) sc_l_parts.nd rfl (Or.inl rfl) (pe_op op_catL (pv 1) (pe_call G_l_parts (hr.mono (by omega)) rfl T.m_l_parts T.F_l_parts.kp (bn_l_parts T) .nil pass0 (pa_cons (pv 2) pa_nil))))))
    (pss_one (ps_ret (pv 1)))))), ?_⟩
    refine x_seq (x_if (fun b H' => Same H H' ∧ b = cmpW w0) (fun Q k => ?_) ?_ ?_)
    · walk_at "e"
      refine e_ixT (SqT.of hp) (atI_nat (j := 0) rfl) ?_
      walk_at "e"
      refine ⟨by show 2 ≤ sizeLine; decide, fun pc hpc => ?_⟩
      refine ⟨_, _, rfl, .inr (SqT.of upd_same), rfl, by decide +kernel, ?_⟩
      walk_at "e"
      exact k _ _ ⟨same_new hpc _, rfl⟩
    · rintro H' ⟨s0, e⟩
      rw [parts_cmp e.symm] at q
      walk_at "s"
      refine ⟨by show 1 ≤ sizeLine; decide, fun p1 hp1 => q _ p1 _ (s0.trans (same_new hp1 _)) (s0.free hp1) upd_same (.cons (hT.same (s0.trans (same_new hp1 _))) .nil)⟩
    · rintro H' ⟨s0, e⟩
      rcases hc with ⟨c, _⟩ | ⟨c, _, hds⟩
      · rw [c] at e
        cases e
      rw [parts_in c, partsAll_flat] at q
      rw [parts_in c, partsAll_flat] at hlen
      refine x_next ?_
      walk_at "s"
      refine ⟨by show 0 ≤ sizeLine; decide, fun p0 hp0 => ?_⟩
      refine x_seq ?_
      refine x_forT (K := K) (fun a xs H1 => xs = vs ∧ Same (upd H' p0 (.lst [])) H1) (fun Q k => ?_) ?_
      · refine ⟨_, rfl, 1, rfl, p, _, rfl, SqT.of (same_new hp0 _ _ _ (s0 _ _ hp)), cut1_ne _ _, fun p1 hp1 => ?_⟩
        rw [cut1]
        exact k _ _ _ (SqT.of upd_same) ⟨rfl, same_new hp1 _⟩
      · rintro a xs H1 hs1 ⟨rfl, s1⟩
        have s01 : Same H H1 := (s0.trans (same_new hp0 _)).trans s1
        refine ⟨fun j σ' H2 => ∃ f acc b, σ' = [some (.ref p), some (.ref f), b] ∧ Same H1 H2 ∧ H f = none ∧ H2 f = some (.lst acc) ∧ TrAll H2 acc ((ds.take j).flatMap partsD), ⟨p0, [], none, rfl, Same.refl _, s0.free hp0, s1 _ _ upd_same, .nil⟩, fun j σ' H2 _ ⟨f, acc, b, _, s2, _⟩ => same_tup s2 hs1, ?_, ?_⟩
        · rintro j x σ' H2 hx ⟨f, acc, b, rfl, s2, hf, hf2, hT2⟩
          obtain ⟨d, hd, hTd⟩ := ht.get hx
          refine e_asg ?_
          walk_at "e"
          refine ⟨x, d, rfl, hTd.same (s01.trans s2), hds d (List.mem_of_getElem? hd), fun H3 p3 ys s3 hp3 hp3' hT3 => ?_⟩
          have hTT : TrAll H3 (acc ++ ys) ((ds.take (j + 1)).flatMap partsD) := by
            rw [flat_take hd]
            exact (hT2.same s3).append hT3
          refine ⟨f, p3, acc, ys, rfl, rfl, SqL.of (s3 _ _ hf2), SqL.of hp3', ?_, fun p4 hp4 => ?_⟩
          · have := hTT.length
            rw [List.length_append] at this
            have := flat_le (f := partsD) ds (j + 1)
            omega
          · exact ⟨p4, _, _, rfl, (s2.trans s3).trans (same_new hp4 _), ((s01.trans s2).trans s3).free hp4, upd_same, hTT.same (same_new hp4 _)⟩
        · rintro σ' H2 ⟨f, acc, b, rfl, s2, hf, hf2, hT2⟩
          rw [ht.length, List.take_length] at hT2
          walk_at "s"
          exact q _ f acc (s01.trans s2) hf hf2 hT2
theorem ok_l_words (T : Txt w K mg) : ∀ n : Nat, n ≤ 20 → FnOk P w K mg base CX0 (n + 1) T.a_l_words T.d_l_words ["_law_condition"] (sp_words n)
  | 0, _ => ⟨fun _ _ _ _ h => by obtain ⟨_, _, _, _, h, _⟩ := h; exact (built0 h).elim, fun _ _ _ _ _ _ _ _ _ _ _ _ _ h => by obtain ⟨_, _, _, _, h, _⟩ := h; exact (built0 h).elim⟩
  | n + 1, hn => by
    have G_l_words := ok_l_words T n (by omega)
    refine T.F_l_words.ok sc_l_words (fun vs H Q E h => by obtain ⟨_, _, rfl, _⟩ := h; rfl) (fun cdv A outer s H vs Q E hr h => ?_)
    obtain ⟨x, d, rfl, hT, hB, q⟩ := h
    have hlen := hB.words_len.2
    have hz := pow_le (n := n + 1) hn
    obtain ⟨w0, ds, rfl, hne, hc⟩ := hB.shape
    obtain ⟨p, vs, rfl, hp, ht⟩ := tr_cond hT
    refine ⟨_, (pss_cons (ps_if (pt_cmpR op_in_seq (pe_ix ix_tup (pv 0) pe_int (fun _ _ => rfl)) (pe_tup (pa_cons pe_str (pa_cons pe_str pa_nil))) rfl) (pss_one (ps_ret (pe_callTy call_list_of rfl T.n_list (by decide +kernel) (pa_cons (pv 0) pa_nil)))) pss_nil)
    (pss_cons (ps_set (i := 1) sc_l_words.nd rfl (Or.inl rfl) (pe_lst (pa_cons (pe_ix ix_tup (pv 0) pe_int (fun _ _ => rfl)) pa_nil)))
    (pss_cons (ps_for PassesOwn.never rfl (pi_tup (pe_slice sl_tup (pv 0) (po_some pe_int) po_none)) (pg_name (i := 2) sc_l_words.nd rfl (Or.inl rfl))
    (pss_one (ps_set (i := 1) sc_l_words.nd rfl (Or.inl rfl) (pe_op op_catL (pv 1) (pe_call G_l_words (hr.mono (by omega)) rfl T.m_l_words T.F_l_words.kp (bn_l_words T) .nil pass0 (pa_cons (pv 2) pa_nil))))))
    (pss_one (ps_ret (pv 1)))))), ?_⟩
    refine x_seq (x_if (fun b H' => Same H H' ∧ b = cmpW w0) (fun Q k => ?_) ?_ ?_)
    · walk_at "e"
      refine e_ixT (SqT.of hp) (atI_nat (j := 0) rfl) ?_
      walk_at "e"
      refine ⟨by show 2 ≤ sizeLine; decide, fun pc hpc => ?_⟩
      refine ⟨_, _, rfl, .inr (SqT.of upd_same), rfl, by decide +kernel, ?_⟩
      walk_at "e"
      exact k _ _ ⟨same_new hpc _, rfl⟩
    · rintro H' ⟨s0, e⟩
      rcases hc with ⟨c, x, y, rfl, hx, hy⟩ | ⟨c, _⟩
      · rw [words_cmp c] at q
        have ev : vs = [.str x, .str y] := flat_strs (ws := [x, y]) ht
        subst ev
        walk_at "s"
        exact ⟨p, _, rfl, .inr (SqT.of (s0 _ _ hp)), fun l hl => q _ l (s0.trans (same_new hl _)) (s0.free hl) upd_same⟩
      · rw [c] at e
        cases e
    · rintro H' ⟨s0, e⟩
      rcases hc with ⟨c, _⟩ | ⟨c, _, hds⟩
      · rw [c] at e
        cases e
      rw [words_in c] at q
      rw [words_in c] at hlen
      have hwl : (ds.flatMap wordsV).length = (wordsAll ds).length := by rw [← wordsAll_flat, List.length_map]
      rw [List.length_cons] at hlen
      refine x_next ?_
      walk_at "s"
      refine e_ixT (SqT.of (s0 _ _ hp)) (atI_nat (j := 0) rfl) ?_
      walk_at "e"
      refine ⟨by show 1 ≤ sizeLine; decide, fun p0 hp0 => ?_⟩
      refine x_seq ?_
      refine x_forT (K := K) (fun a xs H1 => xs = vs ∧ Same (upd H' p0 (.lst [.str w0])) H1) (fun Q k => ?_) ?_
      · refine ⟨_, rfl, 1, rfl, p, _, rfl, SqT.of (same_new hp0 _ _ _ (s0 _ _ hp)), cut1_ne _ _, fun p1 hp1 => ?_⟩
        rw [cut1]
        exact k _ _ _ (SqT.of upd_same) ⟨rfl, same_new hp1 _⟩
      · rintro a xs H1 hs1 ⟨rfl, s1⟩
        have s01 : Same H H1 := (s0.trans (same_new hp0 _)).trans s1
        refine ⟨fun j σ' H2 => ∃ f acc b, σ' = [some (.ref p), some (.ref f), b] ∧ Same H1 H2 ∧ H f = none ∧ H2 f = some (.lst (.str w0 :: acc)) ∧ TrAll H2 acc ((ds.take j).flatMap wordsV), ⟨p0, [], none, rfl, Same.refl _, s0.free hp0, s1 _ _ upd_same, .nil⟩, fun j σ' H2 _ ⟨f, acc, b, _, s2, _⟩ => same_tup s2 hs1, ?_, ?_⟩
        · rintro j x σ' H2 hx ⟨f, acc, b, rfl, s2, hf, hf2, hT2⟩
          obtain ⟨d, hd, hTd⟩ := ht.get hx
          refine e_asg ?_
          walk_at "e"
          refine ⟨x, d, rfl, hTd.same (s01.trans s2), hds d (List.mem_of_getElem? hd), fun H3 p3 s3 hp3 hp3' => ?_⟩
          have hTT : TrAll H3 (acc ++ (wordsD d).map V.str) ((ds.take (j + 1)).flatMap wordsV) := by
            rw [flat_take hd]
            exact (hT2.same s3).append (strs_flat _)
          refine ⟨f, p3, _, _, rfl, rfl, SqL.of (s3 _ _ hf2), SqL.of hp3', ?_, fun p4 hp4 => ?_⟩
          · have := hTT.length
            rw [List.length_append] at this
            have := flat_le (f := wordsV) ds (j + 1)
            rw [List.length_cons]
            omega
          · exact ⟨p4, _, _, rfl, (s2.trans s3).trans (same_new hp4 _), ((s01.trans s2).trans s3).free hp4, upd_same, hTT.same (same_new hp4 _)⟩
        · rintro σ' H2 ⟨f, acc, b, rfl, s2, hf, hf2, hT2⟩
          rw [ht.length, List.take_length, ← wordsAll_flat] at hT2
          have ea := flat_strs hT2
          subst ea
          walk_at "s"
          exact q _ f (s01.trans s2) hf hf2
end
end My

set_option Elab.async false
set_option linter.all false
set_option maxRecDepth 100000
set_option maxHeartbeats 8000000
namespace My
open PySem PySem.Spec PyProof.Rows L2
local macro_rules | `(tactic| walk_at "e1") => `(tactic| first
  | refine e_var rfl ?_
  | refine e_c ?_
  | refine e_op ?_
  | refine e_un ?_
  | refine e_cb ?_
  | refine e_cons ?_
  | refine e_nil ?_
  | refine e_tB ?_
  | refine e_test ?_
  | refine e_not ?_
  | refine e_and ?_
  | refine e_or ?_
  | refine e_andV ?_
  | refine e_orV ?_
  | refine e_notV ?_
  | refine e_I0 ?_
  | refine e_I (by (try dsimp only [CDiv, CDivN, CMul, CPow]); first | decide | omega) ?_
  | refine e_U ?_
  | refine e_eqI ?_
  | refine e_neI ?_
  | refine e_bl ?_
  | refine e_call ?_
  | refine e_sub ?_
  | refine e_lst ?_
  | refine e_tup ?_
  | refine e_nn ?_
  | rw [dec_nn]
  | rw [dec_in]
  | rw [dec_rn]
  | rw [dec_bn]
  | rw [dec_sn]
  | rw [Bool.not_true]
  | rw [Bool.not_false]
  | refine iteT ?_
  | refine iteF ?_)
local macro_rules | `(tactic| walk_at "e") => `(tactic| ((try dsimp only); repeat (walk_at "e1"; try dsimp only)))
local macro_rules | `(tactic| walk_at "s1") => `(tactic| first
  | refine x_seq ?_
  | refine x_next ?_
  | refine e_ret ?_
  | refine e_asg ?_
  | refine e_drop ?_
  | refine e_asgG ?_
  | walk_at "e1")
local macro_rules | `(tactic| walk_at "s") => `(tactic| ((try dsimp only); repeat (walk_at "s1"; try dsimp only)))
theorem blank_tl : (" " : Str).cps.toList = 32 :: [] := by decide +kernel
theorem read_back {n : Nat} {d : PyData} (h : Built n d) (hn : n ≤ 8) (hp : (partsD d).length ≤ 8) : readT (textD d) = some d := by
  have hw := h.words_len
  have e : Txt.split (textD d) " " = wordsD d := TL.split_join (s := 32) (S := []) blank_tl (by decide +kernel) (fun e => by rw [e] at hw; simp at hw) fun w hw => ws_noblank w (h.words_mem w hw)
  unfold readT
  rw [e]
  have r := readD_words h 8 (wordsD d) [] [] hn (by simp)
  rw [show ([] : List Str).length = 0 from rfl] at r
  rw [r]
  have hc : condD d = true := by
    unfold condD
    rw [(h.up hn).dec, decide_eq_true hp]
    rfl
  exact if_pos ⟨Nat.zero_add _, hc⟩
theorem text_le {d : PyData} (h1 : ((wordsD d).map (·.length)).sum ≤ 16000) (h2 : (wordsD d).length ≤ 1024) : (textD d).length ≤ 16000000 := by
  unfold textD
  rw [TL.join_eq]
  have h := StrLaws.join_length_le " " (wordsD d)
  have e : (Str.ofString " ").length = 1 := by decide +kernel
  rw [e] at h
  omega
theorem plain_all : ∀ {ds : List PyData}, (∀ d ∈ ds, plainD d = true) → plainAll ds = true
  | [], _ => rfl
  | d :: ds, h => by
    simp only [plainAll, Bool.and_eq_true]
    exact ⟨h d List.mem_cons_self, plain_all fun e he => h e (List.mem_cons_of_mem _ he)⟩
theorem cond_of {n : Nat} {d : PyData} (h : Built n d) (hn : n ≤ 8) (hp : (partsD d).length ≤ 8) : condD d = true := by
  unfold condD
  rw [(h.up hn).dec, decide_eq_true hp]
  rfl
def sp_law (K : PySem.W.Frag) : Sp := fun vs H Q _ => ∃ (a : Addr) (ns : List Int), vs = [.ref a] ∧ SqL K H a (ns.map V.int) ∧ ns.length ≤ 63 ∧ ∀ H', Q (.bl true) H'
section
variable {P : Program} {w : World} {K : PySem.W.Frag} {mg : Str → Option Value} {base : Heap}
theorem ok_law (T : Txt w K mg) (G_is_condition : FnOk P w K mg base CX0 11 T.a_is_condition T.d_is_condition ["thing"] sp_is_condition)
    (G_condition_text : FnOk P w K mg base (L2.CX P w) 13 T.a_condition_text T.d_condition_text ["condition"] (sp_condition_text T.c_NoCondition))
    (G_read_condition : FnOk P w K mg base (L2.CX P w) 13 T.a_read_condition T.d_read_condition ["text"] (sp_read_condition T.c_NoCondition))
    (G_parts_of : FnOk P w K mg base (L2.CX P w) 13 T.a_parts_of T.d_parts_of ["condition"] (sp_parts_of T.c_NoCondition))
    (G_l_cell_at : FnOk P w K mg base CX0 1 T.a_l_cell_at T.d_l_cell_at ["_law_script", "_law_k"] (sp_l_cell_at K)) (G_l_digit : FnOk P w K mg base CX0 1 T.a_l_digit T.d_l_digit ["_law_state", "_law_base"] sp_l_digit)
    (G_l_grown : FnOk P w K mg base CX0 10 T.a_l_grown T.d_l_grown ["_law_state", "_law_many", "_law_deep"] (sp_grown 8)) (G_l_words : FnOk P w K mg base CX0 9 T.a_l_words T.d_l_words ["_law_condition"] (sp_words 8))
    (G_l_parts : FnOk P w K mg base CX0 9 T.a_l_parts T.d_l_parts ["_law_condition"] (sp_parts 8)) :
    FnG P w K mg base 14 T.a_law T.d_law ["_law_script"] (sp_law K) := by
  refine My.Fun.okG T.F_law sc_law (fun vs H Q E h => by obtain ⟨_, _, rfl, _⟩ := h; rfl) (fun cdv A outer s H vs Q E hg hr h => ?_)
  obtain ⟨a, ns, rfl, hS, h63, q⟩ := h
  have hgd : (A.deeper (envOfC "law" (defScope s_law) s.heap.objs.size T.a_law cdv)).guards = some [] := hg
  have hu : (A.deeper (envOfC "law" (defScope s_law) s.heap.objs.size T.a_law cdv)).units + 66 < cLine := by have := hr.un; omega
  refine ⟨_, (pss_cons (ps_for PassesOwn.never rfl (pi_list (pe_op op_catL (pe_lst (pa_cons (pe_call G_l_cell_at (hr.mono (by omega)) rfl T.m_l_cell_at T.F_l_cell_at.kp (bn_l_cell_at T) .nil pass0 (pa_cons (pv 0) (pa_cons pe_int pa_nil))) (pa_cons pe_int pa_nil))) (pe_slice sl_list (pv 0) (po_some pe_int) (po_some pe_int)))) (pg_name (i := 1) sc_law.nd rfl (Or.inl rfl))
    (pss_cons (ps_set (i := 2) sc_law.nd rfl (Or.inl rfl) (pe_lst (pa_cons (pv 1) pa_nil)))
    (pss_cons (ps_set (i := 3) sc_law.nd rfl (Or.inl rfl) (pe_call G_l_grown (hr.mono (by omega)) rfl T.m_l_grown T.F_l_grown.kp (bn_l_grown T) .nil pass0 (pa_cons (pv 2) (pa_cons (pe_op op_add pe_int (pe_call G_l_digit (hr.mono (by omega)) rfl T.m_l_digit T.F_l_digit.kp (bn_l_digit T) .nil pass0 (pa_cons (pv 2) (pa_cons pe_int pa_nil)))) (pa_cons (pe_op op_add pe_int (pe_call G_l_digit (hr.mono (by omega)) rfl T.m_l_digit T.F_l_digit.kp (bn_l_digit T) .nil pass0 (pa_cons (pv 2) (pa_cons pe_int pa_nil)))) pa_nil)))))
    (pss_cons (ps_set (i := 4) sc_law.nd rfl (Or.inl rfl) (pe_join pe_str (pe_call G_l_words (hr.mono (by omega)) rfl T.m_l_words T.F_l_words.kp (bn_l_words T) .nil pass0 (pa_cons (pv 3) pa_nil))))
    (pss_cons (ps_if (PW.pt (pw_or (pt_cmpR op_isnot_bl (pe_call G_is_condition (hr.mono (by omega)) rfl T.m_is_condition T.F_is_condition.kp (bn_is_condition T) .nil pass0 (pa_cons (pv 3) pa_nil)) pe_bl (nomark _)) (pw_or1 (pt_cmpR op_ne (pe_call G_condition_text (hr.mono (by omega)) rfl T.m_condition_text T.F_condition_text.kp (bn_condition_text T) .nil passL (pa_cons (pv 3) pa_nil)) (pv 4) (nomark _))))) (pss_one (ps_ret pe_bl)) pss_nil)
    (pss_cons (ps_set (i := 5) sc_law.nd rfl (Or.inl rfl) (pe_call G_read_condition (hr.mono (by omega)) rfl T.m_read_condition T.F_read_condition.kp (bn_read_condition T) .nil passL (pa_cons (pv 4) pa_nil)))
    (pss_cons (ps_if (pt_cmpR op_ne (pe_callB (call_reprD hgd hu) rfl T.n_repr (by decide +kernel) (pa_cons (pv 5) pa_nil)) (pe_callB (call_reprD hgd hu) rfl T.n_repr (by decide +kernel) (pa_cons (pv 3) pa_nil)) (nomark _)) (pss_one (ps_ret pe_bl)) pss_nil)
    (pss_cons (ps_for PassesOwn.never rfl (pi_range1 rfl T.n_range (pa_cons pe_int pa_nil)) (pg_name (i := 6) sc_law.nd rfl (Or.inl rfl))
    (pss_cons (ps_set (i := 7) sc_law.nd rfl (Or.inl rfl) (pe_call G_parts_of (hr.mono (by omega)) rfl T.m_parts_of T.F_parts_of.kp (bn_parts_of T) .nil passL (pa_cons (pv 3) pa_nil)))
    (pss_cons (ps_if (PW.pt (pw_or (pt_not (pt_val (pe_callB call_isi rfl T.n_isinstance (by decide +kernel) (pa_cons (pv 7) (pa_cons (pe_bltn (by rfl) T.n_list (v := .ty "list") (by decide +kernel) rfl) pa_nil))))) (pw_or1 (pt_cmpR op_ne (pe_callB (call_reprD hgd hu) rfl T.n_repr (by decide +kernel) (pa_cons (pv 7) pa_nil)) (pe_callB (call_reprD hgd hu) rfl T.n_repr (by decide +kernel) (pa_cons (pe_call G_l_parts (hr.mono (by omega)) rfl T.m_l_parts T.F_l_parts.kp (bn_l_parts T) .nil pass0 (pa_cons (pv 3) pa_nil)) pa_nil)) (nomark _))))) (pss_one (ps_ret pe_bl)) pss_nil)
    (pss_one (ps_expr (pe_bm PySem.F.plainAttrs_list PySem.F.slot_list_append PySem.F.type_list_append mt_append (pv 7) (pa_cons pe_non pa_nil)))))))
    (pss_one (ps_if (PW.pt (pw_or (pt_cmpR op_ne (pe_call G_condition_text (hr.mono (by omega)) rfl T.m_condition_text T.F_condition_text.kp (bn_condition_text T) .nil passL (pa_cons (pv 5) pa_nil)) (pv 4) (nomark _)) (pw_or (pt_cmpR op_isnot_bl (pe_call G_is_condition (hr.mono (by omega)) rfl T.m_is_condition T.F_is_condition.kp (bn_is_condition T) .nil pass0 (pa_cons (pv 5) pa_nil)) pe_bl (nomark _)) (pw_or1 (pt_cmpR (op_neD hr.units) (pe_call G_parts_of (hr.mono (by omega)) rfl T.m_parts_of T.F_parts_of.kp (bn_parts_of T) .nil passL (pa_cons (pv 5) pa_nil)) (pe_call G_parts_of (hr.mono (by omega)) rfl T.m_parts_of T.F_parts_of.kp (bn_parts_of T) .nil passL (pa_cons (pv 3) pa_nil)) (nomark _)))))) (pss_one (ps_ret pe_bl)) pss_nil))))))))))
    (pss_one (ps_ret pe_bl))), ?_⟩
  refine x_seq ?_
  refine x_forL (K := K) (fun p xs H1 => Same H H1 ∧ ∀ x ∈ xs, ∃ i, x = .int i) (fun Q k => ?_) ?_
  · walk_at "e"
    refine ⟨a, ns, rfl, hS, fun i => ?_⟩
    walk_at "e"
    refine ⟨by show 2 ≤ sizeLine; decide, fun p0 hp0 => ?_⟩
    have s0 := same_new hp0 (.lst [.int i, .int 1])
    walk_at "e"
    refine ⟨_, rfl, ?_⟩
    refine ⟨10, rfl, a, _, rfl, s0.seq hS, fun p1 hp1 => ?_⟩
    have s1 := same_new hp1 (.lst (cutV (ns.map V.int) (some 1) (some 10)))
    refine ⟨p0, p1, _, _, rfl, rfl, SqL.of (s1 _ _ upd_same), SqL.of upd_same, ?_, fun p2 hp2 => k p2 _ _ (SqL.of upd_same) ⟨s0.trans (s1.trans (same_new hp2 _)), fun x hx => ?_⟩⟩
    · have := cutV_length (ns.map V.int) (some 1) (some 10)
      rw [List.length_map] at this
      show 2 + _ ≤ _
      have : sizeLine = 16777216 := sizeLine_eq
      omega
    · rcases List.mem_append.mp hx with h | h
      · simp only [List.mem_cons, List.not_mem_nil, or_false] at h
        rcases h with rfl | rfl <;> exact ⟨_, rfl⟩
      · have hx2 : x ∈ ns.map V.int := List.mem_of_mem_drop (List.mem_of_mem_take h)
        obtain ⟨i, _, e⟩ := List.mem_map.mp hx2
        exact ⟨i, e.symm⟩
  rintro p xs H1 hs1 ⟨s1, hxs⟩
  refine ⟨fun j σ' H2 => ∃ b1 b2 b3 b4 b5 b6 b7, σ' = [some (.ref a), b1, b2, b3, b4, b5, b6, b7] ∧ Same H1 H2, ⟨none, none, none, none, none, none, none, rfl, Same.refl _⟩, fun j σ' H2 _ ⟨_, _, _, _, _, _, _, _, s2⟩ => s2.seq hs1, ?_, ?_⟩
  · rintro j x σ' H2 hx ⟨b1, b2, b3, b4, b5, b6, b7, rfl, s2⟩
    obtain ⟨c, rfl⟩ := hxs x (List.mem_of_getElem? hx)
    refine x_seq (e_asg ?_)
    walk_at "e"
    refine ⟨by show 1 ≤ sizeLine; decide, fun ps hps => ?_⟩
    have s3 := same_new hps (.lst [.int c])
    have hps1 : (upd H2 ps (.lst [.int c])) ps = some (.lst [.int c]) := upd_same
    generalize upd H2 ps (.lst [.int c]) = H3 at s3 hps1
    refine x_seq (e_asg ?_)
    walk_at "e"
    refine ⟨ps, 8, rfl, ⟨c, .inl hps1⟩, by omega, by omega, fun r1 H4 r10 r11 hW4 hO4 => ?_⟩
    walk_at "e"
    refine ⟨ps, 8, rfl, hW4.st, by omega, by omega, fun r2 H5 r20 r21 hW5 hO5 => ?_⟩
    walk_at "e"
    refine ⟨ps, (1 + r1).toNat, (1 + r2).toNat, ?_, hW5.st, by omega, by omega, by omega, by omega, fun v H6 d hT hB hP hW6 hO6 => ?_⟩
    · rw [show (((1 + r1).toNat : Nat) : Int) = 1 + r1 by omega, show (((1 + r2).toNat : Nat) : Int) = 1 + r2 by omega]
      rfl
    have s6 : Same H2 H6 := (((Off.same s3).trans hO4).trans (hO5.trans hO6)).same_of hps
    have hd8 : (1 + r2).toNat ≤ 8 := by omega
    have hB8 := hB.up hd8
    have hp8 : (partsD d).length ≤ 8 := by omega
    have hcond := cond_of hB hd8 hp8
    have hrb : readX (.str (textD d)) = some d := read_back hB hd8 hp8
    have hwl : ((wordsD d).map (·.length)).sum ≤ 16000 := by
      have h1 := hB8.sum_words
      have h2 := hB8.words_len.2
      omega
    have hwl2 : (wordsD d).length ≤ 1024 := by
      have h2 := hB8.words_len.2
      omega
    have hsh := hB8.shows
    have hlist := shows_list (ds := partsD d) (k := 1) (m := 24) fun e he => (hB.part_mem e he).shows.up (Nat.le_refl _) (by omega)
    walk_at "s"
    refine ⟨⟨_, rfl⟩, ?_⟩
    walk_at "e"
    refine ⟨v, d, rfl, hT, hB8, fun H7 p7 s7 hp7 hp7' => ?_⟩
    refine ⟨" ", p7, wordsD d, rfl, rfl, .inl (SqL.of hp7'), ?_, ?_⟩
    · have e : (" " : Str).length = 1 := by decide +kernel
      rw [e]
      omega
    rw [show Txt.join " " (wordsD d) = textD d from rfl]
    have hT7 := hT.same s7
    refine x_seq (x_if (fun b H' => Same H7 H' ∧ b = false) (fun Q k => ?_) ?_ ?_)
    · walk_at "e"
      refine ⟨v, d, rfl, hT7, fun H8 s8 => ?_⟩
      rw [hcond]
      walk_at "e"
      refine ⟨_, _, rfl, rfl, ?_⟩
      walk_at "e"
      refine ⟨v, d, rfl, hT7.same s8, by omega, fun _ H9 s9 => ?_, fun e => by rw [hcond] at e; cases e⟩
      walk_at "e"
      refine e_ne rfl ?_
      rw [decide_eq_true rfl]
      walk_at "e"
      exact k _ _ ⟨s8.trans s9, rfl⟩
    · rintro H' ⟨_, e⟩
      cases e
    rintro H8 ⟨s8, _⟩
    have s28 := s6.trans (s7.trans s8)
    have hT8 := hT7.same s8
    refine x_next ?_
    dsimp only
    refine x_seq (e_asg ?_)
    walk_at "e"
    refine ⟨.str (textD d), .str (textD d), rfl, .str _, fun t e => ?_, ?_⟩
    · cases e
      have e : Txt.split (textD d) " " = wordsD d := TL.split_join (s := 32) (S := []) blank_tl (by decide +kernel) (fun e => by have := hB.words_len; rw [e] at this; simp at this) fun w hw => ws_noblank w (hB.words_mem w hw)
      rw [e]
      exact ⟨text_le hwl hwl2, by have : sizeLine = 16777216 := sizeLine_eq; omega⟩
    rw [hrb]
    intro H9 v' s9 hT9
    have hTc := hT8.same s9
    have hrep : ∀ H' u, Tr H' u d → ∀ Q : VK, Q (.str d.shown) H' → rReprD K [u] H' Q := fun H' u hu Q k => by
      obtain ⟨w0, ds, rfl, _⟩ := hB8.shape
      obtain ⟨pu, _, rfl, _⟩ := tr_cond hu
      exact ⟨pu, _, rfl, hu.dp hB8.plain, hsh.sh, hsh.nd, by have := hsh.dp; omega, hsh.fits (by decide), k⟩
    refine x_seq (x_if (fun b H' => H' = H9 ∧ b = false) (fun Q k => ?_) ?_ ?_)
    · walk_at "e"
      refine hrep _ _ hT9 _ ?_
      walk_at "e"
      refine hrep _ _ hTc _ ?_
      refine e_ne rfl ?_
      rw [decide_eq_true rfl]
      walk_at "e"
      exact k _ _ ⟨rfl, rfl⟩
    · rintro H' ⟨_, e⟩
      cases e
    rintro H10 ⟨rfl, _⟩
    refine x_next ?_
    dsimp only
    have s29 := s28.trans s9
    have hpl : plainAll (partsD d) = true := plain_all fun e he => (hB.part_mem e he).plain
    have hrepL : ∀ H' u ys, H' u = some (.lst ys) → TrAll H' ys (partsD d) → ∀ Q : VK, Q (.str (PyData.list (partsD d)).shown) H' → rReprD K [.ref u] H' Q := fun H' u ys hu ht Q k =>
      ⟨u, _, rfl, .lst (SqL.of hu) (TrAll.dp ht hpl), hlist.sh, hlist.nd, by have := hlist.dp; omega, hlist.fits (by omega), k⟩
    refine x_seq ?_
    refine ⟨2, rfl, by omega, by omega, ?_⟩
    rw [show (2 : Int).toNat = 2 from rfl]
    refine for_range (fun i σ'' H'' => ∃ b6 b7, σ'' = [some (.ref a), some (.int c), some (.ref ps), some v, some (.str (textD d)), some v', b6, b7] ∧ Same H10 H'') ⟨_, _, rfl, Same.refl _⟩ ?_ ?_
    · rintro i σ'' H11 hi ⟨b6, b7, rfl, s11⟩
      refine x_seq (e_asg ?_)
      walk_at "e"
      refine ⟨v, d, rfl, hTc.same s11, fun _ H12 p12 ys12 s12 hp12 hp12' ht12 => ?_, fun e => by rw [hcond] at e; cases e⟩
      refine x_seq (x_if (fun b H' => Same H12 H' ∧ b = false) (fun Q k => ?_) ?_ ?_)
      · walk_at "e"
        refine e_isi (n := "list") (.ref (.base (.lst hp12')) (.inl rfl)) (by decide) ?_
        walk_at "e"
        refine hrepL _ _ _ hp12' ht12 _ ?_
        walk_at "e"
        refine ⟨v, d, rfl, hTc.same (s11.trans s12), hB8, fun H13 p13 ys13 s13 hp13 hp13' ht13 => ?_⟩
        walk_at "e"
        refine hrepL _ _ _ hp13' ht13 _ ?_
        refine e_ne rfl ?_
        rw [decide_eq_true rfl]
        walk_at "e"
        exact k _ _ ⟨s13, rfl⟩
      · rintro H' ⟨_, e⟩
        cases e
      · rintro H13 ⟨s13, _⟩
        refine x_next ?_
        walk_at "s"
        refine ⟨.inl ⟨rfl, _, SqL.of (s13 _ _ hp12')⟩, ?_⟩
        walk_at "e"
        refine ⟨p12, ys12, .non, rfl, rfl, s13 _ _ hp12', ?_, ?_⟩
        · have := ht12.length
          have : sizeLine = 16777216 := sizeLine_eq
          omega
        · exact ⟨_, _, rfl, same_upd ((s11.trans s12).trans s13) (s11.free hp12) _⟩
    · rintro σ'' H11 ⟨b6, b7, rfl, s11⟩
      have hT9' := hT9.same s11
      have hTc' := hTc.same s11
      dsimp only
      refine x_if (fun b H' => Same H11 H' ∧ b = false) (fun Q k => ?_) ?_ ?_
      · walk_at "e"
        refine ⟨v', d, rfl, hT9', by omega, fun _ H12 s12 => ?_, fun e => by rw [hcond] at e; cases e⟩
        walk_at "e"
        refine e_ne rfl ?_
        rw [decide_eq_true rfl]
        walk_at "e"
        refine ⟨v', d, rfl, hT9'.same s12, fun H13 s13 => ?_⟩
        rw [hcond]
        walk_at "e"
        refine ⟨_, _, rfl, rfl, ?_⟩
        walk_at "e"
        refine ⟨v', d, rfl, hT9'.same (s12.trans s13), fun _ H14 p14 ys14 s14 hp14 hp14' ht14 => ?_, fun e => by rw [hcond] at e; cases e⟩
        walk_at "e"
        refine ⟨v, d, rfl, hTc'.same ((s12.trans s13).trans s14), fun _ H15 p15 ys15 s15 hp15 hp15' ht15 => ?_, fun e => by rw [hcond] at e; cases e⟩
        refine ⟨.list (partsD d), .list (partsD d), .lst (SqL.of (s15 _ _ hp14')) (TrAll.dp (ht14.same s15) hpl), .lst (SqL.of hp15') (TrAll.dp ht15 hpl), hlist.shaped (by omega), hlist.shaped (by omega), ?_⟩
        rw [hlist.same]
        walk_at "e"
        exact k _ _ ⟨((s12.trans s13).trans s14).trans s15, rfl⟩
      · rintro H' ⟨_, e⟩
        cases e
      · rintro H12 ⟨s12, _⟩
        refine x_next ?_
        exact ⟨_, _, _, _, _, _, _, rfl, s2.trans ((s29.trans s11).trans s12)⟩
  · rintro σ' H2 ⟨b1, b2, b3, b4, b5, b6, b7, rfl, s2⟩
    walk_at "s"
    exact q _
end
end My

set_option Elab.async false
set_option linter.all false
set_option maxRecDepth 100000
set_option maxHeartbeats 8000000
namespace My
open PySem PySem.Spec PyProof.Rows L2
section
variable {P : Program} {w : World} {K : PySem.W.Frag} {mg : Str → Option Value} {base : Heap}
theorem ok_all (T : Txt w K mg) : FnG P w K mg base 14 T.a_law T.d_law ["_law_script"] (sp_law K) := by
  have g1 := ok_is_value_word (P := P) (w := w) (base := base) T
  have g2 := ok_is_built T g1 9
  have g3 := ok_parts (P := P) (w := w) (base := base) T 8 (by decide)
  have g4 := ok_words (P := P) (w := w) (base := base) T 8 (by decide)
  have g5 := ok_is_condition T g2 g3
  have g6 := ok_need_condition T g5
  have g7 := ok_condition_text T g6 g4
  have g8 := ok_parts_of T g6 g3
  have g9 := ok_read_from (P := P) (w := w) (base := base) T 9
  have g10 := ok_read_condition T g9 g6
  have g11 := ok_l_cell_at (P := P) (w := w) (base := base) T
  have g12 := ok_l_digit (P := P) (w := w) (base := base) T
  have g13 := ok_l_pick T g12
  have g14 := ok_l_grown T g12 g13 8
  have g15 := ok_l_words (P := P) (w := w) (base := base) T 8 (by decide)
  have g16 := ok_l_parts (P := P) (w := w) (base := base) T 8 (by decide)
  exact ok_law T g5 g7 g10 g8 g11 g12 g14 g15 g16
end
theorem ns_sides {K : PySem.W.Frag} {C : Addr} {h1 h2 h3 : Int} {k1 k2 k3 v1 v2 v3 : Tok} {n : Nat}
    (h : K.lookup C = some ⟨.type "dict", none, .dict #[⟨h1, .str "not" k1, .int 1 v1⟩, ⟨h2, .str "and" k2, .int 2 v2⟩, ⟨h3, .str "or" k3, .int 2 v3⟩] n, #[]⟩) (z : Str) :
    ∃ r, PySem.W.nsIn K C z = some r ∧ r.isSome = (sidesN z).isSome ∧ ∀ k, sidesN z = some k → ∃ t, r = some (.int (k : Nat) t) := by
  have e : PySem.W.nsIn K C z = some (if ("not" : Str) == z then some (.int 1 v1) else if ("and" : Str) == z then some (.int 2 v2) else if ("or" : Str) == z then some (.int 2 v3) else none) := by
    unfold PySem.W.nsIn
    rw [h]
    show (match [(⟨h1, .str "not" k1, .int 1 v1⟩ : DictEntry), ⟨h2, .str "and" k2, .int 2 v2⟩, ⟨h3, .str "or" k3, .int 2 v3⟩].find? (·.key.isStr z) with
      | some e => some (some e.val)
      | none => if [(⟨h1, .str "not" k1, .int 1 v1⟩ : DictEntry), ⟨h2, .str "and" k2, .int 2 v2⟩, ⟨h3, .str "or" k3, .int 2 v3⟩].any (·.refKey) then none else some none) = _
    rw [List.find?_cons, List.find?_cons, List.find?_cons, List.find?_nil]
    simp only [Value.isStr]
    cases ("not" : Str) == z <;> cases ("and" : Str) == z <;> cases ("or" : Str) == z <;> rfl
  have t1 : (("not" : Str) == "not") = true := by decide +kernel
  have t2 : (("and" : Str) == "and") = true := by decide +kernel
  have t3 : (("or" : Str) == "or") = true := by decide +kernel
  have n1 : (("not" : Str) == "and") = false := by decide +kernel
  have n2 : (("not" : Str) == "or") = false := by decide +kernel
  have n3 : (("and" : Str) == "or") = false := by decide +kernel
  by_cases c1 : z = "not"
  · subst c1
    rw [t1] at e
    exact ⟨_, e, by rw [sides_not]; rfl, fun k hk => by rw [sides_not] at hk; cases hk; exact ⟨v1, rfl⟩⟩
  by_cases c2 : z = "and"
  · subst c2
    rw [n1, t2] at e
    exact ⟨_, e, by rw [sides_two (.inl rfl)]; rfl, fun k hk => by rw [sides_two (.inl rfl)] at hk; cases hk; exact ⟨v2, rfl⟩⟩
  by_cases c3 : z = "or"
  · subst c3
    rw [n2, n3, t3] at e
    exact ⟨_, e, by rw [sides_two (.inr rfl)]; rfl, fun k hk => by rw [sides_two (.inr rfl)] at hk; cases hk; exact ⟨v3, rfl⟩⟩
  have d1 : (("not" : Str) == z) = false := by simpa using fun e => c1 e.symm
  have d2 : (("and" : Str) == z) = false := by simpa using fun e => c2 e.symm
  have d3 : (("or" : Str) == z) = false := by simpa using fun e => c3 e.symm
  have ez : sidesN z = none := by
    unfold sidesN
    rw [if_neg c1, if_neg (by rintro (h | h); exact c2 h; exact c3 h)]
  rw [d1, d2, d3] at e
  exact ⟨_, e, by rw [ez]; rfl, fun k hk => by rw [ez] at hk; cases hk⟩
theorem exm_self {K : PySem.W.Frag} {S : Addr} (h1 : PySem.W.subIn K (.ref S) (.type "BaseException") = some true) (h2 : PySem.W.isClsIn K S = true) (h3 : PySem.W.typeIn K (.ref S) = some (.type "type")) (h4 : PySem.W.subIn K (.ref S) (.ref S) = some true) :
    PySem.W.exmOne K (.ref S) (.ref S) = some true := by
  have e1 : (PySem.W.subIn K (.ref S) (.type "BaseException") == some true) = true := by rw [h1] <;> rfl
  have e2 : ((PySem.W.clsIn K S).isSome && PySem.W.typeIn K (.ref S) == some (.type "type")) = true := by
    have h2' : (PySem.W.clsIn K S).isSome = true := h2
    rw [h2', h3] <;> rfl
  show (if (PySem.W.subIn K (.ref S) (.type "BaseException") == some true) = true then (if ((PySem.W.clsIn K S).isSome && PySem.W.typeIn K (.ref S) == some (.type "type")) = true then PySem.W.subIn K (.ref S) (.ref S) else none) else none) = some true
  rw [if_pos e1, if_pos e2]
  exact h4
theorem all_mk {P : Program} {w : World} {K : PySem.W.Frag} {h : Heap} {mg : Str → Option Value} {fa : Addr} (X : K.In h) (G : h.Ns mainGlobals mg) (hfa : mg "law" = some (.ref fa))
    {f_is_value_word f_is_condition f_condition_text f_read_condition f_parts_of f_need_condition f_is_built f_parts f_words f_read_from f_l_cell_at f_l_digit f_l_pick f_l_grown f_l_words f_l_parts f_law C_RanError C_NoCondition  : Addr} {od_is_value_word an_is_value_word od_is_condition an_is_condition od_condition_text an_condition_text od_read_condition an_read_condition od_parts_of an_parts_of od_need_condition an_need_condition od_is_built an_is_built od_parts an_parts od_words an_words od_read_from an_read_from od_l_cell_at an_l_cell_at od_l_digit an_l_digit od_l_pick an_l_pick od_l_grown an_l_grown od_l_words an_l_words od_l_parts an_l_parts od_law an_law  : Option Addr} {sl_is_value_word sl_is_condition sl_condition_text sl_read_condition sl_parts_of sl_need_condition sl_is_built sl_parts sl_words sl_read_from sl_l_cell_at sl_l_digit sl_l_pick sl_l_grown sl_l_words sl_l_parts sl_law  : Array (Option Value)} {oc_is_value_word kV_is_value_word dc_is_value_word pm_is_value_word cd_is_value_word ct_is_value_word oc_is_condition kV_is_condition dc_is_condition pm_is_condition cd_is_condition ct_is_condition oc_condition_text kV_condition_text dc_condition_text pm_condition_text cd_condition_text ct_condition_text oc_read_condition kV_read_condition dc_read_condition pm_read_condition cd_read_condition ct_read_condition oc_parts_of kV_parts_of dc_parts_of pm_parts_of cd_parts_of ct_parts_of oc_need_condition kV_need_condition dc_need_condition pm_need_condition cd_need_condition ct_need_condition oc_is_built kV_is_built dc_is_built pm_is_built cd_is_built ct_is_built oc_parts kV_parts dc_parts pm_parts cd_parts ct_parts oc_words kV_words dc_words pm_words cd_words ct_words oc_read_from kV_read_from dc_read_from pm_read_from cd_read_from ct_read_from oc_l_cell_at kV_l_cell_at dc_l_cell_at pm_l_cell_at cd_l_cell_at ct_l_cell_at oc_l_digit kV_l_digit dc_l_digit pm_l_digit cd_l_digit ct_l_digit oc_l_pick kV_l_pick dc_l_pick pm_l_pick cd_l_pick ct_l_pick oc_l_grown kV_l_grown dc_l_grown pm_l_grown cd_l_grown ct_l_grown oc_l_words kV_l_words dc_l_words pm_l_words cd_l_words ct_l_words oc_l_parts kV_l_parts dc_l_parts pm_l_parts cd_l_parts ct_l_parts oc_law kV_law dc_law pm_law cd_law ct_law  : Value} {C_PLACES : Addr} {n_PLACES : Nat} {od_PLACES : Option Addr} {sl_PLACES : Array (Option Value)} {k_PLACES0 k_PLACES1 k_PLACES2 : Tok} {C_NUMBERS : Addr} {n_NUMBERS : Nat} {od_NUMBERS : Option Addr} {sl_NUMBERS : Array (Option Value)} {k_NUMBERS0 k_NUMBERS1 k_NUMBERS2 k_NUMBERS3 : Tok} {C_COMPARING : Addr} {n_COMPARING : Nat} {od_COMPARING : Option Addr} {sl_COMPARING : Array (Option Value)} {k_COMPARING0 k_COMPARING1 : Tok} {k_MOST_PARTS : Tok} {k_MOST_LEVELS : Tok} {C_SIDES : Addr} {n_SIDES : Nat} {h1 h2 h3 : Int} {k1 k2 k3 v1 v2 v3 : Tok} 
    (a_is_value_word : PySem.W.nsIn K mainGlobals "is_value_word" = some (some (.ref f_is_value_word)))
    (l_is_value_word : K.lookup f_is_value_word = some ⟨oc_is_value_word, od_is_value_word, .func (PySem.W.fnOf "is_value_word" "is_value_word" (defArgs s_is_value_word) (defBody s_is_value_word) (defScope s_is_value_word) .none kV_is_value_word dc_is_value_word pm_is_value_word an_is_value_word cd_is_value_word ct_is_value_word), sl_is_value_word⟩)
    (c_is_value_word : PySem.W.codeIn K cd_is_value_word "is_value_word" = true)
    (k_is_value_word : PySem.W.keepIn K (.ref f_is_value_word) = true)
    (a_is_condition : PySem.W.nsIn K mainGlobals "is_condition" = some (some (.ref f_is_condition)))
    (l_is_condition : K.lookup f_is_condition = some ⟨oc_is_condition, od_is_condition, .func (PySem.W.fnOf "is_condition" "is_condition" (defArgs s_is_condition) (defBody s_is_condition) (defScope s_is_condition) .none kV_is_condition dc_is_condition pm_is_condition an_is_condition cd_is_condition ct_is_condition), sl_is_condition⟩)
    (c_is_condition : PySem.W.codeIn K cd_is_condition "is_condition" = true)
    (k_is_condition : PySem.W.keepIn K (.ref f_is_condition) = true)
    (a_condition_text : PySem.W.nsIn K mainGlobals "condition_text" = some (some (.ref f_condition_text)))
    (l_condition_text : K.lookup f_condition_text = some ⟨oc_condition_text, od_condition_text, .func (PySem.W.fnOf "condition_text" "condition_text" (defArgs s_condition_text) (defBody s_condition_text) (defScope s_condition_text) .none kV_condition_text dc_condition_text pm_condition_text an_condition_text cd_condition_text ct_condition_text), sl_condition_text⟩)
    (c_condition_text : PySem.W.codeIn K cd_condition_text "condition_text" = true)
    (k_condition_text : PySem.W.keepIn K (.ref f_condition_text) = true)
    (a_read_condition : PySem.W.nsIn K mainGlobals "read_condition" = some (some (.ref f_read_condition)))
    (l_read_condition : K.lookup f_read_condition = some ⟨oc_read_condition, od_read_condition, .func (PySem.W.fnOf "read_condition" "read_condition" (defArgs s_read_condition) (defBody s_read_condition) (defScope s_read_condition) .none kV_read_condition dc_read_condition pm_read_condition an_read_condition cd_read_condition ct_read_condition), sl_read_condition⟩)
    (c_read_condition : PySem.W.codeIn K cd_read_condition "read_condition" = true)
    (k_read_condition : PySem.W.keepIn K (.ref f_read_condition) = true)
    (a_parts_of : PySem.W.nsIn K mainGlobals "parts_of" = some (some (.ref f_parts_of)))
    (l_parts_of : K.lookup f_parts_of = some ⟨oc_parts_of, od_parts_of, .func (PySem.W.fnOf "parts_of" "parts_of" (defArgs s_parts_of) (defBody s_parts_of) (defScope s_parts_of) .none kV_parts_of dc_parts_of pm_parts_of an_parts_of cd_parts_of ct_parts_of), sl_parts_of⟩)
    (c_parts_of : PySem.W.codeIn K cd_parts_of "parts_of" = true)
    (k_parts_of : PySem.W.keepIn K (.ref f_parts_of) = true)
    (a_need_condition : PySem.W.nsIn K mainGlobals "_need_condition" = some (some (.ref f_need_condition)))
    (l_need_condition : K.lookup f_need_condition = some ⟨oc_need_condition, od_need_condition, .func (PySem.W.fnOf "_need_condition" "_need_condition" (defArgs s_need_condition) (defBody s_need_condition) (defScope s_need_condition) .none kV_need_condition dc_need_condition pm_need_condition an_need_condition cd_need_condition ct_need_condition), sl_need_condition⟩)
    (c_need_condition : PySem.W.codeIn K cd_need_condition "_need_condition" = true)
    (k_need_condition : PySem.W.keepIn K (.ref f_need_condition) = true)
    (a_is_built : PySem.W.nsIn K mainGlobals "_is_built" = some (some (.ref f_is_built)))
    (l_is_built : K.lookup f_is_built = some ⟨oc_is_built, od_is_built, .func (PySem.W.fnOf "_is_built" "_is_built" (defArgs s_is_built) (defBody s_is_built) (defScope s_is_built) .none kV_is_built dc_is_built pm_is_built an_is_built cd_is_built ct_is_built), sl_is_built⟩)
    (c_is_built : PySem.W.codeIn K cd_is_built "_is_built" = true)
    (k_is_built : PySem.W.keepIn K (.ref f_is_built) = true)
    (a_parts : PySem.W.nsIn K mainGlobals "_parts" = some (some (.ref f_parts)))
    (l_parts : K.lookup f_parts = some ⟨oc_parts, od_parts, .func (PySem.W.fnOf "_parts" "_parts" (defArgs s_parts) (defBody s_parts) (defScope s_parts) .none kV_parts dc_parts pm_parts an_parts cd_parts ct_parts), sl_parts⟩)
    (c_parts : PySem.W.codeIn K cd_parts "_parts" = true)
    (k_parts : PySem.W.keepIn K (.ref f_parts) = true)
    (a_words : PySem.W.nsIn K mainGlobals "_words" = some (some (.ref f_words)))
    (l_words : K.lookup f_words = some ⟨oc_words, od_words, .func (PySem.W.fnOf "_words" "_words" (defArgs s_words) (defBody s_words) (defScope s_words) .none kV_words dc_words pm_words an_words cd_words ct_words), sl_words⟩)
    (c_words : PySem.W.codeIn K cd_words "_words" = true)
    (k_words : PySem.W.keepIn K (.ref f_words) = true)
    (a_read_from : PySem.W.nsIn K mainGlobals "_read_from" = some (some (.ref f_read_from)))
    (l_read_from : K.lookup f_read_from = some ⟨oc_read_from, od_read_from, .func (PySem.W.fnOf "_read_from" "_read_from" (defArgs s_read_from) (defBody s_read_from) (defScope s_read_from) .none kV_read_from dc_read_from pm_read_from an_read_from cd_read_from ct_read_from), sl_read_from⟩)
    (c_read_from : PySem.W.codeIn K cd_read_from "_read_from" = true)
    (k_read_from : PySem.W.keepIn K (.ref f_read_from) = true)
    (a_l_cell_at : PySem.W.nsIn K mainGlobals "_law_cell_at" = some (some (.ref f_l_cell_at)))
    (l_l_cell_at : K.lookup f_l_cell_at = some ⟨oc_l_cell_at, od_l_cell_at, .func (PySem.W.fnOf "_law_cell_at" "_law_cell_at" (defArgs s_l_cell_at) (defBody s_l_cell_at) (defScope s_l_cell_at) .none kV_l_cell_at dc_l_cell_at pm_l_cell_at an_l_cell_at cd_l_cell_at ct_l_cell_at), sl_l_cell_at⟩)
    (c_l_cell_at : PySem.W.codeIn K cd_l_cell_at "_law_cell_at" = true)
    (k_l_cell_at : PySem.W.keepIn K (.ref f_l_cell_at) = true)
    (a_l_digit : PySem.W.nsIn K mainGlobals "_law_digit" = some (some (.ref f_l_digit)))
    (l_l_digit : K.lookup f_l_digit = some ⟨oc_l_digit, od_l_digit, .func (PySem.W.fnOf "_law_digit" "_law_digit" (defArgs s_l_digit) (defBody s_l_digit) (defScope s_l_digit) .none kV_l_digit dc_l_digit pm_l_digit an_l_digit cd_l_digit ct_l_digit), sl_l_digit⟩)
    (c_l_digit : PySem.W.codeIn K cd_l_digit "_law_digit" = true)
    (k_l_digit : PySem.W.keepIn K (.ref f_l_digit) = true)
    (a_l_pick : PySem.W.nsIn K mainGlobals "_law_pick" = some (some (.ref f_l_pick)))
    (l_l_pick : K.lookup f_l_pick = some ⟨oc_l_pick, od_l_pick, .func (PySem.W.fnOf "_law_pick" "_law_pick" (defArgs s_l_pick) (defBody s_l_pick) (defScope s_l_pick) .none kV_l_pick dc_l_pick pm_l_pick an_l_pick cd_l_pick ct_l_pick), sl_l_pick⟩)
    (c_l_pick : PySem.W.codeIn K cd_l_pick "_law_pick" = true)
    (k_l_pick : PySem.W.keepIn K (.ref f_l_pick) = true)
    (a_l_grown : PySem.W.nsIn K mainGlobals "_law_grown" = some (some (.ref f_l_grown)))
    (l_l_grown : K.lookup f_l_grown = some ⟨oc_l_grown, od_l_grown, .func (PySem.W.fnOf "_law_grown" "_law_grown" (defArgs s_l_grown) (defBody s_l_grown) (defScope s_l_grown) .none kV_l_grown dc_l_grown pm_l_grown an_l_grown cd_l_grown ct_l_grown), sl_l_grown⟩)
    (c_l_grown : PySem.W.codeIn K cd_l_grown "_law_grown" = true)
    (k_l_grown : PySem.W.keepIn K (.ref f_l_grown) = true)
    (a_l_words : PySem.W.nsIn K mainGlobals "_law_words" = some (some (.ref f_l_words)))
    (l_l_words : K.lookup f_l_words = some ⟨oc_l_words, od_l_words, .func (PySem.W.fnOf "_law_words" "_law_words" (defArgs s_l_words) (defBody s_l_words) (defScope s_l_words) .none kV_l_words dc_l_words pm_l_words an_l_words cd_l_words ct_l_words), sl_l_words⟩)
    (c_l_words : PySem.W.codeIn K cd_l_words "_law_words" = true)
    (k_l_words : PySem.W.keepIn K (.ref f_l_words) = true)
    (a_l_parts : PySem.W.nsIn K mainGlobals "_law_parts" = some (some (.ref f_l_parts)))
    (l_l_parts : K.lookup f_l_parts = some ⟨oc_l_parts, od_l_parts, .func (PySem.W.fnOf "_law_parts" "_law_parts" (defArgs s_l_parts) (defBody s_l_parts) (defScope s_l_parts) .none kV_l_parts dc_l_parts pm_l_parts an_l_parts cd_l_parts ct_l_parts), sl_l_parts⟩)
    (c_l_parts : PySem.W.codeIn K cd_l_parts "_law_parts" = true)
    (k_l_parts : PySem.W.keepIn K (.ref f_l_parts) = true)
    (a_law : PySem.W.nsIn K mainGlobals "law" = some (some (.ref f_law)))
    (l_law : K.lookup f_law = some ⟨oc_law, od_law, .func (PySem.W.fnOf "law" "law" (defArgs s_law) (defBody s_law) (defScope s_law) .none kV_law dc_law pm_law an_law cd_law ct_law), sl_law⟩)
    (c_law : PySem.W.codeIn K cd_law "law" = true)
    (k_law : PySem.W.keepIn K (.ref f_law) = true)
    (z_isinstance : PySem.W.nsIn K mainGlobals "isinstance" = some none)
    (z_str : PySem.W.nsIn K mainGlobals "str" = some none)
    (z_tuple : PySem.W.nsIn K mainGlobals "tuple" = some none)
    (z_list : PySem.W.nsIn K mainGlobals "list" = some none)
    (z_len : PySem.W.nsIn K mainGlobals "len" = some none)
    (z_range : PySem.W.nsIn K mainGlobals "range" = some none)
    (z_all : PySem.W.nsIn K mainGlobals "all" = some none)
    (z_repr : PySem.W.nsIn K mainGlobals "repr" = some none)
    (g_RanError : PySem.W.nsIn K mainGlobals "RanError" = some (some (.ref C_RanError)))
    (g_NoCondition : PySem.W.nsIn K mainGlobals "NoCondition" = some (some (.ref C_NoCondition)))
    (x_NoCondition : PySem.W.excIn K C_NoCondition [.type "ValueError", .type "Exception", .type "BaseException", .type "object"] "ValueError.__new__" = true)
    (kc_NoCondition : PySem.W.keepIn K (.ref C_NoCondition) = true)
    (b_NoCondition : PySem.W.subIn K (.ref C_NoCondition) (.type "BaseException") = some true)
    (t_NoCondition : PySem.W.typeIn K (.ref C_NoCondition) = some (.type "type"))
    (ic_NoCondition : PySem.W.isClsIn K C_NoCondition = true)
    (sc_NoCondition : PySem.W.subIn K (.ref C_NoCondition) (.ref C_NoCondition) = some true)
    (p_PLACES : PySem.W.nsIn K mainGlobals "PLACES" = some (some (.ref C_PLACES)))
    (t_PLACES : K.lookup C_PLACES = some ⟨.type "tuple", od_PLACES, .seq #[.str "a" k_PLACES0, .str "b" k_PLACES1, .str "c" k_PLACES2] n_PLACES, sl_PLACES⟩)
    (p_NUMBERS : PySem.W.nsIn K mainGlobals "NUMBERS" = some (some (.ref C_NUMBERS)))
    (t_NUMBERS : K.lookup C_NUMBERS = some ⟨.type "tuple", od_NUMBERS, .seq #[.str "0" k_NUMBERS0, .str "1" k_NUMBERS1, .str "2" k_NUMBERS2, .str "3" k_NUMBERS3] n_NUMBERS, sl_NUMBERS⟩)
    (p_COMPARING : PySem.W.nsIn K mainGlobals "COMPARING" = some (some (.ref C_COMPARING)))
    (t_COMPARING : K.lookup C_COMPARING = some ⟨.type "tuple", od_COMPARING, .seq #[.str "=" k_COMPARING0, .str "<" k_COMPARING1] n_COMPARING, sl_COMPARING⟩)
    (p_MOST_PARTS : PySem.W.nsIn K mainGlobals "MOST_PARTS" = some (some (.int 8 k_MOST_PARTS)))
    (p_MOST_LEVELS : PySem.W.nsIn K mainGlobals "MOST_LEVELS" = some (some (.int 8 k_MOST_LEVELS)))
    (p_SIDES : PySem.W.nsIn K mainGlobals "SIDES" = some (some (.ref C_SIDES)))
    (t_SIDES : K.lookup C_SIDES = some ⟨.type "dict", none, .dict #[⟨h1, .str "not" k1, .int 1 v1⟩, ⟨h2, .str "and" k2, .int 2 v2⟩, ⟨h3, .str "or" k3, .int 2 v3⟩] n_SIDES, #[]⟩)
    (hk1 : h1 = PyData.keyHash w.params "not")
    (hk2 : h2 = PyData.keyHash w.params "and")
    (hk3 : h3 = PyData.keyHash w.params "or")
    (lo_SIDES : (C_SIDES == sysModules) = false) :
    ∃ fd : FuncData, (∀ (s : Shared) (u : Value), BindsTo s fd ⟨[u], []⟩ [("_law_script", u)]) ∧ ∀ base : Heap, K.In base → base.Ns mainGlobals mg → FnG P w K mg base 14 fa fd ["_law_script"] (sp_law K) := by
  have e : f_law = fa := Value.ref.inj (Option.some.inj ((PySem.W.mg_of X G a_law).symm.trans hfa))
  subst e
  let T : Txt w K mg := {
    a_is_value_word := f_is_value_word, d_is_value_word := _, F_is_value_word := fun_mk l_is_value_word c_is_value_word k_is_value_word, m_is_value_word := PySem.W.mg_of X G a_is_value_word,
    a_is_condition := f_is_condition, d_is_condition := _, F_is_condition := fun_mk l_is_condition c_is_condition k_is_condition, m_is_condition := PySem.W.mg_of X G a_is_condition,
    a_condition_text := f_condition_text, d_condition_text := _, F_condition_text := fun_mk l_condition_text c_condition_text k_condition_text, m_condition_text := PySem.W.mg_of X G a_condition_text,
    a_read_condition := f_read_condition, d_read_condition := _, F_read_condition := fun_mk l_read_condition c_read_condition k_read_condition, m_read_condition := PySem.W.mg_of X G a_read_condition,
    a_parts_of := f_parts_of, d_parts_of := _, F_parts_of := fun_mk l_parts_of c_parts_of k_parts_of, m_parts_of := PySem.W.mg_of X G a_parts_of,
    a_need_condition := f_need_condition, d_need_condition := _, F_need_condition := fun_mk l_need_condition c_need_condition k_need_condition, m_need_condition := PySem.W.mg_of X G a_need_condition,
    a_is_built := f_is_built, d_is_built := _, F_is_built := fun_mk l_is_built c_is_built k_is_built, m_is_built := PySem.W.mg_of X G a_is_built,
    a_parts := f_parts, d_parts := _, F_parts := fun_mk l_parts c_parts k_parts, m_parts := PySem.W.mg_of X G a_parts,
    a_words := f_words, d_words := _, F_words := fun_mk l_words c_words k_words, m_words := PySem.W.mg_of X G a_words,
    a_read_from := f_read_from, d_read_from := _, F_read_from := fun_mk l_read_from c_read_from k_read_from, m_read_from := PySem.W.mg_of X G a_read_from,
    a_l_cell_at := f_l_cell_at, d_l_cell_at := _, F_l_cell_at := fun_mk l_l_cell_at c_l_cell_at k_l_cell_at, m_l_cell_at := PySem.W.mg_of X G a_l_cell_at,
    a_l_digit := f_l_digit, d_l_digit := _, F_l_digit := fun_mk l_l_digit c_l_digit k_l_digit, m_l_digit := PySem.W.mg_of X G a_l_digit,
    a_l_pick := f_l_pick, d_l_pick := _, F_l_pick := fun_mk l_l_pick c_l_pick k_l_pick, m_l_pick := PySem.W.mg_of X G a_l_pick,
    a_l_grown := f_l_grown, d_l_grown := _, F_l_grown := fun_mk l_l_grown c_l_grown k_l_grown, m_l_grown := PySem.W.mg_of X G a_l_grown,
    a_l_words := f_l_words, d_l_words := _, F_l_words := fun_mk l_l_words c_l_words k_l_words, m_l_words := PySem.W.mg_of X G a_l_words,
    a_l_parts := f_l_parts, d_l_parts := _, F_l_parts := fun_mk l_l_parts c_l_parts k_l_parts, m_l_parts := PySem.W.mg_of X G a_l_parts,
    a_law := f_law, d_law := _, F_law := fun_mk l_law c_law k_law, m_law := PySem.W.mg_of X G a_law,
    n_isinstance := PySem.W.mg_none_of X G z_isinstance,
    n_str := PySem.W.mg_none_of X G z_str,
    n_tuple := PySem.W.mg_none_of X G z_tuple,
    n_list := PySem.W.mg_none_of X G z_list,
    n_len := PySem.W.mg_none_of X G z_len,
    n_range := PySem.W.mg_none_of X G z_range,
    n_all := PySem.W.mg_none_of X G z_all,
    n_repr := PySem.W.mg_none_of X G z_repr,
    c_RanError := C_RanError, g_RanError := PySem.W.mg_of X G g_RanError,
    c_NoCondition := C_NoCondition, g_NoCondition := PySem.W.mg_of X G g_NoCondition,
    x_NoCondition := x_NoCondition, k_NoCondition := kc_NoCondition, b_NoCondition := b_NoCondition, t_NoCondition := t_NoCondition, e_NoCondition := exm_self b_NoCondition ic_NoCondition t_NoCondition sc_NoCondition,
    c_PLACES := C_PLACES, m_PLACES := PySem.W.mg_of X G p_PLACES, q_PLACES := fun H => .inr ⟨_, _, _, t_PLACES, rfl, rfl, by show 3 ≤ sizeLine; decide, (.cons ⟨_, rfl⟩ (.cons ⟨_, rfl⟩ (.cons ⟨_, rfl⟩ .nil)))⟩,
    c_NUMBERS := C_NUMBERS, m_NUMBERS := PySem.W.mg_of X G p_NUMBERS, q_NUMBERS := fun H => .inr ⟨_, _, _, t_NUMBERS, rfl, rfl, by show 4 ≤ sizeLine; decide, (.cons ⟨_, rfl⟩ (.cons ⟨_, rfl⟩ (.cons ⟨_, rfl⟩ (.cons ⟨_, rfl⟩ .nil))))⟩,
    c_COMPARING := C_COMPARING, m_COMPARING := PySem.W.mg_of X G p_COMPARING, q_COMPARING := fun H => .inr ⟨_, _, _, t_COMPARING, rfl, rfl, by show 2 ≤ sizeLine; decide, (.cons ⟨_, rfl⟩ (.cons ⟨_, rfl⟩ .nil))⟩,
    k_MOST_PARTS := k_MOST_PARTS, m_MOST_PARTS := PySem.W.mg_of X G p_MOST_PARTS,
    k_MOST_LEVELS := k_MOST_LEVELS, m_MOST_LEVELS := PySem.W.mg_of X G p_MOST_LEVELS,
    c_SIDES := C_SIDES, m_SIDES := PySem.W.mg_of X G p_SIDES, es_SIDES := _, n_SIDES := _, kd := ⟨t_SIDES, ⟨⟨_, _, rfl, hk1⟩, ⟨_, _, rfl, hk2⟩, ⟨_, _, rfl, hk3⟩, trivial⟩, lo_SIDES⟩, ns_SIDES := ns_sides t_SIDES }
  exact ⟨T.d_law, fun s u => .of_eq rfl, fun base _ _ => ok_all T⟩
theorem walk_law {l : PySem.W.OpenLaw} {q : Program} {loose : List Str} {XP : (Str → Option Value) → Heap → Prop} {YP : World → Heap → Prop} {d : DefRec} {K : Params → PySem.W.Frag} (hn : l.most = some 63) (hdf : d.params.defaults = [])
    (hY : ∀ (w : World) (h : Heap), YP w h → (K w.params).In h)
    (F : ∀ (w : World) (mg : Str → Option Value) (fa : Addr) (h : Heap), (K w.params).In h → h.Ns mainGlobals mg → mg d.name = some (.ref fa) →
      ∃ fd : FuncData, (∀ (s : Shared) (u : Value), BindsTo s fd ⟨[u], []⟩ [("_law_script", u)]) ∧ ∀ base : Heap, (K w.params).In base → base.Ns mainGlobals mg → FnG l.prog w (K w.params) mg base 14 fa fd ["_law_script"] (sp_law (K w.params))) :
    PySem.W.WalkO q loose XP YP l.row.toRowW d [] (fun f vs => PySem.call f vs) :=
  My.walk_ofG (n := 63) (k := 14) (x := "_law_script") (sp := fun w => sp_law (K w.params)) hn (by decide) hdf ⟨rfl, by decide, by decide⟩ hY F (fun _ _ a ns hl _ hS => ⟨a, ns, rfl, hS, hl, fun _ => rfl⟩)
end My
open PySem PySem.W PyProof.Rows
set_option maxRecDepth 100000 in
set_option maxHeartbeats 0 in
theorem PySem.Challenge.cw_whatran_k09_conditions_as_texts_holds : PySem.Challenge.rw_whatran_k09_conditions_as_texts.Holds := by
  w_on; o_law; k_head; (case hw => w_witness2)
  k_fill
  refine My.walk_law (l := PySem.Challenge.rw_whatran_k09_conditions_as_texts) rfl rfl (fun w h Y => PySem.W.kIn_of Y) ?F
  case F =>
    intro w mg fa h KX G hmg
    refine' My.all_mk KX G hmg ?a_is_value_word ?l_is_value_word ?c_is_value_word ?k_is_value_word ?a_is_condition ?l_is_condition ?c_is_condition ?k_is_condition ?a_condition_text ?l_condition_text ?c_condition_text ?k_condition_text ?a_read_condition ?l_read_condition ?c_read_condition ?k_read_condition ?a_parts_of ?l_parts_of ?c_parts_of ?k_parts_of ?a_need_condition ?l_need_condition ?c_need_condition ?k_need_condition ?a_is_built ?l_is_built ?c_is_built ?k_is_built ?a_parts ?l_parts ?c_parts ?k_parts ?a_words ?l_words ?c_words ?k_words ?a_read_from ?l_read_from ?c_read_from ?k_read_from ?a_l_cell_at ?l_l_cell_at ?c_l_cell_at ?k_l_cell_at ?a_l_digit ?l_l_digit ?c_l_digit ?k_l_digit ?a_l_pick ?l_l_pick ?c_l_pick ?k_l_pick ?a_l_grown ?l_l_grown ?c_l_grown ?k_l_grown ?a_l_words ?l_l_words ?c_l_words ?k_l_words ?a_l_parts ?l_l_parts ?c_l_parts ?k_l_parts ?a_law ?l_law ?c_law ?k_law ?z_isinstance ?z_str ?z_tuple ?z_list ?z_len ?z_range ?z_all ?z_repr ?g_RanError ?g_NoCondition ?x_NoCondition ?kc_NoCondition ?b_NoCondition ?t_NoCondition ?ic_NoCondition ?sc_NoCondition ?p_PLACES ?t_PLACES ?p_NUMBERS ?t_NUMBERS ?p_COMPARING ?t_COMPARING ?p_MOST_PARTS ?p_MOST_LEVELS ?p_SIDES ?t_SIDES ?hk1 ?hk2 ?hk3 ?lo_SIDES
    (case a_is_value_word => k_is)
    (case l_is_value_word => k_is)
    (case c_is_value_word => k_is)
    (case k_is_value_word => k_is)
    (case a_is_condition => k_is)
    (case l_is_condition => k_is)
    (case c_is_condition => k_is)
    (case k_is_condition => k_is)
    (case a_condition_text => k_is)
    (case l_condition_text => k_is)
    (case c_condition_text => k_is)
    (case k_condition_text => k_is)
    (case a_read_condition => k_is)
    (case l_read_condition => k_is)
    (case c_read_condition => k_is)
    (case k_read_condition => k_is)
    (case a_parts_of => k_is)
    (case l_parts_of => k_is)
    (case c_parts_of => k_is)
    (case k_parts_of => k_is)
    (case a_need_condition => k_is)
    (case l_need_condition => k_is)
    (case c_need_condition => k_is)
    (case k_need_condition => k_is)
    (case a_is_built => k_is)
    (case l_is_built => k_is)
    (case c_is_built => k_is)
    (case k_is_built => k_is)
    (case a_parts => k_is)
    (case l_parts => k_is)
    (case c_parts => k_is)
    (case k_parts => k_is)
    (case a_words => k_is)
    (case l_words => k_is)
    (case c_words => k_is)
    (case k_words => k_is)
    (case a_read_from => k_is)
    (case l_read_from => k_is)
    (case c_read_from => k_is)
    (case k_read_from => k_is)
    (case a_l_cell_at => k_is)
    (case l_l_cell_at => k_is)
    (case c_l_cell_at => k_is)
    (case k_l_cell_at => k_is)
    (case a_l_digit => k_is)
    (case l_l_digit => k_is)
    (case c_l_digit => k_is)
    (case k_l_digit => k_is)
    (case a_l_pick => k_is)
    (case l_l_pick => k_is)
    (case c_l_pick => k_is)
    (case k_l_pick => k_is)
    (case a_l_grown => k_is)
    (case l_l_grown => k_is)
    (case c_l_grown => k_is)
    (case k_l_grown => k_is)
    (case a_l_words => k_is)
    (case l_l_words => k_is)
    (case c_l_words => k_is)
    (case k_l_words => k_is)
    (case a_l_parts => k_is)
    (case l_l_parts => k_is)
    (case c_l_parts => k_is)
    (case k_l_parts => k_is)
    (case a_law => k_is)
    (case l_law => k_is)
    (case c_law => k_is)
    (case k_law => k_is)
    (case z_isinstance => k_is)
    (case z_str => k_is)
    (case z_tuple => k_is)
    (case z_list => k_is)
    (case z_len => k_is)
    (case z_range => k_is)
    (case z_all => k_is)
    (case z_repr => k_is)
    (case g_RanError => k_is)
    (case g_NoCondition => k_is)
    (case x_NoCondition => k_exc)
    (case kc_NoCondition => k_is)
    (case b_NoCondition => k_is)
    (case t_NoCondition => k_is)
    (case ic_NoCondition => k_is)
    (case sc_NoCondition => first | rfl | k_is)
    (case p_PLACES => k_is)
    (case t_PLACES => k_is)
    (case p_NUMBERS => k_is)
    (case t_NUMBERS => k_is)
    (case p_COMPARING => k_is)
    (case t_COMPARING => k_is)
    (case p_MOST_PARTS => k_is)
    (case p_MOST_LEVELS => k_is)
    (case p_SIDES => k_is)
    (case t_SIDES => k_is)
    (case hk1 => rfl)
    (case hk2 => rfl)
    (case hk3 => rfl)
    (case lo_SIDES => first | rfl | decide)

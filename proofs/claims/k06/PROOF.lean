import PyProof.Rows.All
import Wide.All
import OpenK.AllK
import Wide.FinOn
import HandS.ForMost
import HandS.ForExc
import HandS.TryMany
import HandS.Evl
import HandS.IsInst
import HandS.EndBits
import HandS.SortInts
import HandS.Deep
import HandS.Zip
import HandS.More
import HandS.Conv
import KE.KDictSum
import KE.KDictCopyH
import HandS.Codes
import HandS.SetBool
import HandS.Strs
import HandS.SortKw
import HandS.DictComp
import HandS.Flow
import PySem.Challenge.RW_waybook_k06_a_stretch
set_option Elab.async false
set_option linter.all false
set_option maxRecDepth 100000
set_option maxHeartbeats 4000000
/-! Wy: statements and values over what is known of the heap. -/
namespace Wy
open PySem PySem.Spec PyProof.Rows L2 Evl

/-! ### calls by what is promised -/
theorem cx_K {CX : CXT} {P : Program} {w : World} {K : PySem.W.Frag} {mg : Str → Option Value} {base : Heap} {N : List Str} {q : Str} {sc : Scope} {f : Addr} {cd : Value} {A : Around} {outer : List Env} {s : Shared} {H : Hp} {E : XK} :
    (cxOf CX P w K mg base N q sc f cd A outer s H E).nox.K = K := rfl
theorem cx_K1 {CX : CXT} {P : Program} {w : World} {K : PySem.W.Frag} {mg : Str → Option Value} {base : Heap} {N : List Str} {q : Str} {sc : Scope} {f : Addr} {cd : Value} {A : Around} {outer : List Env} {s : Shared} {H : Hp} {E : XK} :
    (cxOf CX P w K mg base N q sc f cd A outer s H E).K = K := rfl
structure Cl (P : Program) (w : World) (K : PySem.W.Frag) (mg : Str → Option Value) (base : Heap) (CX : CXT) (k : Nat) (x : Str) (sp : Sp) : Prop where
  ex : ∃ (f : Addr) (fd : FuncData) (ps : List Str), FnOk P w K mg base CX k f fd ps sp ∧ mg x = some (.ref f) ∧ PySem.W.keepIn K (.ref f) = true ∧ Binds K fd ps []
section
variable {X : Cx} {CX : CXT} {E : XK} {k j : Nat} {x : Str} {sp : Sp} {p pos : Pos} {e : Expr} {es : List Expr} {t : TA}
theorem pe_cl (c : Cl X.prog X.w X.K X.mg X.base CX k x sp) (hr : Room j X.A) (hk : k ≤ j) (hx : Passes CX X E) (hg : Gl X x) (ha : PA X (e :: es) t)
    (hdb : (x == ("__debug__" : Str)) = false := by decide) (he : starEach (e :: es) X.env = (false, eval e X.env) :: starEach es X.env := by rfl) (hpl : (backTo pos (starEach es X.env)).any (·.1) = false := by rfl) :
    PE X (.Call (.Name x p) (e :: es) [] pos) (tCall sp [] E t) := by
  obtain ⟨f, fd, ps, F, hm, kp, b⟩ := c.ex
  exact pe_call F (hr.mono hk) hg hm kp b .nil hx ha hdb he hpl
end
theorem cl_mk {P : Program} {w : World} {K : PySem.W.Frag} {mg : Str → Option Value} {base : Heap} {CX : CXT} {k : Nat} {x q : Str} {st : Stmt} {f : Addr} {fd : FuncData} {ps : List Str} {sp : Sp}
    (F : Fun K x q st f fd) (G : FnOk P w K mg base CX k f fd ps sp) (hm : mg x = some (.ref f)) (b : Binds K fd ps []) : Cl P w K mg base CX k x sp := ⟨f, fd, ps, G, hm, F.kp, b⟩

/-! ### statements at what is known -/
def Sv (ts : TS) (D : Ends) (σ : L2.St) (H : Hp) : Prop := ∀ H1, Ex H H1 → ts D σ H1
/-- a value of which P holds in what is known behind it -/
def EvP (te : TE) (σ : L2.St) (H : Hp) (P : V → Hp → Prop) : Prop := ∀ H1, Ex H H1 → ∀ Q : VK, (∀ v H2, Ex H1 H2 → P v H2 → Q v H2) → te σ H1 Q
abbrev IsL (xs : List V) : V → Hp → Prop := fun v H => ∃ p, v = .ref p ∧ H p = some (.lst xs)
section
variable {K : PySem.W.Frag} {σ : L2.St} {H H' : Hp} {ta tb te tx : TE} {t u : TT} {x y z v : V} {r : R2} {D : Ends} {tu tw tz ts : TS} {g : TG}
theorem Sv.mono (e : Ex H H') (h : Sv ts D σ H) : Sv ts D σ H' := fun H1 a => h H1 (e.trans a)
theorem Sv.at (h : Sv ts D σ H) : ts D σ H := h H (Ex.refl H)
theorem sv_asg {i : Nat} (h : Ev te σ H v) (k : Sv tz D (σ.set i (some v)) H) : Sv (tSeq (tAsg te (gName i)) tz) D σ H := fun H1 e => h H1 e _ fun H2 e2 => k H2 (e.trans e2)
theorem sv_asgP {i : Nat} {P : V → Hp → Prop} (h : EvP te σ H P) (k : ∀ v H2, Ex H H2 → P v H2 → Sv tz D (σ.set i (some v)) H2) : Sv (tSeq (tAsg te (gName i)) tz) D σ H :=
  fun H1 e => h H1 e _ fun v H2 e2 p => k v H2 (e.trans e2) p H2 (Ex.refl H2)
theorem sv_asgL {i : Nat} {xs : List V} (h : EvL te σ H xs) (k : ∀ p H2, H p = none → Ex H H2 → H2 p = some (.lst xs) → Sv tz D (σ.set i (some (.ref p))) H2) : Sv (tSeq (tAsg te (gName i)) tz) D σ H :=
  fun H1 e => h H1 e _ fun p H2 n e2 q => k p H2 (fresh_back e n) (e.trans e2) q H2 (Ex.refl H2)
theorem sv_asgU {i : Nat} {xs : List V} (h : EvU te σ H xs) (k : ∀ p H2, H p = none → Ex H H2 → H2 p = some (.tup xs) → Sv tz D (σ.set i (some (.ref p))) H2) : Sv (tSeq (tAsg te (gName i)) tz) D σ H :=
  fun H1 e => h H1 e _ fun p H2 n e2 q => k p H2 (fresh_back e n) (e.trans e2) q H2 (Ex.refl H2)
theorem sv_asg' {i : Nat} (h : Ev te σ H v) (k : Sv tNext D (σ.set i (some v)) H) : Sv (tAsg te (gName i)) D σ H := fun H1 e => h H1 e _ fun H2 e2 => k H2 (e.trans e2)
theorem sv_asgL' {i : Nat} {xs : List V} (h : EvL te σ H xs) (k : ∀ p H2, H p = none → Ex H H2 → H2 p = some (.lst xs) → Sv tNext D (σ.set i (some (.ref p))) H2) : Sv (tAsg te (gName i)) D σ H :=
  fun H1 e => h H1 e _ fun p H2 n e2 q => k p H2 (fresh_back e n) (e.trans e2) q H2 (Ex.refl H2)
theorem sv_ret (h : Ev te σ H v) (k : RetV v H D.rt) : Sv (tRet te) D σ H := fun H1 e => h H1 e _ fun H2 e2 => k H2 (e.trans e2)
theorem sv_retP {P : V → Hp → Prop} (h : EvP te σ H P) (k : ∀ v H1, Ex H H1 → P v H1 → D.rt v H1) : Sv (tRet te) D σ H := fun H1 e => h H1 e _ fun v H2 e2 p => k v H2 (e.trans e2) p
theorem sv_retL {xs : List V} (h : EvL te σ H xs) (k : RetL xs H D.rt) : Sv (tRet te) D σ H := fun H1 e => h H1 e _ fun p H2 n e2 q => k p H2 (fresh_back e n) (e.trans e2) q
theorem sv_retU {xs : List V} (h : EvU te σ H xs) (k : ∀ p H1, H p = none → Ex H H1 → H1 p = some (.tup xs) → D.rt (.ref p) H1) : Sv (tRet te) D σ H := fun H1 e => h H1 e _ fun p H2 n e2 q => k p H2 (fresh_back e n) (e.trans e2) q
theorem sv_ifB {b : Bool} (h : EvT t σ H b) (h1 : b = true → Sv tu { D with nx := tz D } σ H) (h2 : b = false → Sv tw { D with nx := tz D } σ H) : Sv (tSeq (tIfS t tu tw) tz) D σ H := fun H1 e => h H1 e _ fun H2 e2 => by
  cases b with
  | true => exact h1 rfl H2 (e.trans e2)
  | false => exact h2 rfl H2 (e.trans e2)
theorem sv_rq {nx bk ct : L2.St → Hp → Prop} {Q : VK} (k : RetV v H Q) (h : Ev te σ H v) : Sv (tRet te) { nx := nx, rt := Q, bk := bk, ct := ct } σ H := sv_ret h k
theorem sv_rqL {nx bk ct : L2.St → Hp → Prop} {Q : VK} {xs : List V} (k : RetL xs H Q) (h : EvL te σ H xs) : Sv (tRet te) { nx := nx, rt := Q, bk := bk, ct := ct } σ H := sv_retL h k
theorem ev_lenI {p : Addr} {ns : List Int} (ha : Ev ta σ H (.ref p)) (h : SqL K H p (ns.map V.int)) : Ev (tCB (rLenS K) (tCons ta tNil)) σ H (.int (ns.length : Int)) := by
  have g := ev_len ha h
  rw [List.length_map] at g
  exact g
/-- an if whose test is a proposition's truth, something behind -/
theorem sv_if {p : Prop} [Decidable p] (h : EvT t σ H (decide p)) (h1 : p → Sv tu { D with nx := tz D } σ H) (h2 : ¬ p → Sv tw { D with nx := tz D } σ H) : Sv (tSeq (tIfS t tu tw) tz) D σ H :=
  sv_ifB h (fun b => h1 (of_decide_eq_true b)) (fun b => h2 (of_decide_eq_false b))
theorem sv_when {p : Prop} [Decidable p] (h : EvT t σ H (decide p)) (h1 : p → Sv tu { D with nx := tz D } σ H) (h2 : ¬ p → Sv tz D σ H) : Sv (tSeq (tIfS t tu tNext) tz) D σ H := sv_if h h1 h2
theorem sv_if' {p : Prop} [Decidable p] (h : EvT t σ H (decide p)) (h1 : p → Sv tu D σ H) (h2 : ¬ p → Sv tw D σ H) : Sv (tIfS t tu tw) D σ H := fun H1 e => h H1 e _ fun H2 e2 => by
  by_cases q : p
  · rw [decide_eq_true q]
    exact h1 q H2 (e.trans e2)
  · rw [decide_eq_false q]
    exact h2 q H2 (e.trans e2)
theorem sv_ifB' {b : Bool} (h : EvT t σ H b) (h1 : b = true → Sv tu D σ H) (h2 : b = false → Sv tw D σ H) : Sv (tIfS t tu tw) D σ H := fun H1 e => h H1 e _ fun H2 e2 => by
  cases b with
  | true => exact h1 rfl H2 (e.trans e2)
  | false => exact h2 rfl H2 (e.trans e2)
theorem sv_next (k : ∀ H1, Ex H H1 → D.nx σ H1) : Sv tNext D σ H := k
/-- where a branch runs on into what follows -/
theorem sv_nx (k : Sv tz D σ H) : Sv tNext { D with nx := tz D } σ H := k
/-- if t: x = e, by the value behind it -/
theorem sv_ifset {p : Prop} [Decidable p] {i : Nat} {v w : V} (h : EvT t σ H (decide p)) (h1 : p → Ev te σ H v) (h2 : ¬ p → σ.set i (some w) = σ) (k : Sv tz D (σ.set i (some (if p then v else w))) H) :
    Sv (tSeq (tIfS t (tAsg te (gName i)) tNext) tz) D σ H := fun H1 e => h H1 e _ fun H2 e2 => by
  by_cases q : p
  · rw [decide_eq_true q]
    rw [if_pos q] at k
    exact h1 q H2 (e.trans e2) _ fun H3 e3 => k H3 ((e.trans e2).trans e3)
  · rw [decide_eq_false q]
    rw [if_neg q, h2 q] at k
    exact k H2 (e.trans e2)

/-! ### values -/
theorem EvP.mono {P : V → Hp → Prop} (e : Ex H H') (h : EvP te σ H P) : EvP te σ H' P := fun H1 a Q q => h H1 (e.trans a) Q q
theorem Ev.p (h : Ev te σ H v) : EvP te σ H fun v' H2 => v' = v ∧ Ex H H2 := fun H1 e Q q => h H1 e Q fun H2 e2 => q v H2 e2 ⟨rfl, e.trans e2⟩
theorem EvL.l {xs : List V} (h : EvL te σ H xs) : EvP te σ H (IsL xs) := fun H1 e Q q => h H1 e Q fun p H2 _ e2 hp => q _ H2 e2 ⟨p, rfl, hp⟩
theorem ev_l {p : Addr} {xs : List V} (h : Ev te σ H (.ref p)) (hp : H p = some (.lst xs)) : EvP te σ H (IsL xs) := fun H1 e Q q => h H1 e Q fun H2 e2 => q _ H2 e2 ⟨p, rfl, (e.trans e2) _ _ hp⟩
theorem el_cat {xs ys : List V} (ha : EvP ta σ H (IsL xs)) (hb : EvP tb σ H (IsL ys)) (hl : xs.length + ys.length ≤ 100000) : EvL (tOp rCat ta tb) σ H (xs ++ ys) := fun H1 e Q q =>
  ha H1 e _ fun x H2 e2 ⟨p, ex, hp⟩ => hb H2 (e.trans e2) _ fun y H3 e3 ⟨p', ey, hp'⟩ => ⟨p, p', xs, ys, ex, ey, e3 _ _ hp, hp', sz_of hl, fun l hn => q l _ (fresh_back (e2.trans e3) hn) ((e2.trans e3).trans (Ex.new hn)) upd_same⟩
theorem el_rep {xs : List V} {n : Int} (ha : EvP ta σ H (IsL xs)) (hb : Ev tb σ H (.int n)) (h0 : -1000 ≤ n) (h1 : n ≤ 1000) (hl : xs.length ≤ 100) : EvL (tOp rRep ta tb) σ H ((List.replicate n.toNat xs).flatten) := fun H1 e Q q =>
  ha H1 e _ fun x H2 e2 ⟨p, ex, hp⟩ => hb H2 (e.trans e2) _ fun H3 e3 => by
    refine ⟨p, n, xs, ex, rfl, e3 _ _ hp, by omega, by omega, ?_, fun l hn => ?_⟩
    · have a : xs.length * n.toNat ≤ 100 * 1000 := Nat.mul_le_mul hl (by omega)
      exact sz_of (by omega)
    · exact q l _ (fresh_back (e2.trans e3) hn) ((e2.trans e3).trans (Ex.new hn)) upd_same
end

/-! ### tests by propositions -/
section
variable {K : PySem.W.Frag} {σ : L2.St} {H H' : Hp} {ta tb te tx : TE} {t u : TT} {x y z v : V} {r : R2} {p q : Prop} [Decidable p] [Decidable q]
theorem tp_cmp (h : Ev te σ H (.bl (decide p))) : EvT (tTest te) σ H (decide p) := et_test h
theorem tp_val (h : Ev te σ H (.bl (decide p))) : EvT (tB te) σ H (decide p) := et_B h
theorem tp_and (h1 : EvT t σ H (decide p)) (h2 : p → EvT u σ H (decide q)) : EvT (tAnd t u) σ H (decide (p ∧ q)) := by
  have g := et_and (b := decide q) h1 (fun e => h2 (of_decide_eq_true e))
  have e : (decide p && decide q) = decide (p ∧ q) := (Bool.decide_and p q).symm
  rw [e] at g
  exact g
theorem tp_or (h1 : EvT t σ H (decide p)) (h2 : ¬ p → EvT u σ H (decide q)) : EvT (tOr t u) σ H (decide (p ∨ q)) := by
  have g := et_or (b := decide q) h1 (fun e => h2 (of_decide_eq_false e))
  have e : (decide p || decide q) = decide (p ∨ q) := (Bool.decide_or p q).symm
  rw [e] at g
  exact g
theorem tp_not (h1 : EvT t σ H (decide p)) : EvT (tNot t) σ H (decide (¬ p)) := by
  have g := et_not h1
  have e : (!decide p) = decide (¬ p) := decide_not.symm
  rw [e] at g
  exact g
theorem tp_iff (h1 : EvT t σ H (decide p)) (e : p ↔ q) : EvT t σ H (decide q) := by
  have e2 : decide p = decide q := decide_eq_decide.mpr e
  rw [← e2]
  exact h1
theorem ep_and (h1 : Ev ta σ H (.bl (decide p))) (h2 : p → Ev tb σ H (.bl (decide q))) : Ev (tAndV ta tb) σ H (.bl (decide (p ∧ q))) := by
  have g := ev_andV (b := decide q) h1 (fun e => h2 (of_decide_eq_true e))
  have e : (decide p && decide q) = decide (p ∧ q) := (Bool.decide_and p q).symm
  rw [e] at g
  exact g
theorem ep_or (h1 : Ev ta σ H (.bl (decide p))) (h2 : ¬ p → Ev tb σ H (.bl (decide q))) : Ev (tOrV ta tb) σ H (.bl (decide (p ∨ q))) := by
  have g := ev_orV (b := decide q) h1 (fun e => h2 (of_decide_eq_false e))
  have e : (decide p || decide q) = decide (p ∨ q) := (Bool.decide_or p q).symm
  rw [e] at g
  exact g
theorem ep_not (h1 : Ev ta σ H (.bl (decide p))) : Ev (tNotV ta) σ H (.bl (decide (¬ p))) := by
  have g := ev_notV h1
  have e : (!decide p) = decide (¬ p) := decide_not.symm
  rw [e] at g
  exact g
theorem ev_eq {v' : V} (h : Ev te σ H v) (e : v = v') : Ev te σ H v' := by
  rw [← e]
  exact h
theorem rp_lt {i j : Int} : RV (rI0 fun i j => .bl (decide (i < j))) (.int i) (.int j) H (.bl (decide (i < j))) := rv_I0
theorem rp_eqI {i j : Int} : RV rEq (.int i) (.int j) H (.bl (decide (i = j))) := by
  have e : decide (V.int i = V.int j) = decide (i = j) := decide_eq_decide.mpr ⟨V.int.inj, fun e => by rw [e]⟩
  rw [← e]
  exact rv_eq rfl
theorem rp_neI {i j : Int} : RV rNe (.int i) (.int j) H (.bl (decide (¬ i = j))) := by
  have e : decide (V.int i = V.int j) = decide (i = j) := decide_eq_decide.mpr ⟨V.int.inj, fun e => by rw [e]⟩
  have e2 : decide (¬ i = j) = !decide (i = j) := decide_not
  rw [e2, ← e]
  exact rv_ne rfl
theorem rp_eqB {i j : Bool} : RV rEq (.bl i) (.bl j) H (.bl (decide (i = j))) := by
  have e : decide (V.bl i = V.bl j) = decide (i = j) := decide_eq_decide.mpr ⟨V.bl.inj, fun e => by rw [e]⟩
  rw [← e]
  exact rv_eq rfl
theorem rp_neB {i j : Bool} : RV rNe (.bl i) (.bl j) H (.bl (decide (¬ i = j))) := by
  have e : decide (V.bl i = V.bl j) = decide (i = j) := decide_eq_decide.mpr ⟨V.bl.inj, fun e => by rw [e]⟩
  have e2 : decide (¬ i = j) = !decide (i = j) := decide_not
  rw [e2, ← e]
  exact rv_ne rfl
/-- is None of what is no None, of None -/
theorem rp_isNF (h : x ≠ .non) : RV (fun x y H Q => y = .non ∧ Q (.bl (decide (x = .non))) H) x .non H (.bl (decide False)) := fun H1 _ Q q => by
  refine ⟨rfl, ?_⟩
  show Q (.bl (decide (x = .non))) H1
  rw [decide_eq_false h]
  exact q H1 (Ex.refl H1)
theorem rp_isNT : RV (fun x y H Q => y = .non ∧ Q (.bl (decide (x = .non))) H) .non .non H (.bl (decide True)) := fun H1 _ Q q => ⟨rfl, q H1 (Ex.refl H1)⟩
theorem rp_notNF (h : x ≠ .non) : RV (fun x y H Q => y = .non ∧ Q (.bl (!decide (x = .non))) H) x .non H (.bl (decide True)) := fun H1 _ Q q => by
  refine ⟨rfl, ?_⟩
  show Q (.bl (!decide (x = .non))) H1
  rw [decide_eq_false h]
  exact q H1 (Ex.refl H1)
theorem rp_notNT : RV (fun x y H Q => y = .non ∧ Q (.bl (!decide (x = .non))) H) .non .non H (.bl (decide False)) := fun H1 _ Q q => ⟨rfl, q H1 (Ex.refl H1)⟩

/-! ### promises of values -/
/-- a promise: the arguments and what is known give a value; nothing that was known is touched -/
def SpR (n : Nat) (R : List V → Hp → V → Prop) : Sp := fun vs H Q _ => vs.length = n ∧ ∃ z, R vs H z ∧ RetV z H Q
def SpN (n : Nat) (R : List V → Hp → List V → Prop) : Sp := fun vs H Q _ => vs.length = n ∧ ∃ xs, R vs H xs ∧ RetL xs H Q
theorem spv {n : Nat} {R : List V → Hp → V → Prop} {vs : List V} (hl : vs.length = n) (h : ∀ H1, Ex H H1 → R vs H1 z) : SpV (SpR n R) vs H z := fun H1 e Q q E => ⟨hl, z, h H1 e, q⟩
theorem spl {n : Nat} {R : List V → Hp → List V → Prop} {vs xs : List V} (hl : vs.length = n) (h : ∀ H1, Ex H H1 → R vs H1 xs) : SpL (SpN n R) vs H xs := fun H1 e Q q E => ⟨hl, xs, h H1 e, fun p H2 hp e2 h2 => q p H2 hp e2 h2⟩
/-! ### calls of built-ins -/
theorem ev_lenL {p : Addr} {xs : List V} (ha : Ev ta σ H (.ref p)) (h : SqL K H p xs) : Ev (tCB (rLenS K) (tCons ta tNil)) σ H (.int (xs.length : Int)) := ev_len ha h
theorem ev_lenT {p : Addr} {xs : List V} (ha : Ev ta σ H (.ref p)) (h : SqT K H p xs) : Ev (tCB (rLenS K) (tCons ta tNil)) σ H (.int (xs.length : Int)) := fun H1 e Q q =>
  ha H1 e _ fun H2 e2 => ⟨p, xs, rfl, Or.inr (ex_t (e.trans e2) h), q H2 e2⟩
theorem ev_isi {n : String} {ty : Value} {b : Bool} (ha : Ev ta σ H x) (ht : ∀ H1, Ex H H1 → TyX K H1 x ty) (hk : PySem.W.kitOne K ty (.type n) = some b) : Ev (tCB (rIsi K) (tCons ta (tCons (tC (.ty n)) tNil))) σ H (.bl b) := fun H1 e Q q =>
  ha H1 e _ fun H2 e2 => ⟨x, .ty n, ty, .type n, b, rfl, .ty n, ht H2 (e.trans e2), hk, q H2 e2⟩
end

/-! ### the rules by short names -/
section
variable {X : Cx}
theorem c_len : CallR X (.builtin "len") (rLenS X.K) := call_len_seq
theorem c_list : CallR X (.type "list") (rListS X.K) := call_list_of
def rMin2 : List V → Hp → VK → Prop := fun xs H Q => ∃ i j, xs = [.int i, .int j] ∧ Q (.int (if j < i then j else i)) H
theorem c_min2 (hc : X.calm = true) : CallR X (.builtin "min") rMin2 := call_min2 hc
theorem c_max2 (hc : X.calm = true) : CallR X (.builtin "max") rMax2 := call_max2 hc
def rNone : R2 := fun x y H Q => y = .non ∧ Q (.bl (decide (x = .non))) H
def rSome : R2 := fun x y H Q => y = .non ∧ Q (.bl (!decide (x = .non))) H
theorem o_isN : OpR X (compareOp .Is) rNone := op_isN
theorem o_notN : OpR X (compareOp .IsNot) rSome := op_notN
end
section
variable {K : PySem.W.Frag} {σ : L2.St} {H H' : Hp} {ta tb te tx : TE} {t u : TT} {x y z v : V} {r : R2} {D : Ends} {tu tw tz ts : TS} {g : TG}
theorem ev_cl {sp : Sp} {vs : List V} {E : XK} {ta : TA} (h : EvA ta σ H vs) (hs : SpV sp vs H z) : Ev (tCall sp [] E ta) σ H z := ev_call h (by rw [List.append_nil]; exact hs)
theorem el_cl {sp : Sp} {vs xs : List V} {E : XK} {ta : TA} (h : EvA ta σ H vs) (hs : SpL sp vs H xs) : EvL (tCall sp [] E ta) σ H xs := el_call h (by rw [List.append_nil]; exact hs)
theorem ev_min2 {i j : Int} (ha : Ev ta σ H (.int i)) (hb : Ev tb σ H (.int j)) : Ev (tCB rMin2 (tCons ta (tCons tb tNil))) σ H (.int (if j < i then j else i)) := fun H1 e Q q =>
  ha H1 e _ fun H2 e2 => hb H2 (e.trans e2) _ fun H3 e3 => ⟨i, j, rfl, q H3 (e2.trans e3)⟩
theorem rv_mod {i j : Int} (h : 0 < j) : RV (rI (fun _ j => 0 < j) fun i j => .int (i % j)) (.int i) (.int j) H (.int (i % j)) := rv_I h
theorem rv_div {i j : Int} (h : 0 < j) (h2 : j < 1073741824) : RV (rI CDiv fun i j => .int (i / j)) (.int i) (.int j) H (.int (i / j)) := rv_I ⟨h, h2⟩
theorem rv_mulR {i j : Int} (h : -(2 ^ 64) < j) (h2 : j < 2 ^ 64) : RV (rI CMul fun i j => .int (i * j)) (.int i) (.int j) H (.int (i * j)) := rv_I (.inr ⟨h, h2⟩)
theorem rv_mulL {i j : Int} (h : -(2 ^ 64) < i) (h2 : i < 2 ^ 64) : RV (rI CMul fun i j => .int (i * j)) (.int i) (.int j) H (.int (i * j)) := rv_I (.inl ⟨h, h2⟩)
theorem rv_powS {i j : Int} (h : CPow i j) : RV (rI CPow fun i j => .int (i ^ j.toNat)) (.int i) (.int j) H (.int (i ^ j.toNat)) := rv_I h
theorem ix_int {ns : List Int} {i : Int} (h0 : 0 ≤ i) (h1 : i < ns.length) : atI (ns.map V.int) i = some (.int (ns.getD i.toNat 0)) := by
  obtain ⟨k, rfl⟩ := Int.eq_ofNat_of_zero_le h0
  refine atI_nat ?_
  have hk : k < ns.length := by omega
  rw [List.getElem?_map, List.getElem?_eq_getElem hk]
  show some (V.int ns[k]) = some (V.int (ns.getD k 0))
  rw [List.getD_eq_getElem?_getD, List.getElem?_eq_getElem hk]
  rfl
theorem rv_ixI {p : Addr} {ns : List Int} {i : Int} (h : SqL K H p (ns.map V.int)) (h0 : 0 ≤ i) (h1 : i < ns.length) : RV (rIxL K) (.ref p) (.int i) H (.int (ns.getD i.toNat 0)) := rv_ixL h (ix_int h0 h1)
theorem rn_no (h : x ≠ .non) : RV rNone x .non H (.bl (decide False)) := rp_isNF h
theorem rn_yes : RV rNone .non .non H (.bl (decide True)) := rp_isNT
theorem rs_no : RV rSome .non .non H (.bl (decide False)) := rp_notNT
theorem rs_yes (h : x ≠ .non) : RV rSome x .non H (.bl (decide True)) := rp_notNF h
end

/-! ### loops -/
/-- what holds in what is known, whatever stands besides -/
def Kn (I : L2.St → Hp → Prop) : L2.St → Hp → Prop := fun σ H1 => ∃ H, I σ H ∧ Ex H H1
section
variable {K : PySem.W.Frag} {σ : L2.St} {H H' : Hp} {ta tb te tx : TE} {t u : TT} {x y z v : V} {r : R2} {D : Ends} {tu tw tz ts : TS} {g : TG} {I : L2.St → Hp → Prop}
theorem sv_kn {rt : VK} {bk ct : L2.St → Hp → Prop} (h : I σ H) : Sv tNext { nx := Kn I, rt := rt, bk := bk, ct := ct } σ H := fun H1 e => ⟨H, h, e⟩
theorem sv_kc {rt : VK} {bk nx : L2.St → Hp → Prop} (h : I σ H) : Sv tCont { nx := nx, rt := rt, bk := bk, ct := Kn I } σ H := fun H1 e => ⟨H, h, e⟩
/-- for x in range(n) -/
theorem sv_forR1 {ta : TA} {j : Nat} {n : Int} (h : EvA ta σ H [.int n]) (hn : -100000 ≤ n ∧ n ≤ 100000) (I : Nat → L2.St → Hp → Prop) (h0 : I 0 σ H)
    (hs : ∀ (i : Nat) σ' H', (i : Int) < n → I i σ' H' → Sv tu { D with nx := Kn (I (i + 1)), ct := Kn (I (i + 1)), bk := tz D } (σ'.set j (some (.int (i : Int)))) H') (hd : ∀ σ' H', I n.toNat σ' H' → Sv tz D σ' H') : Sv (tSeq (tFor (iRng1 ta) (gName j) tu) tz) D σ H :=
  fun H1 e => h H1 e _ fun H2 e2 => ⟨n, rfl, by omega, by omega, for_range (D := { D with nx := tz D }) (lo := 0) (n := n.toNat) (fun i => Kn (I i)) ⟨H, h0, e.trans e2⟩ (fun i σ' H3 hi ⟨H', p, e3⟩ => by
    have e0 : (0 : Int) + (i : Int) = (i : Int) := Int.zero_add _
    show tu { D with nx := Kn (I (i + 1)), ct := Kn (I (i + 1)), bk := tz D } (σ'.set j (some (.int ((0 : Int) + (i : Int))))) H3
    rw [e0]
    exact hs i σ' H' (by omega) p H3 e3) (fun σ' H3 ⟨H', p, e3⟩ => hd σ' H' p H3 e3)⟩
/-- for x in xs, a list that stands -/
theorem sv_forL {a : Addr} {xs : List V} {tl : TE} {j : Nat} (h : Ev tl σ H (.ref a)) (hx : SqL K H a xs) (I : Nat → L2.St → Hp → Prop) (h0 : I 0 σ H) (hl : ∀ i σ' H', I i σ' H' → SqL K H' a xs)
    (hs : ∀ i x σ' H', xs[i]? = some x → I i σ' H' → Sv tu { D with nx := Kn (I (i + 1)), ct := Kn (I (i + 1)), bk := tz D } (σ'.set j (some x)) H') (hd : ∀ σ' H', I xs.length σ' H' → Sv tz D σ' H') : Sv (tSeq (tFor (iList K tl) (gName j) tu) tz) D σ H :=
  fun H1 e => h H1 e _ fun H2 e2 => ⟨a, rfl, ⟨xs, ex_l (e.trans e2) hx⟩, for_list (D := { D with nx := tz D }) (xs := xs) (fun i => Kn (I i)) ⟨H, h0, e.trans e2⟩ (fun i σ' H3 _ ⟨H', p, e3⟩ => ex_l e3 (hl i σ' H' p))
    (fun i x σ' H3 hi ⟨H', p, e3⟩ => hs i x σ' H' hi p H3 e3) (fun σ' H3 ⟨H', p, e3⟩ => hd σ' H' p H3 e3)⟩
/-- for x in t, a tuple that stands -/
theorem sv_forT {a : Addr} {xs : List V} {tl : TE} {j : Nat} (h : Ev tl σ H (.ref a)) (hx : SqT K H a xs) (I : Nat → L2.St → Hp → Prop) (h0 : I 0 σ H) (hl : ∀ i σ' H', I i σ' H' → SqT K H' a xs)
    (hs : ∀ i x σ' H', xs[i]? = some x → I i σ' H' → Sv tu { D with nx := Kn (I (i + 1)), ct := Kn (I (i + 1)), bk := tz D } (σ'.set j (some x)) H') (hd : ∀ σ' H', I xs.length σ' H' → Sv tz D σ' H') : Sv (tSeq (tFor (iTup K tl) (gName j) tu) tz) D σ H :=
  fun H1 e => h H1 e _ fun H2 e2 => ⟨a, rfl, ⟨xs, ex_t (e.trans e2) hx⟩, for_tup (D := { D with nx := tz D }) (xs := xs) (fun i => Kn (I i)) ⟨H, h0, e.trans e2⟩ (fun i σ' H3 _ ⟨H', p, e3⟩ => ex_t e3 (hl i σ' H' p))
    (fun i x σ' H3 hi ⟨H', p, e3⟩ => hs i x σ' H' hi p H3 e3) (fun σ' H3 ⟨H', p, e3⟩ => hd σ' H' p H3 e3)⟩
/-- for x, y in zip(xs, ys) -/
theorem sv_forZ {a b : Addr} {xs ys : List V} {ta : TA} {j k : Nat} (h : EvA ta σ H [.ref a, .ref b]) (hx : SqL K H a xs) (hy : SqL K H b ys) (I : Nat → L2.St → Hp → Prop) (h0 : I 0 σ H) (hl : ∀ i σ' H', I i σ' H' → SqL K H' a xs ∧ SqL K H' b ys)
    (hs : ∀ i x y σ' H', xs[i]? = some x → ys[i]? = some y → I i σ' H' → Sv tu { D with nx := Kn (I (i + 1)), ct := Kn (I (i + 1)), bk := tz D } ((σ'.set j (some x)).set k (some y)) H')
    (hd : ∀ i σ' H', i ≤ xs.length → i ≤ ys.length → (xs.length ≤ i ∨ ys.length ≤ i) → I i σ' H' → Sv tz D σ' H') :
    Sv (tSeq (tFor (iZip K ta) (gTup K 2 (gCons (gName j) (gCons (gName k) gNil))) tu) tz) D σ H := fun H1 e => h H1 e _ fun H2 e2 => by
  refine ⟨a, b, xs, ys, rfl, ex_l (e.trans e2) hx, ex_l (e.trans e2) hy, fun i m σ' H3 => i + m = min xs.length ys.length ∧ i ≤ xs.length ∧ i ≤ ys.length ∧ Kn (I i) σ' H3, ⟨min xs.length ys.length, by omega, Nat.zero_le _, Nat.zero_le _, H, h0, e.trans e2⟩, ?_⟩
  rintro i m σ' H3 ⟨hm, l1, l2, H', p, e3⟩
  obtain ⟨qx, qy⟩ := hl i σ' H' p
  by_cases c : i < xs.length ∧ i < ys.length
  · refine .inr ⟨⟨xs, ys, _, _, ex_l e3 qx, ex_l e3 qy, List.getElem?_eq_getElem c.1, List.getElem?_eq_getElem c.2⟩, Kn (I (i + 1)), fun σ2 H4 n => ⟨m - 1, by omega, by omega, by omega, by omega, n⟩, fun z H4 y => ?_⟩
    obtain ⟨T, x1, x2, rfl, nT, rfl, f1, f2⟩ := y
    refine ⟨T, [x1, x2], rfl, st_of upd_same, rfl, x1, [x2], rfl, x2, [], rfl, rfl, ?_⟩
    exact hs i x1 x2 σ' H' (f1 xs (ex_l e3 qx)) (f2 ys (ex_l e3 qy)) p _ (e3.trans (Ex.new nT))
  · refine .inl ⟨⟨xs, ys, ex_l e3 qx, ex_l e3 qy, by omega⟩, ?_⟩
    exact hd i σ' H' l1 l2 (by omega) p H3 e3
end

/-! ### data at any depth -/
mutual
theorem dp_mono {K : PySem.W.Frag} {H H' : Hp} (e : Ex H H') : ∀ {v : V} (d : PyData), Dp K H v d → Dp K H' v d
  | _, .none, h => by cases h; exact .non
  | _, .bool _, h => by cases h; exact .bl _
  | _, .int _, h => by cases h; exact .int _
  | _, .str _, h => by cases h; exact .str _
  | _, .list ds, h => by
    cases h with
    | lst a b => exact .lst (ex_l e a) (dpAll_mono e ds b)
  | _, .tuple ds, h => by
    cases h with
    | tup a b => exact .tup (ex_t e a) (dpAll_mono e ds b)
  | _, .dict _, h => by cases h
theorem dpAll_mono {K : PySem.W.Frag} {H H' : Hp} (e : Ex H H') : ∀ {vs : List V} (ds : List PyData), DpAll K H vs ds → DpAll K H' vs ds
  | _, [], h => by cases h; exact .nil
  | _, d :: ds, h => by
    cases h with
    | cons a b => exact .cons (dp_mono e d a) (dpAll_mono e ds b)
end
theorem dpAll_ints {K : PySem.W.Frag} {H : Hp} : ∀ ns : List Int, DpAll K H (ns.map V.int) (ns.map PyData.int)
  | [] => .nil
  | n :: r => .cons (.int n) (dpAll_ints r)
theorem dp_ints {K : PySem.W.Frag} {H : Hp} {a : Addr} {ns : List Int} (h : SqL K H a (ns.map V.int)) : Dp K H (.ref a) (.list (ns.map PyData.int)) := .lst h (dpAll_ints ns)
theorem dp_intsT {K : PySem.W.Frag} {H : Hp} {a : Addr} {ns : List Int} (h : SqT K H a (ns.map V.int)) : Dp K H (.ref a) (.tuple (ns.map PyData.int)) := .tup h (dpAll_ints ns)
/-- data that may be compared, at most n deep -/
def Shp (n : Nat) (d : PyData) : Prop := d.canLay0 = true ∧ d.depth ≤ n
theorem Shp.ok {n : Nat} {d : PyData} (h : Shp n d) (hn : n ≤ 64) : SeqAt.shaped d = true := by
  unfold SeqAt.shaped
  rw [h.1, Bool.true_and]
  exact decide_eq_true (Nat.le_trans h.2 hn)
theorem shp_int {n : Nat} (i : Int) : Shp n (.int i) := ⟨rfl, Nat.zero_le _⟩
theorem shp_none {n : Nat} : Shp n .none := ⟨rfl, Nat.zero_le _⟩
theorem shp_all {n : Nat} : ∀ {ds : List PyData}, (∀ d ∈ ds, Shp n d) → PyData.canLayAll0 ds = true ∧ PyData.depthAll ds ≤ n
  | [], _ => ⟨rfl, Nat.zero_le _⟩
  | d :: ds, h => by
    have h1 := h d (List.mem_cons_self ..)
    have h2 := shp_all fun x hx => h x (List.mem_cons_of_mem _ hx)
    refine ⟨?_, ?_⟩
    · show (d.canLay0 && PyData.canLayAll0 ds) = true
      rw [h1.1, h2.1]
      rfl
    · show max d.depth (PyData.depthAll ds) ≤ n
      exact Nat.max_le.mpr ⟨h1.2, h2.2⟩
theorem shp_list {n : Nat} {ds : List PyData} (h : ∀ d ∈ ds, Shp n d) : Shp (n + 1) (.list ds) := ⟨(shp_all h).1, Nat.succ_le_succ (shp_all h).2⟩
theorem shp_tuple {n : Nat} {ds : List PyData} (h : ∀ d ∈ ds, Shp n d) : Shp (n + 1) (.tuple ds) := ⟨(shp_all h).1, Nat.succ_le_succ (shp_all h).2⟩
theorem shp_ints (ns : List Int) : ∀ d ∈ ns.map PyData.int, Shp 0 d := fun d hd => by
  obtain ⟨n, _, rfl⟩ := List.mem_map.mp hd
  exact shp_int n
theorem shp_listI (ns : List Int) : Shp 1 (.list (ns.map PyData.int)) := shp_list (shp_ints ns)
theorem shp_tupI (ns : List Int) : Shp 1 (.tuple (ns.map PyData.int)) := shp_tuple (shp_ints ns)
section
variable {K : PySem.W.Frag} {σ : L2.St} {H H' : Hp} {ta tb te tx : TE} {t u : TT} {x y z v : V} {r : R2} {D : Ends} {tu tw tz ts : TS} {g : TG}
theorem rd_neSame {d : PyData} {n : Nat} (hx : Dp K H x d) (hy : Dp K H y d) (hs : Shp n d) (hn : n ≤ 64) : RV (rNeD K) x y H (.bl (decide False)) := fun H1 e Q q => by
  refine ⟨d, d, dp_mono e d hx, dp_mono e d hy, hs.ok hn, hs.ok hn, ?_⟩
  rw [SeqAt.eqv_refl d hs.1]
  exact q H1 (Ex.refl H1)
theorem rd_eqSame {d : PyData} {n : Nat} (hx : Dp K H x d) (hy : Dp K H y d) (hs : Shp n d) (hn : n ≤ 64) : RV (rEqD K) x y H (.bl (decide True)) := fun H1 e Q q => by
  refine ⟨d, d, dp_mono e d hx, dp_mono e d hy, hs.ok hn, hs.ok hn, ?_⟩
  rw [SeqAt.eqv_refl d hs.1]
  exact q H1 (Ex.refl H1)
theorem rd_eq {d d' : PyData} {n : Nat} (hx : Dp K H x d) (hy : Dp K H y d') (hs : Shp n d) (hs' : Shp n d') (hn : n ≤ 64) : RV (rEqD K) x y H (.bl (PyData.eqv d d')) := fun H1 e Q q =>
  ⟨d, d', dp_mono e d hx, dp_mono e d' hy, hs.ok hn, hs'.ok hn, q H1 (Ex.refl H1)⟩
theorem rd_ne {d d' : PyData} {n : Nat} (hx : Dp K H x d) (hy : Dp K H y d') (hs : Shp n d) (hs' : Shp n d') (hn : n ≤ 64) : RV (rNeD K) x y H (.bl (!PyData.eqv d d')) := fun H1 e Q q =>
  ⟨d, d', dp_mono e d hx, dp_mono e d' hy, hs.ok hn, hs'.ok hn, q H1 (Ex.refl H1)⟩
theorem tp_valT (h : Ev te σ H (.bl true)) : EvT (tB te) σ H (decide True) := et_B h
theorem tp_valF (h : Ev te σ H (.bl false)) : EvT (tB te) σ H (decide False) := et_B h

/-! ### arguments of which something is known -/
def EvAP (ta : TA) (σ : L2.St) (H : Hp) (P : List V → Hp → Prop) : Prop := ∀ H1, Ex H H1 → ∀ Q : List V → Hp → Prop, (∀ vs H2, Ex H1 H2 → P vs H2 → Q vs H2) → ta σ H1 Q
theorem eap_nil {P : List V → Hp → Prop} (h : ∀ H2, Ex H H2 → P [] H2) : EvAP tNil σ H P := fun H1 e Q q => q [] H1 (Ex.refl H1) (h H1 e)
theorem eap_cons {tr : TA} {P : List V → Hp → Prop} {P1 : V → Hp → Prop} (h : EvP te σ H P1) (hr : ∀ v H2, Ex H H2 → P1 v H2 → EvAP tr σ H2 fun vs H3 => P (v :: vs) H3) : EvAP (tCons te tr) σ H P := fun H1 e Q q =>
  h H1 e _ fun v H2 e2 p => hr v H2 (e.trans e2) p H2 (Ex.refl H2) _ fun vs H3 e3 p3 => q (v :: vs) H3 (e2.trans e3) p3
theorem eap_of {ta : TA} {vs : List V} (h : EvA ta σ H vs) : EvAP ta σ H fun ws H2 => ws = vs ∧ Ex H H2 := fun H1 e Q q => h H1 e Q fun H2 e2 => q vs H2 e2 ⟨rfl, e.trans e2⟩
/-- a promise that gives a value of which P holds -/
def SpP (sp : Sp) (vs : List V) (H : Hp) (P : V → Hp → Prop) : Prop := ∀ H1, Ex H H1 → ∀ Q : VK, (∀ v H2, Ex H1 H2 → P v H2 → Q v H2) → ∀ E : XK, sp vs H1 Q E
theorem evp_cl {sp : Sp} {E : XK} {ta : TA} {PA : List V → Hp → Prop} {P : V → Hp → Prop} (h : EvAP ta σ H PA) (hs : ∀ vs H2, Ex H H2 → PA vs H2 → SpP sp vs H2 P) : EvP (tCall sp [] E ta) σ H P := fun H1 e Q q =>
  h H1 e _ fun vs H2 e2 p => by
    rw [List.append_nil]
    exact hs vs H2 (e.trans e2) p H2 (Ex.refl H2) Q (fun v H3 e3 => q v H3 (e2.trans e3)) E
theorem ep_cl {sp : Sp} {E : XK} {ta : TA} {vs : List V} {P : V → Hp → Prop} (h : EvA ta σ H vs) (hs : SpP sp vs H P) : EvP (tCall sp [] E ta) σ H P := fun H1 e Q q =>
  h H1 e _ fun H2 e2 => by
    rw [List.append_nil]
    exact hs H2 (e.trans e2) Q (fun v H3 e3 => q v H3 (e2.trans e3)) E
/-- a list display; what is known of its items -/
theorem evp_lst {ta : TA} {PA : List V → Hp → Prop} (h : EvAP ta σ H PA) (hl : ∀ vs H2, PA vs H2 → vs.length ≤ 100000) : EvP (tLst ta) σ H fun v H2 => ∃ p vs H3, v = .ref p ∧ PA vs H3 ∧ H3 p = none ∧ Ex H H3 ∧ H2 = upd H3 p (.lst vs) := fun H1 e Q q =>
  h H1 e _ fun vs H2 e2 p => ⟨sz_of (hl vs H2 p), fun l hn => q _ _ (e2.trans (Ex.new hn)) ⟨l, vs, H2, rfl, p, hn, e.trans e2, rfl⟩⟩
theorem evp_tup {ta : TA} {PA : List V → Hp → Prop} (h : EvAP ta σ H PA) (hl : ∀ vs H2, PA vs H2 → vs.length ≤ 100000) : EvP (tTup ta) σ H fun v H2 => ∃ p vs H3, v = .ref p ∧ PA vs H3 ∧ H3 p = none ∧ Ex H H3 ∧ H2 = upd H3 p (.tup vs) := fun H1 e Q q =>
  h H1 e _ fun vs H2 e2 p => ⟨sz_of (hl vs H2 p), fun l hn => q _ _ (e2.trans (Ex.new hn)) ⟨l, vs, H2, rfl, p, hn, e.trans e2, rfl⟩⟩
theorem EvP.imp {P P' : V → Hp → Prop} (h : EvP te σ H P) (i : ∀ v H2, Ex H H2 → P v H2 → P' v H2) : EvP te σ H P' := fun H1 e Q q => h H1 e Q fun v H2 e2 p => q v H2 e2 (i v H2 (e.trans e2) p)
theorem EvL.p {xs : List V} (h : EvL te σ H xs) : EvP te σ H fun v H2 => ∃ p, v = .ref p ∧ H p = none ∧ Ex H H2 ∧ H2 p = some (.lst xs) := fun H1 e Q q => h H1 e Q fun p H2 n e2 hp => q _ H2 e2 ⟨p, rfl, fresh_back e n, e.trans e2, hp⟩
/-! ### comprehensions of ints -/
theorem el_lcI {ta : TA} {j : Nat} {vs : List Nat} {n : Int} (f : Nat → Int) (h : EvA ta σ H [.int n]) (hn : 0 ≤ n ∧ n ≤ 40000) (hw : ∀ x, wipe ((wipe σ vs).set j (some x)) vs = wipe σ vs)
    (he : ∀ i : Nat, (i : Int) < n → Ev te ((wipe σ vs).set j (some (.int (i : Int)))) H (.int (f i))) : EvL (tLc (iRng1 ta) (gName j) tYes te vs) σ H (((List.range n.toNat).map f).map V.int) := by
  have g := el_lcR1 (t := tYes) (te := te) (fun _ => true) (fun i => V.int (f i)) h hn hw (fun i H1 _ _ H2 _ Q q => q H2 (Ex.refl H2)) (fun i H1 e hi _ => (he i hi).mono e)
  have e : given n.toNat (fun _ => true) (fun i => V.int (f i)) = ((List.range n.toNat).map f).map V.int := by
    unfold given
    rw [List.map_map, List.filter_eq_self.mpr (fun _ _ => rfl)]
    rfl
  rw [e] at g
  exact g
theorem sv_cut (M : L2.St → Hp → Prop) (h : Sv tu { D with nx := Kn M } σ H) (k : ∀ σ' H', M σ' H' → Sv tz D σ' H') : Sv (tCut tu tz) D σ H := fun H1 e => ⟨Kn M, h H1 e, fun σ' H3 ⟨H', m, e3⟩ => k σ' H' m H3 e3⟩
/-- xs[i] = e, the list xs tracked -/
theorem sv_setL {l : Addr} {xs : List V} {i : Int} {j : Nat} {ti : TE} (hl : H l = some (.lst xs)) (h : Ev te σ H v) (ho : Ev ta σ H (.ref l)) (hi : Ev ti σ H (.int i)) (hj : ixN xs.length i = some j) (k : Sv tNext D σ (upd H l (.lst (xs.set j v)))) :
    Sv (tAsg te (gSub ta ti rSetL)) D σ H := fun H1 e => h H1 e _ fun H2 e2 => ho H2 (e.trans e2) _ fun H3 e3 => hi H3 ((e.trans e2).trans e3) _ fun H4 e4 =>
  ⟨l, xs, i, j, rfl, rfl, (((e.trans e2).trans e3).trans e4) l _ hl, hj, k _ fun a o ha => by
    by_cases q : a = l
    · subst q
      rw [upd_same] at ha ⊢
      exact ha
    · rw [upd_ne q] at ha ⊢
      exact (((e.trans e2).trans e3).trans e4) a o ha⟩
end

/-! ### slices, repetitions -/
theorem cut_to {xs : List V} {m : Int} (h : 0 ≤ m) : cutV xs none (some m) = xs.take m.toNat := by
  obtain ⟨k, rfl⟩ := Int.eq_ofNat_of_zero_le h
  unfold cutV
  rw [HT.sIx_none, HT.sIx_nat, List.drop_zero, Nat.sub_zero]
  show List.take (min k xs.length) xs = List.take k xs
  by_cases c : k ≤ xs.length
  · rw [Nat.min_eq_left c]
  · rw [Nat.min_eq_right (by omega), List.take_length, List.take_of_length_le (by omega)]
theorem cut_from {xs : List V} {m : Int} (h : 0 ≤ m) : cutV xs (some m) none = xs.drop m.toNat := by
  obtain ⟨k, rfl⟩ := Int.eq_ofNat_of_zero_le h
  unfold cutV
  rw [HT.sIx_none, HT.sIx_nat]
  show List.take (xs.length - min k xs.length) (List.drop (min k xs.length) xs) = List.drop k xs
  by_cases c : k ≤ xs.length
  · rw [Nat.min_eq_left c]
    exact List.take_of_length_le (by rw [List.length_drop] <;> omega)
  · rw [Nat.min_eq_right (by omega), List.drop_eq_nil_of_le (Nat.le_refl _), List.drop_eq_nil_of_le (by omega), List.take_nil]
theorem flat_rep {α : Type} (x : α) : ∀ n : Nat, (List.replicate n [x]).flatten = List.replicate n x
  | 0 => rfl
  | n + 1 => by
    rw [List.replicate_succ, List.replicate_succ, List.flatten_cons, flat_rep x n]
    rfl
theorem map_rep (x : Int) (n : Nat) : List.replicate n (V.int x) = (List.replicate n x).map V.int := List.map_replicate.symm
theorem ixN_of {n : Nat} {i : Int} (h0 : 0 ≤ i) (h1 : i < n) : ixN n i = some i.toNat := by
  unfold ixN
  rw [if_pos h0, if_pos h1]
theorem map_set_int (xs : List Int) (j : Nat) (v : Int) : (xs.map V.int).set j (.int v) = (xs.set j v).map V.int := by
  rw [List.map_set]

/-! ### values with new objects: N holds what was made for them -/
def Unn (N H : Hp) : Hp := fun a => match H a with
  | some o => some o
  | none => N a
theorem unn_r {N H : Hp} : Ex H (Unn N H) := fun a o h => by
  show (match H a with | some o => some o | none => N a) = some o
  rw [h]
theorem unn_l {N H : Hp} (d : ∀ a, N a ≠ none → H a = none) : Ex N (Unn N H) := fun a o h => by
  show (match H a with | some o => some o | none => N a) = some o
  rw [d a (by rw [h]; exact fun z => by cases z)]
  exact h
theorem unn_none {N H : Hp} {a : Addr} (h : Unn N H a ≠ none) : H a ≠ none ∨ N a ≠ none := by
  cases e : H a with
  | some o => exact .inl fun z => by cases z
  | none =>
    refine .inr fun z => h ?_
    show (match H a with | some o => some o | none => N a) = none
    rw [e]
    exact z
theorem unn_ex {N H H' : Hp} (a : Ex H H') (b : Ex N H') : Ex (Unn N H) H' := fun x o h => by
  have h2 : (match H x with | some o => some o | none => N x) = some o := h
  cases e : H x with
  | some q =>
    rw [e] at h2
    exact a x o (e.trans h2)
  | none =>
    rw [e] at h2
    exact b x o h2
def nonew : Hp := fun _ => none
theorem nonew_ex {H : Hp} : Ex nonew H := fun a o h => by cases h
def one (p : Addr) (o : HO) : Hp := upd nonew p o
theorem one_at {p : Addr} {o : HO} : one p o p = some o := upd_same
theorem one_ne {p a : Addr} {o : HO} (h : one p o a ≠ none) : a = p := by
  by_cases q : a = p
  · exact q
  · exfalso
    refine h ?_
    unfold one
    rw [upd_ne q]
    rfl
theorem one_ex {p : Addr} {o : HO} {H : Hp} (h : H p = some o) : Ex (one p o) H := fun a x e => by
  have q := one_ne (p := p) (a := a) (o := o) (by rw [e]; exact fun z => by cases z)
  subst q
  rw [one_at] at e
  rw [h, e]
/-- a value, N its new objects, all of them new in the heap that is there -/
def EvN (te : TE) (σ : L2.St) (H : Hp) (P : V → Hp → Prop) : Prop := ∀ H1, Ex H H1 → ∀ Q : VK, (∀ v N H2, (∀ a, N a ≠ none → H1 a = none) → P v N → Ex N H2 → Ex H1 H2 → Q v H2) → te σ H1 Q
def RetN (P : V → Hp → Prop) (H : Hp) (Q : VK) : Prop := ∀ v N H2, (∀ a, N a ≠ none → H a = none) → P v N → Ex N H2 → Ex H H2 → Q v H2
def SpNn (n : Nat) (R : List V → Hp → (V → Hp → Prop) → Prop) : Sp := fun vs H Q _ => vs.length = n ∧ ∃ P, R vs H P ∧ RetN P H Q
section
variable {K : PySem.W.Frag} {σ : L2.St} {H H' : Hp} {ta tb te tx tl : TE} {t u : TT} {x y z v : V} {r : R2} {D : Ends} {tu tw tz ts : TS} {g : TG} {P P' : V → Hp → Prop}
theorem EvN.mono (e : Ex H H') (h : EvN te σ H P) : EvN te σ H' P := fun H1 a Q q => h H1 (e.trans a) Q q
theorem EvN.imp (h : EvN te σ H P) (i : ∀ v N, P v N → P' v N) : EvN te σ H P' := fun H1 e Q q => h H1 e Q fun v N H2 d p a b => q v N H2 d (i v N p) a b
theorem EvL.n {xs : List V} (h : EvL te σ H xs) : EvN te σ H (IsL xs) := fun H1 e Q q => h H1 e Q fun p H2 n e2 hp => q (.ref p) (one p (.lst xs)) H2 (fun a z => by rw [one_ne z]; exact n) ⟨p, rfl, one_at⟩ (one_ex hp) e2
theorem Ev.n (h : Ev te σ H v) : EvN te σ H fun v' _ => v' = v := fun H1 e Q q => h H1 e Q fun H2 e2 => q v nonew H2 (fun a z => (z rfl).elim) rfl nonew_ex e2
theorem EvN.p (h : EvN te σ H P) (m : ∀ v N N', Ex N N' → P v N → P v N') : EvP te σ H P := fun H1 e Q q => h H1 e Q fun v N H2 d p a b => q v H2 b (m v N H2 a p)
theorem EvN.l {xs : List V} (h : EvN te σ H (IsL xs)) : EvL te σ H xs := fun H1 e Q q => h H1 e Q fun v N H2 d ⟨p, ev, hp⟩ a b => by
  subst ev
  exact q p H2 (d p (by rw [hp]; exact fun z => by cases z)) b (a _ _ hp)
theorem sv_asgN {i : Nat} (h : EvN te σ H P) (k : ∀ v N H2, (∀ a, N a ≠ none → H a = none) → P v N → Ex N H2 → Ex H H2 → Sv tz D (σ.set i (some v)) H2) : Sv (tSeq (tAsg te (gName i)) tz) D σ H :=
  fun H1 e => h H1 e _ fun v N H2 d p a b => k v N H2 (fun x z => fresh_back e (d x z)) p a (e.trans b) H2 (Ex.refl H2)
theorem sv_asgN' {i : Nat} (h : EvN te σ H P) (k : ∀ v N H2, (∀ a, N a ≠ none → H a = none) → P v N → Ex N H2 → Ex H H2 → Sv tNext D (σ.set i (some v)) H2) : Sv (tAsg te (gName i)) D σ H :=
  fun H1 e => h H1 e _ fun v N H2 d p a b => k v N H2 (fun x z => fresh_back e (d x z)) p a (e.trans b) H2 (Ex.refl H2)
theorem sv_rqN {nx bk ct : L2.St → Hp → Prop} {Q : VK} (k : RetN P H Q) (h : EvN te σ H P) : Sv (tRet te) { nx := nx, rt := Q, bk := bk, ct := ct } σ H :=
  fun H1 e => h H1 e _ fun v N H2 d p a b => k v N H2 (fun x z => fresh_back e (d x z)) p a (e.trans b)
theorem retN_mono {Q : VK} (e : Ex H H') (h : RetN P H Q) : RetN P H' Q := fun v N H2 d p a b => h v N H2 (fun x z => fresh_back e (d x z)) p a (e.trans b)
def SpNP (sp : Sp) (vs : List V) (H : Hp) (P : V → Hp → Prop) : Prop := ∀ H1, Ex H H1 → ∀ Q : VK, RetN P H1 Q → ∀ E : XK, sp vs H1 Q E
theorem spn {n : Nat} {R : List V → Hp → (V → Hp → Prop) → Prop} {vs : List V} (hl : vs.length = n) (h : ∀ H1, Ex H H1 → R vs H1 P) : SpNP (SpNn n R) vs H P := fun H1 e Q q E => ⟨hl, P, h H1 e, q⟩
theorem en_cl {sp : Sp} {vs : List V} {E : XK} {ta : TA} (h : EvA ta σ H vs) (hs : SpNP sp vs H P) : EvN (tCall sp [] E ta) σ H P := fun H1 e Q q =>
  h H1 e _ fun H2 e2 => by
    rw [List.append_nil]
    exact hs H2 (e.trans e2) Q (fun v N H3 d p a b => q v N H3 (fun x z => fresh_back e2 (d x z)) p a (e2.trans b)) E
/-- [e for x in range(n)], e with new objects: a word of the items so far and of what was made for them -/
theorem en_lcR1 {ta : TA} {j : Nat} {vs : List Nat} {n : Int} (h : EvA ta σ H [.int n]) (hn : -100000 ≤ n ∧ n ≤ 40000) (hw : ∀ x, wipe ((wipe σ vs).set j (some x)) vs = wipe σ vs) (I : Nat → List V → Hp → Prop) (h0 : I 0 [] nonew)
    (he : ∀ (i : Nat) acc N, (i : Int) < n → I i acc N → EvN te ((wipe σ vs).set j (some (.int (i : Int)))) H fun v N' => ∀ N'', Ex N N'' → Ex N' N'' → I (i + 1) (acc ++ [v]) N'') :
    EvN (tLc (iRng1 ta) (gName j) tYes te vs) σ H fun v N => ∃ Dl acc, v = .ref Dl ∧ N Dl = some (.lst acc) ∧ ∃ N0, Ex N0 N ∧ I n.toNat acc N0 := fun H0 e Q q => h H0 e _ fun H1 e1 => ⟨n, rfl, by omega, by omega, fun Dl hD => by
  refine lc_range (lo := 0) (n := n.toNat) (fun i H' => ∃ acc N, Ex H1 H' ∧ H' Dl = some (.lst acc) ∧ (∀ a, N a ≠ none → H1 a = none ∧ a ≠ Dl) ∧ Ex N H' ∧ I i acc N ∧ acc.length ≤ i) ⟨[], nonew, Ex.new hD, upd_same, fun a z => (z rfl).elim, nonew_ex, h0, Nat.le_refl _⟩ ?_ ?_
  · rintro i H' hi ⟨acc, N, p1, p2, p3, p4, p5, p6⟩
    have e0 : (0 : Int) + (i : Int) = (i : Int) := Int.zero_add _
    show wipe ((wipe σ vs).set j (some (.int ((0 : Int) + (i : Int))))) vs = wipe σ vs ∧ _
    rw [e0]
    refine ⟨hw _, ?_⟩
    show te ((wipe σ vs).set j (some (.int (i : Int)))) H' _
    refine he i acc N (by omega) p5 H' ((e.trans e1).trans p1) _ fun v N' H4 d p a b => ⟨acc, b _ _ p2, sz_lt (by omega), acc ++ [v], Unn N' N, Ex.mut (p1.trans b) hD, upd_same, fun x z => ?_, ?_, p (Unn N' N) unn_r (unn_l fun x z => ?_), by rw [List.length_append]; simp only [List.length_singleton]; omega⟩
    · rcases unn_none z with z | z
      · exact p3 x z
      · refine ⟨fresh_back p1 (d x z), fun q => ?_⟩
        have w := d x z
        rw [q, p2] at w
        cases w
    · refine unn_ex (fun x o z => ?_) (fun x o z => ?_)
      · rw [upd_ne (p3 x (by rw [z]; exact fun w => by cases w)).2]
        exact b _ _ (p4 _ _ z)
      · have w := d x (by rw [z]; exact fun w => by cases w)
        rw [upd_ne (fun q => by rw [q, p2] at w; cases w)]
        exact a _ _ z
    · have w := d x z
      cases k : N x with
      | none => rfl
      | some o => rw [p4 _ _ k] at w; cases w
  · rintro H' ⟨acc, N, p1, p2, p3, p4, p5, p6⟩
    refine q (.ref Dl) (Unn (one Dl (.lst acc)) N) H' (fun a z => ?_) ⟨Dl, acc, rfl, ?_, N, unn_r, p5⟩ (unn_ex p4 (one_ex p2)) (e1.trans p1)
    · rcases unn_none z with z | z
      · exact fresh_back e1 (p3 a z).1
      · rw [one_ne z]
        exact fresh_back e1 hD
    · refine unn_l (fun a z => ?_) _ _ one_at
      have w := one_ne z
      subst w
      cases k : N a with
      | none => rfl
      | some o => exact ((p3 a (by rw [k]; exact fun w => by cases w)).2 rfl).elim⟩
/-- [e for x in xs if t], the same over a list that stands -/
theorem en_lcL {a : Addr} {xs : List V} {j : Nat} {vs : List Nat} (h : Ev tl σ H (.ref a)) (hx : SqL K H a xs) (hz : xs.length ≤ 40000) (hw : ∀ x, wipe ((wipe σ vs).set j (some x)) vs = wipe σ vs) (f : Nat → Bool) (I : Nat → List V → Hp → Prop) (h0 : I 0 [] nonew)
    (ht : ∀ (i : Nat) x, xs[i]? = some x → EvT t ((wipe σ vs).set j (some x)) H (f i))
    (he : ∀ (i : Nat) x acc N, xs[i]? = some x → f i = true → I i acc N → EvN te ((wipe σ vs).set j (some x)) H fun v N' => ∀ N'', Ex N N'' → Ex N' N'' → I (i + 1) (acc ++ [v]) N'')
    (hs : ∀ (i : Nat) acc N, f i = false → I i acc N → I (i + 1) acc N) :
    EvN (tLc (iList K tl) (gName j) t te vs) σ H fun v N => ∃ Dl acc, v = .ref Dl ∧ N Dl = some (.lst acc) ∧ ∃ N0, Ex N0 N ∧ I xs.length acc N0 := fun H0 e Q q => h H0 e _ fun H1 e1 => ⟨a, rfl, ⟨xs, ex_l (e.trans e1) hx⟩, fun Dl hD => by
  refine lc_list (K := K) (a := a) (xs := xs) (fun i H' => ∃ acc N, Ex H1 H' ∧ H' Dl = some (.lst acc) ∧ (∀ a, N a ≠ none → H1 a = none ∧ a ≠ Dl) ∧ Ex N H' ∧ I i acc N ∧ acc.length ≤ i) ⟨[], nonew, Ex.new hD, upd_same, fun a z => (z rfl).elim, nonew_ex, h0, Nat.le_refl _⟩ (fun i H' _ ⟨_, _, p1, _⟩ => ex_l ((e.trans e1).trans p1) hx) ?_ ?_
  · rintro i x H' hi ⟨acc, N, p1, p2, p3, p4, p5, p6⟩
    refine ⟨hw x, ?_⟩
    have hl := (List.getElem?_eq_some_iff.mp hi).1
    refine ht i x hi H' ((e.trans e1).trans p1) _ fun H3 e3 => ?_
    cases hf : f i with
    | false => exact ⟨acc, N, p1.trans e3, e3 _ _ p2, p3, p4.trans e3, hs i acc N hf p5, by omega⟩
    | true =>
      show te ((wipe σ vs).set j (some x)) H3 _
      refine he i x acc N hi hf p5 H3 (((e.trans e1).trans p1).trans e3) _ fun v N' H4 d p a b => ⟨acc, b _ _ (e3 _ _ p2), sz_lt (by omega), acc ++ [v], Unn N' N, Ex.mut ((p1.trans e3).trans b) hD, upd_same, fun x z => ?_, ?_, p (Unn N' N) unn_r (unn_l fun x z => ?_), by rw [List.length_append]; simp only [List.length_singleton]; omega⟩
      · rcases unn_none z with z | z
        · exact p3 x z
        · refine ⟨fresh_back (p1.trans e3) (d x z), fun q => ?_⟩
          have w := d x z
          rw [q, e3 _ _ p2] at w
          cases w
      · refine unn_ex (fun x o z => ?_) (fun x o z => ?_)
        · rw [upd_ne (p3 x (by rw [z]; exact fun w => by cases w)).2]
          exact b _ _ (e3 _ _ (p4 _ _ z))
        · have w := d x (by rw [z]; exact fun w => by cases w)
          rw [upd_ne (fun q => by rw [q, e3 _ _ p2] at w; cases w)]
          exact a _ _ z
      · have w := d x z
        cases k : N x with
        | none => rfl
        | some o => rw [e3 _ _ (p4 _ _ k)] at w; cases w
  · rintro H' ⟨acc, N, p1, p2, p3, p4, p5, p6⟩
    refine q (.ref Dl) (Unn (one Dl (.lst acc)) N) H' (fun a z => ?_) ⟨Dl, acc, rfl, ?_, N, unn_r, p5⟩ (unn_ex p4 (one_ex p2)) (e1.trans p1)
    · rcases unn_none z with z | z
      · exact fresh_back e1 (p3 a z).1
      · rw [one_ne z]
        exact fresh_back e1 hD
    · refine unn_l (fun a z => ?_) _ _ one_at
      have w := one_ne z
      subst w
      cases k : N a with
      | none => rfl
      | some o => exact ((p3 a (by rw [k]; exact fun w => by cases w)).2 rfl).elim⟩
/-- while, by a word and a number that falls -/
theorem sv_while (W : Nat → L2.St → Hp → Prop) (m0 : Nat) (h0 : W m0 σ H)
    (hs : ∀ m σ' H', W m σ' H' → ∃ (b : Bool), EvT t σ' H' b ∧ (b = true → Sv tu { D with nx := Kn fun σ2 H2 => ∃ m', m' < m ∧ W m' σ2 H2, ct := Kn fun σ2 H2 => ∃ m', m' < m ∧ W m' σ2 H2, bk := tz D } σ' H') ∧ (b = false → Sv tz D σ' H')) : Sv (tSeq (tWhile t tu) tz) D σ H := fun H1 e => by
  refine ⟨fun m => Kn (W m), ⟨m0, H, h0, e⟩, ?_⟩
  rintro m σ' H2 ⟨H', w, e2⟩
  obtain ⟨b, ht, k1, k2⟩ := hs m σ' H' w
  refine ht H2 e2 _ fun H3 e3 => ?_
  cases b with
  | true => exact ⟨_, fun σ2 H4 ⟨H5, ⟨m', l, w'⟩, e5⟩ => ⟨m', l, H5, w', e5⟩, k1 rfl H3 (e2.trans e3)⟩
  | false => exact k2 rfl H3 (e2.trans e3)
/-! ### lists of lists of ints -/
def Rw (K : PySem.W.Frag) (H : Hp) (vs : List V) (rss : List (List Int)) : Prop := vs.length = rss.length ∧ ∀ (i : Nat) (rs : List Int), rss[i]? = some rs → ∃ q : Addr, vs[i]? = some (V.ref q) ∧ SqL K H q (rs.map V.int)
theorem Rw.mono {vs : List V} {rss : List (List Int)} (e : Ex H H') (h : Rw K H vs rss) : Rw K H' vs rss := ⟨h.1, fun i rs hi => by
  obtain ⟨q, a, b⟩ := h.2 i rs hi
  exact ⟨q, a, ex_l e b⟩⟩
theorem Rw.nil : Rw K H [] [] := ⟨rfl, fun i rs h => by simp at h⟩
theorem Rw.snoc {vs : List V} {rss : List (List Int)} {q : Addr} {rs : List Int} (h : Rw K H vs rss) (hq : SqL K H q (rs.map V.int)) : Rw K H (vs ++ [.ref q]) (rss ++ [rs]) := by
  refine ⟨by rw [List.length_append, List.length_append, h.1]; rfl, fun i r hi => ?_⟩
  by_cases c : i < rss.length
  · rw [List.getElem?_append_left c] at hi
    rw [List.getElem?_append_left (by rw [h.1]; exact c)]
    exact h.2 i r hi
  · rw [List.getElem?_append_right (by omega)] at hi
    have c2 : i - rss.length = 0 := by
      have := (List.getElem?_eq_some_iff.mp hi).1
      simp only [List.length_singleton] at this
      omega
    rw [c2] at hi
    have hr : rs = r := Option.some.inj hi
    subst hr
    refine ⟨q, ?_, hq⟩
    rw [List.getElem?_append_right (by rw [h.1]; omega), h.1, c2]
    rfl
theorem rw_dp : ∀ {vs : List V} {rss : List (List Int)}, Rw K H vs rss → DpAll K H vs (rss.map fun rs => PyData.list (rs.map PyData.int))
  | [], [], _ => .nil
  | [], r :: rss, h => by cases h.1
  | v :: vs, [], h => by cases h.1
  | v :: vs, r :: rss, h => by
    obtain ⟨q, e, s⟩ := h.2 0 r rfl
    have e2 : v = .ref q := Option.some.inj e
    subst e2
    refine .cons (dp_ints s) (rw_dp ⟨Nat.succ.inj h.1, fun i rs hi => h.2 (i + 1) rs hi⟩)
theorem shp_rows (rss : List (List Int)) : Shp 2 (.list (rss.map fun rs => PyData.list (rs.map PyData.int))) := shp_list fun d hd => by
  obtain ⟨rs, _, rfl⟩ := List.mem_map.mp hd
  exact shp_listI rs
end

/-! ### ends that may be none, triples, wishes -/
def ov : Option Int → V
  | none => .non
  | some i => .int i
theorem ov_get {o : Option Int} (h : ¬ o = none) : ov o = .int (o.getD 0) := by
  cases o with
  | none => exact (h rfl).elim
  | some i => rfl
structure Tri where
  c : Int
  lo : Option Int
  hi : Option Int
def tv (t : Tri) : List V := [.int t.c, ov t.lo, ov t.hi]
def IsTri (t : Tri) : V → Hp → Prop := fun v N => ∃ p, v = .ref p ∧ N p = some (.tup (tv t))
section
variable {K : PySem.W.Frag} {σ : L2.St} {H H' : Hp} {ta tb te tx tl : TE} {t u : TT} {x y z v : V} {r : R2} {D : Ends} {tu tw tz ts : TS} {g : TG} {P P' : V → Hp → Prop}
theorem rs_ov {o : Option Int} : RV rSome (ov o) .non H (.bl (decide (¬ o = none))) := by
  cases o with
  | none => exact rs_no
  | some i =>
    have e : (decide (¬ (some i : Option Int) = none)) = decide True := rfl
    rw [e]
    exact rs_yes (fun h => by cases h)
theorem rn_ov {o : Option Int} : RV rNone (ov o) .non H (.bl (decide (o = none))) := by
  cases o with
  | none => exact rn_yes
  | some i =>
    have e : (decide ((some i : Option Int) = none)) = decide False := rfl
    rw [e]
    exact rn_no (fun h => by cases h)
def Wt (K : PySem.W.Frag) (H : Hp) (vs : List V) (ts : List Tri) : Prop := vs.length = ts.length ∧ ∀ (i : Nat) (t : Tri), ts[i]? = some t → ∃ q : Addr, vs[i]? = some (V.ref q) ∧ SqT K H q (tv t)
theorem Wt.mono {vs : List V} {ts : List Tri} (e : Ex H H') (h : Wt K H vs ts) : Wt K H' vs ts := ⟨h.1, fun i t hi => by
  obtain ⟨q, a, b⟩ := h.2 i t hi
  exact ⟨q, a, ex_t e b⟩⟩
theorem Wt.nil : Wt K H [] [] := ⟨rfl, fun i t h => by simp at h⟩
theorem Wt.snoc {vs : List V} {ts : List Tri} {q : Addr} {t : Tri} (h : Wt K H vs ts) (hq : SqT K H q (tv t)) : Wt K H (vs ++ [.ref q]) (ts ++ [t]) := by
  refine ⟨by rw [List.length_append, List.length_append, h.1]; rfl, fun i r hi => ?_⟩
  by_cases c : i < ts.length
  · rw [List.getElem?_append_left c] at hi
    rw [List.getElem?_append_left (by rw [h.1]; exact c)]
    exact h.2 i r hi
  · rw [List.getElem?_append_right (by omega)] at hi
    have c2 : i - ts.length = 0 := by
      have := (List.getElem?_eq_some_iff.mp hi).1
      simp only [List.length_singleton] at this
      omega
    rw [c2] at hi
    have hr : t = r := Option.some.inj hi
    subst hr
    refine ⟨q, ?_, hq⟩
    rw [List.getElem?_append_right (by rw [h.1]; omega), h.1, c2]
    rfl
theorem Wt.at {vs : List V} {ts : List Tri} {i : Nat} {x : V} (h : Wt K H vs ts) (hx : vs[i]? = some x) : ∃ t q, ts[i]? = some t ∧ x = .ref q ∧ SqT K H q (tv t) := by
  have hi : i < ts.length := by
    have := (List.getElem?_eq_some_iff.mp hx).1
    have := h.1
    omega
  obtain ⟨q, a, b⟩ := h.2 i _ (List.getElem?_eq_getElem hi)
  rw [hx] at a
  exact ⟨_, q, List.getElem?_eq_getElem hi, Option.some.inj a, b⟩
def ovD : Option Int → PyData
  | none => .none
  | some i => .int i
def triD (t : Tri) : PyData := .tuple [.int t.c, ovD t.lo, ovD t.hi]
theorem dp_ov (o : Option Int) : Dp K H (ov o) (ovD o) := by
  cases o with
  | none => exact .non
  | some i => exact .int i
theorem dp_tri {q : Addr} {t : Tri} (h : SqT K H q (tv t)) : Dp K H (.ref q) (triD t) := .tup h (.cons (.int _) (.cons (dp_ov _) (.cons (dp_ov _) .nil)))
theorem wt_dp : ∀ {vs : List V} {ts : List Tri}, Wt K H vs ts → DpAll K H vs (ts.map triD)
  | [], [], _ => .nil
  | [], r :: rss, h => by cases h.1
  | v :: vs, [], h => by cases h.1
  | v :: vs, r :: rss, h => by
    obtain ⟨q, e, s⟩ := h.2 0 r rfl
    have e2 : v = .ref q := Option.some.inj e
    subst e2
    exact .cons (dp_tri s) (wt_dp ⟨Nat.succ.inj h.1, fun i rs hi => h.2 (i + 1) rs hi⟩)
theorem shp_ov {n : Nat} (o : Option Int) : Shp n (ovD o) := by
  cases o with
  | none => exact shp_none
  | some i => exact shp_int i
theorem shp_tri (t : Tri) : Shp 1 (triD t) := shp_tuple fun d hd => by
  rcases List.mem_cons.mp hd with h | hd
  · rw [h]; exact shp_int _
  rcases List.mem_cons.mp hd with h | hd
  · rw [h]; exact shp_ov _
  rcases List.mem_cons.mp hd with h | hd
  · rw [h]; exact shp_ov _
  · cases hd
theorem shp_wish (ts : List Tri) : Shp 2 (.list (ts.map triD)) := shp_list fun d hd => by
  obtain ⟨t, _, rfl⟩ := List.mem_map.mp hd
  exact shp_tri t
theorem EvU.n {xs : List V} (h : EvU te σ H xs) : EvN te σ H fun v N => ∃ p, v = .ref p ∧ N p = some (.tup xs) := fun H1 e Q q => h H1 e Q fun p H2 n e2 hp => q (.ref p) (one p (.tup xs)) H2 (fun a z => by rw [one_ne z]; exact n) ⟨p, rfl, one_at⟩ (one_ex hp) e2
theorem tv0 (t : Tri) : atI (tv t) 0 = some (.int t.c) := rfl
theorem tv1 (t : Tri) : atI (tv t) 1 = some (ov t.lo) := rfl
theorem tv2 (t : Tri) : atI (tv t) 2 = some (ov t.hi) := rfl
end
/-- whether a row fits a wish -/
def fit1 (rs : List Int) (t : Tri) : Bool := (match t.lo with | none => true | some l => decide (l ≤ rs.getD t.c.toNat 0)) && (match t.hi with | none => true | some h => decide (rs.getD t.c.toNat 0 ≤ h))
def fitsM (rs : List Int) (ts : List Tri) : Bool := ts.all (fit1 rs)
theorem fit1_eq (rs : List Int) (t : Tri) : fit1 rs t = decide (¬ (¬ t.lo = none ∧ rs.getD t.c.toNat 0 < t.lo.getD 0) ∧ ¬ (¬ t.hi = none ∧ t.hi.getD 0 < rs.getD t.c.toNat 0)) := by
  unfold fit1
  cases t.lo <;> cases t.hi <;> simp
theorem fits_take {rs : List Int} {ts : List Tri} {i : Nat} {t : Tri} (h : ts[i]? = some t) : fitsM rs (ts.take (i + 1)) = (fitsM rs (ts.take i) && fit1 rs t) := by
  unfold fitsM
  rw [List.take_add_one, h, List.all_append]
  simp
theorem fits_no {rs : List Int} {ts : List Tri} {i : Nat} {t : Tri} (h : ts[i]? = some t) (hf : fit1 rs t = false) : fitsM rs ts = false := by
  unfold fitsM
  rw [List.all_eq_false]
  exact ⟨t, List.mem_of_getElem? h, by rw [hf]; decide⟩

section
variable {X : Cx}
def rTupS (K : PySem.W.Frag) : List V → Hp → VK → Prop := fun xs H Q => ∃ p ys, xs = [.ref p] ∧ ((SqL K H p ys ∧ ∀ l, H l = none → Q (.ref l) (upd H l (.tup ys))) ∨ (SqT K H p ys ∧ Q (.ref p) H))
theorem c_tuple : CallR X (.type "tuple") (rTupS X.K) := call_tuple_of
end
section
variable {K : PySem.W.Frag} {σ : L2.St} {H H' : Hp} {ta tb te tx tl : TE} {t u : TT} {x y z v : V} {r : R2} {D : Ends} {tu tw tz ts : TS} {g : TG} {P P' : V → Hp → Prop}
theorem eu_tuple {p : Addr} {xs : List V} (ha : Ev ta σ H (.ref p)) (h : SqL K H p xs) : EvU (tCB (rTupS K) (tCons ta tNil)) σ H xs := fun H1 e Q q =>
  ha H1 e _ fun H2 e2 => ⟨p, xs, rfl, .inl ⟨ex_l (e.trans e2) h, fun l hl => q l _ (fresh_back e2 hl) (e2.trans (Ex.new hl)) upd_same⟩⟩
theorem ev_tupT {p : Addr} {xs : List V} (ha : Ev ta σ H (.ref p)) (h : SqT K H p xs) : Ev (tCB (rTupS K) (tCons ta tNil)) σ H (.ref p) := fun H1 e Q q =>
  ha H1 e _ fun H2 e2 => ⟨p, xs, rfl, .inr ⟨ex_t (e.trans e2) h, q H2 e2⟩⟩
theorem EvU.p {xs : List V} (h : EvU te σ H xs) : EvP te σ H fun v H2 => ∃ p, v = .ref p ∧ H p = none ∧ Ex H H2 ∧ H2 p = some (.tup xs) := fun H1 e Q q => h H1 e Q fun p H2 n e2 hp => q _ H2 e2 ⟨p, rfl, fresh_back e n, e.trans e2, hp⟩
theorem sv_asgP' {i : Nat} {P : V → Hp → Prop} (h : EvP te σ H P) (k : ∀ v H2, Ex H H2 → P v H2 → Sv tNext D (σ.set i (some v)) H2) : Sv (tAsg te (gName i)) D σ H :=
  fun H1 e => h H1 e _ fun v H2 e2 p => k v H2 (e.trans e2) p H2 (Ex.refl H2)
/-- a value known by a promise of values, as P -/
theorem spp_v {sp : Sp} {vs : List V} (h : SpV sp vs H z) : SpP sp vs H fun v _ => v = z := fun H1 e Q q E => h H1 e Q (fun H2 e2 => q z H2 e2 rfl) E
end

/-! ### one object changed -/
def Exb (l : Addr) (H H' : Hp) : Prop := ∀ a o, a ≠ l → H a = some o → H' a = some o
theorem exb_of {l : Addr} {H0 H H' : Hp} (e : Exb l H H') (e0 : Ex H0 H) (n : H0 l = none) : Ex H0 H' := fun a o h => e a o (ne_of_none h n) (e0 a o h)
theorem exb_t {K : PySem.W.Frag} {l q : Addr} {H H' : Hp} {xs ys : List V} (h : H l = some (.lst xs)) (e : Exb l H H') (hq : SqT K H q ys) : SqT K H' q ys := by
  rcases hq with (hq | ⟨o, hq⟩) | hq
  · exact .inl (.inl (e _ _ (fun z => by rw [z, h] at hq; cases hq) hq))
  · exact .inl (.inr ⟨o, e _ _ (fun z => by rw [z, h] at hq; cases hq) hq⟩)
  · exact .inr hq
theorem wt_exb {K : PySem.W.Frag} {l : Addr} {H H' : Hp} {xs vs : List V} {ts : List Tri} (h : H l = some (.lst xs)) (e : Exb l H H') (hw : Wt K H vs ts) : Wt K H' vs ts := ⟨hw.1, fun i t hi => by
  obtain ⟨q, a, b⟩ := hw.2 i t hi
  exact ⟨q, a, exb_t h e b⟩⟩
theorem tyx_t {K : PySem.W.Frag} {H : Hp} {p : Addr} {xs : List V} (h : SqT K H p xs) : TyX K H (.ref p) (.type "tuple") := by
  rcases h with (h | ⟨o, h⟩) | ⟨o, its, n, h, c, _⟩
  · exact .base (.tup h)
  · exact .fTuple h
  · exact .kTuple h c
theorem tyx_l {K : PySem.W.Frag} {H : Hp} {p : Addr} {xs : List V} (h : SqL K H p xs) : TyX K H (.ref p) (.type "list") := by
  rcases h with (h | ⟨o, h⟩) | ⟨o, its, n, h, c, _⟩
  · exact .base (.lst h)
  · exact .base (.frz h)
  · exact .kList h c
section
variable {K : PySem.W.Frag} {σ : L2.St} {H H' : Hp} {ta tb te tx tl : TE} {t u : TT} {x y z v : V} {r : R2} {D : Ends} {tu tw tz ts : TS} {g : TG} {P P' : V → Hp → Prop}
/-- xs.append(e), e with new objects -/
theorem sv_appN {l : Addr} {xs : List V} (hl : H l = some (.lst xs)) (ha : Ev ta σ H (.ref l)) (h : EvN te σ H P) (hz : xs.length < 100000)
    (k : ∀ v N H2, (∀ a, N a ≠ none → H a = none) → P v N → Ex N H2 → Exb l H H2 → H2 l = some (.lst (xs ++ [v])) → Sv tz D σ H2) : Sv (tSeq (tDrop (tBM K "list" rAppend ta (tCons te tNil))) tz) D σ H := fun H1 e =>
  ha H1 e _ fun H2 e2 => ⟨Or.inl ⟨rfl, xs, sq_of (e2 _ _ (e _ _ hl))⟩, h H2 (e.trans e2) _ fun v N H3 d p a b => ⟨l, xs, v, rfl, rfl, b _ _ (e2 _ _ (e _ _ hl)), sz_lt hz, k v N _ (fun x z => fresh_back (e.trans e2) (d x z)) p (fun x o z => by
    have w := d x (by rw [z]; exact fun w => by cases w)
    rw [upd_ne (fun q => by rw [q, e2 _ _ (e _ _ hl)] at w; cases w)]
    exact a _ _ z) (fun x o n z => by
    rw [upd_ne n]
    exact b _ _ (e2 _ _ (e _ _ z))) upd_same _ (Ex.refl _)⟩⟩
theorem sv_appN' {l : Addr} {xs : List V} (hl : H l = some (.lst xs)) (ha : Ev ta σ H (.ref l)) (h : EvN te σ H P) (hz : xs.length < 100000)
    (k : ∀ v N H2, (∀ a, N a ≠ none → H a = none) → P v N → Ex N H2 → Exb l H H2 → H2 l = some (.lst (xs ++ [v])) → Sv tNext D σ H2) : Sv (tDrop (tBM K "list" rAppend ta (tCons te tNil))) D σ H := fun H1 e =>
  ha H1 e _ fun H2 e2 => ⟨Or.inl ⟨rfl, xs, sq_of (e2 _ _ (e _ _ hl))⟩, h H2 (e.trans e2) _ fun v N H3 d p a b => ⟨l, xs, v, rfl, rfl, b _ _ (e2 _ _ (e _ _ hl)), sz_lt hz, k v N _ (fun x z => fresh_back (e.trans e2) (d x z)) p (fun x o z => by
    have w := d x (by rw [z]; exact fun w => by cases w)
    rw [upd_ne (fun q => by rw [q, e2 _ _ (e _ _ hl)] at w; cases w)]
    exact a _ _ z) (fun x o n z => by
    rw [upd_ne n]
    exact b _ _ (e2 _ _ (e _ _ z))) upd_same _ (Ex.refl _)⟩⟩
theorem sv_drop (h : Ev te σ H v) (k : Sv tz D σ H) : Sv (tSeq (tDrop te) tz) D σ H := fun H1 e => h H1 e _ fun H2 e2 => k H2 (e.trans e2)
theorem ev_max {p : Addr} {ns : List Int} {m : Int} (ha : Ev ta σ H (.ref p)) (h : SqL K H p (ns.map V.int)) (h0 : 0 < ns.length) (hm : ∀ i, i ∈ ns → (∀ y, y ∈ ns → y ≤ i) → i = m) : Ev (tCB (rMax K) (tCons ta tNil)) σ H (.int m) := fun H1 e Q q =>
  ha H1 e _ fun H2 e2 => ⟨p, ns, rfl, ex_l (e.trans e2) h, h0, fun i hi hle => by rw [hm i hi hle]; exact q H2 e2⟩
theorem ev_min {p : Addr} {ns : List Int} {m : Int} (ha : Ev ta σ H (.ref p)) (h : SqL K H p (ns.map V.int)) (h0 : 0 < ns.length) (hm : ∀ i, i ∈ ns → (∀ y, y ∈ ns → i ≤ y) → i = m) : Ev (tCB (rMin K) (tCons ta tNil)) σ H (.int m) := fun H1 e Q q =>
  ha H1 e _ fun H2 e2 => ⟨p, ns, rfl, ex_l (e.trans e2) h, h0, fun i hi hle => by rw [hm i hi hle]; exact q H2 e2⟩
end
/-- a promise of which something holds in the heap behind it -/
def SpQ (n : Nat) (R : List V → Hp → (V → Hp → Prop) → Prop) : Sp := fun vs H Q _ => vs.length = n ∧ ∃ P, R vs H P ∧ ∀ v H2, Ex H H2 → P v H2 → Q v H2
theorem spq {n : Nat} {R : List V → Hp → (V → Hp → Prop) → Prop} {vs : List V} {H : Hp} {P : V → Hp → Prop} (hl : vs.length = n) (h : ∀ H1, Ex H H1 → ∃ P', R vs H1 P' ∧ ∀ v H2, P' v H2 → P v H2) : SpP (SpQ n R) vs H P := fun H1 e Q q E => by
  obtain ⟨P', r, i⟩ := h H1 e
  exact ⟨hl, P', r, fun v H2 e2 p => q v H2 e2 (i v H2 p)⟩
/-! ### the merged wish -/
def maxL : List Int → Int
  | [] => 0
  | [x] => x
  | x :: y :: r => max x (maxL (y :: r))
def minL : List Int → Int
  | [] => 0
  | [x] => x
  | x :: y :: r => min x (minL (y :: r))
theorem maxL_le : ∀ {l : List Int} {y : Int}, y ∈ l → y ≤ maxL l
  | [], y, h => by cases h
  | [x], y, h => by
    have e : y = x := by simpa using h
    rw [e]
    exact Int.le_refl _
  | x :: z :: r, y, h => by
    show y ≤ max x (maxL (z :: r))
    rcases List.mem_cons.mp h with e | h
    · omega
    · have := maxL_le h
      omega
theorem maxL_mem : ∀ {l : List Int}, 0 < l.length → maxL l ∈ l
  | [], h => absurd h (Nat.lt_irrefl _)
  | [x], _ => List.mem_cons_self ..
  | x :: z :: r, _ => by
    have h := maxL_mem (l := z :: r) (Nat.succ_pos _)
    show max x (maxL (z :: r)) ∈ _
    by_cases c : maxL (z :: r) ≤ x
    · rw [Int.max_eq_left c]
      exact List.mem_cons_self ..
    · rw [Int.max_eq_right (by omega)]
      exact List.mem_cons_of_mem _ h
theorem minL_le : ∀ {l : List Int} {y : Int}, y ∈ l → minL l ≤ y
  | [], y, h => by cases h
  | [x], y, h => by
    have e : y = x := by simpa using h
    rw [e]
    exact Int.le_refl _
  | x :: z :: r, y, h => by
    show min x (minL (z :: r)) ≤ y
    rcases List.mem_cons.mp h with e | h
    · omega
    · have := minL_le h
      omega
theorem minL_mem : ∀ {l : List Int}, 0 < l.length → minL l ∈ l
  | [], h => absurd h (Nat.lt_irrefl _)
  | [x], _ => List.mem_cons_self ..
  | x :: z :: r, _ => by
    have h := minL_mem (l := z :: r) (Nat.succ_pos _)
    show min x (minL (z :: r)) ∈ _
    by_cases c : x ≤ minL (z :: r)
    · rw [Int.min_eq_left c]
      exact List.mem_cons_self ..
    · rw [Int.min_eq_right (by omega)]
      exact List.mem_cons_of_mem _ h
theorem maxL_eq {l : List Int} {m : Int} (h : m ∈ l) (hm : ∀ y, y ∈ l → y ≤ m) : m = maxL l := by
  have h1 := maxL_le h
  have h2 := hm _ (maxL_mem (List.length_pos_of_mem h))
  omega
theorem minL_eq {l : List Int} {m : Int} (h : m ∈ l) (hm : ∀ y, y ∈ l → m ≤ y) : m = minL l := by
  have h1 := minL_le h
  have h2 := hm _ (minL_mem (List.length_pos_of_mem h))
  omega
def lowsM (c : Int) (ts : List Tri) : List Int := (ts.filter fun t => decide (t.c = c ∧ ¬ t.lo = none)).map fun t => t.lo.getD 0
def highsM (c : Int) (ts : List Tri) : List Int := (ts.filter fun t => decide (t.c = c ∧ ¬ t.hi = none)).map fun t => t.hi.getD 0
def endLo (c : Int) (ts : List Tri) : Option Int := if 0 < (lowsM c ts).length then some (maxL (lowsM c ts)) else none
def endHi (c : Int) (ts : List Tri) : Option Int := if 0 < (highsM c ts).length then some (minL (highsM c ts)) else none
def spoken (c : Int) (ts : List Tri) : Prop := 0 < (ts.filter fun t => decide (t.c = c)).length
instance (c : Int) (ts : List Tri) : Decidable (spoken c ts) := inferInstanceAs (Decidable (0 < _))
def mergedTo (ts : List Tri) : Nat → List Tri
  | 0 => []
  | k + 1 => mergedTo ts k ++ if spoken (k : Int) ts then [⟨(k : Int), endLo k ts, endHi k ts⟩] else []
def mergedM (ts : List Tri) : List Tri := mergedTo ts 6
theorem mergedTo_len (ts : List Tri) : ∀ k, (mergedTo ts k).length ≤ k
  | 0 => Nat.le_refl _
  | k + 1 => by
    have := mergedTo_len ts k
    show (mergedTo ts k ++ _).length ≤ k + 1
    rw [List.length_append]
    split
    · simp only [List.length_singleton]
      omega
    · simp only [List.length_nil]
      omega
def t0 : Tri := ⟨0, none, none⟩
theorem given_ints (ts : List Tri) (p : Tri → Bool) (g : Tri → Int) : given ts.length (fun i => p (ts.getD i t0)) (fun i => V.int (g (ts.getD i t0))) = ((ts.filter p).map g).map V.int := by
  have e : (List.range ts.length).map (fun i => ts.getD i t0) = ts := by
    refine List.ext_getElem? fun i => ?_
    rw [List.getElem?_map]
    by_cases h : i < ts.length
    · rw [List.getElem?_range h, List.getElem?_eq_getElem h]
      show some (ts.getD i t0) = _
      rw [List.getD_eq_getElem?_getD, List.getElem?_eq_getElem h]
      rfl
    · rw [List.getElem?_eq_none (by rw [List.length_range]; omega), List.getElem?_eq_none (by omega)]
      rfl
  have e2 : ts.filter p = ((List.range ts.length).filter fun i => p (ts.getD i t0)).map fun i => ts.getD i t0 := by
    have h := congrArg (List.filter p) e
    rw [List.filter_map] at h
    exact h.symm
  rw [e2, List.map_map, List.map_map]
  rfl
theorem getD_at {ts : List Tri} {i : Nat} {t : Tri} (h : ts[i]? = some t) : ts.getD i t0 = t := by
  rw [List.getD_eq_getElem?_getD, h]
  rfl

/-! ### the size of ints -/
/-- below the n-th power of two -/
structure Bits (n : Nat) (z : Int) : Prop where
  lt : z.natAbs < 2 ^ n
theorem Bits.of {n : Nat} {z : Int} (h : Builtin.Int.intBits z ≤ n) : Bits n z := ⟨by
  unfold Builtin.Int.intBits at h
  split at h
  · rename_i c
    have e : z = 0 := by simpa using c
    rw [e]
    exact Nat.two_pow_pos n
  · rename_i c
    have hz : z.natAbs ≠ 0 := fun e => c (by simpa using Int.natAbs_eq_zero.mp e)
    exact (Nat.log2_lt hz).mp h⟩
theorem Bits.to {n : Nat} {z : Int} (h : Bits n z) : Builtin.Int.intBits z ≤ n := by
  unfold Builtin.Int.intBits
  split
  · exact Nat.zero_le _
  · rename_i c
    have hz : z.natAbs ≠ 0 := fun e => c (by simpa using Int.natAbs_eq_zero.mp e)
    exact (Nat.log2_lt hz).mpr h.lt
theorem Bits.mono {n m : Nat} {z : Int} (h : Bits n z) (l : n ≤ m) : Bits m z := ⟨Nat.lt_of_lt_of_le h.lt (Nat.pow_le_pow_right (by decide) l)⟩
theorem Bits.add {n : Nat} {a b : Int} (h : Bits n a) (k : Bits n b) : Bits (n + 1) (a + b) := ⟨by
  have h1 := h.lt
  have h2 := k.lt
  rw [Nat.pow_succ]
  have := Int.natAbs_add_le a b
  omega⟩
theorem Bits.sub {n : Nat} {a b : Int} (h : Bits n a) (k : Bits n b) : Bits (n + 1) (a - b) := ⟨by
  have h1 := h.lt
  have h2 := k.lt
  rw [Nat.pow_succ]
  have := Int.natAbs_sub_le a b
  omega⟩
theorem Bits.mul {n m : Nat} {a b : Int} (h : Bits n a) (k : Bits m b) : Bits (n + m) (a * b) := ⟨by
  rw [Int.natAbs_mul, Nat.pow_add]
  exact Nat.mul_lt_mul'' h.lt k.lt⟩
theorem Bits.div {n : Nat} {a k : Int} (h : Bits n a) : Bits n (a / k) := ⟨Nat.lt_of_le_of_lt (Int.natAbs_ediv_le_natAbs a k) h.lt⟩
theorem Bits.nat {n k : Nat} (h : k < 2 ^ n) : Bits n (k : Int) := ⟨by rw [Int.natAbs_natCast]; exact h⟩
theorem Bits.zero {n : Nat} : Bits n 0 := ⟨Nat.two_pow_pos n⟩
def CPowB (i j : Int) : Prop := 0 ≤ j ∧ (Builtin.Int.intBits i : Int) * j ≤ 2 ^ 27
section
variable {X : Cx}
theorem op_powB : OpR X (binaryOp .Pow) (rI CPowB fun i j => .int (i ^ j.toNat)) := opI fun _ _ _ _ _ _ _ hc q => pow_int hc.1 hc.2 q
end
theorem rv_powB {H : Hp} {i : Int} {n : Nat} (h : Bits n i) (hn : n ≤ 44739242) : RV (rI CPowB fun i j => .int (i ^ j.toNat)) (.int i) (.int 3) H (.int (i ^ 3)) := rv_I ⟨by decide, by
  have := h.to
  have e : (2 : Int) ^ 27 = 134217728 := by decide
  rw [e]
  omega⟩
end Wy

set_option Elab.async false
set_option linter.all false
set_option maxRecDepth 100000
set_option maxHeartbeats 4000000
/-! Wd: a dict's views, sorted and listed. -/
namespace Wy
open PySem PySem.Spec PyProof.Rows L2 Evl
/-- d.keys() at p, d.values() at p -/
def keysO (p d : Addr) : HO := .ext fun g => PySem.W.KdlKeysView g p d
def valsO (p d : Addr) : HO := .ext fun g => g.IsValuesView p d
section
variable {X : Cx}
def rKeysV : V → List V → Hp → VK → Prop := fun x xs H Q => ∃ (d : Addr) (kvs : List (Key × V)), x = .ref d ∧ xs = [] ∧ H d = some (.dK kvs) ∧ ∀ p, H p = none → Q (.ref p) (upd H p (keysO p d))
def rValsV : V → List V → Hp → VK → Prop := fun x xs H Q => ∃ (d : Addr) (kvs : List (Key × V)), x = .ref d ∧ xs = [] ∧ H d = some (.dK kvs) ∧ ∀ p, H p = none → Q (.ref p) (upd H p (valsO p d))
theorem m_keysV : MtR X "dict.keys" rKeysV := by
  intro pins s σ H x xs v us Q I rx rxs h
  obtain ⟨d, kvs, rfl, rfl, hd, q⟩ := h
  cases rx
  cases rxs
  obtain ⟨_, lo, ws, _, dd⟩ := dk_rd I.hok (.inl hd)
  have room : H s.heap.objs.size = none := I.hok.fresh (Nat.le_refl _)
  have here : (s.heap.push { cls := .type "dict_keys", data := .fields #[.ref d] }).get? s.heap.objs.size = some { cls := .type "dict_keys", data := .fields #[.ref d] } := Heap.get?_push_size _ rfl
  refine call_meetsIn PySem.F.slot_dict_keys dd.typeIs PySem.F.entry_dict_keys (PySem.F.args_dict_keys_1 _) (PySem.W.kdl_meets_keys (mixKind X.prog X.w) d lo) ⟨⟨ws, dd⟩, ?_⟩
  refine ⟨V.ref s.heap.objs.size, upd H s.heap.objs.size (keysO s.heap.objs.size d), ?_, rfl, q _ room⟩
  exact I.laid (t' := s.toks) (fun b u k => Heap.get?_push_of_some _ k) (Nat.le_refl _) ⟨⟨_, here, rfl, rfl⟩, ⟨_, here⟩, fun g1 g2 x k => let ⟨o, ho, r⟩ := x; ⟨o, k o ho, r⟩⟩
theorem m_valsV : MtR X "dict.values" rValsV := by
  intro pins s σ H x xs v us Q I rx rxs h
  obtain ⟨d, kvs, rfl, rfl, hd, q⟩ := h
  cases rx
  cases rxs
  obtain ⟨_, lo, ws, _, dd⟩ := dk_rd I.hok (.inl hd)
  have room : H s.heap.objs.size = none := I.hok.fresh (Nat.le_refl _)
  have here : (s.heap.push { cls := .type "dict_values", data := .fields #[.ref d] }).get? s.heap.objs.size = some { cls := .type "dict_values", data := .fields #[.ref d] } := Heap.get?_push_size _ rfl
  refine call_meetsIn PySem.F.slot_dict_values dd.typeIs PySem.F.entry_dict_values (PySem.F.args_dict_values_1 _) (meets_dict_values (mixKind X.prog X.w) d lo) ⟨⟨ws, dd⟩, ?_⟩
  refine ⟨V.ref s.heap.objs.size, upd H s.heap.objs.size (valsO s.heap.objs.size d), ?_, rfl, q _ room⟩
  exact I.laid (t' := s.toks) (fun b u k => Heap.get?_push_of_some _ k) (Nat.le_refl _) ⟨⟨_, here, rfl, rfl⟩, ⟨_, here⟩, fun g1 g2 x k => let ⟨o, ho, r⟩ := x; ⟨o, k o ho, r⟩⟩
/-- sorted(d.keys()), the keys ints -/
def rSortK : List V → Hp → VK → Prop := fun xs H Q => ∃ (p d : Addr) (kvs : List (Key × V)) (ks : List Int), xs = [.ref p] ∧ H p = some (keysO p d) ∧ H d = some (.dK kvs) ∧ kvs.map (·.1) = ks.map Sum.inl ∧ ks.length ≤ 100000 ∧
  ∀ (ys : List Int) (l : Addr), ys.Perm ks → ys.Pairwise (· ≤ ·) → H l = none → Q (.ref l) (upd H l (.lst (ys.map V.int)))
theorem c_sortK (calm : X.calm = true) : CallR X (.builtin "sorted") rSortK := by
  intro pins s σ H xs us Q I r h
  obtain ⟨p, d, kvs, ks, rfl, hp, hd, hks, hz, q⟩ := h
  obtain ⟨u, rfl, rx⟩ := vals1 r
  cases rx
  have view : PySem.W.KdlKeysView s.heap p d := (I.hok p _ hp).1
  obtain ⟨_, lo, ws, rel, dd⟩ := dk_rd I.hok (.inl hd)
  obtain ⟨ep, hat⟩ := dd.dictAt
  have names : ws.map (·.1) = ks.map Sum.inl := rel.keys.symm.trans hks
  have count : ws.length = ks.length := by
    have g := congrArg List.length names
    simpa using g
  have fits : ws.length ≤ sizeLine := by rw [count]; exact sz_of hz
  refine Calls.call_function_entry PyProof.Rows.kind_sorted PyProof.Rows.plain_sorted PyProof.Rows.entry_sorted (PyProof.Rows.args_sorted1 _) ?_
  unfold Builtin.«sorted»
  refine wpAny_bind (m := checkCount "sorted" 1 1 _) (wpAny_pure ?_)
  refine wpAny_bind (PySem.W.kdu_collect (A := X.A.in1) (PySem.W.kdl_keys (knd := mixKind X.prog X.w) (r := p) (d := d) (kvs := ws) (ep := ep)) (I.ok.hd calm) ⟨view, hat⟩ fits fun g tk acc old got => ?_)
  have many : acc.toList.length = ks.length := by rw [Array.length_toList, got.1, count]
  have allI : IntsAre acc.toList ks := ints_each many fun j v e => by
    obtain ⟨k, x, e1, e2⟩ := got.2 j v (by rw [← Array.getElem?_toList]; exact e)
    have e3 : (ws.map (·.1))[j]? = some k := by
      rw [List.getElem?_map, e1]
      rfl
    rw [names, List.getElem?_map] at e3
    cases e4 : ks[j]? with
    | none =>
      rw [e4] at e3
      cases e3
    | some y =>
      rw [e4] at e3
      have e5 : (Sum.inl y : Key) = k := Option.some.inj e3
      subst e5
      rcases keyIs_shape (show keyIs (Sum.inl y) v = true from e2) with ⟨i, t, ek, ev⟩ | ⟨z, t, ek, ev⟩
      · cases ek
        exact ⟨y, t, rfl, ev⟩
      · cases ek
  have I1 : Inv X pins σ H { s with heap := g, toks := tk } := I.kept old
  refine wpAny_bind (wpAny_newList ?_ (by rw [many]; exact sz_of hz))
  have there : (g.push (seqObj "list" acc.toList.toArray 0)).get? g.objs.size = some (seqObj "list" acc.toList.toArray 0) := Heap.get?_push_size _ rfl
  show wpAny _ _ _ _ _ { s with heap := g.push (seqObj "list" acc.toList.toArray 0), toks := tk }
  refine wpAny_bind (wpAny_holding (wpAny_call_entry PyProof.Rows.slot_list_sort ⟨_, there, rfl⟩ PyProof.Rows.entry_list_sort
    (SrtO.list_sort_ord (s := { s with heap := g.push (seqObj "list" acc.toList.toArray 0), toks := tk }) SrtO.swo_int there (by rw [many]; exact sz_of hz) (fun two => SrtO.ints_sortable allI two) fun out o1 o2 => ⟨_, rfl, ?_⟩) (PyProof.Rows.args_list_sort _)))
  obtain ⟨k1, k2, k3⟩ := SrtO.ints_out allI o1 o2
  obtain ⟨e', at'⟩ := PyProof.Rows.sortedHeap_at (vs := acc.toList) (out := out.toArray) there
  have len : ((out.map SrtO.iv).map V.int).length ≤ sizeLine := by
    rw [List.length_map, k2.length_eq]
    exact sz_of hz
  refine wpAny_pure ⟨_, rfl, V.ref g.objs.size, upd H g.objs.size (.lst ((out.map SrtO.iv).map V.int)), I1.laid (t' := tk) (fun b u k => ?_) (Nat.le_refl _) ⟨len, out, e', vals_of_ints k1, at'⟩, rfl, q _ _ k2 k3 (I1.hok.fresh (Nat.le_refl _))⟩
  have less : b < g.objs.size := Heap.lt_size k
  rw [PyProof.Rows.sortedHeap_old (Nat.ne_of_lt less) (by rw [size_push']; exact Nat.lt_succ_of_lt less)]
  exact Heap.get?_push_of_some _ k
/-- list(d.values()) -/
def rListV : List V → Hp → VK → Prop := fun xs H Q => ∃ (p d : Addr) (kvs : List (Key × V)), xs = [.ref p] ∧ H p = some (valsO p d) ∧ H d = some (.dK kvs) ∧ ∀ l, H l = none → Q (.ref l) (upd H l (.lst (kvs.map (·.2))))
theorem vals_snd : ∀ {kvs : List (Key × V)} {ws : List (Key × Value)}, KV kvs ws → Vals (kvs.map (·.2)) (ws.map (·.2))
  | _, _, .nil => .nil
  | _, _, .cons a b => .cons a.2 (vals_snd b)
theorem c_listV (calm : X.calm = true) : CallR X (.type "list") rListV := by
  intro pins s σ H xs us Q I r h
  obtain ⟨p, d, kvs, rfl, hp, hd, q⟩ := h
  obtain ⟨u, rfl, rx⟩ := vals1 r
  cases rx
  have view : s.heap.IsValuesView p d := (I.hok p _ hp).1
  obtain ⟨z, lo, ws, rel, dd⟩ := dk_rd I.hok (.inl hd)
  obtain ⟨ep, hat⟩ := dd.dictAt
  have fits : ws.length ≤ sizeLine := by rw [← rel.length]; exact z
  refine PySem.W.kdl_call (PySem.W.kdl_values (knd := mixKind X.prog X.w) (r := p) (d := d) (kvs := ws) (ep := ep)) (I.ok.hd calm) ⟨view, hat⟩ fits fun g tk acc c' old at' got => ?_
  have e : acc.toList = ws.map (·.2) := by
    refine List.ext_getElem? fun j => ?_
    rw [List.getElem?_map]
    by_cases hj : j < ws.length
    · have hj2 : j < acc.size := by rw [got.1]; exact hj
      obtain ⟨k, hk⟩ := got.2 j acc[j] (Array.getElem?_eq_getElem hj2)
      rw [hk, Array.getElem?_toList, Array.getElem?_eq_getElem hj2]
      rfl
    · rw [List.getElem?_eq_none (by rw [Array.length_toList, got.1]; omega), List.getElem?_eq_none (by omega)]
      rfl
  have rv : Vals (kvs.map (·.2)) acc.toList := by
    rw [e]
    exact vals_snd rel
  refine ⟨V.ref s.heap.objs.size, upd H s.heap.objs.size (.lst (kvs.map (·.2))), I.laid (t' := tk) old (Nat.le_refl _) ⟨by rw [List.length_map]; exact z, acc.toList, c', rv, by rw [Array.toArray_toList]; exact at'⟩, rfl, q _ (I.hok.fresh (Nat.le_refl _))⟩
end
end Wy

namespace Wy
open PySem PySem.Spec PyProof.Rows L2 Evl
/-! ### what is there: a dict of rows by their numbers -/
abbrev Rows := List (Int × List Int)
def rowOf (there : Rows) (n : Int) : Option (List Int) := (there.find? fun p => decide (p.1 = n)).map (·.2)
def Dcv (K : PySem.W.Frag) (H : Hp) (kvs : List (Key × V)) (there : Rows) : Prop :=
  kvs.length = there.length ∧ ∀ (i : Nat) (n : Int) (r : List Int), there[i]? = some (n, r) → ∃ p : Addr, kvs[i]? = some (Sum.inl n, V.ref p) ∧ SqL K H p (r.map V.int)
def Dc (K : PySem.W.Frag) (H : Hp) (d : Addr) (there : Rows) : Prop := ∃ kvs, H d = some (.dK kvs) ∧ Dcv K H kvs there
theorem rowOf_cons (p : Int × List Int) (r : Rows) (n : Int) : rowOf (p :: r) n = if p.1 = n then some p.2 else rowOf r n := by
  unfold rowOf
  rw [List.find?_cons]
  by_cases c : p.1 = n
  · rw [if_pos c, decide_eq_true c]
    rfl
  · rw [if_neg c, decide_eq_false c]
section
variable {K : PySem.W.Frag} {H H' : Hp}
theorem Dcv.mono {kvs : List (Key × V)} {there : Rows} (e : Ex H H') (h : Dcv K H kvs there) : Dcv K H' kvs there := ⟨h.1, fun i n r hi => by
  obtain ⟨p, a, b⟩ := h.2 i n r hi
  exact ⟨p, a, ex_l e b⟩⟩
theorem Dc.mono {d : Addr} {there : Rows} (e : Ex H H') (h : Dc K H d there) : Dc K H' d there := by
  obtain ⟨kvs, a, b⟩ := h
  exact ⟨kvs, e _ _ a, b.mono e⟩
theorem Dcv.tail {k : Key × V} {kvs : List (Key × V)} {t : Int × List Int} {there : Rows} (h : Dcv K H (k :: kvs) (t :: there)) : Dcv K H kvs there := ⟨Nat.succ.inj h.1, fun i n r hi => h.2 (i + 1) n r hi⟩
theorem Dcv.none : ∀ {kvs : List (Key × V)} {there : Rows} {n : Int}, Dcv K H kvs there → rowOf there n = none → valV kvs (Sum.inl n) = Option.none
  | [], [], _, _, _ => rfl
  | [], _ :: _, _, h, _ => by cases h.1
  | _ :: _, [], _, h, _ => by cases h.1
  | k :: kvs, t :: there, n, h, hn => by
    obtain ⟨p, e, _⟩ := h.2 0 t.1 t.2 rfl
    have ek : k = (Sum.inl t.1, V.ref p) := Option.some.inj e
    rw [rowOf_cons] at hn
    by_cases c : t.1 = n
    · rw [if_pos c] at hn
      cases hn
    · rw [if_neg c] at hn
      rw [valV_neg (by rw [ek]; intro z; exact c (Sum.inl.inj z))]
      exact Dcv.none h.tail hn
theorem Dcv.some : ∀ {kvs : List (Key × V)} {there : Rows} {n : Int} {r : List Int}, Dcv K H kvs there → rowOf there n = some r → ∃ p, valV kvs (Sum.inl n) = some (V.ref p) ∧ SqL K H p (r.map V.int)
  | [], [], _, _, _, h => by cases h
  | [], _ :: _, _, _, h, _ => by cases h.1
  | _ :: _, [], _, _, h, _ => by cases h.1
  | k :: kvs, t :: there, n, r, h, hn => by
    obtain ⟨p, e, s⟩ := h.2 0 t.1 t.2 rfl
    have ek : k = (Sum.inl t.1, V.ref p) := Option.some.inj e
    rw [rowOf_cons] at hn
    by_cases c : t.1 = n
    · rw [if_pos c] at hn
      have er : t.2 = r := Option.some.inj hn
      rw [valV_pos (by rw [ek, c]), ek]
      exact ⟨p, rfl, by rw [← er]; exact s⟩
    · rw [if_neg c] at hn
      rw [valV_neg (by rw [ek]; intro z; exact c (Sum.inl.inj z))]
      exact Dcv.some h.tail hn
theorem Dcv.keys : ∀ {kvs : List (Key × V)} {there : Rows}, Dcv K H kvs there → kvs.map (·.1) = (there.map (·.1)).map Sum.inl
  | [], [], _ => rfl
  | [], _ :: _, h => by cases h.1
  | _ :: _, [], h => by cases h.1
  | k :: kvs, t :: there, h => by
    obtain ⟨p, e, s⟩ := h.2 0 t.1 t.2 rfl
    have ek : k = (Sum.inl t.1, V.ref p) := Option.some.inj e
    rw [List.map_cons, List.map_cons, List.map_cons, Dcv.keys h.tail, ek]
theorem Dc.none {d : Addr} {there : Rows} {n : Int} (h : Dc K H d there) (hn : rowOf there n = none) : DGet H d (.int n) Option.none := by
  obtain ⟨kvs, a, b⟩ := h
  have g := DGet.k (k := Sum.inl n) a
  rw [b.none hn] at g
  exact g
theorem Dc.some {d : Addr} {there : Rows} {n : Int} {r : List Int} (h : Dc K H d there) (hn : rowOf there n = some r) : ∃ p, DGet H d (.int n) (some (.ref p)) ∧ SqL K H p (r.map V.int) := by
  obtain ⟨kvs, a, b⟩ := h
  obtain ⟨p, e, s⟩ := b.some hn
  have g := DGet.k (k := Sum.inl n) a
  rw [e] at g
  exact ⟨p, g, s⟩
end
theorem dget_ex {H H' : Hp} {a : Addr} {y : V} {o : Option V} (e : Ex H H') (h : DGet H a y o) : DGet H' a y o := by
  rcases h with ⟨kvs, k, r, e1, e2⟩ | ⟨kvs, k, b, r, e1, e2, e3⟩
  · exact .inl ⟨kvs, k, ex_rd e r, e1, e2⟩
  · exact .inr ⟨kvs, k, b, ex_rd e r, e1, e _ _ e2, e3⟩
section
variable {K : PySem.W.Frag} {σ : L2.St} {H H' : Hp} {ta tb te tx tl : TE} {t u : TT} {x y z v : V} {r : R2} {D : Ends} {tu tw tz ts : TS} {g : TG} {P P' : V → Hp → Prop}
theorem ev_dget {d : Addr} (ha : Ev ta σ H (.ref d)) (hb : Ev tb σ H y) (h : DGet H d y (some v)) : Ev (tDGet ta tb) σ H v := fun H1 e Q q =>
  ha H1 e _ fun H2 e2 => hb H2 (e.trans e2) _ fun H3 e3 => ⟨d, v, rfl, dget_ex ((e.trans e2).trans e3) h, q H3 (e2.trans e3)⟩
theorem ev_din {d : Addr} {o : Option V} (hb : Ev tb σ H y) (ha : Ev ta σ H (.ref d)) (h : DGet H d y o) : Ev (tDIn tb ta) σ H (.bl o.isSome) := fun H1 e Q q =>
  hb H1 e _ fun H2 e2 => ha H2 (e.trans e2) _ fun H3 e3 => ⟨d, o, rfl, dget_ex ((e.trans e2).trans e3) h, q H3 (e2.trans e3)⟩
theorem ev_dnotin {d : Addr} {o : Option V} (hb : Ev tb σ H y) (ha : Ev ta σ H (.ref d)) (h : DGet H d y o) : Ev (tDNotIn tb ta) σ H (.bl (!o.isSome)) := fun H1 e Q q =>
  hb H1 e _ fun H2 e2 => ha H2 (e.trans e2) _ fun H3 e3 => ⟨d, o, rfl, dget_ex ((e.trans e2).trans e3) h, q H3 (e2.trans e3)⟩
def rLenD : List V → Hp → VK → Prop := fun xs H Q => ∃ a kvs, xs = [V.ref a] ∧ H a = some (.dK kvs) ∧ Q (.int kvs.length) H
theorem c_lenD {X : Cx} : CallR X (.builtin "len") rLenD := call_lenD
theorem ev_lenDc {d : Addr} {there : Rows} (ha : Ev ta σ H (.ref d)) (h : Dc K H d there) : Ev (tCB rLenD (tCons ta tNil)) σ H (.int (there.length : Int)) := fun H1 e Q q =>
  ha H1 e _ fun H2 e2 => by
    obtain ⟨kvs, a, b⟩ := h.mono (e.trans e2)
    refine ⟨d, kvs, rfl, a, ?_⟩
    rw [b.1]
    exact q H2 e2
/-- [e for x in t], t a tuple, e an int -/
theorem el_lcT {a : Addr} {xs : List V} {j : Nat} {vs : List Nat} (f : Nat → Int) (h : Ev tl σ H (.ref a)) (hx : SqT K H a xs) (hz : xs.length ≤ 40000) (hw : ∀ x, wipe ((wipe σ vs).set j (some x)) vs = wipe σ vs)
    (he : ∀ (i : Nat) (x : V), xs[i]? = some x → Ev te ((wipe σ vs).set j (some x)) H (.int (f i))) : EvL (tLc (iTup K tl) (gName j) tYes te vs) σ H (((List.range xs.length).map f).map V.int) := fun H0 e Q q => h H0 e _ fun H1 e1 => ⟨a, rfl, ⟨xs, ex_t (e.trans e1) hx⟩, fun Dl hD =>
  lc_tup (K := K) (a := a) (xs := xs) (fun i H' => Ex H1 H' ∧ H' Dl = some (.lst (((List.range i).map f).map V.int))) ⟨Ex.new hD, upd_same⟩ (fun i H' _ p => ex_t ((e.trans e1).trans p.1) hx)
    (fun i x H' hi p => ⟨hw x, by
      have hl := (List.getElem?_eq_some_iff.mp hi).1
      show te ((wipe σ vs).set j (some x)) H' _
      refine he i x hi H' ((e.trans e1).trans p.1) _ fun H4 e4 => ⟨_, e4 _ _ p.2, sz_lt (by rw [List.length_map, List.length_map, List.length_range]; omega), Ex.mut (p.1.trans e4) hD, ?_⟩
      rw [upd_same, List.range_succ, List.map_append, List.map_append]
      rfl⟩)
    (fun H' p => q Dl H' (fresh_back e1 hD) (e1.trans p.1) p.2)⟩
theorem el_rg {n : Int} (h : Ev te σ H (.int n)) (h0 : 0 ≤ n) (h1 : n ≤ 10000) : EvL (tLstRg (tRg1 te)) σ H (((List.range n.toNat).map fun i : Nat => (i : Int)).map V.int) := fun H1 e Q q =>
  h H1 e _ fun H2 e2 => ⟨n, rfl, RgOk.of_le (Int.le_refl _) (by omega) (by omega) h0, fun l hl => q l _ (fresh_back e2 hl) (e2.trans (Ex.new hl)) (by
    rw [upd_same]
    unfold rgV
    rw [Int.sub_zero, List.map_map]
    congr 2
    refine List.map_congr_left fun i _ => ?_
    show V.int (0 + (i : Int)) = V.int (i : Int)
    rw [Int.zero_add])⟩
theorem seq_ix {i : Int} {n : Nat} (h0 : 0 ≤ i) (h1 : i < n) : seqIndex? i n = some i.toNat := by
  unfold seqIndex?
  simp only [if_neg (show ¬ i < 0 by omega)]
  rw [if_pos]
  simp only [Bool.and_eq_true, decide_eq_true_eq]
  exact ⟨h0, h1⟩
/-- l.append(m.pop(i)) -/
theorem sv_appPop {l m : Addr} {xs ys : List V} {i : Int} {tm : TE} (hl : H l = some (.lst xs)) (hm : H m = some (.lst ys)) (hlm : l ≠ m) (h1 : Ev ta σ H (.ref l)) (h2 : Ev tm σ H (.ref m)) (hi : Ev te σ H (.int i)) (h0 : 0 ≤ i) (hn : i < ys.length) (hy : ys[i.toNat]? = some y) (hz : xs.length < 10000) (hz2 : ys.length < 10000)
    (k : ∀ H2, (∀ a o, a ≠ l → a ≠ m → H a = some o → H2 a = some o) → H2 l = some (.lst (xs ++ [y])) → H2 m = some (.lst (ys.eraseIdx i.toNat)) → Sv tz D σ H2) :
    Sv (tSeq (tDrop (tBM K "list" rAppend ta (tCons (tBM K "list" rPopAt tm (tCons te tNil)) tNil))) tz) D σ H := fun H1 e =>
  h1 H1 e _ fun H2 e2 => ⟨Or.inl ⟨rfl, xs, sq_of (e2 _ _ (e _ _ hl))⟩, h2 H2 (e.trans e2) _ fun H3 e3 => ⟨Or.inl ⟨rfl, ys, sq_of (((e.trans e2).trans e3) _ _ hm)⟩, hi H3 ((e.trans e2).trans e3) _ fun H4 e4 =>
    ⟨m, ys, i, i.toNat, y, rfl, rfl, (((e.trans e2).trans e3).trans e4) _ _ hm, by omega, by omega, seq_ix h0 hn, hy, l, xs, y, rfl, rfl, by
      rw [upd_ne hlm]
      exact (((e.trans e2).trans e3).trans e4) _ _ hl, sz_lt (by omega), k _ (fun a o n1 n2 ha => by
        rw [upd_ne n1, upd_ne n2]
        exact (((e.trans e2).trans e3).trans e4) _ _ ha) upd_same (by rw [upd_ne hlm.symm, upd_same]) _ (Ex.refl _)⟩⟩⟩
end
theorem map_erase (f : Int → V) : ∀ (l : List Int) (i : Nat), (l.map f).eraseIdx i = (l.eraseIdx i).map f
  | [], _ => rfl
  | _ :: _, 0 => rfl
  | x :: l, i + 1 => by
    show f x :: (l.map f).eraseIdx i = f x :: (l.eraseIdx i).map f
    rw [map_erase f l i]
/-! ### the numbers in an order -/
/-- what an order goes by: what stands in its columns, then the number -/
def ent (cols : List Int) (there : Rows) (n : Int) : List Int := cols.map (fun c => ((rowOf there n).getD []).getD c.toNat 0) ++ [n]
/-- ahead: which of two such stands ahead -/
def InOrd (ahead : List Int → List Int → Bool) (cols : List Int) (there : Rows) (ns : List Int) : Prop :=
  ns.length = there.length ∧ (∀ n ∈ ns, ∃ r, rowOf there n = some r) ∧ ∀ (i : Nat) a b, ns[i]? = some a → ns[i + 1]? = some b → ahead (ent cols there a) (ent cols there b) = true
theorem range_get {α β : Type} (d : α) (l : List α) (g : α → β) : (List.range l.length).map (fun i => g (l.getD i d)) = l.map g := by
  refine List.ext_getElem? fun i => ?_
  rw [List.getElem?_map, List.getElem?_map]
  by_cases h : i < l.length
  · rw [List.getElem?_range h, List.getElem?_eq_getElem h]
    show some (g (l.getD i d)) = _
    rw [List.getD_eq_getElem?_getD, List.getElem?_eq_getElem h]
    rfl
  · rw [List.getElem?_eq_none (by rw [List.length_range]; omega), List.getElem?_eq_none (by omega)]
    rfl
theorem el_lcTI {K : PySem.W.Frag} {σ : L2.St} {H : Hp} {tl te : TE} {a : Addr} {cols : List Int} {j : Nat} {vs : List Nat} (g : Int → Int) (h : Ev tl σ H (.ref a)) (hx : SqT K H a (cols.map V.int)) (hz : cols.length ≤ 40000) (hw : ∀ x, wipe ((wipe σ vs).set j (some x)) vs = wipe σ vs)
    (he : ∀ x ∈ cols, Ev te ((wipe σ vs).set j (some (.int x))) H (.int (g x))) : EvL (tLc (iTup K tl) (gName j) tYes te vs) σ H ((cols.map g).map V.int) := by
  have k := el_lcT (K := K) (te := te) (fun i => g (cols.getD i 0)) h hx (by rw [List.length_map]; exact hz) hw fun i x hi => by
    rw [List.getElem?_map] at hi
    cases e : cols[i]? with
    | none =>
      rw [e] at hi
      cases hi
    | some c =>
      rw [e] at hi
      have ex : V.int c = x := Option.some.inj hi
      subst ex
      have eg : cols.getD i 0 = c := by
        rw [List.getD_eq_getElem?_getD, e]
        rfl
      show Ev te _ _ (.int (g (cols.getD i 0)))
      rw [eg]
      exact he c (List.mem_of_getElem? e)
  rw [List.length_map, range_get 0 cols g] at k
  exact k
end Wy

set_option Elab.async false
set_option linter.all false
set_option maxRecDepth 100000
set_option maxHeartbeats 4000000
/-! Wr: regions: what an object owns, what stands besides. -/
namespace Wy
open PySem PySem.Spec PyProof.Rows L2 Evl
abbrev Reg := Addr → Prop
def Tupo (o : HO) : Prop := ∃ xs, o = .tup xs
/-- what is not in F, and every tuple, stands as it stood; nothing that was known is unknown -/
structure Frm (F : Reg) (H H' : Hp) : Prop where
  keep : ∀ a o, H a = some o → (F a → Tupo o) → H' a = some o
  dm : ∀ a, H a ≠ none → H' a ≠ none
theorem ex_dm {H H' : Hp} (e : Ex H H') : ∀ a, H a ≠ none → H' a ≠ none := fun a h => by
  cases k : H a with
  | none => exact (h k).elim
  | some o =>
    rw [e a o k]
    exact fun z => by cases z
theorem Frm.of {F : Reg} {H H' : Hp} (e : Ex H H') : Frm F H H' := ⟨fun a o h _ => e a o h, ex_dm e⟩
abbrev RP := Reg → Hp → Prop
/-- it leans on its region and on tuples alone; its region is known and holds no tuples -/
structure Regn (T : RP) : Prop where
  loc : ∀ F H H', T F H → (∀ a o, H a = some o → (F a ∨ Tupo o) → H' a = some o) → T F H'
  dom : ∀ F H a, T F H → F a → ∃ o, H a = some o ∧ ¬ Tupo o
theorem Regn.ex {T : RP} (R : Regn T) {F : Reg} {H H' : Hp} (t : T F H) (e : Ex H H') : T F H' := R.loc F H H' t fun a o h _ => e a o h
/-- two regions side by side -/
def Two (T U : RP) : RP := fun F H => ∃ F1 F2 : Reg, T F1 H ∧ U F2 H ∧ (∀ a, F1 a → F2 a → False) ∧ ∀ a, F a ↔ F1 a ∨ F2 a
theorem Regn.two {T U : RP} (R : Regn T) (S : Regn U) : Regn (Two T U) where
  loc := fun F H H' ⟨F1, F2, t, u, d, f⟩ h => ⟨F1, F2, R.loc F1 H H' t fun a o ha z => h a o ha (z.imp (fun z => (f a).mpr (.inl z)) id), S.loc F2 H H' u fun a o ha z => h a o ha (z.imp (fun z => (f a).mpr (.inr z)) id), d, f⟩
  dom := fun F H a ⟨F1, F2, t, u, d, f⟩ z => ((f a).mp z).elim (R.dom F1 H a t) (S.dom F2 H a u)
/-- L: what is known besides the region; F0, B: the region and what was known at first -/
def Wld (T : RP) (F0 B : Reg) (L H : Hp) : Prop := ∃ F : Reg, T F H ∧ Ex L H ∧ (∀ a, F a → L a = none) ∧ (∀ a, B a → H a ≠ none) ∧ ∀ a, F a → F0 a ∨ ¬ B a
section
variable {T T' U : RP} {F0 B : Reg} {L L' H H' N : Hp}
theorem Wld.lx (w : Wld T F0 B L H) : Ex L H := let ⟨_, _, e, _⟩ := w; e
theorem Wld.ext (R : Regn T) (w : Wld T F0 B L H) (e : Ex H H') : Wld T F0 B L H' := by
  obtain ⟨F, t, x, d, b, f⟩ := w
  exact ⟨F, R.ex t e, x.trans e, d, fun a z => ex_dm e a (b a z), f⟩
/-- new objects beside the region -/
theorem Wld.new (R : Regn T) (w : Wld T F0 B L H) (e : Ex H H') (n : ∀ a, N a ≠ none → H a = none) (x : Ex N H') : Wld T F0 B (Unn N L) H' := by
  obtain ⟨F, t, x1, d, b, f⟩ := w
  refine ⟨F, R.ex t e, unn_ex (x1.trans e) x, fun a z => ?_, fun a z => ex_dm e a (b a z), f⟩
  obtain ⟨o, ho, _⟩ := R.dom F H a t z
  cases k : Unn N L a with
  | none => rfl
  | some u =>
    rcases unn_none (a := a) (N := N) (H := L) (by rw [k]; exact fun z => by cases z) with q | q
    · exact (q (d a z)).elim
    · rw [n a q] at ho
      cases ho
/-- less is known -/
theorem Wld.weak (w : Wld T F0 B L H) (e : Ex L' L) : Wld T F0 B L' H := by
  obtain ⟨F, t, x, d, b, f⟩ := w
  exact ⟨F, t, e.trans x, fun a z => fresh_back e (d a z), b, f⟩
/-- an own object changed -/
theorem Wld.put (R : Regn T) (w : Wld T F0 B L H) {p : Addr} {o o' : HO} (l : L p = some o) (nt : ¬ Tupo o) : Wld T F0 B (upd L p o') (upd H p o') := by
  obtain ⟨F, t, x, d, b, f⟩ := w
  have np : ∀ a, F a → a ≠ p := fun a z q => by
    have := d a z
    rw [q, l] at this
    cases this
  refine ⟨F, R.loc F H _ t fun a u h z => ?_, fun a u h => ?_, fun a z => ?_, fun a z => ?_, f⟩
  · have : a ≠ p := fun q => by
      rcases z with z | ⟨xs, z⟩
      · exact np a z q
      · rw [q, x _ _ l] at h
        exact nt ⟨xs, by rw [← z]; exact Option.some.inj h⟩
    rw [upd_ne this]
    exact h
  · by_cases q : a = p
    · subst q
      rw [upd_same] at h ⊢
      exact h
    · rw [upd_ne q] at h ⊢
      exact x _ _ h
  · rw [upd_ne (np a z)]
    exact d a z
  · by_cases q : a = p
    · rw [q, upd_same]
      exact fun z => by cases z
    · rw [upd_ne q]
      exact b a z
end
/-! ### promises over a region -/
def SpW (n : Nat) (R : List V → Hp → Reg → RP → (V → Hp → Prop) → Prop) : Sp := fun vs H Q _ => vs.length = n ∧ ∃ (F : Reg) (T' : RP) (P : V → Hp → Prop), R vs H F T' P ∧
  ∀ (v : V) (N H' : Hp) (F' : Reg), Frm F H H' → T' F' H' → (∀ a, F' a → F a ∨ H a = none) → (∀ a, N a ≠ none → H a = none ∧ ¬ F' a) → Ex N H' → P v N → Q v H'
/-- the same for whoever calls: the region T becomes T', the value and its new objects are as P says -/
def SpWP (sp : Sp) (vs : List V) (T T' : RP) (F0 B : Reg) (L : Hp) (P : V → Hp → Prop) : Prop := ∀ H, Wld T F0 B L H → ∀ Q : VK, (∀ v N H', (∀ a, N a ≠ none → L a = none ∧ ¬ B a) → P v N → Wld T' F0 B (Unn N L) H' → Q v H') → ∀ E : XK, sp vs H Q E
section
variable {T T' U : RP} {F0 B : Reg} {L L' H H' N : Hp} {n : Nat} {R : List V → Hp → Reg → RP → (V → Hp → Prop) → Prop} {vs : List V} {P : V → Hp → Prop}
theorem spw (hl : vs.length = n) (h : ∀ H F, T F H → Ex L H → (∀ a, F a → L a = none) → R vs H F T' P) : SpWP (SpW n R) vs T T' F0 B L P := fun H ⟨F, t, x, d, b, f⟩ Q q E =>
  ⟨hl, F, T', P, h H F t x d, fun v N H' F' fr t' gr dN eN p => q v N H' (fun a z => ⟨fresh_back x (dN a z).1, fun y => b a y (dN a z).1⟩) p ⟨F', t', unn_ex (fun a o ha => fr.keep a o (x a o ha) fun fa => by rw [d a fa] at ha; cases ha) eN, fun a fa => by
    cases k : Unn N L a with
    | none => rfl
    | some u =>
      rcases unn_none (a := a) (N := N) (H := L) (by rw [k]; exact fun z => by cases z) with y | y
      · rcases gr a fa with z | z
        · exact (y (d a z)).elim
        · exact (y (fresh_back x z)).elim
      · exact ((dN a y).2 fa).elim, fun a z => fr.dm a (b a z), fun a fa => by
      rcases gr a fa with z | z
      · exact f a z
      · exact .inr fun y => b a y z⟩⟩
/-- where another region stands beside -/
theorem spw_l (S : Regn T) (SU : Regn U) (hl : vs.length = n) (h : ∀ H F, T F H → Ex L H → (∀ a, F a → L a = none) → R vs H F T' P) : SpWP (SpW n R) vs (Two T U) (Two T' U) F0 B L P := fun H ⟨F, ⟨F1, F2, t, u, dd, ff⟩, x, d, b, f⟩ Q q E =>
  ⟨hl, F1, T', P, h H F1 t x (fun a z => d a ((ff a).mpr (.inl z))), fun v N H' F' fr t' gr dN eN p => by
    have u' : U F2 H' := SU.loc F2 H H' u fun a o ha z => fr.keep a o ha fun f1 => z.elim (fun f2 => (dd a f1 f2).elim) id
    have nF : ∀ a, F2 a → ¬ F' a := fun a f2 fa => by
      rcases gr a fa with z | z
      · exact dd a z f2
      · obtain ⟨o, ho, _⟩ := SU.dom F2 H a u f2
        rw [z] at ho
        cases ho
    refine q v N H' (fun a z => ⟨fresh_back x (dN a z).1, fun y => b a y (dN a z).1⟩) p ⟨fun a => F' a ∨ F2 a, ⟨F', F2, t', u', fun a y z => nF a z y, fun a => Iff.rfl⟩, unn_ex (fun a o ha => fr.keep a o (x a o ha) fun fa => by rw [d a ((ff a).mpr (.inl fa))] at ha; cases ha) eN, fun a fa => ?_, fun a z => fr.dm a (b a z), fun a fa => ?_⟩
    · cases k : Unn N L a with
      | none => rfl
      | some uu =>
        rcases unn_none (a := a) (N := N) (H := L) (by rw [k]; exact fun z => by cases z) with y | y
        · rcases fa with fa | fa
          · rcases gr a fa with z | z
            · exact (y (d a ((ff a).mpr (.inl z)))).elim
            · exact (y (fresh_back x z)).elim
          · exact (y (d a ((ff a).mpr (.inr fa)))).elim
        · rcases fa with fa | fa
          · exact ((dN a y).2 fa).elim
          · obtain ⟨o, ho, _⟩ := SU.dom F2 H a u fa
            rw [(dN a y).1] at ho
            cases ho
    · rcases fa with fa | fa
      · rcases gr a fa with z | z
        · exact f a ((ff a).mpr (.inl z))
        · exact .inr fun y => b a y z
      · exact f a ((ff a).mpr (.inr fa))⟩
theorem two_swap {F : Reg} (h : Two T U F H) : Two U T F H := let ⟨F1, F2, t, u, d, f⟩ := h; ⟨F2, F1, u, t, fun a x y => d a y x, fun a => (f a).trans or_comm⟩
theorem Wld.imp (w : Wld T F0 B L H) (i : ∀ F, T F H → T' F H) : Wld T' F0 B L H := let ⟨F, t, r⟩ := w; ⟨F, i F t, r⟩
theorem spw_r (S : Regn T) (SU : Regn U) (hl : vs.length = n) (h : ∀ H F, T F H → Ex L H → (∀ a, F a → L a = none) → R vs H F T' P) : SpWP (SpW n R) vs (Two U T) (Two U T') F0 B L P := fun H w Q q E =>
  spw_l S SU hl h H (w.imp fun F t => two_swap t) Q (fun v N H' d p w' => q v N H' d p (w'.imp fun F t => two_swap t)) E
end
/-! ### statements over a region -/
def SvW (ts : TS) (D : Ends) (σ : L2.St) (T : RP) (F0 B : Reg) (L : Hp) : Prop := ∀ H, Wld T F0 B L H → ts D σ H
def EvW (te : TE) (σ : L2.St) (T T' : RP) (F0 B : Reg) (L : Hp) (P : V → Hp → Prop) : Prop := ∀ H, Wld T F0 B L H → ∀ Q : VK, (∀ v N H', (∀ a, N a ≠ none → L a = none ∧ ¬ B a) → P v N → Wld T' F0 B (Unn N L) H' → Q v H') → te σ H Q
def EtW (tt : TT) (σ : L2.St) (T T' : RP) (F0 B : Reg) (L : Hp) (b : Bool) : Prop := ∀ H, Wld T F0 B L H → ∀ Q : Bool → Hp → Prop, (∀ N H', (∀ a, N a ≠ none → L a = none ∧ ¬ B a) → Wld T' F0 B (Unn N L) H' → Q b H') → tt σ H Q
section
variable {T T' T'' U : RP} {F0 B : Reg} {L L' H H' N : Hp} {K : PySem.W.Frag} {σ : L2.St} {ta tb te tl : TE} {t u : TT} {x y z v : V} {r : R2} {D : Ends} {tu tw tz ts : TS} {P P' : V → Hp → Prop}
theorem SvW.weak (h : SvW ts D σ T F0 B L') (e : Ex L' L) : SvW ts D σ T F0 B L := fun H w => h H (w.weak e)
theorem vw_asg {i : Nat} (R : Regn T) (h : Ev te σ L v) (k : SvW tz D (σ.set i (some v)) T F0 B L) : SvW (tSeq (tAsg te (gName i)) tz) D σ T F0 B L := fun H w => h H w.lx _ fun H2 e => k H2 (w.ext R e)
theorem vw_asg' {i : Nat} (R : Regn T) (h : Ev te σ L v) (k : SvW tNext D (σ.set i (some v)) T F0 B L) : SvW (tAsg te (gName i)) D σ T F0 B L := fun H w => h H w.lx _ fun H2 e => k H2 (w.ext R e)
theorem vw_asgN {i : Nat} (R : Regn T) (h : EvN te σ L P) (k : ∀ v N, (∀ a, N a ≠ none → L a = none ∧ ¬ B a) → P v N → SvW tz D (σ.set i (some v)) T F0 B (Unn N L)) : SvW (tSeq (tAsg te (gName i)) tz) D σ T F0 B L := fun H w =>
  h H w.lx _ fun v N H2 d p a b => k v N (fun x z => ⟨fresh_back w.lx (d x z), fun y => let ⟨_, _, _, _, bb, _⟩ := w; bb x y (d x z)⟩) p H2 (w.new R b d a)
theorem vw_asgN' {i : Nat} (R : Regn T) (h : EvN te σ L P) (k : ∀ v N, (∀ a, N a ≠ none → L a = none ∧ ¬ B a) → P v N → SvW tNext D (σ.set i (some v)) T F0 B (Unn N L)) : SvW (tAsg te (gName i)) D σ T F0 B L := fun H w =>
  h H w.lx _ fun v N H2 d p a b => k v N (fun x z => ⟨fresh_back w.lx (d x z), fun y => let ⟨_, _, _, _, bb, _⟩ := w; bb x y (d x z)⟩) p H2 (w.new R b d a)
theorem vw_asgW {i : Nat} (h : EvW te σ T T' F0 B L P) (k : ∀ v N, (∀ a, N a ≠ none → L a = none ∧ ¬ B a) → P v N → SvW tz D (σ.set i (some v)) T' F0 B (Unn N L)) : SvW (tSeq (tAsg te (gName i)) tz) D σ T F0 B L := fun H w =>
  h H w _ fun v N H2 d p w' => k v N d p H2 w'
theorem vw_asgW' {i : Nat} (h : EvW te σ T T' F0 B L P) (k : ∀ v N, (∀ a, N a ≠ none → L a = none ∧ ¬ B a) → P v N → SvW tNext D (σ.set i (some v)) T' F0 B (Unn N L)) : SvW (tAsg te (gName i)) D σ T F0 B L := fun H w =>
  h H w _ fun v N H2 d p w' => k v N d p H2 w'
theorem vw_drop (h : EvW te σ T T' F0 B L P) (k : ∀ v N, (∀ a, N a ≠ none → L a = none ∧ ¬ B a) → P v N → SvW tz D σ T' F0 B (Unn N L)) : SvW (tSeq (tDrop te) tz) D σ T F0 B L := fun H w => h H w _ fun v N H2 d p w' => k v N d p H2 w'
theorem vw_drop' (h : EvW te σ T T' F0 B L P) (k : ∀ v N, (∀ a, N a ≠ none → L a = none ∧ ¬ B a) → P v N → SvW tNext D σ T' F0 B (Unn N L)) : SvW (tDrop te) D σ T F0 B L := fun H w => h H w _ fun v N H2 d p w' => k v N d p H2 w'
theorem vw_retW (h : EvW te σ T T' F0 B L P) (k : ∀ v N H', (∀ a, N a ≠ none → L a = none ∧ ¬ B a) → P v N → Wld T' F0 B (Unn N L) H' → D.rt v H') : SvW (tRet te) D σ T F0 B L := fun H w => h H w _ fun v N H2 d p w' => k v N H2 d p w'
theorem vw_ret (R : Regn T) (h : Ev te σ L v) (k : ∀ H, Wld T F0 B L H → D.rt v H) : SvW (tRet te) D σ T F0 B L := fun H w => h H w.lx _ fun H2 e => k H2 (w.ext R e)
theorem vw_if {p : Prop} [Decidable p] (R : Regn T) (h : EvT t σ L (decide p)) (h1 : p → SvW tu { D with nx := tz D } σ T F0 B L) (h2 : ¬ p → SvW tw { D with nx := tz D } σ T F0 B L) : SvW (tSeq (tIfS t tu tw) tz) D σ T F0 B L := fun H w => h H w.lx _ fun H2 e => by
  by_cases q : p
  · rw [decide_eq_true q]
    exact h1 q H2 (w.ext R e)
  · rw [decide_eq_false q]
    exact h2 q H2 (w.ext R e)
theorem vw_when {p : Prop} [Decidable p] (R : Regn T) (h : EvT t σ L (decide p)) (h1 : p → SvW tu { D with nx := tz D } σ T F0 B L) (h2 : ¬ p → SvW tz D σ T F0 B L) : SvW (tSeq (tIfS t tu tNext) tz) D σ T F0 B L := vw_if R h h1 h2
theorem vw_if' {p : Prop} [Decidable p] (R : Regn T) (h : EvT t σ L (decide p)) (h1 : p → SvW tu D σ T F0 B L) (h2 : ¬ p → SvW tw D σ T F0 B L) : SvW (tIfS t tu tw) D σ T F0 B L := fun H w => h H w.lx _ fun H2 e => by
  by_cases q : p
  · rw [decide_eq_true q]
    exact h1 q H2 (w.ext R e)
  · rw [decide_eq_false q]
    exact h2 q H2 (w.ext R e)
theorem vw_ifset {p : Prop} [Decidable p] {i : Nat} {v w : V} (R : Regn T) (h : EvT t σ L (decide p)) (h1 : p → Ev te σ L v) (h2 : ¬ p → σ.set i (some w) = σ) (k : SvW tz D (σ.set i (some (if p then v else w))) T F0 B L) :
    SvW (tSeq (tIfS t (tAsg te (gName i)) tNext) tz) D σ T F0 B L := fun H ww => h H ww.lx _ fun H2 e2 => by
  by_cases q : p
  · rw [decide_eq_true q]
    rw [if_pos q] at k
    exact h1 q H2 (ww.ext R e2).lx _ fun H3 e3 => k H3 ((ww.ext R e2).ext R e3)
  · rw [decide_eq_false q]
    rw [if_neg q, h2 q] at k
    exact k H2 (ww.ext R e2)
/-- a test that changes the region -/
theorem vw_ifW' {b : Bool} (h : EtW t σ T T' F0 B L b) (h1 : ∀ N, (∀ a, N a ≠ none → L a = none ∧ ¬ B a) → b = true → SvW tu D σ T' F0 B (Unn N L)) (h2 : ∀ N, (∀ a, N a ≠ none → L a = none ∧ ¬ B a) → b = false → SvW tw D σ T' F0 B (Unn N L)) : SvW (tIfS t tu tw) D σ T F0 B L := fun H w => h H w _ fun N H2 d w' => by
  cases b with
  | true => exact h1 N d rfl H2 w'
  | false => exact h2 N d rfl H2 w'
theorem vw_ifW {b : Bool} (h : EtW t σ T T' F0 B L b) (h1 : ∀ N, (∀ a, N a ≠ none → L a = none ∧ ¬ B a) → b = true → SvW tu { D with nx := tz D } σ T' F0 B (Unn N L)) (h2 : ∀ N, (∀ a, N a ≠ none → L a = none ∧ ¬ B a) → b = false → SvW tw { D with nx := tz D } σ T' F0 B (Unn N L)) : SvW (tSeq (tIfS t tu tw) tz) D σ T F0 B L := fun H w => h H w _ fun N H2 d w' => by
  cases b with
  | true => exact h1 N d rfl H2 w'
  | false => exact h2 N d rfl H2 w'
theorem etw_val {b : Bool} (h : EvW te σ T T' F0 B L fun v _ => v = .bl b) : EtW (tB te) σ T T' F0 B L b := fun H w Q q => h H w _ fun v N H2 d p w' => ⟨b, p, q N H2 d w'⟩
theorem etw_not {b : Bool} (h : EtW t σ T T' F0 B L b) : EtW (tNot t) σ T T' F0 B L (!b) := fun H w Q q => h H w _ fun N H2 d w' => q N H2 d w'
theorem ew_cl {sp : Sp} {E : XK} {ta : TA} {vs : List V} (R : Regn T) (h : EvA ta σ L vs) (hs : SpWP sp vs T T' F0 B L P) : EvW (tCall sp [] E ta) σ T T' F0 B L P := fun H w Q q => h H w.lx _ fun H2 e => by
  rw [List.append_nil]
  exact hs H2 (w.ext R e) Q q E
theorem ew_of (R : Regn T) (h : Ev te σ L v) : EvW te σ T T F0 B L fun v' N => v' = v := fun H w Q q => h H w.lx Q fun H2 e => q v nonew H2 (fun a z => (z rfl).elim) rfl ((w.ext R e).weak (fun a o h => by
  have g : (match L a with | some o => some o | none => nonew a) = some o := h
  cases k : L a with
  | some u =>
    rw [k] at g
    exact g
  | none =>
    rw [k] at g
    cases g))
theorem EvW.imp (h : EvW te σ T T' F0 B L P) (i : ∀ v N, P v N → P' v N) : EvW te σ T T' F0 B L P' := fun H w Q q => h H w Q fun v N H2 d p w' => q v N H2 d (i v N p) w'
/-- a method of an object in the region -/
theorem ew_mt {C : Addr} {m : Str} {sp : Sp} {E : XK} {a : Addr} {t : TA} {vs : List V} (R : Regn T) (h : Ev ta σ L (.ref a)) (hi : ∀ H, Wld T F0 B L H → ∃ dx fs, H a = some (.ins C dx fs) ∧ fs.lookup m = none) (ht : EvA t σ L vs) (hs : SpWP sp (.ref a :: vs) T T' F0 B L P) : EvW (tMeth C m sp [] E ta t) σ T T' F0 B L P := fun H w Q q =>
  h H w.lx _ fun H2 e => by
    obtain ⟨dx, fs, h1, h2⟩ := hi H2 (w.ext R e)
    refine ⟨a, dx, fs, rfl, h1, h2, ht H2 (w.ext R e).lx _ fun H3 e3 => ?_⟩
    rw [List.append_nil]
    exact hs H3 ((w.ext R e).ext R e3) Q q E
theorem vw_next (k : ∀ H, Wld T F0 B L H → D.nx σ H) : SvW tNext D σ T F0 B L := k
/-- what holds over a region, whatever stands besides -/
def KnW (F0 B : Reg) (I : L2.St → RP → Hp → Prop) : L2.St → Hp → Prop := fun σ H => ∃ T L, I σ T L ∧ Wld T F0 B L H
theorem vw_kn {rt : VK} {bk ct : L2.St → Hp → Prop} {I : L2.St → RP → Hp → Prop} (h : I σ T L) : SvW tNext { nx := KnW F0 B I, rt := rt, bk := bk, ct := ct } σ T F0 B L := fun H w => ⟨T, L, h, w⟩
theorem vw_cut (I : L2.St → RP → Hp → Prop) (h : SvW tu { D with nx := KnW F0 B I } σ T F0 B L) (k : ∀ σ' T' L', I σ' T' L' → SvW tz D σ' T' F0 B L') : SvW (tCut tu tz) D σ T F0 B L := fun H w => ⟨KnW F0 B I, h H w, fun σ' H3 ⟨T', L', m, w'⟩ => k σ' T' L' m H3 w'⟩
theorem vw_forR1 {ta : TA} {j : Nat} {n : Int} (R : Regn T) (h : EvA ta σ L [.int n]) (hn : -100000 ≤ n ∧ n ≤ 100000) (I : Nat → L2.St → RP → Hp → Prop) (h0 : I 0 σ T L)
    (hs : ∀ (i : Nat) σ' T' L', (i : Int) < n → I i σ' T' L' → SvW tu { D with nx := KnW F0 B (I (i + 1)), ct := KnW F0 B (I (i + 1)), bk := tz D } (σ'.set j (some (.int (i : Int)))) T' F0 B L') (hd : ∀ σ' T' L', I n.toNat σ' T' L' → SvW tz D σ' T' F0 B L') : SvW (tSeq (tFor (iRng1 ta) (gName j) tu) tz) D σ T F0 B L :=
  fun H w => h H w.lx _ fun H2 e2 => ⟨n, rfl, by omega, by omega, for_range (D := { D with nx := tz D }) (lo := 0) (n := n.toNat) (fun i => KnW F0 B (I i)) ⟨T, L, h0, w.ext R e2⟩ (fun i σ' H3 hi ⟨T', L', p, w'⟩ => by
    have e0 : (0 : Int) + (i : Int) = (i : Int) := Int.zero_add _
    show tu { D with nx := KnW F0 B (I (i + 1)), ct := KnW F0 B (I (i + 1)), bk := tz D } (σ'.set j (some (.int ((0 : Int) + (i : Int))))) H3
    rw [e0]
    exact hs i σ' T' L' (by omega) p H3 w') (fun σ' H3 ⟨T', L', p, w'⟩ => hd σ' T' L' p H3 w')⟩
theorem vw_forL {a : Addr} {xs : List V} {j : Nat} (R : Regn T) (h : Ev tl σ L (.ref a)) (hx : SqL K L a xs) (I : Nat → L2.St → RP → Hp → Prop) (h0 : I 0 σ T L) (hl : ∀ i σ' T' L', I i σ' T' L' → SqL K L' a xs)
    (hs : ∀ i x σ' T' L', xs[i]? = some x → I i σ' T' L' → SvW tu { D with nx := KnW F0 B (I (i + 1)), ct := KnW F0 B (I (i + 1)), bk := tz D } (σ'.set j (some x)) T' F0 B L') (hd : ∀ σ' T' L', I xs.length σ' T' L' → SvW tz D σ' T' F0 B L') : SvW (tSeq (tFor (iList K tl) (gName j) tu) tz) D σ T F0 B L :=
  fun H w => h H w.lx _ fun H2 e2 => ⟨a, rfl, ⟨xs, ex_l (w.lx.trans e2) hx⟩, for_list (D := { D with nx := tz D }) (xs := xs) (fun i => KnW F0 B (I i)) ⟨T, L, h0, w.ext R e2⟩ (fun i σ' H3 _ ⟨T', L', p, w'⟩ => ex_l w'.lx (hl i σ' T' L' p))
    (fun i x σ' H3 hi ⟨T', L', p, w'⟩ => hs i x σ' T' L' hi p H3 w') (fun σ' H3 ⟨T', L', p, w'⟩ => hd σ' T' L' p H3 w')⟩
/-- xs[i] = e of an own list -/
theorem vw_setL {l : Addr} {xs : List V} {i : Int} {j : Nat} {ti : TE} (R : Regn T) (hl : L l = some (.lst xs)) (h : Ev te σ L v) (ho : Ev ta σ L (.ref l)) (hi : Ev ti σ L (.int i)) (hj : ixN xs.length i = some j) (k : SvW tz D σ T F0 B (upd L l (.lst (xs.set j v)))) :
    SvW (tSeq (tAsg te (gSub ta ti rSetL)) tz) D σ T F0 B L := fun H w => h H w.lx _ fun H2 e2 => ho H2 (w.ext R e2).lx _ fun H3 e3 => hi H3 ((w.ext R e2).ext R e3).lx _ fun H4 e4 =>
  have w4 := ((w.ext R e2).ext R e3).ext R e4
  ⟨l, xs, i, j, rfl, rfl, w4.lx _ _ hl, hj, k _ (w4.put R hl (fun ⟨_, z⟩ => by cases z))⟩
/-- xs.append(e) of an own list -/
theorem vw_app {l : Addr} {xs : List V} (R : Regn T) (hl : L l = some (.lst xs)) (ha : Ev ta σ L (.ref l)) (h : Ev te σ L v) (hz : xs.length < 100000) (k : SvW tz D σ T F0 B (upd L l (.lst (xs ++ [v])))) : SvW (tSeq (tDrop (tBM K "list" rAppend ta (tCons te tNil))) tz) D σ T F0 B L := fun H w =>
  ha H w.lx _ fun H2 e2 => ⟨Or.inl ⟨rfl, xs, sq_of ((w.ext R e2).lx _ _ hl)⟩, h H2 (w.ext R e2).lx _ fun H3 e3 =>
    have w3 := (w.ext R e2).ext R e3
    ⟨l, xs, v, rfl, rfl, w3.lx _ _ hl, sz_lt hz, k _ (w3.put R hl (fun ⟨_, z⟩ => by cases z))⟩⟩
/-- d[y] = e of an own dict, its keys ints and texts -/
theorem vw_dput {d : Addr} {kvs : List (Key × V)} {k0 : Key} {ty : TE} (R : Regn T) (hd : L d = some (.dK kvs)) (hv : Ev te σ L v) (ha : Ev ta σ L (.ref d)) (hy : Ev ty σ L (kV k0)) (hz : kvs.length < 10000) (k : SvW tz D σ T F0 B (upd L d (.dK (putK kvs k0 v)))) : SvW (tSeq (sDPut ta ty te) tz) D σ T F0 B L := fun H w =>
  hv H w.lx _ fun H2 e2 => ha H2 (w.ext R e2).lx _ fun H3 e3 => hy H3 ((w.ext R e2).ext R e3).lx _ fun H4 e4 =>
    have w4 := ((w.ext R e2).ext R e3).ext R e4
    ⟨d, _, rfl, DPut.k (w4.lx _ _ hd) (sz_lt (by omega)), k _ (w4.put R hd (fun ⟨_, z⟩ => by cases z))⟩
/-- x = d.pop(y) of an own dict -/
theorem vw_dpop {i : Nat} {d : Addr} {kvs : List (Key × V)} {k0 : Key} {ty : TE} (R : Regn T) (hd : L d = some (.dK kvs)) (ha : Ev ta σ L (.ref d)) (hy : Ev ty σ L (kV k0)) (hv : valV kvs k0 = some v) (k : SvW tz D (σ.set i (some v)) T F0 B (upd L d (.dK (dropK kvs k0)))) : SvW (tSeq (tAsg (tDPop1 ta ty) (gName i)) tz) D σ T F0 B L := fun H w =>
  ha H w.lx _ fun H2 e2 => ⟨d, rfl, .inl ⟨kvs, .inl ((w.ext R e2).lx _ _ hd)⟩, hy H2 (w.ext R e2).lx _ fun H3 e3 =>
    have w3 := (w.ext R e2).ext R e3
    ⟨kvs, k0, v, w3.lx _ _ hd, rfl, hv, k _ (w3.put R hd (fun ⟨_, z⟩ => by cases z))⟩⟩
end
end Wy

namespace Wy
open PySem PySem.Spec PyProof.Rows L2 Evl
/-! ### a region opened, and closed again -/
open Classical in
/-- all but F -/
noncomputable def Out (F : Reg) (H : Hp) : Hp := fun a => if F a then none else H a
theorem out_ex {F : Reg} {H : Hp} : Ex (Out F H) H := fun a o h => by
  unfold Out at h
  split at h
  · cases h
  · exact h
theorem out_no {F : Reg} {H : Hp} {a : Addr} (h : F a) : Out F H a = none := by
  unfold Out
  rw [if_pos h]
theorem out_at {F : Reg} {H : Hp} {a : Addr} (h : ¬ F a) : Out F H a = H a := by
  unfold Out
  rw [if_neg h]
theorem Regn.some {T : RP} (R : Regn T) : Regn T := R
theorem regn_ex {α : Type} {T : α → RP} (R : ∀ x, Regn (T x)) : Regn fun F H => ∃ x, T x F H where
  loc := fun F H H' ⟨x, t⟩ h => ⟨x, (R x).loc F H H' t h⟩
  dom := fun F H a ⟨x, t⟩ z => (R x).dom F H a t z
theorem regn_and {p : Prop} {T : RP} (R : Regn T) : Regn fun F H => p ∧ T F H where
  loc := fun F H H' ⟨x, t⟩ h => ⟨x, R.loc F H H' t h⟩
  dom := fun F H a ⟨x, t⟩ z => R.dom F H a t z
section
variable {T T' U U' : RP} {F F1 F2 F2' F0 B : Reg} {L L' H H' N : Hp} {Q : VK} {v : V} {P : V → Hp → Prop}
theorem open_r (R : Regn T) (S : Regn U) (t : T F1 H) (u : U F2 H) (d : ∀ a, F1 a → F2 a → False) : Wld T F1 (fun a => H a ≠ none) (Out F1 H) H ∧ U F2 (Out F1 H) := by
  refine ⟨⟨F1, t, out_ex, fun a z => out_no z, fun a z => z, fun a z => .inl z⟩, S.loc F2 H _ u fun a o h z => ?_⟩
  have nf : ¬ F1 a := fun f => by
    rcases z with z | z
    · exact d a f z
    · obtain ⟨o', ho, nt⟩ := R.dom F1 H a t f
      rw [h] at ho
      rw [← Option.some.inj ho] at nt
      exact nt z
  rw [out_at nf]
  exact h
theorem close_r (R : Regn T) (S' : Regn U') (t : T F1 H) (ff : ∀ a, F a ↔ F1 a ∨ F2 a)
    (q : ∀ (v : V) (N H' : Hp) (F' : Reg), Frm F H H' → Two T' U' F' H' → (∀ a, F' a → F a ∨ H a = none) → (∀ a, N a ≠ none → H a = none ∧ ¬ F' a) → Ex N H' → P v N → Q v H')
    (w : Wld T' F1 (fun a => H a ≠ none) L' H') (u' : U' F2' L') (g : ∀ a, F2' a → F2 a ∨ H a = none) (keep : ∀ a o, Out F1 H a = some o → (F2 a → Tupo o) → L' a = some o) (nN : ∀ a, N a ≠ none → H a = none ∧ ¬ F2' a) (eN : Ex N L') (p : P v N) : Q v H' := by
  obtain ⟨F1', t', x, d, b, f⟩ := w
  have k2 : ∀ a, F2' a → L' a ≠ none := fun a z => by
    obtain ⟨o, ho, _⟩ := S'.dom F2' L' a u' z
    rw [ho]
    exact fun q => by cases q
  refine q v N H' (fun a => F1' a ∨ F2' a) ⟨fun a o h z => ?_, b⟩ ⟨F1', F2', t', S'.ex u' x, fun a z1 z2 => k2 a z2 (d a z1), fun a => Iff.rfl⟩ (fun a z => ?_) (fun a z => ⟨(nN a z).1, fun y => ?_⟩) (eN.trans x) p
  · have nf : ¬ F1 a := fun f1 => by
      obtain ⟨o', ho, nt⟩ := R.dom F1 H a t f1
      rw [h] at ho
      rw [← Option.some.inj ho] at nt
      exact nt (z ((ff a).mpr (.inl f1)))
    exact x a o (keep a o (by rw [out_at nf]; exact h) fun f2 => z ((ff a).mpr (.inr f2)))
  · rcases z with z | z
    · rcases f a z with y | y
      · exact .inl ((ff a).mpr (.inl y))
      · exact .inr (Classical.not_not.mp y)
    · rcases g a z with y | y
      · exact .inl ((ff a).mpr (.inr y))
      · exact .inr y
  · rcases y with y | y
    · have := d a y
      cases k : N a with
      | none => exact z k
      | some o =>
        rw [eN a o k] at this
        cases this
    · exact (nN a z).2 y
end
/-! ### values read out of the region -/
section
variable {T T' U : RP} {F0 B : Reg} {L L' H H' N : Hp} {K : PySem.W.Frag} {σ : L2.St} {ta tb te tl : TE} {t u : TT} {x y z v : V} {D : Ends} {tu tw tz ts : TS} {P P' : V → Hp → Prop}
theorem unn_no : Ex (Unn nonew L) L := fun a o h => by
  have g : (match L a with | some o => some o | none => nonew a) = some o := h
  cases k : L a with
  | some u =>
    rw [k] at g
    exact g
  | none =>
    rw [k] at g
    cases g
theorem ew_at (R : Regn T) (h : ∀ H, Wld T F0 B L H → Ev te σ H v) : EvW te σ T T F0 B L fun v' _ => v' = v := fun H w Q q => h H w H (Ex.refl H) Q fun H2 e => q v nonew H2 (fun a z => (z rfl).elim) rfl ((w.ext R e).weak unn_no)
theorem et_at (R : Regn T) {b : Bool} (h : ∀ H, Wld T F0 B L H → EvT t σ H b) : EtW t σ T T F0 B L b := fun H w Q q => h H w H (Ex.refl H) Q fun H2 e => q nonew H2 (fun a z => (z rfl).elim) ((w.ext R e).weak unn_no)
/-- a pure test and what stands in the region -/
theorem vw_ifR {p : Prop} [Decidable p] (R : Regn T) (h : ∀ H, Wld T F0 B L H → EvT t σ H (decide p)) (h1 : p → SvW tu { D with nx := tz D } σ T F0 B L) (h2 : ¬ p → SvW tw { D with nx := tz D } σ T F0 B L) : SvW (tSeq (tIfS t tu tw) tz) D σ T F0 B L := fun H w => h H w H (Ex.refl H) _ fun H2 e => by
  by_cases q : p
  · rw [decide_eq_true q]
    exact h1 q H2 (w.ext R e)
  · rw [decide_eq_false q]
    exact h2 q H2 (w.ext R e)
theorem vw_whenR {p : Prop} [Decidable p] (R : Regn T) (h : ∀ H, Wld T F0 B L H → EvT t σ H (decide p)) (h1 : p → SvW tu { D with nx := tz D } σ T F0 B L) (h2 : ¬ p → SvW tz D σ T F0 B L) : SvW (tSeq (tIfS t tu tNext) tz) D σ T F0 B L := vw_ifR R h h1 h2
theorem vw_ifR' {p : Prop} [Decidable p] (R : Regn T) (h : ∀ H, Wld T F0 B L H → EvT t σ H (decide p)) (h1 : p → SvW tu D σ T F0 B L) (h2 : ¬ p → SvW tw D σ T F0 B L) : SvW (tIfS t tu tw) D σ T F0 B L := fun H w => h H w H (Ex.refl H) _ fun H2 e => by
  by_cases q : p
  · rw [decide_eq_true q]
    exact h1 q H2 (w.ext R e)
  · rw [decide_eq_false q]
    exact h2 q H2 (w.ext R e)
end
/-! ### rows by their numbers, a dict and its lists, as a region -/
/-- an entry of the dict and a row -/
def RowIs (F : Reg) (H : Hp) (e : Key × V) (p : Int × List Int) : Prop := e.1 = Sum.inl p.1 ∧ ∃ q : Addr, e.2 = V.ref q ∧ H q = some (.lst (p.2.map V.int)) ∧ F q
def DtR (d : Addr) (s : Rows) : RP := fun F H => ∃ kvs, H d = some (.dK kvs) ∧ Paired (RowIs F H) kvs s ∧ F d ∧ ∀ a, F a → ∃ o, H a = some o ∧ ¬ Tupo o
theorem rowIs_loc {F F' : Reg} {H H' : Hp} {e : Key × V} {p : Int × List Int} (h : RowIs F H e p) (k : ∀ a o, F a → H a = some o → H' a = some o) (kf : ∀ a, F a → F' a) : RowIs F' H' e p := by
  obtain ⟨a, q, b, c, d⟩ := h
  exact ⟨a, q, b, k q _ d c, kf q d⟩
theorem paired_imp {α β : Type} {R R' : α → β → Prop} (h : ∀ a b, R a b → R' a b) : ∀ {l : List α} {m : List β}, Paired R l m → Paired R' l m
  | _, _, .nil => .nil
  | _, _, .cons a b => .cons (h _ _ a) (paired_imp h b)
theorem paired_len {α β : Type} {R : α → β → Prop} : ∀ {l : List α} {m : List β}, Paired R l m → l.length = m.length
  | _, _, .nil => rfl
  | _, _, .cons _ b => congrArg (· + 1) (paired_len b)
theorem paired_snoc {α β : Type} {R : α → β → Prop} {x : α} {y : β} (h : R x y) : ∀ {l : List α} {m : List β}, Paired R l m → Paired R (l ++ [x]) (m ++ [y])
  | _, _, .nil => .cons h .nil
  | _, _, .cons a b => .cons a (paired_snoc h b)
theorem paired_get {α β : Type} {R : α → β → Prop} : ∀ {l : List α} {m : List β} {i : Nat} {y : β}, Paired R l m → m[i]? = some y → ∃ x, l[i]? = some x ∧ R x y
  | _, _, i, y, .nil, h => by cases h
  | x :: _, _ :: _, 0, y, .cons a b, h => ⟨x, rfl, by rw [← Option.some.inj h]; exact a⟩
  | _ :: _, _ :: _, i + 1, y, .cons a b, h => paired_get (i := i) b h
theorem paired_erase {α β : Type} {R : α → β → Prop} : ∀ {l : List α} {m : List β}, Paired R l m → ∀ k, Paired R (l.eraseIdx k) (m.eraseIdx k)
  | _, _, .nil, _ => .nil
  | _ :: _, _ :: _, .cons a b, 0 => b
  | _ :: _, _ :: _, .cons a b, k + 1 => .cons a (paired_erase b k)
theorem dtR_regn (d : Addr) (s : Rows) : Regn (DtR d s) where
  loc := fun F H H' ⟨kvs, h1, h2, h4, h5⟩ h => ⟨kvs, h d _ h1 (.inl h4), paired_imp (fun e p r => rowIs_loc r (fun a o f ha => h a o ha (.inl f)) fun a z => z) h2, h4, fun a z => by
    obtain ⟨o, a1, a2⟩ := h5 a z
    exact ⟨o, h a o a1 (.inl z), a2⟩⟩
  dom := fun F H a ⟨_, _, _, _, h5⟩ z => h5 a z
theorem DtR.dc {K : PySem.W.Frag} {d : Addr} {s : Rows} {F : Reg} {H : Hp} (h : DtR d s F H) : Dc K H d s := by
  obtain ⟨kvs, h1, h2, _⟩ := h
  refine ⟨kvs, h1, paired_len h2, fun i n r hi => ?_⟩
  obtain ⟨e, he, a, q, b, c, _⟩ := paired_get h2 hi
  refine ⟨q, ?_, sq_of c⟩
  rw [he]
  obtain ⟨e1, e2⟩ := e
  simp only at a b
  rw [a, b]
theorem paired_drop {F : Reg} {H : Hp} (n : Int) : ∀ {kvs : List (Key × V)} {s : Rows}, Paired (RowIs F H) kvs s → Paired (RowIs F H) (dropK kvs (Sum.inl n)) (s.filter fun p => decide (¬ p.1 = n))
  | _, _, .nil => .nil
  | e :: kvs, p :: s, .cons a b => by
    have ih := paired_drop n b
    unfold dropK at ih ⊢
    rw [List.filter_cons, List.filter_cons]
    by_cases c : p.1 = n
    · rw [if_neg (by rw [a.1, c]; simp), if_neg (by rw [c]; simp)]
      exact ih
    · rw [if_pos (by rw [a.1]; simpa using c), if_pos (by simpa using c)]
      exact .cons a ih
theorem put_new {kvs : List (Key × V)} {k : Key} {v : V} (h : valV kvs k = none) : putK kvs k v = kvs ++ [(k, v)] := by
  unfold putK
  rw [valV_any, h]
  exact if_neg (fun z => by cases z)
theorem rowOf_snoc (s : Rows) (n m : Int) (r : List Int) : rowOf (s ++ [(n, r)]) m = match rowOf s m with | some x => some x | none => if n = m then some r else none := by
  induction s with
  | nil =>
    rw [List.nil_append, rowOf_cons]
    rfl
  | cons p s ih =>
    rw [List.cons_append, rowOf_cons, rowOf_cons]
    by_cases c : p.1 = m
    · rw [if_pos c, if_pos c]
    · rw [if_neg c, if_neg c]
      exact ih
theorem rowOf_filter (s : Rows) (n m : Int) : rowOf (s.filter fun p => decide (¬ p.1 = n)) m = if n = m then none else rowOf s m := by
  induction s with
  | nil =>
    split <;> rfl
  | cons p s ih =>
    rw [List.filter_cons]
    by_cases c : p.1 = n
    · rw [if_neg (by simp [c]), ih, rowOf_cons]
      by_cases d : n = m
      · rw [if_pos d, if_pos d]
      · rw [if_neg d, if_neg d, if_neg (by rw [c]; exact d)]
    · rw [if_pos (by simp [c]), rowOf_cons, ih, rowOf_cons]
      by_cases d : p.1 = m
      · rw [if_pos d, if_pos d, if_neg (by rw [← d]; exact fun z => c z.symm)]
      · rw [if_neg d, if_neg d]
theorem rowOf_mem {s : Rows} {n : Int} (h : n ∈ s.map (·.1)) : ∃ r, rowOf s n = some r := by
  induction s with
  | nil => cases h
  | cons p s ih =>
    rw [rowOf_cons]
    by_cases c : p.1 = n
    · exact ⟨p.2, if_pos c⟩
    · rw [if_neg c]
      rw [List.map_cons] at h
      rcases List.mem_cons.mp h with q | q
      · exact (c q.symm).elim
      · exact ih q
theorem mem_rowOf {s : Rows} {n : Int} {r : List Int} (h : rowOf s n = some r) : n ∈ s.map (·.1) := by
  induction s with
  | nil => cases h
  | cons p s ih =>
    rw [rowOf_cons] at h
    rw [List.map_cons]
    by_cases c : p.1 = n
    · rw [c]
      exact List.mem_cons_self ..
    · rw [if_neg c] at h
      exact List.mem_cons_of_mem _ (ih h)
/-! ### new arguments, methods -/
def EvAN (ta : TA) (σ : L2.St) (H : Hp) (PA : List V → Hp → Prop) : Prop := ∀ H1, Ex H H1 → ∀ Q : List V → Hp → Prop, (∀ vs N H2, (∀ a, N a ≠ none → H1 a = none) → PA vs N → Ex N H2 → Ex H1 H2 → Q vs H2) → ta σ H1 Q
section
variable {T T' T'' U : RP} {F0 B : Reg} {L L' H H' N : Hp} {K : PySem.W.Frag} {σ : L2.St} {ta tb te tl : TE} {t u : TT} {x y z v : V} {D : Ends} {tu tw tz ts : TS} {P P' : V → Hp → Prop}
theorem ean_one {P : V → Hp → Prop} (h : EvN te σ H P) : EvAN (tCons te tNil) σ H fun vs N => ∃ v, vs = [v] ∧ P v N := fun H1 e Q q => h H1 e _ fun v N H2 d p a b => q [v] N H2 d ⟨v, rfl, p⟩ a b
theorem ean_cons {tr : TA} {PA : List V → Hp → Prop} (h : Ev te σ H v) (hr : EvAN tr σ H PA) : EvAN (tCons te tr) σ H fun vs N => ∃ ws, vs = v :: ws ∧ PA ws N := fun H1 e Q q =>
  h H1 e _ fun H2 e2 => hr H2 (e.trans e2) _ fun ws N H3 d p a b => q (v :: ws) N H3 (fun x z => fresh_back e2 (d x z)) ⟨ws, rfl, p⟩ a (e2.trans b)
theorem ew_mtN {C : Addr} {m : Str} {sp : Sp} {E : XK} {a : Addr} {t : TA} {PA : List V → Hp → Prop} {p : V → Prop} (R : Regn T) (h : Ev ta σ L (.ref a)) (hi : ∀ H, Wld T F0 B L H → ∃ dx fs, H a = some (.ins C dx fs) ∧ fs.lookup m = none) (ht : EvAN t σ L PA)
    (hs : ∀ vs N, (∀ a, N a ≠ none → L a = none ∧ ¬ B a) → PA vs N → SpWP sp (.ref a :: vs) T T' F0 B (Unn N L) fun v _ => p v) : EvW (tMeth C m sp [] E ta t) σ T T' F0 B L fun v _ => p v := fun H w Q q =>
  h H w.lx _ fun H2 e => by
    obtain ⟨dx, fs, h1, h2⟩ := hi H2 (w.ext R e)
    refine ⟨a, dx, fs, rfl, h1, h2, ht H2 (w.ext R e).lx _ fun vs N H3 d pa x y => ?_⟩
    rw [List.append_nil]
    have w2 := w.ext R e
    refine hs vs N (fun b z => ⟨fresh_back w2.lx (d b z), fun g => let ⟨_, _, _, _, bb, _⟩ := w2; bb b g (d b z)⟩) pa H3 (w2.new R y d x) Q (fun v N' H' d' pv w' => q v nonew H' (fun b z => (z rfl).elim) pv (w'.weak (unn_no.trans (unn_r.trans unn_r)))) E
theorem ew_isN (h : EvW te σ T T' F0 B L fun v _ => v = .non) : EvW (tOp rNone te (tC .non)) σ T T' F0 B L fun v _ => v = .bl true := fun H w Q q => h H w _ fun v N H' d p w' => ⟨rfl, by
  show Q (.bl (decide (v = .non))) H'
  rw [decide_eq_true p]
  exact q _ N H' d rfl w'⟩
theorem ew_and (h1 : EvW ta σ T T' F0 B L fun v _ => v = .bl true) (h2 : EvW tb σ T' T'' F0 B L fun v _ => v = .bl true) : EvW (tAndV ta tb) σ T T'' F0 B L fun v _ => v = .bl true := fun H w Q q => h1 H w _ fun v N H' d p w' => ⟨true, p, by
  show tb σ H' Q
  exact h2 H' (w'.weak unn_r) Q fun v N' H2 d' p' w2 => q v N' H2 d' p' w2⟩
end
section
variable {K : PySem.W.Frag} {σ : L2.St} {H : Hp} {ta : TE}
/-- sorted(d.keys()) -/
theorem en_sortK {d : Addr} {s : Rows} (ha : Ev ta σ H (.ref d)) (hd : Dc K H d s) (hz : s.length ≤ 100000) : EvN (tCB rSortK (tCons (tBM0 K "dict" rKeysV ta) tNil)) σ H fun v N => ∃ (p : Addr) (ys : List Int), v = .ref p ∧ N p = some (.lst (ys.map V.int)) ∧ ys.Perm (s.map (·.1)) ∧ ys.Pairwise (· ≤ ·) := fun H1 e Q q =>
  ha H1 e _ fun H2 e2 => by
    obtain ⟨kvs, hk, hv⟩ := hd.mono (e.trans e2)
    refine ⟨.inr (.inr (.inl ⟨rfl, .inl ⟨kvs, hk⟩⟩)), d, kvs, rfl, rfl, hk, fun p np => ⟨p, d, kvs, s.map (·.1), rfl, upd_same, by rw [upd_ne (ne_of_none hk np)]; exact hk, hv.keys, by rw [List.length_map]; exact hz, fun ys l p1 p2 nl => ?_⟩⟩
    have x : Ex H1 (upd H2 p (keysO p d)) := e2.trans (Ex.new np)
    exact q (.ref l) (one l (.lst (ys.map V.int))) _ (fun a z => by rw [one_ne z]; exact fresh_back x nl) ⟨l, ys, rfl, one_at, p1, p2⟩ (one_ex upd_same) (x.trans (Ex.new nl))
/-- list(d.values()) -/
theorem en_listV {d : Addr} {s : Rows} {kvs : List (Key × V)} (ha : Ev ta σ H (.ref d)) (hk : H d = some (.dK kvs)) : EvL (tCB rListV (tCons (tBM0 K "dict" rValsV ta) tNil)) σ H (kvs.map (·.2)) := fun H1 e Q q =>
  ha H1 e _ fun H2 e2 => by
    have hk2 := (e.trans e2) _ _ hk
    refine ⟨.inr (.inr (.inl ⟨rfl, .inl ⟨kvs, hk2⟩⟩)), d, kvs, rfl, rfl, hk2, fun p np => ⟨p, d, kvs, rfl, upd_same, by rw [upd_ne (ne_of_none hk2 np)]; exact hk2, fun l nl => ?_⟩⟩
    exact q l _ (fresh_back (e2.trans (Ex.new np)) nl) ((e2.trans (Ex.new np)).trans (Ex.new nl)) upd_same
end
theorem paired_val {F : Reg} {H : Hp} : ∀ {kvs : List (Key × V)} {s : Rows} {n : Int} {r : List Int}, Paired (RowIs F H) kvs s → rowOf s n = some r → ∃ q : Addr, valV kvs (Sum.inl n) = some (V.ref q) ∧ H q = some (.lst (r.map V.int)) ∧ F q
  | _, _, _, _, .nil, h => by cases h
  | e :: kvs, p :: s, n, r, .cons a b, h => by
    rw [rowOf_cons] at h
    obtain ⟨e1, q, e2, e3, e4⟩ := a
    by_cases c : p.1 = n
    · rw [if_pos c] at h
      rw [valV_pos (by rw [e1, c])]
      exact ⟨q, by rw [e2], by rw [← Option.some.inj h]; exact e3, e4⟩
    · rw [if_neg c] at h
      rw [valV_neg (by rw [e1]; intro z; exact c (Sum.inl.inj z))]
      exact paired_val b h
theorem paired_no {F : Reg} {H : Hp} : ∀ {kvs : List (Key × V)} {s : Rows} {n : Int}, Paired (RowIs F H) kvs s → rowOf s n = none → valV kvs (Sum.inl n) = none
  | _, _, _, .nil, h => rfl
  | e :: kvs, p :: s, n, .cons a b, h => by
    rw [rowOf_cons] at h
    obtain ⟨e1, q, e2, e3, e4⟩ := a
    by_cases c : p.1 = n
    · rw [if_pos c] at h
      cases h
    · rw [if_neg c] at h
      rw [valV_neg (by rw [e1]; intro z; exact c (Sum.inl.inj z))]
      exact paired_no b h
theorem rowOf_none {s : Rows} {n : Int} (h : n ∉ s.map (·.1)) : rowOf s n = none := by
  cases k : rowOf s n with
  | none => rfl
  | some r => exact (h (mem_rowOf k)).elim
end Wy

set_option Elab.async false
set_option linter.all false
set_option maxRecDepth 100000
set_option maxHeartbeats 4000000
/-! Wk: an order that is kept, by what it promises. -/
namespace Wy
open PySem PySem.Spec PyProof.Rows L2 Evl
/-- whether one list stands ahead of another -/
def ahead : List Int → List Int → Bool
  | x :: xs, y :: ys => if x = y then ahead xs ys else decide (x < y)
  | [], _ :: _ => true
  | _, [] => false
structure Mt (P : Program) (w : World) (K : PySem.W.Frag) (mg : Str → Option Value) (base : Heap) (CX : CXT) (k : Nat) (C : Addr) (m : Str) (sp : Sp) : Prop where
  ex : ∃ (f : Addr) (fd : FuncData) (ps : List Str), Cls K C ∧ Meth K C m f ∧ FnOk P w K mg base CX k f fd ps sp ∧ Binds K fd ps []
structure Mc (P : Program) (w : World) (K : PySem.W.Frag) (mg : Str → Option Value) (base : Heap) (CX : CXT) (k : Nat) (x : Str) (C : Addr) (sp : Sp) : Prop where
  ex : ∃ (f : Addr) (fd : FuncData) (ps : List Str), Mk K C f ∧ FnOk P w K mg base CX k f fd ps sp ∧ mg x = some (.ref C) ∧ Binds K fd ps []
section
variable {X : Cx} {CX : CXT} {E : XK} {k j : Nat} {C : Addr} {x m : Str} {sp : Sp} {p pos apos : Pos} {e o : Expr} {es : List Expr} {ta : TE} {t : TA}
theorem pe_m {pl : Sem Bool} (c : Mt X.prog X.w X.K X.mg X.base CX k C m sp) (hr : Room j X.A) (hk : k ≤ j) (hx : Passes CX X E) (he : PE X o ta) (ha : PA X (e :: es) t)
    (hst : starEach (e :: es) X.env = (false, eval e X.env) :: starEach es X.env := by rfl) (hpl : (backTo pos (starEach es X.env)).any (·.1) = false := by rfl)
    (ht : eval (.Call (.Attribute o m apos) (e :: es) [] pos) X.env = (do
      let recv ← eval o X.env
      standAt apos.atName
      let (g, first) ← holding [recv] (getMethod recv m pl)
      callWith pos g first (backTo pos (starEach (e :: es) X.env)) (backToKw pos (keywordEach [] X.env))) := by rfl) :
    PE X (.Call (.Attribute o m apos) (e :: es) [] pos) (tMeth C m sp [] E ta t) := by
  obtain ⟨f, fd, ps, hc, hm, F, b⟩ := c.ex
  exact pe_meth (pl := pl) he hc hm F (hr.mono hk) b .nil hx ha hst hpl ht
theorem pe_m0 {pl : Sem Bool} (c : Mt X.prog X.w X.K X.mg X.base CX k C m sp) (hr : Room j X.A) (hk : k ≤ j) (hx : Passes CX X E) (he : PE X o ta)
    (ht : eval (.Call (.Attribute o m apos) [] [] pos) X.env = (do
      let recv ← eval o X.env
      standAt apos.atName
      let (g, first) ← holding [recv] (getMethod recv m pl)
      callWith pos g first (backTo pos (starEach [] X.env)) (backToKw pos (keywordEach [] X.env))) := by rfl) :
    PE X (.Call (.Attribute o m apos) [] [] pos) (tMeth C m sp [] E ta tNil) := by
  obtain ⟨f, fd, ps, hc, hm, F, b⟩ := c.ex
  exact pe_meth0 (pl := pl) he hc hm F (hr.mono hk) b .nil hx ht
theorem pe_k (c : Mc X.prog X.w X.K X.mg X.base CX k x C sp) (hr : Room j X.A) (hk : k + 1 ≤ j) (hx : Passes CX X E) (hg : Gl X x) (ha : PA X (e :: es) t)
    (hdb : (x == ("__debug__" : Str)) = false := by decide) (he : starEach (e :: es) X.env = (false, eval e X.env) :: starEach es X.env := by rfl) (hpl : (backTo pos (starEach es X.env)).any (·.1) = false := by rfl) :
    PE X (.Call (.Name x p) (e :: es) [] pos) (tMake C sp [] E t) := by
  obtain ⟨f, fd, ps, M, F, hm, b⟩ := c.ex
  exact pe_make M F (hr.mono hk) hg hm b .nil hx ha hdb he hpl
end
/-- what a Kept is, whatever it holds: its region, its columns -/
structure KS (K : PySem.W.Frag) where
  C : Addr
  at_ : Addr → List Int → Rows → RP
  regn : ∀ k c s, Regn (at_ k c s)
  ins : ∀ {k c s F H}, at_ k c s F H → ∃ (dx : Addr) (fs : List (Str × V)) (ct : Addr), H k = some (.ins C dx fs) ∧ fs.lookup ("columns" : Str) = some (.ref ct) ∧ SqT K H ct (c.map V.int) ∧
    fs.lookup ("put" : Str) = none ∧ fs.lookup ("drop" : Str) = none ∧ fs.lookup ("numbers" : Str) = none ∧ fs.lookup ("stretch" : Str) = none ∧ fs.lookup ("covers" : Str) = none
  cls : Cls K C
  noCol : NoAttr K C "columns"
def Wide (s : Rows) (w : Nat) : Prop := ∀ n r, rowOf s n = some r → r.length = w
section
variable {K : PySem.W.Frag} (S : KS K)
def RowAt (K : PySem.W.Frag) (H : Hp) (F : Reg) (r : Addr) (row : List Int) : Prop := (SqL K H r (row.map V.int) ∧ ¬ F r) ∨ SqT K H r (row.map V.int)
def RKPut : List V → Hp → Reg → RP → (V → Hp → Prop) → Prop := fun vs H F T' P => ∃ (k r : Addr) (n : Int) (row c : List Int) (s : Rows), vs = [.ref k, .int n, .ref r] ∧ S.at_ k c s F H ∧ RowAt K H F r row ∧ rowOf s n = none ∧ (∀ x ∈ c, 0 ≤ x ∧ x < row.length) ∧ row.length ≤ 6 ∧ Wide s row.length ∧ s.length < 200 ∧
  T' = S.at_ k c (s ++ [(n, row)]) ∧ P = fun v _ => v = .non
def RKDrop : List V → Hp → Reg → RP → (V → Hp → Prop) → Prop := fun vs H F T' P => ∃ (k r : Addr) (n : Int) (row c : List Int) (s : Rows), vs = [.ref k, .int n, .ref r] ∧ S.at_ k c s F H ∧ RowAt K H F r row ∧ rowOf s n = some row ∧ (∀ x ∈ c, 0 ≤ x ∧ x < row.length) ∧ row.length ≤ 6 ∧ Wide s row.length ∧
  T' = S.at_ k c (s.filter fun p => decide (¬ p.1 = n)) ∧ P = fun v _ => v = .non
def RKNumbers : List V → Hp → Reg → RP → (V → Hp → Prop) → Prop := fun vs H F T' P => ∃ (k : Addr) (c : List Int) (s : Rows), vs = [.ref k] ∧ S.at_ k c s F H ∧ T' = S.at_ k c s ∧ P = fun v N => ∃ p ns, v = .ref p ∧ N p = some (.lst (ns.map V.int)) ∧ InOrd ahead c s ns
def RKCovers : List V → Hp → Reg → RP → (V → Hp → Prop) → Prop := fun vs H F T' P => ∃ (k b : Addr) (c : List Int) (s : Rows) (ws : List V) (ts : List Tri), vs = [.ref k, .ref b] ∧ S.at_ k c s F H ∧ SqL K H b ws ∧ Wt K H ws ts ∧ ts.length ≤ 20 ∧ T' = S.at_ k c s ∧ P = fun v _ => v = .bl (ts.all fun t => decide (t.c ∈ c))
/-- a new one -/
def spKInit : Sp := fun vs H Q _ => ∃ (x dx ct : Addr) (c : List Int), vs = [.ref x, .ref ct] ∧ H x = some (.ins S.C dx []) ∧ H dx = some (.own x) ∧ dx ≠ x ∧ H ct = some (.tup (c.map V.int)) ∧ c ≠ [] ∧ c.length ≤ 6 ∧
  ∀ (H' : Hp) (F' : Reg), (∀ a o, H a = some o → a ≠ x → a ≠ dx → H' a = some o) → (∀ a, H a ≠ none → H' a ≠ none) → S.at_ x c [] F' H' → (∀ a, F' a → a = x ∨ a = dx ∨ H a = none) → Q .non H'
end
def Emp : RP := fun F _ => ∀ a, ¬ F a
theorem emp_regn : Regn Emp := ⟨fun F _ _ t _ => t, fun F H a t z => (t a z).elim⟩
section
variable {T U : RP} {F0 B F2 : Reg} {L H : Hp} {K : PySem.W.Frag} {S : KS K} {σ : L2.St} {ta : TE} {t : TA} {D : Ends} {tz : TS}
theorem two_emp {F : Reg} (R : Regn T) (h : Two T Emp F H) : T F H := by
  obtain ⟨F1, F2, t, u, d, f⟩ := h
  have e : F1 = F := by
    funext a
    refine propext ⟨fun z => (f a).mpr (.inl z), fun z => ((f a).mp z).elim id fun q => (u a q).elim⟩
  rw [← e]
  exact t
theorem start_w (h : Ex L H) : Wld Emp F0 (fun _ => False) L H := ⟨fun _ => False, fun _ z => z, h, fun _ z => z.elim, fun _ z => z.elim, fun _ z => z.elim⟩
/-- what is known becomes a region's -/
theorem Wld.own (R : Regn T) (SU : Regn U) (w : Wld T F0 B L H) (u : U F2 L) (n : ∀ a, F2 a → ¬ B a) : Wld (Two T U) F0 B (Out F2 L) H := by
  obtain ⟨F, t, x, d, b, f⟩ := w
  refine ⟨fun a => F a ∨ F2 a, ⟨F, F2, t, SU.ex u x, fun a z1 z2 => ?_, fun a => Iff.rfl⟩, out_ex.trans x, fun a z => ?_, b, fun a z => z.elim (f a) fun z => .inr (n a z)⟩
  · obtain ⟨o, ho, _⟩ := SU.dom F2 L a u z2
    rw [d a z1] at ho
    cases ho
  · rcases z with z | z
    · exact fresh_back out_ex (d a z)
    · exact out_no z
/-- x = Kept(t) -/
theorem vw_make {i : Nat} {sp : Sp} {E : XK} {ct : Addr} {c : List Int} (R : Regn T) (hc : L ct = some (.tup (c.map V.int))) (h : EvA t σ L [.ref ct]) (h0 : c ≠ []) (h6 : c.length ≤ 6) (he : sp = spKInit S)
    (k : ∀ x, L x = none → SvW tz D (σ.set i (some (.ref x))) (Two T (S.at_ x c [])) F0 B L) : SvW (tSeq (tAsg (tMake S.C sp [] E t) (gName i)) tz) D σ T F0 B L := fun H w => h H w.lx _ fun H2 e x dx nx nd ne => by
  subst he
  have w2 := w.ext R e
  have e3 : Ex H2 (upd (upd H2 dx (.own x)) x (.ins S.C dx [])) := fun a o ha => by
    rw [upd_ne (ne_of_none ha nx), upd_ne (ne_of_none ha nd)]
    exact ha
  rw [List.append_nil]
  refine ⟨x, dx, ct, c, rfl, upd_same, by rw [upd_ne ne, upd_same], ne, e3 _ _ (w2.lx _ _ hc), h0, h6, fun H' F' kp dm at' gr => ⟨rfl, ?_⟩⟩
  have keep : Ex H2 H' := fun a o ha => kp a o (e3 a o ha) (ne_of_none ha nx) (ne_of_none ha nd)
  have new : ∀ a, F' a → H2 a = none := fun a z => by
    rcases gr a z with q | q | q
    · rw [q]
      exact nx
    · rw [q]
      exact nd
    · exact fresh_back e3 q
  refine k x (fresh_back w2.lx nx) H' ?_
  obtain ⟨F, tt, xx, d, b, f⟩ := w2
  refine ⟨fun a => F a ∨ F' a, ⟨F, F', R.ex tt keep, at', fun a z1 z2 => ?_, fun a => Iff.rfl⟩, xx.trans keep, fun a z => ?_, fun a z => ex_dm keep a (b a z), fun a z => z.elim (f a) fun z => .inr fun y => b a y (new a z)⟩
  · obtain ⟨o, ho, _⟩ := R.dom F H2 a tt z1
    rw [new a z2] at ho
    cases ho
  · rcases z with z | z
    · exact d a z
    · exact fresh_back xx (new a z)
end
end Wy

set_option Elab.async false
set_option linter.all false
set_option maxRecDepth 100000
set_option maxHeartbeats 4000000
/-! Wl: laws over regions: a beginning, what is new, what is read. -/
namespace Wy
open PySem PySem.Spec PyProof.Rows L2 Evl
section
variable {T T' T'' U A B C : RP} {F0 B0 F2 : Reg} {L L' H H' N : Hp} {K : PySem.W.Frag} {σ : L2.St} {ta tb te tl : TE} {t u : TT} {x y z v : V} {D : Ends} {tu tw tz ts : TS} {P P' : V → Hp → Prop}
theorem rv_mono {r : R2} (e : Ex H H') (h : RV r x y H v) : RV r x y H' v := fun H1 a Q q => h H1 (e.trans a) Q q
theorem et_b {b b' : Bool} (h : EvT t σ H b) (e : b = b') : EvT t σ H b' := e ▸ h
theorem sv_ifsetI {p : Prop} [Decidable p] {i : Nat} {m : Int} (h : EvT t σ L (decide p)) (h1 : p → ∃ n : Int, Ev te σ L (.int n)) (h2 : σ.set i (some (.int m)) = σ) (k : ∀ n : Int, Sv tz D (σ.set i (some (.int n))) L) : Sv (tSeq (tIfS t (tAsg te (gName i)) tNext) tz) D σ L := by
  by_cases q : p
  · obtain ⟨n, hn⟩ := h1 q
    refine sv_ifset (p := p) (v := .int n) (w := .int m) h (fun _ => hn) (fun c => (c q).elim) ?_
    rw [if_pos q]
    exact k n
  · refine sv_ifset (p := p) (v := .int 0) (w := .int m) h (fun c => (q c).elim) (fun _ => h2) ?_
    rw [if_neg q]
    exact k m
theorem ev_opL {r : R2} {xs : List V} (ha : EvL ta σ L xs) (hb : Ev tb σ L y) (hr : ∀ p H2, Ex L H2 → H2 p = some (.lst xs) → RV r (.ref p) y H2 z) : Ev (tOp r ta tb) σ L z := fun H1 e Q q =>
  ha H1 e _ fun p H2 n e2 hp => hb H2 (e.trans e2) _ fun H3 e3 => hr p H3 ((e.trans e2).trans e3) (e3 _ _ hp) H3 (Ex.refl _) Q fun H4 e4 => q H4 ((e2.trans e3).trans e4)
theorem sv_w (h : SvW ts D σ Emp (fun _ => False) (fun _ => False) L) : Sv ts D σ L := fun H1 e => h H1 (start_w e)
theorem vw_imp (i : ∀ F H, T F H → T' F H) (h : SvW ts D σ T' F0 B0 L) : SvW ts D σ T F0 B0 L := fun H w => h H (w.imp fun F t => i F H t)
theorem vw_ex {α : Type} {TT : α → RP} (h : ∀ x, SvW ts D σ (TT x) F0 B0 L) : SvW ts D σ (fun F H => ∃ x, TT x F H) F0 B0 L := fun H ⟨F, ⟨x, t⟩, r⟩ => h x H ⟨F, t, r⟩
theorem vw_and {p : Prop} (h : p → SvW ts D σ T F0 B0 L) : SvW ts D σ (fun F H => p ∧ T F H) F0 B0 L := fun H ⟨F, ⟨q, t⟩, r⟩ => h q H ⟨F, t, r⟩
theorem two_empl {F : Reg} (R : Regn T) (h : Two Emp T F H) : T F H := two_emp R (two_swap h)
theorem two_assoc {F : Reg} (h : Two (Two A B) C F H) : Two A (Two B C) F H := by
  obtain ⟨F1, F3, ⟨Fa, Fb, a, b, d1, f1⟩, c, d, f⟩ := h
  refine ⟨Fa, fun x => Fb x ∨ F3 x, a, ⟨Fb, F3, b, c, fun x p q => d x ((f1 x).mpr (.inr p)) q, fun x => Iff.rfl⟩, fun x p q => q.elim (d1 x p) (d x ((f1 x).mpr (.inl p))), fun x => ?_⟩
  rw [f x, f1 x, or_assoc]
theorem two_assoc' {F : Reg} (h : Two A (Two B C) F H) : Two (Two A B) C F H := by
  obtain ⟨Fa, F2, a, ⟨Fb, Fc, b, c, d2, f2⟩, d, f⟩ := h
  refine ⟨fun x => Fa x ∨ Fb x, Fc, ⟨Fa, Fb, a, b, fun x p q => d x p ((f2 x).mpr (.inl q)), fun x => Iff.rfl⟩, c, fun x p q => p.elim (fun p => d x p ((f2 x).mpr (.inr q))) fun p => d2 x p q, fun x => ?_⟩
  rw [f x, f2 x, or_assoc]
theorem two_imp {F : Reg} (i : ∀ F, A F H → B F H) (h : Two A C F H) : Two B C F H := let ⟨F1, F2, a, c, r⟩ := h; ⟨F1, F2, i F1 a, c, r⟩
theorem two_impr {F : Reg} (i : ∀ F, A F H → B F H) (h : Two C A F H) : Two C B F H := let ⟨F1, F2, c, a, r⟩ := h; ⟨F1, F2, c, i F2 a, r⟩
theorem spw_imp {sp : Sp} {vs : List V} (i : ∀ F H, T F H → A F H) (j : ∀ F H, B F H → T' F H) (h : SpWP sp vs A B F0 B0 L P) : SpWP sp vs T T' F0 B0 L P := fun H w Q q E =>
  h H (w.imp fun F t => i F H t) Q (fun v N H' d p w' => q v N H' d p (w'.imp fun F t => j F H' t)) E
/-- d = {} -/
theorem vw_newD {i : Nat} (R : Regn T) (k : ∀ d, L d = none → SvW tz D (σ.set i (some (.ref d))) (Two T (DtR d [])) F0 B0 L) : SvW (tSeq (tAsg tDNewK (gName i)) tz) D σ T F0 B0 L := fun H w d nd => by
  refine k d (fresh_back w.lx nd) _ ?_
  have e : Ex H (upd H d (.dK [])) := Ex.new nd
  obtain ⟨F, t, x, dd, b, f⟩ := w
  refine ⟨fun a => F a ∨ a = d, ⟨F, fun a => a = d, R.ex t e, ⟨[], upd_same, .nil, rfl, fun a z => ⟨.dK [], by rw [show a = d from z]; exact upd_same, fun ⟨_, q⟩ => by cases q⟩⟩, fun a z1 z2 => ?_, fun a => Iff.rfl⟩, x.trans e, fun a z => ?_, fun a z => ex_dm e a (b a z), fun a z => z.elim (f a) fun z => .inr fun y => b a y (by rw [z]; exact nd)⟩
  · obtain ⟨o, ho, _⟩ := R.dom F H a t z1
    rw [z2, nd] at ho
    cases ho
  · rcases z with z | z
    · exact dd a z
    · rw [z]
      exact fresh_back x nd
/-- o.f -/
theorem ev_fld {C a dx : Addr} {f : Str} {fs : List (Str × V)} (h : Ev ta σ H (.ref a)) (hi : H a = some (.ins C dx fs)) (hc : Cls K C) (hn : NoAttr K C f) (hl : fs.lookup f = some v) : Ev (tFld K ta f) σ H v := fun H1 e Q q =>
  h H1 e _ fun H2 e2 => ⟨a, C, dx, fs, v, rfl, (e.trans e2) _ _ hi, hc, hn, hl, q H2 e2⟩
theorem ev_neg {i : Int} (h : Ev te σ H (.int i)) : Ev (tUn (rU fun i => .int (-i)) te) σ H (.int (-i)) := fun H1 e Q q => h H1 e _ fun H2 e2 => ⟨i, rfl, q H2 e2⟩
/-- arguments, the first one out of the region -/
def EaW (ta : TA) (σ : L2.St) (T T' : RP) (F0 B : Reg) (L : Hp) (P : List V → Hp → Prop) : Prop := ∀ H, Wld T F0 B L H → ∀ Q : List V → Hp → Prop, (∀ vs N H', (∀ a, N a ≠ none → L a = none ∧ ¬ B a) → P vs N → Wld T' F0 B (Unn N L) H' → Q vs H') → ta σ H Q
theorem eaw_cons {tr : TA} {vs : List V} (R : Regn T') (h : EvW te σ T T' F0 B0 L P) (hr : EvA tr σ L vs) : EaW (tCons te tr) σ T T' F0 B0 L fun ws N => ∃ v, ws = v :: vs ∧ P v N := fun H w Q q =>
  h H w _ fun v N H2 d p w2 => hr H2 (unn_r.trans w2.lx) _ fun H3 e3 => q (v :: vs) N H3 d ⟨v, rfl, p⟩ (w2.ext R e3)
theorem ew_clR {sp : Sp} {E : XK} {ta : TA} {PA : List V → Hp → Prop} (R : Regn T') (h : EaW ta σ T T' F0 B0 L PA) (hs : ∀ vs N H', (∀ a, N a ≠ none → L a = none ∧ ¬ B0 a) → PA vs N → Wld T' F0 B0 (Unn N L) H' → SpV sp vs H' v) : EvW (tCall sp [] E ta) σ T T' F0 B0 L fun v' _ => v' = v := fun H w Q q =>
  h H w _ fun vs N H2 d p w2 => by
    rw [List.append_nil]
    exact hs vs N H2 d p w2 H2 (Ex.refl H2) Q (fun H3 e3 => q v N H3 d rfl (w2.ext R e3)) E
theorem etw_or {b1 b2 : Bool} (h1 : EtW t σ T T' F0 B0 L b1) (h0 : b1 = false) (h2 : ∀ N, (∀ a, N a ≠ none → L a = none ∧ ¬ B0 a) → EtW u σ T' T'' F0 B0 (Unn N L) b2) : EtW (tOr t u) σ T T'' F0 B0 L b2 := fun H w Q q => h1 H w _ fun N H2 d w2 => by
  show (if b1 = true then Q true H2 else u σ H2 Q)
  rw [h0, if_neg (by decide)]
  refine h2 N d H2 w2 Q fun N' H3 d' w3 => q (Unn N' N) H3 (fun a z => ?_) (w3.weak fun a o h => ?_)
  · rcases unn_none z with z | z
    · exact d a z
    · exact ⟨fresh_back unn_r (d' a z).1, (d' a z).2⟩
  · have g : (match L a with | some o => some o | none => (match N a with | some o => some o | none => N' a)) = some o := h
    show (match (match L a with | some o => some o | none => N a) with | some o => some o | none => N' a) = some o
    cases k : L a with
    | some l =>
      rw [k] at g
      exact g
    | none =>
      rw [k] at g
      exact g
theorem etw_of {b : Bool} (R : Regn T) (h : EvT t σ L b) : EtW t σ T T F0 B0 L b := fun H w Q q => h H w.lx Q fun H2 e => q nonew H2 (fun a z => (z rfl).elim) ((w.ext R e).weak unn_no)
/-- o.m(), its promise over the region -/
theorem ew_mt0 {C : Addr} {m : Str} {sp : Sp} {E : XK} {a : Addr} (R : Regn T) (h : Ev ta σ L (.ref a)) (hi : ∀ H, Wld T F0 B0 L H → ∃ dx fs, H a = some (.ins C dx fs) ∧ fs.lookup m = none) (hs : SpWP sp [.ref a] T T' F0 B0 L P) : EvW (tMeth C m sp [] E ta tNil) σ T T' F0 B0 L P := ew_mt R h hi ea_nil hs
theorem vw_whenW {b : Bool} (h : EtW t σ T T' F0 B0 L b) (hb : b = false) (k : ∀ N, (∀ a, N a ≠ none → L a = none ∧ ¬ B0 a) → SvW tz D σ T' F0 B0 (Unn N L)) : SvW (tSeq (tIfS t tu tNext) tz) D σ T F0 B0 L := vw_ifW h (fun N d e => by rw [hb] at e; cases e) fun N d _ => k N d
theorem ew_and' {v : V} (h1 : EvW ta σ T T' F0 B0 L fun v _ => v = .bl true) (h2 : ∀ N, (∀ a, N a ≠ none → L a = none ∧ ¬ B0 a) → EvW tb σ T' T'' F0 B0 (Unn N L) fun v' _ => v' = v) : EvW (tAndV ta tb) σ T T'' F0 B0 L fun v' _ => v' = v := fun H w Q q => h1 H w _ fun v N H' d p w' => ⟨true, p, by
  show tb σ H' Q
  exact h2 N d H' w' Q fun v N' H2 d' p' w2 => q v nonew H2 (fun a z => (z rfl).elim) p' (w2.weak (unn_no.trans (unn_r.trans unn_r)))⟩
theorem SpWP.weak {sp : Sp} {vs : List V} (h : SpWP sp vs T T' F0 B0 L P) : SpWP sp vs T T' F0 B0 L P := h
end
end Wy

set_option Elab.async false
set_option linter.all false
set_option maxRecDepth 100000
set_option maxHeartbeats 4000000
/-! Wm: the ends of a wish, stretches. -/
namespace Wy
open PySem PySem.Spec PyProof.Rows L2 Evl
theorem maxL_snoc : ∀ (l : List Int) (x : Int), maxL (l ++ [x]) = if l = [] then x else max (maxL l) x
  | [], x => rfl
  | [a], x => rfl
  | a :: b :: r, x => by
    rw [if_neg (by simp)]
    show max a (maxL ((b :: r) ++ [x])) = max (max a (maxL (b :: r))) x
    rw [maxL_snoc (b :: r) x, if_neg (by simp)]
    omega
theorem minL_snoc : ∀ (l : List Int) (x : Int), minL (l ++ [x]) = if l = [] then x else min (minL l) x
  | [], x => rfl
  | [a], x => rfl
  | a :: b :: r, x => by
    rw [if_neg (by simp)]
    show min a (minL ((b :: r) ++ [x])) = min (min a (minL (b :: r))) x
    rw [minL_snoc (b :: r) x, if_neg (by simp)]
    omega
theorem lows_snoc (c : Int) (ts : List Tri) (t : Tri) : lowsM c (ts ++ [t]) = lowsM c ts ++ if t.c = c ∧ ¬ t.lo = none then [t.lo.getD 0] else [] := by
  unfold lowsM
  rw [List.filter_append, List.map_append]
  congr 1
  by_cases h : t.c = c ∧ ¬ t.lo = none
  · rw [if_pos h, List.filter_cons_of_pos (p := fun t : Tri => decide (t.c = c ∧ ¬ t.lo = none)) (decide_eq_true h)]
    rfl
  · rw [if_neg h, List.filter_cons_of_neg (p := fun t : Tri => decide (t.c = c ∧ ¬ t.lo = none)) (by rw [decide_eq_false h]; decide)]
    rfl
theorem highs_snoc (c : Int) (ts : List Tri) (t : Tri) : highsM c (ts ++ [t]) = highsM c ts ++ if t.c = c ∧ ¬ t.hi = none then [t.hi.getD 0] else [] := by
  unfold highsM
  rw [List.filter_append, List.map_append]
  congr 1
  by_cases h : t.c = c ∧ ¬ t.hi = none
  · rw [if_pos h, List.filter_cons_of_pos (p := fun t : Tri => decide (t.c = c ∧ ¬ t.hi = none)) (decide_eq_true h)]
    rfl
  · rw [if_neg h, List.filter_cons_of_neg (p := fun t : Tri => decide (t.c = c ∧ ¬ t.hi = none)) (by rw [decide_eq_false h]; decide)]
    rfl
theorem some_get {o : Option Int} (h : ¬ o = none) : some (o.getD 0) = o := by
  cases o with
  | none => exact (h rfl).elim
  | some i => rfl
theorem endLo_nil {c : Int} {ts : List Tri} (h : lowsM c ts = []) : endLo c ts = none := by
  unfold endLo
  rw [h]
  rfl
theorem endLo_some {c : Int} {ts : List Tri} (h : ¬ lowsM c ts = []) : endLo c ts = some (maxL (lowsM c ts)) := by
  unfold endLo
  exact if_pos (List.length_pos_iff.mpr h)
theorem endLo_snoc (c : Int) (ts : List Tri) (t : Tri) : endLo c (ts ++ [t]) = if t.c = c ∧ ¬ t.lo = none ∧ (endLo c ts = none ∨ (endLo c ts).getD 0 < t.lo.getD 0) then t.lo else endLo c ts := by
  by_cases h : t.c = c ∧ ¬ t.lo = none
  · have e : lowsM c (ts ++ [t]) = lowsM c ts ++ [t.lo.getD 0] := by rw [lows_snoc, if_pos h]
    have en : ¬ lowsM c (ts ++ [t]) = [] := by
      rw [e]
      simp
    rw [endLo_some en, e, maxL_snoc]
    by_cases hz : lowsM c ts = []
    · rw [if_pos hz, endLo_nil hz, if_pos ⟨h.1, h.2, .inl rfl⟩]
      exact some_get h.2
    · rw [if_neg hz, endLo_some hz]
      have eg : (some (maxL (lowsM c ts))).getD 0 = maxL (lowsM c ts) := rfl
      rw [eg]
      by_cases hl : maxL (lowsM c ts) < t.lo.getD 0
      · rw [if_pos ⟨h.1, h.2, .inr hl⟩, ← some_get h.2]
        congr 1
        have e2 : (some (t.lo.getD 0)).getD 0 = t.lo.getD 0 := rfl
        rw [e2]
        omega
      · rw [if_neg (fun k => k.2.2.elim (fun k => nomatch k) hl)]
        congr 1
        omega
  · have e : lowsM c (ts ++ [t]) = lowsM c ts := by rw [lows_snoc, if_neg h, List.append_nil]
    rw [if_neg fun k => h ⟨k.1, k.2.1⟩]
    unfold endLo
    rw [e]
theorem endHi_nil {c : Int} {ts : List Tri} (h : highsM c ts = []) : endHi c ts = none := by
  unfold endHi
  rw [h]
  rfl
theorem endHi_some {c : Int} {ts : List Tri} (h : ¬ highsM c ts = []) : endHi c ts = some (minL (highsM c ts)) := by
  unfold endHi
  exact if_pos (List.length_pos_iff.mpr h)
theorem endHi_snoc (c : Int) (ts : List Tri) (t : Tri) : endHi c (ts ++ [t]) = if t.c = c ∧ ¬ t.hi = none ∧ (endHi c ts = none ∨ t.hi.getD 0 < (endHi c ts).getD 0) then t.hi else endHi c ts := by
  by_cases h : t.c = c ∧ ¬ t.hi = none
  · have e : highsM c (ts ++ [t]) = highsM c ts ++ [t.hi.getD 0] := by rw [highs_snoc, if_pos h]
    have en : ¬ highsM c (ts ++ [t]) = [] := by
      rw [e]
      simp
    rw [endHi_some en, e, minL_snoc]
    by_cases hz : highsM c ts = []
    · rw [if_pos hz, endHi_nil hz, if_pos ⟨h.1, h.2, .inl rfl⟩]
      exact some_get h.2
    · rw [if_neg hz, endHi_some hz]
      have eg : (some (minL (highsM c ts))).getD 0 = minL (highsM c ts) := rfl
      rw [eg]
      by_cases hl : t.hi.getD 0 < minL (highsM c ts)
      · rw [if_pos ⟨h.1, h.2, .inr hl⟩, ← some_get h.2]
        congr 1
        have e2 : (some (t.hi.getD 0)).getD 0 = t.hi.getD 0 := rfl
        rw [e2]
        omega
      · rw [if_neg (fun k => k.2.2.elim (fun k => nomatch k) hl)]
        congr 1
        omega
  · have e : highsM c (ts ++ [t]) = highsM c ts := by rw [highs_snoc, if_neg h, List.append_nil]
    rw [if_neg fun k => h ⟨k.1, k.2.1⟩]
    unfold endHi
    rw [e]
/-- whether a value lies between two ends -/
def betw (v : Int) (lo hi : Option Int) : Bool := decide (¬ (¬ lo = none ∧ v < lo.getD 0) ∧ (hi = none ∨ v ≤ hi.getD 0))
/-- whether a row lies in the stretch of an order -/
def inS : List Int → List Int → List Tri → Bool
  | [], _, _ => true
  | c :: cs, r, ts => if endLo c ts = none ∨ ¬ endLo c ts = endHi c ts then betw (r.getD c.toNat 0) (endLo c ts) (endHi c ts) else if r.getD c.toNat 0 = (endLo c ts).getD 0 then inS cs r ts else false
theorem take_snoc {α : Type} {l : List α} {i : Nat} {x : α} (h : l[i]? = some x) : l.take (i + 1) = l.take i ++ [x] := by
  rw [List.take_add_one, h]
  rfl
section
variable {σ : L2.St} {H H' L : Hp} {K : PySem.W.Frag} {ta tb te tl : TE} {t u : TT} {x y z v : V} {D : Ends} {tu tw tz ts : TS}
theorem sv_ifset' {p : Prop} [Decidable p] {i : Nat} {v w : V} (h : EvT t σ H (decide p)) (h1 : p → Ev te σ H v) (h2 : ¬ p → σ.set i (some w) = σ) (k : Sv tNext D (σ.set i (some (if p then v else w))) H) :
    Sv (tIfS t (tAsg te (gName i)) tNext) D σ H := fun H1 e => h H1 e _ fun H2 e2 => by
  by_cases q : p
  · rw [decide_eq_true q]
    rw [if_pos q] at k
    exact h1 q H2 (e.trans e2) _ fun H3 e3 => k H3 ((e.trans e2).trans e3)
  · rw [decide_eq_false q]
    rw [if_neg q, h2 q] at k
    exact k H2 (e.trans e2)
theorem ov_inj : ∀ {a b : Option Int}, ov a = ov b → a = b
  | none, none, _ => rfl
  | some _, some _, h => by rw [V.int.inj h]
  | none, some _, h => nomatch h
  | some _, none, h => nomatch h
theorem rp_neO {a b : Option Int} : RV rNe (ov a) (ov b) H (.bl (decide (¬ a = b))) := by
  have e : (.bl (decide (¬ a = b)) : V) = .bl (!decide (ov a = ov b)) := by
    by_cases c : a = b
    · rw [decide_eq_false (fun k => k c), decide_eq_true (show ov a = ov b by rw [c])]
      rfl
    · rw [decide_eq_true c, decide_eq_false (fun k => c (ov_inj k))]
      rfl
  rw [e]
  exact rv_ne (by cases a <;> cases b <;> rfl)
theorem ov_ite {p : Prop} [Decidable p] (a b : Option Int) : (if p then ov a else ov b) = ov (if p then a else b) := by split <;> rfl
end
end Wy

set_option Elab.async false
set_option linter.all false
set_option maxRecDepth 100000
set_option maxHeartbeats 4000000
/-! Wz: max and min with a default, sets of ints by comprehension. -/
namespace Wy
open PySem PySem.Spec PyProof.Rows L2 Evl

section
variable {prog : Program} {w : World} {A : Around}
variable {I S : Addr} {fp wr : List Addr} {n : Nat} {P : Nat → Value → Prop} {St : Nat → Heap → Prop}
abbrev bestOb (xs : Array Value) (c : Nat) : Obj := { cls := .type "list", dict := none, data := .seq xs c, slots := #[] }
/-- max with keywords, some item seen already -/
theorem maxKwLoop {R : Result → Shared → Prop} {kw : List (Str × Value)} (bt : Nat → Nat → Bool) (W : Walks prog w A.in1 I fp wr n P St) (cmp : CmpOf prog w A.in1 .Gt P bt) (out : S ∉ fp) : ∀ (left j c : Nat) (vb : Value) (s : Shared),
    j + 1 + left = n → P (argBest bt j) vb → St (j + 1) s.heap → s.heap.get? S = some (bestOb #[vb, vb] c) →
    (∀ u g tk, P (argBest bt (n - 1)) u → (∀ b o, b ∉ wr → b ≠ S → s.heap.get? b = some o → g.get? b = some o) → R (.ok (.ret u)) { s with heap := g, toks := tk }) →
    codeAny (model prog w) A (.builtin "max.loop" ⟨[.ref I, .none, .ref S], kw⟩) R s
  | 0, j, c, vb, s, hn, pb, st, hS, k => by
    have notW : S ∉ wr := fun h => out (W.sub _ h)
    refine codeAny_builtin F.entry_max_loop ?_
    rw [Around.under_plainId F.plain_max_loop _]
    show wpAny _ A.in1 (seqItems? (.ref S) >>= _) _ _ s
    refine wpAny_bind (wpAny_seqItems hS rfl ?_)
    show wpAny _ A.in1 (tryCatch (pyNext (.ref I)) _ >>= _) _ _ s
    have st' : St n s.heap := by rw [← hn]; exact st
    refine wpAny_bind (wpAny_tryCatch (W.done s _ _ st' fun g tk keep => ?_))
    show wpAny _ A.in1 (updateSeq S (fun _ => #[]) >>= _) _ _ _
    refine wpAny_bind (wpAny_updateSeq (keep S _ notW hS) rfl (wpAny_bind (wpAny_letGo (wpAny_pure ?_))))
    have e : n - 1 = j := by omega
    exact k vb _ tk (by rw [e]; exact pb) fun b o h1 h2 x => (Heap.get?_update_other _ _ (Ne.symm h2)).trans (keep b o h1 x)
  | left + 1, j, c, vb, s, hn, pb, st, hS, k => by
    have notW : S ∉ wr := fun h => out (W.sub _ h)
    have nm : (toString "max" ++ toString ".loop" : String) = "max.loop" := by decide
    refine codeAny_builtin F.entry_max_loop ?_
    rw [Around.under_plainId F.plain_max_loop _]
    show wpAny _ A.in1 (seqItems? (.ref S) >>= _) _ _ s
    refine wpAny_bind (wpAny_seqItems hS rfl ?_)
    show wpAny _ A.in1 (tryCatch (pyNext (.ref I)) _ >>= _) _ _ s
    refine wpAny_bind (wpAny_tryCatch (W.item (j + 1) s _ _ (by omega) st fun u g tk pu st2 keep => ?_))
    have hS2 := keep S _ notW hS
    show wpAny _ A.in1 (tryCatch (holding [u, u] (richCompare .Gt u vb >>= _)) _ >>= _) _ _ _
    refine wpAny_bind (wpAny_tryCatch (wpAny_holding (wpAny_bind (cmp (j + 1) (argBest bt j) u vb _ _ _ pu pb ?_))))
    refine wpAny_bind (wpAny_holding (wpAny_truthy_bool (wpAny_bind (wpAny_letGo (wpAny_pure ?_)))))
    by_cases hb : bt (j + 1) (argBest bt j) = true
    · have ea : argBest bt (j + 1) = j + 1 := if_pos hb
      rw [if_pos hb]
      refine wpAny_bind (wpAny_updateSeq hS2 rfl (wpAny_bind (wpAny_letGo ?_)))
      rw [nm]
      refine wpAny_pure ⟨plainId_quiet F.plain_max_loop _, maxKwLoop bt W cmp out left (j + 1) _ u _ (by omega) (by rw [ea]; exact pu) (W.frame _ _ _ st2 fun b hb o x => ?_) (Heap.get?_update_self _ hS2 rfl) fun u' g' tk' p' keep' => ?_⟩
      · exact (Heap.get?_update_other _ _ (fun z : S = b => out (z ▸ hb))).trans x
      · exact k u' g' tk' p' fun b o h1 h2 x => keep' b o h1 h2 ((Heap.get?_update_other _ _ (Ne.symm h2)).trans (keep b o h1 x))
    · have ea : argBest bt (j + 1) = argBest bt j := if_neg hb
      rw [if_neg hb]
      refine wpAny_bind (wpAny_letGo ?_)
      rw [nm]
      exact wpAny_pure ⟨plainId_quiet F.plain_max_loop _, maxKwLoop bt W cmp out left (j + 1) c vb _ (by omega) (by rw [ea]; exact pb) st2 hS2 fun u' g' tk' p' keep' => k u' g' tk' p' fun b o h1 h2 x => keep' b o h1 h2 (keep b o h1 x)⟩
theorem max_args (a d : Value) : argsOk "max" ⟨[a], [(Str.ofString "default", d)]⟩ := by unfold argsOk; kernel_rfl
variable {E : Value → Shared → Prop} {s : Shared}
/-- max(x, default=d) -/
theorem maxDflt_run {x d : Value} {Q : Value → Shared → Prop} (h : wpAny (model prog w) A.in1 (pyIter x) (fun it s2 => ∃ I fp wr n P St bt, it = .ref I ∧ Walks prog w A.in1 I fp wr n P St ∧ St 0 s2.heap ∧ (∀ b ∈ fp, b < s2.heap.objs.size) ∧ CmpOf prog w A.in1 .Gt P bt ∧
      ∀ u g tk, (∀ b o, b ∉ wr → s2.heap.get? b = some o → g.get? b = some o) → (n = 0 ∧ u = d ∨ 0 < n ∧ P (argBest bt (n - 1)) u) → Q u { s2 with heap := g, toks := tk }) E s) :
    wpAny (model prog w) A (call (.builtin "max") [x] [(Str.ofString "default", d)]) Q E s := by
  have nm : (toString "max" ++ toString ".loop" : String) = "max.loop" := by decide
  refine kmk_tree F.kind_max F.plain_max F.entry_max (max_args _ _) ?_
  have bp : Builtin.Builtins.bindParams "max" ["key", "default"] 0 ⟨[], [(Str.ofString "default", d)]⟩ = pure [none, some d] := rfl
  show wpAny _ A.in1 (Builtin.Builtins.bindParams "max" ["key", "default"] 0 ⟨[], [(Str.ofString "default", d)]⟩ >>= _) _ _ s
  refine wpAny_bind (wpAny_of_eq bp (wpAny_bind (wpAny_pure (wpAny_bind (wpAny_mono h (fun it s2 h2 => ?_) fun _ _ e => e)))))
  obtain ⟨I, fp, wr, n, P, St, bt, rfl, W, st, low, cmp, k⟩ := h2
  refine wpAny_bind (wpAny_newObj_type ?_)
  generalize hS0 : s2.heap.objs.size = S
  have out : S ∉ fp := fun z => by
    have lt := low _ z
    rw [hS0] at lt
    exact Nat.lt_irrefl _ lt
  have notW : S ∉ wr := fun z => out (W.sub _ z)
  have hS : (s2.heap.push (bestOb #[] 0)).get? S = some (bestOb #[] 0) := by
    rw [← hS0]
    exact Heap.get?_push_size _ rfl
  have stp : St 0 (s2.heap.push (bestOb #[] 0)) := W.frame _ _ _ st fun b _ o x => Heap.get?_push_of_some _ x
  have old : ∀ {b o}, s2.heap.get? b = some o → b ≠ S := fun x => by
    rw [← hS0]
    exact Nat.ne_of_lt (Heap.lt_size x)
  rw [nm]
  refine wpAny_pure ⟨plainId_quiet F.plain_max_loop _, codeAny_builtin F.entry_max_loop ?_⟩
  rw [Around.under_plainId F.plain_max_loop _]
  show wpAny _ A.in1 (seqItems? (.ref S) >>= _) _ _ _
  refine wpAny_bind (wpAny_seqItems hS rfl ?_)
  show wpAny _ A.in1 (tryCatch (pyNext (.ref I)) _ >>= _) _ _ _
  by_cases hn : n = 0
  · subst hn
    refine wpAny_bind (wpAny_tryCatch (W.done _ _ _ stp fun g tk keep => ?_))
    show wpAny _ A.in1 (rule _ >>= _) _ _ _
    refine wpAny_bind (wpAny_rule ?_)
    show wpAny _ A.in1 (ret d) _ _ _
    exact wpAny_pure (k d g tk (fun b o h1 x => keep b o h1 (Heap.get?_push_of_some _ x)) (.inl ⟨rfl, rfl⟩))
  · refine wpAny_bind (wpAny_tryCatch (W.item 0 _ _ _ (by omega) stp fun u g tk pu st2 keep => ?_))
    have hS2 := keep S _ notW hS
    show wpAny _ A.in1 (updateSeq S (fun _ => #[u, u]) >>= _) _ _ _
    refine wpAny_bind (wpAny_updateSeq hS2 rfl ?_)
    rw [nm]
    refine wpAny_pure ⟨plainId_quiet F.plain_max_loop _, maxKwLoop bt W cmp out (n - 1) 0 _ u _ (by omega) pu (W.frame _ _ _ st2 fun b hb o x => ?_) (Heap.get?_update_self _ hS2 rfl) fun u' g' tk' p' keep' => ?_⟩
    · exact (Heap.get?_update_other _ _ (fun z : S = b => out (z ▸ hb))).trans x
    · exact k u' g' tk' (fun b o h1 x => keep' b o h1 (old x) ((Heap.get?_update_other _ _ (Ne.symm (old x))).trans (keep b o h1 (Heap.get?_push_of_some _ x)))) (.inr ⟨by omega, p'⟩)
end
section
variable {X : Cx}
/-- of a list of ints, None where there is none -/
def rMaxDef (K : PySem.W.Frag) : List V → List V → Hp → VK → Prop := fun vs zs H Q => ∃ (a : Addr) (ns : List Int), vs = [V.ref a] ∧ zs = [.non] ∧ SqL K H a (ns.map V.int) ∧ (ns = [] → Q .non H) ∧ (∀ m, m ∈ ns → (∀ y, y ∈ ns → y ≤ m) → Q (.int m) H)
theorem cr_maxDef (calm : X.calm = true) : CallRK X (.builtin "max") [Str.ofString "default"] (rMaxDef X.K) := by
  intro pins s σ H vs zs us ws Q I r rz h
  obtain ⟨a, ns, rfl, rfl, hs, q0, q⟩ := h
  obtain rfl := Vals.ref1 r
  obtain ⟨w1, rfl, e1⟩ := vals1 rz
  obtain rfl : w1 = Value.none := e1
  obtain ⟨its, rv, hl, _⟩ := I.list hs
  obtain ⟨xs, e⟩ := rv.ints.allInts.items
  have hn : numsOf (intItems xs).toList = ns := by
    rw [← e]
    exact rv.ints.numsOf
  rw [nums_intItems] at hn
  subst hn
  have hl2 : s.heap.IsList a (intItems xs) := by
    rw [← e]
    exact hl.isList
  refine maxDflt_run (iter_intList hl2 fun s2 e2 st low ne => ?_)
  subst e2
  refine ⟨_, _, _, _, _, _, _, rfl, Walks.list (A := X.A.in1) (I.ok.hd calm) _ a ne (intItems xs), st, low, CmpOf.ints_gt (numAt xs) (fun _ _ => intItems_at), fun u g tk keep hu => ?_⟩
  have hsz : (intItems xs).size = xs.size := by simp [intItems]
  have I2 : Inv X pins σ H { s with heap := g, toks := tk } := I.kept (old_kept keep)
  rcases hu with ⟨h0, rfl⟩ | ⟨h0, hp⟩
  · refine ⟨.non, H, I2, rfl, q0 ?_⟩
    rw [hsz] at h0
    have : xs.toList = [] := List.length_eq_zero_iff.mp (by rw [Array.length_toList]; exact h0)
    rw [this]
    rfl
  · rw [hsz] at h0 hp
    obtain ⟨t, rfl⟩ := intItems_at hp
    obtain ⟨h1, h2⟩ := argBest_gt (numAt xs) (xs.size - 1)
    refine ⟨.int _, H, I2, ⟨_, rfl⟩, q _ ?_ fun y hy => ?_⟩
    · rw [numAt_eq]
      exact getD_mem (by rw [List.length_map, Array.length_toList]; omega)
    · obtain ⟨j, hj, rfl⟩ := mem_getD hy
      rw [List.length_map, Array.length_toList] at hj
      rw [← numAt_eq]
      exact h2 j (by omega)
end

section
variable {prog : Program} {w : World} {A : Around}
variable {I S : Addr} {fp wr : List Addr} {n : Nat} {P : Nat → Value → Prop} {St : Nat → Heap → Prop}
/-- min with keywords, some item seen already -/
theorem minKwLoop {R : Result → Shared → Prop} {kw : List (Str × Value)} (bt : Nat → Nat → Bool) (W : Walks prog w A.in1 I fp wr n P St) (cmp : CmpOf prog w A.in1 .Lt P bt) (out : S ∉ fp) : ∀ (left j c : Nat) (vb : Value) (s : Shared),
    j + 1 + left = n → P (argBest bt j) vb → St (j + 1) s.heap → s.heap.get? S = some (bestOb #[vb, vb] c) →
    (∀ u g tk, P (argBest bt (n - 1)) u → (∀ b o, b ∉ wr → b ≠ S → s.heap.get? b = some o → g.get? b = some o) → R (.ok (.ret u)) { s with heap := g, toks := tk }) →
    codeAny (model prog w) A (.builtin "min.loop" ⟨[.ref I, .none, .ref S], kw⟩) R s
  | 0, j, c, vb, s, hn, pb, st, hS, k => by
    have notW : S ∉ wr := fun h => out (W.sub _ h)
    refine codeAny_builtin F.entry_min_loop ?_
    rw [Around.under_plainId F.plain_min_loop _]
    show wpAny _ A.in1 (seqItems? (.ref S) >>= _) _ _ s
    refine wpAny_bind (wpAny_seqItems hS rfl ?_)
    show wpAny _ A.in1 (tryCatch (pyNext (.ref I)) _ >>= _) _ _ s
    have st' : St n s.heap := by rw [← hn]; exact st
    refine wpAny_bind (wpAny_tryCatch (W.done s _ _ st' fun g tk keep => ?_))
    show wpAny _ A.in1 (updateSeq S (fun _ => #[]) >>= _) _ _ _
    refine wpAny_bind (wpAny_updateSeq (keep S _ notW hS) rfl (wpAny_bind (wpAny_letGo (wpAny_pure ?_))))
    have e : n - 1 = j := by omega
    exact k vb _ tk (by rw [e]; exact pb) fun b o h1 h2 x => (Heap.get?_update_other _ _ (Ne.symm h2)).trans (keep b o h1 x)
  | left + 1, j, c, vb, s, hn, pb, st, hS, k => by
    have notW : S ∉ wr := fun h => out (W.sub _ h)
    have nm : (toString "min" ++ toString ".loop" : String) = "min.loop" := by decide
    refine codeAny_builtin F.entry_min_loop ?_
    rw [Around.under_plainId F.plain_min_loop _]
    show wpAny _ A.in1 (seqItems? (.ref S) >>= _) _ _ s
    refine wpAny_bind (wpAny_seqItems hS rfl ?_)
    show wpAny _ A.in1 (tryCatch (pyNext (.ref I)) _ >>= _) _ _ s
    refine wpAny_bind (wpAny_tryCatch (W.item (j + 1) s _ _ (by omega) st fun u g tk pu st2 keep => ?_))
    have hS2 := keep S _ notW hS
    show wpAny _ A.in1 (tryCatch (holding [u, u] (richCompare .Lt u vb >>= _)) _ >>= _) _ _ _
    refine wpAny_bind (wpAny_tryCatch (wpAny_holding (wpAny_bind (cmp (j + 1) (argBest bt j) u vb _ _ _ pu pb ?_))))
    refine wpAny_bind (wpAny_holding (wpAny_truthy_bool (wpAny_bind (wpAny_letGo (wpAny_pure ?_)))))
    by_cases hb : bt (j + 1) (argBest bt j) = true
    · have ea : argBest bt (j + 1) = j + 1 := if_pos hb
      rw [if_pos hb]
      refine wpAny_bind (wpAny_updateSeq hS2 rfl (wpAny_bind (wpAny_letGo ?_)))
      rw [nm]
      refine wpAny_pure ⟨plainId_quiet F.plain_min_loop _, minKwLoop bt W cmp out left (j + 1) _ u _ (by omega) (by rw [ea]; exact pu) (W.frame _ _ _ st2 fun b hb o x => ?_) (Heap.get?_update_self _ hS2 rfl) fun u' g' tk' p' keep' => ?_⟩
      · exact (Heap.get?_update_other _ _ (fun z : S = b => out (z ▸ hb))).trans x
      · exact k u' g' tk' p' fun b o h1 h2 x => keep' b o h1 h2 ((Heap.get?_update_other _ _ (Ne.symm h2)).trans (keep b o h1 x))
    · have ea : argBest bt (j + 1) = argBest bt j := if_neg hb
      rw [if_neg hb]
      refine wpAny_bind (wpAny_letGo ?_)
      rw [nm]
      exact wpAny_pure ⟨plainId_quiet F.plain_min_loop _, minKwLoop bt W cmp out left (j + 1) c vb _ (by omega) (by rw [ea]; exact pb) st2 hS2 fun u' g' tk' p' keep' => k u' g' tk' p' fun b o h1 h2 x => keep' b o h1 h2 (keep b o h1 x)⟩
theorem min_args (a d : Value) : argsOk "min" ⟨[a], [(Str.ofString "default", d)]⟩ := by unfold argsOk; kernel_rfl
variable {E : Value → Shared → Prop} {s : Shared}
/-- min(x, default=d) -/
theorem minDflt_run {x d : Value} {Q : Value → Shared → Prop} (h : wpAny (model prog w) A.in1 (pyIter x) (fun it s2 => ∃ I fp wr n P St bt, it = .ref I ∧ Walks prog w A.in1 I fp wr n P St ∧ St 0 s2.heap ∧ (∀ b ∈ fp, b < s2.heap.objs.size) ∧ CmpOf prog w A.in1 .Lt P bt ∧
      ∀ u g tk, (∀ b o, b ∉ wr → s2.heap.get? b = some o → g.get? b = some o) → (n = 0 ∧ u = d ∨ 0 < n ∧ P (argBest bt (n - 1)) u) → Q u { s2 with heap := g, toks := tk }) E s) :
    wpAny (model prog w) A (call (.builtin "min") [x] [(Str.ofString "default", d)]) Q E s := by
  have nm : (toString "min" ++ toString ".loop" : String) = "min.loop" := by decide
  refine kmk_tree F.kind_min F.plain_min F.entry_min (min_args _ _) ?_
  have bp : Builtin.Builtins.bindParams "min" ["key", "default"] 0 ⟨[], [(Str.ofString "default", d)]⟩ = pure [none, some d] := rfl
  show wpAny _ A.in1 (Builtin.Builtins.bindParams "min" ["key", "default"] 0 ⟨[], [(Str.ofString "default", d)]⟩ >>= _) _ _ s
  refine wpAny_bind (wpAny_of_eq bp (wpAny_bind (wpAny_pure (wpAny_bind (wpAny_mono h (fun it s2 h2 => ?_) fun _ _ e => e)))))
  obtain ⟨I, fp, wr, n, P, St, bt, rfl, W, st, low, cmp, k⟩ := h2
  refine wpAny_bind (wpAny_newObj_type ?_)
  generalize hS0 : s2.heap.objs.size = S
  have out : S ∉ fp := fun z => by
    have lt := low _ z
    rw [hS0] at lt
    exact Nat.lt_irrefl _ lt
  have notW : S ∉ wr := fun z => out (W.sub _ z)
  have hS : (s2.heap.push (bestOb #[] 0)).get? S = some (bestOb #[] 0) := by
    rw [← hS0]
    exact Heap.get?_push_size _ rfl
  have stp : St 0 (s2.heap.push (bestOb #[] 0)) := W.frame _ _ _ st fun b _ o x => Heap.get?_push_of_some _ x
  have old : ∀ {b o}, s2.heap.get? b = some o → b ≠ S := fun x => by
    rw [← hS0]
    exact Nat.ne_of_lt (Heap.lt_size x)
  rw [nm]
  refine wpAny_pure ⟨plainId_quiet F.plain_min_loop _, codeAny_builtin F.entry_min_loop ?_⟩
  rw [Around.under_plainId F.plain_min_loop _]
  show wpAny _ A.in1 (seqItems? (.ref S) >>= _) _ _ _
  refine wpAny_bind (wpAny_seqItems hS rfl ?_)
  show wpAny _ A.in1 (tryCatch (pyNext (.ref I)) _ >>= _) _ _ _
  by_cases hn : n = 0
  · subst hn
    refine wpAny_bind (wpAny_tryCatch (W.done _ _ _ stp fun g tk keep => ?_))
    show wpAny _ A.in1 (rule _ >>= _) _ _ _
    refine wpAny_bind (wpAny_rule ?_)
    show wpAny _ A.in1 (ret d) _ _ _
    exact wpAny_pure (k d g tk (fun b o h1 x => keep b o h1 (Heap.get?_push_of_some _ x)) (.inl ⟨rfl, rfl⟩))
  · refine wpAny_bind (wpAny_tryCatch (W.item 0 _ _ _ (by omega) stp fun u g tk pu st2 keep => ?_))
    have hS2 := keep S _ notW hS
    show wpAny _ A.in1 (updateSeq S (fun _ => #[u, u]) >>= _) _ _ _
    refine wpAny_bind (wpAny_updateSeq hS2 rfl ?_)
    rw [nm]
    refine wpAny_pure ⟨plainId_quiet F.plain_min_loop _, minKwLoop bt W cmp out (n - 1) 0 _ u _ (by omega) pu (W.frame _ _ _ st2 fun b hb o x => ?_) (Heap.get?_update_self _ hS2 rfl) fun u' g' tk' p' keep' => ?_⟩
    · exact (Heap.get?_update_other _ _ (fun z : S = b => out (z ▸ hb))).trans x
    · exact k u' g' tk' (fun b o h1 x => keep' b o h1 (old x) ((Heap.get?_update_other _ _ (Ne.symm (old x))).trans (keep b o h1 (Heap.get?_push_of_some _ x)))) (.inr ⟨by omega, p'⟩)
end
section
variable {X : Cx}
/-- of a list of ints, None where there is none -/
def rMinDef (K : PySem.W.Frag) : List V → List V → Hp → VK → Prop := fun vs zs H Q => ∃ (a : Addr) (ns : List Int), vs = [V.ref a] ∧ zs = [.non] ∧ SqL K H a (ns.map V.int) ∧ (ns = [] → Q .non H) ∧ (∀ m, m ∈ ns → (∀ y, y ∈ ns → m ≤ y) → Q (.int m) H)
theorem cr_minDef (calm : X.calm = true) : CallRK X (.builtin "min") [Str.ofString "default"] (rMinDef X.K) := by
  intro pins s σ H vs zs us ws Q I r rz h
  obtain ⟨a, ns, rfl, rfl, hs, q0, q⟩ := h
  obtain rfl := Vals.ref1 r
  obtain ⟨w1, rfl, e1⟩ := vals1 rz
  obtain rfl : w1 = Value.none := e1
  obtain ⟨its, rv, hl, _⟩ := I.list hs
  obtain ⟨xs, e⟩ := rv.ints.allInts.items
  have hn : numsOf (intItems xs).toList = ns := by
    rw [← e]
    exact rv.ints.numsOf
  rw [nums_intItems] at hn
  subst hn
  have hl2 : s.heap.IsList a (intItems xs) := by
    rw [← e]
    exact hl.isList
  refine minDflt_run (iter_intList hl2 fun s2 e2 st low ne => ?_)
  subst e2
  refine ⟨_, _, _, _, _, _, _, rfl, Walks.list (A := X.A.in1) (I.ok.hd calm) _ a ne (intItems xs), st, low, CmpOf.ints_lt (numAt xs) (fun _ _ => intItems_at), fun u g tk keep hu => ?_⟩
  have hsz : (intItems xs).size = xs.size := by simp [intItems]
  have I2 : Inv X pins σ H { s with heap := g, toks := tk } := I.kept (old_kept keep)
  rcases hu with ⟨h0, rfl⟩ | ⟨h0, hp⟩
  · refine ⟨.non, H, I2, rfl, q0 ?_⟩
    rw [hsz] at h0
    have : xs.toList = [] := List.length_eq_zero_iff.mp (by rw [Array.length_toList]; exact h0)
    rw [this]
    rfl
  · rw [hsz] at h0 hp
    obtain ⟨t, rfl⟩ := intItems_at hp
    obtain ⟨h1, h2⟩ := argBest_lt (numAt xs) (xs.size - 1)
    refine ⟨.int _, H, I2, ⟨_, rfl⟩, q _ ?_ fun y hy => ?_⟩
    · rw [numAt_eq]
      exact getD_mem (by rw [List.length_map, Array.length_toList]; omega)
    · obtain ⟨j, hj, rfl⟩ := mem_getD hy
      rw [List.length_map, Array.length_toList] at hj
      rw [← numAt_eq]
      exact h2 j (by omega)
end

/-! ### {e for x in xs}, e an int -/
section
variable {X : Cx}
/-- D is the new set, S its members so far, n their number -/
def tSci (w : World) (wi : TI) (g : TG) (te : TE) (vs : List Nat) : TE := fun σ H Q => wi σ H fun J H1 => ∀ D, H1 D = none → ∃ W : Nat → Nat → Hp → Prop, (∃ m, W 0 m (upd H1 D (SetO w D (fun _ => false) 0))) ∧
  ∀ i m H, W i m H → (J.stop i H ∧ Q (.ref D) H) ∨ (J.go i H ∧ ∃ Nx : Hp → Prop, (∀ H', Nx H' → ∃ m', m' < m ∧ W (i + 1) m' H') ∧ ∀ x H', J.yld i H x H' → g x (wipe σ vs) H' fun σ2 H2 => wipe σ2 vs = wipe σ vs ∧
    te σ2 H2 fun y H3 => ∃ (k : Int) (S : Int → Bool) (n : Nat), y = .int k ∧ H3 D = some (SetO w D S n) ∧ n + 1 < scanBound ∧ Nx (upd H3 D (SetO w D (fun j => S j || decide (j = k)) (if S k = true then n else n + 1))))
theorem addI_run {pins : List (Addr × Obj)} {σ : L2.St} {H : Hp} {s : Shared} {E : Value → Shared → Prop} {D : Addr} {S : Int → Bool} {n : Nat} {k : Int} {t : Tok} {Q : Value → Shared → Prop} (I : Inv X pins σ H s) (hD : H D = some (SetO X.w D S n)) (room : n + 1 < scanBound)
    (h : ∀ s', Inv X pins σ (upd H D (SetO X.w D (fun j => S j || decide (j = k)) (if S k = true then n else n + 1))) s' → Q .none s') : wpAny (model X.prog X.w) X.A (call (.builtin "set.add") [.ref D, .int k t]) Q E s :=
  setR_add (setO_get I hD) room fun g sb new => h _ (I.write (e := D) (t' := s.toks + 1) (by rw [hD]; trivial) (.inl rfl) (fun b u hb hu => (sb.2 b hb).trans hu) (let ⟨o, _, _, _, ho, _⟩ := new; ⟨o, ho⟩) (setO_new new))
variable {elt tg iter : Expr} {scope : Scope} {own : List (Str × Nat)} {pos : Pos} {wi : TI} {g : TG} {te : TE}
abbrev blkAt (X : Cx) (scope : Scope) (s : Shared) (H : Hp) (C : Addr) (cl : List (Str × Addr)) (fp : List Addr) : Cx := X.blk s H scope (compEnvC scope cl C X.env) fp
abbrev setGen (elt tg iter : Expr) (scope : Scope) (pos : Pos) : Expr := .SetComp elt [⟨tg, iter, [], 0⟩] scope pos
theorem pe_sci (calm : X.calm = true) (nd : X.N.Nodup) (hi : PI X tg iter wi) (ok : BlkOk X.N X.env.scope scope own) (hg : ∀ s H C cl fp, PG (blkAt X scope s H C cl fp) tg g) (he : ∀ s H C cl fp, PE (blkAt X scope s H C cl fp) elt te)
    (hs : ∀ x, foldedSetIterable iter X.env x = pure x := by intro _; rfl) : PE X (setGen elt tg iter scope pos) (tSci X.w wi g te (own.map (·.2))) := by
  refine ⟨fun pins s σ H Q I h => ?_⟩
  rw [PpSet.eval_SetComp]
  have cells : ∀ y ∈ scope.names, y.2 = .free → ∃ c, X.env.cells.lookup y.1 = some c := fun y hy e => (ok.free y hy e).elim (fun k => I.ok.has _ (.inl k)) (fun k => I.ok.has _ (.inr k))
  refine wpAny_comprehension_free rfl hs (closure_ok cells) ok.kind (fun y hy e => by rw [ok.uniq y hy, e]) (thn (hi.run pins s σ H _ I h) fun xv s1 hx => thn hx fun itv s2 h2 => ?_)
  obtain ⟨it, fp, tn, J, H2, rfl, I2, T, st2, f2, q⟩ := h2
  refine PpSet.newSet_ok (newEnv_comp ?_)
  generalize hD : s2.heap.objs.size = D
  obtain ⟨W, ⟨m0, w0⟩, turn⟩ := q D (I2.hok.fresh (Nat.le_of_eq hD))
  generalize ho : ({ cls := .type "set", dict := none, data := .set #[] 0 (.fresh 0 0 (!X.w.params.followText "set-order")) } : Obj) = ob
  generalize hs3 : ({ s2 with heap := s2.heap.push ob } : Shared) = s3
  have hp3 : s3.heap = s2.heap.push ob := by rw [← hs3]
  have k23 : ∀ b o, s2.heap.get? b = some o → s3.heap.get? b = some o := fun b o e => by
    rw [hp3]
    exact Heap.get?_push_of_some _ e
  have I3 : Inv X pins σ (upd H2 D (SetO X.w D (fun _ => false) 0)) s3 := by
    rw [← hs3]
    refine I2.laid (t' := s2.toks) (fun b o e => Heap.get?_push_of_some _ e) (Nat.le_of_eq hD) ?_
    rw [← hD, ← ho]
    exact setO_new (setR_fresh X.w)
  have at2 : ∀ b ∈ fp, b < s2.heap.objs.size := fun b hb => let ⟨o, e, _⟩ := T.obj _ _ st2 b hb; Heap.lt_size e
  have f3 : ∀ b ∈ fp, FpOk X pins (upd H2 D (SetO X.w D (fun _ => false) 0)) b ∧ b < s3.heap.objs.size := fun b hb => by
    have lt := at2 b hb
    refine ⟨⟨(upd_ne (Nat.ne_of_lt (hD ▸ lt))).trans (f2 b hb).1, (f2 b hb).2⟩, ?_⟩
    rw [hp3, Heap.size_push]
    exact Nat.lt_succ_of_lt lt
  generalize upd H2 D (SetO X.w D (fun _ => false) 0) = H3 at I3 f3 w0
  have I4 := block_start I3 ok nd f3
  have pg := hg s3 H3 s3.heap.objs.size (cellsFrom (s3.heap.objs.size + 1) scope.names (cloFrom X.env.cells scope.names [])) fp
  have pe := he s3 H3 s3.heap.objs.size (cellsFrom (s3.heap.objs.size + 1) scope.names (cloFrom X.env.cells scope.names [])) fp
  have new : ∀ b ∈ fp, H3 b = none := fun b hb => (f3 b hb).1.1
  show codeAny _ _ (.compStart (setGen elt tg iter scope pos) 0 (.ref it) (.ref D) (compEnvC scope (cellsFrom (s3.heap.objs.size + 1) scope.names (cloFrom X.env.cells scope.names [])) s3.heap.objs.size X.env)) (compPost _ _ _ none _ (.ref D) s3.heap.objs.size) { s3 with heap := pushCells (s3.heap.push { cls := .type "dict", data := .dict #[] }) scope.names }
  unfold blkAt at pg pe
  generalize hce : compEnvC scope (cellsFrom (s3.heap.objs.size + 1) scope.names (cloFrom X.env.cells scope.names [])) s3.heap.objs.size X.env = ce at I4 pg pe ⊢
  have lc : ce.locals = s3.heap.objs.size := by rw [← hce]; rfl
  generalize hs4 : ({ s3 with heap := pushCells (s3.heap.push { cls := .type "dict", data := .dict #[] }) scope.names } : Shared) = s4 at I4 ⊢
  have st4 : tn 0 s4.heap := T.keep _ _ _ st2 fun b _ o e => by
    rw [← hs4]
    exact pushCells_keeps _ _ _ _ (Heap.get?_push_of_some _ (k23 b o e))
  have still : ∀ {σ' : L2.St} {H' : Hp} {s' : Shared}, Inv (X.blk s3 H3 scope ce fp) [] σ' H' s' → (∀ b ∈ fp, H' b = none) → ∀ b ∈ fp, FpOk (X.blk s3 H3 scope ce fp) [] H' b := fun I' n b hb =>
    ⟨n b hb, (I'.ok.exf b hb).1, I'.ok.exfs b hb, .inl hb, (I'.ok.exf b hb).2, fun p hp => absurd (show p ∈ ([] : List (Addr × Obj)) ++ [] from hp) (by simp)⟩
  generalize hI0 : (fun (n : Nat) (s' : Shared) => ∃ i H', Inv (X.blk s3 H3 scope ce fp) [] (wipe σ (own.map (·.2))) H' s' ∧ tn i s'.heap ∧ (∀ b ∈ fp, H' b = none) ∧ W i n H') = I0
  have run : ∀ (n : Nat) s', I0 n s' → codeAny (model X.prog X.w) X.A (.compLoop (setGen elt tg iter scope pos) 0 (.ref it) (.ref D) ce) (compPost (model X.prog X.w) X.A X.xe none (EP X pins σ Q) (.ref D) s3.heap.objs.size) s' := by
    intro n s' hIn
    refine PpSet.compLoopS_any I0 ?_ n hIn
    clear hIn
    subst hI0
    rintro n s5 ⟨i, H5, I5, st5, n5, w5⟩
    rcases turn i n H5 w5 with ⟨stop, qq⟩ | ⟨go, Nx, hNx, step⟩
    · -- no more items: back in the def
      refine thnF (T.done (X.blk s3 H3 scope ce fp) rfl rfl rfl calm i [] s5 _ H5 (fun _ _ => False) I5 (still I5 n5) st5 stop) fun r s6 ⟨hr, I6⟩ => ?_
      subst hr
      have I7 : Inv X pins σ H5 s6 := I3.call' (ch := fp) I6.os I6.base I6.hok I6.bare fun b hb => let z := (f3 b hb).1.2; ⟨z.2.2.1, z.1, z.2.2.2.1, z.2.2.2.2⟩
      have free : H5 s3.heap.objs.size = none := lc ▸ I6.free
      obtain ⟨m, hn, _⟩ := I6.loc
      obtain ⟨c1, c2, c3, c4, c5, c6⟩ := I3.fpOk (Nat.le_refl _) free
      refine ⟨m, lc ▸ hn, fun g sb => ⟨.ref D, H5, I7.turned (t' := s6.toks) (fun b o hb e => (sb.2 b hb).trans e) c1 c2 c4 c5 c6, rfl, qq⟩⟩
    · refine thnF (T.item (X.blk s3 H3 scope ce fp) rfl rfl rfl calm i [] s5 _ H5 (fun _ _ => False) I5 (still I5 n5) st5 go) fun r s6 ⟨u, hr, h6⟩ => ?_
      subst hr
      refine thnF h6 fun _ s7 ⟨x, H7, I7, r7, y7, st7, n7⟩ => ?_
      refine thnF (pg.run _ s7 _ H7 x u _ (I7.pinned (still I7 n7) (T.obj _ _ st7)) r7 (step x H7 y7)) fun _ s8 ⟨σ8, H8, I8, hw8, q8⟩ => ?_
      rw [List.forIn_nil]
      refine wpAny_pure ?_
      rw [if_pos rfl]
      refine thnF (pe.run _ s8 σ8 H8 _ I8 q8) fun z s10 ⟨yv, H10, I10, r10, k, S0, n0, ey, hD10, room, nx⟩ => ?_
      subst ey
      obtain ⟨tk, rfl⟩ := r10
      refine addI_run (X := X.blk s3 H3 scope ce fp) I10 hD10 room fun s11 I11 => ?_
      obtain ⟨m', hm, w'⟩ := hNx _ nx
      have pin : ∀ b ∈ fp, ∀ o, s7.heap.get? b = some o → s11.heap.get? b = some o ∧ _ = none := fun b hb o e =>
        let z := I11.pin (b, o) (List.mem_append_right _ (List.mem_append_right _ (mem_pinsAt hb e)))
        ⟨z.1, z.2.1⟩
      refine ⟨m', hm, i + 1, _, (I11.unpinned (pins := [])).weak (by rw [← hw8, wipe_length]) (fun j v e => ?_), T.keep _ _ _ st7 fun b hb o e => (pin b hb o e).1, fun b hb => ?_, w'⟩
      · rw [← hw8] at e
        exact (wipe_some e).1
      · obtain ⟨o, e, _⟩ := T.obj _ _ st7 b hb
        exact (pin b hb o e).2
  have loop := run m0 s4 (by subst hI0; exact ⟨0, H3, I4, st4, new, w0⟩)
  exact PpSet.codeAny_compStart_set loop (T.self X.A 0 _ _ _ st4 loop)
end
end Wy

set_option Elab.async false
set_option linter.all false
set_option maxRecDepth 100000
set_option maxHeartbeats 4000000
/-! Wv: values over what is known: sets sorted, ends, comprehensions along a mirror. -/
namespace Wy
open PySem PySem.Spec PyProof.Rows L2 Evl
section
variable {K : PySem.W.Frag} {σ : L2.St} {H H' : Hp} {ta tb te tx tl : TE} {t u : TT} {x y z v : V} {r : R2} {D : Ends} {tu tw tz ts : TS} {g : TG} {P P' : V → Hp → Prop}
theorem ev_maxDef {p : Addr} {ns : List Int} (ha : Ev ta σ H (.ref p)) (h : SqL K H p (ns.map V.int)) : Ev (tCKw (rMaxDef K) (tCons ta tNil) (tCons (tC .non) tNil)) σ H (ov (if 0 < ns.length then some (maxL ns) else none)) := fun H1 e Q q =>
  ha H1 e _ fun H2 e2 => ⟨p, ns, rfl, rfl, ex_l (e.trans e2) h, fun h0 => by
    subst h0
    exact q H2 e2, fun m hm hle => by
    rw [if_pos (List.length_pos_of_mem hm), ← maxL_eq hm hle] at q
    exact q H2 e2⟩
theorem ev_minDef {p : Addr} {ns : List Int} (ha : Ev ta σ H (.ref p)) (h : SqL K H p (ns.map V.int)) : Ev (tCKw (rMinDef K) (tCons ta tNil) (tCons (tC .non) tNil)) σ H (ov (if 0 < ns.length then some (minL ns) else none)) := fun H1 e Q q =>
  ha H1 e _ fun H2 e2 => ⟨p, ns, rfl, rfl, ex_l (e.trans e2) h, fun h0 => by
    subst h0
    exact q H2 e2, fun m hm hle => by
    rw [if_pos (List.length_pos_of_mem hm), ← minL_eq hm hle] at q
    exact q H2 e2⟩
/-- sorted({e for x in xs}), e an int -/
theorem en_sortSc {w : World} {a : Addr} {xs : List V} {j : Nat} {vs : List Nat} (f : Nat → Int) (h : Ev tl σ H (.ref a)) (hx : SqL K H a xs) (hz : xs.length < 60) (hw : ∀ x, wipe ((wipe σ vs).set j (some x)) vs = wipe σ vs)
    (he : ∀ (i : Nat) x, xs[i]? = some x → Ev te ((wipe σ vs).set j (some x)) H (.int (f i))) :
    EvN (tCB (rSortedSet w) (tCons (tSci w (iList K tl) (gName j) te vs) tNil)) σ H fun v N => ∃ (p : Addr) (ns : List Int), v = .ref p ∧ N p = some (.lst (ns.map V.int)) ∧ ns.Pairwise (· < ·) ∧ ∀ k, k ∈ ns ↔ ∃ i, i < xs.length ∧ f i = k := fun H0 e Q q =>
  h H0 e _ fun H1 e1 => ⟨a, rfl, ⟨xs, ex_l (e.trans e1) hx⟩, fun D hD => by
    refine ⟨fun i m H' => m = xs.length - i ∧ i ≤ xs.length ∧ Ex H1 H' ∧ ∃ S n, H' D = some (SetO w D S n) ∧ n ≤ i ∧ ∀ k, S k = true ↔ ∃ l, l < i ∧ f l = k, ⟨xs.length, by simp, Nat.zero_le _, Ex.new hD, _, 0, upd_same, Nat.le_refl _, fun k => ⟨fun c => (by cases c), fun ⟨l, c, _⟩ => absurd c (Nat.not_lt_zero _)⟩⟩, ?_⟩
    rintro i m H' ⟨rfl, hi, ex, S, n, hS, hn, mem⟩
    have hx' : SqL K H' a xs := ex_l ((e.trans e1).trans ex) hx
    by_cases lt : i < xs.length
    · refine .inr ⟨⟨xs, xs[i], hx', List.getElem?_eq_getElem lt⟩, fun H2 => i + 1 ≤ xs.length ∧ Ex H1 H2 ∧ ∃ S n, H2 D = some (SetO w D S n) ∧ n ≤ i + 1 ∧ ∀ k, S k = true ↔ ∃ l, l < i + 1 ∧ f l = k, fun H2 p => ⟨xs.length - (i + 1), by omega, rfl, p⟩, fun x H2 y => ?_⟩
      obtain ⟨rfl, y⟩ := y
      refine ⟨hw x, he i x (y xs hx') H2 ((e.trans e1).trans ex) _ fun H3 e3 => ⟨f i, S, n, rfl, e3 _ _ hS, ?_, lt, Ex.mut (ex.trans e3) hD, _, _, upd_same, ?_, fun k => ?_⟩⟩
      · unfold scanBound
        omega
      · split <;> omega
      · rw [Bool.or_eq_true, decide_eq_true_eq, mem k]
        constructor
        · rintro (⟨l, c1, c2⟩ | c)
          · exact ⟨l, by omega, c2⟩
          · exact ⟨i, by omega, c.symm⟩
        · rintro ⟨l, c1, c2⟩
          by_cases c : l = i
          · exact .inr (by rw [← c2, c])
          · exact .inl ⟨l, by omega, c2⟩
    · have ei : i = xs.length := by omega
      subst ei
      refine .inl ⟨⟨xs, hx', Nat.le_refl _⟩, D, S, n, rfl, hS, by omega, fun ns p up mem' _ hp => q (.ref p) (one p (.lst (ns.map V.int))) _ (fun b z => by
        rw [one_ne z]
        exact fresh_back (e1.trans ex) hp) ⟨p, ns, rfl, one_at, up, fun k => (mem' k).trans (mem k)⟩ (one_ex upd_same) ((e1.trans ex).trans (Ex.new hp))⟩⟩
theorem rv_ixE {p : Addr} {xs : List V} {i : Int} (h : SqL K H p xs ∨ SqT K H p xs) (ha : atI xs i = some v) : RV (rIx K) (.ref p) (.int i) H v := fun H1 e Q q => h.elim (fun h => .inl (rv_ixL h ha H1 e Q q)) fun h => .inr (.inl (rv_ixT h ha H1 e Q q))
/-- x, y, z = t and x, y = t of tuples that stand -/
theorem sv_un3 {i j k : Nat} {a : Addr} (h : Ev te σ H (.ref a)) (hx : SqT K H a [x, y, z]) (n : Sv tz D (((σ.set i (some x)).set j (some y)).set k (some z)) H) : Sv (tSeq (tAsg te (gTup K 3 (gCons (gName i) (gCons (gName j) (gCons (gName k) gNil))))) tz) D σ H := fun H1 e =>
  h H1 e _ fun H2 e2 => ⟨a, _, rfl, ex_t (e.trans e2) hx, rfl, x, _, rfl, y, _, rfl, z, _, rfl, rfl, n H2 (e.trans e2)⟩
theorem sv_un2 {i j : Nat} {P : V → Hp → Prop} (h : EvP te σ H P) (n : ∀ v H2, Ex H H2 → P v H2 → ∃ a x y, v = .ref a ∧ SqT K H2 a [x, y] ∧ Sv tz D ((σ.set i (some x)).set j (some y)) H2) : Sv (tSeq (tAsg te (gTup K 2 (gCons (gName i) (gCons (gName j) gNil)))) tz) D σ H := fun H1 e =>
  h H1 e _ fun v H2 e2 p => by
    obtain ⟨a, x, y, rfl, hx, s⟩ := n v H2 (e.trans e2) p
    exact ⟨a, _, rfl, hx, rfl, x, _, rfl, y, _, rfl, rfl, s H2 (Ex.refl _)⟩
/-- [e for x in xs], xs and its mirror -/
theorem el_lcM {α : Type} {a : Addr} {xs : List V} {ms : List α} {j : Nat} {vs : List Nat} (f : α → V) (h : Ev tl σ H (.ref a)) (hx : SqL K H a xs) (hl : xs.length = ms.length) (hz : xs.length ≤ 40000) (hw : ∀ x, wipe ((wipe σ vs).set j (some x)) vs = wipe σ vs)
    (he : ∀ (i : Nat) x m, xs[i]? = some x → ms[i]? = some m → Ev te ((wipe σ vs).set j (some x)) H (f m)) : EvL (tLc (iList K tl) (gName j) tYes te vs) σ H (ms.map f) := by
  have g : EvL (tLc (iList K tl) (gName j) tYes te vs) σ H (given xs.length (fun _ => true) fun i => (ms.map f).getD i .non) := el_lcL (fun _ => true) (fun i => (ms.map f).getD i .non) h hx hz hw (fun i x H1 e hi H2 e2 Q q => q H2 (Ex.refl H2)) fun i x H1 e hi _ => by
    have li := (List.getElem?_eq_some_iff.mp hi).1
    have hm : ms[i]? = some (ms[i]'(by omega)) := List.getElem?_eq_getElem _
    rw [List.getD_eq_getElem?_getD, List.getElem?_map, hm]
    exact (he i x _ hi hm).mono e
  have eg : given xs.length (fun _ => true) (fun i => (ms.map f).getD i .non) = ms.map f := by
    unfold given
    rw [List.filter_eq_self.mpr (fun _ _ => rfl)]
    have g := range_get V.non (ms.map f) id
    rw [List.map_id, List.length_map, ← hl] at g
    exact g
  rw [eg] at g
  exact g
/-- all(xs) of truths -/
theorem ev_allB {bs : List Bool} (h : EvL te σ H (bs.map V.bl)) : Ev (tCB (rAll K) (tCons te tNil)) σ H (.bl (bs.all id)) := fun H1 e Q q =>
  h H1 e (fun v H2 => rAll K [v] H2 Q) fun p H2 n e2 hp => ⟨p, bs, rfl, sq_of hp, q H2 e2⟩
theorem all_id {α : Type} (l : List α) (f : α → Bool) : ((l.map f).all id) = l.all f := by
  rw [List.all_map]
  rfl
theorem wt_filter {ws : List V} {ts : List Tri} (p : Tri → Bool) (h : Wt K H ws ts) : Wt K H (given ts.length (fun i => p (ts.getD i t0)) fun i => ws.getD i .non) (ts.filter p) := by
  have g : ∀ n, n ≤ ts.length → Wt K H (given n (fun i => p (ts.getD i t0)) fun i => ws.getD i .non) ((ts.take n).filter p) := fun n => by
    induction n with
    | zero => exact fun _ => Wt.nil
    | succ n ih =>
      intro hn
      have hi : ts[n]? = some (ts[n]'(by omega)) := List.getElem?_eq_getElem _
      obtain ⟨q, a, b⟩ := h.2 n _ hi
      have et : ts.getD n t0 = ts[n]'(by omega) := getD_at hi
      have ew : ws.getD n .non = .ref q := by
        rw [List.getD_eq_getElem?_getD, a]
        rfl
      rw [take_snoc hi, List.filter_append]
      by_cases c : p (ts[n]'(by omega)) = true
      · rw [given_yes (by rw [et]; exact c), List.filter_cons_of_pos c, ew]
        exact (ih (by omega)).snoc b
      · rw [given_no (by rw [et]; simpa using c), List.filter_cons_of_neg c, List.filter_nil, List.append_nil]
        exact ih (by omega)
  have g2 := g ts.length (Nat.le_refl _)
  rw [List.take_length] at g2
  exact g2
end
/-! ### the merged wish by its columns -/
theorem spoken_iff {c : Int} {ts : List Tri} : spoken c ts ↔ ∃ t, t ∈ ts ∧ t.c = c := by
  unfold spoken
  rw [List.length_pos_iff_exists_mem]
  constructor
  · rintro ⟨t, h⟩
    obtain ⟨h1, h2⟩ := List.mem_filter.mp h
    exact ⟨t, h1, of_decide_eq_true h2⟩
  · rintro ⟨t, h1, h2⟩
    exact ⟨t, List.mem_filter.mpr ⟨h1, decide_eq_true h2⟩⟩
def triOf (ts : List Tri) (c : Int) : Tri := ⟨c, endLo c ts, endHi c ts⟩
def colsTo (ts : List Tri) : Nat → List Int
  | 0 => []
  | k + 1 => colsTo ts k ++ if spoken (k : Int) ts then [(k : Int)] else []
theorem mergedTo_cols (ts : List Tri) : ∀ k, mergedTo ts k = (colsTo ts k).map (triOf ts)
  | 0 => rfl
  | k + 1 => by
    show mergedTo ts k ++ _ = (colsTo ts k ++ _).map _
    rw [List.map_append, mergedTo_cols ts k]
    split <;> rfl
theorem colsTo_mem (ts : List Tri) (c : Int) : ∀ k, c ∈ colsTo ts k ↔ spoken c ts ∧ 0 ≤ c ∧ c < k
  | 0 => ⟨fun h => (by cases h), fun h => (by omega)⟩
  | k + 1 => by
    show c ∈ colsTo ts k ++ (if spoken (k : Int) ts then [(k : Int)] else []) ↔ _
    rw [List.mem_append, colsTo_mem ts c k]
    constructor
    · rintro (⟨h1, h2, h3⟩ | h)
      · exact ⟨h1, h2, by omega⟩
      · split at h
        · rename_i hs
          have e := List.mem_singleton.mp h
          exact ⟨e ▸ hs, by omega, by omega⟩
        · cases h
    · rintro ⟨h1, h2, h3⟩
      by_cases e : c = k
      · subst e
        rw [if_pos h1]
        exact .inr (List.mem_singleton.mpr rfl)
      · exact .inl ⟨h1, h2, by omega⟩
theorem colsTo_up (ts : List Tri) : ∀ k, (colsTo ts k).Pairwise (· < ·)
  | 0 => List.Pairwise.nil
  | k + 1 => by
    refine List.pairwise_append.mpr ⟨colsTo_up ts k, ?_, fun a ha b hb => ?_⟩
    · split
      · exact List.pairwise_singleton _ _
      · exact List.Pairwise.nil
    · split at hb
      · have e := List.mem_singleton.mp hb
        have := ((colsTo_mem ts a k).mp ha).2.2
        omega
      · cases hb
theorem up_eq {l m : List Int} (hl : l.Pairwise (· < ·)) (hm : m.Pairwise (· < ·)) (h : ∀ k, k ∈ l ↔ k ∈ m) : l = m := by
  have n1 : l.Nodup := hl.imp fun h e => by omega
  have n2 : m.Nodup := hm.imp fun h e => by omega
  exact ((List.perm_ext_iff_of_nodup n1 n2).mpr h).eq_of_pairwise (fun a b _ _ h1 h2 => by omega) hl hm
theorem cols_merged {ns : List Int} {ts : List Tri} (up : ns.Pairwise (· < ·)) (mem : ∀ k, k ∈ ns ↔ ∃ t, t ∈ ts ∧ t.c = k) (h : ∀ t ∈ ts, 0 ≤ t.c ∧ t.c < 6) : mergedM ts = ns.map (triOf ts) := by
  have e : ns = colsTo ts 6 := up_eq up (colsTo_up ts 6) fun k => by
    rw [mem k, colsTo_mem, spoken_iff]
    constructor
    · rintro ⟨t, h1, h2⟩
      have := h t h1
      exact ⟨⟨t, h1, h2⟩, by omega, by omega⟩
    · exact fun g => g.1
  rw [e]
  exact mergedTo_cols ts 6
theorem lows_at (c : Int) (ts : List Tri) : (((ts.filter fun t => decide (t.c = c)).filter fun t => decide (¬ t.lo = none)).map fun t => t.lo.getD 0) = lowsM c ts := by
  unfold lowsM
  rw [List.filter_filter]
  congr 1
  exact List.filter_congr fun t _ => by
    rw [← Bool.decide_and]
    exact decide_eq_decide.mpr and_comm
theorem highs_at (c : Int) (ts : List Tri) : (((ts.filter fun t => decide (t.c = c)).filter fun t => decide (¬ t.hi = none)).map fun t => t.hi.getD 0) = highsM c ts := by
  unfold highsM
  rw [List.filter_filter]
  congr 1
  exact List.filter_congr fun t _ => by
    rw [← Bool.decide_and]
    exact decide_eq_decide.mpr and_comm
end Wy

set_option Elab.async false
set_option linter.all false
set_option maxRecDepth 100000
set_option maxHeartbeats 4000000
/-! Wh: numbers in an order, rows by their places, what a law holds back. -/
namespace Wy
open PySem PySem.Spec PyProof.Rows L2 Evl
/-! ### ahead -/
theorem ahead_irr : ∀ a : List Int, ahead a a = false
  | [] => rfl
  | x :: a => by
    show (if x = x then ahead a a else decide (x < x)) = false
    rw [if_pos rfl]
    exact ahead_irr a
theorem ahead_tr : ∀ {a b c : List Int}, ahead a b = true → ahead b c = true → ahead a c = true
  | [], [], _, h, _ => nomatch h
  | [], _ :: _, [], _, h => nomatch h
  | [], _ :: _, _ :: _, _, _ => rfl
  | _ :: _, [], _, h, _ => nomatch h
  | _ :: _, _ :: _, [], _, h => nomatch h
  | x :: a, y :: b, z :: c, h1, h2 => by
    have h1' : (if x = y then ahead a b else decide (x < y)) = true := h1
    have h2' : (if y = z then ahead b c else decide (y < z)) = true := h2
    show (if x = z then ahead a c else decide (x < z)) = true
    by_cases c1 : x = y
    · rw [if_pos c1] at h1'
      by_cases c2 : y = z
      · rw [if_pos c2] at h2'
        rw [if_pos (c1.trans c2)]
        exact ahead_tr h1' h2'
      · rw [if_neg c2] at h2'
        rw [if_neg (by omega)]
        have := of_decide_eq_true h2'
        exact decide_eq_true (by omega)
    · rw [if_neg c1] at h1'
      have k1 := of_decide_eq_true h1'
      by_cases c2 : y = z
      · rw [if_neg (by omega)]
        exact decide_eq_true (by omega)
      · rw [if_neg c2] at h2'
        have := of_decide_eq_true h2'
        rw [if_neg (by omega)]
        exact decide_eq_true (by omega)
/-- numbers of rows that are there, each ahead of the next -/
def Asc (cols : List Int) (there : Rows) (ns : List Int) : Prop := (∀ n ∈ ns, ∃ r, rowOf there n = some r) ∧ ∀ (i : Nat) a b, ns[i]? = some a → ns[i + 1]? = some b → ahead (ent cols there a) (ent cols there b) = true
theorem InOrd.asc {cols : List Int} {there : Rows} {ns : List Int} (h : InOrd ahead cols there ns) : Asc cols there ns := h.2
theorem asc_far {cols : List Int} {there : Rows} {ns : List Int} (h : Asc cols there ns) : ∀ (k i : Nat) a b, ns[i]? = some a → ns[i + k + 1]? = some b → ahead (ent cols there a) (ent cols there b) = true
  | 0, i, a, b, ha, hb => h.2 i a b ha hb
  | k + 1, i, a, b, ha, hb => by
    have hl := (List.getElem?_eq_some_iff.mp hb).1
    have hm : ns[i + k + 1]? = some (ns[i + k + 1]'(by omega)) := List.getElem?_eq_getElem _
    exact ahead_tr (asc_far h k i a _ ha hm) (h.2 (i + k + 1) _ b hm hb)
theorem asc_nodup {cols : List Int} {there : Rows} {ns : List Int} (h : Asc cols there ns) : ns.Nodup := by
  refine List.pairwise_iff_getElem.mpr fun i j hi hj hij e => ?_
  obtain ⟨k, rfl⟩ : ∃ k, j = i + k + 1 := ⟨j - i - 1, by omega⟩
  have g := asc_far h k i _ _ (List.getElem?_eq_getElem hi) (List.getElem?_eq_getElem hj)
  rw [e, ahead_irr] at g
  cases g
theorem sorted_due {ns ys due : List Int} (hn : ns.Nodup) (hp : ys.Perm ns) (hs : ys.Pairwise (· ≤ ·)) (hd : due.Pairwise (· < ·)) (hm : ∀ n, n ∈ ns ↔ n ∈ due) : ys = due := by
  have dn : due.Nodup := hd.imp fun h e => by omega
  have p2 : ns.Perm due := (List.perm_ext_iff_of_nodup hn dn).mpr hm
  exact List.Perm.eq_of_pairwise (fun a b _ _ h1 h2 => by omega) hs (hd.imp fun h => by omega) (hp.trans p2)
/-! ### rows by their places -/
def numd (rss : List (List Int)) : Rows := (List.range rss.length).map fun i : Nat => ((i : Int), rss.getD i [])
theorem rowOf_rng (g : Nat → List Int) : ∀ (k : Nat) (n : Int), rowOf ((List.range k).map fun i : Nat => ((i : Int), g i)) n = if 0 ≤ n ∧ n < k then some (g n.toNat) else none
  | 0, n => by
    rw [if_neg (by omega)]
    rfl
  | k + 1, n => by
    rw [List.range_succ, List.map_append, List.map_singleton, rowOf_snoc, rowOf_rng g k n]
    by_cases h : 0 ≤ n ∧ n < k
    · rw [if_pos h]
      show some (g n.toNat) = _
      rw [if_pos (by omega)]
    · rw [if_neg h]
      show (if (k : Int) = n then some (g k) else none) = _
      by_cases e : (k : Int) = n
      · rw [if_pos e, if_pos (by omega), ← e]
        rfl
      · rw [if_neg e, if_neg (by omega)]
theorem rowOf_numd (rss : List (List Int)) (n : Int) : rowOf (numd rss) n = if 0 ≤ n ∧ n < rss.length then some (rss.getD n.toNat []) else none := rowOf_rng _ _ _
theorem numd_len (rss : List (List Int)) : (numd rss).length = rss.length := by
  unfold numd
  rw [List.length_map, List.length_range]
theorem numd_snoc (rss : List (List Int)) (r : List Int) : numd (rss ++ [r]) = numd rss ++ [((rss.length : Int), r)] := by
  unfold numd
  rw [List.length_append, List.length_singleton, List.range_succ, List.map_append]
  refine congr (congrArg _ (List.map_congr_left fun i hi => ?_)) ?_
  · have := List.mem_range.mp hi
    rw [List.getD_eq_getElem?_getD, List.getD_eq_getElem?_getD, List.getElem?_append_left this]
  · show [((rss.length : Int), (rss ++ [r]).getD rss.length [])] = _
    rw [List.getD_eq_getElem?_getD, List.getElem?_append_right (Nat.le_refl _), Nat.sub_self]
    rfl
theorem numd_take {rss : List (List Int)} {i : Nat} {r : List Int} (h : rss[i]? = some r) : numd (rss.take (i + 1)) = numd (rss.take i) ++ [((i : Int), r)] := by
  have hi := (List.getElem?_eq_some_iff.mp h).1
  rw [take_snoc h, numd_snoc, List.length_take, Nat.min_eq_left (by omega)]
theorem numd_wide {rss : List (List Int)} {w : Nat} (h : ∀ r ∈ rss, r.length = w) : Wide (numd rss) w := fun n r hr => by
  rw [rowOf_numd] at hr
  split at hr
  · rename_i hb
    rw [← Option.some.inj hr, List.getD_eq_getElem?_getD, List.getElem?_eq_getElem (by omega)]
    exact h _ (List.getElem_mem _)
  · cases hr
/-- the numbers of those in a stretch -/
def dueM (c : List Int) (rss : List (List Int)) (ts : List Tri) : List Int := ((List.range rss.length).filter fun i => inS c (rss.getD i []) ts).map fun i : Nat => (i : Int)
theorem due_lt (c : List Int) (rss : List (List Int)) (ts : List Tri) : (dueM c rss ts).Pairwise (· < ·) := by
  unfold dueM
  refine List.Pairwise.map _ (fun a b h => Int.ofNat_lt.mpr h) (List.Pairwise.filter _ List.pairwise_lt_range)
theorem due_mem {c : List Int} {rss : List (List Int)} {ts : List Tri} {n : Int} : n ∈ dueM c rss ts ↔ ∃ r, rowOf (numd rss) n = some r ∧ inS c r ts = true := by
  unfold dueM
  rw [rowOf_numd]
  constructor
  · intro h
    obtain ⟨i, hi, rfl⟩ := List.mem_map.mp h
    obtain ⟨h1, h2⟩ := List.mem_filter.mp hi
    have := List.mem_range.mp h1
    exact ⟨_, if_pos (by omega), h2⟩
  · rintro ⟨r, h1, h2⟩
    split at h1
    · rename_i hb
      rw [← Option.some.inj h1] at h2
      exact List.mem_map.mpr ⟨n.toNat, List.mem_filter.mpr ⟨List.mem_range.mpr (by omega), h2⟩, by omega⟩
    · cases h1
theorem due_len (c : List Int) (rss : List (List Int)) (ts : List Tri) : (dueM c rss ts).length ≤ rss.length := by
  unfold dueM
  rw [List.length_map]
  have h := List.length_filter_le (fun i => inS c (rss.getD i []) ts) (List.range rss.length)
  rw [List.length_range] at h
  exact h
/-! ### opening and closing with one region -/
section
variable {T T' T'' U : RP} {F F0 B0 : Reg} {L L' H H' N : Hp} {K : PySem.W.Frag} {σ : L2.St} {ta tb te tl : TE} {t u : TT} {x y z v : V} {D : Ends} {tu tw tz ts : TS} {P P' : V → Hp → Prop} {Q : VK}
theorem start_1 (t : T F H) : Wld T F (fun a => H a ≠ none) (Out F H) H := ⟨F, t, out_ex, fun a z => out_no z, fun a z => z, fun a z => .inl z⟩
theorem out_of (e : Ex L H) (d : ∀ a, F a → L a = none) : Ex L (Out F H) := fun a o h => by
  rw [out_at (fun z => by rw [d a z] at h; cases h)]
  exact e a o h
theorem close_1 (R : Regn T) (t : T F H) (q : ∀ (v : V) (N H' : Hp) (F' : Reg), Frm F H H' → T' F' H' → (∀ a, F' a → F a ∨ H a = none) → (∀ a, N a ≠ none → H a = none ∧ ¬ F' a) → Ex N H' → P v N → Q v H')
    (w : Wld T' F (fun a => H a ≠ none) L' H') (keep : Ex (Out F H) L') (p : P v nonew) : Q v H' := by
  obtain ⟨F', t', x, d, b, f⟩ := w
  refine q v nonew H' F' ⟨fun a o h z => ?_, b⟩ t' (fun a z => (f a z).imp id Classical.not_not.mp) (fun a z => (z rfl).elim) nonew_ex p
  have nf : ¬ F a := fun f1 => by
    obtain ⟨o', ho, nt⟩ := R.dom F H a t f1
    rw [h] at ho
    rw [← Option.some.inj ho] at nt
    exact nt (z f1)
  exact x a o (keep a o (by rw [out_at nf]; exact h))
/-! ### more arguments, more tests -/
theorem ean_consN {tr : TA} {vs : List V} (h : EvN te σ H P) (hr : EvA tr σ H vs) : EvAN (tCons te tr) σ H fun ws N => ∃ v, ws = v :: vs ∧ P v N := fun H1 e Q q =>
  h H1 e _ fun v N H2 d p a b => hr H2 (e.trans b) _ fun H3 e3 => q (v :: vs) N H3 d ⟨v, rfl, p⟩ (a.trans e3) (b.trans e3)
theorem en_lst {PA : List V → Hp → Prop} (h : EvAN ta' σ H PA) (hl : ∀ vs N, PA vs N → vs.length ≤ 100000) : EvN (tLst ta') σ H fun v N => ∃ p vs N0, v = .ref p ∧ N p = some (.lst vs) ∧ PA vs N0 ∧ Ex N0 N := fun H1 e Q q =>
  h H1 e _ fun vs N H2 d pa a b => ⟨sz_of (hl vs N pa), fun p hp => q (.ref p) (Unn N (one p (.lst vs))) _ (fun x z => by
    rcases unn_none z with z | z
    · rw [one_ne z]
      exact fresh_back b hp
    · exact d x z) ⟨p, vs, N, rfl, unn_r _ _ one_at, pa, unn_l fun x z => by
      by_cases c : x = p
      · rw [c] at z
        cases k : N p with
        | none => exact (z k).elim
        | some o =>
          rw [a _ _ k] at hp
          cases hp
      · exact Classical.not_not.mp fun g => c (one_ne g)⟩ (unn_ex (one_ex upd_same) (a.trans (Ex.new hp))) (b.trans (Ex.new hp))⟩
end

/-! ### what a law holds back: pairs of lists that are to stay alike -/
/-- ints and tuples of ints -/
def Fl (H : Hp) (xs : List V) : Prop := ∀ x ∈ xs, (∃ i, x = .int i) ∨ ∃ (p : Addr) (ns : List Int), x = .ref p ∧ H p = some (.tup (ns.map V.int))
theorem fl_ints {H : Hp} (ns : List Int) : Fl H (ns.map V.int) := fun x hx => by
  obtain ⟨n, _, rfl⟩ := List.mem_map.mp hx
  exact .inl ⟨n, rfl⟩
theorem Fl.mono {H H' : Hp} {xs : List V} (h : Fl H xs) (k : ∀ a o, H a = some o → Tupo o → H' a = some o) : Fl H' xs := fun x hx => (h x hx).imp id fun ⟨p, ns, e, hp⟩ => ⟨p, ns, e, k _ _ hp ⟨_, rfl⟩⟩
theorem fl_dp {K : PySem.W.Frag} {H : Hp} : ∀ {xs : List V}, Fl H xs → ∃ ds, DpAll K H xs ds ∧ ∀ d ∈ ds, Shp 1 d
  | [], _ => ⟨[], .nil, fun d h => by cases h⟩
  | x :: xs, h => by
    obtain ⟨ds, h1, h2⟩ := fl_dp (K := K) (xs := xs) fun y hy => h y (List.mem_cons_of_mem _ hy)
    rcases h x (List.mem_cons_self ..) with ⟨i, rfl⟩ | ⟨p, ns, rfl, hp⟩
    · exact ⟨_, .cons (.int i) h1, fun d hd => (List.mem_cons.mp hd).elim (fun e => by rw [e]; exact shp_int _) (h2 d)⟩
    · exact ⟨_, .cons (dp_intsT (st_of hp)) h1, fun d hd => (List.mem_cons.mp hd).elim (fun e => by rw [e]; exact shp_tupI _) (h2 d)⟩
structure HeldP where
  q : Addr
  a : Addr
  b : Addr
  xs : List V
def HeldE (ph : Addr) (ps : List HeldP) : RP := fun F H => H ph = some (.lst (ps.map fun p => V.ref p.q)) ∧ F ph ∧ (∀ p ∈ ps, H p.q = some (.lst [.ref p.a, .ref p.b]) ∧ H p.a = some (.lst p.xs) ∧ H p.b = some (.lst p.xs) ∧ F p.q ∧ F p.a ∧ F p.b ∧ (p.q ≠ ph ∧ p.a ≠ ph ∧ p.b ≠ ph) ∧ Fl H p.xs) ∧ ∀ a, F a → ∃ o, H a = some o ∧ ¬ Tupo o
def HeldR (ph : Addr) (n : Nat) : RP := fun F H => ∃ ps : List HeldP, ps.length ≤ n ∧ HeldE ph ps F H
theorem heldE_regn (ph : Addr) (ps : List HeldP) : Regn (HeldE ph ps) where
  loc := fun F H H' ⟨h1, f1, h2, h3⟩ k => ⟨k _ _ h1 (.inl f1), f1, fun p hp => by
    obtain ⟨a, b, c, d, e, f, nn, g⟩ := h2 p hp
    exact ⟨k _ _ a (.inl d), k _ _ b (.inl e), k _ _ c (.inl f), d, e, f, nn, g.mono fun x o hx t => k x o hx (.inr t)⟩, fun a z => by
    obtain ⟨o, ho, nt⟩ := h3 a z
    exact ⟨o, k _ _ ho (.inl z), nt⟩⟩
  dom := fun F H a ⟨_, _, _, h3⟩ z => h3 a z
theorem heldR_regn (ph : Addr) (n : Nat) : Regn (HeldR ph n) := regn_ex fun ps => regn_and (heldE_regn ph ps)
section
variable {T T' T'' U : RP} {F F0 B0 : Reg} {L L' H H' N : Hp} {K : PySem.W.Frag} {σ : L2.St} {ta tb te tl : TE} {t u : TT} {x y z v : V} {D : Ends} {tu tw tz ts : TS} {P P' : V → Hp → Prop} {Q : VK}
/-- held = [] -/
theorem vw_newHeld {i : Nat} (R : Regn T) (k : ∀ d, L d = none → SvW tz D (σ.set i (some (.ref d))) (Two T (HeldE d [])) F0 B0 L) : SvW (tSeq (tAsg (tLst tNil) (gName i)) tz) D σ T F0 B0 L := fun H w => ⟨Nat.zero_le _, fun d nd => by
  refine k d (fresh_back w.lx nd) _ ?_
  have e : Ex H (upd H d (.lst [])) := Ex.new nd
  obtain ⟨F, t, x, dd, b, f⟩ := w
  refine ⟨fun a => F a ∨ a = d, ⟨F, fun a => a = d, R.ex t e, ⟨upd_same, rfl, ⟨fun p hp => (List.not_mem_nil hp).elim, fun a z => ⟨.lst [], by rw [show a = d from z]; exact upd_same, fun ⟨_, q⟩ => by cases q⟩⟩⟩, fun a z1 z2 => ?_, fun a => Iff.rfl⟩, x.trans e, fun a z => ?_, fun a z => ex_dm e a (b a z), fun a z => z.elim (f a) fun z => .inr fun y => b a y (by rw [z]; exact nd)⟩
  · obtain ⟨o, ho, _⟩ := R.dom F H a t z1
    rw [z2, nd] at ho
    cases ho
  · rcases z with z | z
    · exact dd a z
    · rw [z]
      exact fresh_back x nd⟩
/-- held.append([found, list(found)]) -/
theorem vw_held {ph pf : Addr} {ps : List HeldP} {xs : List V} {PX : V → Hp → Prop} (R : Regn T) (ha : ∀ H, Wld (Two T (HeldE ph ps)) F0 B0 L H → Ev ta σ H (.ref ph)) (hf : L pf = some (.lst xs)) (nB : ¬ B0 pf) (hl : ps.length < 100000) (fl : Fl L xs)
    (he : EvN te σ L PX) (hx : ∀ v N, PX v N → ∃ q pg, v = .ref q ∧ N q = some (.lst [.ref pf, .ref pg]) ∧ N pg = some (.lst xs)) (eL : Ex L' L) (nL : L' pf = none)
    (k : ∀ q pg, SvW tz D σ (Two T (HeldE ph (ps ++ [⟨q, pf, pg, xs⟩]))) F0 B0 L') : SvW (tSeq (tDrop (tBM K "list" rAppend ta (tCons te tNil))) tz) D σ (Two T (HeldE ph ps)) F0 B0 L := fun H w => by
  have R2 := R.two (heldE_regn ph ps)
  have get : ∀ {H : Hp}, Wld (Two T (HeldE ph ps)) F0 B0 L H → H ph = some (.lst (ps.map fun p => V.ref p.q)) := fun w => by
    obtain ⟨_, ⟨_, _, _, ⟨h1, _⟩, _⟩, _⟩ := w
    exact h1
  refine ha H w H (Ex.refl H) _ fun H2 e2 => ?_
  have w2 := w.ext R2 e2
  refine ⟨Or.inl ⟨rfl, _, sq_of (get w2)⟩, he H2 w2.lx _ fun v N H3 d p a b => ?_⟩
  have w3 := w2.ext R2 b
  obtain ⟨q, pg, rfl, hq, hg⟩ := hx v N p
  refine ⟨ph, _, _, rfl, rfl, get w3, sz_lt (by rw [List.length_map]; exact hl), k q pg _ ?_⟩
  have nq := d q (by rw [hq]; exact fun z => by cases z)
  have ng := d pg (by rw [hg]; exact fun z => by cases z)
  have hq3 := a _ _ hq
  have hg3 := a _ _ hg
  have nN := fun (a : Addr) (z : N a ≠ none) => d a z
  clear w3 w get
  obtain ⟨F, ⟨F1, F2, t1, ⟨h1, f1, h2, h3⟩, dj, ff⟩, x, dd, bb, f⟩ := w2
  have nFf : ¬ F pf := fun z => by
    rw [dd pf z] at hf
    cases hf
  have hf2 := x _ _ hf
  have hf3 := b _ _ hf2
  have n1 : ∀ {a o}, H3 a = some o → a ≠ ph → (upd H3 ph (.lst (ps.map (fun p => V.ref p.q) ++ [.ref q]))) a = some o := fun h n => by
    rw [upd_ne n]
    exact h
  have dq : q ≠ ph := fun e => by
    rw [e, h1] at nq
    cases nq
  have dg : pg ≠ ph := fun e => by
    rw [e, h1] at ng
    cases ng
  have df : pf ≠ ph := fun e => nFf (by rw [e]; exact (ff ph).mpr (.inr f1))
  have ntup : ∀ {a o}, H2 a = some o → Tupo o → a ≠ ph := fun h ⟨ys, t⟩ e => by
    rw [e, h1, t] at h
    cases h
  refine ⟨fun a => F a ∨ a = pf ∨ a = q ∨ a = pg, ⟨F1, fun a => F2 a ∨ a = pf ∨ a = q ∨ a = pg, R.loc F1 H2 _ t1 fun a o h z => n1 (b _ _ h) ?_, ⟨?_, .inl f1, ⟨?_, ?_⟩⟩, ?_, ?_⟩, ?_, ?_, ?_, ?_⟩
  · rcases z with z | z
    · exact fun e => dj a z (by rw [e]; exact f1)
    · exact ntup h z
  · rw [upd_same, List.map_append]
    rfl
  · intro p hp
    rcases List.mem_append.mp hp with hp | hp
    · obtain ⟨a1, a2, a3, a4, a5, a6, a7, a8⟩ := h2 p hp
      exact ⟨n1 (b _ _ a1) a7.1, n1 (b _ _ a2) a7.2.1, n1 (b _ _ a3) a7.2.2, .inl a4, .inl a5, .inl a6, a7, a8.mono fun c o hc tc => n1 (b _ _ hc) (ntup hc tc)⟩
    · have e : p = ⟨q, pf, pg, xs⟩ := by simpa using hp
      rw [e]
      exact ⟨n1 hq3 dq, n1 hf3 df, n1 hg3 dg, .inr (.inr (.inl rfl)), .inr (.inl rfl), .inr (.inr (.inr rfl)), ⟨dq, df, dg⟩, fl.mono fun c o hc tc => n1 (b _ _ (x _ _ hc)) (ntup (x _ _ hc) tc)⟩
  · rintro a (z | z | z | z)
    · by_cases c : a = ph
      · rw [c]
        exact ⟨_, upd_same, fun ⟨_, t⟩ => by cases t⟩
      · obtain ⟨o, ho, nt⟩ := h3 a z
        exact ⟨o, n1 (b _ _ ho) c, nt⟩
    · rw [z]
      exact ⟨_, n1 hf3 df, fun ⟨_, t⟩ => by cases t⟩
    · rw [z]
      exact ⟨_, n1 hq3 dq, fun ⟨_, t⟩ => by cases t⟩
    · rw [z]
      exact ⟨_, n1 hg3 dg, fun ⟨_, t⟩ => by cases t⟩
  · rintro a z1 (z | z | z | z)
    · exact dj a z1 z
    · exact nFf ((ff pf).mpr (.inl (by rw [← z]; exact z1)))
    · obtain ⟨o, ho, _⟩ := R.dom F1 H2 a t1 z1
      rw [z, nq] at ho
      cases ho
    · obtain ⟨o, ho, _⟩ := R.dom F1 H2 a t1 z1
      rw [z, ng] at ho
      cases ho
  · intro a
    show (F a ∨ a = pf ∨ a = q ∨ a = pg) ↔ F1 a ∨ (F2 a ∨ a = pf ∨ a = q ∨ a = pg)
    rw [ff a, or_assoc]
  · exact fun a o h => n1 (b _ _ (x _ _ (eL _ _ h))) fun e => by
      have g := eL _ _ h
      rw [e, dd ph ((ff ph).mpr (.inr f1))] at g
      cases g
  · rintro a (z | z | z | z)
    · exact fresh_back eL (dd a z)
    · rw [z]
      exact nL
    · rw [z]
      exact fresh_back eL (fresh_back x nq)
    · rw [z]
      exact fresh_back eL (fresh_back x ng)
  · intro a z
    by_cases c : a = ph
    · rw [c, upd_same]
      exact fun g => by cases g
    · rw [upd_ne c]
      exact ex_dm b a (bb a z)
  · rintro a (z | z | z | z)
    · exact f a z
    · rw [z]
      exact .inr nB
    · rw [z]
      exact .inr fun g => bb q g nq
    · rw [z]
      exact .inr fun g => bb pg g ng
end
end Wy

set_option Elab.async false
set_option linter.all false
set_option maxRecDepth 100000
set_option maxHeartbeats 4000000
/-! Wi: more rules. -/
namespace Wy
open PySem PySem.Spec PyProof.Rows L2 Evl
section
variable {T T' T'' U : RP} {F F0 B0 : Reg} {L L' H H' N : Hp} {K : PySem.W.Frag} {σ : L2.St} {ta tb tc te tl : TE} {t u : TT} {x y z v w' : V} {r r' : R2} {D : Ends} {tu tw tz ts : TS} {P P' : V → Hp → Prop} {Q : VK}
theorem ev_chain (ha : Ev ta σ H x) (hb : Ev tb σ H y) (h1 : RV r x y H (.bl true)) (hc : Ev tc σ H w') (h2 : RV r' y w' H z) : Ev (tChain r r' ta tb tc) σ H z := fun H1 e Q q =>
  ha H1 e _ fun H2 e2 => hb H2 (e.trans e2) _ fun H3 e3 => h1 H3 ((e.trans e2).trans e3) _ fun H4 e4 => ⟨true, rfl, by
    show tc σ H4 fun w' H5 => r' y w' H5 Q
    exact hc H4 (((e.trans e2).trans e3).trans e4) _ fun H5 e5 => h2 H5 ((((e.trans e2).trans e3).trans e4).trans e5) _ fun H6 e6 => q H6 ((((e2.trans e3).trans e4).trans e5).trans e6)⟩
theorem rv_leT {i j : Int} (h : i ≤ j) : RV (rI0 fun i j => .bl (decide (i ≤ j))) (.int i) (.int j) H (.bl true) := by
  have g := rv_I0 (H := H) (i := i) (j := j) (g := fun i j => .bl (decide (i ≤ j)))
  rw [decide_eq_true h] at g
  exact g
theorem inV_ints (i : Int) : ∀ c : List Int, inV (.int i) (c.map V.int) = decide (i ∈ c)
  | [] => by
    rw [decide_eq_false (List.not_mem_nil)]
    rfl
  | y :: c => by
    show (eqV (.int y) (.int i) || inV (.int i) (c.map V.int)) = _
    rw [inV_ints i c]
    have e : eqV (.int y) (.int i) = decide (i = y) := by
      show decide (y = i) = _
      exact decide_eq_decide.mpr eq_comm
    rw [e, ← Bool.decide_or]
    exact decide_eq_decide.mpr List.mem_cons.symm
theorem flat_ints (c : List Int) : (c.map V.int).all flatV = true := List.all_eq_true.mpr fun x hx => by
  obtain ⟨i, _, rfl⟩ := List.mem_map.mp hx
  rfl
theorem rv_ninI {p : Addr} {c : List Int} {i : Int} (h : SqT K H p (c.map V.int)) : RV (rIn K true) (.int i) (.ref p) H (.bl (!decide (i ∈ c))) := by
  rw [← inV_ints]
  exact rv_niT h rfl (flat_ints c)
theorem ev_opP (ha : EvP ta σ H P) (hb : Ev tb σ H y) (hr : ∀ x H2, Ex H H2 → P x H2 → RV r x y H2 z) : Ev (tOp r ta tb) σ H z := fun H1 e Q q =>
  ha H1 e _ fun x H2 e2 p => hb H2 (e.trans e2) _ fun H3 e3 => hr x H2 (e.trans e2) p H3 e3 Q fun H4 e4 => q H4 ((e2.trans e3).trans e4)
theorem ep_sorted {a : Addr} {ns : List Int} (ha : Ev ta σ H (.ref a)) (h : SqL K H a (ns.map V.int)) : EvP (tCB (rSortedI K) (tCons ta tNil)) σ H fun v H2 => ∃ (p : Addr) (ys : List Int), v = .ref p ∧ H2 p = some (.lst (ys.map V.int)) ∧ ys.Perm ns ∧ ys.Pairwise (· ≤ ·) := fun H1 e Q q =>
  ha H1 e _ fun H2 e2 => ⟨a, ns, rfl, ex_l (e.trans e2) h, fun ys p h1 h2 hp => q _ _ (e2.trans (Ex.new hp)) ⟨p, ys, rfl, upd_same, h1, h2⟩⟩
/-- sorted of what the region gives -/
theorem ew_sorted {G : List Int → Prop} (R : Regn T') (h : EvW te σ T T' F0 B0 L fun v N => ∃ (p : Addr) (ns : List Int), v = .ref p ∧ N p = some (.lst (ns.map V.int)) ∧ G ns) : EvW (tCB (rSortedI K) (tCons te tNil)) σ T T' F0 B0 L fun v N => ∃ (p : Addr) (ns ys : List Int), v = .ref p ∧ N p = some (.lst (ys.map V.int)) ∧ G ns ∧ ys.Perm ns ∧ ys.Pairwise (· ≤ ·) := fun H w Q q =>
  h H w _ fun v N H2 d ⟨p, ns, e1, hp, g⟩ w2 => by
    subst e1
    have hp2 := w2.lx _ _ (unn_l (fun a z => (d a z).1) _ _ hp)
    refine ⟨p, ns, rfl, sq_of hp2, fun ys l h1 h2 hl => ?_⟩
    have nB : ∀ a, (one l (.lst (ys.map V.int))) a ≠ none → H2 a = none := fun a z => by
      rw [one_ne z]
      exact hl
    have nl : (Unn N L) l = none := fresh_back w2.lx hl
    refine q (.ref l) (one l (.lst (ys.map V.int))) _ (fun a z => ?_) ⟨l, ns, ys, rfl, one_at, g, h1, h2⟩ ((w2.new R (Ex.new hl) nB (one_ex upd_same)).weak fun a o ha => ?_)
    · rw [one_ne z]
      refine ⟨fresh_back unn_r nl, fun b => ?_⟩
      obtain ⟨_, _, _, _, bb, _⟩ := w2
      exact bb l b hl
    · have g : (match L a with | some o => some o | none => (one l (.lst (ys.map V.int))) a) = some o := ha
      show (match (Unn N L) a with | some o => some o | none => (one l (.lst (ys.map V.int))) a) = some o
      cases k : L a with
      | some o' =>
        rw [k] at g
        rw [unn_r _ _ k]
        exact g
      | none =>
        rw [k] at g
        have e : a = l := one_ne (by
          show (one l (.lst (ys.map V.int))) a ≠ none
          simp only at g
          rw [g]
          exact fun z => by cases z)
        rw [e] at g ⊢
        rw [nl]
        exact g
theorem ew_opR (R : Regn T') (ha : EvW ta σ T T' F0 B0 L P) (hb : Ev tb σ L y) (hr : ∀ x N, (∀ a, N a ≠ none → L a = none ∧ ¬ B0 a) → P x N → RV r x y (Unn N L) z) : EvW (tOp r ta tb) σ T T' F0 B0 L fun v _ => v = z := fun H w Q q =>
  ha H w _ fun x N H2 d p w2 => hb H2 (unn_r.trans w2.lx) _ fun H3 e3 => hr x N d p H3 (w2.lx.trans e3) Q fun H4 e4 => q z N H4 d rfl ((w2.ext R e3).ext R e4)
/-- a test of two parts, the second one over the region -/
theorem etw_and {p : Prop} [Decidable p] (R : Regn T) (h1 : EvT t σ L (decide p)) (h2 : p → EtW u σ T T' F0 B0 L false) (h3 : ∀ F H, T F H → T' F H) : EtW (tAnd t u) σ T T' F0 B0 L false := fun H w Q q => h1 H w.lx _ fun H2 e2 => by
  by_cases c : p
  · rw [decide_eq_true c]
    show u σ H2 Q
    exact h2 c H2 (w.ext R e2) Q q
  · rw [decide_eq_false c]
    show Q false H2
    exact q nonew H2 (fun a z => (z rfl).elim) (((w.ext R e2).imp fun F => h3 F H2).weak unn_no)
theorem ew_clN {sp : Sp} {E : XK} {t : TA} {PA : List V → Hp → Prop} {p : V → Prop} (R : Regn T) (ht : EvAN t σ L PA) (hs : ∀ vs N, (∀ a, N a ≠ none → L a = none ∧ ¬ B0 a) → PA vs N → SpWP sp vs T T' F0 B0 (Unn N L) fun v _ => p v) : EvW (tCall sp [] E t) σ T T' F0 B0 L fun v _ => p v := fun H w Q q =>
  ht H w.lx _ fun vs N H3 d pa x y => by
    rw [List.append_nil]
    refine hs vs N (fun b z => ⟨fresh_back w.lx (d b z), fun g => let ⟨_, _, _, _, bb, _⟩ := w; bb b g (d b z)⟩) pa H3 (w.new R y d x) Q (fun v N' H' d' pv w' => q v nonew H' (fun b z => (z rfl).elim) pv (w'.weak (unn_no.trans (unn_r.trans unn_r)))) E
/-- xs.clear(), xs.extend(ys), own lists -/
theorem vw_clear {l : Addr} {xs : List V} (R : Regn T) (hl : L l = some (.lst xs)) (ha : Ev ta σ L (.ref l)) (k : SvW tz D σ T F0 B0 (upd L l (.lst []))) : SvW (tSeq (tDrop (tBM0 K "list" rClear ta)) tz) D σ T F0 B0 L := fun H w =>
  ha H w.lx _ fun H2 e2 => have w2 := w.ext R e2
    ⟨Or.inl ⟨rfl, xs, sq_of (w2.lx _ _ hl)⟩, l, xs, rfl, rfl, w2.lx _ _ hl, k _ (w2.put R hl (fun ⟨_, z⟩ => by cases z))⟩
theorem vw_extend {l m : Addr} {xs zs : List V} (R : Regn T) (hl : L l = some (.lst xs)) (hm : L m = some (.lst zs)) (ha : Ev ta σ L (.ref l)) (h : Ev te σ L (.ref m)) (hz : xs.length + zs.length ≤ 100000) (k : SvW tz D σ T F0 B0 (upd L l (.lst (xs ++ zs)))) : SvW (tSeq (tDrop (tBM K "list" rExtend ta (tCons te tNil))) tz) D σ T F0 B0 L := fun H w =>
  ha H w.lx _ fun H2 e2 => ⟨Or.inl ⟨rfl, xs, sq_of ((w.ext R e2).lx _ _ hl)⟩, h H2 (w.ext R e2).lx _ fun H3 e3 =>
    have w3 := (w.ext R e2).ext R e3
    ⟨l, m, xs, zs, rfl, rfl, w3.lx _ _ hl, w3.lx _ _ hm, sz_of hz, k _ (w3.put R hl (fun ⟨_, z⟩ => by cases z))⟩⟩
/-- all([p[0] == p[1] for p in held]) -/
theorem ev_allHeld {ph : Addr} {n : Nat} {j : Nat} {vs : List Nat} {F : Reg} (h : HeldR ph n F H) (hn : n ≤ 40000) (ha : Ev tl σ H (.ref ph)) (hw : ∀ x, wipe ((wipe σ vs).set j (some x)) vs = wipe σ vs) (hj : ∀ x, ((wipe σ vs).set j (some x))[j]? = some (some x)) :
    Ev (tCB (rAll K) (tCons (tLc (iList K tl) (gName j) tYes (tOp (rEqD K) (tOp (rIxL K) (tVar j) (tC (.int 0))) (tOp (rIxL K) (tVar j) (tC (.int 1)))) vs) tNil)) σ H (.bl true) := fun H1 e Q q => by
  obtain ⟨ps, hl, h1, _, h2, _⟩ := h
  have g : EvL (tLc (iList K tl) (gName j) tYes (tOp (rEqD K) (tOp (rIxL K) (tVar j) (tC (.int 0))) (tOp (rIxL K) (tVar j) (tC (.int 1)))) vs) σ H (given (ps.map fun p => V.ref p.q).length (fun _ => true) fun _ => V.bl (decide True)) :=
    el_lcL (fun _ => true) (fun _ => V.bl (decide True)) ha (sq_of h1) (by rw [List.length_map]; omega) hw (fun i x H3 _ _ H4 _ Q q => q H4 (Ex.refl H4)) fun i x H3 e3 hx _ => by
      rw [List.getElem?_map] at hx
      cases k : ps[i]? with
      | none =>
        rw [k] at hx
        cases hx
      | some p =>
        rw [k] at hx
        have ex : x = .ref p.q := (Option.some.inj hx).symm
        subst ex
        obtain ⟨a1, a2, a3, _, _, _, _, fl⟩ := h2 p (List.mem_of_getElem? k)
        obtain ⟨ds, hd, hs⟩ := fl_dp (K := K) (fl.mono fun a o ha _ => e3 _ _ ha)
        have q1 : SqL K H3 p.q [.ref p.a, .ref p.b] := sq_of (e3 _ _ a1)
        exact ev_op (ev_op (ev_var (hj _)) ev_c (rv_ixL q1 rfl)) (ev_op (ev_var (hj _)) ev_c (rv_ixL q1 rfl)) (rd_eqSame (.lst (sq_of (e3 _ _ a2)) hd) (.lst (sq_of (e3 _ _ a3)) hd) (shp_list hs) (by decide))
  have key : ∀ (p : Addr) (H2 : Hp), Ex H1 H2 → H2 p = some (.lst (given (ps.map fun p => V.ref p.q).length (fun _ => true) fun _ => V.bl (decide True))) → rAll K [.ref p] H2 Q := fun p H2 e2 hp => by
    refine ⟨p, (List.range (ps.map fun p => V.ref p.q).length).map fun _ => true, rfl, sq_of ?_, ?_⟩
    · rw [hp]
      unfold given
      rw [List.map_map, List.filter_eq_self.mpr fun a _ => rfl]
      rfl
    · have ea : (((List.range (ps.map fun p => V.ref p.q).length).map fun _ => true).all id) = true := by
        rw [List.all_eq_true]
        intro b hb
        obtain ⟨_, _, rfl⟩ := List.mem_map.mp hb
        rfl
      rw [ea]
      exact q H2 e2
  exact g H1 e (fun v H2 => rAll K [v] H2 Q) fun p H2 n2 e2 hp => key p H2 e2 hp
end
/-- whether an order covers a wish -/
def covM (c : List Int) (ts : List Tri) : Bool := ts.all fun t => decide (t.c ∈ c)
theorem cov_given (c : List Int) (ts : List Tri) (v : Nat → V) : decide (((given ts.length (fun i => !decide ((ts.getD i t0).c ∈ c)) v).length : Int) = 0) = covM c ts := by
  have e : covM c ts = true ↔ ∀ i < ts.length, (ts.getD i t0).c ∈ c := by
    unfold covM
    rw [List.all_eq_true]
    constructor
    · intro h i hi
      rw [List.getD_eq_getElem?_getD, List.getElem?_eq_getElem hi]
      exact of_decide_eq_true (h _ (List.getElem_mem hi))
    · intro h t ht
      obtain ⟨i, hi, rfl⟩ := List.mem_iff_getElem.mp ht
      have g := h i hi
      rw [List.getD_eq_getElem?_getD, List.getElem?_eq_getElem hi] at g
      exact decide_eq_true g
  have e2 : ((given ts.length (fun i => !decide ((ts.getD i t0).c ∈ c)) v).length : Int) = 0 ↔ ∀ i < ts.length, (ts.getD i t0).c ∈ c := by
    unfold given
    rw [List.length_map]
    constructor
    · intro h i hi
      have h0 : ((List.range ts.length).filter fun i => !decide ((ts.getD i t0).c ∈ c)) = [] := List.length_eq_zero_iff.mp (by omega)
      have h1 := List.filter_eq_nil_iff.mp h0 i (List.mem_range.mpr hi)
      simpa using h1
    · intro h
      have h0 : ((List.range ts.length).filter fun i => !decide ((ts.getD i t0).c ∈ c)) = [] := List.filter_eq_nil_iff.mpr fun i hi => by
        have := h i (List.mem_range.mp hi)
        simpa using this
      rw [h0]
      rfl
  cases k : covM c ts with
  | true => exact decide_eq_true (e2.mpr (e.mp k))
  | false => exact decide_eq_false fun z => absurd ((e.mpr (e2.mp z)).symm.trans k) (by decide)
def RKStretch {K : PySem.W.Frag} (S : KS K) : List V → Hp → Reg → RP → (V → Hp → Prop) → Prop := fun vs H F T' P => ∃ (k b : Addr) (c : List Int) (s : Rows) (ws : List V) (ts : List Tri) (wd : Nat), vs = [.ref k, .ref b] ∧ S.at_ k c s F H ∧ SqL K H b ws ∧ Wt K H ws ts ∧ ts.length ≤ 20 ∧ wd ≤ 6 ∧ Wide s wd ∧ (∀ t ∈ ts, 0 ≤ t.c ∧ t.c < wd) ∧ (∀ x ∈ c, 0 ≤ x ∧ x < wd) ∧ s.length ≤ 200 ∧
  T' = S.at_ k c s ∧ P = fun v N => ∃ (p : Addr) (ns : List Int), v = .ref p ∧ N p = some (.lst (ns.map V.int)) ∧ Asc c s ns ∧ ∀ n, n ∈ ns ↔ ∃ r, rowOf s n = some r ∧ inS c r ts = true
end Wy

set_option Elab.async false
set_option linter.all false
set_option maxRecDepth 100000
set_option maxHeartbeats 4000000
/-! Wx: keys in their order: where one comes to stand, which lie in a stretch. -/
namespace Wy
open PySem PySem.Spec PyProof.Rows L2 Evl
theorem split_at {α : Type} {p : α → Bool} : ∀ {l : List α}, (∀ (i j : Nat) x y, l[i]? = some x → l[j]? = some y → i ≤ j → p y = true → p x = true) → ∀ (j : Nat) x, l[j]? = some x → (p x = true ↔ j < (l.filter p).length)
  | [], _, j, x, h => by simp at h
  | a :: l, anti, j, x, h => by
    by_cases c : p a = true
    · rw [List.filter_cons_of_pos c, List.length_cons]
      match j, h with
      | 0, h =>
        have e : a = x := Option.some.inj h
        rw [← e]
        exact ⟨fun _ => Nat.succ_pos _, fun _ => c⟩
      | j + 1, h =>
        have ih := split_at (l := l) (fun i j x y hi hj hij hp => anti (i + 1) (j + 1) x y hi hj (Nat.succ_le_succ hij) hp) j x h
        rw [ih]
        exact ⟨Nat.succ_lt_succ, Nat.lt_of_succ_lt_succ⟩
    · have no : ∀ y ∈ a :: l, ¬ p y = true := fun y hy g => by
        obtain ⟨i, hi⟩ := List.mem_iff_getElem?.mp hy
        exact c (anti 0 i a y rfl hi (Nat.zero_le _) g)
      have e : (a :: l).filter p = [] := List.filter_eq_nil_iff.mpr no
      rw [e]
      exact ⟨fun g => absurd g (no x (List.mem_of_getElem? h)), fun g => absurd g (Nat.not_lt_zero _)⟩
theorem cnt_split {α : Type} {p : α → Bool} : ∀ {l : List α} {n : Nat}, n ≤ l.length → (∀ (i : Nat) r, l[i]? = some r → i < n → p r = true) → (∀ (i : Nat) r, l[i]? = some r → n ≤ i → p r = false) → (l.filter p).length = n
  | [], n, h, _, _ => by
    have : n = 0 := by simpa using h
    subst this
    rfl
  | x :: l, 0, _, _, h => by
    rw [List.filter_cons, if_neg (by rw [h 0 x rfl (Nat.zero_le _)]; decide)]
    exact cnt_split (n := 0) (Nat.zero_le _) (fun i r _ hi => absurd hi (Nat.not_lt_zero _)) (fun i r hr _ => h (i + 1) r hr (Nat.zero_le _))
  | x :: l, n + 1, hn, h1, h2 => by
    rw [List.filter_cons, if_pos (h1 0 x rfl (Nat.succ_pos _)), List.length_cons, cnt_split (Nat.le_of_succ_le_succ hn) (fun i r hr hi => h1 (i + 1) r hr (Nat.succ_lt_succ hi)) (fun i r hr hi => h2 (i + 1) r hr (Nat.succ_le_succ hi))]
theorem ahead_tot : ∀ {a b : List Int}, ahead a b = false → ahead b a = false → a = b
  | [], [], _, _ => rfl
  | [], _ :: _, h, _ => nomatch h
  | _ :: _, [], _, h => nomatch h
  | x :: a, y :: b, h1, h2 => by
    have h1' : (if x = y then ahead a b else decide (x < y)) = false := h1
    have h2' : (if y = x then ahead b a else decide (y < x)) = false := h2
    by_cases c : x = y
    · rw [if_pos c] at h1'
      rw [if_pos c.symm] at h2'
      rw [c, ahead_tot h1' h2']
    · rw [if_neg c] at h1'
      rw [if_neg (fun z => c z.symm)] at h2'
      have k1 := of_decide_eq_false h1'
      have k2 := of_decide_eq_false h2'
      omega
theorem ent_last {c : List Int} {s s' : Rows} {n m : Int} (h : ent c s n = ent c s' m) : n = m := by
  unfold ent at h
  have := List.append_inj_right' h rfl
  simpa using this
theorem ent_len (c : List Int) (s : Rows) (n : Int) : (ent c s n).length = c.length + 1 := by
  unfold ent
  rw [List.length_append, List.length_map]
  rfl
def keyR (c row : List Int) (n : Int) : List Int := c.map (fun x => row.getD x.toNat 0) ++ [n]
theorem ent_key {c row : List Int} {s : Rows} {n : Int} (h : rowOf s n = some row) : ent c s n = keyR c row n := by
  unfold ent keyR
  rw [h]
  rfl
theorem ent_congr {c : List Int} {s s' : Rows} {n : Int} (h : rowOf s n = rowOf s' n) : ent c s n = ent c s' n := by
  unfold ent
  rw [h]
theorem asc_anti {c : List Int} {s : Rows} {ns : List Int} (h : Asc c s ns) (key : List Int) : ∀ (i j : Nat) x y, (ns.map (ent c s))[i]? = some x → (ns.map (ent c s))[j]? = some y → i ≤ j → ahead y key = true → ahead x key = true := fun i j x y hx hy hij hp => by
  rw [List.getElem?_map] at hx hy
  obtain ⟨a, ha, rfl⟩ := Option.map_eq_some_iff.mp hx
  obtain ⟨b, hb, rfl⟩ := Option.map_eq_some_iff.mp hy
  by_cases e : i = j
  · subst e
    rw [ha] at hb
    cases hb
    exact hp
  · have g := asc_far h (j - i - 1) i a b ha (by rw [show i + (j - i - 1) + 1 = j by omega]; exact hb)
    exact ahead_tr g hp
/-- how many stand ahead of a key -/
def cntA (c : List Int) (s : Rows) (ns : List Int) (key : List Int) : Nat := ((ns.map (ent c s)).filter fun r => ahead r key).length
theorem cntA_le (c : List Int) (s : Rows) (ns : List Int) (key : List Int) : cntA c s ns key ≤ ns.length := by
  have := List.length_filter_le (fun r => ahead r key) (ns.map (ent c s))
  rw [List.length_map] at this
  exact this
theorem cntA_iff {c : List Int} {s : Rows} {ns : List Int} {key : List Int} (h : Asc c s ns) {j : Nat} {n : Int} (hj : ns[j]? = some n) : ahead (ent c s n) key = true ↔ j < cntA c s ns key :=
  split_at (asc_anti h key) j _ (by rw [List.getElem?_map, hj]; rfl)
theorem ins_get {α : Type} {l : List α} {i : Nat} {x : α} (hi : i ≤ l.length) (j : Nat) : (l.take i ++ [x] ++ l.drop i)[j]? = if j < i then l[j]? else if j = i then some x else l[j - 1]? := by
  have lt : (l.take i).length = i := by
    rw [List.length_take]
    omega
  rw [List.append_assoc]
  by_cases c : j < i
  · rw [if_pos c, List.getElem?_append_left (by omega), List.getElem?_take_of_lt c]
  · rw [if_neg c, List.getElem?_append_right (by omega), lt]
    by_cases d : j = i
    · rw [if_pos d, d, Nat.sub_self]
      rfl
    · rw [if_neg d]
      show ([x] ++ l.drop i)[j - i]? = _
      rw [List.getElem?_append_right (by simp only [List.length_singleton]; omega), List.getElem?_drop]
      congr 1
      simp only [List.length_singleton]
      omega
theorem inOrd_put {c row : List Int} {s : Rows} {ns : List Int} {n : Int} (h : InOrd ahead c s ns) (hn : rowOf s n = none) : InOrd ahead c (s ++ [(n, row)]) (ns.take (cntA c s ns (keyR c row n)) ++ [n] ++ ns.drop (cntA c s ns (keyR c row n))) := by
  have hi := cntA_le c s ns (keyR c row n)
  have iff := fun j m hj => cntA_iff (key := keyR c row n) h.asc (j := j) (n := m) hj
  generalize hI : cntA c s ns (keyR c row n) = i at hi iff
  have old : ∀ m ∈ ns, rowOf (s ++ [(n, row)]) m = rowOf s m ∧ ¬ m = n := fun m hm => by
    obtain ⟨r, hr⟩ := h.2.1 m hm
    rw [rowOf_snoc, hr]
    exact ⟨rfl, fun e => by rw [e, hn] at hr; cases hr⟩
  have new : rowOf (s ++ [(n, row)]) n = some row := by
    rw [rowOf_snoc, hn]
    exact if_pos rfl
  refine ⟨?_, fun m hm => ?_, fun j a b ha hb => ?_⟩
  · rw [List.length_append, List.length_append, List.length_append, List.length_take, List.length_drop, ← h.1]
    simp only [List.length_singleton]
    omega
  · rcases List.mem_append.mp hm with g | g
    · rcases List.mem_append.mp g with g | g
      · rw [(old m (List.mem_of_mem_take g)).1]
        exact h.2.1 m (List.mem_of_mem_take g)
      · rw [List.mem_singleton.mp g]
        exact ⟨_, new⟩
    · rw [(old m (List.mem_of_mem_drop g)).1]
      exact h.2.1 m (List.mem_of_mem_drop g)
  · rw [ins_get hi] at ha hb
    have eo : ∀ {m}, m ∈ ns → ent c (s ++ [(n, row)]) m = ent c s m := fun hm => ent_congr (old _ hm).1
    by_cases c1 : j + 1 < i
    · rw [if_pos (by omega)] at ha
      rw [if_pos c1] at hb
      rw [eo (List.mem_of_getElem? ha), eo (List.mem_of_getElem? hb)]
      exact h.2.2 j a b ha hb
    by_cases c2 : j + 1 = i
    · rw [if_pos (by omega)] at ha
      rw [if_neg c1, if_pos c2] at hb
      rw [← Option.some.inj hb, eo (List.mem_of_getElem? ha), ent_key new]
      exact (iff j a ha).mpr (by omega)
    rw [if_neg c1, if_neg c2] at hb
    by_cases c3 : j = i
    · rw [if_neg (by omega), if_pos c3] at ha
      rw [show j + 1 - 1 = i by omega] at hb
      rw [← Option.some.inj ha, eo (List.mem_of_getElem? hb), ent_key new]
      have nb : ¬ ahead (ent c s b) (keyR c row n) = true := fun g => by
        have := (iff i b hb).mp g
        omega
      cases g : ahead (keyR c row n) (ent c s b) with
      | true => rfl
      | false =>
        have e := ahead_tot g (by simpa using nb)
        rw [← ent_key (c := c) new] at e
        exact absurd (ent_last e).symm (old b (List.mem_of_getElem? hb)).2
    · rw [if_neg (by omega), if_neg c3] at ha
      rw [show j + 1 - 1 = j - 1 + 1 by omega] at hb
      rw [eo (List.mem_of_getElem? ha), eo (List.mem_of_getElem? hb)]
      exact h.2.2 (j - 1) a b ha hb
theorem filter_one {s : Rows} {n : Int} {row : List Int} (nd : (s.map (·.1)).Nodup) (h : rowOf s n = some row) : (s.filter fun p => decide (¬ p.1 = n)).length + 1 = s.length := by
  induction s with
  | nil => cases h
  | cons p s ih =>
    rw [List.map_cons, List.nodup_cons] at nd
    rw [rowOf_cons] at h
    by_cases c : p.1 = n
    · have e : s.filter (fun p => decide (¬ p.1 = n)) = s := List.filter_eq_self.mpr fun q hq => decide_eq_true fun z => nd.1 (List.mem_map.mpr ⟨q, hq, z.trans c.symm⟩)
      rw [List.filter_cons_of_neg (by simpa using c), e]
      rfl
    · rw [if_neg c] at h
      rw [List.filter_cons_of_pos (by simpa using c), List.length_cons, ih nd.2 h]
      rfl
theorem inOrd_drop {c row : List Int} {s : Rows} {ns : List Int} {n : Int} (h : InOrd ahead c s ns) (nd : (s.map (·.1)).Nodup) (hr : rowOf s n = some row) (mem : n ∈ ns) :
    ns[cntA c s ns (keyR c row n)]? = some n ∧ InOrd ahead c (s.filter fun p => decide (¬ p.1 = n)) (ns.eraseIdx (cntA c s ns (keyR c row n))) := by
  obtain ⟨j, hj⟩ := List.mem_iff_getElem?.mp mem
  have iff := fun j m hj => cntA_iff (key := keyR c row n) h.asc (j := j) (n := m) hj
  have hc := cntA_le c s ns (keyR c row n)
  generalize cntA c s ns (keyR c row n) = i at iff hc
  have e : i = j := by
    have h1 : ¬ j < i := fun g => by
      have := (iff j n hj).mpr g
      rw [ent_key hr, ahead_irr] at this
      cases this
    by_cases h2 : i < j
    · have hj2 := (List.getElem?_eq_some_iff.mp hj).1
      have hi : ns[i]? = some (ns[i]'(by omega)) := List.getElem?_eq_getElem _
      have g := asc_far h.asc (j - i - 1) i _ n hi (by rw [show i + (j - i - 1) + 1 = j by omega]; exact hj)
      rw [ent_key (c := c) hr] at g
      have := (iff i _ hi).mp g
      omega
    · omega
  subst e
  have hi := (List.getElem?_eq_some_iff.mp hj).1
  have old : ∀ m ∈ ns, ¬ m = n → rowOf (s.filter fun p => decide (¬ p.1 = n)) m = rowOf s m := fun m _ g => by
    rw [rowOf_filter, if_neg (fun z => g z.symm)]
  have ndn := asc_nodup h.asc
  have other : ∀ k m, ns[k]? = some m → k ≠ i → ¬ m = n := fun k m hk g z => by
    subst z
    exact g ((List.getElem?_inj (List.getElem?_eq_some_iff.mp hk).1 ndn).mp (hk.trans hj.symm))
  have get : ∀ (k : Nat) m, (ns.eraseIdx i)[k]? = some m → m ∈ ns ∧ ¬ m = n := fun k m hk => by
    rw [List.getElem?_eraseIdx] at hk
    split at hk
    · exact ⟨List.mem_of_getElem? hk, other k m hk (by omega)⟩
    · exact ⟨List.mem_of_getElem? hk, other _ m hk (by omega)⟩
  refine ⟨hj, ?_, fun m hm => ?_, fun k a b ha hb => ?_⟩
  · have := filter_one nd hr
    rw [List.length_eraseIdx_of_lt hi, h.1]
    omega
  · obtain ⟨k, hk⟩ := List.mem_iff_getElem?.mp hm
    obtain ⟨g1, g2⟩ := get k m hk
    rw [old m g1 g2]
    exact h.2.1 m g1
  · obtain ⟨a1, a2⟩ := get k a ha
    obtain ⟨b1, b2⟩ := get _ b hb
    rw [ent_congr (old a a1 a2), ent_congr (old b b1 b2)]
    rw [List.getElem?_eraseIdx] at ha hb
    by_cases c1 : k + 1 < i
    · rw [if_pos (by omega)] at ha
      rw [if_pos c1] at hb
      exact h.2.2 k a b ha hb
    rw [if_neg c1] at hb
    by_cases c2 : k < i
    · rw [if_pos c2] at ha
      have g := asc_far h.asc 1 k a b ha (by rw [show k + 1 + 1 = k + 1 + 1 by omega]; exact hb)
      exact g
    · rw [if_neg c2] at ha
      exact h.2.2 (k + 1) a b ha hb
/-! ### the keys of a stretch -/
theorem endLo_un {c : Int} {ts : List Tri} (h : ¬ spoken c ts) : endLo c ts = none := endLo_nil (by
  unfold lowsM
  rw [List.map_eq_nil_iff, List.filter_eq_nil_iff]
  intro t ht g
  exact h (spoken_iff.mpr ⟨t, ht, (of_decide_eq_true g).1⟩))
theorem endHi_un {c : Int} {ts : List Tri} (h : ¬ spoken c ts) : endHi c ts = none := endHi_nil (by
  unfold highsM
  rw [List.map_eq_nil_iff, List.filter_eq_nil_iff]
  intro t ht g
  exact h (spoken_iff.mpr ⟨t, ht, (of_decide_eq_true g).1⟩))
def faF : List Int → List Tri → List Int
  | [], _ => []
  | c :: cs, ts => if endLo c ts = none ∨ ¬ endLo c ts = endHi c ts then (endLo c ts).toList else (endLo c ts).getD 0 :: faF cs ts
def faT : List Int → List Tri → List Int
  | [], _ => []
  | c :: cs, ts => if endLo c ts = none ∨ ¬ endLo c ts = endHi c ts then (endHi c ts).toList else (endLo c ts).getD 0 :: faT cs ts
theorem faF_len : ∀ (cs : List Int) (ts : List Tri), (faF cs ts).length ≤ cs.length
  | [], _ => Nat.le_refl _
  | c :: cs, ts => by
    show (if _ then _ else _ : List Int).length ≤ cs.length + 1
    split
    · cases endLo c ts <;> simp
    · have := faF_len cs ts
      simp only [List.length_cons]
      omega
theorem faT_len : ∀ (cs : List Int) (ts : List Tri), (faT cs ts).length ≤ cs.length
  | [], _ => Nat.le_refl _
  | c :: cs, ts => by
    show (if _ then _ else _ : List Int).length ≤ cs.length + 1
    split
    · cases endHi c ts <;> simp
    · have := faT_len cs ts
      simp only [List.length_cons]
      omega
/-- the last one raised by one -/
def incL (l : List Int) : List Int := l.take (l.length - 1) ++ [l.getD (l.length - 1) 0 + 1]
theorem incL_cons (x y : Int) (l : List Int) : incL (x :: y :: l) = x :: incL (y :: l) := by
  unfold incL
  simp only [List.length_cons, Nat.add_sub_cancel]
  rw [List.take_succ_cons, List.cons_append]
  congr 2
theorem ahead_nil (a : List Int) : ahead a [] = false := by
  cases a <;> rfl
theorem betw_b (v l : Int) (hi : Option Int) : betw v (some l) hi = (!decide (v < l) && betw v none hi) := by
  by_cases a : v < l
  · rw [decide_eq_true a]
    exact decide_eq_false fun z => z.1 ⟨nofun, a⟩
  · rw [decide_eq_false a]
    exact decide_eq_decide.mpr ⟨fun z => ⟨fun y => y.1 rfl, z.2⟩, fun z => ⟨fun y => a y.2, z.2⟩⟩
theorem betw_h (v h : Int) : betw v none (some h) = decide (v < h + 1) := decide_eq_decide.mpr ⟨fun z => by
  rcases z.2 with y | y
  · cases y
  · have y' : v ≤ h := y
    omega, fun z => ⟨fun y => y.1 rfl, .inr (show v ≤ h by omega)⟩⟩
theorem betw_n (v : Int) : betw v none none = true := decide_eq_true ⟨fun y => y.1 rfl, .inl rfl⟩
theorem in_keys : ∀ (cs row : List Int) (n : Int) (ts : List Tri), inS cs row ts = (!ahead (keyR cs row n) (faF cs ts) && (decide (faT cs ts = []) || ahead (keyR cs row n) (incL (faT cs ts))))
  | [], row, n, ts => by
    show true = (!ahead _ [] && (decide (([] : List Int) = []) || _))
    rw [ahead_nil]
    rfl
  | c :: cs, row, n, ts => by
    have ih := in_keys cs row n ts
    have e1 : inS (c :: cs) row ts = if endLo c ts = none ∨ ¬ endLo c ts = endHi c ts then betw (row.getD c.toNat 0) (endLo c ts) (endHi c ts) else if row.getD c.toNat 0 = (endLo c ts).getD 0 then inS cs row ts else false := rfl
    have e2 : faF (c :: cs) ts = if endLo c ts = none ∨ ¬ endLo c ts = endHi c ts then (endLo c ts).toList else (endLo c ts).getD 0 :: faF cs ts := rfl
    have e3 : faT (c :: cs) ts = if endLo c ts = none ∨ ¬ endLo c ts = endHi c ts then (endHi c ts).toList else (endLo c ts).getD 0 :: faT cs ts := rfl
    have e4 : keyR (c :: cs) row n = row.getD c.toNat 0 :: keyR cs row n := rfl
    rw [e1, e2, e3, e4]
    generalize row.getD c.toNat 0 = v
    generalize keyR cs row n = k at ih ⊢
    generalize faF cs ts = F at ih ⊢
    generalize faT cs ts = T at ih ⊢
    have one : ∀ x : Int, ahead (v :: k) [x] = decide (v < x) := fun x => by
      show (if v = x then ahead k [] else decide (v < x)) = _
      split
      · rename_i h
        rw [ahead_nil, h]
        simp
      · rfl
    have cons : ∀ (x : Int) (l : List Int), ahead (v :: k) (x :: l) = if v = x then ahead k l else decide (v < x) := fun x l => rfl
    have i1 : ∀ x : Int, incL [x] = [x + 1] := fun x => rfl
    by_cases hp : endLo c ts = none ∨ ¬ endLo c ts = endHi c ts
    · rw [if_pos hp, if_pos hp, if_pos hp]
      cases endLo c ts with
      | none =>
        cases endHi c ts with
        | none =>
          rw [betw_n]
          show true = (!ahead (v :: k) [] && (decide (([] : List Int) = []) || _))
          rw [ahead_nil]
          rfl
        | some h =>
          rw [betw_h]
          show _ = (!ahead (v :: k) [] && (decide ([h] = []) || ahead (v :: k) (incL [h])))
          rw [ahead_nil, i1, one]
          simp
      | some l =>
        rw [betw_b]
        cases endHi c ts with
        | none =>
          rw [betw_n]
          show _ = (!ahead (v :: k) [l] && (decide (([] : List Int) = []) || _))
          rw [one]
          simp
        | some h =>
          rw [betw_h]
          show _ = (!ahead (v :: k) [l] && (decide ([h] = []) || ahead (v :: k) (incL [h])))
          rw [i1, one, one]
          simp
    · rw [if_neg hp, if_neg hp, if_neg hp]
      generalize (endLo c ts).getD 0 = l
      rw [cons]
      match T, ih with
      | [], ih =>
        rw [i1, one]
        by_cases e : v = l
        · rw [if_pos e, if_pos e, ih, e]
          simp
          intro
          omega
        · rw [if_neg e, if_neg e]
          by_cases g : v < l
          · simp [g]
          · simp [g]
            omega
      | y :: T, ih =>
        rw [incL_cons, cons]
        by_cases e : v = l
        · rw [if_pos e, if_pos e, if_pos e, ih]
          simp
        · rw [if_neg e, if_neg e, if_neg e]
          simp
end Wy

set_option Elab.async false
set_option linter.all false
set_option maxRecDepth 100000
set_option maxHeartbeats 4000000
/-! Wu: an order that is kept, as it stands: its columns and its keys. -/
namespace Wy
open PySem PySem.Spec PyProof.Rows L2 Evl
section
variable {K : PySem.W.Frag} {σ : L2.St} {H H' : Hp} {ta tb te tx tl ti ty td tk : TE} {t u : TT} {x y z v : V} {r : R2} {D : Ends} {tu tw tz ts : TS} {g : TG} {P P' : V → Hp → Prop}
theorem sv_last (h : Sv (tSeq ts tNext) D σ H) : Sv ts D σ H := h
theorem sv_break (k : ∀ H1, Ex H H1 → D.bk σ H1) : Sv tBreak D σ H := k
theorem upd_ex {a : Addr} {o : HO} (e : Ex H H') : Ex (upd H a o) (upd H' a o) := fun b u h => by
  by_cases c : b = a
  · rw [c, upd_same] at h ⊢
    exact h
  · rw [upd_ne c] at h ⊢
    exact e b u h
/-- o.f = e -/
theorem sv_fld {a C dx : Addr} {fs : List (Str × V)} {f : Str} (hv : Ev te σ H v) (ha : Ev ta σ H (.ref a)) (hi : H a = some (.ins C dx fs)) (hc : Cls K C) (hn : NoAttr K C f) (hl : fs.length < 1000) (k : Sv tz D σ (upd H a (.ins C dx (putF f v fs)))) : Sv (tSeq (sFld K ta te f) tz) D σ H := fun H1 e =>
  hv H1 e _ fun H2 e2 => ha H2 (e.trans e2) _ fun H3 e3 => ⟨a, C, dx, fs, rfl, ((e.trans e2).trans e3) _ _ hi, hc, hn, hl, k _ (upd_ex ((e.trans e2).trans e3))⟩
theorem sv_fldL {a C dx : Addr} {fs : List (Str × V)} {f : Str} {xs : List V} (hv : EvL te σ H xs) (ha : Ev ta σ H (.ref a)) (hi : H a = some (.ins C dx fs)) (hc : Cls K C) (hn : NoAttr K C f) (hl : fs.length < 1000)
    (k : ∀ p H2, H p = none → Ex H H2 → H2 p = some (.lst xs) → Sv tz D σ (upd H2 a (.ins C dx (putF f (.ref p) fs)))) : Sv (tSeq (sFld K ta te f) tz) D σ H := fun H1 e =>
  hv H1 e _ fun p H2 n e2 hp => ha H2 (e.trans e2) _ fun H3 e3 => ⟨a, C, dx, fs, rfl, ((e.trans e2).trans e3) _ _ hi, hc, hn, hl, k p H3 (fresh_back e n) ((e.trans e2).trans e3) (e3 _ _ hp) _ (Ex.refl _)⟩
def rInsL : V → List V → Hp → VK → Prop := fun x vs H Q => ∃ (l : Addr) (xs : List V) (i : Int) (y : V), x = .ref l ∧ vs = [.int i, y] ∧ H l = some (.lst xs) ∧ xs.length < sizeLine ∧ 0 ≤ i ∧ i < 2 ^ 63 ∧ Q .non (upd H l (.lst (xs.take i.toNat ++ [y] ++ xs.drop i.toNat)))
theorem m_insert {X : Cx} : MtR X "list.insert" rInsL := mt_insert
/-- xs.insert(i, e) -/
theorem sv_insert {l : Addr} {xs : List V} {i : Int} (hl : H l = some (.lst xs)) (ha : Ev ta σ H (.ref l)) (hi : Ev ti σ H (.int i)) (hy : Ev ty σ H y) (h0 : 0 ≤ i) (h1 : i ≤ 100000) (hz : xs.length < 100000) (k : Sv tz D σ (upd H l (.lst (xs.take i.toNat ++ [y] ++ xs.drop i.toNat)))) :
    Sv (tSeq (tDrop (tBM K "list" rInsL ta (tCons ti (tCons ty tNil)))) tz) D σ H := fun H1 e =>
  ha H1 e _ fun H2 e2 => ⟨Or.inl ⟨rfl, xs, sq_of (e2 _ _ (e _ _ hl))⟩, hi H2 (e.trans e2) _ fun H3 e3 => hy H3 ((e.trans e2).trans e3) _ fun H4 e4 =>
    have e14 := ((e.trans e2).trans e3).trans e4
    ⟨l, xs, i, y, rfl, rfl, e14 _ _ hl, sz_lt hz, h0, by omega, k _ (upd_ex e14)⟩⟩
/-- del xs[i] -/
theorem sv_del {l : Addr} {xs : List V} {i : Nat} (hl : H l = some (.lst xs)) (ha : Ev ta σ H (.ref l)) (hi : Ev ti σ H (.int (i : Int))) (h1 : i < xs.length) (hz : xs.length < 100000) (k : Sv tz D σ (upd H l (.lst (xs.eraseIdx i)))) : Sv (tSeq (tDelL ta ti) tz) D σ H := fun H1 e =>
  ha H1 e _ fun H2 e2 => hi H2 (e.trans e2) _ fun H3 e3 =>
    ⟨l, xs, i, i, rfl, rfl, ((e.trans e2).trans e3) _ _ hl, by omega, by omega, seq_ix (by omega) (by omega), k _ (upd_ex ((e.trans e2).trans e3))⟩
/-- {t: (u, v) for t, u, v in ms} of a wish that is given -/
def EntA (H : Hp) (kvs : List (Key × V)) (ms : List Tri) (c : Int) : Prop := (∃ t q, t ∈ ms ∧ t.c = c ∧ valV kvs (Sum.inl c) = some (.ref q) ∧ H q = some (.tup [ov t.lo, ov t.hi])) ∨ ((∀ t ∈ ms, ¬ t.c = c) ∧ valV kvs (Sum.inl c) = none)
theorem ep_dcT {ms : List Tri} {i j k : Nat} {vs : List Nat} (h : EvP te σ H fun v H2 => ∃ p acc, v = .ref p ∧ H2 p = some (.lst acc) ∧ Wt K H2 acc ms) (nd : (ms.map (·.c)).Nodup) (hz : ms.length ≤ 1000)
    (hw : ∀ x y z, wipe ((((wipe σ vs).set i (some x)).set j (some y)).set k (some z)) vs = wipe σ vs) (hi : ∀ x y z, ((((wipe σ vs).set i (some x)).set j (some y)).set k (some z))[i]? = some (some x)) (hj : ∀ x y z, ((((wipe σ vs).set i (some x)).set j (some y)).set k (some z))[j]? = some (some y))
    (hk : ∀ x y z, ((((wipe σ vs).set i (some x)).set j (some y)).set k (some z))[k]? = some (some z)) :
    EvP (tDc (iList K te) (gTup K 3 (gCons (gName i) (gCons (gName j) (gCons (gName k) gNil)))) tYes (tVar i) (tTup (tCons (tVar j) (tCons (tVar k) tNil))) vs) σ H fun v H2 => ∃ D kvs, v = .ref D ∧ H2 D = some (.dK kvs) ∧ ∀ c, EntA H2 kvs ms c := fun H0 e Q q =>
  h H0 e _ fun v H1 e1 ⟨p, acc, ev, hp, hW⟩ => by
    subst ev
    refine ⟨p, rfl, ⟨acc, sq_of hp⟩, fun D hD => ?_⟩
    have la := hW.1
    have hpD : p ≠ D := fun c => by rw [c, hD] at hp; cases hp
    refine ⟨fun n m H' => m = acc.length - n ∧ n ≤ acc.length ∧ Ex H1 H' ∧ ∃ kvs, H' D = some (.dK kvs) ∧ kvs.length ≤ n ∧ ∀ c, EntA H' kvs (ms.take n) c, ⟨acc.length, by simp, Nat.zero_le _, Ex.new hD, [], upd_same, Nat.le_refl _, fun c => .inr ⟨fun t ht => by simp at ht, rfl⟩⟩, ?_⟩
    rintro n m H' ⟨rfl, hn, ex, kvs, hd, hl, en⟩
    have hp' : SqL K H' p acc := sq_of (ex _ _ hp)
    by_cases lt : n < acc.length
    · refine .inr ⟨⟨acc, acc[n], hp', List.getElem?_eq_getElem lt⟩, fun H2 => n + 1 ≤ acc.length ∧ Ex H1 H2 ∧ ∃ kvs, H2 D = some (.dK kvs) ∧ kvs.length ≤ n + 1 ∧ ∀ c, EntA H2 kvs (ms.take (n + 1)) c, fun H2 w => ⟨acc.length - (n + 1), by omega, rfl, w⟩, fun x H2 yx => ?_⟩
      obtain ⟨rfl, yx⟩ := yx
      obtain ⟨t, q0, ht, rfl, hq⟩ := (hW.mono ex).at (yx acc hp')
      refine ⟨q0, tv t, rfl, hq, rfl, _, _, rfl, _, _, rfl, _, _, rfl, rfl, hw _ _ _, ?_⟩
      simp only [tYes, ↓reduceIte]
      refine ⟨_, hi _ _ _, ?_⟩
      refine eu_tup (H := H2) (vs := [ov t.lo, ov t.hi]) (ea_cons (ev_var (hj _ _ _)) (ea_cons (ev_var (hk _ _ _)) ea_nil)) (by simp) H2 (Ex.refl _) _ fun p2 H3 n3 e3 hp3 => ?_
      have hd3 := e3 _ _ hd
      have new : valV kvs (Sum.inl t.c) = none := by
        rcases en t.c with ⟨t', q', h1, h2, _⟩ | h2
        · exfalso
          have hn' := (List.getElem?_eq_some_iff.mp ht)
          obtain ⟨l, hl', rfl⟩ := List.mem_iff_getElem.mp h1
          rw [List.length_take] at hl'
          have g1 : (ms.map (·.c))[l]? = some t.c := by
            rw [List.getElem?_map, List.getElem?_eq_getElem (by omega)]
            rw [List.getElem_take] at h2
            exact congrArg some h2
          have g2 : (ms.map (·.c))[n]? = some t.c := by
            rw [List.getElem?_map, ht]
            rfl
          have := (List.getElem?_inj (by rw [List.length_map]; omega) nd).mp (g1.trans g2.symm)
          omega
        · exact h2.2
      refine ⟨kvs, Sum.inl t.c, rfl, hd3, sz_lt (by omega), lt, Ex.mut (ex.trans e3) hD, _, upd_same, ?_, fun c => ?_⟩
      · rw [put_new new, List.length_append]
        simp only [List.length_singleton]
        omega
      · rw [put_new new, take_snoc ht]
        have nD : ∀ {a o}, H2 a = some (.tup o) → (upd H3 D (.dK (kvs ++ [(Sum.inl t.c, .ref p2)]))) a = some (.tup o) := fun {a o} ha => by
          rw [upd_ne (fun z => by rw [z, hd] at ha; cases ha)]
          exact e3 _ _ ha
        by_cases hc : c = t.c
        · refine .inl ⟨t, p2, List.mem_append_right _ (List.mem_singleton.mpr rfl), hc.symm, ?_, ?_⟩
          · rw [valV_snoc _ _ _ _ new, if_pos (by rw [hc])]
          · rw [upd_ne (fun z => by rw [z, hd3] at hp3; cases hp3)]
            exact hp3
        · have nc : ¬ (Sum.inl c : Key) = Sum.inl t.c := fun z => hc (Sum.inl.inj z)
          rcases en c with ⟨t', q', h1, h2, h3, h4⟩ | ⟨h2, h3⟩
          · refine .inl ⟨t', q', List.mem_append_left _ h1, h2, ?_, nD h4⟩
            rw [valV_snoc _ _ _ _ new, if_neg nc]
            exact h3
          · refine .inr ⟨fun t' ht' => ?_, ?_⟩
            · rcases List.mem_append.mp ht' with g | g
              · exact h2 t' g
              · rw [List.mem_singleton.mp g]
                exact fun z => hc z.symm
            · rw [valV_snoc _ _ _ _ new, if_neg nc]
              exact h3
    · have ei : n = acc.length := by omega
      subst ei
      rw [la, List.take_length] at en
      exact .inl ⟨⟨acc, hp', Nat.le_refl _⟩, q _ _ (e1.trans ex) ⟨D, kvs, rfl, hd, en⟩⟩
/-- d.get(k, (..)) -/
theorem ep_dget2 {d : Addr} {kvs : List (Key × V)} {k : Key} {xs : List V} (hd : Ev td σ H (.ref d)) (hD : H d = some (.dK kvs)) (hy : Ev ty σ H (kV k)) (hx : EvU tx σ H xs) : EvP (tDGet2 td ty tx) σ H fun v H2 => ∃ q, H2 q = some (.tup xs) ∧ v = (valV kvs k).getD (.ref q) := fun H1 e Q q =>
  hd H1 e _ fun H2 e2 => ⟨d, rfl, .inl ⟨kvs, .inl ((e.trans e2) _ _ hD)⟩, hy H2 (e.trans e2) _ fun H3 e3 => hx H3 ((e.trans e2).trans e3) _ fun p H4 n4 e4 hp => ⟨_, DGet.k ((((e.trans e2).trans e3).trans e4) _ _ hD), q _ _ ((e2.trans e3).trans e4) ⟨p, hp, rfl⟩⟩⟩
theorem rp_eqO {a b : Option Int} : RV rEq (ov a) (ov b) H (.bl (decide (a = b))) := by
  have e : (.bl (decide (a = b)) : V) = .bl (decide (ov a = ov b)) := by
    congr 1
    exact decide_eq_decide.mpr ⟨fun k => by rw [k], ov_inj⟩
  rw [e]
  exact rv_eq (by cases a <;> cases b <;> rfl)
theorem pe_fldK {X : Cx} {e : Expr} {f : Str} {pos : Pos} (hK : X.K = K) (he : PE X e ta) (hb : attributeBase e f X.env (eval e X.env) = eval e X.env) : PE X (.Attribute e f pos) (tFld K ta f) := hK ▸ pe_fld he hb
/-- whether a list has items, as a test -/
def tTru (K : PySem.W.Frag) (ta : TE) : TT := fun σ H Q => ta σ H fun x H' => ∃ k, TruV K x H' k ∧ Q k H'
theorem pt_tru {X : Cx} {a : Expr} (ha : PE X a ta) (he : ∀ whole, isTrue a X.env whole = (do let v ← whole; standAt a.pos; holding [v] (truthy v)) := by intro _; rfl) : PT X a (tTru X.K ta) := pt_truth ha he
theorem et_lst {p : Addr} {xs : List V} (h : Ev te σ H (.ref p)) (hx : SqL K H p xs) : EvT (tTru K te) σ H (!xs.isEmpty) := fun H1 e Q q =>
  h H1 e _ fun H2 e2 => ⟨_, .inl ⟨xs, ex_l (e.trans e2) hx, rfl⟩, q H2 e2⟩
end
/-! ### x = {k: v for ..} -/
section
variable {X : Cx}
abbrev dctGen (kx vx tg iter : Expr) (ifs : List Expr) (scope : Scope) (pos : Pos) : Expr := .DictComp kx vx [⟨tg, iter, ifs, 0⟩] scope pos
theorem swd_true {kx vx tg iter : Expr} {ifs : List Expr} {scope : Scope} {pos py : Pos} {y : Str} {l : Nat} {env : Env} (hk : env.scope.kind = .function) (hy : env.scope.names.lookup y = some .local) (hl : (py.line == pos.line) = true)
    (no : (scope.names.any fun (n, k) => n == y && (k == .local || k == .cell)) = false) : swapsWith (dctGen kx vx tg iter ifs scope pos) (some (.Name y py)) l env = pure true := by
  have b1 : env.kindOf y = some .local := hy
  have b2 : env.blockKind = .function := by
    unfold Env.blockKind
    rw [hk]
    rfl
  unfold swapsWith
  simp only [b1, b2, no, Expr.pos, hl]
  rfl
theorem ps_setDc {i : Nat} {y : Str} {py pos spos : Pos} {kx vx tg iter : Expr} {ifs : List Expr} {scope : Scope} {own : List (Str × Nat)} {wi : TI} {g : TG} {tt : TT} {tk tv : TE} (calm : X.calm = true) (nd : X.N.Nodup) (hy : X.N[i]? = some y) (loc : X.env.scope.names.lookup y = some .local)
    (sw : swapsWith (dctGen kx vx tg iter ifs scope pos) (some (.Name y py)) spos.line X.env = pure true) (hi : PI X tg iter wi) (ok : BlkOk X.N X.env.scope scope own) (hg : ∀ s H C cl fp, PG (blkAt X scope s H C cl fp) tg g) (ht : ∀ s H C cl fp, PTs (blkAt X scope s H C cl fp) ifs tt)
    (hk : ∀ s H C cl fp, PE (blkAt X scope s H C cl fp) kx tk) (he : ∀ s H C cl fp, PE (blkAt X scope s H C cl fp) vx tv) (hs : ∀ x, foldedSetIterable iter X.env x = pure x := by intro _; rfl) :
    PS X (.Assign [.Name y py] (dctGen kx vx tg iter ifs scope pos) spos) (tAsg (tDc wi g tt tk tv (own.map (·.2))) (gName i)) := by
  refine ⟨fun pins s σ H D I h => ?_⟩
  rw [exec_Assign_Name_used _ _ _ _ sw]
  refine wpAny_bind (wpAny_standAt (wpAny_bind ?_))
  show wpAny _ X.A (do let _ ← comprehension (dctGen kx vx tg iter ifs scope pos) scope X.env (firstIterPos [⟨tg, iter, ifs, 0⟩] pos) newDict false (eval iter X.env) (some (assign (.Name y py) X.env))) _ _ s
  have h' : tDc wi g tt tk tv (own.map (·.2)) σ H (fun x H1 => gName i x σ H1 D.nx) := h
  refine wpAny_bind (thn (dc_core (Qf := fun _ s' => SP X pins D .next s') calm nd I hi ok hg ht hk he hs h' fun L C s' m H' I' q hn f => ?_) fun _ s' hq => wpAny_pure (wpAny_pure hq))
  show wpAny _ _ (assign (.Name y py) X.env (.ref L)) _ _ _
  refine wpAny_assign_Name (store_ok2 (v := V.ref L) I' nd hy (.inl loc) rfl (fun s2 I2 ⟨a, sb, ha⟩ => ?_) (.inr loc))
  obtain ⟨c0, c1, c2, c3, c4, c5⟩ := f
  have far : C ≠ a := ha.elim (fun z => by rw [z]; exact c1) fun z e => c4 y a z e.symm
  exact ⟨m, hn.sameBut sb far, fun h3 sb3 => ⟨_, H', I2.turned (t' := s2.toks) (fun b o hb e => (sb3.2 b hb).trans e) c0 c1 c3 c4 c5, q⟩⟩
end
/-! ### what is read alone, over a region -/
theorem ret_pure {T : RP} {F : Reg} {H : Hp} {P : V → Hp → Prop} {Q : VK} (R : Regn T) (t : T F H) (q : ∀ (v : V) (N H' : Hp) (F' : Reg), Frm F H H' → T F' H' → (∀ a, F' a → F a ∨ H a = none) → (∀ a, N a ≠ none → H a = none ∧ ¬ F' a) → Ex N H' → P v N → Q v H') : RetN P H Q := fun v N H2 d p a b =>
  q v N H2 F (Frm.of b) (R.ex t b) (fun a z => .inl z) (fun a z => ⟨d a z, fun f => by
    obtain ⟨o, ho, _⟩ := R.dom F H a t f
    rw [d a z] at ho
    cases ho⟩) a p
/-! ### a Kept's region -/
def kFs (ct pk : Addr) : List (Str × V) := [("columns", .ref ct), ("_keys", .ref pk)]
def KeyAt (F : Reg) (H : Hp) (p : Addr) (k : List Int) : Prop := H p = some (.lst (k.map V.int)) ∧ F p
structure KeptIs (C k : Addr) (c : List Int) (s : Rows) (F : Reg) (H : Hp) (dx ct pk : Addr) (ps : List Addr) (ns : List Int) : Prop where
  hk : H k = some (.ins C dx (kFs ct pk))
  fk : F k
  hc : H ct = some (.tup (c.map V.int))
  hp : H pk = some (.lst (ps.map V.ref))
  fp : F pk
  keys : Paired (KeyAt F H) ps (ns.map (ent c s))
  ord : InOrd ahead c s ns
  nd : (s.map (·.1)).Nodup
  all : ∀ n r, rowOf s n = some r → n ∈ ns
  c6 : c.length ≤ 6
  l2 : s.length ≤ 200
  dom : ∀ a, F a → ∃ o, H a = some o ∧ ¬ Tupo o
def KeptA (C k : Addr) (c : List Int) (s : Rows) : RP := fun F H => ∃ dx ct pk ps ns, KeptIs C k c s F H dx ct pk ps ns
theorem keptA_regn (C k : Addr) (c : List Int) (s : Rows) : Regn (KeptA C k c s) where
  loc := fun F H H' ⟨dx, ct, pk, ps, ns, h⟩ kp => ⟨dx, ct, pk, ps, ns, kp _ _ h.hk (.inl h.fk), h.fk, kp _ _ h.hc (.inr ⟨_, rfl⟩), kp _ _ h.hp (.inl h.fp), h.fp, paired_imp (fun p k r => ⟨kp _ _ r.1 (.inl r.2), r.2⟩) h.keys, h.ord, h.nd, h.all, h.c6, h.l2, fun a z => by
    obtain ⟨o, ho, nt⟩ := h.dom a z
    exact ⟨o, kp _ _ ho (.inl z), nt⟩⟩
  dom := fun F H a ⟨_, _, _, _, _, h⟩ z => h.dom a z
theorem keptA_rw {K : PySem.W.Frag} {F : Reg} {H : Hp} : ∀ {ps : List Addr} {ks : List (List Int)}, Paired (KeyAt F H) ps ks → Rw K H (ps.map V.ref) ks
  | _, _, .nil => Rw.nil
  | p :: ps, k :: ks, .cons a b => by
    have ih := keptA_rw (K := K) b
    refine ⟨congrArg (· + 1) ih.1, fun i rs hi => ?_⟩
    match i, hi with
    | 0, hi => exact ⟨p, rfl, by rw [← Option.some.inj hi]; exact sq_of a.1⟩
    | i + 1, hi => exact ih.2 i rs hi
theorem paired_imp' {α β : Type} {R R' : α → β → Prop} : ∀ {l : List α} {m : List β}, Paired R l m → (∀ a b, R a b → b ∈ m → R' a b) → Paired R' l m
  | _, _, .nil, _ => .nil
  | _, _, .cons a b, h => .cons (h _ _ a (List.mem_cons_self ..)) (paired_imp' b fun x y r hy => h x y r (List.mem_cons_of_mem _ hy))
section
variable {K : PySem.W.Frag} {σ : L2.St} {H H' : Hp} {ta tb te tx tl ti ty td tk : TE} {t u : TT} {x y z v : V} {r : R2} {D : Ends} {tu tw tz ts : TS} {g : TG} {P P' : V → Hp → Prop}
theorem ev_clL {sp : Sp} {E : XK} {p : Addr} {xs : List V} (ha : Ev ta σ H (.ref p)) (h : EvL te σ H xs) (hs : ∀ l H1, Ex H H1 → H1 l = some (.lst xs) → SpV sp [.ref p, .ref l] H1 z) : Ev (tCall sp [] E (tCons ta (tCons te tNil))) σ H z := fun H1 e Q q =>
  ha H1 e _ fun H2 e2 => h H2 (e.trans e2) _ fun l H3 n e3 hl => by
    show sp ([.ref p, .ref l] ++ []) H3 Q E
    rw [List.append_nil]
    exact hs l H3 ((e.trans e2).trans e3) hl H3 (Ex.refl _) Q (fun H4 e4 => q H4 ((e2.trans e3).trans e4)) E
theorem el_mt {C : Addr} {m : Str} {sp : Sp} {E : XK} {a dx : Addr} {fs : List (Str × V)} {t : TA} {vs xs : List V} (h : Ev ta σ H (.ref a)) (hi : H a = some (.ins C dx fs)) (hm : fs.lookup m = none) (ht : EvA t σ H vs) (hs : SpL sp (.ref a :: vs) H xs) : EvL (tMeth C m sp [] E ta t) σ H xs := fun H1 e Q q =>
  h H1 e _ fun H2 e2 => ⟨a, dx, fs, rfl, (e.trans e2) _ _ hi, hm, ht H2 (e.trans e2) _ fun H3 e3 => by
    rw [List.append_nil]
    exact hs H3 ((e.trans e2).trans e3) Q (fun p H4 n e4 hp => q p H4 (fresh_back (e2.trans e3) n) ((e2.trans e3).trans e4) hp) E⟩
/-- xs.append(e) -/
theorem sv_app {l : Addr} {xs : List V} (hl : H l = some (.lst xs)) (ha : Ev ta σ H (.ref l)) (h : Ev te σ H v) (hz : xs.length < 100000) (k : Sv tz D σ (upd H l (.lst (xs ++ [v])))) : Sv (tSeq (tDrop (tBM K "list" rAppend ta (tCons te tNil))) tz) D σ H := fun H1 e =>
  ha H1 e _ fun H2 e2 => ⟨Or.inl ⟨rfl, xs, sq_of (e2 _ _ (e _ _ hl))⟩, h H2 (e.trans e2) _ fun H3 e3 => ⟨l, xs, v, rfl, rfl, ((e.trans e2).trans e3) _ _ hl, sz_lt hz, k _ (upd_ex ((e.trans e2).trans e3))⟩⟩
/-- [e for x in ys], ys a new list, along its mirror -/
theorem el_lcNM {α : Type} {xs : List V} {ms : List α} {j : Nat} {vs : List Nat} (f : α → V) (h : EvL tl σ H xs) (hl : xs.length = ms.length) (hz : xs.length ≤ 40000) (hw : ∀ x, wipe ((wipe σ vs).set j (some x)) vs = wipe σ vs)
    (he : ∀ (i : Nat) x m, xs[i]? = some x → ms[i]? = some m → Ev te ((wipe σ vs).set j (some x)) H (f m)) : EvL (tLc (iList K tl) (gName j) tYes te vs) σ H (ms.map f) := by
  have g : EvL (tLc (iList K tl) (gName j) tYes te vs) σ H (given xs.length (fun _ => true) fun i => (ms.map f).getD i .non) := el_lcNL (fun _ => true) (fun i => (ms.map f).getD i .non) h hz hw (fun i x H1 e hi H2 e2 Q q => q H2 (Ex.refl H2)) fun i x H1 e hi _ => by
    have li := (List.getElem?_eq_some_iff.mp hi).1
    have hm : ms[i]? = some (ms[i]'(by omega)) := List.getElem?_eq_getElem _
    rw [List.getD_eq_getElem?_getD, List.getElem?_map, hm]
    exact (he i x _ hi hm).mono e
  have eg : given xs.length (fun _ => true) (fun i => (ms.map f).getD i .non) = ms.map f := by
    unfold given
    rw [List.filter_eq_self.mpr (fun _ _ => rfl)]
    have g := range_get V.non (ms.map f) id
    rw [List.map_id, List.length_map, ← hl] at g
    exact g
  rw [eg] at g
  exact g
end
theorem atI_end {α : Type} (xs : List α) (x : α) : atI (xs ++ [x]) (-1) = some x := by
  have e : ixN (xs ++ [x]).length (-1) = some xs.length := by
    unfold ixN
    rw [if_neg (by decide), List.length_append]
    simp only [List.length_singleton]
    rw [if_pos (by omega)]
    congr 1
    omega
  unfold atI
  rw [e]
  show (xs ++ [x])[xs.length]? = some x
  rw [List.getElem?_append_right (Nat.le_refl _), Nat.sub_self]
  rfl
theorem cut_m1 (xs : List V) : cutV xs none (some (-1)) = xs.take (xs.length - 1) := by
  unfold cutV
  rw [HT.sIx_none, List.drop_zero, Nat.sub_zero]
  have e : HT.sIx xs.length xs.length (some (-1)) = ((-1 : Int) + (xs.length : Int)).toNat := by
    show (if (-1 : Int) < 0 then ((-1 : Int) + (xs.length : Int)).toNat else min (-1 : Int).toNat xs.length) = _
    exact if_pos (by decide)
  rw [e]
  congr 1
  omega
theorem cut_ab (xs : List V) (a b : Nat) : cutV xs (some (a : Int)) (some (b : Int)) = (xs.drop (min a xs.length)).take (min b xs.length - min a xs.length) := by
  unfold cutV
  rw [HT.sIx_nat, HT.sIx_nat]
theorem ent_app (c : List Int) (s : Rows) (n : Int) : (ent c s n).map V.int = (c.map fun x => V.int (((rowOf s n).getD []).getD x.toNat 0)) ++ [V.int n] := by
  unfold ent
  rw [List.map_append, List.map_map]
  rfl
theorem key_ne {H : Hp} {pk p : Addr} {ps : List Addr} {q : List Int} (hp : H pk = some (.lst (ps.map V.ref))) (hq : H p = some (.lst (q.map V.int))) (h0 : q ≠ []) : p ≠ pk := fun z => by
  rw [z, hp] at hq
  have e := HO.lst.inj (Option.some.inj hq)
  cases q with
  | nil => exact h0 rfl
  | cons x q =>
    cases ps with
    | nil => cases e
    | cons y ps => cases e
theorem ent_ne {c : List Int} {s : Rows} {ns : List Int} {q : List Int} (h : q ∈ ns.map (ent c s)) : q ≠ [] := by
  obtain ⟨m, _, rfl⟩ := List.mem_map.mp h
  intro e
  have := ent_len c s m
  rw [e] at this
  cases this
theorem paired_ins {α β : Type} {R : α → β → Prop} {x : α} {y : β} (h : R x y) : ∀ {l : List α} {m : List β} (i : Nat), Paired R l m → Paired R (l.take i ++ [x] ++ l.drop i) (m.take i ++ [y] ++ m.drop i)
  | _, _, 0, p => .cons h p
  | _, _, _ + 1, .nil => .cons h .nil
  | _, _, i + 1, .cons a b => .cons a (paired_ins h i b)
theorem rowOf_no {s : Rows} {n : Int} (h : rowOf s n = none) : n ∉ s.map (·.1) := fun g => by
  obtain ⟨r, hr⟩ := rowOf_mem g
  rw [h] at hr
  cases hr
/-- n more comes to stand in the order -/
theorem KeptIs.put {C k : Addr} {c row : List Int} {s : Rows} {F : Reg} {H H2 : Hp} {dx ct pk l : Addr} {ps : List Addr} {ns : List Int} {n : Int} (h : KeptIs C k c s F H dx ct pk ps ns) (hn : rowOf s n = none) (hl2 : s.length < 200)
    (kp : ∀ a o, a ≠ pk → H a = some o → H2 a = some o) (hl : H2 l = some (.lst ((keyR c row n).map V.int))) (hp : H2 pk = some (.lst ((ps.take (cntA c s ns (keyR c row n)) ++ [l] ++ ps.drop (cntA c s ns (keyR c row n))).map V.ref))) :
    KeptIs C k c (s ++ [(n, row)]) (fun a => F a ∨ a = l) H2 dx ct pk (ps.take (cntA c s ns (keyR c row n)) ++ [l] ++ ps.drop (cntA c s ns (keyR c row n))) (ns.take (cntA c s ns (keyR c row n)) ++ [n] ++ ns.drop (cntA c s ns (keyR c row n))) := by
  have nt : ∀ {a o}, H a = some o → (∀ xs, o ≠ .lst xs) → H2 a = some o := fun {a o} ha no => kp a o (fun z => by
    rw [z, h.hp] at ha
    exact no _ (Option.some.inj ha).symm) ha
  have new : rowOf (s ++ [(n, row)]) n = some row := by
    rw [rowOf_snoc, hn]
    exact if_pos rfl
  have old : ∀ m ∈ ns, ent c (s ++ [(n, row)]) m = ent c s m := fun m hm => ent_congr (by
    obtain ⟨r, hr⟩ := h.ord.2.1 m hm
    rw [rowOf_snoc, hr])
  refine ⟨nt h.hk fun _ => nofun, .inl h.fk, nt h.hc fun _ => nofun, hp, .inl h.fp, ?_, inOrd_put h.ord hn, ?_, fun m r hm => ?_, h.c6, by rw [List.length_append]; exact hl2, fun a z => ?_⟩
  · rw [List.map_append, List.map_append, List.map_take, List.map_drop]
    have e1 : ns.map (ent c (s ++ [(n, row)])) = ns.map (ent c s) := List.map_congr_left old
    have e2 : [n].map (ent c (s ++ [(n, row)])) = [keyR c row n] := by
      rw [List.map_singleton, ent_key new]
    rw [e1, e2]
    refine paired_ins (R := KeyAt (fun a => F a ∨ a = l) H2) ⟨hl, .inr rfl⟩ _ (paired_imp' h.keys fun p q hp hq => ⟨kp _ _ (key_ne h.hp hp.1 (ent_ne hq)) hp.1, .inl hp.2⟩)
  · rw [List.map_append]
    exact List.nodup_append.mpr ⟨h.nd, List.nodup_cons.mpr ⟨List.not_mem_nil, List.nodup_nil⟩, fun a ha b hb e => rowOf_no hn (by
      have e2 : b = n := List.mem_singleton.mp hb
      rw [← e2, ← e]
      exact ha)⟩
  · have base : ∀ m, m ∈ ns → m ∈ ns.take (cntA c s ns (keyR c row n)) ++ [n] ++ ns.drop (cntA c s ns (keyR c row n)) := fun m hm => by
      rw [← List.take_append_drop (cntA c s ns (keyR c row n)) ns] at hm
      rcases List.mem_append.mp hm with g | g
      · exact List.mem_append_left _ (List.mem_append_left _ g)
      · exact List.mem_append_right _ g
    rw [rowOf_snoc] at hm
    cases z : rowOf s m with
    | some x => exact base m (h.all m x z)
    | none =>
      rw [z] at hm
      simp only at hm
      split at hm
      · rename_i e
        rw [← e]
        exact List.mem_append_left _ (List.mem_append_right _ (List.mem_singleton.mpr rfl))
      · cases hm
  · rcases z with z | z
    · by_cases e : a = pk
      · rw [e]
        exact ⟨_, hp, fun ⟨_, t⟩ => by cases t⟩
      · obtain ⟨o, ho, no⟩ := h.dom a z
        exact ⟨o, kp a o e ho, no⟩
    · rw [z]
      exact ⟨_, hl, fun ⟨_, t⟩ => by cases t⟩
/-- one stands there no more -/
theorem KeptIs.drop {C k : Addr} {c row : List Int} {s : Rows} {F : Reg} {H H2 : Hp} {dx ct pk : Addr} {ps : List Addr} {ns : List Int} {n : Int} (h : KeptIs C k c s F H dx ct pk ps ns) (hn : rowOf s n = some row)
    (kp : ∀ a o, a ≠ pk → H a = some o → H2 a = some o) (hp : H2 pk = some (.lst ((ps.eraseIdx (cntA c s ns (keyR c row n))).map V.ref))) :
    KeptIs C k c (s.filter fun p => decide (¬ p.1 = n)) F H2 dx ct pk (ps.eraseIdx (cntA c s ns (keyR c row n))) (ns.eraseIdx (cntA c s ns (keyR c row n))) := by
  have nt : ∀ {a o}, H a = some o → (∀ xs, o ≠ .lst xs) → H2 a = some o := fun {a o} ha no => kp a o (fun z => by
    rw [z, h.hp] at ha
    exact no _ (Option.some.inj ha).symm) ha
  obtain ⟨hi, ord⟩ := inOrd_drop h.ord h.nd hn (h.all n row hn)
  have ndn := asc_nodup h.ord.asc
  generalize cntA c s ns (keyR c row n) = i at hi ord hp
  have other : ∀ m, m ∈ ns.eraseIdx i → ¬ m = n ∧ m ∈ ns := fun m hm => by
    obtain ⟨j, hj⟩ := List.mem_iff_getElem?.mp hm
    rw [List.getElem?_eraseIdx] at hj
    have key : ∀ k', ns[k']? = some m → k' ≠ i → ¬ m = n := fun k' hk g z => by
      subst z
      exact g ((List.getElem?_inj (List.getElem?_eq_some_iff.mp hk).1 ndn).mp (hk.trans hi.symm))
    split at hj
    · exact ⟨key _ hj (by omega), List.mem_of_getElem? hj⟩
    · exact ⟨key _ hj (by omega), List.mem_of_getElem? hj⟩
  refine ⟨nt h.hk fun _ => nofun, h.fk, nt h.hc fun _ => nofun, hp, h.fp, ?_, ord, ?_, fun m r hm => ?_, h.c6, Nat.le_trans (List.length_filter_le _ _) h.l2, fun a z => ?_⟩
  · have e1 : (ns.eraseIdx i).map (ent c (s.filter fun p => decide (¬ p.1 = n))) = (ns.eraseIdx i).map (ent c s) := List.map_congr_left fun m hm => ent_congr (by
      rw [rowOf_filter, if_neg fun z => (other m hm).1 z.symm])
    have e2 : (ns.eraseIdx i).map (ent c s) = (ns.map (ent c s)).eraseIdx i := by
      refine List.ext_getElem? fun j => ?_
      rw [List.getElem?_map, List.getElem?_eraseIdx, List.getElem?_eraseIdx]
      split <;> rw [List.getElem?_map]
    rw [e1, e2]
    refine paired_erase (paired_imp' h.keys fun p q hp hq => ⟨kp _ _ (key_ne h.hp hp.1 (ent_ne hq)) hp.1, hp.2⟩) i
  · exact h.nd.sublist (List.Sublist.map _ List.filter_sublist)
  · rw [rowOf_filter] at hm
    split at hm
    · cases hm
    · rename_i g
      have hm' := h.all m r hm
      obtain ⟨j, hj⟩ := List.mem_iff_getElem?.mp hm'
      refine List.mem_iff_getElem?.mpr ?_
      have nj : j ≠ i := fun z => g (by
        rw [z, hi] at hj
        exact Option.some.inj hj)
      by_cases lt : j < i
      · exact ⟨j, by rw [List.getElem?_eraseIdx, if_pos lt]; exact hj⟩
      · exact ⟨j - 1, by rw [List.getElem?_eraseIdx, if_neg (by omega), show j - 1 + 1 = j by omega]; exact hj⟩
  · by_cases e : a = pk
    · rw [e]
      exact ⟨_, hp, fun ⟨_, t⟩ => by cases t⟩
    · obtain ⟨o, ho, no⟩ := h.dom a z
      exact ⟨o, kp a o e ho, no⟩
def keptS {K : PySem.W.Frag} {C : Addr} (cls : Cls K C) (no : NoAttr K C "columns") : KS K where
  C := C
  at_ := KeptA C
  regn := keptA_regn C
  ins := fun ⟨dx, ct, pk, ps, ns, h⟩ => ⟨dx, _, ct, h.hk, rfl, st_of h.hc, rfl, rfl, rfl, rfl, rfl⟩
  cls := cls
  noCol := no
end Wy

set_option Elab.async false
set_option linter.all false
set_option maxRecDepth 100000
set_option maxHeartbeats 4000000
namespace K6
open PySem PySem.Spec PyProof.Rows L2 Evl Wy
local macro_rules | `(tactic| walk_at "s") => `(tactic| first
  | (with_reducible exact ev_c)
  | ((with_reducible apply ev_var); rfl)
  | (with_reducible exact rv_I0)
  | (with_reducible exact rp_eqI)
  | (with_reducible exact rp_neI)
  | ((with_reducible apply rv_mod); (first | decide | omega))
  | ((with_reducible apply rv_div); decide; decide)
  | ((with_reducible apply rv_mulL); (first | decide | omega); (first | decide | omega))
  | ((with_reducible apply rv_mulR); (first | decide | omega); (first | decide | omega))
  | ((with_reducible apply rv_powS); exact ⟨by decide, by decide, by decide⟩)
  | (with_reducible apply ev_op)
  | (with_reducible apply ev_cl)
  | (with_reducible apply ea_cons)
  | (with_reducible exact ea_nil)
  | (with_reducible apply tp_cmp)
  | (with_reducible apply tp_val)
  | (with_reducible apply tp_and)
  | (with_reducible apply tp_or)
  | (with_reducible apply tp_not)
  | ((with_reducible apply ev_lenI); (walk_at "s"); (walk_at "s"))
  | (with_reducible apply ev_len)
  | (with_reducible apply ev_min2)
  | (with_reducible assumption)
  | (intro hq; (with_reducible show EvT _ _ _ _)))

def topS (i : Nat) : Stmt := PySem.Challenge.pw_waybook_k06_a_stretch.main.body.getD i (.Pass ⟨0, 0, 0, 0⟩)
abbrev s_p_wall : Stmt := topS 0
theorem sc_p_wall : FnScope ["k"] ["k"] (defScope s_p_wall) := ⟨rfl, rfl, rfl, by decide +kernel, rfl, by decide +kernel, by decide +kernel⟩
abbrev s_less : Stmt := topS 2
theorem sc_less : FnScope ["one", "other", "left", "right"] ["one", "other"] (defScope s_less) := ⟨rfl, rfl, rfl, by decide +kernel, rfl, by decide +kernel, by decide +kernel⟩
abbrev s_below : Stmt := topS 3
theorem sc_below : FnScope ["rows", "key", "low", "high", "middle"] ["rows", "key"] (defScope s_below) := ⟨rfl, rfl, rfl, by decide +kernel, rfl, by decide +kernel, by decide +kernel⟩
abbrev s_merged : Stmt := topS 5
theorem sc_merged : FnScope ["wish", "columns", "triple", "column"] ["wish"] (defScope s_merged) := ⟨rfl, rfl, rfl, by decide +kernel, rfl, by decide +kernel, by decide +kernel⟩
abbrev s_merged_triple : Stmt := topS 6
theorem sc_merged_triple : FnScope ["column", "wish", "spoken", "lows", "highs", "triple"] ["column", "wish"] (defScope s_merged_triple) := ⟨rfl, rfl, rfl, by decide +kernel, rfl, by decide +kernel, by decide +kernel⟩
abbrev s_first_and_last : Stmt := topS 8
theorem sc_first_and_last : FnScope ["columns", "wish", "ends", "first", "last", "column", "low", "high", "pinned"] ["columns", "wish"] (defScope s_first_and_last) := ⟨rfl, rfl, rfl, by decide +kernel, rfl, by decide +kernel, by decide +kernel⟩
abbrev s_through : Stmt := topS 9
theorem sc_through : FnScope ["keys", "last"] ["keys", "last"] (defScope s_through) := ⟨rfl, rfl, rfl, by decide +kernel, rfl, by decide +kernel, by decide +kernel⟩
abbrev s_Kept_init : Stmt := inClass (topS 10) 0
theorem sc_Kept_init : FnScope ["self", "columns"] ["self", "columns"] (defScope s_Kept_init) := ⟨rfl, rfl, rfl, by decide +kernel, rfl, by decide +kernel, by decide +kernel⟩
abbrev s_Kept_put : Stmt := inClass (topS 10) 1
theorem sc_Kept_put : FnScope ["self", "number", "row", "key"] ["self", "number", "row"] (defScope s_Kept_put) := ⟨rfl, rfl, rfl, by decide +kernel, rfl, by decide +kernel, by decide +kernel⟩
abbrev s_Kept_drop : Stmt := inClass (topS 10) 2
theorem sc_Kept_drop : FnScope ["self", "number", "row"] ["self", "number", "row"] (defScope s_Kept_drop) := ⟨rfl, rfl, rfl, by decide +kernel, rfl, by decide +kernel, by decide +kernel⟩
abbrev s_Kept_numbers : Stmt := inClass (topS 10) 3
theorem sc_Kept_numbers : FnScope ["self", "key"] ["self"] (defScope s_Kept_numbers) := ⟨rfl, rfl, rfl, by decide +kernel, rfl, by decide +kernel, by decide +kernel⟩
abbrev s_Kept_stretch : Stmt := inClass (topS 10) 4
theorem sc_Kept_stretch : FnScope ["self", "wish", "first", "last", "start", "end", "key"] ["self", "wish"] (defScope s_Kept_stretch) := ⟨rfl, rfl, rfl, by decide +kernel, rfl, by decide +kernel, by decide +kernel⟩
abbrev s_Kept_covers : Stmt := inClass (topS 10) 5
theorem sc_Kept_covers : FnScope ["self", "wish", "triple"] ["self", "wish"] (defScope s_Kept_covers) := ⟨rfl, rfl, rfl, by decide +kernel, rfl, by decide +kernel, by decide +kernel⟩
abbrev s_Kept__key : Stmt := inClass (topS 10) 6
theorem sc_Kept__key : FnScope ["self", "number", "row", "column"] ["self", "number", "row"] (defScope s_Kept__key) := ⟨rfl, rfl, rfl, by decide +kernel, rfl, by decide +kernel, by decide +kernel⟩
abbrev s_l_whole : Stmt := topS 12
theorem sc_l_whole : FnScope ["_law_found"] ["_law_found"] (defScope s_l_whole) := ⟨rfl, rfl, rfl, by decide +kernel, rfl, by decide +kernel, by decide +kernel⟩
abbrev s_l_at : Stmt := topS 13
theorem sc_l_at : FnScope ["_law_script", "_law_k"] ["_law_script", "_law_k"] (defScope s_l_at) := ⟨rfl, rfl, rfl, by decide +kernel, rfl, by decide +kernel, by decide +kernel⟩
abbrev s_l_value : Stmt := topS 14
theorem sc_l_value : FnScope ["_law_cell"] ["_law_cell"] (defScope s_l_value) := ⟨rfl, rfl, rfl, by decide +kernel, rfl, by decide +kernel, by decide +kernel⟩
abbrev s_l_row : Stmt := topS 15
theorem sc_l_row : FnScope ["_law_cell", "_law_width", "_law_k"] ["_law_cell", "_law_width"] (defScope s_l_row) := ⟨rfl, rfl, rfl, by decide +kernel, rfl, by decide +kernel, by decide +kernel⟩
abbrev s_l_order : Stmt := topS 16
theorem sc_l_order : FnScope ["_law_cell", "_law_width", "_law_more", "_law_left", "_law_order_here", "_law_k"] ["_law_cell", "_law_width"] (defScope s_l_order) := ⟨rfl, rfl, rfl, by decide +kernel, rfl, by decide +kernel, by decide +kernel⟩
abbrev s_l_triple : Stmt := topS 17
theorem sc_l_triple : FnScope ["_law_cell", "_law_width", "_law_rows", "_law_column", "_law_low", "_law_high", "_law_near", "_law_way"] ["_law_cell", "_law_width", "_law_rows"] (defScope s_l_triple) := ⟨rfl, rfl, rfl, by decide +kernel, rfl, by decide +kernel, by decide +kernel⟩
abbrev s_l_ends : Stmt := topS 18
theorem sc_l_ends : FnScope ["_law_wish", "_law_column", "_law_low", "_law_high", "_law_one"] ["_law_wish", "_law_column"] (defScope s_l_ends) := ⟨rfl, rfl, rfl, by decide +kernel, rfl, by decide +kernel, by decide +kernel⟩
abbrev s_l_between : Stmt := topS 19
theorem sc_l_between : FnScope ["_law_value_here", "_law_pair"] ["_law_value_here", "_law_pair"] (defScope s_l_between) := ⟨rfl, rfl, rfl, by decide +kernel, rfl, by decide +kernel, by decide +kernel⟩
abbrev s_l_in_stretch : Stmt := topS 20
theorem sc_l_in_stretch : FnScope ["_law_row_here", "_law_columns", "_law_wish", "_law_column", "_law_pair"] ["_law_row_here", "_law_columns", "_law_wish"] (defScope s_l_in_stretch) := ⟨rfl, rfl, rfl, by decide +kernel, rfl, by decide +kernel, by decide +kernel⟩
abbrev s_l_ahead : Stmt := topS 21
theorem sc_l_ahead : FnScope ["_law_one", "_law_other", "_law_k"] ["_law_one", "_law_other"] (defScope s_l_ahead) := ⟨rfl, rfl, rfl, by decide +kernel, rfl, by decide +kernel, by decide +kernel⟩
abbrev s_l_in_order : Stmt := topS 22
theorem sc_l_in_order : FnScope ["_law_found", "_law_rows", "_law_columns", "_law_last", "_law_number", "_law_entry", "_law_column"] ["_law_found", "_law_rows", "_law_columns"] (defScope s_l_in_order) := ⟨rfl, rfl, rfl, by decide +kernel, rfl, by decide +kernel, by decide +kernel⟩
abbrev s_l_good : Stmt := topS 23
theorem sc_l_good : FnScope ["_law_kept", "_law_rows", "_law_columns", "_law_wish", "_law_handed", "_law_held", "_law_found", "_law_covers", "_law_due", "_law_one", "_law_number"] ["_law_kept", "_law_rows", "_law_columns", "_law_wish", "_law_handed", "_law_held"] (defScope s_l_good) := ⟨rfl, rfl, rfl, by decide +kernel, rfl, by decide +kernel, by decide +kernel⟩
abbrev s_l_all_good : Stmt := topS 24
theorem sc_l_all_good : FnScope ["_law_kept", "_law_rows", "_law_columns", "_law_wishes", "_law_held", "_law_handed", "_law_wish"] ["_law_kept", "_law_rows", "_law_columns", "_law_wishes", "_law_held"] (defScope s_l_all_good) := ⟨rfl, rfl, rfl, by decide +kernel, rfl, by decide +kernel, by decide +kernel⟩
abbrev s_law : Stmt := topS 25
theorem sc_law : FnScope ["_law_script", "_law_width", "_law_columns", "_law_size", "_law_rows", "_law_many", "_law_wish", "_law_wishes", "_law_other", "_law_kept", "_law_held", "_law_number", "_law_k", "_law_pair"] ["_law_script"] (defScope s_law) := ⟨rfl, rfl, rfl, by decide +kernel, rfl, by decide +kernel, by decide +kernel⟩

/-! ### the mathematics -/
theorem take_more {xs ys : List Int} {i : Nat} {x y : Int} (h : xs.take i = ys.take i) (hx : xs[i]? = some x) (hy : ys[i]? = some y) (e : x = y) : xs.take (i + 1) = ys.take (i + 1) := by
  rw [List.take_add_one, List.take_add_one, hx, hy, h, e]
theorem int_at {ns : List Int} {i : Nat} {x : V} (h : (ns.map V.int)[i]? = some x) : ∃ n, ns[i]? = some n ∧ x = .int n := by
  rw [List.getElem?_map] at h
  cases e : ns[i]? with
  | none => rw [e] at h; cases h
  | some n => rw [e] at h; exact ⟨n, rfl, (Option.some.inj h).symm⟩
def cell (ns : List Int) (k : Int) : Int := if k < ns.length then ns.getD k.toNat 0 else 0
def value (c : Int) : Int :=
  if c % 16 = 0 then 10 ^ 30 - c / 16 % 3 else if c % 16 = 1 then c / 16 % 3 - 10 ^ 30 else if c % 16 < 4 then c / 16 % 2003 - 1001 else if c % 16 < 6 then c / 16 % (2 * 10 ^ 30) - 10 ^ 30 else if c % 16 = 6 then c / 16 % 10 ^ 40 else if c % 16 < 10 then c / 16 % 60 - 20 else c / 16 % 3

theorem ahead_at : ∀ {xs ys : List Int} {i : Nat} {x y : Int}, xs.take i = ys.take i → xs[i]? = some x → ys[i]? = some y → ¬ x = y → ahead xs ys = decide (x < y)
  | [], _, i, x, y, _, h, _, _ => by simp at h
  | _ :: _, [], i, x, y, _, _, h, _ => by simp at h
  | a :: xs, b :: ys, 0, x, y, _, hx, hy, hn => by
    have e1 : a = x := Option.some.inj hx
    have e2 : b = y := Option.some.inj hy
    subst e1 e2
    show (if a = b then ahead xs ys else decide (a < b)) = _
    rw [if_neg hn]
  | a :: xs, b :: ys, i + 1, x, y, ht, hx, hy, hn => by
    rw [List.take_succ_cons, List.take_succ_cons] at ht
    obtain ⟨e1, e2⟩ := List.cons.inj ht
    show (if a = b then ahead xs ys else decide (a < b)) = _
    rw [if_pos e1]
    exact ahead_at e2 hx hy hn
theorem ahead_end : ∀ {xs ys : List Int} {i : Nat}, xs.take i = ys.take i → i ≤ xs.length → i ≤ ys.length → (xs.length ≤ i ∨ ys.length ≤ i) → ahead xs ys = decide ((xs.length : Int) < (ys.length : Int))
  | [], [], i, _, _, _, _ => rfl
  | [], b :: ys, i, _, _, _, _ => by
    show true = _
    rw [decide_eq_true]
    simp only [List.length_nil, List.length_cons]
    omega
  | a :: xs, [], i, _, _, _, _ => by
    show false = _
    rw [decide_eq_false]
    simp only [List.length_nil, List.length_cons]
    omega
  | a :: xs, b :: ys, 0, _, _, _, h => by simp at h
  | a :: xs, b :: ys, i + 1, ht, h1, h2, h3 => by
    rw [List.take_succ_cons, List.take_succ_cons] at ht
    obtain ⟨e1, e2⟩ := List.cons.inj ht
    simp only [List.length_cons] at h1 h2 h3
    show (if a = b then ahead xs ys else decide (a < b)) = _
    rw [if_pos e1, ahead_end e2 (by omega) (by omega) (by omega)]
    simp only [List.length_cons]
    exact decide_eq_decide.mpr (by omega)


/-! ### the promises -/
section
variable {P : Program} {w : World} {K : PySem.W.Frag} {mg : Str → Option Value} {base : Heap}
def RAt (K : PySem.W.Frag) : List V → Hp → V → Prop := fun vs H z => ∃ (a : Addr) (ns : List Int) (k : Int), vs = [.ref a, .int k] ∧ SqL K H a (ns.map V.int) ∧ 0 ≤ k ∧ z = .int (cell ns k)
def RValue : List V → Hp → V → Prop := fun vs _ z => ∃ c : Int, vs = [.int c] ∧ z = .int (value c)
def RAhead (K : PySem.W.Frag) : List V → Hp → V → Prop := fun vs H z => ∃ (a b : Addr) (xs ys : List Int), vs = [.ref a, .ref b] ∧ SqL K H a (xs.map V.int) ∧ SqL K H b (ys.map V.int) ∧ xs.length ≤ 1000 ∧ ys.length ≤ 1000 ∧ z = .bl (ahead xs ys)
structure Zs (mg : Str → Option Value) : Prop where
  zip : mg "zip" = none
  len : mg "len" = none
  sorted : mg "sorted" = none
  list : mg "list" = none
  range : mg "range" = none
  tuple : mg "tuple" = none
  all : mg "all" = none
  max : mg "max" = none
  min : mg "min" = none
  isinstance : mg "isinstance" = none
  int : mg "int" = none
  bool : mg "bool" = none

theorem ok_at {f : Addr} {fd : FuncData} {k : Nat} (F : Fun K "_law_at" "_law_at" s_l_at f fd) (Z : Zs mg) : FnOk P w K mg base CX0 (k + 1) f fd ["_law_script", "_law_k"] (SpR 2 (RAt K)) := by
  refine F.ok sc_l_at (fun vs H Q E h => h.1) (fun cdv A outer s H vs Q E hr h => ?_)
  obtain ⟨_, z, ⟨a, ns, k, rfl, hS, h0, rfl⟩, q⟩ := h
  refine ⟨_, (pss_cons (ps_if (pt_cmpR op_lt (pv 1) (pe_callB (id := "len") (r := rLenS K) c_len (by rfl) Z.len PySem.boot_len (pa_cons (pv 0) pa_nil)) (nomark _)) (pss_one (ps_ret (pe_ix (r := rIxL K) ix_list (pv 0) (pv 1) (fun _ _ => rfl)))) pss_nil)
      (pss_one (ps_ret pe_int))), ?_⟩
  try dsimp only [cx_K]
  refine Sv.at (sv_when (p := k < (ns.length : Int)) ?_ (fun hk => ?_) (fun hk => ?_))
  · repeat' walk_at "s"
  · refine sv_rq q ?_
    have e : cell ns k = ns.getD k.toNat 0 := if_pos hk
    rw [e]
    refine ev_op (ev_var rfl) (ev_var rfl) (rv_ixI hS h0 hk)
  · refine sv_rq q ?_
    have e : cell ns k = 0 := if_neg hk
    rw [e]
    exact ev_c
theorem ok_value {f : Addr} {fd : FuncData} {k : Nat} (F : Fun K "_law_value" "_law_value" s_l_value f fd) : FnOk P w K mg base CX0 (k + 1) f fd ["_law_cell"] (SpR 1 RValue) := by
  refine F.ok sc_l_value (fun vs H Q E h => h.1) (fun cdv A outer s H vs Q E hr h => ?_)
  obtain ⟨_, z, ⟨c, rfl, rfl⟩, q⟩ := h
  refine ⟨_, (pss_cons (ps_if (pt_cmpR op_eq (pe_op op_mod (pv 0) pe_int) pe_int (nomark _)) (pss_one (ps_ret (pe_op op_sub (pe_op op_pow pe_int pe_int) (pe_op op_mod (pe_op op_fdiv (pv 0) pe_int) pe_int)))) pss_nil)
      (pss_cons (ps_if (pt_cmpR op_eq (pe_op op_mod (pv 0) pe_int) pe_int (nomark _)) (pss_one (ps_ret (pe_op op_sub (pe_op op_mod (pe_op op_fdiv (pv 0) pe_int) pe_int) (pe_op op_pow pe_int pe_int)))) pss_nil)
      (pss_cons (ps_if (pt_cmpR op_lt (pe_op op_mod (pv 0) pe_int) pe_int (nomark _)) (pss_one (ps_ret (pe_op op_sub (pe_op op_mod (pe_op op_fdiv (pv 0) pe_int) pe_int) pe_int))) pss_nil)
      (pss_cons (ps_if (pt_cmpR op_lt (pe_op op_mod (pv 0) pe_int) pe_int (nomark _)) (pss_one (ps_ret (pe_op op_sub (pe_op op_mod (pe_op op_fdiv (pv 0) pe_int) (pe_op op_mul pe_int (pe_op op_pow pe_int pe_int))) (pe_op op_pow pe_int pe_int)))) pss_nil)
      (pss_cons (ps_if (pt_cmpR op_eq (pe_op op_mod (pv 0) pe_int) pe_int (nomark _)) (pss_one (ps_ret (pe_op op_mod (pe_op op_fdiv (pv 0) pe_int) (pe_op op_pow pe_int pe_int)))) pss_nil)
      (pss_cons (ps_if (pt_cmpR op_lt (pe_op op_mod (pv 0) pe_int) pe_int (nomark _)) (pss_one (ps_ret (pe_op op_sub (pe_op op_mod (pe_op op_fdiv (pv 0) pe_int) pe_int) pe_int))) pss_nil)
      (pss_one (ps_ret (pe_op op_mod (pe_op op_fdiv (pv 0) pe_int) pe_int))))))))), ?_⟩
  try dsimp only [cx_K]
  unfold value at q
  have t30 : (10 : Int) ^ (30 : Int).toNat = 10 ^ 30 := rfl
  have t40 : (10 : Int) ^ (40 : Int).toNat = 10 ^ 40 := rfl
  refine Sv.at (sv_when (p := c % 16 = 0) (by repeat' walk_at "s") (fun h => ?_) (fun h => ?_))
  · rw [if_pos h] at q
    exact sv_rq q (ev_eq (v := .int (10 ^ (30 : Int).toNat - c / 16 % 3)) (by repeat' walk_at "s") (by rw [t30]))
  rw [if_neg h] at q
  refine sv_when (p := c % 16 = 1) (by repeat' walk_at "s") (fun h => ?_) (fun h => ?_)
  · rw [if_pos h] at q
    exact sv_rq q (ev_eq (v := .int (c / 16 % 3 - 10 ^ (30 : Int).toNat)) (by repeat' walk_at "s") (by rw [t30]))
  rw [if_neg h] at q
  refine sv_when (p := c % 16 < 4) (by repeat' walk_at "s") (fun h => ?_) (fun h => ?_)
  · rw [if_pos h] at q
    exact sv_rq q (by repeat' walk_at "s")
  rw [if_neg h] at q
  refine sv_when (p := c % 16 < 6) (by repeat' walk_at "s") (fun h => ?_) (fun h => ?_)
  · rw [if_pos h] at q
    exact sv_rq q (ev_eq (v := .int (c / 16 % (2 * 10 ^ (30 : Int).toNat) - 10 ^ (30 : Int).toNat)) (by repeat' walk_at "s") (by rw [t30]))
  rw [if_neg h] at q
  refine sv_when (p := c % 16 = 6) (by repeat' walk_at "s") (fun h => ?_) (fun h => ?_)
  · rw [if_pos h] at q
    exact sv_rq q (ev_eq (v := .int (c / 16 % 10 ^ (40 : Int).toNat)) (by repeat' walk_at "s") (by rw [t40]))
  rw [if_neg h] at q
  refine sv_when (p := c % 16 < 10) (by repeat' walk_at "s") (fun h => ?_) (fun h => ?_)
  · rw [if_pos h] at q
    exact sv_rq q (by repeat' walk_at "s")
  rw [if_neg h] at q
  exact sv_rq q (by repeat' walk_at "s")
theorem ok_ahead {f : Addr} {fd : FuncData} {k : Nat} (F : Fun K "_law_ahead" "_law_ahead" s_l_ahead f fd) (Z : Zs mg) : FnOk P w K mg base CX0 (k + 1) f fd ["_law_one", "_law_other"] (SpR 2 (RAhead K)) := by
  refine F.ok sc_l_ahead (fun vs H Q E h => h.1) (fun cdv A outer s H vs Q E hr h => ?_)
  obtain ⟨_, z, ⟨a, b, xs, ys, rfl, hx, hy, lx, ly, rfl⟩, q⟩ := h
  refine ⟨_, (pss_cons (ps_for PassesOwn.never rfl (pi_range1 (by rfl) Z.range (pa_cons (pe_callB (id := "min") (c_min2 rfl) (by rfl) Z.min (by decide +kernel) (pa_cons (pe_callB (id := "len") (r := rLenS K) c_len (by rfl) Z.len PySem.boot_len (pa_cons (pv 0) pa_nil)) (pa_cons (pe_callB (id := "len") (r := rLenS K) c_len (by rfl) Z.len PySem.boot_len (pa_cons (pv 1) pa_nil)) pa_nil))) pa_nil)) (pg_name (i := 2) sc_l_ahead.nd rfl (Or.inl rfl)) (pss_one (ps_if (pt_cmpR op_ne (pe_ix (r := rIxL K) ix_list (pv 0) (pv 2) (fun _ _ => rfl)) (pe_ix (r := rIxL K) ix_list (pv 1) (pv 2) (fun _ _ => rfl)) (nomark _)) (pss_one (ps_ret (pe_cmpR op_lt (pe_ix (r := rIxL K) ix_list (pv 0) (pv 2) (fun _ _ => rfl)) (pe_ix (r := rIxL K) ix_list (pv 1) (pv 2) (fun _ _ => rfl)) (nomark _)))) pss_nil)))
      (pss_one (ps_ret (pe_cmpR op_lt (pe_callB (id := "len") (r := rLenS K) c_len (by rfl) Z.len PySem.boot_len (pa_cons (pv 0) pa_nil)) (pe_callB (id := "len") (r := rLenS K) c_len (by rfl) Z.len PySem.boot_len (pa_cons (pv 1) pa_nil)) (nomark _))))), ?_⟩
  try dsimp only [cx_K]
  refine Sv.at (sv_forR1 (n := if (ys.length : Int) < xs.length then ys.length else xs.length) (by repeat' walk_at "s") (by split <;> omega) (fun i σ' H' => H' = H ∧ (∃ y2, σ' = [some (.ref a), some (.ref b), y2]) ∧ xs.take i = ys.take i) ⟨rfl, ⟨none, rfl⟩, rfl⟩ ?_ ?_)
  · rintro i σ' H' hi ⟨rfl, ⟨y2, rfl⟩, ht⟩
    have h1 : i < xs.length := by split at hi <;> omega
    have h2 : i < ys.length := by split at hi <;> omega
    have hn : xs[i]? = some (xs.getD i 0) := by rw [List.getD_eq_getElem?_getD, List.getElem?_eq_getElem h1]; rfl
    have hm : ys[i]? = some (ys.getD i 0) := by rw [List.getD_eq_getElem?_getD, List.getElem?_eq_getElem h2]; rfl
    have r1 : RV (rIxL K) (.ref a) (.int (i : Int)) H' (.int (xs.getD i 0)) := rv_ixI hx (Int.natCast_nonneg _) (by omega)
    have r2 : RV (rIxL K) (.ref b) (.int (i : Int)) H' (.int (ys.getD i 0)) := rv_ixI hy (Int.natCast_nonneg _) (by omega)
    refine sv_if' (p := ¬ xs.getD i 0 = ys.getD i 0) (by repeat' walk_at "s") (fun hne => ?_) (fun he => sv_kn ⟨rfl, ⟨_, rfl⟩, take_more ht hn hm (Decidable.of_not_not he)⟩)
    rw [ahead_at ht hn hm hne] at q
    refine sv_rq q ?_
    repeat' walk_at "s"
  · rintro i σ' ⟨rfl, ⟨y2, rfl⟩, ht⟩
    rw [ahead_end ht (by split <;> omega) (by split <;> omega) (by split <;> omega)] at q
    refine sv_rq q ?_
    repeat' walk_at "s"
theorem spv_at {H : Hp} {a : Addr} {ns : List Int} {k : Int} (h : SqL K H a (ns.map V.int)) (h0 : 0 ≤ k) : SpV (SpR 2 (RAt K)) [.ref a, .int k] H (.int (cell ns k)) := spv rfl fun H1 e => ⟨a, ns, k, rfl, ex_l e h, h0, rfl⟩
theorem spv_value {H : Hp} {c : Int} : SpV (SpR 1 RValue) [.int c] H (.int (value c)) := spv rfl fun H1 e => ⟨c, rfl, rfl⟩
theorem spv_ahead {H : Hp} {a b : Addr} {xs ys : List Int} (h : SqL K H a (xs.map V.int)) (h2 : SqL K H b (ys.map V.int)) (l1 : xs.length ≤ 1000) (l2 : ys.length ≤ 1000) : SpV (SpR 2 (RAhead K)) [.ref a, .ref b] H (.bl (ahead xs ys)) :=
  spv rfl fun H1 e => ⟨a, b, xs, ys, rfl, ex_l e h, ex_l e h2, l1, l2, rfl⟩
def RWhole : List V → Hp → V → Prop := fun vs _ z => ∃ n : Int, vs = [.int n] ∧ z = .bl true
theorem spv_whole {H : Hp} {n : Int} : SpV (SpR 1 RWhole) [.int n] H (.bl true) := spv rfl fun H1 e => ⟨n, rfl, rfl⟩
theorem ok_whole {f : Addr} {fd : FuncData} {k : Nat} (F : Fun K "_law_whole" "_law_whole" s_l_whole f fd) (Z : Zs mg) : FnOk P w K mg base CX0 (k + 1) f fd ["_law_found"] (SpR 1 RWhole) := by
  refine F.ok sc_l_whole (fun vs H Q E h => h.1) (fun cdv A outer s H vs Q E hr h => ?_)
  obtain ⟨_, z, ⟨n, rfl, rfl⟩, q⟩ := h
  refine ⟨_, (pss_one (ps_ret (pe_and (pe_callB (id := "isinstance") (r := rIsi K) call_isi (by rfl) Z.isinstance (by decide +kernel) (pa_cons (pv 0) (pa_cons (pe_bltn (v := .ty "int") (by rfl) Z.int (by decide +kernel) rfl) pa_nil))) (pe_one (pe_not (pe_callB (id := "isinstance") (r := rIsi K) call_isi (by rfl) Z.isinstance (by decide +kernel) (pa_cons (pv 0) (pa_cons (pe_bltn (v := .ty "bool") (by rfl) Z.bool (by decide +kernel) rfl) pa_nil)))))))), ?_⟩
  try dsimp only [cx_K]
  refine Sv.at (sv_rq q ?_)
  exact ep_and (p := True) (q := ¬ False) (ev_isi (ev_var rfl) (fun _ _ => .base (.int _)) (kit_ty (by decide +kernel))) fun _ => ep_not (p := False) (ev_isi (ev_var rfl) (fun _ _ => .base (.int _)) (kit_ty (by decide +kernel)))

local macro_rules | `(tactic| walk_at "s") => `(tactic| first
  | ((with_reducible apply spv_at); (walk_at "s"); (first | decide | omega))
  | (with_reducible exact spv_value)
  | (with_reducible exact spv_whole))
def rowM (c w : Int) : List Int := (List.range w.toNat).map fun k : Nat => value ((c * 48271 + 7919 * k) ^ 3 / 11)
theorem rowM_len (c w : Int) : (rowM c w).length = w.toNat := by
  unfold rowM
  rw [List.length_map, List.length_range]
def RRow : List V → Hp → List V → Prop := fun vs _ xs => ∃ c w : Int, vs = [.int c, .int w] ∧ Bits 1048700 c ∧ 0 ≤ w ∧ w ≤ 6 ∧ xs = (rowM c w).map V.int
theorem spl_row {H : Hp} {c w : Int} (h : Bits 1048700 c) (h0 : 0 ≤ w) (h1 : w ≤ 6) : SpL (SpN 2 RRow) [.int c, .int w] H ((rowM c w).map V.int) := spl rfl fun H1 e => ⟨c, w, rfl, h, h0, h1, rfl⟩
theorem ok_row {f : Addr} {fd : FuncData} (F : Fun K "_law_row" "_law_row" s_l_row f fd) (Z : Zs mg) (c_l_value : Cl P w K mg base CX0 1 "_law_value" (SpR 1 RValue)) : FnOk P w K mg base CX0 2 f fd ["_law_cell", "_law_width"] (SpN 2 RRow) := by
  refine F.ok sc_l_row (fun vs H Q E h => h.1) (fun cdv A outer s H vs Q E hr h => ?_)
  obtain ⟨_, z, ⟨c, wd, rfl, hb, h0, h1, rfl⟩, q⟩ := h
  refine ⟨_, (pss_one (ps_ret (pe_lc (own := [("_law_k", 2)]) (g := gName 2) (tt := tYes) (by rfl) sc_l_row.nd (pi_range1 (by rfl) Z.range (pa_cons (pv 1) pa_nil)) (blkOk_by (own := [("_law_k", 2)]) (N := ["_law_cell", "_law_width", "_law_k"]) (sc := defScope s_l_row) (by decide +kernel)) (fun _ _ _ _ _ => (pg_name (i := 2) sc_l_row.nd rfl (Or.inl rfl))) (fun _ _ _ _ _ => pts_nil) (fun _ _ _ _ _ => (pe_cl c_l_value hr (by decide) pass0 (by rfl) (pa_cons (pe_op op_fdiv (pe_op op_powB (pe_op op_add (pe_op op_mul (pv 0) pe_int) (pe_op op_mul pe_int (pv 2))) pe_int) pe_int) pa_nil)))))), ?_⟩
  try dsimp only [cx_K]
  refine Sv.at (sv_rqL q (el_lcI (n := wd) (fun k : Nat => value ((c * 48271 + 7919 * k) ^ 3 / 11)) (by repeat' walk_at "s") (by omega) (fun _ => rfl) (fun i hi => ?_)))
  have b1 : Bits 1048717 (c * 48271 + 7919 * (i : Int)) := by
    have x1 : Bits 1048716 (c * 48271) := hb.mul (m := 16) (Bits.nat (k := 48271) (by decide))
    have x2 : Bits 1048716 (7919 * (i : Int)) := by
      have x3 : Bits 16 (((7919 * i : Nat)) : Int) := Bits.nat (by
        have : i < 6 := by omega
        have e : (2 : Nat) ^ 16 = 65536 := by decide
        rw [e]
        omega)
      rw [Int.natCast_mul] at x3
      exact x3.mono (by decide)
    exact x1.add x2
  have hp := rv_powB (H := H) b1 (by decide)
  refine ev_cl (vs := [.int ((c * 48271 + 7919 * (i : Int)) ^ 3 / 11)]) (ea_cons (ev_op (ev_op ?_ ev_c hp) ev_c (rv_div (by decide) (by decide))) ea_nil) spv_value
  repeat' walk_at "s"

/-- the columns picked one by one -/
def pick : Nat → Int → List Int → List Int
  | 0, _, _ => []
  | n + 1, m, left => left.getD (m % (left.length : Int)).toNat 0 :: pick n (m / 3) (left.eraseIdx (m % (left.length : Int)).toNat)
def leftAt : Nat → Int → List Int → List Int
  | 0, _, left => left
  | n + 1, m, left => leftAt n (m / 3) (left.eraseIdx (m % (left.length : Int)).toNat)
def moreAt : Nat → Int → Int
  | 0, m => m
  | n + 1, m => moreAt n (m / 3)
theorem moreAt_succ : ∀ (n : Nat) (m : Int), moreAt (n + 1) m = moreAt n m / 3
  | 0, m => rfl
  | n + 1, m => moreAt_succ n (m / 3)
theorem leftAt_succ : ∀ (n : Nat) (m : Int) (left : List Int), leftAt (n + 1) m left = (leftAt n m left).eraseIdx (moreAt n m % ((leftAt n m left).length : Int)).toNat
  | 0, m, left => rfl
  | n + 1, m, left => leftAt_succ n (m / 3) _
theorem pick_succ : ∀ (n : Nat) (m : Int) (left : List Int), pick (n + 1) m left = pick n m left ++ [(leftAt n m left).getD (moreAt n m % ((leftAt n m left).length : Int)).toNat 0]
  | 0, m, left => rfl
  | n + 1, m, left => by
    show _ :: pick (n + 1) (m / 3) _ = _ :: pick n (m / 3) _ ++ _
    rw [pick_succ n (m / 3), List.cons_append]
    rfl
theorem leftAt_len : ∀ (n : Nat) (m : Int) (left : List Int), n ≤ left.length → (leftAt n m left).length = left.length - n
  | 0, m, left, _ => rfl
  | n + 1, m, left, h => by
    have hp : 0 < (left.length : Int) := by omega
    have m0 : 0 ≤ m % (left.length : Int) := Int.emod_nonneg _ (by omega)
    have m1 : m % (left.length : Int) < left.length := Int.emod_lt_of_pos _ hp
    have e : (left.eraseIdx (m % (left.length : Int)).toNat).length = left.length - 1 := List.length_eraseIdx_of_lt (by omega)
    show (leftAt n (m / 3) _).length = _
    rw [leftAt_len n (m / 3) _ (by omega), e]
    omega
theorem pick_mem : ∀ (n : Nat) (m : Int) (left : List Int), n ≤ left.length → ∀ x ∈ pick n m left, x ∈ left
  | 0, m, left, _, x, h => by cases h
  | n + 1, m, left, h, x, hx => by
    have hp : 0 < (left.length : Int) := by omega
    have m0 : 0 ≤ m % (left.length : Int) := Int.emod_nonneg _ (by omega)
    have m1 : m % (left.length : Int) < left.length := Int.emod_lt_of_pos _ hp
    have e : (left.eraseIdx (m % (left.length : Int)).toNat).length = left.length - 1 := List.length_eraseIdx_of_lt (by omega)
    rcases List.mem_cons.mp hx with e1 | hx
    · rw [e1, List.getD_eq_getElem?_getD, List.getElem?_eq_getElem (by omega)]
      exact List.getElem_mem _
    · exact List.eraseIdx_subset (pick_mem n (m / 3) _ (by omega) x hx)
theorem pick_nodup : ∀ (n : Nat) (m : Int) (left : List Int), n ≤ left.length → left.Nodup → (pick n m left).Nodup
  | 0, m, left, _, _ => List.nodup_nil
  | n + 1, m, left, h, nd => by
    have hp : 0 < (left.length : Int) := by omega
    have m0 : 0 ≤ m % (left.length : Int) := Int.emod_nonneg _ (by omega)
    have m1 : m % (left.length : Int) < left.length := Int.emod_lt_of_pos _ hp
    have e : (left.eraseIdx (m % (left.length : Int)).toNat).length = left.length - 1 := List.length_eraseIdx_of_lt (by omega)
    show List.Nodup (_ :: pick n (m / 3) _)
    refine List.nodup_cons.mpr ⟨fun hx => ?_, pick_nodup n (m / 3) _ (by omega) (nd.sublist (List.eraseIdx_sublist ..))⟩
    have hy := pick_mem n (m / 3) _ (by omega) _ hx
    have hi : (m % (left.length : Int)).toNat < left.length := by omega
    rw [List.getD_eq_getElem?_getD, List.getElem?_eq_getElem hi] at hy
    have hy2 : left[(m % (left.length : Int)).toNat] ∈ left.eraseIdx (m % (left.length : Int)).toNat := hy
    obtain ⟨j, hj, hij⟩ := List.mem_eraseIdx_iff_getElem.mp hy2
    exact hij.1 ((List.getElem_inj nd).mp hij.2)
def colsOf (w : Int) : List Int := (List.range w.toNat).map fun i : Nat => (i : Int)
def orderM (c w : Int) : List Int := pick (1 + c % w).toNat (c * 48271 % 10007) (colsOf w)
theorem cols_len (w : Int) : (colsOf w).length = w.toNat := by
  unfold colsOf
  rw [List.length_map, List.length_range]
theorem order_ok {c w : Int} (h : 1 ≤ w) : (1 + c % w).toNat ≤ (colsOf w).length := by
  rw [cols_len]
  have := Int.emod_lt_of_pos c (show 0 < w by omega)
  omega
theorem pick_len : ∀ (n : Nat) (m : Int) (left : List Int), (pick n m left).length = n
  | 0, _, _ => rfl
  | n + 1, m, left => by
    show (pick n (m / 3) _).length + 1 = n + 1
    rw [pick_len n]
theorem order_len {c w : Int} (h : 1 ≤ w) : 0 < (orderM c w).length ∧ (orderM c w).length ≤ w.toNat := by
  have e : (orderM c w).length = (1 + c % w).toNat := pick_len _ _ _
  have h1 := order_ok (c := c) h
  rw [cols_len] at h1
  have := Int.emod_nonneg c (show w ≠ 0 by omega)
  rw [e]
  omega
theorem order_in {c w : Int} (h : 1 ≤ w) : ∀ x ∈ orderM c w, 0 ≤ x ∧ x < w := fun x hx => by
  have hm := pick_mem _ _ _ (order_ok h) x hx
  obtain ⟨i, hi, rfl⟩ := List.mem_map.mp hm
  have := List.mem_range.mp hi
  omega
theorem order_nodup {c w : Int} (h : 1 ≤ w) : (orderM c w).Nodup := pick_nodup _ _ _ (order_ok h) (by
  unfold colsOf
  exact List.Pairwise.map _ (fun a b hab h => hab (Int.ofNat.inj h)) List.nodup_range)
def ROrder : List V → Hp → (V → Hp → Prop) → Prop := fun vs _ P => ∃ c w : Int, vs = [.int c, .int w] ∧ 1 ≤ w ∧ w ≤ 6 ∧ P = fun v N => ∃ p, v = .ref p ∧ N p = some (.tup ((orderM c w).map V.int))
theorem spn_order {H : Hp} {c w : Int} (h0 : 1 ≤ w) (h1 : w ≤ 6) : SpNP (SpNn 2 ROrder) [.int c, .int w] H fun v N => ∃ p, v = .ref p ∧ N p = some (.tup ((orderM c w).map V.int)) := spn rfl fun H1 e => ⟨c, w, rfl, h0, h1, rfl⟩
theorem ok_order {f : Addr} {fd : FuncData} {k : Nat} (F : Fun K "_law_order" "_law_order" s_l_order f fd) (Z : Zs mg) : FnOk P w K mg base CX0 (k + 1) f fd ["_law_cell", "_law_width"] (SpNn 2 ROrder) := by
  refine F.ok sc_l_order (fun vs H Q E h => h.1) (fun cdv A outer s H vs Q E hr h => ?_)
  obtain ⟨_, z, ⟨c, wd, rfl, h0, h1, rfl⟩, q⟩ := h
  refine ⟨_, (pss_cons (ps_set (i := 2) sc_l_order.nd rfl (Or.inl rfl) (pe_op op_mod (pe_op op_mul (pv 0) pe_int) pe_int))
      (pss_cons (ps_set (i := 3) sc_l_order.nd rfl (Or.inl rfl) (pe_listRg rfl (by rfl) Z.list (prg_1 (by rfl) Z.range (pv 1))))
      (pss_cons (ps_set (i := 4) sc_l_order.nd rfl (Or.inl rfl) (pe_lst pa_nil))
      (pss_cons (ps_for PassesOwn.never rfl (pi_range1 (by rfl) Z.range (pa_cons (pe_op op_add pe_int (pe_op op_mod (pv 0) (pv 1))) pa_nil)) (pg_name (i := 5) sc_l_order.nd rfl (Or.inl rfl)) (pss_cons (ps_expr (pe_bm PySem.F.plainAttrs_list PySem.F.slot_list_append PySem.F.type_list_append mt_append (pv 4) (pa_cons (pe_bm PySem.F.plainAttrs_list PySem.F.slot_list_pop PySem.F.type_list_pop mt_popAt (pv 3) (pa_cons (pe_op op_mod (pv 2) (pe_callB (id := "len") (r := rLenS K) c_len (by rfl) Z.len PySem.boot_len (pa_cons (pv 3) pa_nil))) pa_nil)) pa_nil))) (pss_one (ps_set (i := 2) sc_l_order.nd rfl (Or.inl rfl) (pe_op op_fdiv (pv 2) pe_int)))))
      (pss_one (ps_ret (pe_callTy (T := "tuple") (r := rTupS K) c_tuple (by rfl) Z.tuple (by decide +kernel) (pa_cons (pv 4) pa_nil)))))))), ?_⟩
  try dsimp only [cx_K]
  refine Sv.at (sv_asg (v := .int (c * 48271 % 10007)) (by repeat' walk_at "s") ?_)
  refine sv_asgL (el_rg (n := wd) (ev_var rfl) (by omega) (by omega)) fun pl H1 n1 e1 hl1 => ?_
  refine sv_asgL (xs := []) (el_lst ea_nil (Nat.zero_le _)) fun ph H2 n2 e2 hh2 => ?_
  have nph : ph ≠ pl := fun z => by
    rw [z, hl1] at n2
    cases n2
  have m0 := Int.emod_nonneg c (show wd ≠ 0 by omega)
  have m1 := Int.emod_lt_of_pos c (show 0 < wd by omega)
  refine sv_forR1 (n := 1 + c % wd) ?_ (by omega) (fun i σ' H' => ∃ y, σ' = [some (.int c), some (.int wd), some (.int (moreAt i (c * 48271 % 10007))), some (.ref pl), some (.ref ph), y] ∧ Ex H H' ∧ H' pl = some (.lst ((leftAt i (c * 48271 % 10007) (colsOf wd)).map V.int)) ∧ H' ph = some (.lst ((pick i (c * 48271 % 10007) (colsOf wd)).map V.int))) ⟨none, rfl, e1.trans e2, e2 _ _ hl1, hh2⟩ ?_ ?_
  · exact ea_cons (ev_op ev_c (ev_op (ev_var rfl) (ev_var rfl) (rv_mod (by omega))) rv_I0) ea_nil
  · rintro i σ' H' hi ⟨y, rfl, e, hl, hh⟩
    have hll : (leftAt i (c * 48271 % 10007) (colsOf wd)).length = wd.toNat - i := by
      rw [leftAt_len _ _ _ (by rw [cols_len]; omega), cols_len]
    have hpl := pick_len i (c * 48271 % 10007) (colsOf wd)
    have ql : SqL K H' pl ((leftAt i (c * 48271 % 10007) (colsOf wd)).map V.int) := sq_of hl
    have es := leftAt_succ i (c * 48271 % 10007) (colsOf wd)
    have ep := pick_succ i (c * 48271 % 10007) (colsOf wd)
    have em := moreAt_succ i (c * 48271 % 10007)
    generalize leftAt i (c * 48271 % 10007) (colsOf wd) = lf at hl hll ql es ep
    generalize pick i (c * 48271 % 10007) (colsOf wd) = pk at hh hpl ep
    generalize moreAt i (c * 48271 % 10007) = mo at es ep em
    have k0 : 0 ≤ mo % (lf.length : Int) := Int.emod_nonneg _ (by omega)
    have k1 : mo % (lf.length : Int) < lf.length := Int.emod_lt_of_pos _ (by omega)
    refine sv_appPop (i := mo % (lf.length : Int)) (y := .int (lf.getD (mo % (lf.length : Int)).toNat 0)) hh hl nph (ev_var rfl) (ev_var rfl) (ev_op (ev_var rfl) (ev_lenI (ev_var rfl) ql) (rv_mod (by omega))) k0 (by rw [List.length_map]; exact k1) ?_ (by rw [List.length_map]; omega) (by rw [List.length_map]; omega) ?_
    · rw [List.getElem?_map, List.getElem?_eq_getElem (by omega), List.getD_eq_getElem?_getD, List.getElem?_eq_getElem (by omega)]
      rfl
    · intro H3 e3 hh3 hl3
      refine sv_asg' (v := .int (mo / 3)) (by repeat' walk_at "s") (sv_kn ⟨some (.int (i : Int)), ?_, fun a o ha => e3 a o ?_ ?_ (e a o ha), ?_, ?_⟩)
      · rw [em]
        rfl
      · exact ne_of_none ha (fresh_back e1 n2)
      · exact ne_of_none ha n1
      · rw [hl3, es, map_erase]
      · rw [hh3, ep, List.map_append]
        rfl
  · rintro σ' H' ⟨y, rfl, e, hl, hh⟩
    have qh : SqL K H' ph ((orderM c wd).map V.int) := sq_of hh
    exact sv_rqN (retN_mono e q) (EvU.n (eu_tuple (ev_var rfl) qh))

def RTripleW (K : PySem.W.Frag) : List V → Hp → (V → Hp → Prop) → Prop := fun vs H P => ∃ (c w : Int) (a : Addr) (ws : List V) (rss : List (List Int)), vs = [.int c, .int w, .ref a] ∧ Bits 1048700 c ∧ 1 ≤ w ∧ w ≤ 6 ∧ SqL K H a ws ∧ Rw K H ws rss ∧ rss.length ≤ 200 ∧ (∀ r ∈ rss, r.length = w.toNat) ∧ P = fun v N => ∃ p t, v = .ref p ∧ N p = some (.tup (tv t)) ∧ 0 ≤ t.c ∧ t.c < w
theorem spn_triple {H : Hp} {c w : Int} {a : Addr} {ws : List V} {rss : List (List Int)} (hb : Bits 1048700 c) (h0 : 1 ≤ w) (h1 : w ≤ 6) (ha : SqL K H a ws) (hr : Rw K H ws rss) (hl : rss.length ≤ 200) (hw : ∀ r ∈ rss, r.length = w.toNat) :
    SpNP (SpNn 3 (RTripleW K)) [.int c, .int w, .ref a] H fun v N => ∃ p t, v = .ref p ∧ N p = some (.tup (tv t)) ∧ 0 ≤ t.c ∧ t.c < w := spn rfl fun H1 e => ⟨c, w, a, ws, rss, rfl, hb, h0, h1, ex_l e ha, hr.mono e, hl, hw, rfl⟩
theorem ok_triple {f : Addr} {fd : FuncData} (F : Fun K "_law_triple" "_law_triple" s_l_triple f fd) (Z : Zs mg) (c_l_value : Cl P w K mg base CX0 1 "_law_value" (SpR 1 RValue)) : FnOk P w K mg base CX0 2 f fd ["_law_cell", "_law_width", "_law_rows"] (SpNn 3 (RTripleW K)) := by
  refine F.ok sc_l_triple (fun vs H Q E h => h.1) (fun cdv A outer s H vs Q E hr h => ?_)
  obtain ⟨_, z, ⟨c, wd, a, ws, rss, rfl, hb, h0, h1, ha, hR, hl, hw, rfl⟩, q⟩ := h
  refine ⟨_, (pss_cons (ps_set (i := 3) sc_l_triple.nd rfl (Or.inl rfl) (pe_op op_mod (pe_op op_fdiv (pv 0) pe_int) (pv 1)))
      (pss_cons (ps_set (i := 4) sc_l_triple.nd rfl (Or.inl rfl) (pe_cl c_l_value hr (by decide) pass0 (by rfl) (pa_cons (pe_op op_fdiv (pe_op op_powB (pe_op op_add (pe_op op_mul (pv 0) pe_int) pe_int) pe_int) pe_int) pa_nil)))
      (pss_cons (ps_set (i := 5) sc_l_triple.nd rfl (Or.inl rfl) (pe_cl c_l_value hr (by decide) pass0 (by rfl) (pa_cons (pe_op op_fdiv (pe_op op_powB (pe_op op_add (pe_op op_mul (pv 0) pe_int) pe_int) pe_int) pe_int) pa_nil)))
      (pss_cons (ps_set (i := 6) sc_l_triple.nd rfl (Or.inl rfl) (pe_op op_mod (pe_op op_mul (pv 0) pe_int) pe_int))
      (pss_cons (ps_if (PW.pt (pw_and (pt_cmpR op_gt (pe_op op_mod (pv 6) pe_int) pe_int (nomark _)) (pw_and1 (pt_cmpR op_gt (pe_callB (id := "len") (r := rLenS K) c_len (by rfl) Z.len PySem.boot_len (pa_cons (pv 2) pa_nil)) pe_int (nomark _))))) (pss_one (ps_set (i := 4) sc_l_triple.nd rfl (Or.inl rfl) (pe_op op_sub (pe_op op_add (pe_ix (r := rIxL K) ix_list (pe_ix (r := rIxL K) ix_list (pv 2) (pe_op op_mod (pe_op op_fdiv (pv 6) pe_int) (pe_callB (id := "len") (r := rLenS K) c_len (by rfl) Z.len PySem.boot_len (pa_cons (pv 2) pa_nil))) (fun _ _ => rfl)) (pv 3) (fun _ _ => rfl)) (pe_op op_mod (pe_op op_fdiv (pv 6) pe_int) pe_int)) pe_int))) pss_nil)
      (pss_cons (ps_set (i := 7) sc_l_triple.nd rfl (Or.inl rfl) (pe_ix (r := rIxL K) ix_list (pe_lst (pa_cons pe_int (pa_cons pe_int (pa_cons pe_int (pa_cons pe_int (pa_cons pe_int (pa_cons pe_int (pa_cons pe_int (pa_cons pe_int pa_nil))))))))) (pe_op op_mod (pv 0) pe_int) (fun _ _ => rfl)))
      (pss_cons (ps_if (pt_cmpR op_eq (pv 7) pe_int (nomark _)) (pss_one (ps_ret (pe_tup (pa_cons (pv 3) (pa_cons (pv 4) (pa_cons pe_non pa_nil)))))) pss_nil)
      (pss_cons (ps_if (pt_cmpR op_eq (pv 7) pe_int (nomark _)) (pss_one (ps_ret (pe_tup (pa_cons (pv 3) (pa_cons pe_non (pa_cons (pv 4) pa_nil)))))) pss_nil)
      (pss_cons (ps_if (pt_cmpR op_eq (pv 7) pe_int (nomark _)) (pss_one (ps_ret (pe_tup (pa_cons (pv 3) (pa_cons pe_non (pa_cons pe_non pa_nil)))))) pss_nil)
      (pss_cons (ps_if (PW.pt (pw_and (pt_cmpR op_eq (pv 7) pe_int (nomark _)) (pw_and1 (pt_cmpR op_gt (pe_op op_mod (pe_op op_fdiv (pv 6) pe_int) pe_int) pe_int (nomark _))))) (pss_one (ps_ret (pe_tup (pa_cons (pv 3) (pa_cons (pv 4) (pa_cons (pe_op op_add (pv 4) (pe_op op_mod (pe_op op_fdiv (pv 6) pe_int) pe_int)) pa_nil)))))) pss_nil)
      (pss_cons (ps_if (pt_cmpR op_eq (pv 7) pe_int (nomark _)) (pss_one (ps_ret (pe_tup (pa_cons (pv 3) (pa_cons (pv 4) (pa_cons (pv 5) pa_nil)))))) pss_nil)
      (pss_one (ps_ret (pe_tup (pa_cons (pv 3) (pa_cons (pv 4) (pa_cons (pv 4) pa_nil))))))))))))))))), ?_⟩
  try dsimp only [cx_K]
  have m0 : 0 ≤ c / 8 % wd := Int.emod_nonneg _ (by omega)
  have m1 : c / 8 % wd < wd := Int.emod_lt_of_pos _ (by omega)
  have b1 : Bits 1048717 (c * 48271) := (hb.mul (m := 16) (Bits.nat (k := 48271) (by decide))).mono (by decide)
  have p1 : RV (rI CPowB fun i j => .int (i ^ j.toNat)) (.int (c * 48271 + 1)) (.int 3) H (.int ((c * 48271 + 1) ^ 3)) := rv_powB (H := H) (b1.add ((Bits.nat (n := 1) (k := 1) (by decide)).mono (by decide))) (by decide)
  have p2 : RV (rI CPowB fun i j => .int (i ^ j.toNat)) (.int (c * 48271 + 2)) (.int 3) H (.int ((c * 48271 + 2) ^ 3)) := rv_powB (H := H) (b1.add ((Bits.nat (n := 2) (k := 2) (by decide)).mono (by decide))) (by decide)
  have hln : ws.length = rss.length := hR.1
  refine Sv.at (sv_asg (v := .int (c / 8 % wd)) (ev_op (ev_op (ev_var rfl) ev_c (rv_div (by decide) (by decide))) (ev_var rfl) (rv_mod (by omega))) ?_)
  generalize c / 8 % wd = col at m0 m1
  refine sv_asg (ev_cl (vs := [.int ((c * 48271 + 1) ^ 3 / 11)]) (ea_cons (ev_op (ev_op ?_ ev_c p1) ev_c (rv_div (by decide) (by decide))) ea_nil) spv_value) ?_
  · repeat' walk_at "s"
  generalize value ((c * 48271 + 1) ^ 3 / 11) = lo0
  refine sv_asg (ev_cl (vs := [.int ((c * 48271 + 2) ^ 3 / 11)]) (ea_cons (ev_op (ev_op ?_ ev_c p2) ev_c (rv_div (by decide) (by decide))) ea_nil) spv_value) ?_
  · repeat' walk_at "s"
  generalize value ((c * 48271 + 2) ^ 3 / 11) = hi0
  refine sv_asg (v := .int (c * 48271 % 90001)) (by repeat' walk_at "s") ?_
  generalize c * 48271 % 90001 = near
  refine sv_ifsetI (p := near % 3 > 0 ∧ (rss.length : Int) > 0) (m := lo0) ?_ (fun hp => ?_) rfl fun lo => ?_
  · have g := ev_lenL (K := K) (σ := [some (.int c), some (.int wd), some (.ref a), some (.int col), some (.int lo0), some (.int hi0), some (.int near), none]) (ev_var (i := 2) rfl) ha
    rw [hln] at g
    exact tp_and (by repeat' walk_at "s") fun _ => tp_cmp (ev_op g ev_c rv_I0)
  · have k0 : 0 ≤ near / 3 % (rss.length : Int) := Int.emod_nonneg _ (by omega)
    have k1 : near / 3 % (rss.length : Int) < rss.length := Int.emod_lt_of_pos _ hp.2
    obtain ⟨i, hi⟩ := Int.eq_ofNat_of_zero_le k0
    have hi2 : i < rss.length := by omega
    obtain ⟨q1, hq, hs⟩ := hR.2 i _ (List.getElem?_eq_getElem hi2)
    have hlr := hw _ (List.getElem_mem hi2)
    have g := ev_lenL (K := K) (σ := [some (.int c), some (.int wd), some (.ref a), some (.int col), some (.int lo0), some (.int hi0), some (.int near), none]) (ev_var (i := 2) rfl) ha
    rw [hln] at g
    exact ⟨_, ev_op (ev_op (ev_op (ev_op (ev_var rfl) (ev_op (ev_op (ev_var rfl) ev_c (rv_div (by decide) (by decide))) g (rv_mod (by omega))) (rv_ixL ha (by rw [hi]; exact atI_nat hq))) (ev_var rfl) (rv_ixI hs m0 (by omega))) (ev_op (ev_op (ev_var rfl) ev_c (rv_div (by decide) (by decide))) ev_c (rv_mod (by decide))) rv_I0) ev_c rv_I0⟩
  have hway : ∃ way : Int, Ev (tOp (rIxL K) (tLst (tCons (tC (.int 0)) (tCons (tC (.int 0)) (tCons (tC (.int 0)) (tCons (tC (.int 1)) (tCons (tC (.int 2)) (tCons (tC (.int 3)) (tCons (tC (.int 4)) (tCons (tC (.int 0)) tNil))))))))) (tOp (rI (fun _ j => 0 < j) fun i j => .int (i % j)) (tVar 0) (tC (.int 8)))) [some (.int c), some (.int wd), some (.ref a), some (.int col), some (.int lo), some (.int hi0), some (.int near), none] H (.int way) := by
    refine ⟨_, ev_opL (xs := [0, 0, 0, 1, 2, 3, 4, 0].map V.int) (el_lst ?_ (by simp)) (ev_op (ev_var rfl) ev_c (rv_mod (by decide))) fun p H2 e2 hp => rv_ixI (sq_of hp) (by omega) (by simp only [List.length_cons, List.length_nil]; omega)⟩
    exact ea_cons ev_c (ea_cons ev_c (ea_cons ev_c (ea_cons ev_c (ea_cons ev_c (ea_cons ev_c (ea_cons ev_c (ea_cons ev_c ea_nil)))))))
  obtain ⟨way, hway⟩ := hway
  refine sv_asg hway ?_
  have fin : ∀ (l h : Option Int) (te : TE) (σ : L2.St), EvU te σ H (tv ⟨col, l, h⟩) → EvN te σ H fun v N => ∃ p t, v = .ref p ∧ N p = some (.tup (tv t)) ∧ 0 ≤ t.c ∧ t.c < wd := fun l h te σ u => (EvU.n u).imp fun v N ⟨p, e1, e2⟩ => ⟨p, ⟨col, l, h⟩, e1, e2, m0, m1⟩
  refine sv_when (p := way = 1) (by repeat' walk_at "s") (fun _ => sv_rqN q (fin (some lo) none _ _ (eu_tup (vs := tv ⟨col, some lo, none⟩) (ea_cons (ev_var rfl) (ea_cons (ev_var rfl) (ea_cons ev_c ea_nil))) (by simp [tv])))) (fun _ => ?_)
  refine sv_when (p := way = 2) (by repeat' walk_at "s") (fun _ => sv_rqN q (fin none (some lo) _ _ (eu_tup (vs := tv ⟨col, none, some lo⟩) (ea_cons (ev_var rfl) (ea_cons ev_c (ea_cons (ev_var rfl) ea_nil))) (by simp [tv])))) (fun _ => ?_)
  refine sv_when (p := way = 3) (by repeat' walk_at "s") (fun _ => sv_rqN q (fin none none _ _ (eu_tup (vs := tv ⟨col, none, none⟩) (ea_cons (ev_var rfl) (ea_cons ev_c (ea_cons ev_c ea_nil))) (by simp [tv])))) (fun _ => ?_)
  refine sv_when (p := way = 4 ∧ near / 27 % 3 > 0) (by repeat' walk_at "s") (fun _ => sv_rqN q (fin (some lo) (some (lo + near / 81 % 4)) _ _ (eu_tup (vs := tv ⟨col, some lo, some (lo + near / 81 % 4)⟩) (ea_cons (ev_var rfl) (ea_cons (ev_var rfl) (ea_cons ?_ ea_nil))) (by simp [tv])))) (fun _ => ?_)
  · show Ev _ _ _ (.int (lo + near / 81 % 4))
    repeat' walk_at "s"
  refine sv_when (p := way = 4) (by repeat' walk_at "s") (fun _ => sv_rqN q (fin (some lo) (some hi0) _ _ (eu_tup (vs := tv ⟨col, some lo, some hi0⟩) (ea_cons (ev_var rfl) (ea_cons (ev_var rfl) (ea_cons (ev_var rfl) ea_nil))) (by simp [tv])))) (fun _ => ?_)
  exact sv_rqN q (fin (some lo) (some lo) _ _ (eu_tup (vs := tv ⟨col, some lo, some lo⟩) (ea_cons (ev_var rfl) (ea_cons (ev_var rfl) (ea_cons (ev_var rfl) ea_nil))) (by simp [tv])))

def REnds (K : PySem.W.Frag) : List V → Hp → (V → Hp → Prop) → Prop := fun vs H P => ∃ (a : Addr) (ws : List V) (ts : List Tri) (c : Int), vs = [.ref a, .int c] ∧ SqL K H a ws ∧ Wt K H ws ts ∧ P = fun v N => ∃ p, v = .ref p ∧ N p = some (.tup [ov (endLo c ts), ov (endHi c ts)])
theorem spn_ends {H : Hp} {a : Addr} {ws : List V} {ts : List Tri} {c : Int} (h1 : SqL K H a ws) (h2 : Wt K H ws ts) : SpNP (SpNn 2 (REnds K)) [.ref a, .int c] H fun v N => ∃ p, v = .ref p ∧ N p = some (.tup [ov (endLo c ts), ov (endHi c ts)]) := spn rfl fun H1 e => ⟨a, ws, ts, c, rfl, ex_l e h1, h2.mono e, rfl⟩
theorem ok_ends {f : Addr} {fd : FuncData} {k : Nat} (F : Fun K "_law_ends" "_law_ends" s_l_ends f fd) (Z : Zs mg) : FnOk P w K mg base CX0 (k + 1) f fd ["_law_wish", "_law_column"] (SpNn 2 (REnds K)) := by
  refine F.ok sc_l_ends (fun vs H Q E h => h.1) (fun cdv A outer s H vs Q E hr h => ?_)
  obtain ⟨_, z, ⟨a, ws, ts, c, rfl, ha, hw, rfl⟩, q⟩ := h
  refine ⟨_, (pss_cons (ps_set (i := 2) sc_l_ends.nd rfl (Or.inl rfl) pe_non)
      (pss_cons (ps_set (i := 3) sc_l_ends.nd rfl (Or.inl rfl) pe_non)
      (pss_cons (ps_for PassesOwn.never rfl (pi_list (pv 0)) (pg_name (i := 4) sc_l_ends.nd rfl (Or.inl rfl)) (pss_cons (ps_if (PW.pt (pw_and (pt_cmpR op_eq (pe_ix (r := rIxT K) ix_tup (pv 4) pe_int (fun _ _ => rfl)) (pv 1) (nomark _)) (pw_and (pt_cmpR o_notN (pe_ix (r := rIxT K) ix_tup (pv 4) pe_int (fun _ _ => rfl)) pe_non (nomark _)) (pw_and1 (PW.pt (pw_or (pt_cmpR o_isN (pv 2) pe_non (nomark _)) (pw_or1 (pt_cmpR op_lt (pv 2) (pe_ix (r := rIxT K) ix_tup (pv 4) pe_int (fun _ _ => rfl)) (nomark _))))))))) (pss_one (ps_set (i := 2) sc_l_ends.nd rfl (Or.inl rfl) (pe_ix (r := rIxT K) ix_tup (pv 4) pe_int (fun _ _ => rfl)))) pss_nil) (pss_one (ps_if (PW.pt (pw_and (pt_cmpR op_eq (pe_ix (r := rIxT K) ix_tup (pv 4) pe_int (fun _ _ => rfl)) (pv 1) (nomark _)) (pw_and (pt_cmpR o_notN (pe_ix (r := rIxT K) ix_tup (pv 4) pe_int (fun _ _ => rfl)) pe_non (nomark _)) (pw_and1 (PW.pt (pw_or (pt_cmpR o_isN (pv 3) pe_non (nomark _)) (pw_or1 (pt_cmpR op_lt (pe_ix (r := rIxT K) ix_tup (pv 4) pe_int (fun _ _ => rfl)) (pv 3) (nomark _))))))))) (pss_one (ps_set (i := 3) sc_l_ends.nd rfl (Or.inl rfl) (pe_ix (r := rIxT K) ix_tup (pv 4) pe_int (fun _ _ => rfl)))) pss_nil))))
      (pss_one (ps_ret (pe_tup (pa_cons (pv 2) (pa_cons (pv 3) pa_nil)))))))), ?_⟩
  try dsimp only [cx_K]
  refine Sv.at (sv_asg ev_c (sv_asg ev_c ?_))
  refine sv_forL (ev_var rfl) ha (fun i σ' H' => H' = H ∧ ∃ y, σ' = [some (.ref a), some (.int c), some (ov (endLo c (ts.take i))), some (ov (endHi c (ts.take i))), y]) ⟨rfl, none, rfl⟩ (fun i σ' H' h => by rw [h.1]; exact ha) ?_ ?_
  · rintro i x σ' H' hx ⟨rfl, y, rfl⟩
    obtain ⟨t, p, htt, rfl, hp⟩ := hw.at hx
    have i0 : RV (rIxT K) (.ref p) (.int 0) H' (.int t.c) := rv_ixT hp (tv0 t)
    have i1 : RV (rIxT K) (.ref p) (.int 1) H' (ov t.lo) := rv_ixT hp (tv1 t)
    have i2 : RV (rIxT K) (.ref p) (.int 2) H' (ov t.hi) := rv_ixT hp (tv2 t)
    have el := endLo_snoc c (ts.take i) t
    have eh := endHi_snoc c (ts.take i) t
    rw [← take_snoc htt] at el eh
    generalize endLo c (ts.take i) = lo at el
    generalize endHi c (ts.take i) = hi at eh
    refine sv_ifset (p := t.c = c ∧ ¬ t.lo = none ∧ (lo = none ∨ lo.getD 0 < t.lo.getD 0)) (v := ov t.lo) (w := ov lo) ?_ (fun _ => ev_op (ev_var rfl) ev_c i1) (fun _ => rfl) ?_
    · refine tp_and (by repeat' walk_at "s") fun _ => tp_and (tp_cmp (ev_op (ev_op (ev_var rfl) ev_c i1) ev_c rs_ov)) fun hn => tp_or (tp_cmp (ev_op (ev_var rfl) ev_c rn_ov)) fun hl => ?_
      rw [ov_get hn] at i1
      exact tp_cmp (ev_op (ev_var (by rw [← ov_get hl]; rfl)) (ev_op (ev_var rfl) ev_c i1) rp_lt)
    rw [ov_ite, ← el]
    refine sv_ifset' (p := t.c = c ∧ ¬ t.hi = none ∧ (hi = none ∨ t.hi.getD 0 < hi.getD 0)) (v := ov t.hi) (w := ov hi) ?_ (fun _ => ev_op (ev_var rfl) ev_c i2) (fun _ => rfl) ?_
    · refine tp_and (by repeat' walk_at "s") fun _ => tp_and (tp_cmp (ev_op (ev_op (ev_var rfl) ev_c i2) ev_c rs_ov)) fun hn => tp_or (tp_cmp (ev_op (ev_var rfl) ev_c rn_ov)) fun hl => ?_
      rw [ov_get hn] at i2
      exact tp_cmp (ev_op (ev_op (ev_var rfl) ev_c i2) (ev_var (by rw [← ov_get hl]; rfl)) rp_lt)
    rw [ov_ite, ← eh]
    exact sv_kn ⟨rfl, _, rfl⟩
  · rintro σ' H' ⟨rfl, y, rfl⟩
    rw [hw.1, List.take_length]
    exact sv_rqN q (EvU.n (eu_tup (ea_cons (ev_var rfl) (ea_cons (ev_var rfl) ea_nil)) (by simp)))
def RBetween (K : PySem.W.Frag) : List V → Hp → V → Prop := fun vs H z => ∃ (x : Int) (p : Addr) (lo hi : Option Int), vs = [.int x, .ref p] ∧ SqT K H p [ov lo, ov hi] ∧ z = .bl (betw x lo hi)
theorem spv_between {H : Hp} {x : Int} {p : Addr} {lo hi : Option Int} (h : SqT K H p [ov lo, ov hi]) : SpV (SpR 2 (RBetween K)) [.int x, .ref p] H (.bl (betw x lo hi)) := spv rfl fun H1 e => ⟨x, p, lo, hi, rfl, ex_t e h, rfl⟩
theorem ok_between {f : Addr} {fd : FuncData} {k : Nat} (F : Fun K "_law_between" "_law_between" s_l_between f fd) (Z : Zs mg) : FnOk P w K mg base CX0 (k + 1) f fd ["_law_value_here", "_law_pair"] (SpR 2 (RBetween K)) := by
  refine F.ok sc_l_between (fun vs H Q E h => h.1) (fun cdv A outer s H vs Q E hr h => ?_)
  obtain ⟨_, z, ⟨x, p, lo, hi, rfl, hp, rfl⟩, q⟩ := h
  refine ⟨_, (pss_cons (ps_if (PW.pt (pw_and (pt_cmpR o_notN (pe_ix (r := rIxT K) ix_tup (pv 1) pe_int (fun _ _ => rfl)) pe_non (nomark _)) (pw_and1 (pt_cmpR op_lt (pv 0) (pe_ix (r := rIxT K) ix_tup (pv 1) pe_int (fun _ _ => rfl)) (nomark _))))) (pss_one (ps_ret pe_bl)) pss_nil)
      (pss_one (ps_ret (pe_or (pe_cmpR o_isN (pe_ix (r := rIxT K) ix_tup (pv 1) pe_int (fun _ _ => rfl)) pe_non (nomark _)) (pe_one (pe_cmpR op_le (pv 0) (pe_ix (r := rIxT K) ix_tup (pv 1) pe_int (fun _ _ => rfl)) (nomark _))))))), ?_⟩
  try dsimp only [cx_K]
  have i0 : RV (rIxT K) (.ref p) (.int 0) H (ov lo) := rv_ixT hp rfl
  have i1 : RV (rIxT K) (.ref p) (.int 1) H (ov hi) := rv_ixT hp rfl
  refine Sv.at (sv_when (p := ¬ lo = none ∧ x < lo.getD 0) ?_ (fun h => ?_) (fun h => ?_))
  · refine tp_and (tp_cmp (ev_op (ev_op (ev_var rfl) ev_c i0) ev_c rs_ov)) fun hn => ?_
    rw [ov_get hn] at i0
    exact tp_cmp (ev_op (ev_var rfl) (ev_op (ev_var rfl) ev_c i0) rp_lt)
  · have e : betw x lo hi = false := decide_eq_false fun k => k.1 h
    rw [e] at q
    exact sv_rq q ev_c
  · have e : betw x lo hi = decide (hi = none ∨ x ≤ hi.getD 0) := decide_eq_decide.mpr ⟨fun k => k.2, fun k => ⟨h, k⟩⟩
    rw [e] at q
    refine sv_rq q (ep_or (ev_op (ev_op (ev_var rfl) ev_c i1) ev_c rn_ov) fun hn => ?_)
    rw [ov_get hn] at i1
    exact ev_op (ev_var rfl) (ev_op (ev_var rfl) ev_c i1) rv_I0
def RInS (K : PySem.W.Frag) : List V → Hp → V → Prop := fun vs H z => ∃ (a c b : Addr) (rs cs : List Int) (ws : List V) (ts : List Tri), vs = [.ref a, .ref c, .ref b] ∧ SqL K H a (rs.map V.int) ∧ SqT K H c (cs.map V.int) ∧ SqL K H b ws ∧ Wt K H ws ts ∧ (∀ x ∈ cs, 0 ≤ x ∧ x < rs.length) ∧ z = .bl (inS cs rs ts)
theorem spv_inS {H : Hp} {a c b : Addr} {rs cs : List Int} {ws : List V} {ts : List Tri} (h1 : SqL K H a (rs.map V.int)) (h2 : SqT K H c (cs.map V.int)) (h3 : SqL K H b ws) (h4 : Wt K H ws ts) (h5 : ∀ x ∈ cs, 0 ≤ x ∧ x < rs.length) : SpV (SpR 3 (RInS K)) [.ref a, .ref c, .ref b] H (.bl (inS cs rs ts)) :=
  spv rfl fun H1 e => ⟨a, c, b, rs, cs, ws, ts, rfl, ex_l e h1, ex_t e h2, ex_l e h3, h4.mono e, h5, rfl⟩
theorem ok_inS {f : Addr} {fd : FuncData} (F : Fun K "_law_in_stretch" "_law_in_stretch" s_l_in_stretch f fd) (Z : Zs mg) (c_l_ends : Cl P w K mg base CX0 1 "_law_ends" (SpNn 2 (REnds K))) (c_l_between : Cl P w K mg base CX0 1 "_law_between" (SpR 2 (RBetween K))) : FnOk P w K mg base CX0 2 f fd ["_law_row_here", "_law_columns", "_law_wish"] (SpR 3 (RInS K)) := by
  refine F.ok sc_l_in_stretch (fun vs H Q E h => h.1) (fun cdv A outer s H vs Q E hr h => ?_)
  obtain ⟨_, z, ⟨a, c, b, rs, cs, ws, ts, rfl, ha, hc, hb, hW, hin, rfl⟩, q⟩ := h
  refine ⟨_, (pss_cons (ps_for PassesOwn.never rfl (pi_tup (pv 1)) (pg_name (i := 3) sc_l_in_stretch.nd rfl (Or.inl rfl)) (pss_cons (ps_set (i := 4) sc_l_in_stretch.nd rfl (Or.inl rfl) (pe_cl c_l_ends hr (by decide) pass0 (by rfl) (pa_cons (pv 2) (pa_cons (pv 3) pa_nil)))) (pss_cons (ps_if (PW.pt (pw_or (pt_cmpR o_isN (pe_ix (r := rIxT K) ix_tup (pv 4) pe_int (fun _ _ => rfl)) pe_non (nomark _)) (pw_or1 (pt_cmpR op_ne (pe_ix (r := rIxT K) ix_tup (pv 4) pe_int (fun _ _ => rfl)) (pe_ix (r := rIxT K) ix_tup (pv 4) pe_int (fun _ _ => rfl)) (nomark _))))) (pss_one (ps_ret (pe_cl c_l_between hr (by decide) pass0 (by rfl) (pa_cons (pe_ix (r := rIxL K) ix_list (pv 0) (pv 3) (fun _ _ => rfl)) (pa_cons (pv 4) pa_nil))))) pss_nil) (pss_one (ps_if (pt_cmpR op_ne (pe_ix (r := rIxL K) ix_list (pv 0) (pv 3) (fun _ _ => rfl)) (pe_ix (r := rIxT K) ix_tup (pv 4) pe_int (fun _ _ => rfl)) (nomark _)) (pss_one (ps_ret pe_bl)) pss_nil)))))
      (pss_one (ps_ret pe_bl))), ?_⟩
  try dsimp only [cx_K]
  refine Sv.at (sv_forT (ev_var rfl) hc (fun i σ' H' => Ex H H' ∧ (∃ y z, σ' = [some (.ref a), some (.ref c), some (.ref b), y, z]) ∧ inS cs rs ts = inS (cs.drop i) rs ts) ⟨Ex.refl _, ⟨none, none, rfl⟩, rfl⟩ (fun i σ' H' h => ex_t h.1 hc) ?_ ?_)
  · rintro i x σ' H' hx ⟨e, ⟨y, z, rfl⟩, es⟩
    obtain ⟨col, hcol, rfl⟩ := int_at hx
    have hi : i < cs.length := (List.getElem?_eq_some_iff.mp hcol).1
    have ed : cs.drop i = col :: cs.drop (i + 1) := by
      rw [List.drop_eq_getElem_cons hi]
      rw [List.getElem?_eq_getElem hi] at hcol
      rw [Option.some.inj hcol]
    rw [ed] at es
    have hcb := hin col (List.mem_of_getElem? hcol)
    refine sv_asgN (en_cl (vs := [.ref b, .int col]) (by repeat' walk_at "s") (spn_ends (ex_l e hb) (hW.mono e))) ?_
    rintro v N H2 d ⟨p, rfl, hp⟩ eN e2
    have hp2 : SqT K H2 p [ov (endLo col ts), ov (endHi col ts)] := st_of (eN _ _ hp)
    have i0 : RV (rIxT K) (.ref p) (.int 0) H2 (ov (endLo col ts)) := rv_ixT hp2 rfl
    have i1 : RV (rIxT K) (.ref p) (.int 1) H2 (ov (endHi col ts)) := rv_ixT hp2 rfl
    have ir : RV (rIxL K) (.ref a) (.int col) H2 (.int (rs.getD col.toNat 0)) := rv_ixI (ex_l (e.trans e2) ha) hcb.1 hcb.2
    have ei : inS (col :: cs.drop (i + 1)) rs ts = if endLo col ts = none ∨ ¬ endLo col ts = endHi col ts then betw (rs.getD col.toNat 0) (endLo col ts) (endHi col ts) else if rs.getD col.toNat 0 = (endLo col ts).getD 0 then inS (cs.drop (i + 1)) rs ts else false := rfl
    rw [ei] at es
    generalize endLo col ts = lo at hp2 i0 es
    generalize endHi col ts = hi at hp2 i1 es
    refine sv_when (p := lo = none ∨ ¬ lo = hi) (tp_or (tp_cmp (ev_op (ev_op (ev_var rfl) ev_c i0) ev_c rn_ov)) fun hn => tp_cmp (ev_op (ev_op (ev_var rfl) ev_c i0) (ev_op (ev_var rfl) ev_c i1) rp_neO)) (fun h => ?_) (fun h => ?_)
    · rw [es, if_pos h] at q
      refine sv_rq (fun H3 e3 => q H3 ((e.trans e2).trans e3)) (ev_cl (vs := [.int (rs.getD col.toNat 0), .ref p]) ?_ (spv_between hp2))
      repeat' walk_at "s"
    · rw [if_neg h] at es
      have hn : ¬ lo = none := fun k => h (.inl k)
      rw [ov_get hn] at i0
      refine sv_if' (p := ¬ rs.getD col.toNat 0 = lo.getD 0) (by repeat' walk_at "s") (fun k => ?_) (fun k => ?_)
      · rw [es, if_neg k] at q
        exact sv_rq (fun H3 e3 => q H3 ((e.trans e2).trans e3)) ev_c
      · rw [if_pos (Decidable.of_not_not k)] at es
        exact sv_kn ⟨e.trans e2, ⟨_, _, rfl⟩, es⟩
  · rintro σ' H' ⟨e, ⟨y, z, rfl⟩, es⟩
    rw [List.length_map, List.drop_length] at es
    rw [es] at q
    exact sv_rq (fun H3 e3 => q H3 (e.trans e3)) ev_c

def RInOrdL (K : PySem.W.Frag) : List V → Hp → V → Prop := fun vs H z => ∃ (f d c : Addr) (ns cols : List Int) (ws : List V) (rss : List (List Int)), vs = [.ref f, .ref d, .ref c] ∧ SqL K H f (ns.map V.int) ∧ SqL K H d ws ∧ Rw K H ws rss ∧ SqT K H c (cols.map V.int) ∧ Asc cols (numd rss) ns ∧ cols.length ≤ 100 ∧ (∀ r ∈ rss, ∀ x ∈ cols, 0 ≤ x ∧ x < r.length) ∧ z = .bl true
theorem spv_in_ord {H : Hp} {f d c : Addr} {ns cols : List Int} {ws : List V} {rss : List (List Int)} (h1 : SqL K H f (ns.map V.int)) (h2 : SqL K H d ws) (h2' : Rw K H ws rss) (h3 : SqT K H c (cols.map V.int)) (h4 : Asc cols (numd rss) ns) (h5 : cols.length ≤ 100) (h6 : ∀ r ∈ rss, ∀ x ∈ cols, 0 ≤ x ∧ x < r.length) :
    SpV (SpR 3 (RInOrdL K)) [.ref f, .ref d, .ref c] H (.bl true) := spv rfl fun H1 e => ⟨f, d, c, ns, cols, ws, rss, rfl, ex_l e h1, ex_l e h2, h2'.mono e, ex_t e h3, h4, h5, h6, rfl⟩
theorem ok_in_ord {f : Addr} {fd : FuncData} (F : Fun K "_law_in_order" "_law_in_order" s_l_in_order f fd) (Z : Zs mg) (c_l_whole : Cl P w K mg base CX0 1 "_law_whole" (SpR 1 RWhole)) (c_l_ahead : Cl P w K mg base CX0 1 "_law_ahead" (SpR 2 (RAhead K))) : FnOk P w K mg base CX0 2 f fd ["_law_found", "_law_rows", "_law_columns"] (SpR 3 (RInOrdL K)) := by
  refine F.ok sc_l_in_order (fun vs H Q E h => h.1) (fun cdv A outer s H vs Q E hr h => ?_)
  obtain ⟨_, z, ⟨pf, pd, pc, ns, cols, ws, rss, rfl, hf, hd, hR, hc, ho, lc, hin, rfl⟩, q⟩ := h
  refine ⟨_, (pss_cons (ps_set (i := 3) sc_l_in_order.nd rfl (Or.inl rfl) pe_non)
      (pss_cons (ps_for PassesOwn.never rfl (pi_list (pv 0)) (pg_name (i := 4) sc_l_in_order.nd rfl (Or.inr rfl)) (pss_cons (ps_if (PW.pt (pw_or (pt_not (pt_val (pe_cl c_l_whole hr (by decide) pass0 (by rfl) (pa_cons (pv 4) pa_nil)))) (pw_or1 (pt_not (pt_chain op_le op_lt pe_int (pv 4) (pe_callB (id := "len") (r := rLenS K) c_len (by rfl) Z.len PySem.boot_len (pa_cons (pv 1) pa_nil))))))) (pss_one (ps_ret pe_bl)) pss_nil) (pss_cons (ps_set (i := 5) sc_l_in_order.nd rfl (Or.inl rfl) (pe_op op_cat (pe_lc (own := [("_law_column", 6)]) (g := gName 6) (tt := tYes) (by rfl) sc_l_in_order.nd (pi_tup (pv 2)) (blkOk_by (own := [("_law_column", 6)]) (N := ["_law_found", "_law_rows", "_law_columns", "_law_last", "_law_number", "_law_entry", "_law_column"]) (sc := defScope s_l_in_order) (by decide +kernel)) (fun _ _ _ _ _ => (pg_name (i := 6) sc_l_in_order.nd rfl (Or.inl rfl))) (fun _ _ _ _ _ => pts_nil) (fun _ _ _ _ _ => (pe_ix (r := rIxL K) ix_list (pe_ix (r := rIxL K) ix_list (pv 1) (pv 4) (fun _ _ => rfl)) (pv 6) (fun _ _ => rfl)))) (pe_lst (pa_cons (pv 4) pa_nil)))) (pss_cons (ps_if (PW.pt (pw_and (pt_cmpR o_notN (pv 3) pe_non (nomark _)) (pw_and1 (pt_not (pt_val (pe_cl c_l_ahead hr (by decide) pass0 (by rfl) (pa_cons (pv 3) (pa_cons (pv 5) pa_nil)))))))) (pss_one (ps_ret pe_bl)) pss_nil) (pss_one (ps_set (i := 3) sc_l_in_order.nd rfl (Or.inl rfl) (pv 5)))))))
      (pss_one (ps_ret pe_bl)))), ?_⟩
  try dsimp only [cx_K]
  refine Sv.at (sv_asg ev_c ?_)
  refine sv_forL (ev_var rfl) hf (fun i σ' H' => Ex H H' ∧ ∃ (l3 : V) (y4 y5 y6 : Option V), σ' = [some (.ref pf), some (.ref pd), some (.ref pc), some l3, y4, y5, y6] ∧ ((i = 0 ∧ l3 = .non) ∨ ∃ (j : Nat) (m : Int) (p : Addr), i = j + 1 ∧ ns[j]? = some m ∧ l3 = .ref p ∧ SqL K H' p ((ent cols (numd rss) m).map V.int)))
    ⟨Ex.refl _, .non, none, none, none, rfl, .inl ⟨rfl, rfl⟩⟩ (fun i σ' H' h => ex_l h.1 hf) ?_ ?_
  · rintro i x σ' H' hx ⟨e, l3, y4, y5, y6, rfl, hl3⟩
    obtain ⟨n, hn, rfl⟩ := int_at hx
    obtain ⟨r, hr⟩ := ho.1 n (List.mem_of_getElem? hn)
    have hnb := hr
    rw [rowOf_numd] at hnb
    split at hnb
    case isFalse => cases hnb
    rename_i hb
    have hget : rss[n.toNat]? = some r := by
      rw [← Option.some.inj hnb, List.getD_eq_getElem?_getD, List.getElem?_eq_getElem (by omega)]
      rfl
    obtain ⟨pr, hpr, hrow⟩ := (hR.mono e).2 _ _ hget
    have hnn : ((n.toNat : Nat) : Int) = n := by omega
    have ir : RV (rIxL K) (.ref pd) (.int n) H' (.ref pr) := rv_ixL (ex_l e hd) (by rw [← hnn]; exact atI_nat hpr)
    have hlen : (ws.length : Int) = (rss.length : Int) := by rw [hR.1]
    refine sv_when (p := ¬ True ∨ ¬ (n < (ws.length : Int))) (tp_or (tp_not (tp_valT (ev_cl (vs := [.int n]) (ea_cons (ev_var rfl) ea_nil) spv_whole))) fun _ => tp_not (tp_cmp (ev_chain ev_c (ev_var rfl) (rv_leT hb.1) (ev_lenL (ev_var rfl) (ex_l e hd)) rp_lt))) (fun h => by
      rcases h with h | h
      · exact absurd trivial h
      · omega) (fun _ => ?_)
    have ee : (ent cols (numd rss) n).map V.int = (cols.map fun c => r.getD c.toNat 0).map V.int ++ [.int n] := by
      unfold ent
      rw [hr, List.map_append]
      rfl
    have le : (ent cols (numd rss) n).length ≤ 1000 := by
      unfold ent
      rw [List.length_append, List.length_map, List.length_singleton]
      omega
    refine sv_asgL (xs := (ent cols (numd rss) n).map V.int) ?_ fun pe H2 n2 e2 hpe => ?_
    · rw [ee]
      refine el_cat (EvL.l (el_lcTI (fun c => r.getD c.toNat 0) (ev_var rfl) (ex_t e hc) (by omega) (fun _ => rfl) fun x hx2 => ?_)) (EvL.l (el_lst (ea_cons (ev_var rfl) ea_nil) (by simp))) (by rw [List.length_map, List.length_map, List.length_singleton]; omega)
      have hb := hin r (List.mem_of_getElem? hget) x hx2
      exact ev_op (ev_op (ev_var rfl) (ev_var rfl) ir) (ev_var rfl) (rv_ixI hrow hb.1 hb.2)
    have qe : SqL K H2 pe ((ent cols (numd rss) n).map V.int) := sq_of hpe
    rcases hl3 with ⟨rfl, rfl⟩ | ⟨j, m, pl, rfl, hm, rfl, hpl⟩
    · refine sv_when (p := False ∧ True) (tp_and (tp_cmp (ev_op (ev_var rfl) ev_c rs_no)) fun h => h.elim) (fun h => h.1.elim) (fun _ => ?_)
      exact sv_asg' (ev_var rfl) (sv_kn ⟨e.trans e2, _, _, _, _, rfl, .inr ⟨0, n, pe, rfl, hn, rfl, qe⟩⟩)
    · have hah := ho.2 j m n hm hn
      have lm : (ent cols (numd rss) m).length ≤ 1000 := by
        unfold ent
        rw [List.length_append, List.length_map, List.length_singleton]
        omega
      have ha : SpV (SpR 2 (RAhead K)) [.ref pl, .ref pe] H2 (.bl true) := by
        rw [← hah]
        exact spv_ahead (ex_l e2 hpl) qe lm le
      refine sv_when (p := True ∧ ¬ True) (tp_and (tp_cmp (ev_op (ev_var rfl) ev_c (rs_yes (fun h => by cases h)))) fun _ => tp_not (tp_valT (ev_cl (ea_cons (ev_var rfl) (ea_cons (ev_var rfl) ea_nil)) ha))) (fun h => absurd trivial h.2) (fun _ => ?_)
      exact sv_asg' (ev_var rfl) (sv_kn ⟨e.trans e2, _, _, _, _, rfl, .inr ⟨j + 1, n, pe, rfl, hn, rfl, qe⟩⟩)
  · rintro σ' H' ⟨e, l3, y4, y5, y6, rfl, _⟩
    exact sv_ret ev_c fun H2 e2 => q H2 (e.trans e2)

def RBelow (K : PySem.W.Frag) : List V → Hp → V → Prop := fun args H z => ∃ (a b : Addr) (vs : List V) (rss : List (List Int)) (ys : List Int), args = [.ref a, .ref b] ∧ SqL K H a vs ∧ Rw K H vs rss ∧ SqL K H b (ys.map V.int) ∧ rss.length ≤ 100000 ∧ (∀ r ∈ rss, r.length ≤ 1000) ∧ ys.length ≤ 1000 ∧
  (∀ (i j : Nat) ri rj, rss[i]? = some ri → rss[j]? = some rj → i ≤ j → ahead rj ys = true → ahead ri ys = true) ∧ z = .int ((rss.filter fun r => ahead r ys).length : Int)
theorem ok_less {f : Addr} {fd : FuncData} {k : Nat} (F : Fun K "less" "less" s_less f fd) (Z : Zs mg) : FnOk P w K mg base CX0 (k + 1) f fd ["one", "other"] (SpR 2 (RAhead K)) := by
  refine F.ok sc_less (fun vs H Q E h => h.1) (fun cdv A outer s H vs Q E hr h => ?_)
  obtain ⟨_, z, ⟨a, b, xs, ys, rfl, hx, hy, _, _, rfl⟩, q⟩ := h
  refine ⟨_, (pss_cons (ps_for PassesOwn.never rfl (pi_zip (by rfl) Z.zip (pa_cons (pv 0) (pa_cons (pv 1) pa_nil))) (pg_tup (by rfl) (pgs_cons (pg_name (i := 2) sc_less.nd rfl (Or.inl rfl)) (pgs_cons (pg_name (i := 3) sc_less.nd rfl (Or.inl rfl)) pgs_nil))) (pss_one (ps_if (pt_cmpR op_ne (pv 2) (pv 3) (nomark _)) (pss_one (ps_ret (pe_cmpR op_lt (pv 2) (pv 3) (nomark _)))) pss_nil)))
      (pss_one (ps_ret (pe_cmpR op_lt (pe_callB (id := "len") (r := rLenS K) c_len (by rfl) Z.len PySem.boot_len (pa_cons (pv 0) pa_nil)) (pe_callB (id := "len") (r := rLenS K) c_len (by rfl) Z.len PySem.boot_len (pa_cons (pv 1) pa_nil)) (nomark _))))), ?_⟩
  try dsimp only [cx_K]
  refine Sv.at (sv_forZ (by repeat' walk_at "s") hx hy (fun i σ' H' => H' = H ∧ (∃ y2 y3, σ' = [some (.ref a), some (.ref b), y2, y3]) ∧ xs.take i = ys.take i) ⟨rfl, ⟨none, none, rfl⟩, rfl⟩ (fun i σ' H' h => by rw [h.1]; exact ⟨hx, hy⟩) ?_ ?_)
  · rintro i x y σ' H' h1 h2 ⟨rfl, ⟨y2, y3, rfl⟩, ht⟩
    obtain ⟨n, hn, rfl⟩ := int_at h1
    obtain ⟨m, hm, rfl⟩ := int_at h2
    refine sv_if' (p := ¬ n = m) (by repeat' walk_at "s") (fun hne => ?_) (fun he => sv_kn ⟨rfl, ⟨_, _, rfl⟩, take_more ht hn hm (Decidable.of_not_not he)⟩)
    rw [ahead_at ht hn hm hne] at q
    refine sv_rq q ?_
    repeat' walk_at "s"
  · rintro i σ' H' l1 l2 l3 ⟨rfl, ⟨y2, y3, rfl⟩, ht⟩
    rw [List.length_map] at l1 l2 l3
    rw [List.length_map] at l3
    rw [ahead_end ht l1 l2 l3] at q
    refine sv_rq q ?_
    repeat' walk_at "s"

theorem ok_below {f : Addr} {fd : FuncData} (F : Fun K "below" "below" s_below f fd) (Z : Zs mg) (c_less : Cl P w K mg base CX0 1 "less" (SpR 2 (RAhead K))) : FnOk P w K mg base CX0 2 f fd ["rows", "key"] (SpR 2 (RBelow K)) := by
  refine F.ok sc_below (fun vs H Q E h => h.1) (fun cdv A outer s H vs Q E hr h => ?_)
  obtain ⟨_, z, ⟨a, b, vs, rss, ys, rfl, hA, hR, hB, l1, l2, l3, anti, rfl⟩, q⟩ := h
  refine ⟨_, (pss_cons (ps_set (i := 2) sc_below.nd rfl (Or.inl rfl) pe_int)
      (pss_cons (ps_set (i := 3) sc_below.nd rfl (Or.inl rfl) (pe_callB (id := "len") (r := rLenS K) c_len (by rfl) Z.len PySem.boot_len (pa_cons (pv 0) pa_nil)))
      (pss_cons (ps_while PassesOwn.never (pt_cmpR op_lt (pv 2) (pv 3) (nomark _)) (pss_cons (ps_set (i := 4) sc_below.nd rfl (Or.inl rfl) (pe_op op_fdiv (pe_op op_add (pv 2) (pv 3)) pe_int)) (pss_one (ps_if (pt_val (pe_cl c_less hr (by decide) pass0 (by rfl) (pa_cons (pe_ix (r := rIxL K) ix_list (pv 0) (pv 4) (fun _ _ => rfl)) (pa_cons (pv 1) pa_nil)))) (pss_one (ps_set (i := 2) sc_below.nd rfl (Or.inl rfl) (pe_op op_add (pv 4) pe_int))) (pss_one (ps_set (i := 3) sc_below.nd rfl (Or.inl rfl) (pv 4)))))))
      (pss_one (ps_ret (pv 2)))))), ?_⟩
  try dsimp only [cx_K]
  refine Sv.at (sv_asg ev_c (sv_asg (ev_lenL (ev_var rfl) hA) ?_))
  refine sv_while (fun m σ' H' => H' = H ∧ ∃ (lo hi : Nat) (mid : Option V), σ' = [some (.ref a), some (.ref b), some (.int lo), some (.int hi), mid] ∧ m = hi - lo ∧ lo ≤ hi ∧ hi ≤ rss.length ∧ (∀ (i : Nat) r, rss[i]? = some r → i < lo → ahead r ys = true) ∧ (∀ (i : Nat) r, rss[i]? = some r → hi ≤ i → ahead r ys = false)) vs.length ?_ ?_
  · refine ⟨rfl, 0, vs.length, none, rfl, rfl, Nat.zero_le _, by rw [hR.1]; exact Nat.le_refl _, fun i r _ hi => absurd hi (Nat.not_lt_zero _), fun i r hr hi => ?_⟩
    have := (List.getElem?_eq_some_iff.mp hr).1
    have := hR.1
    omega
  rintro m σ' H' ⟨rfl, lo, hi, mid, rfl, rfl, h1, h2, h3, h4⟩
  refine ⟨decide ((lo : Int) < hi), by repeat' walk_at "s", fun hb => ?_, fun hb => ?_⟩
  · have hlt : lo < hi := by
      have := of_decide_eq_true hb
      omega
    have em : ((lo : Int) + (hi : Int)) / 2 = (((lo + hi) / 2 : Nat) : Int) := by omega
    have hm : (lo + hi) / 2 < rss.length := by omega
    obtain ⟨q0, hv, hq⟩ := hR.2 ((lo + hi) / 2) _ (List.getElem?_eq_getElem hm)
    have hr := List.getElem?_eq_getElem hm
    generalize rss[(lo + hi) / 2] = r at hv hq hr
    have i0 : RV (rIxL K) (.ref a) (.int (((lo + hi) / 2 : Nat) : Int)) H' (.ref q0) := rv_ixL hA (atI_nat hv)
    have s0 : SpV (SpR 2 (RAhead K)) [.ref q0, .ref b] H' (.bl (ahead r ys)) := spv_ahead hq hB (l2 r (List.mem_of_getElem? hr)) l3
    refine sv_asg (v := .int (((lo + hi) / 2 : Nat) : Int)) (ev_eq (v := .int (((lo : Int) + (hi : Int)) / 2)) (by repeat' walk_at "s") (by rw [em])) (sv_ifB' (b := ahead r ys) (et_B (by repeat' walk_at "s")) (fun ha => ?_) (fun ha => ?_))
    · refine sv_asg' (v := .int ((((lo + hi) / 2 + 1 : Nat)) : Int)) (ev_eq (v := .int ((((lo + hi) / 2 : Nat) : Int) + 1)) (by repeat' walk_at "s") rfl) (sv_kn ⟨hi - ((lo + hi) / 2 + 1), by omega, rfl, (lo + hi) / 2 + 1, hi, _, rfl, rfl, by omega, h2, fun i r' hr' hi' => ?_, h4⟩)
      exact anti i _ r' r hr' hr (by omega) ha
    · refine sv_asg' (ev_var rfl) (sv_kn ⟨(lo + hi) / 2 - lo, by omega, rfl, lo, (lo + hi) / 2, _, rfl, rfl, by omega, by omega, h3, fun i r' hr' hi' => ?_⟩)
      cases e : ahead r' ys with
      | false => rfl
      | true =>
        have := anti _ i r r' hr hr' hi' e
        rw [ha] at this
        cases this
  · have hle : hi ≤ lo := by
      have := of_decide_eq_false hb
      omega
    have e : ((rss.filter fun r => ahead r ys).length : Int) = (lo : Int) := by
      rw [cnt_split (n := lo) (by omega) h3 (fun i r hr hi' => h4 i r hr (by omega))]
    rw [e] at q
    exact sv_rq q (ev_var rfl)
theorem spv_below {H : Hp} {a b : Addr} {vs : List V} {rss : List (List Int)} {ys : List Int} (h1 : SqL K H a vs) (h2 : Rw K H vs rss) (h3 : SqL K H b (ys.map V.int)) (l1 : rss.length ≤ 100000) (l2 : ∀ r ∈ rss, r.length ≤ 1000) (l3 : ys.length ≤ 1000)
    (anti : ∀ (i j : Nat) ri rj, rss[i]? = some ri → rss[j]? = some rj → i ≤ j → ahead rj ys = true → ahead ri ys = true) : SpV (SpR 2 (RBelow K)) [.ref a, .ref b] H (.int ((rss.filter fun r => ahead r ys).length : Int)) :=
  spv rfl fun H1 e => ⟨a, b, vs, rss, ys, rfl, ex_l e h1, h2.mono e, ex_l e h3, l1, l2, l3, anti, rfl⟩
def RMerged (K : PySem.W.Frag) : List V → Hp → (V → Hp → Prop) → Prop := fun vs H P => ∃ (a : Addr) (ws : List V) (ts : List Tri), vs = [.ref a] ∧ SqL K H a ws ∧ Wt K H ws ts ∧ ts.length ≤ 20 ∧ (∀ t ∈ ts, 0 ≤ t.c ∧ t.c < 6) ∧ P = fun v H2 => ∃ p acc, v = .ref p ∧ H p = none ∧ H2 p = some (.lst acc) ∧ Wt K H2 acc (mergedM ts)
theorem spq_merged {H : Hp} {a : Addr} {ws : List V} {ts : List Tri} (h1 : SqL K H a ws) (h2 : Wt K H ws ts) (h3 : ts.length ≤ 20) (h4 : ∀ t ∈ ts, 0 ≤ t.c ∧ t.c < 6) : SpP (SpQ 1 (RMerged K)) [.ref a] H fun v H2 => ∃ p acc, v = .ref p ∧ H p = none ∧ H2 p = some (.lst acc) ∧ Wt K H2 acc (mergedM ts) :=
  spq rfl fun H1 e => ⟨_, ⟨a, ws, ts, rfl, ex_l e h1, h2.mono e, h3, h4, rfl⟩, fun v H2 ⟨p, acc, x1, x2, x3, x4⟩ => ⟨p, acc, x1, fresh_back e x2, x3, x4⟩⟩
def RMergedT (K : PySem.W.Frag) : List V → Hp → (V → Hp → Prop) → Prop := fun vs H P => ∃ (c : Int) (a : Addr) (ws : List V) (ts : List Tri), vs = [.int c, .ref a] ∧ SqL K H a ws ∧ Wt K H ws ts ∧ ts.length ≤ 20 ∧ P = IsTri (triOf ts c)
theorem spn_mergedT {H : Hp} {c : Int} {a : Addr} {ws : List V} {ts : List Tri} (h1 : SqL K H a ws) (h2 : Wt K H ws ts) (h3 : ts.length ≤ 20) : SpNP (SpNn 2 (RMergedT K)) [.int c, .ref a] H (IsTri (triOf ts c)) := spn rfl fun H1 e => ⟨c, a, ws, ts, rfl, ex_l e h1, h2.mono e, h3, rfl⟩
theorem ok_merged_triple {f : Addr} {fd : FuncData} (F : Fun K "merged_triple" "merged_triple" s_merged_triple f fd) (Z : Zs mg) : FnOk P w K mg base CX0 1 f fd ["column", "wish"] (SpNn 2 (RMergedT K)) := by
  refine F.ok sc_merged_triple (fun vs H Q E h => h.1) (fun cdv A outer s H vs Q E hr h => ?_)
  obtain ⟨_, P0, ⟨c, a, ws, ts, rfl, ha, hw, hl, rfl⟩, q⟩ := h
  refine ⟨_, (pss_cons (ps_setLc (i := 2) rfl sc_merged_triple.nd rfl rfl (sw_true rfl rfl rfl (by decide +kernel)) (pi_list (pv 1)) (blkOk_by (own := [("triple", 5)]) (N := ["column", "wish", "spoken", "lows", "highs", "triple"]) (sc := defScope s_merged_triple) (by decide +kernel)) (fun _ _ _ _ _ => (pg_name (i := 5) sc_merged_triple.nd rfl (Or.inl rfl))) (fun _ _ _ _ _ => (pts_one (pt_cmpR op_eq (pe_ix (r := rIxT K) ix_tup (pv 5) pe_int (fun _ _ => rfl)) (pv 0) (nomark _)))) (fun _ _ _ _ _ => (pv 5)))
      (pss_cons (ps_setLc (i := 3) rfl sc_merged_triple.nd rfl rfl (sw_true rfl rfl rfl (by decide +kernel)) (pi_list (pv 2)) (blkOk_by (own := [("triple", 5)]) (N := ["column", "wish", "spoken", "lows", "highs", "triple"]) (sc := defScope s_merged_triple) (by decide +kernel)) (fun _ _ _ _ _ => (pg_name (i := 5) sc_merged_triple.nd rfl (Or.inl rfl))) (fun _ _ _ _ _ => (pts_one (pt_cmpR o_notN (pe_ix (r := rIxT K) ix_tup (pv 5) pe_int (fun _ _ => rfl)) pe_non (nomark _)))) (fun _ _ _ _ _ => (pe_ix (r := rIxT K) ix_tup (pv 5) pe_int (fun _ _ => rfl))))
      (pss_cons (ps_setLc (i := 4) rfl sc_merged_triple.nd rfl rfl (sw_true rfl rfl rfl (by decide +kernel)) (pi_list (pv 2)) (blkOk_by (own := [("triple", 5)]) (N := ["column", "wish", "spoken", "lows", "highs", "triple"]) (sc := defScope s_merged_triple) (by decide +kernel)) (fun _ _ _ _ _ => (pg_name (i := 5) sc_merged_triple.nd rfl (Or.inl rfl))) (fun _ _ _ _ _ => (pts_one (pt_cmpR o_notN (pe_ix (r := rIxT K) ix_tup (pv 5) pe_int (fun _ _ => rfl)) pe_non (nomark _)))) (fun _ _ _ _ _ => (pe_ix (r := rIxT K) ix_tup (pv 5) pe_int (fun _ _ => rfl))))
      (pss_one (ps_ret (pe_tup (pa_cons (pv 0) (pa_cons (pe_callBK (id := "max") (ks := ["default"]) (cr_maxDef (by rfl)) (by rfl) Z.max (by decide +kernel) (pa_cons (pv 3) pa_nil) (pk_cons pe_non pk_nil)) (pa_cons (pe_callBK (id := "min") (ks := ["default"]) (cr_minDef (by rfl)) (by rfl) Z.min (by decide +kernel) (pa_cons (pv 4) pa_nil) (pk_cons pe_non pk_nil)) pa_nil))))))))), ?_⟩
  try dsimp only [cx_K]
  have lw := hw.1
  refine Sv.at (sv_asgL (xs := given ts.length (fun i => decide ((ts.getD i t0).c = c)) fun i => ws.getD i .non) ?_ fun p1 H1 n1 e1 hp1 => ?_)
  · rw [← lw]
    refine el_lcL (fun i => decide ((ts.getD i t0).c = c)) (fun i => ws.getD i .non) (ev_var rfl) ha (by omega) (fun _ => rfl) (fun i x H3 e3 hx => ?_) (fun i x H3 e3 hx _ => ?_)
    · obtain ⟨t, p, htt, rfl, hp⟩ := (hw.mono e3).at hx
      rw [getD_at htt]
      exact tp_cmp (ev_op (ev_op (ev_var rfl) ev_c (rv_ixT hp (tv0 t))) (ev_var rfl) rp_eqI)
    · rw [List.getD_eq_getElem?_getD, hx]
      exact ev_var rfl
  have hw1 := wt_filter (fun t => decide (t.c = c)) (hw.mono e1)
  have hl1 : (ts.filter fun t => decide (t.c = c)).length ≤ 20 := Nat.le_trans (List.length_filter_le _ _) hl
  have el := lows_at c ts
  have eh := highs_at c ts
  generalize (ts.filter fun t => decide (t.c = c)) = fs at hw1 hl1 el eh
  generalize given ts.length (fun i => decide ((ts.getD i t0).c = c)) (fun i => ws.getD i .non) = vs at hp1 hw1
  have hq1 : SqL K H1 p1 vs := sq_of hp1
  have lv := hw1.1
  refine sv_asgL (xs := (lowsM c ts).map V.int) ?_ fun p2 H2 n2 e2 hp2 => ?_
  · rw [← el, ← given_ints fs (fun t => decide (¬ t.lo = none)) fun t => t.lo.getD 0, ← lv]
    refine el_lcL (fun i => decide (¬ (fs.getD i t0).lo = none)) (fun i => V.int ((fs.getD i t0).lo.getD 0)) (ev_var rfl) hq1 (by omega) (fun _ => rfl) (fun i x H3 e3 hx => ?_) (fun i x H3 e3 hx hf => ?_)
    · obtain ⟨t, p, htt, rfl, hp⟩ := (hw1.mono e3).at hx
      rw [getD_at htt]
      exact tp_cmp (ev_op (ev_op (ev_var rfl) ev_c (rv_ixT hp (tv1 t))) ev_c rs_ov)
    · obtain ⟨t, p, htt, rfl, hp⟩ := (hw1.mono e3).at hx
      rw [getD_at htt] at hf ⊢
      rw [← ov_get (of_decide_eq_true hf)]
      exact ev_op (ev_var rfl) ev_c (rv_ixT hp (tv1 t))
  have hq2 := ex_l e2 hq1
  have hw2 := hw1.mono e2
  refine sv_asgL (xs := (highsM c ts).map V.int) ?_ fun p3 H3 n3 e3 hp3 => ?_
  · rw [← eh, ← given_ints fs (fun t => decide (¬ t.hi = none)) fun t => t.hi.getD 0, ← lv]
    refine el_lcL (fun i => decide (¬ (fs.getD i t0).hi = none)) (fun i => V.int ((fs.getD i t0).hi.getD 0)) (ev_var rfl) hq2 (by omega) (fun _ => rfl) (fun i x H3 e3 hx => ?_) (fun i x H3 e3 hx hf => ?_)
    · obtain ⟨t, p, htt, rfl, hp⟩ := (hw2.mono e3).at hx
      rw [getD_at htt]
      exact tp_cmp (ev_op (ev_op (ev_var rfl) ev_c (rv_ixT hp (tv2 t))) ev_c rs_ov)
    · obtain ⟨t, p, htt, rfl, hp⟩ := (hw2.mono e3).at hx
      rw [getD_at htt] at hf ⊢
      rw [← ov_get (of_decide_eq_true hf)]
      exact ev_op (ev_var rfl) ev_c (rv_ixT hp (tv2 t))
  have l2 : SqL K H3 p2 ((lowsM c ts).map V.int) := sq_of (e3 _ _ hp2)
  have l3 : SqL K H3 p3 ((highsM c ts).map V.int) := sq_of hp3
  refine sv_rqN (retN_mono ((e1.trans e2).trans e3) q) (EvU.n (xs := tv (triOf ts c)) (eu_tup (vs := tv (triOf ts c)) (ea_cons (ev_var rfl) (ea_cons (ev_maxDef (ev_var rfl) l2) (ea_cons (ev_minDef (ev_var rfl) l3) ea_nil))) (by simp [tv])))
theorem ok_merged {f : Addr} {fd : FuncData} (F : Fun K "merged" "merged" s_merged f fd) (Z : Zs mg) (c_merged_triple : Cl P w K mg base CX0 1 "merged_triple" (SpNn 2 (RMergedT K))) : FnOk P w K mg base CX0 2 f fd ["wish"] (SpQ 1 (RMerged K)) := by
  refine F.ok sc_merged (fun vs H Q E h => h.1) (fun cdv A outer s H vs Q E hr h => ?_)
  obtain ⟨_, z, ⟨a, ws, ts, rfl, ha, hw, hl, hc, rfl⟩, q⟩ := h
  refine ⟨_, (pss_cons (ps_set (i := 1) sc_merged.nd rfl (Or.inl rfl) (pe_callB (id := "sorted") (r := rSortedSet w) (cr_sortedSet rfl) (by rfl) Z.sorted (by decide +kernel) (pa_cons (pe_sci (own := [("triple", 2)]) (g := gName 2) (by rfl) sc_merged.nd (pi_list (pv 0)) (blkOk_by (own := [("triple", 2)]) (N := ["wish", "columns", "triple", "column"]) (sc := defScope s_merged) (by decide +kernel)) (fun _ _ _ _ _ => (pg_name (i := 2) sc_merged.nd rfl (Or.inl rfl))) (fun _ _ _ _ _ => (pe_ix (r := rIxT K) ix_tup (pv 2) pe_int (fun _ _ => rfl)))) pa_nil)))
      (pss_one (ps_ret (pe_lc (own := [("column", 3)]) (g := gName 3) (tt := tYes) (by rfl) sc_merged.nd (pi_list (pv 1)) (blkOk_by (own := [("column", 3)]) (N := ["wish", "columns", "triple", "column"]) (sc := defScope s_merged) (by decide +kernel)) (fun _ _ _ _ _ => (pg_name (i := 3) sc_merged.nd rfl (Or.inl rfl))) (fun _ _ _ _ _ => pts_nil) (fun _ _ _ _ _ => (pe_cl c_merged_triple hr (by decide) pass0 (by rfl) (pa_cons (pv 3) (pa_cons (pv 0) pa_nil)))))))), ?_⟩
  try dsimp only [cx_K]
  have lw := hw.1
  refine Sv.at (sv_asgN (en_sortSc (fun i => (ts.getD i t0).c) (ev_var rfl) ha (by omega) (fun _ => rfl) (fun i x hx => ?_)) ?_)
  · obtain ⟨t, p, htt, rfl, hp⟩ := hw.at hx
    rw [getD_at htt]
    exact ev_op (ev_var rfl) ev_c (rv_ixT hp (tv0 t))
  rintro v N H1 d ⟨p, ns, rfl, hp, up, mem⟩ eN e1
  have em : mergedM ts = ns.map (triOf ts) := cols_merged up (fun k => (mem k).trans ⟨fun ⟨i, hi, e⟩ => by
    have hti : ts[i]? = some (ts[i]'(by omega)) := List.getElem?_eq_getElem _
    exact ⟨_, List.mem_of_getElem? hti, by rw [← getD_at hti]; exact e⟩, fun ⟨t, ht, e⟩ => by
    obtain ⟨i, hi, rfl⟩ := List.mem_iff_getElem.mp ht
    exact ⟨i, by omega, by rw [getD_at (List.getElem?_eq_getElem hi)]; exact e⟩⟩) hc
  have ln : ns.length ≤ 6 := by
    have := mergedTo_len ts 6
    have e := congrArg List.length em
    rw [List.length_map] at e
    rw [← e]
    exact this
  have hq : SqL K H1 p (ns.map V.int) := sq_of (eN _ _ hp)
  have ha1 := ex_l e1 ha
  have hw1 := hw.mono e1
  refine sv_rqN (P := fun v N => ∃ Dl acc, v = .ref Dl ∧ N Dl = some (.lst acc) ∧ ∃ N0, Ex N0 N ∧ Wt K N0 acc ((ns.take (ns.map V.int).length).map (triOf ts))) ?_ (en_lcL (ev_var rfl) hq (by rw [List.length_map]; omega) (fun _ => rfl) (fun _ => true) (fun i acc N => Wt K N acc ((ns.take i).map (triOf ts))) Wt.nil (fun i x _ H2 _ Q q => q H2 (Ex.refl H2)) (fun i x acc N hx _ hI => ?_) (fun i acc N hf => by cases hf))
  · rintro v N2 H2 d2 ⟨Dl, acc, rfl, hD, N0, e0, hW⟩ eN2 e2
    rw [List.length_map, List.take_length, ← em] at hW
    exact q _ _ (e1.trans e2) ⟨Dl, acc, rfl, fresh_back e1 (d2 Dl (by rw [hD]; exact fun z => by cases z)), eN2 _ _ hD, hW.mono (e0.trans eN2)⟩
  · obtain ⟨n, hn, rfl⟩ := int_at hx
    refine (en_cl (vs := [.int n, .ref a]) (ea_cons (ev_var rfl) (ea_cons (ev_var rfl) ea_nil)) (spn_mergedT ha1 hw1 hl)).imp ?_
    rintro v N' ⟨p, rfl, hp⟩ N'' x1 x2
    rw [take_snoc hn, List.map_append]
    exact (hI.mono x1).snoc (st_of (x2 _ _ hp))
/-! ### an order that is kept: the program's own -/
section
variable {C : Addr}
def RKey (K : PySem.W.Frag) (C : Addr) : List V → Hp → List V → Prop := fun vs H xs => ∃ (k r dx ct pk : Addr) (n : Int) (c row : List Int), vs = [.ref k, .int n, .ref r] ∧ H k = some (.ins C dx (kFs ct pk)) ∧ H ct = some (.tup (c.map V.int)) ∧ (SqL K H r (row.map V.int) ∨ SqT K H r (row.map V.int)) ∧ (∀ x ∈ c, 0 ≤ x ∧ x < row.length) ∧ c.length ≤ 6 ∧ xs = (keyR c row n).map V.int
theorem spl_key {H : Hp} {k r dx ct pk : Addr} {n : Int} {c row : List Int} (h1 : H k = some (.ins C dx (kFs ct pk))) (h2 : H ct = some (.tup (c.map V.int))) (h3 : SqL K H r (row.map V.int) ∨ SqT K H r (row.map V.int)) (h4 : ∀ x ∈ c, 0 ≤ x ∧ x < row.length) (h5 : c.length ≤ 6) : SpL (SpN 3 (RKey K C)) [.ref k, .int n, .ref r] H ((keyR c row n).map V.int) :=
  spl rfl fun H1 e => ⟨k, r, dx, ct, pk, n, c, row, rfl, e _ _ h1, e _ _ h2, h3.imp (ex_l e) (ex_t e), h4, h5, rfl⟩
theorem ok_key {f : Addr} {fd : FuncData} (F : Fun K "_key" "Kept._key" s_Kept__key f fd) (cls : Cls K C) (noC : NoAttr K C "columns") : FnOk P w K mg base CX0 1 f fd ["self", "number", "row"] (SpN 3 (RKey K C)) := by
  refine F.ok sc_Kept__key (fun vs H Q E h => h.1) (fun cdv A outer s H vs Q E hr h => ?_)
  obtain ⟨_, z, ⟨k, r, dx, ct, pk, n, c, row, rfl, hk, hct, hro, hc, l6, rfl⟩, q⟩ := h
  refine ⟨_, (pss_one (ps_ret (pe_op op_cat (pe_lc (own := [("column", 3)]) (g := gName 3) (tt := tYes) (by rfl) sc_Kept__key.nd (pi_tup (pe_fldK (K := K) rfl (pv 0) rfl)) (blkOk_by (own := [("column", 3)]) (N := ["self", "number", "row", "column"]) (sc := defScope s_Kept__key) (by decide +kernel)) (fun _ _ _ _ _ => (pg_name (i := 3) sc_Kept__key.nd rfl (Or.inl rfl))) (fun _ _ _ _ _ => pts_nil) (fun _ _ _ _ _ => (pe_ix (r := rIx K) ix_seq (pv 2) (pv 3) (fun _ _ => rfl)))) (pe_lst (pa_cons (pv 1) pa_nil))))), ?_⟩
  try dsimp only [cx_K]
  have e : (keyR c row n).map V.int = (c.map fun x => row.getD x.toNat 0).map V.int ++ [V.int n] := by
    unfold keyR
    rw [List.map_append]
    rfl
  rw [e] at q
  refine Sv.at (sv_rqL q (el_cat (EvL.l (el_lcTI (fun x => row.getD x.toNat 0) (ev_fld (ev_var rfl) hk cls noC rfl) (st_of hct) (by omega) (fun _ => rfl) fun x hx => ev_op (ev_var rfl) (ev_var rfl) (rv_ixE hro (ix_int (hc x hx).1 (hc x hx).2)))) (EvL.l (el_lst (vs := [.int n]) (ea_cons (ev_var rfl) ea_nil) (by simp))) ?_))
  rw [List.length_map, List.length_map]
  simp only [List.length_singleton]
  omega
theorem ok_kinit {f : Addr} {fd : FuncData} {lv : Nat} (F : Fun K "__init__" "Kept.__init__" s_Kept_init f fd) (Z : Zs mg) (cls : Cls K C) (noC : NoAttr K C "columns") (noK : NoAttr K C "_keys") : FnOk P w K mg base CX0 (lv + 1) f fd ["self", "columns"] (spKInit (keptS cls noC)) := by
  refine F.ok sc_Kept_init (fun vs H Q E h => by obtain ⟨x, dx, ct, c, rfl, _⟩ := h; rfl) (fun cdv A outer s H vs Q E hr h => ?_)
  obtain ⟨x, dx, ct, c, rfl, hx, hdx, ne, hct, h0, h6, q⟩ := h
  refine ⟨_, (pss_cons (ps_fld (pv 0) (pe_callTy (T := "tuple") (r := rTupS K) c_tuple (by rfl) Z.tuple (by decide +kernel) (pa_cons (pv 1) pa_nil)) rfl)
      (pss_one (ps_fld (pv 0) (pe_lst pa_nil) rfl))), ?_⟩
  try dsimp only [cx_K]
  have hx' : H x = some (.ins C dx []) := hx
  have nct : ct ≠ x := fun z => by rw [z, hx'] at hct; cases hct
  refine Sv.at (sv_fld (v := .ref ct) (ev_tupT (ev_var rfl) (st_of hct)) (ev_var rfl) hx' cls noC (by decide) (sv_last (sv_fldL (xs := []) (el_lst ea_nil (Nat.zero_le _)) (ev_var rfl) upd_same cls noK (by show (1 : Nat) < 1000; decide) fun p H2 np e2 hp => sv_next fun H3 e3 => ?_)))
  have npx : p ≠ x := fun z => by rw [z, upd_same] at np; cases np
  have npd : p ≠ dx := fun z => by rw [z, upd_ne ne, hdx] at np; cases np
  have npH : H p = none := by rw [upd_ne npx] at np; exact np
  have old : ∀ a o, H a = some o → a ≠ x → H3 a = some o := fun a o ha n => e3 _ _ (by
    rw [upd_ne n]
    exact e2 _ _ (by rw [upd_ne n]; exact ha))
  have hp3 : H3 p = some (.lst (([] : List Addr).map V.ref)) := e3 _ _ (by rw [upd_ne npx]; exact hp)
  have hx3 : H3 x = some (.ins C dx (kFs ct p)) := e3 _ _ upd_same
  have hd3 := old dx _ hdx ne
  refine q H3 (fun a => a = x ∨ a = dx ∨ a = p) (fun a o ha n1 n2 => old a o ha n1) (fun a ha => ?_) ⟨dx, ct, p, [], [], hx3, .inl rfl, old ct _ hct nct, hp3, .inr (.inr rfl), .nil, ⟨rfl, fun n h => (List.not_mem_nil h).elim, fun i a b h => by simp at h⟩, List.nodup_nil, fun n r h => (nomatch (show (none : Option (List Int)) = some r from h)), h6, Nat.zero_le _, fun a z => ?_⟩ (fun a z => z.imp id fun z => z.imp id fun z => by rw [z]; exact npH)
  · by_cases n : a = x
    · rw [n, hx3]
      exact fun z => by cases z
    · cases z : H a with
      | none => exact (ha z).elim
      | some o =>
        rw [old a o z n]
        exact fun z => by cases z
  · rcases z with z | z | z
    · rw [z]
      exact ⟨_, hx3, fun ⟨_, t⟩ => by cases t⟩
    · rw [z]
      exact ⟨_, hd3, fun ⟨_, t⟩ => by cases t⟩
    · rw [z]
      exact ⟨_, hp3, fun ⟨_, t⟩ => by cases t⟩
theorem rw_len {rss : List (List Int)} {c : List Int} {s : Rows} {ns : List Int} (h : rss = ns.map (ent c s)) (h6 : c.length ≤ 6) : ∀ r ∈ rss, r.length ≤ 1000 := fun r hr => by
  rw [h] at hr
  obtain ⟨m, _, rfl⟩ := List.mem_map.mp hr
  rw [ent_len]
  omega
theorem keyR_len (c row : List Int) (n : Int) : (keyR c row n).length = c.length + 1 := by
  unfold keyR
  rw [List.length_append, List.length_map]
  rfl
theorem ok_kput {f : Addr} {fd : FuncData} (F : Fun K "put" "Kept.put" s_Kept_put f fd) (cls : Cls K C) (noC : NoAttr K C "columns") (noK : NoAttr K C "_keys") (c__key : Mt P w K mg base CX0 1 C "_key" (SpN 3 (RKey K C))) (c_below : Cl P w K mg base CX0 2 "below" (SpR 2 (RBelow K))) :
    FnOk P w K mg base CX0 3 f fd ["self", "number", "row"] (SpW 3 (RKPut (keptS cls noC))) := by
  refine F.ok sc_Kept_put (fun vs H Q E h => h.1) (fun cdv A outer s H vs Q E hr h => ?_)
  obtain ⟨_, F0, T', P', ⟨k, r, n, row, c, s, rfl, at_, hro, hn, hc, l6, wide, l200, rfl, rfl⟩, q⟩ := h
  refine ⟨_, (pss_cons (ps_set (i := 3) sc_Kept_put.nd rfl (Or.inl rfl) (pe_m c__key hr (by decide) pass0 (pv 0) (pa_cons (pv 1) (pa_cons (pv 2) pa_nil))))
      (pss_one (ps_expr (pe_bm PySem.F.plainAttrs_list PySem.F.slot_list_insert PySem.F.type_list_insert m_insert (pe_fldK (K := K) rfl (pv 0) rfl) (pa_cons (pe_cl c_below hr (by decide) pass0 (by rfl) (pa_cons (pe_fldK (K := K) rfl (pv 0) rfl) (pa_cons (pv 3) pa_nil))) (pa_cons (pv 3) pa_nil)))))), ?_⟩
  try dsimp only [cx_K]
  obtain ⟨dx, ct, pk, ps, ns, h⟩ := (id at_ : KeptA C k c s F0 H)
  have ln : ns.length < 200 := by rw [h.ord.1]; exact l200
  have lp : ps.length = ns.length := by
    have := paired_len h.keys
    rw [List.length_map] at this
    exact this
  have hro' : SqL K H r (row.map V.int) ∨ SqT K H r (row.map V.int) := hro.imp (fun z => z.1) id
  refine Sv.at (sv_asgL (xs := (keyR c row n).map V.int) (el_mt (ev_var rfl) h.hk rfl (ea_cons (ev_var rfl) (ea_cons (ev_var rfl) ea_nil)) (spl_key h.hk h.hc hro' hc h.c6)) fun l H1 n1 e1 hl => ?_)
  have nl : l ≠ pk := fun z => by rw [z, h.hp] at n1; cases n1
  have hp1 := e1 _ _ h.hp
  have rw1 : Rw K H1 (ps.map V.ref) (ns.map (ent c s)) := (keptA_rw h.keys).mono e1
  have hq1 : SqL K H1 pk (ps.map V.ref) := sq_of hp1
  have hl1 : SqL K H1 l ((keyR c row n).map V.int) := sq_of hl
  have fk := ev_fld (ta := tVar 0) (σ := [some (.ref k), some (.int n), some (.ref r), some (.ref l)]) (ev_var rfl) (e1 _ _ h.hk) cls noK (v := .ref pk) rfl
  have kl := keyR_len c row n
  have c6 := h.c6
  refine sv_last (sv_insert (i := ((cntA c s ns (keyR c row n) : Nat) : Int)) hp1 fk (ev_cl (vs := [.ref pk, .ref l]) (ea_cons fk (ea_cons (ev_var rfl) ea_nil)) (spv rfl fun H2 e => ⟨pk, l, _, _, _, rfl, ex_l e hq1, rw1.mono e, ex_l e hl1, by rw [List.length_map]; omega, rw_len rfl h.c6, by omega, asc_anti h.ord.asc _, rfl⟩)) (ev_var rfl) (by omega) ?_ (by rw [List.length_map]; omega) (sv_next fun H3 e3 => ?_))
  · have := cntA_le c s ns (keyR c row n)
    omega
  rw [Int.toNat_natCast, ← List.map_take, ← List.map_drop, show [V.ref l] = [l].map V.ref from rfl, ← List.map_append, ← List.map_append] at e3
  have kp : ∀ a o, a ≠ pk → H a = some o → H3 a = some o := fun a o ne ha => e3 _ _ (by
    rw [upd_ne ne]
    exact e1 _ _ ha)
  have hp3 := e3 _ _ upd_same
  have at3 := h.put hn l200 kp (e3 _ _ (by rw [upd_ne nl]; exact hl)) hp3
  refine q .non nonew H3 (fun a => F0 a ∨ a = l) ⟨fun a o ha nt => kp a o (fun z => ?_) ha, fun a ha => ?_⟩ ⟨dx, ct, pk, _, _, at3⟩ (fun a z => z.imp id fun z => by rw [z]; exact n1) (fun a z => (z rfl).elim) nonew_ex rfl
  · rw [z, h.hp] at ha
    obtain ⟨xs, t⟩ := nt (z ▸ h.fp)
    rw [← Option.some.inj ha] at t
    cases t
  · by_cases z : a = pk
    · rw [z, hp3]
      exact fun z => by cases z
    · cases y : H a with
      | none => exact (ha y).elim
      | some o =>
        rw [kp a o z y]
        exact fun z => by cases z
theorem last_key {F0 : Reg} {H H1 : Hp} {c : List Int} {s : Rows} {ps : List Addr} {ns : List Int} {i : Nat} {x : V} {m : Int} (h : Paired (KeyAt F0 H) ps (ns.map (ent c s))) (e : Ex H H1) (hx : (ps.map V.ref)[i]? = some x) (hm : ns[i]? = some m) : ∃ p, x = .ref p ∧ RV (rIxL K) (.ref p) (.int (-1)) H1 (.int m) := by
  obtain ⟨p, hp, ⟨g, _⟩⟩ := paired_get h (i := i) (y := ent c s m) (by rw [List.getElem?_map, hm]; rfl)
  rw [List.getElem?_map, hp] at hx
  refine ⟨p, (Option.some.inj hx).symm, rv_ixL (sq_of (e _ _ g)) ?_⟩
  rw [ent_app]
  exact atI_end _ _
theorem ok_knumbers {f : Addr} {fd : FuncData} {lv : Nat} (F : Fun K "numbers" "Kept.numbers" s_Kept_numbers f fd) (cls : Cls K C) (noC : NoAttr K C "columns") (noK : NoAttr K C "_keys") :
    FnOk P w K mg base CX0 (lv + 1) f fd ["self"] (SpW 1 (RKNumbers (keptS cls noC))) := by
  refine F.ok sc_Kept_numbers (fun vs H Q E h => h.1) (fun cdv A outer s H vs Q E hr h => ?_)
  obtain ⟨_, F0, T', P', ⟨k, c, s, rfl, at_, rfl, rfl⟩, q⟩ := h
  refine ⟨_, (pss_one (ps_ret (pe_lc (own := [("key", 1)]) (g := gName 1) (tt := tYes) (by rfl) sc_Kept_numbers.nd (pi_list (pe_fldK (K := K) rfl (pv 0) rfl)) (blkOk_by (own := [("key", 1)]) (N := ["self", "key"]) (sc := defScope s_Kept_numbers) (by decide +kernel)) (fun _ _ _ _ _ => (pg_name (i := 1) sc_Kept_numbers.nd rfl (Or.inl rfl))) (fun _ _ _ _ _ => pts_nil) (fun _ _ _ _ _ => (pe_ix (r := rIxL K) ix_list (pv 1) (pe_un un_neg pe_int) (fun _ _ => rfl)))))), ?_⟩
  try dsimp only [cx_K]
  obtain ⟨dx, ct, pk, ps, ns, h⟩ := (id at_ : KeptA C k c s F0 H)
  have lp : ps.length = ns.length := by
    have := paired_len h.keys
    rw [List.length_map] at this
    exact this
  have ln : ns.length ≤ 200 := by rw [h.ord.1]; exact h.l2
  refine Sv.at (sv_rqN (ret_pure ((keptS cls noC).regn _ _ _) at_ q) ((EvL.n (xs := ns.map V.int) (el_lcM V.int (ev_fld (ev_var rfl) h.hk cls noK rfl) (sq_of h.hp) ((List.length_map _).trans lp) (by rw [List.length_map]; omega) (fun _ => rfl) fun i x m hx hm => ?_)).imp ?_))
  · obtain ⟨p, rfl, rx⟩ := last_key (K := K) h.keys (Ex.refl H) hx hm
    exact ev_op (ev_var rfl) (ev_neg ev_c) rx
  · rintro v N ⟨p, rfl, hp⟩
    exact ⟨p, ns, rfl, hp, h.ord⟩
end
/-! ### the program's stretches -/
def RFirst (K : PySem.W.Frag) : List V → Hp → (V → Hp → Prop) → Prop := fun vs H P => ∃ (ct b : Addr) (c : List Int) (ws : List V) (ts : List Tri), vs = [.ref ct, .ref b] ∧ H ct = some (.tup (c.map V.int)) ∧ SqL K H b ws ∧ Wt K H ws ts ∧ ts.length ≤ 20 ∧ (∀ t ∈ ts, 0 ≤ t.c ∧ t.c < 6) ∧ c.length ≤ 6 ∧
  P = fun v H2 => ∃ p pf pl, v = .ref p ∧ H2 p = some (.tup [.ref pf, .ref pl]) ∧ H2 pf = some (.lst ((faF c ts).map V.int)) ∧ H2 pl = some (.lst ((faT c ts).map V.int))
theorem ok_first {f : Addr} {fd : FuncData} (F : Fun K "first_and_last" "first_and_last" s_first_and_last f fd) (Z : Zs mg) (c_merged : Cl P w K mg base CX0 2 "merged" (SpQ 1 (RMerged K))) : FnOk P w K mg base CX0 3 f fd ["columns", "wish"] (SpQ 2 (RFirst K)) := by
  refine F.ok sc_first_and_last (fun vs H Q E h => h.1) (fun cdv A outer s H vs Q E hr h => ?_)
  obtain ⟨_, z, ⟨ct, b, c, ws, ts, rfl, hct, hb, hW, lt, htc, lc, rfl⟩, q⟩ := h
  refine ⟨_, (pss_cons (ps_setDc (i := 2) (own := [("column", 5), ("low", 6), ("high", 7)]) (g := gTup K 3 (gCons (gName 5) (gCons (gName 6) (gCons (gName 7) gNil)))) (tt := tYes) rfl sc_first_and_last.nd rfl rfl (swd_true rfl rfl rfl (by decide +kernel)) (pi_list (pe_cl c_merged hr (by decide) pass0 (by rfl) (pa_cons (pv 1) pa_nil))) (blkOk_by (own := [("column", 5), ("low", 6), ("high", 7)]) (N := ["columns", "wish", "ends", "first", "last", "column", "low", "high", "pinned"]) (sc := defScope s_first_and_last) (by decide +kernel)) (fun _ _ _ _ _ => (pg_tup (by rfl) (pgs_cons (pg_name (i := 5) sc_first_and_last.nd rfl (Or.inl rfl)) (pgs_cons (pg_name (i := 6) sc_first_and_last.nd rfl (Or.inl rfl)) (pgs_cons (pg_name (i := 7) sc_first_and_last.nd rfl (Or.inl rfl)) pgs_nil))))) (fun _ _ _ _ _ => pts_nil) (fun _ _ _ _ _ => (pv 5)) (fun _ _ _ _ _ => (pe_tup (pa_cons (pv 6) (pa_cons (pv 7) pa_nil)))))
      (pss_cons (ps_set (i := 3) sc_first_and_last.nd rfl (Or.inl rfl) (pe_lst pa_nil))
      (pss_cons (ps_set (i := 4) sc_first_and_last.nd rfl (Or.inl rfl) (pe_lst pa_nil))
      (pss_cons (ps_for PassesOwn.never rfl (pi_tup (pv 0)) (pg_name (i := 5) sc_first_and_last.nd rfl (Or.inl rfl)) (pss_cons (ps_asg (pe_dget2 (hu_of hr) (pv 2) (pv 5) (pe_tup (pa_cons pe_non (pa_cons pe_non pa_nil))) ⟨by rfl, by rfl, by rfl, by rfl⟩) (pg_tup (by rfl) (pgs_cons (pg_name (i := 6) sc_first_and_last.nd rfl (Or.inl rfl)) (pgs_cons (pg_name (i := 7) sc_first_and_last.nd rfl (Or.inl rfl)) pgs_nil)))) (pss_cut (ps_if (pt_cmpR o_notN (pv 6) pe_non (nomark _)) (pss_one (ps_expr (pe_bm PySem.F.plainAttrs_list PySem.F.slot_list_append PySem.F.type_list_append mt_append (pv 3) (pa_cons (pv 6) pa_nil)))) pss_nil) (pss_cut (ps_if (pt_cmpR o_notN (pv 7) pe_non (nomark _)) (pss_one (ps_expr (pe_bm PySem.F.plainAttrs_list PySem.F.slot_list_append PySem.F.type_list_append mt_append (pv 4) (pa_cons (pv 7) pa_nil)))) pss_nil) (pss_cons (ps_set (i := 8) sc_first_and_last.nd rfl (Or.inl rfl) (pe_and (pe_cmpR o_notN (pv 6) pe_non (nomark _)) (pe_one (pe_cmpR op_eq (pv 6) (pv 7) (nomark _))))) (pss_one (ps_if (pt_not (pt_val (pv 8))) (pss_one ps_break) pss_nil)))))))
      (pss_one (ps_ret (pe_tup (pa_cons (pv 3) (pa_cons (pv 4) pa_nil))))))))), ?_⟩
  try dsimp only [cx_K]
  have em : mergedM ts = (colsTo ts 6).map (triOf ts) := mergedTo_cols ts 6
  have ndm : ((mergedM ts).map (·.c)).Nodup := by
    rw [em, List.map_map]
    have e : ((fun t : Tri => t.c) ∘ triOf ts) = id := rfl
    rw [e, List.map_id]
    exact (colsTo_up ts 6).imp fun h e => by omega
  have lm : (mergedM ts).length ≤ 6 := mergedTo_len ts 6
  refine Sv.at (sv_asgP (ep_dcT (ms := mergedM ts) ((ep_cl (vs := [.ref b]) (ea_cons (ev_var rfl) ea_nil) (spq_merged hb hW lt htc)).imp fun v H2 _ ⟨p, acc, h1, _, h3, h4⟩ => ⟨p, acc, h1, h3, h4⟩) ndm (by omega) (fun _ _ _ => rfl) (fun _ _ _ => rfl) (fun _ _ _ => rfl) (fun _ _ _ => rfl)) ?_)
  rintro v H1 e1 ⟨D, kvs, rfl, hD, en⟩
  -- what the dict gives for a column
  have get : ∀ (x : Int) (o : V) (H2 : Hp), Ex H1 H2 → (∃ q, H2 q = some (.tup [.non, .non]) ∧ o = (valV kvs (Sum.inl x)).getD (.ref q)) → ∃ q, o = .ref q ∧ H2 q = some (.tup [ov (endLo x ts), ov (endHi x ts)]) := fun x o H2 e ⟨q0, h0, ho⟩ => by
    rcases en x with ⟨t, q1, h1, h2, h3, h4⟩ | ⟨h1, h2⟩
    · rw [em] at h1
      obtain ⟨y, hy, rfl⟩ := List.mem_map.mp h1
      have ey : y = x := h2
      subst ey
      rw [h3] at ho
      exact ⟨q1, ho, e _ _ h4⟩
    · rw [h2] at ho
      have ns : ¬ spoken x ts := fun g => by
        obtain ⟨t, t1, t2⟩ := spoken_iff.mp g
        have b6 := htc t t1
        refine h1 (triOf ts x) ?_ rfl
        rw [em]
        exact List.mem_map.mpr ⟨x, (colsTo_mem ts x 6).mpr ⟨g, by omega, by omega⟩, rfl⟩
      rw [endLo_un ns, endHi_un ns]
      exact ⟨q0, ho, h0⟩
  refine sv_asgL (xs := []) (el_lst ea_nil (Nat.zero_le _)) fun pf H2 nf e2 hf => sv_asgL (xs := []) (el_lst ea_nil (Nat.zero_le _)) fun pl H3 nl e3 hl => ?_
  have hf3 := e3 _ _ hf
  have nfl : pf ≠ pl := fun z => by rw [z, nl] at hf; cases hf
  have nH1 : ∀ {a o}, H1 a = some o → a ≠ pf ∧ a ≠ pl := fun {a o} ha => by
    refine ⟨fun z => ?_, fun z => ?_⟩
    · rw [z, nf] at ha
      cases ha
    · have g := e2 _ _ ha
      rw [z, nl] at g
      cases g
  -- the end of both ways
  have fin : ∀ (σ' : L2.St) (H' : Hp), σ'[3]? = some (some (.ref pf)) → σ'[4]? = some (some (.ref pl)) → Ex H1 H' → H' pf = some (.lst ((faF c ts).map V.int)) → H' pl = some (.lst ((faT c ts).map V.int)) → ∀ {nx bk ct}, Sv (tRet (tTup (tCons (tVar 3) (tCons (tVar 4) tNil)))) { nx := nx, rt := Q, bk := bk, ct := ct } σ' H' := fun σ' H' h3 h4 e hf hl nx bk ct =>
    sv_retU (eu_tup (vs := [.ref pf, .ref pl]) (ea_cons (ev_var h3) (ea_cons (ev_var h4) ea_nil)) (by simp)) fun p H4 n4 e4 hp => q _ _ (e1.trans (e.trans e4)) ⟨p, pf, pl, rfl, hp, e4 _ _ hf, e4 _ _ hl⟩
  refine sv_forT (ev_var rfl) (st_of ((e1.trans (e2.trans e3)) _ _ hct)) (fun i σ' H' => ∃ pre y5 y6 y7 y8, σ' = [some (.ref ct), some (.ref b), some (.ref D), some (.ref pf), some (.ref pl), y5, y6, y7, y8] ∧ Ex H1 H' ∧ H' pf = some (.lst (pre.map V.int)) ∧ H' pl = some (.lst (pre.map V.int)) ∧ pre.length ≤ i ∧ faF c ts = pre ++ faF (c.drop i) ts ∧ faT c ts = pre ++ faT (c.drop i) ts)
    ⟨[], _, _, _, _, rfl, e2.trans e3, hf3, hl, Nat.le_refl _, rfl, rfl⟩ (fun i σ' H' ⟨_, _, _, _, _, _, e, _⟩ => st_of ((e1.trans e) _ _ hct)) ?_ ?_
  · rintro i y σ' H' hy ⟨pre, y5, y6, y7, y8, rfl, e, h1, h2, lp, hF, hT⟩
    obtain ⟨x, hx, rfl⟩ := int_at hy
    have hi := (List.getElem?_eq_some_iff.mp hx).1
    have ed : c.drop i = x :: c.drop (i + 1) := by
      rw [List.drop_eq_getElem_cons hi]
      congr 1
      exact (List.getElem?_eq_some_iff.mp hx).2
    rw [ed] at hF hT
    refine sv_un2 (ep_dget2 (kvs := kvs) (k := Sum.inl x) (ev_var rfl) (e _ _ hD) (ev_var rfl) (eu_tup (vs := [.non, .non]) (ea_cons ev_c (ea_cons ev_c ea_nil)) (by simp))) fun o H4 e4 ho => ?_
    obtain ⟨q1, rfl, hq1⟩ := get x o H4 (e.trans e4) ho
    refine ⟨q1, _, _, rfl, st_of hq1, ?_⟩
    have e14 := e.trans e4
    have f4 := e4 _ _ h1
    have l4 := e4 _ _ h2
    have eF : faF (x :: c.drop (i + 1)) ts = if endLo x ts = none ∨ ¬ endLo x ts = endHi x ts then (endLo x ts).toList else (endLo x ts).getD 0 :: faF (c.drop (i + 1)) ts := rfl
    have eT : faT (x :: c.drop (i + 1)) ts = if endLo x ts = none ∨ ¬ endLo x ts = endHi x ts then (endHi x ts).toList else (endLo x ts).getD 0 :: faT (c.drop (i + 1)) ts := rfl
    rw [eF] at hF
    rw [eT] at hT
    generalize endLo x ts = lo at hF hT
    generalize endHi x ts = hi' at hF hT
    clear hq1 eF eT
    refine sv_cut (fun σ' H5 => σ' = [some (.ref ct), some (.ref b), some (.ref D), some (.ref pf), some (.ref pl), some (.int x), some (ov lo), some (ov hi'), y8] ∧ Ex H1 H5 ∧ H5 pf = some (.lst ((pre ++ lo.toList).map V.int)) ∧ H5 pl = some (.lst (pre.map V.int))) ?_ ?_
    · refine sv_if' (p := ¬ lo = none) (tp_cmp (ev_op (ev_var rfl) ev_c rs_ov)) (fun hlo => ?_) (fun hlo => sv_kn ⟨rfl, e14, ?_, l4⟩)
      · refine sv_last (sv_app f4 (ev_var rfl) (ev_var rfl) (by rw [List.length_map]; omega) (sv_kn ⟨rfl, fun a o ha => ?_, ?_, ?_⟩))
        · rw [upd_ne (nH1 ha).1]
          exact e14 _ _ ha
        · rw [upd_same, List.map_append]
          cases lo with
          | none => exact (hlo rfl).elim
          | some l => rfl
        · rw [upd_ne nfl.symm]
          exact l4
      · have hlo' : lo = none := Decidable.of_not_not hlo
        subst hlo'
        rw [show (none : Option Int).toList = [] from rfl, List.append_nil]
        exact f4
    rintro σ' H5 ⟨rfl, e5, f5, l5⟩
    refine sv_cut (fun σ' H6 => σ' = [some (.ref ct), some (.ref b), some (.ref D), some (.ref pf), some (.ref pl), some (.int x), some (ov lo), some (ov hi'), y8] ∧ Ex H1 H6 ∧ H6 pf = some (.lst ((pre ++ lo.toList).map V.int)) ∧ H6 pl = some (.lst ((pre ++ hi'.toList).map V.int))) ?_ ?_
    · refine sv_if' (p := ¬ hi' = none) (tp_cmp (ev_op (ev_var rfl) ev_c rs_ov)) (fun hhi => ?_) (fun hhi => sv_kn ⟨rfl, e5, f5, ?_⟩)
      · refine sv_last (sv_app l5 (ev_var rfl) (ev_var rfl) (by rw [List.length_map]; omega) (sv_kn ⟨rfl, fun a o ha => ?_, ?_, ?_⟩))
        · rw [upd_ne (nH1 ha).2]
          exact e5 _ _ ha
        · rw [upd_ne nfl]
          exact f5
        · rw [upd_same, List.map_append]
          cases hi' with
          | none => exact (hhi rfl).elim
          | some l => rfl
      · have hhi' : hi' = none := Decidable.of_not_not hhi
        subst hhi'
        rw [show (none : Option Int).toList = [] from rfl, List.append_nil]
        exact l5
    rintro σ' H6 ⟨rfl, e6, f6, l6⟩
    refine sv_asg (v := .bl (decide (¬ lo = none ∧ lo = hi'))) (ep_and (ev_op (ev_var rfl) ev_c rs_ov) fun _ => ev_op (ev_var rfl) (ev_var rfl) rp_eqO) ?_
    refine sv_if' (p := ¬ (¬ lo = none ∧ lo = hi')) (tp_not (tp_val (ev_var rfl))) (fun h => ?_) (fun h => ?_)
    · have hp : lo = none ∨ ¬ lo = hi' := by
        by_cases g : lo = none
        · exact .inl g
        · exact .inr fun z => h ⟨g, z⟩
      rw [if_pos hp] at hF hT
      refine sv_break fun H7 e7 => fin _ _ rfl rfl e6 ?_ ?_ H7 e7
      · rw [hF]
        exact f6
      · rw [hT]
        exact l6
    · have hh := Decidable.of_not_not h
      have hp : ¬ (lo = none ∨ ¬ lo = hi') := fun g => g.elim hh.1 fun z => z hh.2
      rw [if_neg hp] at hF hT
      cases lo with
      | none => exact absurd (.inl rfl) hp
      | some l =>
        have eh : hi' = some l := hh.2.symm
        subst eh
        refine sv_kn ⟨pre ++ [l], _, _, _, _, rfl, e6, f6, l6, ?_, ?_, ?_⟩
        · rw [List.length_append]
          simp only [List.length_singleton]
          omega
        · rw [hF, List.append_assoc]
          rfl
        · rw [hT, List.append_assoc]
          rfl
  · rintro σ' H' ⟨pre, y5, y6, y7, y8, rfl, e, h1, h2, lp, hF, hT⟩
    rw [List.length_map, List.drop_length] at hF hT
    rw [show faF [] ts = [] from rfl, List.append_nil] at hF
    rw [show faT [] ts = [] from rfl, List.append_nil] at hT
    refine fin _ _ rfl rfl e ?_ ?_
    · rw [hF]
      exact h1
    · rw [hT]
      exact h2
def RThrough (K : PySem.W.Frag) : List V → Hp → V → Prop := fun args H z => ∃ (a b : Addr) (vs : List V) (rss : List (List Int)) (l : List Int), args = [.ref a, .ref b] ∧ SqL K H a vs ∧ Rw K H vs rss ∧ SqL K H b (l.map V.int) ∧ rss.length ≤ 100000 ∧ (∀ r ∈ rss, r.length ≤ 1000) ∧ l.length ≤ 900 ∧
  (∀ key : List Int, ∀ (i j : Nat) ri rj, rss[i]? = some ri → rss[j]? = some rj → i ≤ j → ahead rj key = true → ahead ri key = true) ∧ z = .int ((if l = [] then rss.length else (rss.filter fun r => ahead r (incL l)).length : Nat) : Int)
theorem ok_through {f : Addr} {fd : FuncData} (F : Fun K "through" "through" s_through f fd) (Z : Zs mg) (c_below : Cl P w K mg base CX0 2 "below" (SpR 2 (RBelow K))) : FnOk P w K mg base CX0 3 f fd ["keys", "last"] (SpR 2 (RThrough K)) := by
  refine F.ok sc_through (fun vs H Q E h => h.1) (fun cdv A outer s H vs Q E hr h => ?_)
  obtain ⟨_, z, ⟨a, b, vs, rss, l, rfl, hA, hR, hB, l1, l2, l3, anti, rfl⟩, q⟩ := h
  refine ⟨_, (pss_cons (ps_if (pt_not (pt_tru (pv 1))) (pss_one (ps_ret (pe_callB (id := "len") (r := rLenS K) c_len (by rfl) Z.len PySem.boot_len (pa_cons (pv 0) pa_nil)))) pss_nil)
      (pss_one (ps_ret (pe_cl c_below hr (by decide) pass0 (by rfl) (pa_cons (pv 0) (pa_cons (pe_op op_cat (pe_slice (r := rSlL K) sl_list (pv 1) po_none (po_some (pe_un un_neg pe_int))) (pe_lst (pa_cons (pe_op op_add (pe_ix (r := rIxL K) ix_list (pv 1) (pe_un un_neg pe_int) (fun _ _ => rfl)) pe_int) pa_nil))) pa_nil)))))), ?_⟩
  try dsimp only [cx_K]
  refine Sv.at (sv_ifB (et_not (et_lst (ev_var rfl) hB)) (fun h => ?_) (fun h => ?_))
  · have e : l = [] := by
      cases l with
      | nil => rfl
      | cons x l => cases h
    rw [if_pos e, ← hR.1] at q
    exact sv_rq q (ev_lenL (ev_var rfl) hA)
  · have e : ¬ l = [] := fun z => by
      rw [z] at h
      cases h
    rw [if_neg e] at q
    have hl : 0 < l.length := List.length_pos_iff.mpr e
    have hla : atI (l.map V.int) (-1) = some (.int (l.getD (l.length - 1) 0)) := by
      have g := atI_end ((l.take (l.length - 1)).map V.int) (V.int (l.getD (l.length - 1) 0))
      have e2 : (l.take (l.length - 1)).map V.int ++ [V.int (l.getD (l.length - 1) 0)] = l.map V.int := by
        rw [show [V.int (l.getD (l.length - 1) 0)] = [l.getD (l.length - 1) 0].map V.int from rfl, ← List.map_append]
        congr 1
        rw [List.getD_eq_getElem?_getD, List.getElem?_eq_getElem (by omega)]
        show l.take (l.length - 1) ++ [l[l.length - 1]] = l
        rw [List.take_append_getElem, List.take_of_length_le (by omega)]
      rw [e2] at g
      exact g
    have xl : EvL (tOp rCat (tSl (rSlL K) (tVar 1) tNoPart (tPart (tUn (rU fun i => .int (-i)) (tC (.int 1))))) (tLst (tCons (tOp (rI0 fun i j => .int (i + j)) (tOp (rIxL K) (tVar 1) (tUn (rU fun i => .int (-i)) (tC (.int 1)))) (tC (.int 1))) tNil))) [some (.ref a), some (.ref b)] H ((incL l).map V.int) := by
      have g := el_cat (EvL.l (el_sl (K := K) (te := tVar 1) (σ := [some (.ref a), some (.ref b)]) (ev_var rfl) eo_none (eo_some (ev_neg ev_c)) hB)) (EvL.l (el_lst (vs := [.int (l.getD (l.length - 1) 0 + 1)]) (ea_cons (ev_op (ev_op (ev_var (i := 1) rfl) (ev_neg ev_c) (rv_ixL hB hla)) ev_c (rv_I0 (g := fun i j => .int (i + j)))) ea_nil) (by simp))) (by
        rw [cut_m1, List.length_take, List.length_map]
        simp only [List.length_singleton]
        omega)
      have e2 : cutV (l.map V.int) none (some (-1)) ++ [V.int (l.getD (l.length - 1) 0 + 1)] = (incL l).map V.int := by
        rw [cut_m1, List.length_map]
        unfold incL
        rw [List.map_append, List.map_take]
        rfl
      rw [e2] at g
      exact g
    have li : (incL l).length ≤ 1000 := by
      unfold incL
      rw [List.length_append, List.length_take]
      simp only [List.length_singleton]
      omega
    exact sv_rq q (ev_clL (ev_var rfl) xl fun p H1 e hp => spv rfl fun H2 e2 => ⟨a, p, vs, rss, incL l, rfl, ex_l (e.trans e2) hA, hR.mono (e.trans e2), ex_l e2 (sq_of hp), l1, l2, li, anti (incL l), rfl⟩)
section
variable {C : Addr}
theorem ok_kcovers {f : Addr} {fd : FuncData} {lv : Nat} (F : Fun K "covers" "Kept.covers" s_Kept_covers f fd) (Z : Zs mg) (cls : Cls K C) (noC : NoAttr K C "columns") (noK : NoAttr K C "_keys") :
    FnOk P w K mg base CX0 (lv + 1) f fd ["self", "wish"] (SpW 2 (RKCovers (keptS cls noC))) := by
  refine F.ok sc_Kept_covers (fun vs H Q E h => h.1) (fun cdv A outer s H vs Q E hr h => ?_)
  obtain ⟨_, F0, T', P', ⟨k, b, c, s, ws, ts, rfl, at_, hb, hW, lt, rfl, rfl⟩, q⟩ := h
  refine ⟨_, (pss_one (ps_ret (pe_callB (id := "all") (r := rAll K) (cr_all rfl) (by rfl) Z.all (by decide +kernel) (pa_cons (pe_lc (own := [("triple", 2)]) (g := gName 2) (tt := tYes) (by rfl) sc_Kept_covers.nd (pi_list (pv 1)) (blkOk_by (own := [("triple", 2)]) (N := ["self", "wish", "triple"]) (sc := defScope s_Kept_covers) (by decide +kernel)) (fun _ _ _ _ _ => (pg_name (i := 2) sc_Kept_covers.nd rfl (Or.inl rfl))) (fun _ _ _ _ _ => pts_nil) (fun _ _ _ _ _ => (pe_cmpR (r := rIn K false) op_in_seq (pe_ix (r := rIxT K) ix_tup (pv 2) pe_int (fun _ _ => rfl)) (pe_fldK (K := K) rfl (pv 0) rfl) (by rfl)))) pa_nil)))), ?_⟩
  try dsimp only [cx_K]
  obtain ⟨dx, ct, pk, ps, ns, h⟩ := (id at_ : KeptA C k c s F0 H)
  have e : (ts.all fun t => decide (t.c ∈ c)) = ((ts.map fun t => decide (t.c ∈ c)).all id) := (all_id _ _).symm
  rw [e] at q
  refine Sv.at (sv_rqN (ret_pure ((keptS cls noC).regn _ _ _) at_ q) ((Ev.n (ev_allB (bs := ts.map fun t => decide (t.c ∈ c)) ?_))))
  rw [List.map_map]
  refine el_lcM (V.bl ∘ fun t : Tri => decide (t.c ∈ c)) (ev_var rfl) hb hW.1 (by have := hW.1; omega) (fun _ => rfl) fun i x m hx hm => ?_
  obtain ⟨p, e, hp⟩ := hW.2 i m hm
  rw [hx] at e
  obtain rfl := Option.some.inj e
  refine ev_op (ev_op (ev_var rfl) ev_c (rv_ixT hp (tv0 m))) (ev_fld (ev_var rfl) h.hk cls noC rfl) ?_
  show RV _ _ _ _ (.bl (decide (m.c ∈ c)))
  rw [← inV_ints]
  exact rv_isT (st_of h.hc) rfl (flat_ints c)
theorem ok_kstretch {f : Addr} {fd : FuncData} (F : Fun K "stretch" "Kept.stretch" s_Kept_stretch f fd) (cls : Cls K C) (noC : NoAttr K C "columns") (noK : NoAttr K C "_keys") (c_first_and_last : Cl P w K mg base CX0 3 "first_and_last" (SpQ 2 (RFirst K)))
    (c_below : Cl P w K mg base CX0 2 "below" (SpR 2 (RBelow K))) (c_through : Cl P w K mg base CX0 3 "through" (SpR 2 (RThrough K))) : FnOk P w K mg base CX0 4 f fd ["self", "wish"] (SpW 2 (RKStretch (keptS cls noC))) := by
  refine F.ok sc_Kept_stretch (fun vs H Q E h => h.1) (fun cdv A outer s H vs Q E hr h => ?_)
  obtain ⟨_, F0, T', P', ⟨k, b, c, s, ws, ts, wd, rfl, at_, hb, hW, lt, l6, wide, htc, hcc, l200, rfl, rfl⟩, q⟩ := h
  refine ⟨_, (pss_cons (ps_asg (pe_cl c_first_and_last hr (by decide) pass0 (by rfl) (pa_cons (pe_fldK (K := K) rfl (pv 0) rfl) (pa_cons (pv 1) pa_nil))) (pg_tup (by rfl) (pgs_cons (pg_name (i := 2) sc_Kept_stretch.nd rfl (Or.inl rfl)) (pgs_cons (pg_name (i := 3) sc_Kept_stretch.nd rfl (Or.inl rfl)) pgs_nil))))
      (pss_cons (ps_set (i := 4) sc_Kept_stretch.nd rfl (Or.inl rfl) (pe_cl c_below hr (by decide) pass0 (by rfl) (pa_cons (pe_fldK (K := K) rfl (pv 0) rfl) (pa_cons (pv 2) pa_nil))))
      (pss_cons (ps_set (i := 5) sc_Kept_stretch.nd rfl (Or.inl rfl) (pe_cl c_through hr (by decide) pass0 (by rfl) (pa_cons (pe_fldK (K := K) rfl (pv 0) rfl) (pa_cons (pv 3) pa_nil))))
      (pss_one (ps_ret (pe_lc (own := [("key", 6)]) (g := gName 6) (tt := tYes) (by rfl) sc_Kept_stretch.nd (pi_list (pe_slice (r := rSlL K) sl_list (pe_fldK (K := K) rfl (pv 0) rfl) (po_some (pv 4)) (po_some (pv 5)))) (blkOk_by (own := [("key", 6)]) (N := ["self", "wish", "first", "last", "start", "end", "key"]) (sc := defScope s_Kept_stretch) (by decide +kernel)) (fun _ _ _ _ _ => (pg_name (i := 6) sc_Kept_stretch.nd rfl (Or.inl rfl))) (fun _ _ _ _ _ => pts_nil) (fun _ _ _ _ _ => (pe_ix (r := rIxL K) ix_list (pv 6) (pe_un un_neg pe_int) (fun _ _ => rfl))))))))), ?_⟩
  try dsimp only [cx_K]
  obtain ⟨dx, ct, pk, ps, ns, h⟩ := (id at_ : KeptA C k c s F0 H)
  have ln : ns.length ≤ 200 := by rw [h.ord.1]; exact h.l2
  have lp : ps.length = ns.length := by
    have := paired_len h.keys
    rw [List.length_map] at this
    exact this
  have c6 := h.c6
  have lF := faF_len c ts
  have lT := faT_len c ts
  have rw0 : Rw K H (ps.map V.ref) (ns.map (ent c s)) := keptA_rw h.keys
  have hq0 : SqL K H pk (ps.map V.ref) := sq_of h.hp
  refine Sv.at (sv_un2 (ep_cl (vs := [.ref ct, .ref b]) (ea_cons (ev_fld (ev_var rfl) h.hk cls noC rfl) (ea_cons (ev_var rfl) ea_nil)) (spq (P := fun v H2 => ∃ p pf pl, v = .ref p ∧ H2 p = some (.tup [.ref pf, .ref pl]) ∧ H2 pf = some (.lst ((faF c ts).map V.int)) ∧ H2 pl = some (.lst ((faT c ts).map V.int))) rfl fun H1 e => ⟨_, ⟨ct, b, c, ws, ts, rfl, e _ _ h.hc, ex_l e hb, hW.mono e, lt, fun t ht => by have := htc t ht; omega, c6, rfl⟩, fun v H2 h => h⟩)) fun v H1 e1 ⟨p, pf, pl, ev, hp, hf, hl⟩ => ?_)
  refine ⟨p, _, _, ev, st_of hp, ?_⟩
  have fk : ∀ (σ' : L2.St) (H' : Hp), Ex H H' → σ'[0]? = some (some (.ref k)) → Ev (tFld K (tVar 0) "_keys") σ' H' (.ref pk) := fun σ' H' e h0 => ev_fld (ev_var h0) (e _ _ h.hk) cls noK rfl
  refine sv_asg (v := .int ((cntA c s ns (faF c ts) : Nat) : Int)) (ev_cl (vs := [.ref pk, .ref pf]) (ea_cons (fk _ _ e1 rfl) (ea_cons (ev_var rfl) ea_nil)) (spv rfl fun H2 e => ⟨pk, pf, _, _, _, rfl, ex_l (e1.trans e) hq0, rw0.mono (e1.trans e), ex_l e (sq_of hf), by rw [List.length_map]; omega, rw_len rfl h.c6, by omega, asc_anti h.ord.asc _, rfl⟩)) ?_
  refine sv_asg (v := .int ((if faT c ts = [] then ns.length else cntA c s ns (incL (faT c ts)) : Nat) : Int)) (ev_cl (vs := [.ref pk, .ref pl]) (ea_cons (fk _ _ e1 rfl) (ea_cons (ev_var rfl) ea_nil)) (spv rfl fun H2 e => ⟨pk, pl, _, _, _, rfl, ex_l (e1.trans e) hq0, rw0.mono (e1.trans e), ex_l e (sq_of hl), by rw [List.length_map]; omega, rw_len rfl h.c6, by omega, fun key => asc_anti h.ord.asc key, by rw [List.length_map]; rfl⟩)) ?_
  have hst := cntA_le c s ns (faF c ts)
  have hen : (if faT c ts = [] then ns.length else cntA c s ns (incL (faT c ts))) ≤ ns.length := by
    split
    · exact Nat.le_refl _
    · exact cntA_le _ _ _ _
  have iS := fun j n hj => cntA_iff (key := faF c ts) h.ord.asc (j := j) (n := n) hj
  have iE : ∀ (j : Nat) (n : Int), ns[j]? = some n → ((faT c ts = [] ∨ ahead (ent c s n) (incL (faT c ts)) = true) ↔ j < (if faT c ts = [] then ns.length else cntA c s ns (incL (faT c ts)))) := fun j n hj => by
    by_cases g : faT c ts = []
    · rw [if_pos g]
      exact ⟨fun _ => (List.getElem?_eq_some_iff.mp hj).1, fun _ => .inl g⟩
    · rw [if_neg g, ← cntA_iff h.ord.asc hj]
      exact ⟨fun z => z.elim (fun y => (g y).elim) id, .inr⟩
  generalize cntA c s ns (faF c ts) = st at hst iS
  generalize (if faT c ts = [] then ns.length else cntA c s ns (incL (faT c ts))) = en at hen iE
  have sl := el_sl (K := K) (te := tFld K (tVar 0) "_keys") (fk [some (.ref k), some (.ref b), some (.ref pf), some (.ref pl), some (.int (st : Int)), some (.int (en : Int)), none] H1 e1 rfl) (eo_some (ev_var (i := 4) rfl)) (eo_some (ev_var (i := 5) rfl)) (ex_l e1 hq0)
  rw [cut_ab, List.length_map, lp, Nat.min_eq_left hst, Nat.min_eq_left hen, ← List.map_drop, ← List.map_take] at sl
  refine sv_rqN (retN_mono e1 (ret_pure ((keptS cls noC).regn _ _ _) at_ q)) ((EvL.n (xs := ((ns.drop st).take (en - st)).map V.int) (el_lcNM V.int sl ?_ ?_ (fun _ => rfl) fun i x m hx hm => ?_)).imp ?_)
  · rw [List.length_map, List.length_take, List.length_take, List.length_drop, List.length_drop, lp]
  · rw [List.length_map, List.length_take, List.length_drop, lp]
    omega
  · have h1 : ns[st + i]? = some m := by
      rw [List.getElem?_take] at hm
      split at hm
      · rw [List.getElem?_drop] at hm
        exact hm
      · cases hm
    have h2 : (ps.map V.ref)[st + i]? = some x := by
      rw [List.getElem?_map] at hx ⊢
      rw [List.getElem?_take] at hx
      split at hx
      · rw [List.getElem?_drop] at hx
        exact hx
      · cases hx
    obtain ⟨p, rfl, rx⟩ := last_key (K := K) h.keys e1 h2 h1
    exact ev_op (ev_var rfl) (ev_neg ev_c) rx
  · rintro v N ⟨p, rfl, hp⟩
    have get : ∀ (i : Nat) m, ((ns.drop st).take (en - st))[i]? = some m ↔ ns[st + i]? = some m ∧ st + i < en := fun i m => by
      rw [List.getElem?_take]
      split
      · rw [List.getElem?_drop]
        exact ⟨fun z => ⟨z, by omega⟩, fun z => z.1⟩
      · exact ⟨fun z => (nomatch z), fun z => (by omega)⟩
    refine ⟨p, _, rfl, hp, ⟨fun n hn => ?_, fun i a b ha hb => ?_⟩, fun n => ?_⟩
    · obtain ⟨i, hi⟩ := List.mem_iff_getElem?.mp hn
      exact h.ord.2.1 n (List.mem_of_getElem? ((get i n).mp hi).1)
    · exact h.ord.2.2 (st + i) a b ((get i a).mp ha).1 ((get _ b).mp hb).1
    · have key : ∀ r, rowOf s n = some r → inS c r ts = (!ahead (ent c s n) (faF c ts) && (decide (faT c ts = []) || ahead (ent c s n) (incL (faT c ts)))) := fun r hr => by
        rw [ent_key hr]
        exact in_keys c r n ts
      constructor
      · intro hn
        obtain ⟨i, hi⟩ := List.mem_iff_getElem?.mp hn
        obtain ⟨h1, h2⟩ := (get i n).mp hi
        obtain ⟨r, hr⟩ := h.ord.2.1 n (List.mem_of_getElem? h1)
        refine ⟨r, hr, ?_⟩
        rw [key r hr, Bool.and_eq_true, Bool.or_eq_true, decide_eq_true_eq, Bool.not_eq_true']
        refine ⟨?_, (iE _ n h1).mpr h2⟩
        cases g : ahead (ent c s n) (faF c ts) with
        | false => rfl
        | true =>
          have := (iS _ n h1).mp g
          omega
      · rintro ⟨r, hr, hin⟩
        rw [key r hr, Bool.and_eq_true, Bool.or_eq_true, decide_eq_true_eq, Bool.not_eq_true'] at hin
        obtain ⟨j, hj⟩ := List.mem_iff_getElem?.mp (h.all n r hr)
        have g1 : st ≤ j := Nat.le_of_not_lt fun z => by
          have := (iS j n hj).mpr z
          rw [hin.1] at this
          cases this
        have g2 := (iE j n hj).mp hin.2
        exact List.mem_iff_getElem?.mpr ⟨j - st, (get _ n).mpr ⟨by rw [show st + (j - st) = j by omega]; exact hj, by omega⟩⟩
end

variable (S : KS K)
def RGood : List V → Hp → Reg → RP → (V → Hp → Prop) → Prop := fun vs H F T' P => ∃ (k pr pc pw ph pl : Addr) (c : List Int) (rss : List (List Int)) (rws ws : List V) (ts : List Tri) (n wd : Nat) (L : Hp), vs = [.ref k, .ref pr, .ref pc, .ref pw, .ref ph, .ref pl] ∧ Two (S.at_ k c (numd rss)) (HeldR pl n) F H ∧
  Ex L H ∧ (∀ a, F a → L a = none) ∧ SqL K L pr rws ∧ Rw K L rws rss ∧ SqT K L pc (c.map V.int) ∧ SqL K L pw ws ∧ SqL K L ph ws ∧ Wt K L ws ts ∧ ts.length ≤ 20 ∧ rss.length ≤ 200 ∧ wd ≤ 6 ∧ (∀ r ∈ rss, r.length = wd) ∧ (∀ t ∈ ts, 0 ≤ t.c ∧ t.c < wd) ∧ (∀ x ∈ c, 0 ≤ x ∧ x < wd) ∧ c.length ≤ 6 ∧ n < 1000 ∧
  T' = Two (S.at_ k c (numd rss)) (HeldR pl (n + 1)) ∧ P = fun v _ => v = .bl true
theorem ok_good {f : Addr} {fd : FuncData} (F : Fun K "_law_good" "_law_good" s_l_good f fd) (Z : Zs mg) (c_stretch : Mt P w K mg base CX0 4 S.C "stretch" (SpW 2 (RKStretch S))) (c_covers : Mt P w K mg base CX0 3 S.C "covers" (SpW 2 (RKCovers S)))
    (c_l_in_order : Cl P w K mg base CX0 2 "_law_in_order" (SpR 3 (RInOrdL K))) (c_l_in_stretch : Cl P w K mg base CX0 2 "_law_in_stretch" (SpR 3 (RInS K))) : FnOk P w K mg base CX0 5 f fd ["_law_kept", "_law_rows", "_law_columns", "_law_wish", "_law_handed", "_law_held"] (SpW 6 (RGood S)) := by
  refine F.ok sc_l_good (fun vs H Q E h => h.1) (fun cdv A outer s H vs Q E hr h => ?_)
  obtain ⟨_, F, T', P', ⟨k, pr, pc, pw, ph, pl, c, rss, rws, ws, ts, n, wd, L, rfl, t, eLH, dF, hpr, hR, hpc, hpw, hph, hW, lt, lr, l6, hrw, htc, hcc, lc, hn, rfl, rfl⟩, q⟩ := h
  refine ⟨_, (pss_cons (ps_set (i := 6) sc_l_good.nd rfl (Or.inl rfl) (pe_m c_stretch hr (by decide) pass0 (pv 0) (pa_cons (pv 4) pa_nil)))
      (pss_cons (ps_set (i := 7) sc_l_good.nd rfl (Or.inl rfl) (pe_m c_covers hr (by decide) pass0 (pv 0) (pa_cons (pv 4) pa_nil)))
      (pss_cons (ps_if (PW.pt (pw_or (pt_not (pt_val (pe_callB (id := "isinstance") (r := rIsi K) call_isi (by rfl) Z.isinstance (by decide +kernel) (pa_cons (pv 6) (pa_cons (pe_bltn (v := .ty "list") (by rfl) Z.list (by decide +kernel) rfl) pa_nil))))) (pw_or (pt_not (pt_val (pe_callB (id := "isinstance") (r := rIsi K) call_isi (by rfl) Z.isinstance (by decide +kernel) (pa_cons (pv 7) (pa_cons (pe_bltn (v := .ty "bool") (by rfl) Z.bool (by decide +kernel) rfl) pa_nil))))) (pw_or1 (pt_cmpR (r := rNeD K) (op_neD hr.units) (pv 4) (pv 3) (nomark _)))))) (pss_one (ps_ret pe_bl)) pss_nil)
      (pss_cons (ps_if (pt_cmpR op_ne (pv 7) (pe_cmpR op_eq (pe_callB (id := "len") (r := rLenS K) c_len (by rfl) Z.len PySem.boot_len (pa_cons (pe_lc (own := [("_law_one", 9)]) (g := gName 9)  (by rfl) sc_l_good.nd (pi_list (pv 3)) (blkOk_by (own := [("_law_one", 9)]) (N := ["_law_kept", "_law_rows", "_law_columns", "_law_wish", "_law_handed", "_law_held", "_law_found", "_law_covers", "_law_due", "_law_one", "_law_number"]) (sc := defScope s_l_good) (by decide +kernel)) (fun _ _ _ _ _ => (pg_name (i := 9) sc_l_good.nd rfl (Or.inl rfl))) (fun _ _ _ _ _ => (pts_one (pt_cmpR (r := rIn K true) op_notIn_seq (pe_ix (r := rIxT K) ix_tup (pv 9) pe_int (fun _ _ => rfl)) (pv 2) (by rfl)))) (fun _ _ _ _ _ => pe_int)) pa_nil)) pe_int (nomark _)) (nomark _)) (pss_one (ps_ret pe_bl)) pss_nil)
      (pss_cons (ps_setLc (i := 8) rfl sc_l_good.nd rfl rfl (sw_true rfl rfl rfl (by decide +kernel)) (pi_range1 (by rfl) Z.range (pa_cons (pe_callB (id := "len") (r := rLenS K) c_len (by rfl) Z.len PySem.boot_len (pa_cons (pv 1) pa_nil)) pa_nil)) (blkOk_by (own := [("_law_number", 10)]) (N := ["_law_kept", "_law_rows", "_law_columns", "_law_wish", "_law_handed", "_law_held", "_law_found", "_law_covers", "_law_due", "_law_one", "_law_number"]) (sc := defScope s_l_good) (by decide +kernel)) (fun _ _ _ _ _ => (pg_name (i := 10) sc_l_good.nd rfl (Or.inl rfl))) (fun _ _ _ _ _ => (pts_one (pt_val (pe_cl c_l_in_stretch hr (by decide) pass0 (by rfl) (pa_cons (pe_ix (r := rIxL K) ix_list (pv 1) (pv 10) (fun _ _ => rfl)) (pa_cons (pv 2) (pa_cons (pv 3) pa_nil))))))) (fun _ _ _ _ _ => (pv 10)))
      (pss_cons (ps_if (PW.pt (pw_or (pt_not (pt_val (pe_cl c_l_in_order hr (by decide) pass0 (by rfl) (pa_cons (pv 6) (pa_cons (pv 1) (pa_cons (pv 2) pa_nil)))))) (pw_or1 (pt_cmpR (r := rNeD K) (op_neD hr.units) (pe_callB (id := "sorted") cr_sortedI (by rfl) Z.sorted (by decide +kernel) (pa_cons (pv 6) pa_nil)) (pv 8) (nomark _))))) (pss_one (ps_ret pe_bl)) pss_nil)
      (pss_cons (ps_expr (pe_bm PySem.F.plainAttrs_list PySem.F.slot_list_append PySem.F.type_list_append mt_append (pv 6) (pa_cons (pe_un un_neg pe_int) pa_nil)))
      (pss_cons (ps_expr (pe_bm PySem.F.plainAttrs_list PySem.F.slot_list_append PySem.F.type_list_append mt_append (pv 5) (pa_cons (pe_lst (pa_cons (pv 6) (pa_cons (pe_callTy (T := "list") (r := rListS K) c_list (by rfl) Z.list (by decide +kernel) (pa_cons (pv 6) pa_nil)) pa_nil))) pa_nil)))
      (pss_one (ps_ret (pe_and (pe_cmpR (r := rEqD K) (op_eqD hr.units) (pe_callB (id := "sorted") cr_sortedI (by rfl) Z.sorted (by decide +kernel) (pa_cons (pe_m c_stretch hr (by decide) pass0 (pv 0) (pa_cons (pv 4) pa_nil)) pa_nil)) (pv 8) (nomark _)) (pe_one (pe_cmpR op_eq (pe_callB (id := "len") (r := rLenS K) c_len (by rfl) Z.len PySem.boot_len (pa_cons (pv 6) pa_nil)) (pe_op op_add (pe_callB (id := "len") (r := rLenS K) c_len (by rfl) Z.len PySem.boot_len (pa_cons (pv 8) pa_nil)) pe_int) (nomark _)))))))))))))), ?_⟩
  try dsimp only [cx_K]
  obtain ⟨F1, F2, t1, ⟨ps, hps, hE⟩, dj, ff⟩ := id t
  have tt0 : Two (S.at_ k c (numd rss)) (HeldE pl ps) F H := ⟨F1, F2, t1, hE, dj, ff⟩
  have RT : Regn (Two (S.at_ k c (numd rss)) (HeldE pl ps)) := (S.regn _ _ _).two (heldE_regn pl ps)
  refine (?_ : SvW _ _ _ (Two (S.at_ k c (numd rss)) (HeldE pl ps)) F (fun a => H a ≠ none) (Out F H)) H (start_1 tt0)
  have e0 := out_of eLH dF
  have kp0 : Ex (Out F H) (Out F H) := Ex.refl _
  have hpr := ex_l e0 hpr
  have hR := hR.mono e0
  have hpc := ex_t e0 hpc
  have hpw := ex_l e0 hpw
  have hph := ex_l e0 hph
  have hW := hW.mono e0
  have wide : Wide (numd rss) wd := numd_wide hrw
  have ln : (numd rss).length ≤ 200 := by rw [numd_len]; exact lr
  have obj : ∀ {ps' : List HeldP} {F0 B : Reg} {L H : Hp}, Wld (Two (S.at_ k c (numd rss)) (HeldE pl ps')) F0 B L H → (∃ dx fs, H k = some (.ins S.C dx fs) ∧ fs.lookup ("stretch" : Str) = none ∧ fs.lookup ("covers" : Str) = none) ∧ ∃ F2, HeldE pl ps' F2 H := fun w => by
    obtain ⟨_, ⟨_, _, a, b, _⟩, _⟩ := w
    obtain ⟨dx, fs, ct, h1, _, _, _, _, _, h2, h3⟩ := S.ins a
    exact ⟨⟨dx, fs, h1, h2, h3⟩, _, b⟩
  have str : ∀ {ps' : List HeldP} {F0 B : Reg} {L : Hp}, SqL K L ph ws → Wt K L ws ts → SpWP (SpW 2 (RKStretch S)) [.ref k, .ref ph] (Two (S.at_ k c (numd rss)) (HeldE pl ps')) (Two (S.at_ k c (numd rss)) (HeldE pl ps')) F0 B L fun v N => ∃ (p : Addr) (ns : List Int), v = .ref p ∧ N p = some (.lst (ns.map V.int)) ∧ Asc c (numd rss) ns ∧ ∀ n, n ∈ ns ↔ ∃ r, rowOf (numd rss) n = some r ∧ inS c r ts = true := fun {ps' F0 B L} h1 h2 =>
    spw_l (S.regn _ _ _) (heldE_regn _ _) rfl fun H' F' t e dj => ⟨k, ph, c, numd rss, ws, ts, wd, rfl, t, ex_l e h1, h2.mono e, lt, l6, wide, htc, hcc, ln, rfl, rfl⟩
  generalize hL0 : Out F H = L0 at hpr hR hpc hpw hph hW kp0
  have hL0' : Ex (Out F H) L0 := by
    rw [hL0]
    exact Ex.refl _
  refine vw_asgW (ew_mt RT (ev_var rfl) (fun H w => let ⟨⟨dx, fs, a, b, _⟩, _⟩ := obj w; ⟨dx, fs, a, b⟩) (vs := [.ref ph]) (by repeat' walk_at "s") (str hph hW)) ?_
  rintro v N1 d1 ⟨pf, ns, rfl, hpf, hasc, hmem⟩
  have hpf1 : (Unn N1 L0) pf = some (.lst (ns.map V.int)) := unn_l (fun a z => (d1 a z).1) _ _ hpf
  have npf := d1 pf (by rw [hpf]; exact fun z => by cases z)
  have e1 : Ex L0 (Unn N1 L0) := unn_r
  generalize Unn N1 L0 = L1 at hpf1 e1
  refine vw_asgW (T' := Two (S.at_ k c (numd rss)) (HeldE pl ps)) (P := fun v _ => v = .bl (covM c ts)) (ew_mt RT (ev_var rfl) (fun H w => let ⟨⟨dx, fs, a, _, b⟩, _⟩ := obj w; ⟨dx, fs, a, b⟩) (vs := [.ref ph]) (by repeat' walk_at "s") (spw_l (S.regn _ _ _) (heldE_regn _ _) rfl fun H' F' t e dj => ⟨k, ph, c, numd rss, ws, ts, rfl, t, ex_l (e1.trans e) hph, hW.mono (e1.trans e), lt, rfl, rfl⟩)) ?_
  rintro v N2 d2 rfl
  have hpf2 := (unn_r (N := N2)) _ _ hpf1
  have e2 := e1.trans (unn_r (N := N2))
  generalize Unn N2 L1 = L2 at hpf2 e2
  have sf2 : SqL K L2 pf (ns.map V.int) := sq_of hpf2
  have hW2 := hW.mono e2
  refine vw_when (p := ¬ True ∨ ¬ True ∨ False) RT ?_ (fun h => by simp at h) (fun _ => ?_)
  · exact tp_or (tp_not (tp_valT (ev_isi (ev_var rfl) (fun _ e => tyx_l (ex_l e sf2)) (kit_ty (by decide +kernel))))) fun _ => tp_or (tp_not (tp_valT (ev_isi (ev_var rfl) (fun _ _ => .base (.bl _)) (kit_ty (by decide +kernel))))) fun _ => tp_cmp (ev_op (ev_var rfl) (ev_var rfl) (rd_neSame (.lst (ex_l e2 hph) (wt_dp hW2)) (.lst (ex_l e2 hpw) (wt_dp hW2)) (shp_wish ts) (by decide)))
  refine vw_when (p := ¬ covM c ts = covM c ts) RT ?_ (fun h => absurd rfl h) (fun _ => ?_)
  · have g : EvL (tLc (iList K (tVar 3)) (gName 9) (tTest (tOp (rIn K true) (tOp (rIxT K) (tVar 9) (tC (.int 0))) (tVar 2))) (tC (.int 1)) [9]) [some (.ref k), some (.ref pr), some (.ref pc), some (.ref pw), some (.ref ph), some (.ref pl), some (.ref pf), some (.bl (covM c ts)), none, none, none] L2 (given ws.length (fun i => !decide ((ts.getD i t0).c ∈ c)) fun _ => .int 1) := by
      refine el_lcL (fun i => !decide ((ts.getD i t0).c ∈ c)) (fun _ => .int 1) (ev_var rfl) (ex_l e2 hpw) (by rw [hW.1]; omega) (fun _ => rfl) (fun i x H3 e3 hx => ?_) (fun i x H3 e3 hx _ => ev_c)
      obtain ⟨t, p, htt, rfl, hp⟩ := (hW2.mono e3).at hx
      have et := getD_at htt
      rw [et]
      exact et_test (ev_op (ev_op (ev_var rfl) ev_c (rv_ixT hp (tv0 t))) (ev_var rfl) (rv_ninI (ex_t (e2.trans e3) hpc)))
    have g2 := ev_op (ev_lenN (K := K) g) (ev_c (v := .int 0)) rp_eqI
    rw [hW.1, cov_given] at g2
    exact tp_cmp (ev_op (ev_var rfl) g2 rp_neB)
  have hRl := hR.1
  refine vw_asgN RT (EvL.n (el_lcR1 (n := (rws.length : Int)) (fun i => inS c (rss.getD i []) ts) (fun i => .int (i : Int)) (ea_cons (ev_lenL (ev_var rfl) (ex_l e2 hpr)) ea_nil) (by omega) (fun _ => rfl) (fun i H3 e3 hi => ?_) (fun i H3 e3 hi _ => ev_var rfl))) ?_
  · have hi2 : i < rss.length := by omega
    have hg : rss[i]? = some rss[i] := List.getElem?_eq_getElem hi2
    obtain ⟨pq, h1, h2⟩ := (hR.mono (e2.trans e3)).2 i _ hg
    have ed : rss.getD i [] = rss[i] := by
      rw [List.getD_eq_getElem?_getD, hg]
      rfl
    rw [ed]
    have hw1 := hrw _ (List.getElem_mem hi2)
    exact et_B (ev_cl (vs := [.ref pq, .ref pc, .ref pw]) (ea_cons (ev_op (ev_var rfl) (ev_var rfl) (rv_ixL (ex_l (e2.trans e3) hpr) (atI_nat h1))) (ea_cons (ev_var rfl) (ea_cons (ev_var rfl) ea_nil))) (spv_inS h2 (ex_t (e2.trans e3) hpc) (ex_l (e2.trans e3) hpw) (hW.mono (e2.trans e3)) (fun x hx => by have := hcc x hx; omega)))
  rintro v N3 d3 ⟨pd, rfl, hpd⟩
  have edue : given (rws.length : Int).toNat (fun i => inS c (rss.getD i []) ts) (fun i => V.int (i : Int)) = (dueM c rss ts).map V.int := by
    unfold given dueM
    rw [List.map_map, Int.toNat_natCast, hRl]
    rfl
  rw [edue] at hpd
  have hpd3 : (Unn N3 L2) pd = some (.lst ((dueM c rss ts).map V.int)) := unn_l (fun a z => (d3 a z).1) _ _ hpd
  have npd : pd ≠ pf := fun e => by
    have := (d3 pd (by rw [hpd]; exact fun z => by cases z)).1
    rw [e, hpf2] at this
    cases this
  have hpf3 := (unn_r (N := N3)) _ _ hpf2
  have e3 := e2.trans (unn_r (N := N3))
  generalize Unn N3 L2 = L3 at hpd3 hpf3 e3
  have sf3 : SqL K L3 pf (ns.map V.int) := sq_of hpf3
  have sd3 : SqL K L3 pd ((dueM c rss ts).map V.int) := sq_of hpd3
  have hnd := asc_nodup hasc
  have hmd : ∀ n, n ∈ ns ↔ n ∈ dueM c rss ts := fun n => (hmem n).trans due_mem.symm
  have hpm : ns.Perm (dueM c rss ts) := (List.perm_ext_iff_of_nodup hnd ((due_lt c rss ts).imp fun h e => by omega)).mpr hmd
  have hlen := hpm.length_eq
  have hdl := due_len c rss ts
  refine vw_when (p := ¬ True ∨ False) RT ?_ (fun h => by simp at h) (fun _ => ?_)
  · refine tp_or (tp_not (tp_valT (ev_cl (vs := [.ref pf, .ref pr, .ref pc]) (by repeat' walk_at "s") (spv_in_ord sf3 (ex_l e3 hpr) (hR.mono e3) (ex_t e3 hpc) hasc (by omega) fun r hr x hx => by
      have h1 := hrw r hr
      have h2 := hcc x hx
      omega)))) fun _ => tp_cmp (ev_opP (ep_sorted (ev_var rfl) sf3) (ev_var rfl) ?_)
    rintro x H2 e ⟨p, ys, rfl, hp, perm, srt⟩
    have ey := sorted_due hnd perm srt (due_lt c rss ts) hmd
    rw [ey] at hp
    exact rd_neSame (dp_ints (sq_of hp)) (dp_ints (ex_l e sd3)) (shp_listI _) (by decide)
  refine vw_app RT hpf3 (ev_var rfl) (ev_neg ev_c) (by rw [List.length_map]; omega) ?_
  have fl4 : Fl (upd L3 pf (.lst (ns.map V.int ++ [.int (-1)]))) (ns.map V.int ++ [.int (-1)]) := by
    have g := fl_ints (H := upd L3 pf (.lst (ns.map V.int ++ [.int (-1)]))) (ns ++ [-1])
    rw [List.map_append] at g
    exact g
  have hpf4 : (upd L3 pf (.lst (ns.map V.int ++ [.int (-1)]))) pf = some (.lst (ns.map V.int ++ [.int (-1)])) := upd_same
  have hpd4 : (upd L3 pf (.lst (ns.map V.int ++ [.int (-1)]))) pd = some (.lst ((dueM c rss ts).map V.int)) := by
    rw [upd_ne npd]
    exact hpd3
  have e4 : Ex L0 (upd L3 pf (.lst (ns.map V.int ++ [.int (-1)]))) := fun a o ha => by
    rw [upd_ne (ne_of_none ha npf.1)]
    exact e3 a o ha
  generalize upd L3 pf (.lst (ns.map V.int ++ [.int (-1)])) = L4 at fl4 hpf4 hpd4 e4
  have e5 : Ex L0 (Out (fun a => a = pf) L4) := fun a o ha => by
    rw [out_at (F := fun a => a = pf) (ne_of_none ha npf.1)]
    exact e4 a o ha
  have hpd5 : (Out (fun a => a = pf) L4) pd = some (.lst ((dueM c rss ts).map V.int)) := by
    rw [out_at (F := fun a => a = pf) npd]
    exact hpd4
  have sf4 : SqL K L4 pf (ns.map V.int ++ [.int (-1)]) := sq_of hpf4
  refine vw_held (L' := Out (fun a => a = pf) L4) (S.regn _ _ _) (fun H w => ev_var rfl) hpf4 npf.2 (by omega) fl4 (en_lst (ean_cons (ev_var rfl) (ean_one (EvL.n (el_list (ev_var rfl) sf4)))) ?_) ?_ out_ex (out_no rfl) fun pq pg => ?_
  · rintro vs N ⟨us, rfl, v, rfl, _⟩
    simp
  · rintro v N ⟨p, vs, N0, rfl, hp, ⟨us, rfl, v, rfl, p2, rfl, hp2⟩, eN⟩
    exact ⟨p, p2, rfl, hp, eN _ _ hp2⟩
  generalize Out (fun a => a = pf) L4 = L5 at e5 hpd5
  have RT2 : Regn (Two (S.at_ k c (numd rss)) (HeldE pl (ps ++ [⟨pq, pf, pg, ns.map V.int ++ [.int (-1)]⟩]))) := (S.regn _ _ _).two (heldE_regn _ _)
  refine vw_retW (ew_and' (T' := Two (S.at_ k c (numd rss)) (HeldE pl (ps ++ [⟨pq, pf, pg, ns.map V.int ++ [.int (-1)]⟩]))) (T'' := Two (S.at_ k c (numd rss)) (HeldE pl (ps ++ [⟨pq, pf, pg, ns.map V.int ++ [.int (-1)]⟩]))) (v := .bl (decide (((ns.map V.int ++ [V.int (-1)]).length : Int) = ((dueM c rss ts).length : Int) + 1)))
    (ew_opR RT2 (ew_sorted RT2 (ew_mt RT2 (ev_var rfl) (fun H w => let ⟨⟨dx, fs, a, b, _⟩, _⟩ := obj w; ⟨dx, fs, a, b⟩) (vs := [.ref ph]) (by repeat' walk_at "s") (str (ex_l e5 hph) (hW.mono e5)))) (ev_var rfl) ?_) (fun N6 d6 => ew_at RT2 fun H' w' => ?_)) ?_
  · rintro x N6 d6 ⟨p, ns2, ys, rfl, hp, ⟨ha2, hm2⟩, perm, srt⟩
    have ey := sorted_due (asc_nodup ha2) perm srt (due_lt c rss ts) fun n => (hm2 n).trans due_mem.symm
    rw [ey] at hp
    exact rd_eqSame (dp_ints (sq_of (unn_l (fun a z => (d6 a z).1) _ _ hp))) (dp_ints (sq_of (unn_r _ _ hpd5))) (shp_listI _) (by decide)
  · obtain ⟨_, F2', _, _, hE2, _⟩ := obj w'
    obtain ⟨_, a2, _⟩ := hE2 _ (List.mem_append.mpr (.inr (List.mem_singleton.mpr rfl)))
    have sf6 : SqL K H' pf (ns.map V.int ++ [.int (-1)]) := sq_of a2
    have sd6 : SqL K H' pd ((dueM c rss ts).map V.int) := sq_of (w'.lx _ _ (unn_r _ _ hpd5))
    exact ev_op (ev_lenL (ev_var rfl) sf6) (ev_op (ev_lenI (ev_var rfl) sd6) ev_c rv_I0) rp_eqI
  · rintro v N6 H' d6 rfl w'
    have et : V.bl (decide (((ns.map V.int ++ [V.int (-1)]).length : Int) = ((dueM c rss ts).length : Int) + 1)) = .bl true := by
      congr 1
      refine decide_eq_true ?_
      rw [List.length_append, List.length_map, hlen]
      rfl
    rw [et]
    refine close_1 (P := fun v _ => v = .bl true) ((S.regn _ _ _).two (heldR_regn pl n)) t (T' := Two (S.at_ k c (numd rss)) (HeldR pl (n + 1))) (fun v N H' F' fr tw g dn en pv => q v N H' F' fr tw g dn en pv) (w'.imp fun F' tt => two_impr (fun F hh => ⟨_, ?_, hh⟩) tt) (hL0'.trans (e5.trans unn_r)) rfl
    rw [List.length_append]
    simp only [List.length_singleton]
    omega
theorem heldR_mono {pl : Addr} {n m : Nat} (h : n ≤ m) {F : Reg} {H : Hp} (t : HeldR pl n F H) : HeldR pl m F H := let ⟨ps, a, b⟩ := t; ⟨ps, Nat.le_trans a h, b⟩
/-- a list of wishes -/
def Wishes (K : PySem.W.Frag) (L : Hp) (wvs : List V) (wd : Nat) : Prop := ∀ x ∈ wvs, ∃ (q : Addr) (ws : List V) (ts : List Tri), x = .ref q ∧ L q = some (.lst ws) ∧ Wt K L ws ts ∧ ts.length ≤ 20 ∧ ∀ t ∈ ts, 0 ≤ t.c ∧ t.c < wd
theorem Wishes.mono {L L' : Hp} {wvs : List V} {wd : Nat} (e : Ex L L') (h : Wishes K L wvs wd) : Wishes K L' wvs wd := fun x hx => let ⟨q, ws, ts, a, b, c, d⟩ := h x hx; ⟨q, ws, ts, a, e _ _ b, c.mono e, d⟩
def RAllGood : List V → Hp → Reg → RP → (V → Hp → Prop) → Prop := fun vs H F T' P => ∃ (k pr pc pw pl : Addr) (c : List Int) (rss : List (List Int)) (rws wvs : List V) (n wd : Nat) (L : Hp), vs = [.ref k, .ref pr, .ref pc, .ref pw, .ref pl] ∧ Two (S.at_ k c (numd rss)) (HeldR pl n) F H ∧
  Ex L H ∧ (∀ a, F a → L a = none) ∧ SqL K L pr rws ∧ Rw K L rws rss ∧ SqT K L pc (c.map V.int) ∧ SqL K L pw wvs ∧ Wishes K L wvs wd ∧ wvs.length ≤ 3 ∧ rss.length ≤ 200 ∧ wd ≤ 6 ∧ (∀ r ∈ rss, r.length = wd) ∧ (∀ x ∈ c, 0 ≤ x ∧ x < wd) ∧ c.length ≤ 6 ∧ n < 900 ∧
  T' = Two (S.at_ k c (numd rss)) (HeldR pl (n + 3)) ∧ P = fun v _ => v = .bl true
theorem ok_all_good {f : Addr} {fd : FuncData} (F : Fun K "_law_all_good" "_law_all_good" s_l_all_good f fd) (Z : Zs mg) (c_l_good : Cl P w K mg base CX0 5 "_law_good" (SpW 6 (RGood S))) : FnOk P w K mg base CX0 6 f fd ["_law_kept", "_law_rows", "_law_columns", "_law_wishes", "_law_held"] (SpW 5 (RAllGood S)) := by
  refine F.ok sc_l_all_good (fun vs H Q E h => h.1) (fun cdv A outer s H vs Q E hr h => ?_)
  obtain ⟨_, F, T', P', ⟨k, pr, pc, pw, pl, c, rss, rws, wvs, n, wd, L, rfl, t, eLH, dF, hpr, hR, hpc, hpw, hWs, lw, lr, l6, hrw, hcc, lc, hn, rfl, rfl⟩, q⟩ := h
  refine ⟨_, (pss_cons (ps_set (i := 5) sc_l_all_good.nd rfl (Or.inl rfl) (pe_lst pa_nil))
      (pss_cons (ps_for PassesOwn.never rfl (pi_list (pv 3)) (pg_name (i := 6) sc_l_all_good.nd rfl (Or.inl rfl)) (pss_cons (ps_expr (pe_bm0 PySem.F.plainAttrs_list PySem.F.slot_list_clear PySem.F.type_list_clear mt_clear (pv 5))) (pss_cons (ps_expr (pe_bm PySem.F.plainAttrs_list PySem.F.slot_list_extend PySem.F.type_list_extend mt_extend (pv 5) (pa_cons (pv 6) pa_nil))) (pss_one (ps_if (pt_not (pt_val (pe_cl c_l_good hr (by decide) pass0 (by rfl) (pa_cons (pv 0) (pa_cons (pv 1) (pa_cons (pv 2) (pa_cons (pv 6) (pa_cons (pv 5) (pa_cons (pv 4) pa_nil))))))))) (pss_one (ps_ret pe_bl)) pss_nil)))))
      (pss_one (ps_ret pe_bl)))), ?_⟩
  try dsimp only [cx_K]
  have RT : ∀ m, Regn (Two (S.at_ k c (numd rss)) (HeldR pl m)) := fun m => (S.regn _ _ _).two (heldR_regn pl m)
  refine (?_ : SvW _ _ _ (Two (S.at_ k c (numd rss)) (HeldR pl n)) F (fun a => H a ≠ none) (Out F H)) H (start_1 t)
  have e0 := out_of eLH dF
  have hpr := ex_l e0 hpr
  have hR := hR.mono e0
  have hpc := ex_t e0 hpc
  have hpw := ex_l e0 hpw
  have hWs := hWs.mono e0
  obtain ⟨L0, hL0⟩ : ∃ x, x = Out F H := ⟨_, rfl⟩
  rw [← hL0] at hpr hR hpc hpw hWs ⊢
  refine vw_asgN (RT n) (EvL.n (el_lst (vs := []) ea_nil (Nat.zero_le _))) ?_
  rintro v N1 d1 ⟨ph, rfl, hph⟩
  have nph := (d1 ph (by rw [hph]; exact fun z => by cases z)).1
  have hph1 := unn_l (fun a z => (d1 a z).1) _ _ hph
  have e1 : Ex L0 (Unn N1 L0) := unn_r
  generalize Unn N1 L0 = L1 at hph1 e1
  refine vw_forL (RT n) (ev_var rfl) (ex_l e1 hpw) (fun i σ' T' L' => ∃ (y : Option V) (hx : List V), σ' = [some (.ref k), some (.ref pr), some (.ref pc), some (.ref pw), some (.ref pl), some (.ref ph), y] ∧ T' = Two (S.at_ k c (numd rss)) (HeldR pl (n + i)) ∧ Ex L0 L' ∧ L' ph = some (.lst hx))
    ⟨none, [], rfl, rfl, e1, hph1⟩ (fun i σ' T' L' ⟨_, _, _, _, e, _⟩ => ex_l e hpw) ?_ ?_
  · rintro i x σ' T' L2 hx ⟨y, xs, rfl, rfl, e2, hh2⟩
    have hi : i < wvs.length := (List.getElem?_eq_some_iff.mp hx).1
    obtain ⟨qw, ws, ts, rfl, hqw, hW, lt, htc⟩ := hWs _ (List.mem_of_getElem? hx)
    refine vw_clear (RT _) hh2 (ev_var rfl) ?_
    have e3 : Ex L0 (upd L2 ph (.lst [])) := fun a o ha => by
      rw [upd_ne (ne_of_none ha nph)]
      exact e2 a o ha
    have hh3 : (upd L2 ph (.lst [])) ph = some (.lst []) := upd_same
    generalize upd L2 ph (.lst []) = L3 at e3 hh3
    refine vw_extend (RT _) hh3 (e3 _ _ hqw) (ev_var rfl) (ev_var rfl) (by rw [hW.1, List.length_nil]; omega) ?_
    have e4 : Ex L0 (upd L3 ph (.lst ([] ++ ws))) := fun a o ha => by
      rw [upd_ne (ne_of_none ha nph)]
      exact e3 a o ha
    have hh4 : (upd L3 ph (.lst ([] ++ ws))) ph = some (.lst ws) := upd_same
    generalize upd L3 ph (.lst ([] ++ ws)) = L4 at e4 hh4
    refine vw_ifW' (b := !true) (etw_not (etw_val (ew_cl (RT _) (vs := [.ref k, .ref pr, .ref pc, .ref qw, .ref ph, .ref pl]) (by repeat' walk_at "s") (spw (T' := Two (S.at_ k c (numd rss)) (HeldR pl (n + i + 1))) rfl fun H F t e dj => ⟨k, pr, pc, qw, ph, pl, c, rss, rws, ws, ts, n + i, wd, L4, rfl, t, e, dj, ex_l e4 hpr, hR.mono e4, ex_t e4 hpc, sq_of (e4 _ _ hqw), sq_of hh4, hW.mono e4, lt, lr, l6, hrw, htc, hcc, lc, by omega, rfl, rfl⟩)))) (fun N d e => nomatch e) (fun N5 d5 _ => ?_)
    exact vw_kn ⟨_, ws, rfl, rfl, e4.trans unn_r, unn_r _ _ hh4⟩
  · rintro σ' T' L2 ⟨y, xs, rfl, rfl, e2, hh2⟩
    refine vw_ret (RT _) ev_c fun H' w' => close_1 (P := fun v _ => v = .bl true) (RT n) t (T' := Two (S.at_ k c (numd rss)) (HeldR pl (n + 3))) q (w'.imp fun F' tt => two_impr (fun F hh => heldR_mono (by omega) hh) tt) (by rw [← hL0]; exact e2) rfl
def spLaw (K : PySem.W.Frag) : Sp := fun vs H Q _ => ∃ (a : Addr) (ns : List Int), vs = [.ref a] ∧ SqL K H a (ns.map V.int) ∧ ns.length ≤ 63 ∧ (∀ z ∈ ns, Bits 1048576 z) ∧ ∀ H', Q (.bl true) H'
theorem cell_bits {ns : List Int} (h : ∀ z ∈ ns, Bits 1048576 z) (k : Int) : Bits 1048576 (cell ns k) := by
  unfold cell
  split
  · rw [List.getD_eq_getElem?_getD]
    cases e : ns[k.toNat]? with
    | none => exact Bits.zero
    | some z => exact h z (List.mem_of_getElem? e)
  · exact Bits.zero
theorem Rw.take {H : Hp} {vs : List V} {rss : List (List Int)} (h : Rw K H vs rss) (n : Nat) : Rw K H (vs.take n) (rss.take n) := by
  refine ⟨by rw [List.length_take, List.length_take, h.1], fun i rs hi => ?_⟩
  rw [List.getElem?_take] at hi
  split at hi
  · rename_i hn
    obtain ⟨q, a, b⟩ := h.2 i rs hi
    exact ⟨q, by rw [List.getElem?_take, if_pos hn]; exact a, b⟩
  · cases hi
theorem ok_law {f : Addr} {fd : FuncData} (F : Fun K "law" "law" s_law f fd) (Z : Zs mg) (c_l_at : Cl P w K mg base CX0 1 "_law_at" (SpR 2 (RAt K))) (c_l_order : Cl P w K mg base CX0 1 "_law_order" (SpNn 2 ROrder))
    (c_l_row : Cl P w K mg base CX0 2 "_law_row" (SpN 2 RRow)) (c_l_triple : Cl P w K mg base CX0 2 "_law_triple" (SpNn 3 (RTripleW K))) (c_Kept : Mc P w K mg base CX0 3 "Kept" S.C (spKInit S)) (c_put : Mt P w K mg base CX0 3 S.C "put" (SpW 3 (RKPut S)))
    (c_l_all_good : Cl P w K mg base CX0 6 "_law_all_good" (SpW 5 (RAllGood S))) : FnOk P w K mg base CX0 7 f fd ["_law_script"] (spLaw K) := by
  refine F.ok sc_law (fun vs H Q E h => by obtain ⟨a, ns, rfl, _⟩ := h; rfl) (fun cdv A outer s H vs Q E hr h => ?_)
  obtain ⟨a, ns, rfl, hS, hn, hb, q⟩ := h
  refine ⟨_, (pss_cons (ps_set (i := 1) sc_law.nd rfl (Or.inr rfl) (pe_op op_add pe_int (pe_op op_mod (pe_cl c_l_at hr (by decide) pass0 (by rfl) (pa_cons (pv 0) (pa_cons pe_int pa_nil))) pe_int)))
      (pss_cons (ps_set (i := 2) sc_law.nd rfl (Or.inl rfl) (pe_cl c_l_order hr (by decide) pass0 (by rfl) (pa_cons (pe_cl c_l_at hr (by decide) pass0 (by rfl) (pa_cons (pv 0) (pa_cons pe_int pa_nil))) (pa_cons (pv 1) pa_nil))))
      (pss_cons (ps_set (i := 3) sc_law.nd rfl (Or.inl rfl) (pe_op op_mod (pe_op op_fdiv (pe_cl c_l_at hr (by decide) pass0 (by rfl) (pa_cons (pv 0) (pa_cons pe_int pa_nil))) pe_int) pe_int))
      (pss_cons (ps_if (pt_cmpR op_eq (pe_op op_mod (pe_op op_fdiv (pe_cl c_l_at hr (by decide) pass0 (by rfl) (pa_cons (pv 0) (pa_cons pe_int pa_nil))) pe_int) pe_int) pe_int (nomark _)) (pss_one (ps_set (i := 3) sc_law.nd rfl (Or.inl rfl) (pe_op op_mod (pe_op op_fdiv (pe_cl c_l_at hr (by decide) pass0 (by rfl) (pa_cons (pv 0) (pa_cons pe_int pa_nil))) pe_int) pe_int))) pss_nil)
      (pss_cons (ps_if (pt_cmpR op_eq (pe_op op_mod (pe_op op_fdiv (pe_cl c_l_at hr (by decide) pass0 (by rfl) (pa_cons (pv 0) (pa_cons pe_int pa_nil))) pe_int) pe_int) pe_int (nomark _)) (pss_one (ps_set (i := 3) sc_law.nd rfl (Or.inl rfl) (pe_op op_add pe_int (pe_op op_mod (pe_op op_fdiv (pe_cl c_l_at hr (by decide) pass0 (by rfl) (pa_cons (pv 0) (pa_cons pe_int pa_nil))) pe_int) pe_int)))) pss_nil)
      (pss_cons (ps_set (i := 4) sc_law.nd rfl (Or.inr rfl) (pe_lc (own := [("_law_k", 12)]) (g := gName 12) (tt := tYes) (by rfl) sc_law.nd (pi_range1 (by rfl) Z.range (pa_cons (pv 3) pa_nil)) (blkOk_by (own := [("_law_k", 12)]) (N := ["_law_script", "_law_width", "_law_columns", "_law_size", "_law_rows", "_law_many", "_law_wish", "_law_wishes", "_law_other", "_law_kept", "_law_held", "_law_number", "_law_k", "_law_pair"]) (sc := defScope s_law) (by decide +kernel)) (fun _ _ _ _ _ => (pg_name (i := 12) sc_law.nd rfl (Or.inl rfl))) (fun _ _ _ _ _ => pts_nil) (fun _ _ _ _ _ => (pe_cl c_l_row hr (by decide) pass0 (by rfl) (pa_cons (pe_op op_add (pe_cl c_l_at hr (by decide) pass0 (by rfl) (pa_cons (pv 0) (pa_cons (pe_op op_add pe_int (pe_op op_mod (pv 12) pe_int)) pa_nil))) (pe_op op_mul pe_int (pe_op op_fdiv (pv 12) pe_int))) (pa_cons (pv 1) pa_nil))))))
      (pss_cons (ps_set (i := 5) sc_law.nd rfl (Or.inl rfl) (pe_op op_mod (pe_cl c_l_at hr (by decide) pass0 (by rfl) (pa_cons (pv 0) (pa_cons pe_int pa_nil))) pe_int))
      (pss_cons (ps_if (pt_cmpR op_eq (pe_op op_mod (pe_op op_fdiv (pe_cl c_l_at hr (by decide) pass0 (by rfl) (pa_cons (pv 0) (pa_cons pe_int pa_nil))) pe_int) pe_int) pe_int (nomark _)) (pss_one (ps_set (i := 5) sc_law.nd rfl (Or.inl rfl) pe_int)) pss_nil)
      (pss_cons (ps_setLc (i := 6) rfl sc_law.nd rfl rfl (sw_true rfl rfl rfl (by decide +kernel)) (pi_range1 (by rfl) Z.range (pa_cons (pv 5) pa_nil)) (blkOk_by (own := [("_law_k", 12)]) (N := ["_law_script", "_law_width", "_law_columns", "_law_size", "_law_rows", "_law_many", "_law_wish", "_law_wishes", "_law_other", "_law_kept", "_law_held", "_law_number", "_law_k", "_law_pair"]) (sc := defScope s_law) (by decide +kernel)) (fun _ _ _ _ _ => (pg_name (i := 12) sc_law.nd rfl (Or.inl rfl))) (fun _ _ _ _ _ => pts_nil) (fun _ _ _ _ _ => (pe_cl c_l_triple hr (by decide) pass0 (by rfl) (pa_cons (pe_op op_add (pe_cl c_l_at hr (by decide) pass0 (by rfl) (pa_cons (pv 0) (pa_cons (pe_op op_add pe_int (pe_op op_mod (pv 12) pe_int)) pa_nil))) (pe_op op_mul pe_int (pe_op op_fdiv (pv 12) pe_int))) (pa_cons (pv 1) (pa_cons (pv 4) pa_nil))))))
      (pss_cons (ps_set (i := 7) sc_law.nd rfl (Or.inl rfl) (pe_lst (pa_cons (pv 6) pa_nil)))
      (pss_cut (ps_if (pt_cmpR op_lt (pv 3) pe_int (nomark _)) (pss_cons (ps_set (i := 5) sc_law.nd rfl (Or.inl rfl) (pe_op op_mod (pe_op op_fdiv (pe_cl c_l_at hr (by decide) pass0 (by rfl) (pa_cons (pv 0) (pa_cons pe_int pa_nil))) pe_int) pe_int)) (pss_cons (ps_setLc (i := 8) rfl sc_law.nd rfl rfl (sw_true rfl rfl rfl (by decide +kernel)) (pi_range1 (by rfl) Z.range (pa_cons (pv 5) pa_nil)) (blkOk_by (own := [("_law_k", 12)]) (N := ["_law_script", "_law_width", "_law_columns", "_law_size", "_law_rows", "_law_many", "_law_wish", "_law_wishes", "_law_other", "_law_kept", "_law_held", "_law_number", "_law_k", "_law_pair"]) (sc := defScope s_law) (by decide +kernel)) (fun _ _ _ _ _ => (pg_name (i := 12) sc_law.nd rfl (Or.inl rfl))) (fun _ _ _ _ _ => pts_nil) (fun _ _ _ _ _ => (pe_cl c_l_triple hr (by decide) pass0 (by rfl) (pa_cons (pe_op op_add (pe_op op_add (pe_op op_fdiv (pe_cl c_l_at hr (by decide) pass0 (by rfl) (pa_cons (pv 0) (pa_cons (pe_op op_sub pe_int (pv 12)) pa_nil))) pe_int) (pe_op op_mul pe_int (pv 12))) pe_int) (pa_cons (pv 1) (pa_cons (pv 4) pa_nil)))))) (pss_one (ps_set (i := 7) sc_law.nd rfl (Or.inl rfl) (pe_lst (pa_cons (pv 6) (pa_cons (pv 8) (pa_cons (pv 6) pa_nil)))))))) pss_nil)
      (pss_cons (ps_set (i := 9) sc_law.nd rfl (Or.inl rfl) (pe_k c_Kept hr (by decide) pass0 (by rfl) (pa_cons (pv 2) pa_nil)))
      (pss_cons (ps_set (i := 10) sc_law.nd rfl (Or.inl rfl) (pe_lst pa_nil))
      (pss_cons (ps_for PassesOwn.never rfl (pi_range1 (by rfl) Z.range (pa_cons (pv 3) pa_nil)) (pg_name (i := 11) sc_law.nd rfl (Or.inl rfl)) (pss_cons (ps_if (PW.pt (pw_and (pt_cmpR op_eq (pv 11) (pe_op op_fdiv (pv 3) pe_int) (nomark _)) (pw_and1 (pt_not (pt_val (pe_cl c_l_all_good hr (by decide) pass0 (by rfl) (pa_cons (pv 9) (pa_cons (pe_slice (r := rSlL K) sl_list (pv 4) po_none (po_some (pv 11))) (pa_cons (pv 2) (pa_cons (pv 7) (pa_cons (pv 10) pa_nil))))))))))) (pss_one (ps_ret pe_bl)) pss_nil) (pss_one (ps_expr (pe_m c_put hr (by decide) pass0 (pv 9) (pa_cons (pv 11) (pa_cons (pe_ix (r := rIxL K) ix_list (pv 4) (pv 11) (fun _ _ => rfl)) pa_nil)))))))
      (pss_cons (ps_if (pt_not (pt_val (pe_cl c_l_all_good hr (by decide) pass0 (by rfl) (pa_cons (pv 9) (pa_cons (pv 4) (pa_cons (pv 2) (pa_cons (pv 7) (pa_cons (pv 10) pa_nil)))))))) (pss_one (ps_ret pe_bl)) pss_nil)
      (pss_one (ps_ret (pe_callB (id := "all") (r := rAll K) (cr_all rfl) (by rfl) Z.all (by decide +kernel) (pa_cons (pe_lc (own := [("_law_pair", 13)]) (g := gName 13) (tt := tYes) (by rfl) sc_law.nd (pi_list (pv 10)) (blkOk_by (own := [("_law_pair", 13)]) (N := ["_law_script", "_law_width", "_law_columns", "_law_size", "_law_rows", "_law_many", "_law_wish", "_law_wishes", "_law_other", "_law_kept", "_law_held", "_law_number", "_law_k", "_law_pair"]) (sc := defScope s_law) (by decide +kernel)) (fun _ _ _ _ _ => (pg_name (i := 13) sc_law.nd rfl (Or.inl rfl))) (fun _ _ _ _ _ => pts_nil) (fun _ _ _ _ _ => (pe_cmpR (r := rEqD K) (op_eqD hr.units) (pe_ix (r := rIxL K) ix_list (pv 13) pe_int (fun _ _ => rfl)) (pe_ix (r := rIxL K) ix_list (pv 13) pe_int (fun _ _ => rfl)) (nomark _)))) pa_nil))))))))))))))))))), ?_⟩
  try dsimp only [cx_K]
  have w1 : 1 ≤ 1 + cell ns 0 % 6 := by omega
  have w6 : 1 + cell ns 0 % 6 ≤ 6 := by omega
  refine Sv.at (sv_asg (v := .int (1 + cell ns 0 % 6)) (by repeat' walk_at "s") ?_)
  generalize 1 + cell ns 0 % 6 = wd at w1 w6
  have hol := order_len (c := cell ns 1) w1
  have hoi := order_in (c := cell ns 1) w1
  refine sv_asgN (en_cl (vs := [.int (cell ns 1), .int wd]) (by repeat' walk_at "s") (spn_order w1 w6)) ?_
  rintro v N1 H1 d1 ⟨pc, rfl, hpc⟩ eN1 e1
  generalize orderM (cell ns 1) wd = c at hpc hol hoi
  have hS1 := ex_l e1 hS
  have hpc1 : SqT K H1 pc (c.map V.int) := st_of (eN1 _ _ hpc)
  have hpc1R := eN1 _ _ hpc
  refine sv_asg (v := .int (cell ns 0 / 6 % 8)) (by repeat' walk_at "s") (sv_ifset (p := cell ns 0 / 48 % 4 = 1) (v := .int (cell ns 0 / 192 % 40)) (w := .int (cell ns 0 / 6 % 8)) (by repeat' walk_at "s") (fun _ => by repeat' walk_at "s") (fun _ => rfl) ?_)
  have es : (if cell ns 0 / 48 % 4 = 1 then V.int (cell ns 0 / 192 % 40) else V.int (cell ns 0 / 6 % 8)) = V.int (if cell ns 0 / 48 % 4 = 1 then cell ns 0 / 192 % 40 else cell ns 0 / 6 % 8) := by split <;> rfl
  rw [es]
  have hz : 0 ≤ (if cell ns 0 / 48 % 4 = 1 then cell ns 0 / 192 % 40 else cell ns 0 / 6 % 8) ∧ (if cell ns 0 / 48 % 4 = 1 then cell ns 0 / 192 % 40 else cell ns 0 / 6 % 8) ≤ 199 := by split <;> omega
  generalize (if cell ns 0 / 48 % 4 = 1 then cell ns 0 / 192 % 40 else cell ns 0 / 6 % 8) = sz0 at hz
  refine sv_ifset (p := cell ns 0 / 48 % 16 = 2) (v := .int (120 + cell ns 0 / 768 % 80)) (w := .int sz0) (by repeat' walk_at "s") (fun _ => by repeat' walk_at "s") (fun _ => rfl) ?_
  have es : (if cell ns 0 / 48 % 16 = 2 then V.int (120 + cell ns 0 / 768 % 80) else V.int sz0) = V.int (if cell ns 0 / 48 % 16 = 2 then 120 + cell ns 0 / 768 % 80 else sz0) := by split <;> rfl
  rw [es]
  have hz : 0 ≤ (if cell ns 0 / 48 % 16 = 2 then 120 + cell ns 0 / 768 % 80 else sz0) ∧ (if cell ns 0 / 48 % 16 = 2 then 120 + cell ns 0 / 768 % 80 else sz0) ≤ 199 := by split <;> omega
  generalize (if cell ns 0 / 48 % 16 = 2 then 120 + cell ns 0 / 768 % 80 else sz0) = size at hz
  -- the rows
  refine sv_asgN (en_lcR1 (n := size) (by repeat' walk_at "s") (by omega) (fun _ => rfl) (fun i acc N => (∃ rss, Rw K N acc rss ∧ rss.length = i ∧ ∀ r ∈ rss, r.length = wd.toNat) ∧ ∀ q : Addr, V.ref q ∈ acc → N q ≠ none) ⟨⟨[], Rw.nil, rfl, fun r h => (List.not_mem_nil h).elim⟩, fun q h => (List.not_mem_nil h).elim⟩ (fun i acc N hi hI => ?_)) ?_
  · refine (EvL.n (el_cl (vs := [.int (cell ns (7 + (i : Int) % 9) + 11 * ((i : Int) / 9)), .int wd]) ?_ (spl_row ?_ (by omega) w6))).imp ?_
    · repeat' walk_at "s"
    · have x1 : Bits 14 (((11 * (i / 9) : Nat)) : Int) := Bits.nat (by
        have e : (2 : Nat) ^ 14 = 16384 := by decide
        rw [e]
        omega)
      have e2 : (((11 * (i / 9) : Nat)) : Int) = 11 * ((i : Int) / 9) := by omega
      rw [e2] at x1
      exact ((cell_bits hb _).add (x1.mono (by decide))).mono (by decide)
    · rintro v N' ⟨p, rfl, hp⟩ N'' e1 e2
      obtain ⟨⟨rss, hR, hl, hw⟩, hk⟩ := hI
      refine ⟨⟨_, (hR.mono e1).snoc (sq_of (e2 _ _ hp)), by rw [List.length_append, hl]; rfl, fun r hr => ?_⟩, fun q hq => ?_⟩
      · rcases List.mem_append.mp hr with h | h
        · exact hw r h
        · rw [List.mem_singleton.mp h]
          exact rowM_len _ _
      · rcases List.mem_append.mp hq with h | h
        · exact ex_dm e1 _ (hk q h)
        · rw [V.ref.inj (List.mem_singleton.mp h), e2 _ _ hp]
          exact fun z => by cases z
  rintro v N2 H2 d2 ⟨pr, rws, rfl, hpr, N0, eN0, ⟨rss, hR, lrs, hrw⟩, hrk⟩ eN2 e2
  have hk2 : ∀ q : Addr, V.ref q ∈ rws → H2 q ≠ none := fun q h => ex_dm (eN0.trans eN2) _ (hrk q h)
  have hR2 := hR.mono (eN0.trans eN2)
  have hpr2 := eN2 _ _ hpr
  have hS2 := ex_l e2 hS1
  have hpc2 := ex_t e2 hpc1
  have hpc2R := e2 _ _ hpc1R
  clear hR hpr eN0 eN2
  refine sv_asg (v := .int (cell ns 2 % 5)) (by repeat' walk_at "s") (sv_ifset (p := cell ns 2 / 5 % 8 = 1) (v := .int 20) (w := .int (cell ns 2 % 5)) (by repeat' walk_at "s") (fun _ => ev_c) (fun _ => rfl) ?_)
  have es : (if cell ns 2 / 5 % 8 = 1 then V.int 20 else V.int (cell ns 2 % 5)) = V.int (if cell ns 2 / 5 % 8 = 1 then 20 else cell ns 2 % 5) := by split <;> rfl
  rw [es]
  have hm : 0 ≤ (if cell ns 2 / 5 % 8 = 1 then 20 else cell ns 2 % 5) ∧ (if cell ns 2 / 5 % 8 = 1 then 20 else cell ns 2 % 5) ≤ 20 := by split <;> omega
  generalize (if cell ns 2 / 5 % 8 = 1 then 20 else cell ns 2 % 5) = many at hm
  have spr2 : SqL K H2 pr rws := sq_of hpr2
  have lr200 : rss.length ≤ 200 := by omega
  refine sv_asgN (en_lcR1 (n := many) (by repeat' walk_at "s") (by omega) (fun _ => rfl) (fun i acc N => ∃ ts, Wt K N acc ts ∧ ts.length = i ∧ ∀ t ∈ ts, 0 ≤ t.c ∧ t.c < wd) ⟨[], Wt.nil, rfl, fun r h => (List.not_mem_nil h).elim⟩ (fun i acc N hi hI => ?_)) ?_
  · refine (en_cl (vs := [.int (cell ns (3 + (i : Int) % 4) + 9 * ((i : Int) / 4)), .int wd, .ref pr]) ?_ (spn_triple ?_ w1 w6 spr2 hR2 lr200 hrw)).imp ?_
    · repeat' walk_at "s"
    · have x1 : Bits 14 (((9 * (i / 4) : Nat)) : Int) := Bits.nat (by
        have e : (2 : Nat) ^ 14 = 16384 := by decide
        rw [e]
        omega)
      have e2 : (((9 * (i / 4) : Nat)) : Int) = 9 * ((i : Int) / 4) := by omega
      rw [e2] at x1
      exact ((cell_bits hb _).add (x1.mono (by decide))).mono (by decide)
    · rintro v N' ⟨p, t, rfl, hp, ht⟩ N'' e1 e2
      obtain ⟨ts, hW, hl, hw⟩ := hI
      refine ⟨_, (hW.mono e1).snoc (st_of (e2 _ _ hp)), by rw [List.length_append, hl]; rfl, fun r hr => ?_⟩
      rcases List.mem_append.mp hr with h | h
      · exact hw r h
      · rw [List.mem_singleton.mp h]
        exact ht
  rintro v N3 H3 d3 ⟨pw, ws, rfl, hpw, N0, eN0, ts, hW, lts, htc⟩ eN3 e3
  have e3' := e3
  have hW3 := hW.mono (eN0.trans eN3)
  have hpw3 := eN3 _ _ hpw
  clear hW hpw eN0 eN3
  refine sv_asgL (xs := [.ref pw]) (el_lst (ea_cons (ev_var rfl) ea_nil) (by simp)) fun pq H4 n4 e4 hpq => ?_
  have wdn : (wd.toNat : Int) = wd := by omega
  have W1 : Wishes K H4 [.ref pw] wd.toNat := fun x hx => ⟨pw, ws, ts, List.mem_singleton.mp hx, e4 _ _ hpw3, hW3.mono e4, by omega, fun t ht => by rw [wdn]; exact htc t ht⟩
  have hS4 := ex_l (e3.trans e4) hS2
  have hR4 := hR2.mono (e3.trans e4)
  have hpr4 := (e3.trans e4) _ _ hpr2
  have hpc4 := ex_t (e3.trans e4) hpc2
  have hpc4R := (e3.trans e4) _ _ hpc2R
  refine sv_cut (fun σ' H' => ∃ (y5 y8 : Option V) (pq : Addr) (wvs : List V), σ' = [some (.ref a), some (.int wd), some (.ref pc), some (.int size), some (.ref pr), y5, some (.ref pw), some (.ref pq), y8, none, none, none, none, none] ∧ Ex H4 H' ∧ SqL K H' pq wvs ∧ Wishes K H' wvs wd.toNat ∧ wvs.length ≤ 3) ?_ ?_
  · refine sv_if' (p := size < 60) (by repeat' walk_at "s") (fun _ => ?_) (fun _ => sv_kn ⟨_, _, pq, _, rfl, Ex.refl _, sq_of hpq, W1, by simp⟩)
    refine sv_asg (v := .int (cell ns 2 / 40 % 4)) (by repeat' walk_at "s") ?_
    have hm2 : 0 ≤ cell ns 2 / 40 % 4 ∧ cell ns 2 / 40 % 4 ≤ 3 := by omega
    generalize cell ns 2 / 40 % 4 = many2 at hm2
    have spr4 : SqL K H4 pr rws := sq_of hpr4
    refine sv_asgN (en_lcR1 (n := many2) (by repeat' walk_at "s") (by omega) (fun _ => rfl) (fun i acc N => ∃ ts, Wt K N acc ts ∧ ts.length = i ∧ ∀ t ∈ ts, 0 ≤ t.c ∧ t.c < wd) ⟨[], Wt.nil, rfl, fun r h => (List.not_mem_nil h).elim⟩ (fun i acc N hi hI => ?_)) ?_
    · refine (en_cl (vs := [.int (cell ns (6 - (i : Int)) / 3 + 5 * (i : Int) + 1), .int wd, .ref pr]) ?_ (spn_triple ?_ w1 w6 spr4 hR4 lr200 hrw)).imp ?_
      · repeat' walk_at "s"
      · have x1 : Bits 14 (((5 * i : Nat)) : Int) := Bits.nat (by
          have e : (2 : Nat) ^ 14 = 16384 := by decide
          rw [e]
          omega)
        have e2 : (((5 * i : Nat)) : Int) = 5 * (i : Int) := by omega
        rw [e2] at x1
        have x2 : Bits 1048577 (((1 : Nat)) : Int) := (Bits.nat (n := 1) (k := 1) (by decide)).mono (by decide)
        exact ((((cell_bits hb (6 - (i : Int))).div (k := 3)).add (x1.mono (by decide))).add x2).mono (by decide)
      · rintro v N' ⟨p, t, rfl, hp, ht⟩ N'' e1 e2
        obtain ⟨ts, hW, hl, hw⟩ := hI
        refine ⟨_, (hW.mono e1).snoc (st_of (e2 _ _ hp)), by rw [List.length_append, hl]; rfl, fun r hr => ?_⟩
        rcases List.mem_append.mp hr with h | h
        · exact hw r h
        · rw [List.mem_singleton.mp h]
          exact ht
    rintro v N5 H5 d5 ⟨po, ws2, rfl, hpo, N0, eN0, ts2, hW2, lts2, htc2⟩ eN5 e5
    have hW5 := hW2.mono (eN0.trans eN5)
    have hpo5 := eN5 _ _ hpo
    refine sv_asgL' (xs := [.ref pw, .ref po, .ref pw]) (el_lst (ea_cons (ev_var rfl) (ea_cons (ev_var rfl) (ea_cons (ev_var rfl) ea_nil))) (by simp)) fun pq2 H6 n6 e6 hpq2 => ?_
    refine sv_kn ⟨_, _, pq2, _, rfl, e5.trans e6, sq_of hpq2, fun x hx => ?_, by simp⟩
    have g1 := (W1.mono (e5.trans e6)) (.ref pw) (List.mem_singleton.mpr rfl)
    rcases List.mem_cons.mp hx with h | hx
    · rw [h]
      exact g1
    rcases List.mem_cons.mp hx with h | hx
    · exact ⟨po, ws2, ts2, h, e6 _ _ hpo5, hW5.mono e6, by omega, fun t ht => by rw [wdn]; exact htc2 t ht⟩
    · rw [List.mem_singleton.mp hx]
      exact g1
  rintro σ' L ⟨y5, y8, pq, wvs, rfl, eL, hpq, hWs, lw⟩
  have hR := hR4.mono eL
  have hpr := eL _ _ hpr4
  have hpc := ex_t eL hpc4
  have hpcR := eL _ _ hpc4R
  have spr : SqL K L pr rws := sq_of hpr
  have hc6 : c.length ≤ 6 := by omega
  have hcc : ∀ x ∈ c, 0 ≤ x ∧ x < wd.toNat := fun x hx => by
    rw [wdn]
    exact hoi x hx
  have hc0 : c ≠ [] := fun e => by
    rw [e] at hol
    exact Nat.lt_irrefl _ hol.1
  refine sv_w (vw_make (S := S) (ct := pc) (c := c) emp_regn hpcR (by repeat' walk_at "s") hc0 hc6 rfl fun x1 nx1 => ?_)
  refine vw_imp (T' := S.at_ x1 c []) (fun F H t => two_empl (S.regn _ _ _) t) ?_
  refine vw_newHeld (S.regn _ _ _) fun pl npl => ?_
  have RT : ∀ s m, Regn (Two (S.at_ x1 c s) (HeldR pl m)) := fun s m => (S.regn _ _ _).two (heldR_regn pl m)
  refine vw_imp (T' := Two (S.at_ x1 c (numd (rss.take 0))) (HeldR pl 0)) (fun F H t => two_impr (fun F hh => ⟨[], Nat.le_refl _, hh⟩) t) ?_
  refine vw_forR1 (n := size) (RT _ _) (ea_cons (ev_var rfl) ea_nil) (by omega) (fun i σ' T' L' => ∃ y, σ' = [some (.ref a), some (.int wd), some (.ref pc), some (.int size), some (.ref pr), y5, some (.ref pw), some (.ref pq), y8, some (.ref x1), some (.ref pl), y, none, none] ∧ T' = Two (S.at_ x1 c (numd (rss.take i))) (HeldR pl (3 * i)) ∧ Ex L L') ⟨none, rfl, rfl, Ex.refl _⟩ ?_ ?_
  · rintro i σ' T' L2 hi ⟨y, rfl, rfl, e2⟩
    have hi2 : i < rss.length := by omega
    have hg : rss[i]? = some rss[i] := List.getElem?_eq_getElem hi2
    refine vw_whenW (T' := Two (S.at_ x1 c (numd (rss.take i))) (HeldR pl (3 * i + 3))) (b := false) (etw_and (p := (i : Int) = size / 2) (RT _ _) (by repeat' walk_at "s") (fun _ => ?_) (fun F H t => two_impr (fun F hh => heldR_mono (by omega) hh) t)) rfl fun N3 d3 => ?_
    · refine etw_not (b := true) (etw_val (ew_clN (RT _ _) (ean_cons (ev_var rfl) (ean_consN (EvL.n (el_sl (ev_var rfl) eo_none (eo_some (ev_var rfl)) (ex_l e2 spr))) (vs := [.ref pc, .ref pq, .ref pl]) (by repeat' walk_at "s"))) ?_))
      rintro vs N d ⟨us, rfl, v, rfl, ps, rfl, hps⟩
      rw [cut_to (by omega)] at hps
      refine spw rfl fun H F t e dj => ⟨x1, ps, pc, pq, pl, c, rss.take i, rws.take i, wvs, 3 * i, wd.toNat, Unn N L2, rfl, t, e, dj, sq_of (unn_l (fun a z => (d a z).1) _ _ hps), (Rw.take hR i).mono (e2.trans unn_r), ex_t (e2.trans unn_r) hpc, ex_l (e2.trans unn_r) hpq, hWs.mono (e2.trans unn_r), lw, ?_, by omega, fun r hr => hrw r (List.mem_of_mem_take hr), hcc, hc6, by omega, rfl, rfl⟩
      rw [List.length_take]
      omega
    have e3 := e2.trans (unn_r (N := N3))
    generalize Unn N3 L2 = L3 at e3
    obtain ⟨pq1, h1, h2⟩ := (hR.mono e3).2 i _ hg
    have hri := hrw _ (List.getElem_mem hi2)
    refine vw_drop' (T' := Two (S.at_ x1 c (numd (rss.take (i + 1)))) (HeldR pl (3 * i + 3))) (P := fun v _ => v = .non) (ew_mt (RT _ _) (ev_var rfl) (fun H w => ?_) (vs := [.int (i : Int), .ref pq1]) (ea_cons (ev_var rfl) (ea_cons (ev_op (ev_var rfl) (ev_var rfl) (rv_ixL (ex_l e3 spr) (atI_nat h1))) ea_nil)) (spw_l (S.regn _ _ _) (heldR_regn _ _) rfl fun H F t e dj => ⟨x1, pq1, (i : Int), rss[i], c, numd (rss.take i), rfl, t, .inl ⟨ex_l e h2, ?_⟩, ?_, fun x hx => by have := hcc x hx; omega, by omega, ?_, ?_, by rw [numd_take hg], rfl⟩)) ?_
    · obtain ⟨_, ⟨_, _, a, b, _⟩, _⟩ := w
      obtain ⟨dx, fs, ct, h1, _, _, h2, _⟩ := S.ins a
      exact ⟨dx, fs, h1, h2⟩
    · exact fun z => ex_dm (((e3'.trans e4).trans eL).trans e3) _ (hk2 pq1 (List.mem_of_getElem? h1)) (dj pq1 z)
    · rw [rowOf_numd, if_neg]
      rw [List.length_take]
      omega
    · rw [hri]
      exact numd_wide fun r hr => hrw r (List.mem_of_mem_take hr)
    · rw [numd_len, List.length_take]
      omega
    · rintro v N4 d4 rfl
      exact vw_kn ⟨_, rfl, rfl, e3.trans unn_r⟩
  · rintro σ' T' L2 ⟨y, rfl, rfl, e2⟩
    have et : rss.take size.toNat = rss := List.take_of_length_le (by omega)
    rw [et]
    refine vw_whenW (T' := Two (S.at_ x1 c (numd rss)) (HeldR pl (3 * size.toNat + 3))) (b := !true) (etw_not (etw_val (ew_cl (RT _ _) (vs := [.ref x1, .ref pr, .ref pc, .ref pq, .ref pl]) (by repeat' walk_at "s") (spw rfl fun H F t e dj => ⟨x1, pr, pc, pq, pl, c, rss, rws, wvs, 3 * size.toNat, wd.toNat, L2, rfl, t, e, dj, ex_l e2 spr, hR.mono e2, ex_t e2 hpc, ex_l e2 hpq, hWs.mono e2, lw, lr200, by omega, hrw, hcc, hc6, by omega, rfl, rfl⟩)))) rfl fun N3 d3 => ?_
    refine vw_retW (ew_at (v := .bl true) (RT _ _) fun H w => ?_) ?_
    · obtain ⟨_, ⟨_, _, _, hh, _⟩, _⟩ := w
      exact ev_allHeld hh (by omega) (ev_var rfl) (fun _ => rfl) (fun _ => rfl)
    · rintro v N4 H4 d4 rfl w4
      exact q H4
end
theorem all_mk {l : PySem.W.OpenLaw} {w : World} {K : PySem.W.Frag} {h : Heap} {mg : Str → Option Value} {fa : Addr} (X : K.In h) (G : h.Ns mainGlobals mg) (hfa : mg "law" = some (.ref fa))
    {C_Kept : Addr}
    {f_less : Addr} {od_less an_less : Option Addr} {sl_less : Array (Option Value)} {oc_less kV_less dc_less pm_less cd_less ct_less : Value}
    {f_below : Addr} {od_below an_below : Option Addr} {sl_below : Array (Option Value)} {oc_below kV_below dc_below pm_below cd_below ct_below : Value}
    {f_merged : Addr} {od_merged an_merged : Option Addr} {sl_merged : Array (Option Value)} {oc_merged kV_merged dc_merged pm_merged cd_merged ct_merged : Value}
    {f_merged_triple : Addr} {od_merged_triple an_merged_triple : Option Addr} {sl_merged_triple : Array (Option Value)} {oc_merged_triple kV_merged_triple dc_merged_triple pm_merged_triple cd_merged_triple ct_merged_triple : Value}
    {f_first_and_last : Addr} {od_first_and_last an_first_and_last : Option Addr} {sl_first_and_last : Array (Option Value)} {oc_first_and_last kV_first_and_last dc_first_and_last pm_first_and_last cd_first_and_last ct_first_and_last : Value}
    {f_through : Addr} {od_through an_through : Option Addr} {sl_through : Array (Option Value)} {oc_through kV_through dc_through pm_through cd_through ct_through : Value}
    {f_Kept_init : Addr} {od_Kept_init an_Kept_init : Option Addr} {sl_Kept_init : Array (Option Value)} {oc_Kept_init kV_Kept_init dc_Kept_init pm_Kept_init cd_Kept_init ct_Kept_init : Value}
    {f_Kept_put : Addr} {od_Kept_put an_Kept_put : Option Addr} {sl_Kept_put : Array (Option Value)} {oc_Kept_put kV_Kept_put dc_Kept_put pm_Kept_put cd_Kept_put ct_Kept_put : Value}
    {f_Kept_numbers : Addr} {od_Kept_numbers an_Kept_numbers : Option Addr} {sl_Kept_numbers : Array (Option Value)} {oc_Kept_numbers kV_Kept_numbers dc_Kept_numbers pm_Kept_numbers cd_Kept_numbers ct_Kept_numbers : Value}
    {f_Kept_stretch : Addr} {od_Kept_stretch an_Kept_stretch : Option Addr} {sl_Kept_stretch : Array (Option Value)} {oc_Kept_stretch kV_Kept_stretch dc_Kept_stretch pm_Kept_stretch cd_Kept_stretch ct_Kept_stretch : Value}
    {f_Kept_covers : Addr} {od_Kept_covers an_Kept_covers : Option Addr} {sl_Kept_covers : Array (Option Value)} {oc_Kept_covers kV_Kept_covers dc_Kept_covers pm_Kept_covers cd_Kept_covers ct_Kept_covers : Value}
    {f_Kept__key : Addr} {od_Kept__key an_Kept__key : Option Addr} {sl_Kept__key : Array (Option Value)} {oc_Kept__key kV_Kept__key dc_Kept__key pm_Kept__key cd_Kept__key ct_Kept__key : Value}
    {f_l_whole : Addr} {od_l_whole an_l_whole : Option Addr} {sl_l_whole : Array (Option Value)} {oc_l_whole kV_l_whole dc_l_whole pm_l_whole cd_l_whole ct_l_whole : Value}
    {f_l_at : Addr} {od_l_at an_l_at : Option Addr} {sl_l_at : Array (Option Value)} {oc_l_at kV_l_at dc_l_at pm_l_at cd_l_at ct_l_at : Value}
    {f_l_value : Addr} {od_l_value an_l_value : Option Addr} {sl_l_value : Array (Option Value)} {oc_l_value kV_l_value dc_l_value pm_l_value cd_l_value ct_l_value : Value}
    {f_l_row : Addr} {od_l_row an_l_row : Option Addr} {sl_l_row : Array (Option Value)} {oc_l_row kV_l_row dc_l_row pm_l_row cd_l_row ct_l_row : Value}
    {f_l_order : Addr} {od_l_order an_l_order : Option Addr} {sl_l_order : Array (Option Value)} {oc_l_order kV_l_order dc_l_order pm_l_order cd_l_order ct_l_order : Value}
    {f_l_triple : Addr} {od_l_triple an_l_triple : Option Addr} {sl_l_triple : Array (Option Value)} {oc_l_triple kV_l_triple dc_l_triple pm_l_triple cd_l_triple ct_l_triple : Value}
    {f_l_ends : Addr} {od_l_ends an_l_ends : Option Addr} {sl_l_ends : Array (Option Value)} {oc_l_ends kV_l_ends dc_l_ends pm_l_ends cd_l_ends ct_l_ends : Value}
    {f_l_between : Addr} {od_l_between an_l_between : Option Addr} {sl_l_between : Array (Option Value)} {oc_l_between kV_l_between dc_l_between pm_l_between cd_l_between ct_l_between : Value}
    {f_l_in_stretch : Addr} {od_l_in_stretch an_l_in_stretch : Option Addr} {sl_l_in_stretch : Array (Option Value)} {oc_l_in_stretch kV_l_in_stretch dc_l_in_stretch pm_l_in_stretch cd_l_in_stretch ct_l_in_stretch : Value}
    {f_l_ahead : Addr} {od_l_ahead an_l_ahead : Option Addr} {sl_l_ahead : Array (Option Value)} {oc_l_ahead kV_l_ahead dc_l_ahead pm_l_ahead cd_l_ahead ct_l_ahead : Value}
    {f_l_in_order : Addr} {od_l_in_order an_l_in_order : Option Addr} {sl_l_in_order : Array (Option Value)} {oc_l_in_order kV_l_in_order dc_l_in_order pm_l_in_order cd_l_in_order ct_l_in_order : Value}
    {f_l_good : Addr} {od_l_good an_l_good : Option Addr} {sl_l_good : Array (Option Value)} {oc_l_good kV_l_good dc_l_good pm_l_good cd_l_good ct_l_good : Value}
    {f_l_all_good : Addr} {od_l_all_good an_l_all_good : Option Addr} {sl_l_all_good : Array (Option Value)} {oc_l_all_good kV_l_all_good dc_l_all_good pm_l_all_good cd_l_all_good ct_l_all_good : Value}
    {f_law : Addr} {od_law an_law : Option Addr} {sl_law : Array (Option Value)} {oc_law kV_law dc_law pm_law cd_law ct_law : Value}
    (aC_Kept : PySem.W.nsIn K mainGlobals "Kept" = some (some (.ref C_Kept)))
    (pg_Kept : PySem.W.plainGet K C_Kept Str.empty = true)
    (hd_Kept : PySem.W.hasDictIn K C_Kept = true)
    (po_Kept : PySem.W.plainOver K C_Kept = true)
    (sa_Kept : PySem.W.findIn K (.ref C_Kept) "__setattr__" = some (some (.builtin "object.__setattr__")))
    (mk_Kept : PySem.W.makesIn K C_Kept = true)
    (kc_Kept : PySem.W.keepIn K (.ref C_Kept) = true)
    (N_Kept_columns : PySem.W.findIn K (.ref C_Kept) "columns" = some none)
    (N_Kept__keys : PySem.W.findIn K (.ref C_Kept) "_keys" = some none)
    (a_less : PySem.W.nsIn K mainGlobals "less" = some (some (.ref f_less)))
    (l_less : K.lookup f_less = some ⟨oc_less, od_less, .func (PySem.W.fnOf "less" "less" (defArgs s_less) (defBody s_less) (defScope s_less) .none kV_less dc_less pm_less an_less cd_less ct_less), sl_less⟩)
    (c_less : PySem.W.codeIn K cd_less "less" = true)
    (k_less : PySem.W.keepIn K (.ref f_less) = true)
    (a_below : PySem.W.nsIn K mainGlobals "below" = some (some (.ref f_below)))
    (l_below : K.lookup f_below = some ⟨oc_below, od_below, .func (PySem.W.fnOf "below" "below" (defArgs s_below) (defBody s_below) (defScope s_below) .none kV_below dc_below pm_below an_below cd_below ct_below), sl_below⟩)
    (c_below : PySem.W.codeIn K cd_below "below" = true)
    (k_below : PySem.W.keepIn K (.ref f_below) = true)
    (a_merged : PySem.W.nsIn K mainGlobals "merged" = some (some (.ref f_merged)))
    (l_merged : K.lookup f_merged = some ⟨oc_merged, od_merged, .func (PySem.W.fnOf "merged" "merged" (defArgs s_merged) (defBody s_merged) (defScope s_merged) .none kV_merged dc_merged pm_merged an_merged cd_merged ct_merged), sl_merged⟩)
    (c_merged : PySem.W.codeIn K cd_merged "merged" = true)
    (k_merged : PySem.W.keepIn K (.ref f_merged) = true)
    (a_merged_triple : PySem.W.nsIn K mainGlobals "merged_triple" = some (some (.ref f_merged_triple)))
    (l_merged_triple : K.lookup f_merged_triple = some ⟨oc_merged_triple, od_merged_triple, .func (PySem.W.fnOf "merged_triple" "merged_triple" (defArgs s_merged_triple) (defBody s_merged_triple) (defScope s_merged_triple) .none kV_merged_triple dc_merged_triple pm_merged_triple an_merged_triple cd_merged_triple ct_merged_triple), sl_merged_triple⟩)
    (c_merged_triple : PySem.W.codeIn K cd_merged_triple "merged_triple" = true)
    (k_merged_triple : PySem.W.keepIn K (.ref f_merged_triple) = true)
    (a_first_and_last : PySem.W.nsIn K mainGlobals "first_and_last" = some (some (.ref f_first_and_last)))
    (l_first_and_last : K.lookup f_first_and_last = some ⟨oc_first_and_last, od_first_and_last, .func (PySem.W.fnOf "first_and_last" "first_and_last" (defArgs s_first_and_last) (defBody s_first_and_last) (defScope s_first_and_last) .none kV_first_and_last dc_first_and_last pm_first_and_last an_first_and_last cd_first_and_last ct_first_and_last), sl_first_and_last⟩)
    (c_first_and_last : PySem.W.codeIn K cd_first_and_last "first_and_last" = true)
    (k_first_and_last : PySem.W.keepIn K (.ref f_first_and_last) = true)
    (a_through : PySem.W.nsIn K mainGlobals "through" = some (some (.ref f_through)))
    (l_through : K.lookup f_through = some ⟨oc_through, od_through, .func (PySem.W.fnOf "through" "through" (defArgs s_through) (defBody s_through) (defScope s_through) .none kV_through dc_through pm_through an_through cd_through ct_through), sl_through⟩)
    (c_through : PySem.W.codeIn K cd_through "through" = true)
    (k_through : PySem.W.keepIn K (.ref f_through) = true)
    (a_Kept_init : PySem.W.findIn K (.ref C_Kept) "__init__" = some (some (.ref f_Kept_init)))
    (i_Kept_init : PySem.W.isFn K (.ref f_Kept_init) = true)
    (l_Kept_init : K.lookup f_Kept_init = some ⟨oc_Kept_init, od_Kept_init, .func (PySem.W.fnOf "__init__" "Kept.__init__" (defArgs s_Kept_init) (defBody s_Kept_init) (defScope s_Kept_init) .none kV_Kept_init dc_Kept_init pm_Kept_init an_Kept_init cd_Kept_init ct_Kept_init), sl_Kept_init⟩)
    (c_Kept_init : PySem.W.codeIn K cd_Kept_init "Kept.__init__" = true)
    (k_Kept_init : PySem.W.keepIn K (.ref f_Kept_init) = true)
    (a_Kept_put : PySem.W.findIn K (.ref C_Kept) "put" = some (some (.ref f_Kept_put)))
    (i_Kept_put : PySem.W.isFn K (.ref f_Kept_put) = true)
    (l_Kept_put : K.lookup f_Kept_put = some ⟨oc_Kept_put, od_Kept_put, .func (PySem.W.fnOf "put" "Kept.put" (defArgs s_Kept_put) (defBody s_Kept_put) (defScope s_Kept_put) .none kV_Kept_put dc_Kept_put pm_Kept_put an_Kept_put cd_Kept_put ct_Kept_put), sl_Kept_put⟩)
    (c_Kept_put : PySem.W.codeIn K cd_Kept_put "Kept.put" = true)
    (k_Kept_put : PySem.W.keepIn K (.ref f_Kept_put) = true)
    (a_Kept_numbers : PySem.W.findIn K (.ref C_Kept) "numbers" = some (some (.ref f_Kept_numbers)))
    (i_Kept_numbers : PySem.W.isFn K (.ref f_Kept_numbers) = true)
    (l_Kept_numbers : K.lookup f_Kept_numbers = some ⟨oc_Kept_numbers, od_Kept_numbers, .func (PySem.W.fnOf "numbers" "Kept.numbers" (defArgs s_Kept_numbers) (defBody s_Kept_numbers) (defScope s_Kept_numbers) .none kV_Kept_numbers dc_Kept_numbers pm_Kept_numbers an_Kept_numbers cd_Kept_numbers ct_Kept_numbers), sl_Kept_numbers⟩)
    (c_Kept_numbers : PySem.W.codeIn K cd_Kept_numbers "Kept.numbers" = true)
    (k_Kept_numbers : PySem.W.keepIn K (.ref f_Kept_numbers) = true)
    (a_Kept_stretch : PySem.W.findIn K (.ref C_Kept) "stretch" = some (some (.ref f_Kept_stretch)))
    (i_Kept_stretch : PySem.W.isFn K (.ref f_Kept_stretch) = true)
    (l_Kept_stretch : K.lookup f_Kept_stretch = some ⟨oc_Kept_stretch, od_Kept_stretch, .func (PySem.W.fnOf "stretch" "Kept.stretch" (defArgs s_Kept_stretch) (defBody s_Kept_stretch) (defScope s_Kept_stretch) .none kV_Kept_stretch dc_Kept_stretch pm_Kept_stretch an_Kept_stretch cd_Kept_stretch ct_Kept_stretch), sl_Kept_stretch⟩)
    (c_Kept_stretch : PySem.W.codeIn K cd_Kept_stretch "Kept.stretch" = true)
    (k_Kept_stretch : PySem.W.keepIn K (.ref f_Kept_stretch) = true)
    (a_Kept_covers : PySem.W.findIn K (.ref C_Kept) "covers" = some (some (.ref f_Kept_covers)))
    (i_Kept_covers : PySem.W.isFn K (.ref f_Kept_covers) = true)
    (l_Kept_covers : K.lookup f_Kept_covers = some ⟨oc_Kept_covers, od_Kept_covers, .func (PySem.W.fnOf "covers" "Kept.covers" (defArgs s_Kept_covers) (defBody s_Kept_covers) (defScope s_Kept_covers) .none kV_Kept_covers dc_Kept_covers pm_Kept_covers an_Kept_covers cd_Kept_covers ct_Kept_covers), sl_Kept_covers⟩)
    (c_Kept_covers : PySem.W.codeIn K cd_Kept_covers "Kept.covers" = true)
    (k_Kept_covers : PySem.W.keepIn K (.ref f_Kept_covers) = true)
    (a_Kept__key : PySem.W.findIn K (.ref C_Kept) "_key" = some (some (.ref f_Kept__key)))
    (i_Kept__key : PySem.W.isFn K (.ref f_Kept__key) = true)
    (l_Kept__key : K.lookup f_Kept__key = some ⟨oc_Kept__key, od_Kept__key, .func (PySem.W.fnOf "_key" "Kept._key" (defArgs s_Kept__key) (defBody s_Kept__key) (defScope s_Kept__key) .none kV_Kept__key dc_Kept__key pm_Kept__key an_Kept__key cd_Kept__key ct_Kept__key), sl_Kept__key⟩)
    (c_Kept__key : PySem.W.codeIn K cd_Kept__key "Kept._key" = true)
    (k_Kept__key : PySem.W.keepIn K (.ref f_Kept__key) = true)
    (a_l_whole : PySem.W.nsIn K mainGlobals "_law_whole" = some (some (.ref f_l_whole)))
    (l_l_whole : K.lookup f_l_whole = some ⟨oc_l_whole, od_l_whole, .func (PySem.W.fnOf "_law_whole" "_law_whole" (defArgs s_l_whole) (defBody s_l_whole) (defScope s_l_whole) .none kV_l_whole dc_l_whole pm_l_whole an_l_whole cd_l_whole ct_l_whole), sl_l_whole⟩)
    (c_l_whole : PySem.W.codeIn K cd_l_whole "_law_whole" = true)
    (k_l_whole : PySem.W.keepIn K (.ref f_l_whole) = true)
    (a_l_at : PySem.W.nsIn K mainGlobals "_law_at" = some (some (.ref f_l_at)))
    (l_l_at : K.lookup f_l_at = some ⟨oc_l_at, od_l_at, .func (PySem.W.fnOf "_law_at" "_law_at" (defArgs s_l_at) (defBody s_l_at) (defScope s_l_at) .none kV_l_at dc_l_at pm_l_at an_l_at cd_l_at ct_l_at), sl_l_at⟩)
    (c_l_at : PySem.W.codeIn K cd_l_at "_law_at" = true)
    (k_l_at : PySem.W.keepIn K (.ref f_l_at) = true)
    (a_l_value : PySem.W.nsIn K mainGlobals "_law_value" = some (some (.ref f_l_value)))
    (l_l_value : K.lookup f_l_value = some ⟨oc_l_value, od_l_value, .func (PySem.W.fnOf "_law_value" "_law_value" (defArgs s_l_value) (defBody s_l_value) (defScope s_l_value) .none kV_l_value dc_l_value pm_l_value an_l_value cd_l_value ct_l_value), sl_l_value⟩)
    (c_l_value : PySem.W.codeIn K cd_l_value "_law_value" = true)
    (k_l_value : PySem.W.keepIn K (.ref f_l_value) = true)
    (a_l_row : PySem.W.nsIn K mainGlobals "_law_row" = some (some (.ref f_l_row)))
    (l_l_row : K.lookup f_l_row = some ⟨oc_l_row, od_l_row, .func (PySem.W.fnOf "_law_row" "_law_row" (defArgs s_l_row) (defBody s_l_row) (defScope s_l_row) .none kV_l_row dc_l_row pm_l_row an_l_row cd_l_row ct_l_row), sl_l_row⟩)
    (c_l_row : PySem.W.codeIn K cd_l_row "_law_row" = true)
    (k_l_row : PySem.W.keepIn K (.ref f_l_row) = true)
    (a_l_order : PySem.W.nsIn K mainGlobals "_law_order" = some (some (.ref f_l_order)))
    (l_l_order : K.lookup f_l_order = some ⟨oc_l_order, od_l_order, .func (PySem.W.fnOf "_law_order" "_law_order" (defArgs s_l_order) (defBody s_l_order) (defScope s_l_order) .none kV_l_order dc_l_order pm_l_order an_l_order cd_l_order ct_l_order), sl_l_order⟩)
    (c_l_order : PySem.W.codeIn K cd_l_order "_law_order" = true)
    (k_l_order : PySem.W.keepIn K (.ref f_l_order) = true)
    (a_l_triple : PySem.W.nsIn K mainGlobals "_law_triple" = some (some (.ref f_l_triple)))
    (l_l_triple : K.lookup f_l_triple = some ⟨oc_l_triple, od_l_triple, .func (PySem.W.fnOf "_law_triple" "_law_triple" (defArgs s_l_triple) (defBody s_l_triple) (defScope s_l_triple) .none kV_l_triple dc_l_triple pm_l_triple an_l_triple cd_l_triple ct_l_triple), sl_l_triple⟩)
    (c_l_triple : PySem.W.codeIn K cd_l_triple "_law_triple" = true)
    (k_l_triple : PySem.W.keepIn K (.ref f_l_triple) = true)
    (a_l_ends : PySem.W.nsIn K mainGlobals "_law_ends" = some (some (.ref f_l_ends)))
    (l_l_ends : K.lookup f_l_ends = some ⟨oc_l_ends, od_l_ends, .func (PySem.W.fnOf "_law_ends" "_law_ends" (defArgs s_l_ends) (defBody s_l_ends) (defScope s_l_ends) .none kV_l_ends dc_l_ends pm_l_ends an_l_ends cd_l_ends ct_l_ends), sl_l_ends⟩)
    (c_l_ends : PySem.W.codeIn K cd_l_ends "_law_ends" = true)
    (k_l_ends : PySem.W.keepIn K (.ref f_l_ends) = true)
    (a_l_between : PySem.W.nsIn K mainGlobals "_law_between" = some (some (.ref f_l_between)))
    (l_l_between : K.lookup f_l_between = some ⟨oc_l_between, od_l_between, .func (PySem.W.fnOf "_law_between" "_law_between" (defArgs s_l_between) (defBody s_l_between) (defScope s_l_between) .none kV_l_between dc_l_between pm_l_between an_l_between cd_l_between ct_l_between), sl_l_between⟩)
    (c_l_between : PySem.W.codeIn K cd_l_between "_law_between" = true)
    (k_l_between : PySem.W.keepIn K (.ref f_l_between) = true)
    (a_l_in_stretch : PySem.W.nsIn K mainGlobals "_law_in_stretch" = some (some (.ref f_l_in_stretch)))
    (l_l_in_stretch : K.lookup f_l_in_stretch = some ⟨oc_l_in_stretch, od_l_in_stretch, .func (PySem.W.fnOf "_law_in_stretch" "_law_in_stretch" (defArgs s_l_in_stretch) (defBody s_l_in_stretch) (defScope s_l_in_stretch) .none kV_l_in_stretch dc_l_in_stretch pm_l_in_stretch an_l_in_stretch cd_l_in_stretch ct_l_in_stretch), sl_l_in_stretch⟩)
    (c_l_in_stretch : PySem.W.codeIn K cd_l_in_stretch "_law_in_stretch" = true)
    (k_l_in_stretch : PySem.W.keepIn K (.ref f_l_in_stretch) = true)
    (a_l_ahead : PySem.W.nsIn K mainGlobals "_law_ahead" = some (some (.ref f_l_ahead)))
    (l_l_ahead : K.lookup f_l_ahead = some ⟨oc_l_ahead, od_l_ahead, .func (PySem.W.fnOf "_law_ahead" "_law_ahead" (defArgs s_l_ahead) (defBody s_l_ahead) (defScope s_l_ahead) .none kV_l_ahead dc_l_ahead pm_l_ahead an_l_ahead cd_l_ahead ct_l_ahead), sl_l_ahead⟩)
    (c_l_ahead : PySem.W.codeIn K cd_l_ahead "_law_ahead" = true)
    (k_l_ahead : PySem.W.keepIn K (.ref f_l_ahead) = true)
    (a_l_in_order : PySem.W.nsIn K mainGlobals "_law_in_order" = some (some (.ref f_l_in_order)))
    (l_l_in_order : K.lookup f_l_in_order = some ⟨oc_l_in_order, od_l_in_order, .func (PySem.W.fnOf "_law_in_order" "_law_in_order" (defArgs s_l_in_order) (defBody s_l_in_order) (defScope s_l_in_order) .none kV_l_in_order dc_l_in_order pm_l_in_order an_l_in_order cd_l_in_order ct_l_in_order), sl_l_in_order⟩)
    (c_l_in_order : PySem.W.codeIn K cd_l_in_order "_law_in_order" = true)
    (k_l_in_order : PySem.W.keepIn K (.ref f_l_in_order) = true)
    (a_l_good : PySem.W.nsIn K mainGlobals "_law_good" = some (some (.ref f_l_good)))
    (l_l_good : K.lookup f_l_good = some ⟨oc_l_good, od_l_good, .func (PySem.W.fnOf "_law_good" "_law_good" (defArgs s_l_good) (defBody s_l_good) (defScope s_l_good) .none kV_l_good dc_l_good pm_l_good an_l_good cd_l_good ct_l_good), sl_l_good⟩)
    (c_l_good : PySem.W.codeIn K cd_l_good "_law_good" = true)
    (k_l_good : PySem.W.keepIn K (.ref f_l_good) = true)
    (a_l_all_good : PySem.W.nsIn K mainGlobals "_law_all_good" = some (some (.ref f_l_all_good)))
    (l_l_all_good : K.lookup f_l_all_good = some ⟨oc_l_all_good, od_l_all_good, .func (PySem.W.fnOf "_law_all_good" "_law_all_good" (defArgs s_l_all_good) (defBody s_l_all_good) (defScope s_l_all_good) .none kV_l_all_good dc_l_all_good pm_l_all_good an_l_all_good cd_l_all_good ct_l_all_good), sl_l_all_good⟩)
    (c_l_all_good : PySem.W.codeIn K cd_l_all_good "_law_all_good" = true)
    (k_l_all_good : PySem.W.keepIn K (.ref f_l_all_good) = true)
    (a_law : PySem.W.nsIn K mainGlobals "law" = some (some (.ref f_law)))
    (l_law : K.lookup f_law = some ⟨oc_law, od_law, .func (PySem.W.fnOf "law" "law" (defArgs s_law) (defBody s_law) (defScope s_law) .none kV_law dc_law pm_law an_law cd_law ct_law), sl_law⟩)
    (c_law : PySem.W.codeIn K cd_law "law" = true)
    (k_law : PySem.W.keepIn K (.ref f_law) = true)
    (z_zip : PySem.W.nsIn K mainGlobals "zip" = some none)
    (z_len : PySem.W.nsIn K mainGlobals "len" = some none)
    (z_sorted : PySem.W.nsIn K mainGlobals "sorted" = some none)
    (z_list : PySem.W.nsIn K mainGlobals "list" = some none)
    (z_range : PySem.W.nsIn K mainGlobals "range" = some none)
    (z_tuple : PySem.W.nsIn K mainGlobals "tuple" = some none)
    (z_all : PySem.W.nsIn K mainGlobals "all" = some none)
    (z_max : PySem.W.nsIn K mainGlobals "max" = some none)
    (z_min : PySem.W.nsIn K mainGlobals "min" = some none)
    (z_isinstance : PySem.W.nsIn K mainGlobals "isinstance" = some none)
    (z_int : PySem.W.nsIn K mainGlobals "int" = some none)
    (z_bool : PySem.W.nsIn K mainGlobals "bool" = some none) :
    ∃ fd : FuncData, (∀ (s : Shared) (v : Value), BindsTo s fd ⟨[v], []⟩ [("_law_script", v)]) ∧ ∀ base : Heap, K.In base → base.Ns mainGlobals mg → FnOk l.prog w K mg base CX0 7 fa fd ["_law_script"] (spLaw K) := by
  have e := hfa.symm.trans (PySem.W.mg_of X G a_law)
  cases e
  have T_Kept : Cls K C_Kept := ⟨pg_Kept, hd_Kept, po_Kept, sa_Kept⟩
  have m_Kept := PySem.W.mg_of X G aC_Kept
  have F_less := fun_mk (st := s_less) l_less c_less k_less
  have m_less := PySem.W.mg_of X G a_less
  have b_less := F_less.binds (ps := ["one", "other"]) fun _ _ _ _ _ _ us hl => match us, hl with | [_, _], _ => rfl
  have F_below := fun_mk (st := s_below) l_below c_below k_below
  have m_below := PySem.W.mg_of X G a_below
  have b_below := F_below.binds (ps := ["rows", "key"]) fun _ _ _ _ _ _ us hl => match us, hl with | [_, _], _ => rfl
  have F_merged := fun_mk (st := s_merged) l_merged c_merged k_merged
  have m_merged := PySem.W.mg_of X G a_merged
  have b_merged := F_merged.binds (ps := ["wish"]) fun _ _ _ _ _ _ us hl => match us, hl with | [_], _ => rfl
  have F_merged_triple := fun_mk (st := s_merged_triple) l_merged_triple c_merged_triple k_merged_triple
  have m_merged_triple := PySem.W.mg_of X G a_merged_triple
  have b_merged_triple := F_merged_triple.binds (ps := ["column", "wish"]) fun _ _ _ _ _ _ us hl => match us, hl with | [_, _], _ => rfl
  have F_first_and_last := fun_mk (st := s_first_and_last) l_first_and_last c_first_and_last k_first_and_last
  have m_first_and_last := PySem.W.mg_of X G a_first_and_last
  have b_first_and_last := F_first_and_last.binds (ps := ["columns", "wish"]) fun _ _ _ _ _ _ us hl => match us, hl with | [_, _], _ => rfl
  have F_through := fun_mk (st := s_through) l_through c_through k_through
  have m_through := PySem.W.mg_of X G a_through
  have b_through := F_through.binds (ps := ["keys", "last"]) fun _ _ _ _ _ _ us hl => match us, hl with | [_, _], _ => rfl
  have F_Kept_init := fun_mk (st := s_Kept_init) l_Kept_init c_Kept_init k_Kept_init
  have b_Kept_init := F_Kept_init.binds (ps := ["self", "columns"]) fun _ _ _ _ _ _ us hl => match us, hl with | [_, _], _ => rfl
  have F_Kept_put := fun_mk (st := s_Kept_put) l_Kept_put c_Kept_put k_Kept_put
  have b_Kept_put := F_Kept_put.binds (ps := ["self", "number", "row"]) fun _ _ _ _ _ _ us hl => match us, hl with | [_, _, _], _ => rfl
  have F_Kept_numbers := fun_mk (st := s_Kept_numbers) l_Kept_numbers c_Kept_numbers k_Kept_numbers
  have b_Kept_numbers := F_Kept_numbers.binds (ps := ["self"]) fun _ _ _ _ _ _ us hl => match us, hl with | [_], _ => rfl
  have F_Kept_stretch := fun_mk (st := s_Kept_stretch) l_Kept_stretch c_Kept_stretch k_Kept_stretch
  have b_Kept_stretch := F_Kept_stretch.binds (ps := ["self", "wish"]) fun _ _ _ _ _ _ us hl => match us, hl with | [_, _], _ => rfl
  have F_Kept_covers := fun_mk (st := s_Kept_covers) l_Kept_covers c_Kept_covers k_Kept_covers
  have b_Kept_covers := F_Kept_covers.binds (ps := ["self", "wish"]) fun _ _ _ _ _ _ us hl => match us, hl with | [_, _], _ => rfl
  have F_Kept__key := fun_mk (st := s_Kept__key) l_Kept__key c_Kept__key k_Kept__key
  have b_Kept__key := F_Kept__key.binds (ps := ["self", "number", "row"]) fun _ _ _ _ _ _ us hl => match us, hl with | [_, _, _], _ => rfl
  have F_l_whole := fun_mk (st := s_l_whole) l_l_whole c_l_whole k_l_whole
  have m_l_whole := PySem.W.mg_of X G a_l_whole
  have b_l_whole := F_l_whole.binds (ps := ["_law_found"]) fun _ _ _ _ _ _ us hl => match us, hl with | [_], _ => rfl
  have F_l_at := fun_mk (st := s_l_at) l_l_at c_l_at k_l_at
  have m_l_at := PySem.W.mg_of X G a_l_at
  have b_l_at := F_l_at.binds (ps := ["_law_script", "_law_k"]) fun _ _ _ _ _ _ us hl => match us, hl with | [_, _], _ => rfl
  have F_l_value := fun_mk (st := s_l_value) l_l_value c_l_value k_l_value
  have m_l_value := PySem.W.mg_of X G a_l_value
  have b_l_value := F_l_value.binds (ps := ["_law_cell"]) fun _ _ _ _ _ _ us hl => match us, hl with | [_], _ => rfl
  have F_l_row := fun_mk (st := s_l_row) l_l_row c_l_row k_l_row
  have m_l_row := PySem.W.mg_of X G a_l_row
  have b_l_row := F_l_row.binds (ps := ["_law_cell", "_law_width"]) fun _ _ _ _ _ _ us hl => match us, hl with | [_, _], _ => rfl
  have F_l_order := fun_mk (st := s_l_order) l_l_order c_l_order k_l_order
  have m_l_order := PySem.W.mg_of X G a_l_order
  have b_l_order := F_l_order.binds (ps := ["_law_cell", "_law_width"]) fun _ _ _ _ _ _ us hl => match us, hl with | [_, _], _ => rfl
  have F_l_triple := fun_mk (st := s_l_triple) l_l_triple c_l_triple k_l_triple
  have m_l_triple := PySem.W.mg_of X G a_l_triple
  have b_l_triple := F_l_triple.binds (ps := ["_law_cell", "_law_width", "_law_rows"]) fun _ _ _ _ _ _ us hl => match us, hl with | [_, _, _], _ => rfl
  have F_l_ends := fun_mk (st := s_l_ends) l_l_ends c_l_ends k_l_ends
  have m_l_ends := PySem.W.mg_of X G a_l_ends
  have b_l_ends := F_l_ends.binds (ps := ["_law_wish", "_law_column"]) fun _ _ _ _ _ _ us hl => match us, hl with | [_, _], _ => rfl
  have F_l_between := fun_mk (st := s_l_between) l_l_between c_l_between k_l_between
  have m_l_between := PySem.W.mg_of X G a_l_between
  have b_l_between := F_l_between.binds (ps := ["_law_value_here", "_law_pair"]) fun _ _ _ _ _ _ us hl => match us, hl with | [_, _], _ => rfl
  have F_l_in_stretch := fun_mk (st := s_l_in_stretch) l_l_in_stretch c_l_in_stretch k_l_in_stretch
  have m_l_in_stretch := PySem.W.mg_of X G a_l_in_stretch
  have b_l_in_stretch := F_l_in_stretch.binds (ps := ["_law_row_here", "_law_columns", "_law_wish"]) fun _ _ _ _ _ _ us hl => match us, hl with | [_, _, _], _ => rfl
  have F_l_ahead := fun_mk (st := s_l_ahead) l_l_ahead c_l_ahead k_l_ahead
  have m_l_ahead := PySem.W.mg_of X G a_l_ahead
  have b_l_ahead := F_l_ahead.binds (ps := ["_law_one", "_law_other"]) fun _ _ _ _ _ _ us hl => match us, hl with | [_, _], _ => rfl
  have F_l_in_order := fun_mk (st := s_l_in_order) l_l_in_order c_l_in_order k_l_in_order
  have m_l_in_order := PySem.W.mg_of X G a_l_in_order
  have b_l_in_order := F_l_in_order.binds (ps := ["_law_found", "_law_rows", "_law_columns"]) fun _ _ _ _ _ _ us hl => match us, hl with | [_, _, _], _ => rfl
  have F_l_good := fun_mk (st := s_l_good) l_l_good c_l_good k_l_good
  have m_l_good := PySem.W.mg_of X G a_l_good
  have b_l_good := F_l_good.binds (ps := ["_law_kept", "_law_rows", "_law_columns", "_law_wish", "_law_handed", "_law_held"]) fun _ _ _ _ _ _ us hl => match us, hl with | [_, _, _, _, _, _], _ => rfl
  have F_l_all_good := fun_mk (st := s_l_all_good) l_l_all_good c_l_all_good k_l_all_good
  have m_l_all_good := PySem.W.mg_of X G a_l_all_good
  have b_l_all_good := F_l_all_good.binds (ps := ["_law_kept", "_law_rows", "_law_columns", "_law_wishes", "_law_held"]) fun _ _ _ _ _ _ us hl => match us, hl with | [_, _, _, _, _], _ => rfl
  have F_law := fun_mk (st := s_law) l_law c_law k_law
  have m_law := PySem.W.mg_of X G a_law
  have b_law := F_law.binds (ps := ["_law_script"]) fun _ _ _ _ _ _ us hl => match us, hl with | [_], _ => rfl
  have Z : Zs mg := ⟨PySem.W.mg_none_of X G z_zip, PySem.W.mg_none_of X G z_len, PySem.W.mg_none_of X G z_sorted, PySem.W.mg_none_of X G z_list, PySem.W.mg_none_of X G z_range, PySem.W.mg_none_of X G z_tuple, PySem.W.mg_none_of X G z_all, PySem.W.mg_none_of X G z_max, PySem.W.mg_none_of X G z_min, PySem.W.mg_none_of X G z_isinstance, PySem.W.mg_none_of X G z_int, PySem.W.mg_none_of X G z_bool⟩
  exact ⟨PySem.W.fnOf "law" "law" (defArgs s_law) (defBody s_law) (defScope s_law) .none kV_law dc_law pm_law an_law cd_law ct_law, fun s v => .of_eq rfl, fun base _ _ => ok_law (keptS T_Kept N_Kept_columns) F_law Z (cl_mk F_l_at (ok_at F_l_at Z) m_l_at b_l_at) (cl_mk F_l_order (ok_order F_l_order Z) m_l_order b_l_order) (cl_mk F_l_row (ok_row F_l_row Z (cl_mk F_l_value (ok_value F_l_value) m_l_value b_l_value)) m_l_row b_l_row) (cl_mk F_l_triple (ok_triple F_l_triple Z (cl_mk F_l_value (ok_value F_l_value) m_l_value b_l_value)) m_l_triple b_l_triple) ⟨⟨_, _, _, ⟨mk_Kept, a_Kept_init, i_Kept_init, kc_Kept⟩, ok_kinit F_Kept_init Z T_Kept N_Kept_columns N_Kept__keys, m_Kept, b_Kept_init⟩⟩ ⟨⟨_, _, _, T_Kept, ⟨a_Kept_put, i_Kept_put, k_Kept_put⟩, ok_kput F_Kept_put T_Kept N_Kept_columns N_Kept__keys ⟨⟨_, _, _, T_Kept, ⟨a_Kept__key, i_Kept__key, k_Kept__key⟩, ok_key F_Kept__key T_Kept N_Kept_columns, b_Kept__key⟩⟩ (cl_mk F_below (ok_below F_below Z (cl_mk F_less (ok_less F_less Z) m_less b_less)) m_below b_below), b_Kept_put⟩⟩ (cl_mk F_l_all_good (ok_all_good (keptS T_Kept N_Kept_columns) F_l_all_good Z (cl_mk F_l_good (ok_good (keptS T_Kept N_Kept_columns) F_l_good Z ⟨⟨_, _, _, T_Kept, ⟨a_Kept_stretch, i_Kept_stretch, k_Kept_stretch⟩, ok_kstretch F_Kept_stretch T_Kept N_Kept_columns N_Kept__keys (cl_mk F_first_and_last (ok_first F_first_and_last Z (cl_mk F_merged (ok_merged F_merged Z (cl_mk F_merged_triple (ok_merged_triple F_merged_triple Z) m_merged_triple b_merged_triple)) m_merged b_merged)) m_first_and_last b_first_and_last) (cl_mk F_below (ok_below F_below Z (cl_mk F_less (ok_less F_less Z) m_less b_less)) m_below b_below) (cl_mk F_through (ok_through F_through Z (cl_mk F_below (ok_below F_below Z (cl_mk F_less (ok_less F_less Z) m_less b_less)) m_below b_below)) m_through b_through), b_Kept_stretch⟩⟩ ⟨⟨_, _, _, T_Kept, ⟨a_Kept_covers, i_Kept_covers, k_Kept_covers⟩, ok_kcovers F_Kept_covers Z T_Kept N_Kept_columns N_Kept__keys, b_Kept_covers⟩⟩ (cl_mk F_l_in_order (ok_in_ord F_l_in_order Z (cl_mk F_l_whole (ok_whole F_l_whole Z) m_l_whole b_l_whole) (cl_mk F_l_ahead (ok_ahead F_l_ahead Z) m_l_ahead b_l_ahead)) m_l_in_order b_l_in_order) (cl_mk F_l_in_stretch (ok_inS F_l_in_stretch Z (cl_mk F_l_ends (ok_ends F_l_ends Z) m_l_ends b_l_ends) (cl_mk F_l_between (ok_between F_l_between Z) m_l_between b_l_between)) m_l_in_stretch b_l_in_stretch)) m_l_good b_l_good)) m_l_all_good b_l_all_good)⟩
end K6
open PySem PySem.W PyProof.Rows
set_option maxHeartbeats 0 in
theorem PySem.Challenge.cw_waybook_k06_a_stretch_holds : PySem.Challenge.rw_waybook_k06_a_stretch.Holds := by
  w_on; o_law; k_head; (case hw => w_witness2)
  k_fill
  refine L2.walk_ofB (l := PySem.Challenge.rw_waybook_k06_a_stretch) (n := 63) (k := 7) (x := "_law_script") (CX := fun _ => L2.CX0) (sp := fun w => K6.spLaw _) rfl (by decide) rfl ⟨rfl, by decide, by decide⟩ (fun w h Y => PySem.W.kIn_of Y) ?F (fun _ _ a ns hl hb _ hS => ⟨a, ns, rfl, hS, hl, fun z hz => Wy.Bits.of (hb z hz), fun _ => rfl⟩) (fun _ _ _ _ _ h => h)
  case F =>
    intro w mg fa h KX G hmg
    refine' K6.all_mk KX G hmg ?aC_Kept ?pg_Kept ?hd_Kept ?po_Kept ?sa_Kept ?mk_Kept ?kc_Kept ?N_Kept_columns ?N_Kept__keys ?a_less ?l_less ?c_less ?k_less ?a_below ?l_below ?c_below ?k_below ?a_merged ?l_merged ?c_merged ?k_merged ?a_merged_triple ?l_merged_triple ?c_merged_triple ?k_merged_triple ?a_first_and_last ?l_first_and_last ?c_first_and_last ?k_first_and_last ?a_through ?l_through ?c_through ?k_through ?a_Kept_init ?i_Kept_init ?l_Kept_init ?c_Kept_init ?k_Kept_init ?a_Kept_put ?i_Kept_put ?l_Kept_put ?c_Kept_put ?k_Kept_put ?a_Kept_numbers ?i_Kept_numbers ?l_Kept_numbers ?c_Kept_numbers ?k_Kept_numbers ?a_Kept_stretch ?i_Kept_stretch ?l_Kept_stretch ?c_Kept_stretch ?k_Kept_stretch ?a_Kept_covers ?i_Kept_covers ?l_Kept_covers ?c_Kept_covers ?k_Kept_covers ?a_Kept__key ?i_Kept__key ?l_Kept__key ?c_Kept__key ?k_Kept__key ?a_l_whole ?l_l_whole ?c_l_whole ?k_l_whole ?a_l_at ?l_l_at ?c_l_at ?k_l_at ?a_l_value ?l_l_value ?c_l_value ?k_l_value ?a_l_row ?l_l_row ?c_l_row ?k_l_row ?a_l_order ?l_l_order ?c_l_order ?k_l_order ?a_l_triple ?l_l_triple ?c_l_triple ?k_l_triple ?a_l_ends ?l_l_ends ?c_l_ends ?k_l_ends ?a_l_between ?l_l_between ?c_l_between ?k_l_between ?a_l_in_stretch ?l_l_in_stretch ?c_l_in_stretch ?k_l_in_stretch ?a_l_ahead ?l_l_ahead ?c_l_ahead ?k_l_ahead ?a_l_in_order ?l_l_in_order ?c_l_in_order ?k_l_in_order ?a_l_good ?l_l_good ?c_l_good ?k_l_good ?a_l_all_good ?l_l_all_good ?c_l_all_good ?k_l_all_good ?a_law ?l_law ?c_law ?k_law ?z_zip ?z_len ?z_sorted ?z_list ?z_range ?z_tuple ?z_all ?z_max ?z_min ?z_isinstance ?z_int ?z_bool
    (case aC_Kept => k_is); (case pg_Kept => k_is); (case hd_Kept => k_is); (case po_Kept => k_is); (case sa_Kept => k_is); (case mk_Kept => k_is); (case kc_Kept => k_is); (case N_Kept_columns => k_is); (case N_Kept__keys => k_is); (case a_less => k_is); (case l_less => k_is); (case c_less => k_is); (case k_less => k_is); (case a_below => k_is); (case l_below => k_is); (case c_below => k_is); (case k_below => k_is); (case a_merged => k_is); (case l_merged => k_is); (case c_merged => k_is); (case k_merged => k_is); (case a_merged_triple => k_is); (case l_merged_triple => k_is); (case c_merged_triple => k_is); (case k_merged_triple => k_is); (case a_first_and_last => k_is); (case l_first_and_last => k_is); (case c_first_and_last => k_is); (case k_first_and_last => k_is); (case a_through => k_is); (case l_through => k_is); (case c_through => k_is); (case k_through => k_is); (case a_Kept_init => k_is); (case i_Kept_init => k_is); (case l_Kept_init => k_is); (case c_Kept_init => k_is); (case k_Kept_init => k_is); (case a_Kept_put => k_is); (case i_Kept_put => k_is); (case l_Kept_put => k_is); (case c_Kept_put => k_is); (case k_Kept_put => k_is); (case a_Kept_numbers => k_is); (case i_Kept_numbers => k_is); (case l_Kept_numbers => k_is); (case c_Kept_numbers => k_is); (case k_Kept_numbers => k_is); (case a_Kept_stretch => k_is); (case i_Kept_stretch => k_is); (case l_Kept_stretch => k_is); (case c_Kept_stretch => k_is); (case k_Kept_stretch => k_is); (case a_Kept_covers => k_is); (case i_Kept_covers => k_is); (case l_Kept_covers => k_is); (case c_Kept_covers => k_is); (case k_Kept_covers => k_is); (case a_Kept__key => k_is); (case i_Kept__key => k_is); (case l_Kept__key => k_is); (case c_Kept__key => k_is); (case k_Kept__key => k_is); (case a_l_whole => k_is); (case l_l_whole => k_is); (case c_l_whole => k_is); (case k_l_whole => k_is); (case a_l_at => k_is); (case l_l_at => k_is); (case c_l_at => k_is); (case k_l_at => k_is); (case a_l_value => k_is); (case l_l_value => k_is); (case c_l_value => k_is); (case k_l_value => k_is); (case a_l_row => k_is); (case l_l_row => k_is); (case c_l_row => k_is); (case k_l_row => k_is); (case a_l_order => k_is); (case l_l_order => k_is); (case c_l_order => k_is); (case k_l_order => k_is); (case a_l_triple => k_is); (case l_l_triple => k_is); (case c_l_triple => k_is); (case k_l_triple => k_is); (case a_l_ends => k_is); (case l_l_ends => k_is); (case c_l_ends => k_is); (case k_l_ends => k_is); (case a_l_between => k_is); (case l_l_between => k_is); (case c_l_between => k_is); (case k_l_between => k_is); (case a_l_in_stretch => k_is); (case l_l_in_stretch => k_is); (case c_l_in_stretch => k_is); (case k_l_in_stretch => k_is); (case a_l_ahead => k_is); (case l_l_ahead => k_is); (case c_l_ahead => k_is); (case k_l_ahead => k_is); (case a_l_in_order => k_is); (case l_l_in_order => k_is); (case c_l_in_order => k_is); (case k_l_in_order => k_is); (case a_l_good => k_is); (case l_l_good => k_is); (case c_l_good => k_is); (case k_l_good => k_is); (case a_l_all_good => k_is); (case l_l_all_good => k_is); (case c_l_all_good => k_is); (case k_l_all_good => k_is); (case a_law => k_is); (case l_law => k_is); (case c_law => k_is); (case k_law => k_is); (case z_zip => k_is); (case z_len => k_is); (case z_sorted => k_is); (case z_list => k_is); (case z_range => k_is); (case z_tuple => k_is); (case z_all => k_is); (case z_max => k_is); (case z_min => k_is); (case z_isinstance => k_is); (case z_int => k_is); (case z_bool => k_is)

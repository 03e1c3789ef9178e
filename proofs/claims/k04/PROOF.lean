import PyProof.Rows.All
import Wide.All
import OpenK.AllK
import Wide.FinOn
import HandS.ForMost
import HandS.ForExc
import HandS.TryMany
import HandS.Evl
import HandS.IsInst
import HandS.EndBits
import HandS.SortInts
import HandS.Deep
import HandS.Zip
import HandS.More
import HandS.Conv
import KE.KDictSum
import KE.KDictCopyH
import HandS.Codes
import HandS.SetBool
import HandS.Strs
import HandS.SortKw
import HandS.DictComp
import PySem.Challenge.RW_waybook_k04_rows_that_fit
set_option Elab.async false
set_option linter.all false
set_option maxRecDepth 100000
set_option maxHeartbeats 4000000
/-! Wy: statements and values over what is known of the heap. -/
namespace Wy
open PySem PySem.Spec PyProof.Rows L2 Evl

/-! ### calls by what is promised -/
theorem cx_K {CX : CXT} {P : Program} {w : World} {K : PySem.W.Frag} {mg : Str → Option Value} {base : Heap} {N : List Str} {q : Str} {sc : Scope} {f : Addr} {cd : Value} {A : Around} {outer : List Env} {s : Shared} {H : Hp} {E : XK} :
    (cxOf CX P w K mg base N q sc f cd A outer s H E).nox.K = K := rfl
theorem cx_K1 {CX : CXT} {P : Program} {w : World} {K : PySem.W.Frag} {mg : Str → Option Value} {base : Heap} {N : List Str} {q : Str} {sc : Scope} {f : Addr} {cd : Value} {A : Around} {outer : List Env} {s : Shared} {H : Hp} {E : XK} :
    (cxOf CX P w K mg base N q sc f cd A outer s H E).K = K := rfl
structure Cl (P : Program) (w : World) (K : PySem.W.Frag) (mg : Str → Option Value) (base : Heap) (CX : CXT) (k : Nat) (x : Str) (sp : Sp) : Prop where
  ex : ∃ (f : Addr) (fd : FuncData) (ps : List Str), FnOk P w K mg base CX k f fd ps sp ∧ mg x = some (.ref f) ∧ PySem.W.keepIn K (.ref f) = true ∧ Binds K fd ps []
section
variable {X : Cx} {CX : CXT} {E : XK} {k j : Nat} {x : Str} {sp : Sp} {p pos : Pos} {e : Expr} {es : List Expr} {t : TA}
theorem pe_cl (c : Cl X.prog X.w X.K X.mg X.base CX k x sp) (hr : Room j X.A) (hk : k ≤ j) (hx : Passes CX X E) (hg : Gl X x) (ha : PA X (e :: es) t)
    (hdb : (x == ("__debug__" : Str)) = false := by decide) (he : starEach (e :: es) X.env = (false, eval e X.env) :: starEach es X.env := by rfl) (hpl : (backTo pos (starEach es X.env)).any (·.1) = false := by rfl) :
    PE X (.Call (.Name x p) (e :: es) [] pos) (tCall sp [] E t) := by
  obtain ⟨f, fd, ps, F, hm, kp, b⟩ := c.ex
  exact pe_call F (hr.mono hk) hg hm kp b .nil hx ha hdb he hpl
end
theorem cl_mk {P : Program} {w : World} {K : PySem.W.Frag} {mg : Str → Option Value} {base : Heap} {CX : CXT} {k : Nat} {x q : Str} {st : Stmt} {f : Addr} {fd : FuncData} {ps : List Str} {sp : Sp}
    (F : Fun K x q st f fd) (G : FnOk P w K mg base CX k f fd ps sp) (hm : mg x = some (.ref f)) (b : Binds K fd ps []) : Cl P w K mg base CX k x sp := ⟨f, fd, ps, G, hm, F.kp, b⟩

/-! ### statements at what is known -/
def Sv (ts : TS) (D : Ends) (σ : L2.St) (H : Hp) : Prop := ∀ H1, Ex H H1 → ts D σ H1
/-- a value of which P holds in what is known behind it -/
def EvP (te : TE) (σ : L2.St) (H : Hp) (P : V → Hp → Prop) : Prop := ∀ H1, Ex H H1 → ∀ Q : VK, (∀ v H2, Ex H1 H2 → P v H2 → Q v H2) → te σ H1 Q
abbrev IsL (xs : List V) : V → Hp → Prop := fun v H => ∃ p, v = .ref p ∧ H p = some (.lst xs)
section
variable {K : PySem.W.Frag} {σ : L2.St} {H H' : Hp} {ta tb te tx : TE} {t u : TT} {x y z v : V} {r : R2} {D : Ends} {tu tw tz ts : TS} {g : TG}
theorem Sv.mono (e : Ex H H') (h : Sv ts D σ H) : Sv ts D σ H' := fun H1 a => h H1 (e.trans a)
theorem Sv.at (h : Sv ts D σ H) : ts D σ H := h H (Ex.refl H)
theorem sv_asg {i : Nat} (h : Ev te σ H v) (k : Sv tz D (σ.set i (some v)) H) : Sv (tSeq (tAsg te (gName i)) tz) D σ H := fun H1 e => h H1 e _ fun H2 e2 => k H2 (e.trans e2)
theorem sv_asgP {i : Nat} {P : V → Hp → Prop} (h : EvP te σ H P) (k : ∀ v H2, Ex H H2 → P v H2 → Sv tz D (σ.set i (some v)) H2) : Sv (tSeq (tAsg te (gName i)) tz) D σ H :=
  fun H1 e => h H1 e _ fun v H2 e2 p => k v H2 (e.trans e2) p H2 (Ex.refl H2)
theorem sv_asgL {i : Nat} {xs : List V} (h : EvL te σ H xs) (k : ∀ p H2, H p = none → Ex H H2 → H2 p = some (.lst xs) → Sv tz D (σ.set i (some (.ref p))) H2) : Sv (tSeq (tAsg te (gName i)) tz) D σ H :=
  fun H1 e => h H1 e _ fun p H2 n e2 q => k p H2 (fresh_back e n) (e.trans e2) q H2 (Ex.refl H2)
theorem sv_asgU {i : Nat} {xs : List V} (h : EvU te σ H xs) (k : ∀ p H2, H p = none → Ex H H2 → H2 p = some (.tup xs) → Sv tz D (σ.set i (some (.ref p))) H2) : Sv (tSeq (tAsg te (gName i)) tz) D σ H :=
  fun H1 e => h H1 e _ fun p H2 n e2 q => k p H2 (fresh_back e n) (e.trans e2) q H2 (Ex.refl H2)
theorem sv_asg' {i : Nat} (h : Ev te σ H v) (k : Sv tNext D (σ.set i (some v)) H) : Sv (tAsg te (gName i)) D σ H := fun H1 e => h H1 e _ fun H2 e2 => k H2 (e.trans e2)
theorem sv_asgL' {i : Nat} {xs : List V} (h : EvL te σ H xs) (k : ∀ p H2, H p = none → Ex H H2 → H2 p = some (.lst xs) → Sv tNext D (σ.set i (some (.ref p))) H2) : Sv (tAsg te (gName i)) D σ H :=
  fun H1 e => h H1 e _ fun p H2 n e2 q => k p H2 (fresh_back e n) (e.trans e2) q H2 (Ex.refl H2)
theorem sv_ret (h : Ev te σ H v) (k : RetV v H D.rt) : Sv (tRet te) D σ H := fun H1 e => h H1 e _ fun H2 e2 => k H2 (e.trans e2)
theorem sv_retP {P : V → Hp → Prop} (h : EvP te σ H P) (k : ∀ v H1, Ex H H1 → P v H1 → D.rt v H1) : Sv (tRet te) D σ H := fun H1 e => h H1 e _ fun v H2 e2 p => k v H2 (e.trans e2) p
theorem sv_retL {xs : List V} (h : EvL te σ H xs) (k : RetL xs H D.rt) : Sv (tRet te) D σ H := fun H1 e => h H1 e _ fun p H2 n e2 q => k p H2 (fresh_back e n) (e.trans e2) q
theorem sv_retU {xs : List V} (h : EvU te σ H xs) (k : ∀ p H1, H p = none → Ex H H1 → H1 p = some (.tup xs) → D.rt (.ref p) H1) : Sv (tRet te) D σ H := fun H1 e => h H1 e _ fun p H2 n e2 q => k p H2 (fresh_back e n) (e.trans e2) q
theorem sv_ifB {b : Bool} (h : EvT t σ H b) (h1 : b = true → Sv tu { D with nx := tz D } σ H) (h2 : b = false → Sv tw { D with nx := tz D } σ H) : Sv (tSeq (tIfS t tu tw) tz) D σ H := fun H1 e => h H1 e _ fun H2 e2 => by
  cases b with
  | true => exact h1 rfl H2 (e.trans e2)
  | false => exact h2 rfl H2 (e.trans e2)
theorem sv_rq {nx bk ct : L2.St → Hp → Prop} {Q : VK} (k : RetV v H Q) (h : Ev te σ H v) : Sv (tRet te) { nx := nx, rt := Q, bk := bk, ct := ct } σ H := sv_ret h k
theorem sv_rqL {nx bk ct : L2.St → Hp → Prop} {Q : VK} {xs : List V} (k : RetL xs H Q) (h : EvL te σ H xs) : Sv (tRet te) { nx := nx, rt := Q, bk := bk, ct := ct } σ H := sv_retL h k
theorem ev_lenI {p : Addr} {ns : List Int} (ha : Ev ta σ H (.ref p)) (h : SqL K H p (ns.map V.int)) : Ev (tCB (rLenS K) (tCons ta tNil)) σ H (.int (ns.length : Int)) := by
  have g := ev_len ha h
  rw [List.length_map] at g
  exact g
/-- an if whose test is a proposition's truth, something behind -/
theorem sv_if {p : Prop} [Decidable p] (h : EvT t σ H (decide p)) (h1 : p → Sv tu { D with nx := tz D } σ H) (h2 : ¬ p → Sv tw { D with nx := tz D } σ H) : Sv (tSeq (tIfS t tu tw) tz) D σ H :=
  sv_ifB h (fun b => h1 (of_decide_eq_true b)) (fun b => h2 (of_decide_eq_false b))
theorem sv_when {p : Prop} [Decidable p] (h : EvT t σ H (decide p)) (h1 : p → Sv tu { D with nx := tz D } σ H) (h2 : ¬ p → Sv tz D σ H) : Sv (tSeq (tIfS t tu tNext) tz) D σ H := sv_if h h1 h2
theorem sv_if' {p : Prop} [Decidable p] (h : EvT t σ H (decide p)) (h1 : p → Sv tu D σ H) (h2 : ¬ p → Sv tw D σ H) : Sv (tIfS t tu tw) D σ H := fun H1 e => h H1 e _ fun H2 e2 => by
  by_cases q : p
  · rw [decide_eq_true q]
    exact h1 q H2 (e.trans e2)
  · rw [decide_eq_false q]
    exact h2 q H2 (e.trans e2)
theorem sv_ifB' {b : Bool} (h : EvT t σ H b) (h1 : b = true → Sv tu D σ H) (h2 : b = false → Sv tw D σ H) : Sv (tIfS t tu tw) D σ H := fun H1 e => h H1 e _ fun H2 e2 => by
  cases b with
  | true => exact h1 rfl H2 (e.trans e2)
  | false => exact h2 rfl H2 (e.trans e2)
theorem sv_next (k : ∀ H1, Ex H H1 → D.nx σ H1) : Sv tNext D σ H := k
/-- where a branch runs on into what follows -/
theorem sv_nx (k : Sv tz D σ H) : Sv tNext { D with nx := tz D } σ H := k
/-- if t: x = e, by the value behind it -/
theorem sv_ifset {p : Prop} [Decidable p] {i : Nat} {v w : V} (h : EvT t σ H (decide p)) (h1 : p → Ev te σ H v) (h2 : ¬ p → σ.set i (some w) = σ) (k : Sv tz D (σ.set i (some (if p then v else w))) H) :
    Sv (tSeq (tIfS t (tAsg te (gName i)) tNext) tz) D σ H := fun H1 e => h H1 e _ fun H2 e2 => by
  by_cases q : p
  · rw [decide_eq_true q]
    rw [if_pos q] at k
    exact h1 q H2 (e.trans e2) _ fun H3 e3 => k H3 ((e.trans e2).trans e3)
  · rw [decide_eq_false q]
    rw [if_neg q, h2 q] at k
    exact k H2 (e.trans e2)

/-! ### values -/
theorem EvP.mono {P : V → Hp → Prop} (e : Ex H H') (h : EvP te σ H P) : EvP te σ H' P := fun H1 a Q q => h H1 (e.trans a) Q q
theorem Ev.p (h : Ev te σ H v) : EvP te σ H fun v' H2 => v' = v ∧ Ex H H2 := fun H1 e Q q => h H1 e Q fun H2 e2 => q v H2 e2 ⟨rfl, e.trans e2⟩
theorem EvL.l {xs : List V} (h : EvL te σ H xs) : EvP te σ H (IsL xs) := fun H1 e Q q => h H1 e Q fun p H2 _ e2 hp => q _ H2 e2 ⟨p, rfl, hp⟩
theorem ev_l {p : Addr} {xs : List V} (h : Ev te σ H (.ref p)) (hp : H p = some (.lst xs)) : EvP te σ H (IsL xs) := fun H1 e Q q => h H1 e Q fun H2 e2 => q _ H2 e2 ⟨p, rfl, (e.trans e2) _ _ hp⟩
theorem el_cat {xs ys : List V} (ha : EvP ta σ H (IsL xs)) (hb : EvP tb σ H (IsL ys)) (hl : xs.length + ys.length ≤ 100000) : EvL (tOp rCat ta tb) σ H (xs ++ ys) := fun H1 e Q q =>
  ha H1 e _ fun x H2 e2 ⟨p, ex, hp⟩ => hb H2 (e.trans e2) _ fun y H3 e3 ⟨p', ey, hp'⟩ => ⟨p, p', xs, ys, ex, ey, e3 _ _ hp, hp', sz_of hl, fun l hn => q l _ (fresh_back (e2.trans e3) hn) ((e2.trans e3).trans (Ex.new hn)) upd_same⟩
theorem el_rep {xs : List V} {n : Int} (ha : EvP ta σ H (IsL xs)) (hb : Ev tb σ H (.int n)) (h0 : -1000 ≤ n) (h1 : n ≤ 1000) (hl : xs.length ≤ 100) : EvL (tOp rRep ta tb) σ H ((List.replicate n.toNat xs).flatten) := fun H1 e Q q =>
  ha H1 e _ fun x H2 e2 ⟨p, ex, hp⟩ => hb H2 (e.trans e2) _ fun H3 e3 => by
    refine ⟨p, n, xs, ex, rfl, e3 _ _ hp, by omega, by omega, ?_, fun l hn => ?_⟩
    · have a : xs.length * n.toNat ≤ 100 * 1000 := Nat.mul_le_mul hl (by omega)
      exact sz_of (by omega)
    · exact q l _ (fresh_back (e2.trans e3) hn) ((e2.trans e3).trans (Ex.new hn)) upd_same
end

/-! ### tests by propositions -/
section
variable {K : PySem.W.Frag} {σ : L2.St} {H H' : Hp} {ta tb te tx : TE} {t u : TT} {x y z v : V} {r : R2} {p q : Prop} [Decidable p] [Decidable q]
theorem tp_cmp (h : Ev te σ H (.bl (decide p))) : EvT (tTest te) σ H (decide p) := et_test h
theorem tp_val (h : Ev te σ H (.bl (decide p))) : EvT (tB te) σ H (decide p) := et_B h
theorem tp_and (h1 : EvT t σ H (decide p)) (h2 : p → EvT u σ H (decide q)) : EvT (tAnd t u) σ H (decide (p ∧ q)) := by
  have g := et_and (b := decide q) h1 (fun e => h2 (of_decide_eq_true e))
  have e : (decide p && decide q) = decide (p ∧ q) := (Bool.decide_and p q).symm
  rw [e] at g
  exact g
theorem tp_or (h1 : EvT t σ H (decide p)) (h2 : ¬ p → EvT u σ H (decide q)) : EvT (tOr t u) σ H (decide (p ∨ q)) := by
  have g := et_or (b := decide q) h1 (fun e => h2 (of_decide_eq_false e))
  have e : (decide p || decide q) = decide (p ∨ q) := (Bool.decide_or p q).symm
  rw [e] at g
  exact g
theorem tp_not (h1 : EvT t σ H (decide p)) : EvT (tNot t) σ H (decide (¬ p)) := by
  have g := et_not h1
  have e : (!decide p) = decide (¬ p) := decide_not.symm
  rw [e] at g
  exact g
theorem tp_iff (h1 : EvT t σ H (decide p)) (e : p ↔ q) : EvT t σ H (decide q) := by
  have e2 : decide p = decide q := decide_eq_decide.mpr e
  rw [← e2]
  exact h1
theorem ep_and (h1 : Ev ta σ H (.bl (decide p))) (h2 : p → Ev tb σ H (.bl (decide q))) : Ev (tAndV ta tb) σ H (.bl (decide (p ∧ q))) := by
  have g := ev_andV (b := decide q) h1 (fun e => h2 (of_decide_eq_true e))
  have e : (decide p && decide q) = decide (p ∧ q) := (Bool.decide_and p q).symm
  rw [e] at g
  exact g
theorem ep_or (h1 : Ev ta σ H (.bl (decide p))) (h2 : ¬ p → Ev tb σ H (.bl (decide q))) : Ev (tOrV ta tb) σ H (.bl (decide (p ∨ q))) := by
  have g := ev_orV (b := decide q) h1 (fun e => h2 (of_decide_eq_false e))
  have e : (decide p || decide q) = decide (p ∨ q) := (Bool.decide_or p q).symm
  rw [e] at g
  exact g
theorem ep_not (h1 : Ev ta σ H (.bl (decide p))) : Ev (tNotV ta) σ H (.bl (decide (¬ p))) := by
  have g := ev_notV h1
  have e : (!decide p) = decide (¬ p) := decide_not.symm
  rw [e] at g
  exact g
theorem ev_eq {v' : V} (h : Ev te σ H v) (e : v = v') : Ev te σ H v' := by
  rw [← e]
  exact h
theorem rp_lt {i j : Int} : RV (rI0 fun i j => .bl (decide (i < j))) (.int i) (.int j) H (.bl (decide (i < j))) := rv_I0
theorem rp_eqI {i j : Int} : RV rEq (.int i) (.int j) H (.bl (decide (i = j))) := by
  have e : decide (V.int i = V.int j) = decide (i = j) := decide_eq_decide.mpr ⟨V.int.inj, fun e => by rw [e]⟩
  rw [← e]
  exact rv_eq rfl
theorem rp_neI {i j : Int} : RV rNe (.int i) (.int j) H (.bl (decide (¬ i = j))) := by
  have e : decide (V.int i = V.int j) = decide (i = j) := decide_eq_decide.mpr ⟨V.int.inj, fun e => by rw [e]⟩
  have e2 : decide (¬ i = j) = !decide (i = j) := decide_not
  rw [e2, ← e]
  exact rv_ne rfl
theorem rp_eqB {i j : Bool} : RV rEq (.bl i) (.bl j) H (.bl (decide (i = j))) := by
  have e : decide (V.bl i = V.bl j) = decide (i = j) := decide_eq_decide.mpr ⟨V.bl.inj, fun e => by rw [e]⟩
  rw [← e]
  exact rv_eq rfl
theorem rp_neB {i j : Bool} : RV rNe (.bl i) (.bl j) H (.bl (decide (¬ i = j))) := by
  have e : decide (V.bl i = V.bl j) = decide (i = j) := decide_eq_decide.mpr ⟨V.bl.inj, fun e => by rw [e]⟩
  have e2 : decide (¬ i = j) = !decide (i = j) := decide_not
  rw [e2, ← e]
  exact rv_ne rfl
/-- is None of what is no None, of None -/
theorem rp_isNF (h : x ≠ .non) : RV (fun x y H Q => y = .non ∧ Q (.bl (decide (x = .non))) H) x .non H (.bl (decide False)) := fun H1 _ Q q => by
  refine ⟨rfl, ?_⟩
  show Q (.bl (decide (x = .non))) H1
  rw [decide_eq_false h]
  exact q H1 (Ex.refl H1)
theorem rp_isNT : RV (fun x y H Q => y = .non ∧ Q (.bl (decide (x = .non))) H) .non .non H (.bl (decide True)) := fun H1 _ Q q => ⟨rfl, q H1 (Ex.refl H1)⟩
theorem rp_notNF (h : x ≠ .non) : RV (fun x y H Q => y = .non ∧ Q (.bl (!decide (x = .non))) H) x .non H (.bl (decide True)) := fun H1 _ Q q => by
  refine ⟨rfl, ?_⟩
  show Q (.bl (!decide (x = .non))) H1
  rw [decide_eq_false h]
  exact q H1 (Ex.refl H1)
theorem rp_notNT : RV (fun x y H Q => y = .non ∧ Q (.bl (!decide (x = .non))) H) .non .non H (.bl (decide False)) := fun H1 _ Q q => ⟨rfl, q H1 (Ex.refl H1)⟩

/-! ### promises of values -/
/-- a promise: the arguments and what is known give a value; nothing that was known is touched -/
def SpR (n : Nat) (R : List V → Hp → V → Prop) : Sp := fun vs H Q _ => vs.length = n ∧ ∃ z, R vs H z ∧ RetV z H Q
def SpN (n : Nat) (R : List V → Hp → List V → Prop) : Sp := fun vs H Q _ => vs.length = n ∧ ∃ xs, R vs H xs ∧ RetL xs H Q
theorem spv {n : Nat} {R : List V → Hp → V → Prop} {vs : List V} (hl : vs.length = n) (h : ∀ H1, Ex H H1 → R vs H1 z) : SpV (SpR n R) vs H z := fun H1 e Q q E => ⟨hl, z, h H1 e, q⟩
theorem spl {n : Nat} {R : List V → Hp → List V → Prop} {vs xs : List V} (hl : vs.length = n) (h : ∀ H1, Ex H H1 → R vs H1 xs) : SpL (SpN n R) vs H xs := fun H1 e Q q E => ⟨hl, xs, h H1 e, fun p H2 hp e2 h2 => q p H2 hp e2 h2⟩
/-! ### calls of built-ins -/
theorem ev_lenL {p : Addr} {xs : List V} (ha : Ev ta σ H (.ref p)) (h : SqL K H p xs) : Ev (tCB (rLenS K) (tCons ta tNil)) σ H (.int (xs.length : Int)) := ev_len ha h
theorem ev_lenT {p : Addr} {xs : List V} (ha : Ev ta σ H (.ref p)) (h : SqT K H p xs) : Ev (tCB (rLenS K) (tCons ta tNil)) σ H (.int (xs.length : Int)) := fun H1 e Q q =>
  ha H1 e _ fun H2 e2 => ⟨p, xs, rfl, Or.inr (ex_t (e.trans e2) h), q H2 e2⟩
theorem ev_isi {n : String} {ty : Value} {b : Bool} (ha : Ev ta σ H x) (ht : ∀ H1, Ex H H1 → TyX K H1 x ty) (hk : PySem.W.kitOne K ty (.type n) = some b) : Ev (tCB (rIsi K) (tCons ta (tCons (tC (.ty n)) tNil))) σ H (.bl b) := fun H1 e Q q =>
  ha H1 e _ fun H2 e2 => ⟨x, .ty n, ty, .type n, b, rfl, .ty n, ht H2 (e.trans e2), hk, q H2 e2⟩
end

/-! ### the rules by short names -/
section
variable {X : Cx}
theorem c_len : CallR X (.builtin "len") (rLenS X.K) := call_len_seq
theorem c_list : CallR X (.type "list") (rListS X.K) := call_list_of
def rMin2 : List V → Hp → VK → Prop := fun xs H Q => ∃ i j, xs = [.int i, .int j] ∧ Q (.int (if j < i then j else i)) H
theorem c_min2 (hc : X.calm = true) : CallR X (.builtin "min") rMin2 := call_min2 hc
theorem c_max2 (hc : X.calm = true) : CallR X (.builtin "max") rMax2 := call_max2 hc
def rNone : R2 := fun x y H Q => y = .non ∧ Q (.bl (decide (x = .non))) H
def rSome : R2 := fun x y H Q => y = .non ∧ Q (.bl (!decide (x = .non))) H
theorem o_isN : OpR X (compareOp .Is) rNone := op_isN
theorem o_notN : OpR X (compareOp .IsNot) rSome := op_notN
end
section
variable {K : PySem.W.Frag} {σ : L2.St} {H H' : Hp} {ta tb te tx : TE} {t u : TT} {x y z v : V} {r : R2} {D : Ends} {tu tw tz ts : TS} {g : TG}
theorem ev_cl {sp : Sp} {vs : List V} {E : XK} {ta : TA} (h : EvA ta σ H vs) (hs : SpV sp vs H z) : Ev (tCall sp [] E ta) σ H z := ev_call h (by rw [List.append_nil]; exact hs)
theorem el_cl {sp : Sp} {vs xs : List V} {E : XK} {ta : TA} (h : EvA ta σ H vs) (hs : SpL sp vs H xs) : EvL (tCall sp [] E ta) σ H xs := el_call h (by rw [List.append_nil]; exact hs)
theorem ev_min2 {i j : Int} (ha : Ev ta σ H (.int i)) (hb : Ev tb σ H (.int j)) : Ev (tCB rMin2 (tCons ta (tCons tb tNil))) σ H (.int (if j < i then j else i)) := fun H1 e Q q =>
  ha H1 e _ fun H2 e2 => hb H2 (e.trans e2) _ fun H3 e3 => ⟨i, j, rfl, q H3 (e2.trans e3)⟩
theorem rv_mod {i j : Int} (h : 0 < j) : RV (rI (fun _ j => 0 < j) fun i j => .int (i % j)) (.int i) (.int j) H (.int (i % j)) := rv_I h
theorem rv_div {i j : Int} (h : 0 < j) (h2 : j < 1073741824) : RV (rI CDiv fun i j => .int (i / j)) (.int i) (.int j) H (.int (i / j)) := rv_I ⟨h, h2⟩
theorem rv_mulR {i j : Int} (h : -(2 ^ 64) < j) (h2 : j < 2 ^ 64) : RV (rI CMul fun i j => .int (i * j)) (.int i) (.int j) H (.int (i * j)) := rv_I (.inr ⟨h, h2⟩)
theorem rv_mulL {i j : Int} (h : -(2 ^ 64) < i) (h2 : i < 2 ^ 64) : RV (rI CMul fun i j => .int (i * j)) (.int i) (.int j) H (.int (i * j)) := rv_I (.inl ⟨h, h2⟩)
theorem rv_powS {i j : Int} (h : CPow i j) : RV (rI CPow fun i j => .int (i ^ j.toNat)) (.int i) (.int j) H (.int (i ^ j.toNat)) := rv_I h
theorem ix_int {ns : List Int} {i : Int} (h0 : 0 ≤ i) (h1 : i < ns.length) : atI (ns.map V.int) i = some (.int (ns.getD i.toNat 0)) := by
  obtain ⟨k, rfl⟩ := Int.eq_ofNat_of_zero_le h0
  refine atI_nat ?_
  have hk : k < ns.length := by omega
  rw [List.getElem?_map, List.getElem?_eq_getElem hk]
  show some (V.int ns[k]) = some (V.int (ns.getD k 0))
  rw [List.getD_eq_getElem?_getD, List.getElem?_eq_getElem hk]
  rfl
theorem rv_ixI {p : Addr} {ns : List Int} {i : Int} (h : SqL K H p (ns.map V.int)) (h0 : 0 ≤ i) (h1 : i < ns.length) : RV (rIxL K) (.ref p) (.int i) H (.int (ns.getD i.toNat 0)) := rv_ixL h (ix_int h0 h1)
theorem rn_no (h : x ≠ .non) : RV rNone x .non H (.bl (decide False)) := rp_isNF h
theorem rn_yes : RV rNone .non .non H (.bl (decide True)) := rp_isNT
theorem rs_no : RV rSome .non .non H (.bl (decide False)) := rp_notNT
theorem rs_yes (h : x ≠ .non) : RV rSome x .non H (.bl (decide True)) := rp_notNF h
end

/-! ### loops -/
/-- what holds in what is known, whatever stands besides -/
def Kn (I : L2.St → Hp → Prop) : L2.St → Hp → Prop := fun σ H1 => ∃ H, I σ H ∧ Ex H H1
section
variable {K : PySem.W.Frag} {σ : L2.St} {H H' : Hp} {ta tb te tx : TE} {t u : TT} {x y z v : V} {r : R2} {D : Ends} {tu tw tz ts : TS} {g : TG} {I : L2.St → Hp → Prop}
theorem sv_kn {rt : VK} {bk ct : L2.St → Hp → Prop} (h : I σ H) : Sv tNext { nx := Kn I, rt := rt, bk := bk, ct := ct } σ H := fun H1 e => ⟨H, h, e⟩
theorem sv_kc {rt : VK} {bk nx : L2.St → Hp → Prop} (h : I σ H) : Sv tCont { nx := nx, rt := rt, bk := bk, ct := Kn I } σ H := fun H1 e => ⟨H, h, e⟩
/-- for x in range(n) -/
theorem sv_forR1 {ta : TA} {j : Nat} {n : Int} (h : EvA ta σ H [.int n]) (hn : -100000 ≤ n ∧ n ≤ 100000) (I : Nat → L2.St → Hp → Prop) (h0 : I 0 σ H)
    (hs : ∀ (i : Nat) σ' H', (i : Int) < n → I i σ' H' → Sv tu { D with nx := Kn (I (i + 1)), ct := Kn (I (i + 1)), bk := tz D } (σ'.set j (some (.int (i : Int)))) H') (hd : ∀ σ' H', I n.toNat σ' H' → Sv tz D σ' H') : Sv (tSeq (tFor (iRng1 ta) (gName j) tu) tz) D σ H :=
  fun H1 e => h H1 e _ fun H2 e2 => ⟨n, rfl, by omega, by omega, for_range (D := { D with nx := tz D }) (lo := 0) (n := n.toNat) (fun i => Kn (I i)) ⟨H, h0, e.trans e2⟩ (fun i σ' H3 hi ⟨H', p, e3⟩ => by
    have e0 : (0 : Int) + (i : Int) = (i : Int) := Int.zero_add _
    show tu { D with nx := Kn (I (i + 1)), ct := Kn (I (i + 1)), bk := tz D } (σ'.set j (some (.int ((0 : Int) + (i : Int))))) H3
    rw [e0]
    exact hs i σ' H' (by omega) p H3 e3) (fun σ' H3 ⟨H', p, e3⟩ => hd σ' H' p H3 e3)⟩
/-- for x in xs, a list that stands -/
theorem sv_forL {a : Addr} {xs : List V} {tl : TE} {j : Nat} (h : Ev tl σ H (.ref a)) (hx : SqL K H a xs) (I : Nat → L2.St → Hp → Prop) (h0 : I 0 σ H) (hl : ∀ i σ' H', I i σ' H' → SqL K H' a xs)
    (hs : ∀ i x σ' H', xs[i]? = some x → I i σ' H' → Sv tu { D with nx := Kn (I (i + 1)), ct := Kn (I (i + 1)), bk := tz D } (σ'.set j (some x)) H') (hd : ∀ σ' H', I xs.length σ' H' → Sv tz D σ' H') : Sv (tSeq (tFor (iList K tl) (gName j) tu) tz) D σ H :=
  fun H1 e => h H1 e _ fun H2 e2 => ⟨a, rfl, ⟨xs, ex_l (e.trans e2) hx⟩, for_list (D := { D with nx := tz D }) (xs := xs) (fun i => Kn (I i)) ⟨H, h0, e.trans e2⟩ (fun i σ' H3 _ ⟨H', p, e3⟩ => ex_l e3 (hl i σ' H' p))
    (fun i x σ' H3 hi ⟨H', p, e3⟩ => hs i x σ' H' hi p H3 e3) (fun σ' H3 ⟨H', p, e3⟩ => hd σ' H' p H3 e3)⟩
/-- for x in t, a tuple that stands -/
theorem sv_forT {a : Addr} {xs : List V} {tl : TE} {j : Nat} (h : Ev tl σ H (.ref a)) (hx : SqT K H a xs) (I : Nat → L2.St → Hp → Prop) (h0 : I 0 σ H) (hl : ∀ i σ' H', I i σ' H' → SqT K H' a xs)
    (hs : ∀ i x σ' H', xs[i]? = some x → I i σ' H' → Sv tu { D with nx := Kn (I (i + 1)), ct := Kn (I (i + 1)), bk := tz D } (σ'.set j (some x)) H') (hd : ∀ σ' H', I xs.length σ' H' → Sv tz D σ' H') : Sv (tSeq (tFor (iTup K tl) (gName j) tu) tz) D σ H :=
  fun H1 e => h H1 e _ fun H2 e2 => ⟨a, rfl, ⟨xs, ex_t (e.trans e2) hx⟩, for_tup (D := { D with nx := tz D }) (xs := xs) (fun i => Kn (I i)) ⟨H, h0, e.trans e2⟩ (fun i σ' H3 _ ⟨H', p, e3⟩ => ex_t e3 (hl i σ' H' p))
    (fun i x σ' H3 hi ⟨H', p, e3⟩ => hs i x σ' H' hi p H3 e3) (fun σ' H3 ⟨H', p, e3⟩ => hd σ' H' p H3 e3)⟩
/-- for x, y in zip(xs, ys) -/
theorem sv_forZ {a b : Addr} {xs ys : List V} {ta : TA} {j k : Nat} (h : EvA ta σ H [.ref a, .ref b]) (hx : SqL K H a xs) (hy : SqL K H b ys) (I : Nat → L2.St → Hp → Prop) (h0 : I 0 σ H) (hl : ∀ i σ' H', I i σ' H' → SqL K H' a xs ∧ SqL K H' b ys)
    (hs : ∀ i x y σ' H', xs[i]? = some x → ys[i]? = some y → I i σ' H' → Sv tu { D with nx := Kn (I (i + 1)), ct := Kn (I (i + 1)), bk := tz D } ((σ'.set j (some x)).set k (some y)) H')
    (hd : ∀ i σ' H', i ≤ xs.length → i ≤ ys.length → (xs.length ≤ i ∨ ys.length ≤ i) → I i σ' H' → Sv tz D σ' H') :
    Sv (tSeq (tFor (iZip K ta) (gTup K 2 (gCons (gName j) (gCons (gName k) gNil))) tu) tz) D σ H := fun H1 e => h H1 e _ fun H2 e2 => by
  refine ⟨a, b, xs, ys, rfl, ex_l (e.trans e2) hx, ex_l (e.trans e2) hy, fun i m σ' H3 => i + m = min xs.length ys.length ∧ i ≤ xs.length ∧ i ≤ ys.length ∧ Kn (I i) σ' H3, ⟨min xs.length ys.length, by omega, Nat.zero_le _, Nat.zero_le _, H, h0, e.trans e2⟩, ?_⟩
  rintro i m σ' H3 ⟨hm, l1, l2, H', p, e3⟩
  obtain ⟨qx, qy⟩ := hl i σ' H' p
  by_cases c : i < xs.length ∧ i < ys.length
  · refine .inr ⟨⟨xs, ys, _, _, ex_l e3 qx, ex_l e3 qy, List.getElem?_eq_getElem c.1, List.getElem?_eq_getElem c.2⟩, Kn (I (i + 1)), fun σ2 H4 n => ⟨m - 1, by omega, by omega, by omega, by omega, n⟩, fun z H4 y => ?_⟩
    obtain ⟨T, x1, x2, rfl, nT, rfl, f1, f2⟩ := y
    refine ⟨T, [x1, x2], rfl, st_of upd_same, rfl, x1, [x2], rfl, x2, [], rfl, rfl, ?_⟩
    exact hs i x1 x2 σ' H' (f1 xs (ex_l e3 qx)) (f2 ys (ex_l e3 qy)) p _ (e3.trans (Ex.new nT))
  · refine .inl ⟨⟨xs, ys, ex_l e3 qx, ex_l e3 qy, by omega⟩, ?_⟩
    exact hd i σ' H' l1 l2 (by omega) p H3 e3
end

/-! ### data at any depth -/
mutual
theorem dp_mono {K : PySem.W.Frag} {H H' : Hp} (e : Ex H H') : ∀ {v : V} (d : PyData), Dp K H v d → Dp K H' v d
  | _, .none, h => by cases h; exact .non
  | _, .bool _, h => by cases h; exact .bl _
  | _, .int _, h => by cases h; exact .int _
  | _, .str _, h => by cases h; exact .str _
  | _, .list ds, h => by
    cases h with
    | lst a b => exact .lst (ex_l e a) (dpAll_mono e ds b)
  | _, .tuple ds, h => by
    cases h with
    | tup a b => exact .tup (ex_t e a) (dpAll_mono e ds b)
  | _, .dict _, h => by cases h
theorem dpAll_mono {K : PySem.W.Frag} {H H' : Hp} (e : Ex H H') : ∀ {vs : List V} (ds : List PyData), DpAll K H vs ds → DpAll K H' vs ds
  | _, [], h => by cases h; exact .nil
  | _, d :: ds, h => by
    cases h with
    | cons a b => exact .cons (dp_mono e d a) (dpAll_mono e ds b)
end
theorem dpAll_ints {K : PySem.W.Frag} {H : Hp} : ∀ ns : List Int, DpAll K H (ns.map V.int) (ns.map PyData.int)
  | [] => .nil
  | n :: r => .cons (.int n) (dpAll_ints r)
theorem dp_ints {K : PySem.W.Frag} {H : Hp} {a : Addr} {ns : List Int} (h : SqL K H a (ns.map V.int)) : Dp K H (.ref a) (.list (ns.map PyData.int)) := .lst h (dpAll_ints ns)
theorem dp_intsT {K : PySem.W.Frag} {H : Hp} {a : Addr} {ns : List Int} (h : SqT K H a (ns.map V.int)) : Dp K H (.ref a) (.tuple (ns.map PyData.int)) := .tup h (dpAll_ints ns)
/-- data that may be compared, at most n deep -/
def Shp (n : Nat) (d : PyData) : Prop := d.canLay0 = true ∧ d.depth ≤ n
theorem Shp.ok {n : Nat} {d : PyData} (h : Shp n d) (hn : n ≤ 64) : SeqAt.shaped d = true := by
  unfold SeqAt.shaped
  rw [h.1, Bool.true_and]
  exact decide_eq_true (Nat.le_trans h.2 hn)
theorem shp_int {n : Nat} (i : Int) : Shp n (.int i) := ⟨rfl, Nat.zero_le _⟩
theorem shp_none {n : Nat} : Shp n .none := ⟨rfl, Nat.zero_le _⟩
theorem shp_all {n : Nat} : ∀ {ds : List PyData}, (∀ d ∈ ds, Shp n d) → PyData.canLayAll0 ds = true ∧ PyData.depthAll ds ≤ n
  | [], _ => ⟨rfl, Nat.zero_le _⟩
  | d :: ds, h => by
    have h1 := h d (List.mem_cons_self ..)
    have h2 := shp_all fun x hx => h x (List.mem_cons_of_mem _ hx)
    refine ⟨?_, ?_⟩
    · show (d.canLay0 && PyData.canLayAll0 ds) = true
      rw [h1.1, h2.1]
      rfl
    · show max d.depth (PyData.depthAll ds) ≤ n
      exact Nat.max_le.mpr ⟨h1.2, h2.2⟩
theorem shp_list {n : Nat} {ds : List PyData} (h : ∀ d ∈ ds, Shp n d) : Shp (n + 1) (.list ds) := ⟨(shp_all h).1, Nat.succ_le_succ (shp_all h).2⟩
theorem shp_tuple {n : Nat} {ds : List PyData} (h : ∀ d ∈ ds, Shp n d) : Shp (n + 1) (.tuple ds) := ⟨(shp_all h).1, Nat.succ_le_succ (shp_all h).2⟩
theorem shp_ints (ns : List Int) : ∀ d ∈ ns.map PyData.int, Shp 0 d := fun d hd => by
  obtain ⟨n, _, rfl⟩ := List.mem_map.mp hd
  exact shp_int n
theorem shp_listI (ns : List Int) : Shp 1 (.list (ns.map PyData.int)) := shp_list (shp_ints ns)
theorem shp_tupI (ns : List Int) : Shp 1 (.tuple (ns.map PyData.int)) := shp_tuple (shp_ints ns)
section
variable {K : PySem.W.Frag} {σ : L2.St} {H H' : Hp} {ta tb te tx : TE} {t u : TT} {x y z v : V} {r : R2} {D : Ends} {tu tw tz ts : TS} {g : TG}
theorem rd_neSame {d : PyData} {n : Nat} (hx : Dp K H x d) (hy : Dp K H y d) (hs : Shp n d) (hn : n ≤ 64) : RV (rNeD K) x y H (.bl (decide False)) := fun H1 e Q q => by
  refine ⟨d, d, dp_mono e d hx, dp_mono e d hy, hs.ok hn, hs.ok hn, ?_⟩
  rw [SeqAt.eqv_refl d hs.1]
  exact q H1 (Ex.refl H1)
theorem rd_eqSame {d : PyData} {n : Nat} (hx : Dp K H x d) (hy : Dp K H y d) (hs : Shp n d) (hn : n ≤ 64) : RV (rEqD K) x y H (.bl (decide True)) := fun H1 e Q q => by
  refine ⟨d, d, dp_mono e d hx, dp_mono e d hy, hs.ok hn, hs.ok hn, ?_⟩
  rw [SeqAt.eqv_refl d hs.1]
  exact q H1 (Ex.refl H1)
theorem rd_eq {d d' : PyData} {n : Nat} (hx : Dp K H x d) (hy : Dp K H y d') (hs : Shp n d) (hs' : Shp n d') (hn : n ≤ 64) : RV (rEqD K) x y H (.bl (PyData.eqv d d')) := fun H1 e Q q =>
  ⟨d, d', dp_mono e d hx, dp_mono e d' hy, hs.ok hn, hs'.ok hn, q H1 (Ex.refl H1)⟩
theorem rd_ne {d d' : PyData} {n : Nat} (hx : Dp K H x d) (hy : Dp K H y d') (hs : Shp n d) (hs' : Shp n d') (hn : n ≤ 64) : RV (rNeD K) x y H (.bl (!PyData.eqv d d')) := fun H1 e Q q =>
  ⟨d, d', dp_mono e d hx, dp_mono e d' hy, hs.ok hn, hs'.ok hn, q H1 (Ex.refl H1)⟩
theorem tp_valT (h : Ev te σ H (.bl true)) : EvT (tB te) σ H (decide True) := et_B h
theorem tp_valF (h : Ev te σ H (.bl false)) : EvT (tB te) σ H (decide False) := et_B h

/-! ### arguments of which something is known -/
def EvAP (ta : TA) (σ : L2.St) (H : Hp) (P : List V → Hp → Prop) : Prop := ∀ H1, Ex H H1 → ∀ Q : List V → Hp → Prop, (∀ vs H2, Ex H1 H2 → P vs H2 → Q vs H2) → ta σ H1 Q
theorem eap_nil {P : List V → Hp → Prop} (h : ∀ H2, Ex H H2 → P [] H2) : EvAP tNil σ H P := fun H1 e Q q => q [] H1 (Ex.refl H1) (h H1 e)
theorem eap_cons {tr : TA} {P : List V → Hp → Prop} {P1 : V → Hp → Prop} (h : EvP te σ H P1) (hr : ∀ v H2, Ex H H2 → P1 v H2 → EvAP tr σ H2 fun vs H3 => P (v :: vs) H3) : EvAP (tCons te tr) σ H P := fun H1 e Q q =>
  h H1 e _ fun v H2 e2 p => hr v H2 (e.trans e2) p H2 (Ex.refl H2) _ fun vs H3 e3 p3 => q (v :: vs) H3 (e2.trans e3) p3
theorem eap_of {ta : TA} {vs : List V} (h : EvA ta σ H vs) : EvAP ta σ H fun ws H2 => ws = vs ∧ Ex H H2 := fun H1 e Q q => h H1 e Q fun H2 e2 => q vs H2 e2 ⟨rfl, e.trans e2⟩
/-- a promise that gives a value of which P holds -/
def SpP (sp : Sp) (vs : List V) (H : Hp) (P : V → Hp → Prop) : Prop := ∀ H1, Ex H H1 → ∀ Q : VK, (∀ v H2, Ex H1 H2 → P v H2 → Q v H2) → ∀ E : XK, sp vs H1 Q E
theorem evp_cl {sp : Sp} {E : XK} {ta : TA} {PA : List V → Hp → Prop} {P : V → Hp → Prop} (h : EvAP ta σ H PA) (hs : ∀ vs H2, Ex H H2 → PA vs H2 → SpP sp vs H2 P) : EvP (tCall sp [] E ta) σ H P := fun H1 e Q q =>
  h H1 e _ fun vs H2 e2 p => by
    rw [List.append_nil]
    exact hs vs H2 (e.trans e2) p H2 (Ex.refl H2) Q (fun v H3 e3 => q v H3 (e2.trans e3)) E
theorem ep_cl {sp : Sp} {E : XK} {ta : TA} {vs : List V} {P : V → Hp → Prop} (h : EvA ta σ H vs) (hs : SpP sp vs H P) : EvP (tCall sp [] E ta) σ H P := fun H1 e Q q =>
  h H1 e _ fun H2 e2 => by
    rw [List.append_nil]
    exact hs H2 (e.trans e2) Q (fun v H3 e3 => q v H3 (e2.trans e3)) E
/-- a list display; what is known of its items -/
theorem evp_lst {ta : TA} {PA : List V → Hp → Prop} (h : EvAP ta σ H PA) (hl : ∀ vs H2, PA vs H2 → vs.length ≤ 100000) : EvP (tLst ta) σ H fun v H2 => ∃ p vs H3, v = .ref p ∧ PA vs H3 ∧ H3 p = none ∧ Ex H H3 ∧ H2 = upd H3 p (.lst vs) := fun H1 e Q q =>
  h H1 e _ fun vs H2 e2 p => ⟨sz_of (hl vs H2 p), fun l hn => q _ _ (e2.trans (Ex.new hn)) ⟨l, vs, H2, rfl, p, hn, e.trans e2, rfl⟩⟩
theorem evp_tup {ta : TA} {PA : List V → Hp → Prop} (h : EvAP ta σ H PA) (hl : ∀ vs H2, PA vs H2 → vs.length ≤ 100000) : EvP (tTup ta) σ H fun v H2 => ∃ p vs H3, v = .ref p ∧ PA vs H3 ∧ H3 p = none ∧ Ex H H3 ∧ H2 = upd H3 p (.tup vs) := fun H1 e Q q =>
  h H1 e _ fun vs H2 e2 p => ⟨sz_of (hl vs H2 p), fun l hn => q _ _ (e2.trans (Ex.new hn)) ⟨l, vs, H2, rfl, p, hn, e.trans e2, rfl⟩⟩
theorem EvP.imp {P P' : V → Hp → Prop} (h : EvP te σ H P) (i : ∀ v H2, Ex H H2 → P v H2 → P' v H2) : EvP te σ H P' := fun H1 e Q q => h H1 e Q fun v H2 e2 p => q v H2 e2 (i v H2 (e.trans e2) p)
theorem EvL.p {xs : List V} (h : EvL te σ H xs) : EvP te σ H fun v H2 => ∃ p, v = .ref p ∧ H p = none ∧ Ex H H2 ∧ H2 p = some (.lst xs) := fun H1 e Q q => h H1 e Q fun p H2 n e2 hp => q _ H2 e2 ⟨p, rfl, fresh_back e n, e.trans e2, hp⟩
/-! ### comprehensions of ints -/
theorem el_lcI {ta : TA} {j : Nat} {vs : List Nat} {n : Int} (f : Nat → Int) (h : EvA ta σ H [.int n]) (hn : 0 ≤ n ∧ n ≤ 40000) (hw : ∀ x, wipe ((wipe σ vs).set j (some x)) vs = wipe σ vs)
    (he : ∀ i : Nat, (i : Int) < n → Ev te ((wipe σ vs).set j (some (.int (i : Int)))) H (.int (f i))) : EvL (tLc (iRng1 ta) (gName j) tYes te vs) σ H (((List.range n.toNat).map f).map V.int) := by
  have g := el_lcR1 (t := tYes) (te := te) (fun _ => true) (fun i => V.int (f i)) h hn hw (fun i H1 _ _ H2 _ Q q => q H2 (Ex.refl H2)) (fun i H1 e hi _ => (he i hi).mono e)
  have e : given n.toNat (fun _ => true) (fun i => V.int (f i)) = ((List.range n.toNat).map f).map V.int := by
    unfold given
    rw [List.map_map, List.filter_eq_self.mpr (fun _ _ => rfl)]
    rfl
  rw [e] at g
  exact g
theorem sv_cut (M : L2.St → Hp → Prop) (h : Sv tu { D with nx := Kn M } σ H) (k : ∀ σ' H', M σ' H' → Sv tz D σ' H') : Sv (tCut tu tz) D σ H := fun H1 e => ⟨Kn M, h H1 e, fun σ' H3 ⟨H', m, e3⟩ => k σ' H' m H3 e3⟩
/-- xs[i] = e, the list xs tracked -/
theorem sv_setL {l : Addr} {xs : List V} {i : Int} {j : Nat} {ti : TE} (hl : H l = some (.lst xs)) (h : Ev te σ H v) (ho : Ev ta σ H (.ref l)) (hi : Ev ti σ H (.int i)) (hj : ixN xs.length i = some j) (k : Sv tNext D σ (upd H l (.lst (xs.set j v)))) :
    Sv (tAsg te (gSub ta ti rSetL)) D σ H := fun H1 e => h H1 e _ fun H2 e2 => ho H2 (e.trans e2) _ fun H3 e3 => hi H3 ((e.trans e2).trans e3) _ fun H4 e4 =>
  ⟨l, xs, i, j, rfl, rfl, (((e.trans e2).trans e3).trans e4) l _ hl, hj, k _ fun a o ha => by
    by_cases q : a = l
    · subst q
      rw [upd_same] at ha ⊢
      exact ha
    · rw [upd_ne q] at ha ⊢
      exact (((e.trans e2).trans e3).trans e4) a o ha⟩
end

/-! ### slices, repetitions -/
theorem cut_to {xs : List V} {m : Int} (h : 0 ≤ m) : cutV xs none (some m) = xs.take m.toNat := by
  obtain ⟨k, rfl⟩ := Int.eq_ofNat_of_zero_le h
  unfold cutV
  rw [HT.sIx_none, HT.sIx_nat, List.drop_zero, Nat.sub_zero]
  show List.take (min k xs.length) xs = List.take k xs
  by_cases c : k ≤ xs.length
  · rw [Nat.min_eq_left c]
  · rw [Nat.min_eq_right (by omega), List.take_length, List.take_of_length_le (by omega)]
theorem cut_from {xs : List V} {m : Int} (h : 0 ≤ m) : cutV xs (some m) none = xs.drop m.toNat := by
  obtain ⟨k, rfl⟩ := Int.eq_ofNat_of_zero_le h
  unfold cutV
  rw [HT.sIx_none, HT.sIx_nat]
  show List.take (xs.length - min k xs.length) (List.drop (min k xs.length) xs) = List.drop k xs
  by_cases c : k ≤ xs.length
  · rw [Nat.min_eq_left c]
    exact List.take_of_length_le (by rw [List.length_drop] <;> omega)
  · rw [Nat.min_eq_right (by omega), List.drop_eq_nil_of_le (Nat.le_refl _), List.drop_eq_nil_of_le (by omega), List.take_nil]
theorem flat_rep {α : Type} (x : α) : ∀ n : Nat, (List.replicate n [x]).flatten = List.replicate n x
  | 0 => rfl
  | n + 1 => by
    rw [List.replicate_succ, List.replicate_succ, List.flatten_cons, flat_rep x n]
    rfl
theorem map_rep (x : Int) (n : Nat) : List.replicate n (V.int x) = (List.replicate n x).map V.int := List.map_replicate.symm
theorem ixN_of {n : Nat} {i : Int} (h0 : 0 ≤ i) (h1 : i < n) : ixN n i = some i.toNat := by
  unfold ixN
  rw [if_pos h0, if_pos h1]
theorem map_set_int (xs : List Int) (j : Nat) (v : Int) : (xs.map V.int).set j (.int v) = (xs.set j v).map V.int := by
  rw [List.map_set]

/-! ### values with new objects: N holds what was made for them -/
def Unn (N H : Hp) : Hp := fun a => match H a with
  | some o => some o
  | none => N a
theorem unn_r {N H : Hp} : Ex H (Unn N H) := fun a o h => by
  show (match H a with | some o => some o | none => N a) = some o
  rw [h]
theorem unn_l {N H : Hp} (d : ∀ a, N a ≠ none → H a = none) : Ex N (Unn N H) := fun a o h => by
  show (match H a with | some o => some o | none => N a) = some o
  rw [d a (by rw [h]; exact fun z => by cases z)]
  exact h
theorem unn_none {N H : Hp} {a : Addr} (h : Unn N H a ≠ none) : H a ≠ none ∨ N a ≠ none := by
  cases e : H a with
  | some o => exact .inl fun z => by cases z
  | none =>
    refine .inr fun z => h ?_
    show (match H a with | some o => some o | none => N a) = none
    rw [e]
    exact z
theorem unn_ex {N H H' : Hp} (a : Ex H H') (b : Ex N H') : Ex (Unn N H) H' := fun x o h => by
  have h2 : (match H x with | some o => some o | none => N x) = some o := h
  cases e : H x with
  | some q =>
    rw [e] at h2
    exact a x o (e.trans h2)
  | none =>
    rw [e] at h2
    exact b x o h2
def nonew : Hp := fun _ => none
theorem nonew_ex {H : Hp} : Ex nonew H := fun a o h => by cases h
def one (p : Addr) (o : HO) : Hp := upd nonew p o
theorem one_at {p : Addr} {o : HO} : one p o p = some o := upd_same
theorem one_ne {p a : Addr} {o : HO} (h : one p o a ≠ none) : a = p := by
  by_cases q : a = p
  · exact q
  · exfalso
    refine h ?_
    unfold one
    rw [upd_ne q]
    rfl
theorem one_ex {p : Addr} {o : HO} {H : Hp} (h : H p = some o) : Ex (one p o) H := fun a x e => by
  have q := one_ne (p := p) (a := a) (o := o) (by rw [e]; exact fun z => by cases z)
  subst q
  rw [one_at] at e
  rw [h, e]
/-- a value, N its new objects, all of them new in the heap that is there -/
def EvN (te : TE) (σ : L2.St) (H : Hp) (P : V → Hp → Prop) : Prop := ∀ H1, Ex H H1 → ∀ Q : VK, (∀ v N H2, (∀ a, N a ≠ none → H1 a = none) → P v N → Ex N H2 → Ex H1 H2 → Q v H2) → te σ H1 Q
def RetN (P : V → Hp → Prop) (H : Hp) (Q : VK) : Prop := ∀ v N H2, (∀ a, N a ≠ none → H a = none) → P v N → Ex N H2 → Ex H H2 → Q v H2
def SpNn (n : Nat) (R : List V → Hp → (V → Hp → Prop) → Prop) : Sp := fun vs H Q _ => vs.length = n ∧ ∃ P, R vs H P ∧ RetN P H Q
section
variable {K : PySem.W.Frag} {σ : L2.St} {H H' : Hp} {ta tb te tx tl : TE} {t u : TT} {x y z v : V} {r : R2} {D : Ends} {tu tw tz ts : TS} {g : TG} {P P' : V → Hp → Prop}
theorem EvN.mono (e : Ex H H') (h : EvN te σ H P) : EvN te σ H' P := fun H1 a Q q => h H1 (e.trans a) Q q
theorem EvN.imp (h : EvN te σ H P) (i : ∀ v N, P v N → P' v N) : EvN te σ H P' := fun H1 e Q q => h H1 e Q fun v N H2 d p a b => q v N H2 d (i v N p) a b
theorem EvL.n {xs : List V} (h : EvL te σ H xs) : EvN te σ H (IsL xs) := fun H1 e Q q => h H1 e Q fun p H2 n e2 hp => q (.ref p) (one p (.lst xs)) H2 (fun a z => by rw [one_ne z]; exact n) ⟨p, rfl, one_at⟩ (one_ex hp) e2
theorem Ev.n (h : Ev te σ H v) : EvN te σ H fun v' _ => v' = v := fun H1 e Q q => h H1 e Q fun H2 e2 => q v nonew H2 (fun a z => (z rfl).elim) rfl nonew_ex e2
theorem EvN.p (h : EvN te σ H P) (m : ∀ v N N', Ex N N' → P v N → P v N') : EvP te σ H P := fun H1 e Q q => h H1 e Q fun v N H2 d p a b => q v H2 b (m v N H2 a p)
theorem EvN.l {xs : List V} (h : EvN te σ H (IsL xs)) : EvL te σ H xs := fun H1 e Q q => h H1 e Q fun v N H2 d ⟨p, ev, hp⟩ a b => by
  subst ev
  exact q p H2 (d p (by rw [hp]; exact fun z => by cases z)) b (a _ _ hp)
theorem sv_asgN {i : Nat} (h : EvN te σ H P) (k : ∀ v N H2, (∀ a, N a ≠ none → H a = none) → P v N → Ex N H2 → Ex H H2 → Sv tz D (σ.set i (some v)) H2) : Sv (tSeq (tAsg te (gName i)) tz) D σ H :=
  fun H1 e => h H1 e _ fun v N H2 d p a b => k v N H2 (fun x z => fresh_back e (d x z)) p a (e.trans b) H2 (Ex.refl H2)
theorem sv_asgN' {i : Nat} (h : EvN te σ H P) (k : ∀ v N H2, (∀ a, N a ≠ none → H a = none) → P v N → Ex N H2 → Ex H H2 → Sv tNext D (σ.set i (some v)) H2) : Sv (tAsg te (gName i)) D σ H :=
  fun H1 e => h H1 e _ fun v N H2 d p a b => k v N H2 (fun x z => fresh_back e (d x z)) p a (e.trans b) H2 (Ex.refl H2)
theorem sv_rqN {nx bk ct : L2.St → Hp → Prop} {Q : VK} (k : RetN P H Q) (h : EvN te σ H P) : Sv (tRet te) { nx := nx, rt := Q, bk := bk, ct := ct } σ H :=
  fun H1 e => h H1 e _ fun v N H2 d p a b => k v N H2 (fun x z => fresh_back e (d x z)) p a (e.trans b)
theorem retN_mono {Q : VK} (e : Ex H H') (h : RetN P H Q) : RetN P H' Q := fun v N H2 d p a b => h v N H2 (fun x z => fresh_back e (d x z)) p a (e.trans b)
def SpNP (sp : Sp) (vs : List V) (H : Hp) (P : V → Hp → Prop) : Prop := ∀ H1, Ex H H1 → ∀ Q : VK, RetN P H1 Q → ∀ E : XK, sp vs H1 Q E
theorem spn {n : Nat} {R : List V → Hp → (V → Hp → Prop) → Prop} {vs : List V} (hl : vs.length = n) (h : ∀ H1, Ex H H1 → R vs H1 P) : SpNP (SpNn n R) vs H P := fun H1 e Q q E => ⟨hl, P, h H1 e, q⟩
theorem en_cl {sp : Sp} {vs : List V} {E : XK} {ta : TA} (h : EvA ta σ H vs) (hs : SpNP sp vs H P) : EvN (tCall sp [] E ta) σ H P := fun H1 e Q q =>
  h H1 e _ fun H2 e2 => by
    rw [List.append_nil]
    exact hs H2 (e.trans e2) Q (fun v N H3 d p a b => q v N H3 (fun x z => fresh_back e2 (d x z)) p a (e2.trans b)) E
/-- [e for x in range(n)], e with new objects: a word of the items so far and of what was made for them -/
theorem en_lcR1 {ta : TA} {j : Nat} {vs : List Nat} {n : Int} (h : EvA ta σ H [.int n]) (hn : -100000 ≤ n ∧ n ≤ 40000) (hw : ∀ x, wipe ((wipe σ vs).set j (some x)) vs = wipe σ vs) (I : Nat → List V → Hp → Prop) (h0 : I 0 [] nonew)
    (he : ∀ (i : Nat) acc N, (i : Int) < n → I i acc N → EvN te ((wipe σ vs).set j (some (.int (i : Int)))) H fun v N' => ∀ N'', Ex N N'' → Ex N' N'' → I (i + 1) (acc ++ [v]) N'') :
    EvN (tLc (iRng1 ta) (gName j) tYes te vs) σ H fun v N => ∃ Dl acc, v = .ref Dl ∧ N Dl = some (.lst acc) ∧ ∃ N0, Ex N0 N ∧ I n.toNat acc N0 := fun H0 e Q q => h H0 e _ fun H1 e1 => ⟨n, rfl, by omega, by omega, fun Dl hD => by
  refine lc_range (lo := 0) (n := n.toNat) (fun i H' => ∃ acc N, Ex H1 H' ∧ H' Dl = some (.lst acc) ∧ (∀ a, N a ≠ none → H1 a = none ∧ a ≠ Dl) ∧ Ex N H' ∧ I i acc N ∧ acc.length ≤ i) ⟨[], nonew, Ex.new hD, upd_same, fun a z => (z rfl).elim, nonew_ex, h0, Nat.le_refl _⟩ ?_ ?_
  · rintro i H' hi ⟨acc, N, p1, p2, p3, p4, p5, p6⟩
    have e0 : (0 : Int) + (i : Int) = (i : Int) := Int.zero_add _
    show wipe ((wipe σ vs).set j (some (.int ((0 : Int) + (i : Int))))) vs = wipe σ vs ∧ _
    rw [e0]
    refine ⟨hw _, ?_⟩
    show te ((wipe σ vs).set j (some (.int (i : Int)))) H' _
    refine he i acc N (by omega) p5 H' ((e.trans e1).trans p1) _ fun v N' H4 d p a b => ⟨acc, b _ _ p2, sz_lt (by omega), acc ++ [v], Unn N' N, Ex.mut (p1.trans b) hD, upd_same, fun x z => ?_, ?_, p (Unn N' N) unn_r (unn_l fun x z => ?_), by rw [List.length_append]; simp only [List.length_singleton]; omega⟩
    · rcases unn_none z with z | z
      · exact p3 x z
      · refine ⟨fresh_back p1 (d x z), fun q => ?_⟩
        have w := d x z
        rw [q, p2] at w
        cases w
    · refine unn_ex (fun x o z => ?_) (fun x o z => ?_)
      · rw [upd_ne (p3 x (by rw [z]; exact fun w => by cases w)).2]
        exact b _ _ (p4 _ _ z)
      · have w := d x (by rw [z]; exact fun w => by cases w)
        rw [upd_ne (fun q => by rw [q, p2] at w; cases w)]
        exact a _ _ z
    · have w := d x z
      cases k : N x with
      | none => rfl
      | some o => rw [p4 _ _ k] at w; cases w
  · rintro H' ⟨acc, N, p1, p2, p3, p4, p5, p6⟩
    refine q (.ref Dl) (Unn (one Dl (.lst acc)) N) H' (fun a z => ?_) ⟨Dl, acc, rfl, ?_, N, unn_r, p5⟩ (unn_ex p4 (one_ex p2)) (e1.trans p1)
    · rcases unn_none z with z | z
      · exact fresh_back e1 (p3 a z).1
      · rw [one_ne z]
        exact fresh_back e1 hD
    · refine unn_l (fun a z => ?_) _ _ one_at
      have w := one_ne z
      subst w
      cases k : N a with
      | none => rfl
      | some o => exact ((p3 a (by rw [k]; exact fun w => by cases w)).2 rfl).elim⟩
/-- [e for x in xs if t], the same over a list that stands -/
theorem en_lcL {a : Addr} {xs : List V} {j : Nat} {vs : List Nat} (h : Ev tl σ H (.ref a)) (hx : SqL K H a xs) (hz : xs.length ≤ 40000) (hw : ∀ x, wipe ((wipe σ vs).set j (some x)) vs = wipe σ vs) (f : Nat → Bool) (I : Nat → List V → Hp → Prop) (h0 : I 0 [] nonew)
    (ht : ∀ (i : Nat) x, xs[i]? = some x → EvT t ((wipe σ vs).set j (some x)) H (f i))
    (he : ∀ (i : Nat) x acc N, xs[i]? = some x → f i = true → I i acc N → EvN te ((wipe σ vs).set j (some x)) H fun v N' => ∀ N'', Ex N N'' → Ex N' N'' → I (i + 1) (acc ++ [v]) N'')
    (hs : ∀ (i : Nat) acc N, f i = false → I i acc N → I (i + 1) acc N) :
    EvN (tLc (iList K tl) (gName j) t te vs) σ H fun v N => ∃ Dl acc, v = .ref Dl ∧ N Dl = some (.lst acc) ∧ ∃ N0, Ex N0 N ∧ I xs.length acc N0 := fun H0 e Q q => h H0 e _ fun H1 e1 => ⟨a, rfl, ⟨xs, ex_l (e.trans e1) hx⟩, fun Dl hD => by
  refine lc_list (K := K) (a := a) (xs := xs) (fun i H' => ∃ acc N, Ex H1 H' ∧ H' Dl = some (.lst acc) ∧ (∀ a, N a ≠ none → H1 a = none ∧ a ≠ Dl) ∧ Ex N H' ∧ I i acc N ∧ acc.length ≤ i) ⟨[], nonew, Ex.new hD, upd_same, fun a z => (z rfl).elim, nonew_ex, h0, Nat.le_refl _⟩ (fun i H' _ ⟨_, _, p1, _⟩ => ex_l ((e.trans e1).trans p1) hx) ?_ ?_
  · rintro i x H' hi ⟨acc, N, p1, p2, p3, p4, p5, p6⟩
    refine ⟨hw x, ?_⟩
    have hl := (List.getElem?_eq_some_iff.mp hi).1
    refine ht i x hi H' ((e.trans e1).trans p1) _ fun H3 e3 => ?_
    cases hf : f i with
    | false => exact ⟨acc, N, p1.trans e3, e3 _ _ p2, p3, p4.trans e3, hs i acc N hf p5, by omega⟩
    | true =>
      show te ((wipe σ vs).set j (some x)) H3 _
      refine he i x acc N hi hf p5 H3 (((e.trans e1).trans p1).trans e3) _ fun v N' H4 d p a b => ⟨acc, b _ _ (e3 _ _ p2), sz_lt (by omega), acc ++ [v], Unn N' N, Ex.mut ((p1.trans e3).trans b) hD, upd_same, fun x z => ?_, ?_, p (Unn N' N) unn_r (unn_l fun x z => ?_), by rw [List.length_append]; simp only [List.length_singleton]; omega⟩
      · rcases unn_none z with z | z
        · exact p3 x z
        · refine ⟨fresh_back (p1.trans e3) (d x z), fun q => ?_⟩
          have w := d x z
          rw [q, e3 _ _ p2] at w
          cases w
      · refine unn_ex (fun x o z => ?_) (fun x o z => ?_)
        · rw [upd_ne (p3 x (by rw [z]; exact fun w => by cases w)).2]
          exact b _ _ (e3 _ _ (p4 _ _ z))
        · have w := d x (by rw [z]; exact fun w => by cases w)
          rw [upd_ne (fun q => by rw [q, e3 _ _ p2] at w; cases w)]
          exact a _ _ z
      · have w := d x z
        cases k : N x with
        | none => rfl
        | some o => rw [e3 _ _ (p4 _ _ k)] at w; cases w
  · rintro H' ⟨acc, N, p1, p2, p3, p4, p5, p6⟩
    refine q (.ref Dl) (Unn (one Dl (.lst acc)) N) H' (fun a z => ?_) ⟨Dl, acc, rfl, ?_, N, unn_r, p5⟩ (unn_ex p4 (one_ex p2)) (e1.trans p1)
    · rcases unn_none z with z | z
      · exact fresh_back e1 (p3 a z).1
      · rw [one_ne z]
        exact fresh_back e1 hD
    · refine unn_l (fun a z => ?_) _ _ one_at
      have w := one_ne z
      subst w
      cases k : N a with
      | none => rfl
      | some o => exact ((p3 a (by rw [k]; exact fun w => by cases w)).2 rfl).elim⟩
/-- while, by a word and a number that falls -/
theorem sv_while (W : Nat → L2.St → Hp → Prop) (m0 : Nat) (h0 : W m0 σ H)
    (hs : ∀ m σ' H', W m σ' H' → ∃ (b : Bool), EvT t σ' H' b ∧ (b = true → Sv tu { D with nx := Kn fun σ2 H2 => ∃ m', m' < m ∧ W m' σ2 H2, ct := Kn fun σ2 H2 => ∃ m', m' < m ∧ W m' σ2 H2, bk := tz D } σ' H') ∧ (b = false → Sv tz D σ' H')) : Sv (tSeq (tWhile t tu) tz) D σ H := fun H1 e => by
  refine ⟨fun m => Kn (W m), ⟨m0, H, h0, e⟩, ?_⟩
  rintro m σ' H2 ⟨H', w, e2⟩
  obtain ⟨b, ht, k1, k2⟩ := hs m σ' H' w
  refine ht H2 e2 _ fun H3 e3 => ?_
  cases b with
  | true => exact ⟨_, fun σ2 H4 ⟨H5, ⟨m', l, w'⟩, e5⟩ => ⟨m', l, H5, w', e5⟩, k1 rfl H3 (e2.trans e3)⟩
  | false => exact k2 rfl H3 (e2.trans e3)
/-! ### lists of lists of ints -/
def Rw (K : PySem.W.Frag) (H : Hp) (vs : List V) (rss : List (List Int)) : Prop := vs.length = rss.length ∧ ∀ (i : Nat) (rs : List Int), rss[i]? = some rs → ∃ q : Addr, vs[i]? = some (V.ref q) ∧ SqL K H q (rs.map V.int)
theorem Rw.mono {vs : List V} {rss : List (List Int)} (e : Ex H H') (h : Rw K H vs rss) : Rw K H' vs rss := ⟨h.1, fun i rs hi => by
  obtain ⟨q, a, b⟩ := h.2 i rs hi
  exact ⟨q, a, ex_l e b⟩⟩
theorem Rw.nil : Rw K H [] [] := ⟨rfl, fun i rs h => by simp at h⟩
theorem Rw.snoc {vs : List V} {rss : List (List Int)} {q : Addr} {rs : List Int} (h : Rw K H vs rss) (hq : SqL K H q (rs.map V.int)) : Rw K H (vs ++ [.ref q]) (rss ++ [rs]) := by
  refine ⟨by rw [List.length_append, List.length_append, h.1]; rfl, fun i r hi => ?_⟩
  by_cases c : i < rss.length
  · rw [List.getElem?_append_left c] at hi
    rw [List.getElem?_append_left (by rw [h.1]; exact c)]
    exact h.2 i r hi
  · rw [List.getElem?_append_right (by omega)] at hi
    have c2 : i - rss.length = 0 := by
      have := (List.getElem?_eq_some_iff.mp hi).1
      simp only [List.length_singleton] at this
      omega
    rw [c2] at hi
    have hr : rs = r := Option.some.inj hi
    subst hr
    refine ⟨q, ?_, hq⟩
    rw [List.getElem?_append_right (by rw [h.1]; omega), h.1, c2]
    rfl
theorem rw_dp : ∀ {vs : List V} {rss : List (List Int)}, Rw K H vs rss → DpAll K H vs (rss.map fun rs => PyData.list (rs.map PyData.int))
  | [], [], _ => .nil
  | [], r :: rss, h => by cases h.1
  | v :: vs, [], h => by cases h.1
  | v :: vs, r :: rss, h => by
    obtain ⟨q, e, s⟩ := h.2 0 r rfl
    have e2 : v = .ref q := Option.some.inj e
    subst e2
    refine .cons (dp_ints s) (rw_dp ⟨Nat.succ.inj h.1, fun i rs hi => h.2 (i + 1) rs hi⟩)
theorem shp_rows (rss : List (List Int)) : Shp 2 (.list (rss.map fun rs => PyData.list (rs.map PyData.int))) := shp_list fun d hd => by
  obtain ⟨rs, _, rfl⟩ := List.mem_map.mp hd
  exact shp_listI rs
end

/-! ### ends that may be none, triples, wishes -/
def ov : Option Int → V
  | none => .non
  | some i => .int i
theorem ov_get {o : Option Int} (h : ¬ o = none) : ov o = .int (o.getD 0) := by
  cases o with
  | none => exact (h rfl).elim
  | some i => rfl
structure Tri where
  c : Int
  lo : Option Int
  hi : Option Int
def tv (t : Tri) : List V := [.int t.c, ov t.lo, ov t.hi]
def IsTri (t : Tri) : V → Hp → Prop := fun v N => ∃ p, v = .ref p ∧ N p = some (.tup (tv t))
section
variable {K : PySem.W.Frag} {σ : L2.St} {H H' : Hp} {ta tb te tx tl : TE} {t u : TT} {x y z v : V} {r : R2} {D : Ends} {tu tw tz ts : TS} {g : TG} {P P' : V → Hp → Prop}
theorem rs_ov {o : Option Int} : RV rSome (ov o) .non H (.bl (decide (¬ o = none))) := by
  cases o with
  | none => exact rs_no
  | some i =>
    have e : (decide (¬ (some i : Option Int) = none)) = decide True := rfl
    rw [e]
    exact rs_yes (fun h => by cases h)
theorem rn_ov {o : Option Int} : RV rNone (ov o) .non H (.bl (decide (o = none))) := by
  cases o with
  | none => exact rn_yes
  | some i =>
    have e : (decide ((some i : Option Int) = none)) = decide False := rfl
    rw [e]
    exact rn_no (fun h => by cases h)
def Wt (K : PySem.W.Frag) (H : Hp) (vs : List V) (ts : List Tri) : Prop := vs.length = ts.length ∧ ∀ (i : Nat) (t : Tri), ts[i]? = some t → ∃ q : Addr, vs[i]? = some (V.ref q) ∧ SqT K H q (tv t)
theorem Wt.mono {vs : List V} {ts : List Tri} (e : Ex H H') (h : Wt K H vs ts) : Wt K H' vs ts := ⟨h.1, fun i t hi => by
  obtain ⟨q, a, b⟩ := h.2 i t hi
  exact ⟨q, a, ex_t e b⟩⟩
theorem Wt.nil : Wt K H [] [] := ⟨rfl, fun i t h => by simp at h⟩
theorem Wt.snoc {vs : List V} {ts : List Tri} {q : Addr} {t : Tri} (h : Wt K H vs ts) (hq : SqT K H q (tv t)) : Wt K H (vs ++ [.ref q]) (ts ++ [t]) := by
  refine ⟨by rw [List.length_append, List.length_append, h.1]; rfl, fun i r hi => ?_⟩
  by_cases c : i < ts.length
  · rw [List.getElem?_append_left c] at hi
    rw [List.getElem?_append_left (by rw [h.1]; exact c)]
    exact h.2 i r hi
  · rw [List.getElem?_append_right (by omega)] at hi
    have c2 : i - ts.length = 0 := by
      have := (List.getElem?_eq_some_iff.mp hi).1
      simp only [List.length_singleton] at this
      omega
    rw [c2] at hi
    have hr : t = r := Option.some.inj hi
    subst hr
    refine ⟨q, ?_, hq⟩
    rw [List.getElem?_append_right (by rw [h.1]; omega), h.1, c2]
    rfl
theorem Wt.at {vs : List V} {ts : List Tri} {i : Nat} {x : V} (h : Wt K H vs ts) (hx : vs[i]? = some x) : ∃ t q, ts[i]? = some t ∧ x = .ref q ∧ SqT K H q (tv t) := by
  have hi : i < ts.length := by
    have := (List.getElem?_eq_some_iff.mp hx).1
    have := h.1
    omega
  obtain ⟨q, a, b⟩ := h.2 i _ (List.getElem?_eq_getElem hi)
  rw [hx] at a
  exact ⟨_, q, List.getElem?_eq_getElem hi, Option.some.inj a, b⟩
def ovD : Option Int → PyData
  | none => .none
  | some i => .int i
def triD (t : Tri) : PyData := .tuple [.int t.c, ovD t.lo, ovD t.hi]
theorem dp_ov (o : Option Int) : Dp K H (ov o) (ovD o) := by
  cases o with
  | none => exact .non
  | some i => exact .int i
theorem dp_tri {q : Addr} {t : Tri} (h : SqT K H q (tv t)) : Dp K H (.ref q) (triD t) := .tup h (.cons (.int _) (.cons (dp_ov _) (.cons (dp_ov _) .nil)))
theorem wt_dp : ∀ {vs : List V} {ts : List Tri}, Wt K H vs ts → DpAll K H vs (ts.map triD)
  | [], [], _ => .nil
  | [], r :: rss, h => by cases h.1
  | v :: vs, [], h => by cases h.1
  | v :: vs, r :: rss, h => by
    obtain ⟨q, e, s⟩ := h.2 0 r rfl
    have e2 : v = .ref q := Option.some.inj e
    subst e2
    exact .cons (dp_tri s) (wt_dp ⟨Nat.succ.inj h.1, fun i rs hi => h.2 (i + 1) rs hi⟩)
theorem shp_ov {n : Nat} (o : Option Int) : Shp n (ovD o) := by
  cases o with
  | none => exact shp_none
  | some i => exact shp_int i
theorem shp_tri (t : Tri) : Shp 1 (triD t) := shp_tuple fun d hd => by
  rcases List.mem_cons.mp hd with h | hd
  · rw [h]; exact shp_int _
  rcases List.mem_cons.mp hd with h | hd
  · rw [h]; exact shp_ov _
  rcases List.mem_cons.mp hd with h | hd
  · rw [h]; exact shp_ov _
  · cases hd
theorem shp_wish (ts : List Tri) : Shp 2 (.list (ts.map triD)) := shp_list fun d hd => by
  obtain ⟨t, _, rfl⟩ := List.mem_map.mp hd
  exact shp_tri t
theorem EvU.n {xs : List V} (h : EvU te σ H xs) : EvN te σ H fun v N => ∃ p, v = .ref p ∧ N p = some (.tup xs) := fun H1 e Q q => h H1 e Q fun p H2 n e2 hp => q (.ref p) (one p (.tup xs)) H2 (fun a z => by rw [one_ne z]; exact n) ⟨p, rfl, one_at⟩ (one_ex hp) e2
theorem tv0 (t : Tri) : atI (tv t) 0 = some (.int t.c) := rfl
theorem tv1 (t : Tri) : atI (tv t) 1 = some (ov t.lo) := rfl
theorem tv2 (t : Tri) : atI (tv t) 2 = some (ov t.hi) := rfl
end
/-- whether a row fits a wish -/
def fit1 (rs : List Int) (t : Tri) : Bool := (match t.lo with | none => true | some l => decide (l ≤ rs.getD t.c.toNat 0)) && (match t.hi with | none => true | some h => decide (rs.getD t.c.toNat 0 ≤ h))
def fitsM (rs : List Int) (ts : List Tri) : Bool := ts.all (fit1 rs)
theorem fit1_eq (rs : List Int) (t : Tri) : fit1 rs t = decide (¬ (¬ t.lo = none ∧ rs.getD t.c.toNat 0 < t.lo.getD 0) ∧ ¬ (¬ t.hi = none ∧ t.hi.getD 0 < rs.getD t.c.toNat 0)) := by
  unfold fit1
  cases t.lo <;> cases t.hi <;> simp
theorem fits_take {rs : List Int} {ts : List Tri} {i : Nat} {t : Tri} (h : ts[i]? = some t) : fitsM rs (ts.take (i + 1)) = (fitsM rs (ts.take i) && fit1 rs t) := by
  unfold fitsM
  rw [List.take_add_one, h, List.all_append]
  simp
theorem fits_no {rs : List Int} {ts : List Tri} {i : Nat} {t : Tri} (h : ts[i]? = some t) (hf : fit1 rs t = false) : fitsM rs ts = false := by
  unfold fitsM
  rw [List.all_eq_false]
  exact ⟨t, List.mem_of_getElem? h, by rw [hf]; decide⟩

section
variable {X : Cx}
def rTupS (K : PySem.W.Frag) : List V → Hp → VK → Prop := fun xs H Q => ∃ p ys, xs = [.ref p] ∧ ((SqL K H p ys ∧ ∀ l, H l = none → Q (.ref l) (upd H l (.tup ys))) ∨ (SqT K H p ys ∧ Q (.ref p) H))
theorem c_tuple : CallR X (.type "tuple") (rTupS X.K) := call_tuple_of
end
section
variable {K : PySem.W.Frag} {σ : L2.St} {H H' : Hp} {ta tb te tx tl : TE} {t u : TT} {x y z v : V} {r : R2} {D : Ends} {tu tw tz ts : TS} {g : TG} {P P' : V → Hp → Prop}
theorem eu_tuple {p : Addr} {xs : List V} (ha : Ev ta σ H (.ref p)) (h : SqL K H p xs) : EvU (tCB (rTupS K) (tCons ta tNil)) σ H xs := fun H1 e Q q =>
  ha H1 e _ fun H2 e2 => ⟨p, xs, rfl, .inl ⟨ex_l (e.trans e2) h, fun l hl => q l _ (fresh_back e2 hl) (e2.trans (Ex.new hl)) upd_same⟩⟩
theorem ev_tupT {p : Addr} {xs : List V} (ha : Ev ta σ H (.ref p)) (h : SqT K H p xs) : Ev (tCB (rTupS K) (tCons ta tNil)) σ H (.ref p) := fun H1 e Q q =>
  ha H1 e _ fun H2 e2 => ⟨p, xs, rfl, .inr ⟨ex_t (e.trans e2) h, q H2 e2⟩⟩
theorem EvU.p {xs : List V} (h : EvU te σ H xs) : EvP te σ H fun v H2 => ∃ p, v = .ref p ∧ H p = none ∧ Ex H H2 ∧ H2 p = some (.tup xs) := fun H1 e Q q => h H1 e Q fun p H2 n e2 hp => q _ H2 e2 ⟨p, rfl, fresh_back e n, e.trans e2, hp⟩
theorem sv_asgP' {i : Nat} {P : V → Hp → Prop} (h : EvP te σ H P) (k : ∀ v H2, Ex H H2 → P v H2 → Sv tNext D (σ.set i (some v)) H2) : Sv (tAsg te (gName i)) D σ H :=
  fun H1 e => h H1 e _ fun v H2 e2 p => k v H2 (e.trans e2) p H2 (Ex.refl H2)
/-- a value known by a promise of values, as P -/
theorem spp_v {sp : Sp} {vs : List V} (h : SpV sp vs H z) : SpP sp vs H fun v _ => v = z := fun H1 e Q q E => h H1 e Q (fun H2 e2 => q z H2 e2 rfl) E
end

/-! ### one object changed -/
def Exb (l : Addr) (H H' : Hp) : Prop := ∀ a o, a ≠ l → H a = some o → H' a = some o
theorem exb_of {l : Addr} {H0 H H' : Hp} (e : Exb l H H') (e0 : Ex H0 H) (n : H0 l = none) : Ex H0 H' := fun a o h => e a o (ne_of_none h n) (e0 a o h)
theorem exb_t {K : PySem.W.Frag} {l q : Addr} {H H' : Hp} {xs ys : List V} (h : H l = some (.lst xs)) (e : Exb l H H') (hq : SqT K H q ys) : SqT K H' q ys := by
  rcases hq with (hq | ⟨o, hq⟩) | hq
  · exact .inl (.inl (e _ _ (fun z => by rw [z, h] at hq; cases hq) hq))
  · exact .inl (.inr ⟨o, e _ _ (fun z => by rw [z, h] at hq; cases hq) hq⟩)
  · exact .inr hq
theorem wt_exb {K : PySem.W.Frag} {l : Addr} {H H' : Hp} {xs vs : List V} {ts : List Tri} (h : H l = some (.lst xs)) (e : Exb l H H') (hw : Wt K H vs ts) : Wt K H' vs ts := ⟨hw.1, fun i t hi => by
  obtain ⟨q, a, b⟩ := hw.2 i t hi
  exact ⟨q, a, exb_t h e b⟩⟩
theorem tyx_t {K : PySem.W.Frag} {H : Hp} {p : Addr} {xs : List V} (h : SqT K H p xs) : TyX K H (.ref p) (.type "tuple") := by
  rcases h with (h | ⟨o, h⟩) | ⟨o, its, n, h, c, _⟩
  · exact .base (.tup h)
  · exact .fTuple h
  · exact .kTuple h c
theorem tyx_l {K : PySem.W.Frag} {H : Hp} {p : Addr} {xs : List V} (h : SqL K H p xs) : TyX K H (.ref p) (.type "list") := by
  rcases h with (h | ⟨o, h⟩) | ⟨o, its, n, h, c, _⟩
  · exact .base (.lst h)
  · exact .base (.frz h)
  · exact .kList h c
section
variable {K : PySem.W.Frag} {σ : L2.St} {H H' : Hp} {ta tb te tx tl : TE} {t u : TT} {x y z v : V} {r : R2} {D : Ends} {tu tw tz ts : TS} {g : TG} {P P' : V → Hp → Prop}
/-- xs.append(e), e with new objects -/
theorem sv_appN {l : Addr} {xs : List V} (hl : H l = some (.lst xs)) (ha : Ev ta σ H (.ref l)) (h : EvN te σ H P) (hz : xs.length < 100000)
    (k : ∀ v N H2, (∀ a, N a ≠ none → H a = none) → P v N → Ex N H2 → Exb l H H2 → H2 l = some (.lst (xs ++ [v])) → Sv tz D σ H2) : Sv (tSeq (tDrop (tBM K "list" rAppend ta (tCons te tNil))) tz) D σ H := fun H1 e =>
  ha H1 e _ fun H2 e2 => ⟨Or.inl ⟨rfl, xs, sq_of (e2 _ _ (e _ _ hl))⟩, h H2 (e.trans e2) _ fun v N H3 d p a b => ⟨l, xs, v, rfl, rfl, b _ _ (e2 _ _ (e _ _ hl)), sz_lt hz, k v N _ (fun x z => fresh_back (e.trans e2) (d x z)) p (fun x o z => by
    have w := d x (by rw [z]; exact fun w => by cases w)
    rw [upd_ne (fun q => by rw [q, e2 _ _ (e _ _ hl)] at w; cases w)]
    exact a _ _ z) (fun x o n z => by
    rw [upd_ne n]
    exact b _ _ (e2 _ _ (e _ _ z))) upd_same _ (Ex.refl _)⟩⟩
theorem sv_appN' {l : Addr} {xs : List V} (hl : H l = some (.lst xs)) (ha : Ev ta σ H (.ref l)) (h : EvN te σ H P) (hz : xs.length < 100000)
    (k : ∀ v N H2, (∀ a, N a ≠ none → H a = none) → P v N → Ex N H2 → Exb l H H2 → H2 l = some (.lst (xs ++ [v])) → Sv tNext D σ H2) : Sv (tDrop (tBM K "list" rAppend ta (tCons te tNil))) D σ H := fun H1 e =>
  ha H1 e _ fun H2 e2 => ⟨Or.inl ⟨rfl, xs, sq_of (e2 _ _ (e _ _ hl))⟩, h H2 (e.trans e2) _ fun v N H3 d p a b => ⟨l, xs, v, rfl, rfl, b _ _ (e2 _ _ (e _ _ hl)), sz_lt hz, k v N _ (fun x z => fresh_back (e.trans e2) (d x z)) p (fun x o z => by
    have w := d x (by rw [z]; exact fun w => by cases w)
    rw [upd_ne (fun q => by rw [q, e2 _ _ (e _ _ hl)] at w; cases w)]
    exact a _ _ z) (fun x o n z => by
    rw [upd_ne n]
    exact b _ _ (e2 _ _ (e _ _ z))) upd_same _ (Ex.refl _)⟩⟩
theorem sv_drop (h : Ev te σ H v) (k : Sv tz D σ H) : Sv (tSeq (tDrop te) tz) D σ H := fun H1 e => h H1 e _ fun H2 e2 => k H2 (e.trans e2)
theorem ev_max {p : Addr} {ns : List Int} {m : Int} (ha : Ev ta σ H (.ref p)) (h : SqL K H p (ns.map V.int)) (h0 : 0 < ns.length) (hm : ∀ i, i ∈ ns → (∀ y, y ∈ ns → y ≤ i) → i = m) : Ev (tCB (rMax K) (tCons ta tNil)) σ H (.int m) := fun H1 e Q q =>
  ha H1 e _ fun H2 e2 => ⟨p, ns, rfl, ex_l (e.trans e2) h, h0, fun i hi hle => by rw [hm i hi hle]; exact q H2 e2⟩
theorem ev_min {p : Addr} {ns : List Int} {m : Int} (ha : Ev ta σ H (.ref p)) (h : SqL K H p (ns.map V.int)) (h0 : 0 < ns.length) (hm : ∀ i, i ∈ ns → (∀ y, y ∈ ns → i ≤ y) → i = m) : Ev (tCB (rMin K) (tCons ta tNil)) σ H (.int m) := fun H1 e Q q =>
  ha H1 e _ fun H2 e2 => ⟨p, ns, rfl, ex_l (e.trans e2) h, h0, fun i hi hle => by rw [hm i hi hle]; exact q H2 e2⟩
end
/-- a promise of which something holds in the heap behind it -/
def SpQ (n : Nat) (R : List V → Hp → (V → Hp → Prop) → Prop) : Sp := fun vs H Q _ => vs.length = n ∧ ∃ P, R vs H P ∧ ∀ v H2, Ex H H2 → P v H2 → Q v H2
theorem spq {n : Nat} {R : List V → Hp → (V → Hp → Prop) → Prop} {vs : List V} {H : Hp} {P : V → Hp → Prop} (hl : vs.length = n) (h : ∀ H1, Ex H H1 → ∃ P', R vs H1 P' ∧ ∀ v H2, P' v H2 → P v H2) : SpP (SpQ n R) vs H P := fun H1 e Q q E => by
  obtain ⟨P', r, i⟩ := h H1 e
  exact ⟨hl, P', r, fun v H2 e2 p => q v H2 e2 (i v H2 p)⟩
/-! ### the merged wish -/
def maxL : List Int → Int
  | [] => 0
  | [x] => x
  | x :: y :: r => max x (maxL (y :: r))
def minL : List Int → Int
  | [] => 0
  | [x] => x
  | x :: y :: r => min x (minL (y :: r))
theorem maxL_le : ∀ {l : List Int} {y : Int}, y ∈ l → y ≤ maxL l
  | [], y, h => by cases h
  | [x], y, h => by
    have e : y = x := by simpa using h
    rw [e]
    exact Int.le_refl _
  | x :: z :: r, y, h => by
    show y ≤ max x (maxL (z :: r))
    rcases List.mem_cons.mp h with e | h
    · omega
    · have := maxL_le h
      omega
theorem maxL_mem : ∀ {l : List Int}, 0 < l.length → maxL l ∈ l
  | [], h => absurd h (Nat.lt_irrefl _)
  | [x], _ => List.mem_cons_self ..
  | x :: z :: r, _ => by
    have h := maxL_mem (l := z :: r) (Nat.succ_pos _)
    show max x (maxL (z :: r)) ∈ _
    by_cases c : maxL (z :: r) ≤ x
    · rw [Int.max_eq_left c]
      exact List.mem_cons_self ..
    · rw [Int.max_eq_right (by omega)]
      exact List.mem_cons_of_mem _ h
theorem minL_le : ∀ {l : List Int} {y : Int}, y ∈ l → minL l ≤ y
  | [], y, h => by cases h
  | [x], y, h => by
    have e : y = x := by simpa using h
    rw [e]
    exact Int.le_refl _
  | x :: z :: r, y, h => by
    show min x (minL (z :: r)) ≤ y
    rcases List.mem_cons.mp h with e | h
    · omega
    · have := minL_le h
      omega
theorem minL_mem : ∀ {l : List Int}, 0 < l.length → minL l ∈ l
  | [], h => absurd h (Nat.lt_irrefl _)
  | [x], _ => List.mem_cons_self ..
  | x :: z :: r, _ => by
    have h := minL_mem (l := z :: r) (Nat.succ_pos _)
    show min x (minL (z :: r)) ∈ _
    by_cases c : x ≤ minL (z :: r)
    · rw [Int.min_eq_left c]
      exact List.mem_cons_self ..
    · rw [Int.min_eq_right (by omega)]
      exact List.mem_cons_of_mem _ h
theorem maxL_eq {l : List Int} {m : Int} (h : m ∈ l) (hm : ∀ y, y ∈ l → y ≤ m) : m = maxL l := by
  have h1 := maxL_le h
  have h2 := hm _ (maxL_mem (List.length_pos_of_mem h))
  omega
theorem minL_eq {l : List Int} {m : Int} (h : m ∈ l) (hm : ∀ y, y ∈ l → m ≤ y) : m = minL l := by
  have h1 := minL_le h
  have h2 := hm _ (minL_mem (List.length_pos_of_mem h))
  omega
def lowsM (c : Int) (ts : List Tri) : List Int := (ts.filter fun t => decide (t.c = c ∧ ¬ t.lo = none)).map fun t => t.lo.getD 0
def highsM (c : Int) (ts : List Tri) : List Int := (ts.filter fun t => decide (t.c = c ∧ ¬ t.hi = none)).map fun t => t.hi.getD 0
def endLo (c : Int) (ts : List Tri) : Option Int := if 0 < (lowsM c ts).length then some (maxL (lowsM c ts)) else none
def endHi (c : Int) (ts : List Tri) : Option Int := if 0 < (highsM c ts).length then some (minL (highsM c ts)) else none
def spoken (c : Int) (ts : List Tri) : Prop := 0 < (ts.filter fun t => decide (t.c = c)).length
instance (c : Int) (ts : List Tri) : Decidable (spoken c ts) := inferInstanceAs (Decidable (0 < _))
def mergedTo (ts : List Tri) : Nat → List Tri
  | 0 => []
  | k + 1 => mergedTo ts k ++ if spoken (k : Int) ts then [⟨(k : Int), endLo k ts, endHi k ts⟩] else []
def mergedM (ts : List Tri) : List Tri := mergedTo ts 6
theorem mergedTo_len (ts : List Tri) : ∀ k, (mergedTo ts k).length ≤ k
  | 0 => Nat.le_refl _
  | k + 1 => by
    have := mergedTo_len ts k
    show (mergedTo ts k ++ _).length ≤ k + 1
    rw [List.length_append]
    split
    · simp only [List.length_singleton]
      omega
    · simp only [List.length_nil]
      omega
def t0 : Tri := ⟨0, none, none⟩
theorem given_ints (ts : List Tri) (p : Tri → Bool) (g : Tri → Int) : given ts.length (fun i => p (ts.getD i t0)) (fun i => V.int (g (ts.getD i t0))) = ((ts.filter p).map g).map V.int := by
  have e : (List.range ts.length).map (fun i => ts.getD i t0) = ts := by
    refine List.ext_getElem? fun i => ?_
    rw [List.getElem?_map]
    by_cases h : i < ts.length
    · rw [List.getElem?_range h, List.getElem?_eq_getElem h]
      show some (ts.getD i t0) = _
      rw [List.getD_eq_getElem?_getD, List.getElem?_eq_getElem h]
      rfl
    · rw [List.getElem?_eq_none (by rw [List.length_range]; omega), List.getElem?_eq_none (by omega)]
      rfl
  have e2 : ts.filter p = ((List.range ts.length).filter fun i => p (ts.getD i t0)).map fun i => ts.getD i t0 := by
    have h := congrArg (List.filter p) e
    rw [List.filter_map] at h
    exact h.symm
  rw [e2, List.map_map, List.map_map]
  rfl
theorem getD_at {ts : List Tri} {i : Nat} {t : Tri} (h : ts[i]? = some t) : ts.getD i t0 = t := by
  rw [List.getD_eq_getElem?_getD, h]
  rfl

/-! ### the size of ints -/
/-- below the n-th power of two -/
structure Bits (n : Nat) (z : Int) : Prop where
  lt : z.natAbs < 2 ^ n
theorem Bits.of {n : Nat} {z : Int} (h : Builtin.Int.intBits z ≤ n) : Bits n z := ⟨by
  unfold Builtin.Int.intBits at h
  split at h
  · rename_i c
    have e : z = 0 := by simpa using c
    rw [e]
    exact Nat.two_pow_pos n
  · rename_i c
    have hz : z.natAbs ≠ 0 := fun e => c (by simpa using Int.natAbs_eq_zero.mp e)
    exact (Nat.log2_lt hz).mp h⟩
theorem Bits.to {n : Nat} {z : Int} (h : Bits n z) : Builtin.Int.intBits z ≤ n := by
  unfold Builtin.Int.intBits
  split
  · exact Nat.zero_le _
  · rename_i c
    have hz : z.natAbs ≠ 0 := fun e => c (by simpa using Int.natAbs_eq_zero.mp e)
    exact (Nat.log2_lt hz).mpr h.lt
theorem Bits.mono {n m : Nat} {z : Int} (h : Bits n z) (l : n ≤ m) : Bits m z := ⟨Nat.lt_of_lt_of_le h.lt (Nat.pow_le_pow_right (by decide) l)⟩
theorem Bits.add {n : Nat} {a b : Int} (h : Bits n a) (k : Bits n b) : Bits (n + 1) (a + b) := ⟨by
  have h1 := h.lt
  have h2 := k.lt
  rw [Nat.pow_succ]
  have := Int.natAbs_add_le a b
  omega⟩
theorem Bits.sub {n : Nat} {a b : Int} (h : Bits n a) (k : Bits n b) : Bits (n + 1) (a - b) := ⟨by
  have h1 := h.lt
  have h2 := k.lt
  rw [Nat.pow_succ]
  have := Int.natAbs_sub_le a b
  omega⟩
theorem Bits.mul {n m : Nat} {a b : Int} (h : Bits n a) (k : Bits m b) : Bits (n + m) (a * b) := ⟨by
  rw [Int.natAbs_mul, Nat.pow_add]
  exact Nat.mul_lt_mul'' h.lt k.lt⟩
theorem Bits.div {n : Nat} {a k : Int} (h : Bits n a) : Bits n (a / k) := ⟨Nat.lt_of_le_of_lt (Int.natAbs_ediv_le_natAbs a k) h.lt⟩
theorem Bits.nat {n k : Nat} (h : k < 2 ^ n) : Bits n (k : Int) := ⟨by rw [Int.natAbs_natCast]; exact h⟩
theorem Bits.zero {n : Nat} : Bits n 0 := ⟨Nat.two_pow_pos n⟩
def CPowB (i j : Int) : Prop := 0 ≤ j ∧ (Builtin.Int.intBits i : Int) * j ≤ 2 ^ 27
section
variable {X : Cx}
theorem op_powB : OpR X (binaryOp .Pow) (rI CPowB fun i j => .int (i ^ j.toNat)) := opI fun _ _ _ _ _ _ _ hc q => pow_int hc.1 hc.2 q
end
theorem rv_powB {H : Hp} {i : Int} {n : Nat} (h : Bits n i) (hn : n ≤ 44739242) : RV (rI CPowB fun i j => .int (i ^ j.toNat)) (.int i) (.int 3) H (.int (i ^ 3)) := rv_I ⟨by decide, by
  have := h.to
  have e : (2 : Int) ^ 27 = 134217728 := by decide
  rw [e]
  omega⟩
end Wy

set_option Elab.async false
set_option linter.all false
set_option maxRecDepth 100000
set_option maxHeartbeats 4000000
/-! Wd: a dict's views, sorted and listed. -/
namespace Wy
open PySem PySem.Spec PyProof.Rows L2 Evl
/-- d.keys() at p, d.values() at p -/
def keysO (p d : Addr) : HO := .ext fun g => PySem.W.KdlKeysView g p d
def valsO (p d : Addr) : HO := .ext fun g => g.IsValuesView p d
section
variable {X : Cx}
def rKeysV : V → List V → Hp → VK → Prop := fun x xs H Q => ∃ (d : Addr) (kvs : List (Key × V)), x = .ref d ∧ xs = [] ∧ H d = some (.dK kvs) ∧ ∀ p, H p = none → Q (.ref p) (upd H p (keysO p d))
def rValsV : V → List V → Hp → VK → Prop := fun x xs H Q => ∃ (d : Addr) (kvs : List (Key × V)), x = .ref d ∧ xs = [] ∧ H d = some (.dK kvs) ∧ ∀ p, H p = none → Q (.ref p) (upd H p (valsO p d))
theorem m_keysV : MtR X "dict.keys" rKeysV := by
  intro pins s σ H x xs v us Q I rx rxs h
  obtain ⟨d, kvs, rfl, rfl, hd, q⟩ := h
  cases rx
  cases rxs
  obtain ⟨_, lo, ws, _, dd⟩ := dk_rd I.hok (.inl hd)
  have room : H s.heap.objs.size = none := I.hok.fresh (Nat.le_refl _)
  have here : (s.heap.push { cls := .type "dict_keys", data := .fields #[.ref d] }).get? s.heap.objs.size = some { cls := .type "dict_keys", data := .fields #[.ref d] } := Heap.get?_push_size _ rfl
  refine call_meetsIn PySem.F.slot_dict_keys dd.typeIs PySem.F.entry_dict_keys (PySem.F.args_dict_keys_1 _) (PySem.W.kdl_meets_keys (mixKind X.prog X.w) d lo) ⟨⟨ws, dd⟩, ?_⟩
  refine ⟨V.ref s.heap.objs.size, upd H s.heap.objs.size (keysO s.heap.objs.size d), ?_, rfl, q _ room⟩
  exact I.laid (t' := s.toks) (fun b u k => Heap.get?_push_of_some _ k) (Nat.le_refl _) ⟨⟨_, here, rfl, rfl⟩, ⟨_, here⟩, fun g1 g2 x k => let ⟨o, ho, r⟩ := x; ⟨o, k o ho, r⟩⟩
theorem m_valsV : MtR X "dict.values" rValsV := by
  intro pins s σ H x xs v us Q I rx rxs h
  obtain ⟨d, kvs, rfl, rfl, hd, q⟩ := h
  cases rx
  cases rxs
  obtain ⟨_, lo, ws, _, dd⟩ := dk_rd I.hok (.inl hd)
  have room : H s.heap.objs.size = none := I.hok.fresh (Nat.le_refl _)
  have here : (s.heap.push { cls := .type "dict_values", data := .fields #[.ref d] }).get? s.heap.objs.size = some { cls := .type "dict_values", data := .fields #[.ref d] } := Heap.get?_push_size _ rfl
  refine call_meetsIn PySem.F.slot_dict_values dd.typeIs PySem.F.entry_dict_values (PySem.F.args_dict_values_1 _) (meets_dict_values (mixKind X.prog X.w) d lo) ⟨⟨ws, dd⟩, ?_⟩
  refine ⟨V.ref s.heap.objs.size, upd H s.heap.objs.size (valsO s.heap.objs.size d), ?_, rfl, q _ room⟩
  exact I.laid (t' := s.toks) (fun b u k => Heap.get?_push_of_some _ k) (Nat.le_refl _) ⟨⟨_, here, rfl, rfl⟩, ⟨_, here⟩, fun g1 g2 x k => let ⟨o, ho, r⟩ := x; ⟨o, k o ho, r⟩⟩
/-- sorted(d.keys()), the keys ints -/
def rSortK : List V → Hp → VK → Prop := fun xs H Q => ∃ (p d : Addr) (kvs : List (Key × V)) (ks : List Int), xs = [.ref p] ∧ H p = some (keysO p d) ∧ H d = some (.dK kvs) ∧ kvs.map (·.1) = ks.map Sum.inl ∧ ks.length ≤ 100000 ∧
  ∀ (ys : List Int) (l : Addr), ys.Perm ks → ys.Pairwise (· ≤ ·) → H l = none → Q (.ref l) (upd H l (.lst (ys.map V.int)))
theorem c_sortK (calm : X.calm = true) : CallR X (.builtin "sorted") rSortK := by
  intro pins s σ H xs us Q I r h
  obtain ⟨p, d, kvs, ks, rfl, hp, hd, hks, hz, q⟩ := h
  obtain ⟨u, rfl, rx⟩ := vals1 r
  cases rx
  have view : PySem.W.KdlKeysView s.heap p d := (I.hok p _ hp).1
  obtain ⟨_, lo, ws, rel, dd⟩ := dk_rd I.hok (.inl hd)
  obtain ⟨ep, hat⟩ := dd.dictAt
  have names : ws.map (·.1) = ks.map Sum.inl := rel.keys.symm.trans hks
  have count : ws.length = ks.length := by
    have g := congrArg List.length names
    simpa using g
  have fits : ws.length ≤ sizeLine := by rw [count]; exact sz_of hz
  refine Calls.call_function_entry PyProof.Rows.kind_sorted PyProof.Rows.plain_sorted PyProof.Rows.entry_sorted (PyProof.Rows.args_sorted1 _) ?_
  unfold Builtin.«sorted»
  refine wpAny_bind (m := checkCount "sorted" 1 1 _) (wpAny_pure ?_)
  refine wpAny_bind (PySem.W.kdu_collect (A := X.A.in1) (PySem.W.kdl_keys (knd := mixKind X.prog X.w) (r := p) (d := d) (kvs := ws) (ep := ep)) (I.ok.hd calm) ⟨view, hat⟩ fits fun g tk acc old got => ?_)
  have many : acc.toList.length = ks.length := by rw [Array.length_toList, got.1, count]
  have allI : IntsAre acc.toList ks := ints_each many fun j v e => by
    obtain ⟨k, x, e1, e2⟩ := got.2 j v (by rw [← Array.getElem?_toList]; exact e)
    have e3 : (ws.map (·.1))[j]? = some k := by
      rw [List.getElem?_map, e1]
      rfl
    rw [names, List.getElem?_map] at e3
    cases e4 : ks[j]? with
    | none =>
      rw [e4] at e3
      cases e3
    | some y =>
      rw [e4] at e3
      have e5 : (Sum.inl y : Key) = k := Option.some.inj e3
      subst e5
      rcases keyIs_shape (show keyIs (Sum.inl y) v = true from e2) with ⟨i, t, ek, ev⟩ | ⟨z, t, ek, ev⟩
      · cases ek
        exact ⟨y, t, rfl, ev⟩
      · cases ek
  have I1 : Inv X pins σ H { s with heap := g, toks := tk } := I.kept old
  refine wpAny_bind (wpAny_newList ?_ (by rw [many]; exact sz_of hz))
  have there : (g.push (seqObj "list" acc.toList.toArray 0)).get? g.objs.size = some (seqObj "list" acc.toList.toArray 0) := Heap.get?_push_size _ rfl
  show wpAny _ _ _ _ _ { s with heap := g.push (seqObj "list" acc.toList.toArray 0), toks := tk }
  refine wpAny_bind (wpAny_holding (wpAny_call_entry PyProof.Rows.slot_list_sort ⟨_, there, rfl⟩ PyProof.Rows.entry_list_sort
    (SrtO.list_sort_ord (s := { s with heap := g.push (seqObj "list" acc.toList.toArray 0), toks := tk }) SrtO.swo_int there (by rw [many]; exact sz_of hz) (fun two => SrtO.ints_sortable allI two) fun out o1 o2 => ⟨_, rfl, ?_⟩) (PyProof.Rows.args_list_sort _)))
  obtain ⟨k1, k2, k3⟩ := SrtO.ints_out allI o1 o2
  obtain ⟨e', at'⟩ := PyProof.Rows.sortedHeap_at (vs := acc.toList) (out := out.toArray) there
  have len : ((out.map SrtO.iv).map V.int).length ≤ sizeLine := by
    rw [List.length_map, k2.length_eq]
    exact sz_of hz
  refine wpAny_pure ⟨_, rfl, V.ref g.objs.size, upd H g.objs.size (.lst ((out.map SrtO.iv).map V.int)), I1.laid (t' := tk) (fun b u k => ?_) (Nat.le_refl _) ⟨len, out, e', vals_of_ints k1, at'⟩, rfl, q _ _ k2 k3 (I1.hok.fresh (Nat.le_refl _))⟩
  have less : b < g.objs.size := Heap.lt_size k
  rw [PyProof.Rows.sortedHeap_old (Nat.ne_of_lt less) (by rw [size_push']; exact Nat.lt_succ_of_lt less)]
  exact Heap.get?_push_of_some _ k
/-- list(d.values()) -/
def rListV : List V → Hp → VK → Prop := fun xs H Q => ∃ (p d : Addr) (kvs : List (Key × V)), xs = [.ref p] ∧ H p = some (valsO p d) ∧ H d = some (.dK kvs) ∧ ∀ l, H l = none → Q (.ref l) (upd H l (.lst (kvs.map (·.2))))
theorem vals_snd : ∀ {kvs : List (Key × V)} {ws : List (Key × Value)}, KV kvs ws → Vals (kvs.map (·.2)) (ws.map (·.2))
  | _, _, .nil => .nil
  | _, _, .cons a b => .cons a.2 (vals_snd b)
theorem c_listV (calm : X.calm = true) : CallR X (.type "list") rListV := by
  intro pins s σ H xs us Q I r h
  obtain ⟨p, d, kvs, rfl, hp, hd, q⟩ := h
  obtain ⟨u, rfl, rx⟩ := vals1 r
  cases rx
  have view : s.heap.IsValuesView p d := (I.hok p _ hp).1
  obtain ⟨z, lo, ws, rel, dd⟩ := dk_rd I.hok (.inl hd)
  obtain ⟨ep, hat⟩ := dd.dictAt
  have fits : ws.length ≤ sizeLine := by rw [← rel.length]; exact z
  refine PySem.W.kdl_call (PySem.W.kdl_values (knd := mixKind X.prog X.w) (r := p) (d := d) (kvs := ws) (ep := ep)) (I.ok.hd calm) ⟨view, hat⟩ fits fun g tk acc c' old at' got => ?_
  have e : acc.toList = ws.map (·.2) := by
    refine List.ext_getElem? fun j => ?_
    rw [List.getElem?_map]
    by_cases hj : j < ws.length
    · have hj2 : j < acc.size := by rw [got.1]; exact hj
      obtain ⟨k, hk⟩ := got.2 j acc[j] (Array.getElem?_eq_getElem hj2)
      rw [hk, Array.getElem?_toList, Array.getElem?_eq_getElem hj2]
      rfl
    · rw [List.getElem?_eq_none (by rw [Array.length_toList, got.1]; omega), List.getElem?_eq_none (by omega)]
      rfl
  have rv : Vals (kvs.map (·.2)) acc.toList := by
    rw [e]
    exact vals_snd rel
  refine ⟨V.ref s.heap.objs.size, upd H s.heap.objs.size (.lst (kvs.map (·.2))), I.laid (t' := tk) old (Nat.le_refl _) ⟨by rw [List.length_map]; exact z, acc.toList, c', rv, by rw [Array.toArray_toList]; exact at'⟩, rfl, q _ (I.hok.fresh (Nat.le_refl _))⟩
end
end Wy

namespace Wy
open PySem PySem.Spec PyProof.Rows L2 Evl
/-! ### what is there: a dict of rows by their numbers -/
abbrev Rows := List (Int × List Int)
def rowOf (there : Rows) (n : Int) : Option (List Int) := (there.find? fun p => decide (p.1 = n)).map (·.2)
def Dcv (K : PySem.W.Frag) (H : Hp) (kvs : List (Key × V)) (there : Rows) : Prop :=
  kvs.length = there.length ∧ ∀ (i : Nat) (n : Int) (r : List Int), there[i]? = some (n, r) → ∃ p : Addr, kvs[i]? = some (Sum.inl n, V.ref p) ∧ SqL K H p (r.map V.int)
def Dc (K : PySem.W.Frag) (H : Hp) (d : Addr) (there : Rows) : Prop := ∃ kvs, H d = some (.dK kvs) ∧ Dcv K H kvs there
theorem rowOf_cons (p : Int × List Int) (r : Rows) (n : Int) : rowOf (p :: r) n = if p.1 = n then some p.2 else rowOf r n := by
  unfold rowOf
  rw [List.find?_cons]
  by_cases c : p.1 = n
  · rw [if_pos c, decide_eq_true c]
    rfl
  · rw [if_neg c, decide_eq_false c]
section
variable {K : PySem.W.Frag} {H H' : Hp}
theorem Dcv.mono {kvs : List (Key × V)} {there : Rows} (e : Ex H H') (h : Dcv K H kvs there) : Dcv K H' kvs there := ⟨h.1, fun i n r hi => by
  obtain ⟨p, a, b⟩ := h.2 i n r hi
  exact ⟨p, a, ex_l e b⟩⟩
theorem Dc.mono {d : Addr} {there : Rows} (e : Ex H H') (h : Dc K H d there) : Dc K H' d there := by
  obtain ⟨kvs, a, b⟩ := h
  exact ⟨kvs, e _ _ a, b.mono e⟩
theorem Dcv.tail {k : Key × V} {kvs : List (Key × V)} {t : Int × List Int} {there : Rows} (h : Dcv K H (k :: kvs) (t :: there)) : Dcv K H kvs there := ⟨Nat.succ.inj h.1, fun i n r hi => h.2 (i + 1) n r hi⟩
theorem Dcv.none : ∀ {kvs : List (Key × V)} {there : Rows} {n : Int}, Dcv K H kvs there → rowOf there n = none → valV kvs (Sum.inl n) = Option.none
  | [], [], _, _, _ => rfl
  | [], _ :: _, _, h, _ => by cases h.1
  | _ :: _, [], _, h, _ => by cases h.1
  | k :: kvs, t :: there, n, h, hn => by
    obtain ⟨p, e, _⟩ := h.2 0 t.1 t.2 rfl
    have ek : k = (Sum.inl t.1, V.ref p) := Option.some.inj e
    rw [rowOf_cons] at hn
    by_cases c : t.1 = n
    · rw [if_pos c] at hn
      cases hn
    · rw [if_neg c] at hn
      rw [valV_neg (by rw [ek]; intro z; exact c (Sum.inl.inj z))]
      exact Dcv.none h.tail hn
theorem Dcv.some : ∀ {kvs : List (Key × V)} {there : Rows} {n : Int} {r : List Int}, Dcv K H kvs there → rowOf there n = some r → ∃ p, valV kvs (Sum.inl n) = some (V.ref p) ∧ SqL K H p (r.map V.int)
  | [], [], _, _, _, h => by cases h
  | [], _ :: _, _, _, h, _ => by cases h.1
  | _ :: _, [], _, _, h, _ => by cases h.1
  | k :: kvs, t :: there, n, r, h, hn => by
    obtain ⟨p, e, s⟩ := h.2 0 t.1 t.2 rfl
    have ek : k = (Sum.inl t.1, V.ref p) := Option.some.inj e
    rw [rowOf_cons] at hn
    by_cases c : t.1 = n
    · rw [if_pos c] at hn
      have er : t.2 = r := Option.some.inj hn
      rw [valV_pos (by rw [ek, c]), ek]
      exact ⟨p, rfl, by rw [← er]; exact s⟩
    · rw [if_neg c] at hn
      rw [valV_neg (by rw [ek]; intro z; exact c (Sum.inl.inj z))]
      exact Dcv.some h.tail hn
theorem Dcv.keys : ∀ {kvs : List (Key × V)} {there : Rows}, Dcv K H kvs there → kvs.map (·.1) = (there.map (·.1)).map Sum.inl
  | [], [], _ => rfl
  | [], _ :: _, h => by cases h.1
  | _ :: _, [], h => by cases h.1
  | k :: kvs, t :: there, h => by
    obtain ⟨p, e, s⟩ := h.2 0 t.1 t.2 rfl
    have ek : k = (Sum.inl t.1, V.ref p) := Option.some.inj e
    rw [List.map_cons, List.map_cons, List.map_cons, Dcv.keys h.tail, ek]
theorem Dc.none {d : Addr} {there : Rows} {n : Int} (h : Dc K H d there) (hn : rowOf there n = none) : DGet H d (.int n) Option.none := by
  obtain ⟨kvs, a, b⟩ := h
  have g := DGet.k (k := Sum.inl n) a
  rw [b.none hn] at g
  exact g
theorem Dc.some {d : Addr} {there : Rows} {n : Int} {r : List Int} (h : Dc K H d there) (hn : rowOf there n = some r) : ∃ p, DGet H d (.int n) (some (.ref p)) ∧ SqL K H p (r.map V.int) := by
  obtain ⟨kvs, a, b⟩ := h
  obtain ⟨p, e, s⟩ := b.some hn
  have g := DGet.k (k := Sum.inl n) a
  rw [e] at g
  exact ⟨p, g, s⟩
end
theorem dget_ex {H H' : Hp} {a : Addr} {y : V} {o : Option V} (e : Ex H H') (h : DGet H a y o) : DGet H' a y o := by
  rcases h with ⟨kvs, k, r, e1, e2⟩ | ⟨kvs, k, b, r, e1, e2, e3⟩
  · exact .inl ⟨kvs, k, ex_rd e r, e1, e2⟩
  · exact .inr ⟨kvs, k, b, ex_rd e r, e1, e _ _ e2, e3⟩
section
variable {K : PySem.W.Frag} {σ : L2.St} {H H' : Hp} {ta tb te tx tl : TE} {t u : TT} {x y z v : V} {r : R2} {D : Ends} {tu tw tz ts : TS} {g : TG} {P P' : V → Hp → Prop}
theorem ev_dget {d : Addr} (ha : Ev ta σ H (.ref d)) (hb : Ev tb σ H y) (h : DGet H d y (some v)) : Ev (tDGet ta tb) σ H v := fun H1 e Q q =>
  ha H1 e _ fun H2 e2 => hb H2 (e.trans e2) _ fun H3 e3 => ⟨d, v, rfl, dget_ex ((e.trans e2).trans e3) h, q H3 (e2.trans e3)⟩
theorem ev_din {d : Addr} {o : Option V} (hb : Ev tb σ H y) (ha : Ev ta σ H (.ref d)) (h : DGet H d y o) : Ev (tDIn tb ta) σ H (.bl o.isSome) := fun H1 e Q q =>
  hb H1 e _ fun H2 e2 => ha H2 (e.trans e2) _ fun H3 e3 => ⟨d, o, rfl, dget_ex ((e.trans e2).trans e3) h, q H3 (e2.trans e3)⟩
theorem ev_dnotin {d : Addr} {o : Option V} (hb : Ev tb σ H y) (ha : Ev ta σ H (.ref d)) (h : DGet H d y o) : Ev (tDNotIn tb ta) σ H (.bl (!o.isSome)) := fun H1 e Q q =>
  hb H1 e _ fun H2 e2 => ha H2 (e.trans e2) _ fun H3 e3 => ⟨d, o, rfl, dget_ex ((e.trans e2).trans e3) h, q H3 (e2.trans e3)⟩
def rLenD : List V → Hp → VK → Prop := fun xs H Q => ∃ a kvs, xs = [V.ref a] ∧ H a = some (.dK kvs) ∧ Q (.int kvs.length) H
theorem c_lenD {X : Cx} : CallR X (.builtin "len") rLenD := call_lenD
theorem ev_lenDc {d : Addr} {there : Rows} (ha : Ev ta σ H (.ref d)) (h : Dc K H d there) : Ev (tCB rLenD (tCons ta tNil)) σ H (.int (there.length : Int)) := fun H1 e Q q =>
  ha H1 e _ fun H2 e2 => by
    obtain ⟨kvs, a, b⟩ := h.mono (e.trans e2)
    refine ⟨d, kvs, rfl, a, ?_⟩
    rw [b.1]
    exact q H2 e2
/-- [e for x in t], t a tuple, e an int -/
theorem el_lcT {a : Addr} {xs : List V} {j : Nat} {vs : List Nat} (f : Nat → Int) (h : Ev tl σ H (.ref a)) (hx : SqT K H a xs) (hz : xs.length ≤ 40000) (hw : ∀ x, wipe ((wipe σ vs).set j (some x)) vs = wipe σ vs)
    (he : ∀ (i : Nat) (x : V), xs[i]? = some x → Ev te ((wipe σ vs).set j (some x)) H (.int (f i))) : EvL (tLc (iTup K tl) (gName j) tYes te vs) σ H (((List.range xs.length).map f).map V.int) := fun H0 e Q q => h H0 e _ fun H1 e1 => ⟨a, rfl, ⟨xs, ex_t (e.trans e1) hx⟩, fun Dl hD =>
  lc_tup (K := K) (a := a) (xs := xs) (fun i H' => Ex H1 H' ∧ H' Dl = some (.lst (((List.range i).map f).map V.int))) ⟨Ex.new hD, upd_same⟩ (fun i H' _ p => ex_t ((e.trans e1).trans p.1) hx)
    (fun i x H' hi p => ⟨hw x, by
      have hl := (List.getElem?_eq_some_iff.mp hi).1
      show te ((wipe σ vs).set j (some x)) H' _
      refine he i x hi H' ((e.trans e1).trans p.1) _ fun H4 e4 => ⟨_, e4 _ _ p.2, sz_lt (by rw [List.length_map, List.length_map, List.length_range]; omega), Ex.mut (p.1.trans e4) hD, ?_⟩
      rw [upd_same, List.range_succ, List.map_append, List.map_append]
      rfl⟩)
    (fun H' p => q Dl H' (fresh_back e1 hD) (e1.trans p.1) p.2)⟩
theorem el_rg {n : Int} (h : Ev te σ H (.int n)) (h0 : 0 ≤ n) (h1 : n ≤ 10000) : EvL (tLstRg (tRg1 te)) σ H (((List.range n.toNat).map fun i : Nat => (i : Int)).map V.int) := fun H1 e Q q =>
  h H1 e _ fun H2 e2 => ⟨n, rfl, RgOk.of_le (Int.le_refl _) (by omega) (by omega) h0, fun l hl => q l _ (fresh_back e2 hl) (e2.trans (Ex.new hl)) (by
    rw [upd_same]
    unfold rgV
    rw [Int.sub_zero, List.map_map]
    congr 2
    refine List.map_congr_left fun i _ => ?_
    show V.int (0 + (i : Int)) = V.int (i : Int)
    rw [Int.zero_add])⟩
theorem seq_ix {i : Int} {n : Nat} (h0 : 0 ≤ i) (h1 : i < n) : seqIndex? i n = some i.toNat := by
  unfold seqIndex?
  simp only [if_neg (show ¬ i < 0 by omega)]
  rw [if_pos]
  simp only [Bool.and_eq_true, decide_eq_true_eq]
  exact ⟨h0, h1⟩
/-- l.append(m.pop(i)) -/
theorem sv_appPop {l m : Addr} {xs ys : List V} {i : Int} {tm : TE} (hl : H l = some (.lst xs)) (hm : H m = some (.lst ys)) (hlm : l ≠ m) (h1 : Ev ta σ H (.ref l)) (h2 : Ev tm σ H (.ref m)) (hi : Ev te σ H (.int i)) (h0 : 0 ≤ i) (hn : i < ys.length) (hy : ys[i.toNat]? = some y) (hz : xs.length < 10000) (hz2 : ys.length < 10000)
    (k : ∀ H2, (∀ a o, a ≠ l → a ≠ m → H a = some o → H2 a = some o) → H2 l = some (.lst (xs ++ [y])) → H2 m = some (.lst (ys.eraseIdx i.toNat)) → Sv tz D σ H2) :
    Sv (tSeq (tDrop (tBM K "list" rAppend ta (tCons (tBM K "list" rPopAt tm (tCons te tNil)) tNil))) tz) D σ H := fun H1 e =>
  h1 H1 e _ fun H2 e2 => ⟨Or.inl ⟨rfl, xs, sq_of (e2 _ _ (e _ _ hl))⟩, h2 H2 (e.trans e2) _ fun H3 e3 => ⟨Or.inl ⟨rfl, ys, sq_of (((e.trans e2).trans e3) _ _ hm)⟩, hi H3 ((e.trans e2).trans e3) _ fun H4 e4 =>
    ⟨m, ys, i, i.toNat, y, rfl, rfl, (((e.trans e2).trans e3).trans e4) _ _ hm, by omega, by omega, seq_ix h0 hn, hy, l, xs, y, rfl, rfl, by
      rw [upd_ne hlm]
      exact (((e.trans e2).trans e3).trans e4) _ _ hl, sz_lt (by omega), k _ (fun a o n1 n2 ha => by
        rw [upd_ne n1, upd_ne n2]
        exact (((e.trans e2).trans e3).trans e4) _ _ ha) upd_same (by rw [upd_ne hlm.symm, upd_same]) _ (Ex.refl _)⟩⟩⟩
end
theorem map_erase (f : Int → V) : ∀ (l : List Int) (i : Nat), (l.map f).eraseIdx i = (l.eraseIdx i).map f
  | [], _ => rfl
  | _ :: _, 0 => rfl
  | x :: l, i + 1 => by
    show f x :: (l.map f).eraseIdx i = f x :: (l.eraseIdx i).map f
    rw [map_erase f l i]
/-! ### the numbers in an order -/
/-- what an order goes by: what stands in its columns, then the number -/
def ent (cols : List Int) (there : Rows) (n : Int) : List Int := cols.map (fun c => ((rowOf there n).getD []).getD c.toNat 0) ++ [n]
/-- ahead: which of two such stands ahead -/
def InOrd (ahead : List Int → List Int → Bool) (cols : List Int) (there : Rows) (ns : List Int) : Prop :=
  ns.length = there.length ∧ (∀ n ∈ ns, ∃ r, rowOf there n = some r) ∧ ∀ (i : Nat) a b, ns[i]? = some a → ns[i + 1]? = some b → ahead (ent cols there a) (ent cols there b) = true
theorem range_get {α β : Type} (d : α) (l : List α) (g : α → β) : (List.range l.length).map (fun i => g (l.getD i d)) = l.map g := by
  refine List.ext_getElem? fun i => ?_
  rw [List.getElem?_map, List.getElem?_map]
  by_cases h : i < l.length
  · rw [List.getElem?_range h, List.getElem?_eq_getElem h]
    show some (g (l.getD i d)) = _
    rw [List.getD_eq_getElem?_getD, List.getElem?_eq_getElem h]
    rfl
  · rw [List.getElem?_eq_none (by rw [List.length_range]; omega), List.getElem?_eq_none (by omega)]
    rfl
theorem el_lcTI {K : PySem.W.Frag} {σ : L2.St} {H : Hp} {tl te : TE} {a : Addr} {cols : List Int} {j : Nat} {vs : List Nat} (g : Int → Int) (h : Ev tl σ H (.ref a)) (hx : SqT K H a (cols.map V.int)) (hz : cols.length ≤ 40000) (hw : ∀ x, wipe ((wipe σ vs).set j (some x)) vs = wipe σ vs)
    (he : ∀ x ∈ cols, Ev te ((wipe σ vs).set j (some (.int x))) H (.int (g x))) : EvL (tLc (iTup K tl) (gName j) tYes te vs) σ H ((cols.map g).map V.int) := by
  have k := el_lcT (K := K) (te := te) (fun i => g (cols.getD i 0)) h hx (by rw [List.length_map]; exact hz) hw fun i x hi => by
    rw [List.getElem?_map] at hi
    cases e : cols[i]? with
    | none =>
      rw [e] at hi
      cases hi
    | some c =>
      rw [e] at hi
      have ex : V.int c = x := Option.some.inj hi
      subst ex
      have eg : cols.getD i 0 = c := by
        rw [List.getD_eq_getElem?_getD, e]
        rfl
      show Ev te _ _ (.int (g (cols.getD i 0)))
      rw [eg]
      exact he c (List.mem_of_getElem? e)
  rw [List.length_map, range_get 0 cols g] at k
  exact k
end Wy

set_option Elab.async false
set_option linter.all false
set_option maxRecDepth 100000
set_option maxHeartbeats 4000000
/-! Wr: regions: what an object owns, what stands besides. -/
namespace Wy
open PySem PySem.Spec PyProof.Rows L2 Evl
abbrev Reg := Addr → Prop
def Tupo (o : HO) : Prop := ∃ xs, o = .tup xs
/-- what is not in F, and every tuple, stands as it stood; nothing that was known is unknown -/
structure Frm (F : Reg) (H H' : Hp) : Prop where
  keep : ∀ a o, H a = some o → (F a → Tupo o) → H' a = some o
  dm : ∀ a, H a ≠ none → H' a ≠ none
theorem ex_dm {H H' : Hp} (e : Ex H H') : ∀ a, H a ≠ none → H' a ≠ none := fun a h => by
  cases k : H a with
  | none => exact (h k).elim
  | some o =>
    rw [e a o k]
    exact fun z => by cases z
theorem Frm.of {F : Reg} {H H' : Hp} (e : Ex H H') : Frm F H H' := ⟨fun a o h _ => e a o h, ex_dm e⟩
abbrev RP := Reg → Hp → Prop
/-- it leans on its region and on tuples alone; its region is known and holds no tuples -/
structure Regn (T : RP) : Prop where
  loc : ∀ F H H', T F H → (∀ a o, H a = some o → (F a ∨ Tupo o) → H' a = some o) → T F H'
  dom : ∀ F H a, T F H → F a → ∃ o, H a = some o ∧ ¬ Tupo o
theorem Regn.ex {T : RP} (R : Regn T) {F : Reg} {H H' : Hp} (t : T F H) (e : Ex H H') : T F H' := R.loc F H H' t fun a o h _ => e a o h
/-- two regions side by side -/
def Two (T U : RP) : RP := fun F H => ∃ F1 F2 : Reg, T F1 H ∧ U F2 H ∧ (∀ a, F1 a → F2 a → False) ∧ ∀ a, F a ↔ F1 a ∨ F2 a
theorem Regn.two {T U : RP} (R : Regn T) (S : Regn U) : Regn (Two T U) where
  loc := fun F H H' ⟨F1, F2, t, u, d, f⟩ h => ⟨F1, F2, R.loc F1 H H' t fun a o ha z => h a o ha (z.imp (fun z => (f a).mpr (.inl z)) id), S.loc F2 H H' u fun a o ha z => h a o ha (z.imp (fun z => (f a).mpr (.inr z)) id), d, f⟩
  dom := fun F H a ⟨F1, F2, t, u, d, f⟩ z => ((f a).mp z).elim (R.dom F1 H a t) (S.dom F2 H a u)
/-- L: what is known besides the region; F0, B: the region and what was known at first -/
def Wld (T : RP) (F0 B : Reg) (L H : Hp) : Prop := ∃ F : Reg, T F H ∧ Ex L H ∧ (∀ a, F a → L a = none) ∧ (∀ a, B a → H a ≠ none) ∧ ∀ a, F a → F0 a ∨ ¬ B a
section
variable {T T' U : RP} {F0 B : Reg} {L L' H H' N : Hp}
theorem Wld.lx (w : Wld T F0 B L H) : Ex L H := let ⟨_, _, e, _⟩ := w; e
theorem Wld.ext (R : Regn T) (w : Wld T F0 B L H) (e : Ex H H') : Wld T F0 B L H' := by
  obtain ⟨F, t, x, d, b, f⟩ := w
  exact ⟨F, R.ex t e, x.trans e, d, fun a z => ex_dm e a (b a z), f⟩
/-- new objects beside the region -/
theorem Wld.new (R : Regn T) (w : Wld T F0 B L H) (e : Ex H H') (n : ∀ a, N a ≠ none → H a = none) (x : Ex N H') : Wld T F0 B (Unn N L) H' := by
  obtain ⟨F, t, x1, d, b, f⟩ := w
  refine ⟨F, R.ex t e, unn_ex (x1.trans e) x, fun a z => ?_, fun a z => ex_dm e a (b a z), f⟩
  obtain ⟨o, ho, _⟩ := R.dom F H a t z
  cases k : Unn N L a with
  | none => rfl
  | some u =>
    rcases unn_none (a := a) (N := N) (H := L) (by rw [k]; exact fun z => by cases z) with q | q
    · exact (q (d a z)).elim
    · rw [n a q] at ho
      cases ho
/-- less is known -/
theorem Wld.weak (w : Wld T F0 B L H) (e : Ex L' L) : Wld T F0 B L' H := by
  obtain ⟨F, t, x, d, b, f⟩ := w
  exact ⟨F, t, e.trans x, fun a z => fresh_back e (d a z), b, f⟩
/-- an own object changed -/
theorem Wld.put (R : Regn T) (w : Wld T F0 B L H) {p : Addr} {o o' : HO} (l : L p = some o) (nt : ¬ Tupo o) : Wld T F0 B (upd L p o') (upd H p o') := by
  obtain ⟨F, t, x, d, b, f⟩ := w
  have np : ∀ a, F a → a ≠ p := fun a z q => by
    have := d a z
    rw [q, l] at this
    cases this
  refine ⟨F, R.loc F H _ t fun a u h z => ?_, fun a u h => ?_, fun a z => ?_, fun a z => ?_, f⟩
  · have : a ≠ p := fun q => by
      rcases z with z | ⟨xs, z⟩
      · exact np a z q
      · rw [q, x _ _ l] at h
        exact nt ⟨xs, by rw [← z]; exact Option.some.inj h⟩
    rw [upd_ne this]
    exact h
  · by_cases q : a = p
    · subst q
      rw [upd_same] at h ⊢
      exact h
    · rw [upd_ne q] at h ⊢
      exact x _ _ h
  · rw [upd_ne (np a z)]
    exact d a z
  · by_cases q : a = p
    · rw [q, upd_same]
      exact fun z => by cases z
    · rw [upd_ne q]
      exact b a z
end
/-! ### promises over a region -/
def SpW (n : Nat) (R : List V → Hp → Reg → RP → (V → Hp → Prop) → Prop) : Sp := fun vs H Q _ => vs.length = n ∧ ∃ (F : Reg) (T' : RP) (P : V → Hp → Prop), R vs H F T' P ∧
  ∀ (v : V) (N H' : Hp) (F' : Reg), Frm F H H' → T' F' H' → (∀ a, F' a → F a ∨ H a = none) → (∀ a, N a ≠ none → H a = none ∧ ¬ F' a) → Ex N H' → P v N → Q v H'
/-- the same for whoever calls: the region T becomes T', the value and its new objects are as P says -/
def SpWP (sp : Sp) (vs : List V) (T T' : RP) (F0 B : Reg) (L : Hp) (P : V → Hp → Prop) : Prop := ∀ H, Wld T F0 B L H → ∀ Q : VK, (∀ v N H', (∀ a, N a ≠ none → L a = none ∧ ¬ B a) → P v N → Wld T' F0 B (Unn N L) H' → Q v H') → ∀ E : XK, sp vs H Q E
section
variable {T T' U : RP} {F0 B : Reg} {L L' H H' N : Hp} {n : Nat} {R : List V → Hp → Reg → RP → (V → Hp → Prop) → Prop} {vs : List V} {P : V → Hp → Prop}
theorem spw (hl : vs.length = n) (h : ∀ H F, T F H → Ex L H → (∀ a, F a → L a = none) → R vs H F T' P) : SpWP (SpW n R) vs T T' F0 B L P := fun H ⟨F, t, x, d, b, f⟩ Q q E =>
  ⟨hl, F, T', P, h H F t x d, fun v N H' F' fr t' gr dN eN p => q v N H' (fun a z => ⟨fresh_back x (dN a z).1, fun y => b a y (dN a z).1⟩) p ⟨F', t', unn_ex (fun a o ha => fr.keep a o (x a o ha) fun fa => by rw [d a fa] at ha; cases ha) eN, fun a fa => by
    cases k : Unn N L a with
    | none => rfl
    | some u =>
      rcases unn_none (a := a) (N := N) (H := L) (by rw [k]; exact fun z => by cases z) with y | y
      · rcases gr a fa with z | z
        · exact (y (d a z)).elim
        · exact (y (fresh_back x z)).elim
      · exact ((dN a y).2 fa).elim, fun a z => fr.dm a (b a z), fun a fa => by
      rcases gr a fa with z | z
      · exact f a z
      · exact .inr fun y => b a y z⟩⟩
/-- where another region stands beside -/
theorem spw_l (S : Regn T) (SU : Regn U) (hl : vs.length = n) (h : ∀ H F, T F H → Ex L H → (∀ a, F a → L a = none) → R vs H F T' P) : SpWP (SpW n R) vs (Two T U) (Two T' U) F0 B L P := fun H ⟨F, ⟨F1, F2, t, u, dd, ff⟩, x, d, b, f⟩ Q q E =>
  ⟨hl, F1, T', P, h H F1 t x (fun a z => d a ((ff a).mpr (.inl z))), fun v N H' F' fr t' gr dN eN p => by
    have u' : U F2 H' := SU.loc F2 H H' u fun a o ha z => fr.keep a o ha fun f1 => z.elim (fun f2 => (dd a f1 f2).elim) id
    have nF : ∀ a, F2 a → ¬ F' a := fun a f2 fa => by
      rcases gr a fa with z | z
      · exact dd a z f2
      · obtain ⟨o, ho, _⟩ := SU.dom F2 H a u f2
        rw [z] at ho
        cases ho
    refine q v N H' (fun a z => ⟨fresh_back x (dN a z).1, fun y => b a y (dN a z).1⟩) p ⟨fun a => F' a ∨ F2 a, ⟨F', F2, t', u', fun a y z => nF a z y, fun a => Iff.rfl⟩, unn_ex (fun a o ha => fr.keep a o (x a o ha) fun fa => by rw [d a ((ff a).mpr (.inl fa))] at ha; cases ha) eN, fun a fa => ?_, fun a z => fr.dm a (b a z), fun a fa => ?_⟩
    · cases k : Unn N L a with
      | none => rfl
      | some uu =>
        rcases unn_none (a := a) (N := N) (H := L) (by rw [k]; exact fun z => by cases z) with y | y
        · rcases fa with fa | fa
          · rcases gr a fa with z | z
            · exact (y (d a ((ff a).mpr (.inl z)))).elim
            · exact (y (fresh_back x z)).elim
          · exact (y (d a ((ff a).mpr (.inr fa)))).elim
        · rcases fa with fa | fa
          · exact ((dN a y).2 fa).elim
          · obtain ⟨o, ho, _⟩ := SU.dom F2 H a u fa
            rw [(dN a y).1] at ho
            cases ho
    · rcases fa with fa | fa
      · rcases gr a fa with z | z
        · exact f a ((ff a).mpr (.inl z))
        · exact .inr fun y => b a y z
      · exact f a ((ff a).mpr (.inr fa))⟩
theorem two_swap {F : Reg} (h : Two T U F H) : Two U T F H := let ⟨F1, F2, t, u, d, f⟩ := h; ⟨F2, F1, u, t, fun a x y => d a y x, fun a => (f a).trans or_comm⟩
theorem Wld.imp (w : Wld T F0 B L H) (i : ∀ F, T F H → T' F H) : Wld T' F0 B L H := let ⟨F, t, r⟩ := w; ⟨F, i F t, r⟩
theorem spw_r (S : Regn T) (SU : Regn U) (hl : vs.length = n) (h : ∀ H F, T F H → Ex L H → (∀ a, F a → L a = none) → R vs H F T' P) : SpWP (SpW n R) vs (Two U T) (Two U T') F0 B L P := fun H w Q q E =>
  spw_l S SU hl h H (w.imp fun F t => two_swap t) Q (fun v N H' d p w' => q v N H' d p (w'.imp fun F t => two_swap t)) E
end
/-! ### statements over a region -/
def SvW (ts : TS) (D : Ends) (σ : L2.St) (T : RP) (F0 B : Reg) (L : Hp) : Prop := ∀ H, Wld T F0 B L H → ts D σ H
def EvW (te : TE) (σ : L2.St) (T T' : RP) (F0 B : Reg) (L : Hp) (P : V → Hp → Prop) : Prop := ∀ H, Wld T F0 B L H → ∀ Q : VK, (∀ v N H', (∀ a, N a ≠ none → L a = none ∧ ¬ B a) → P v N → Wld T' F0 B (Unn N L) H' → Q v H') → te σ H Q
def EtW (tt : TT) (σ : L2.St) (T T' : RP) (F0 B : Reg) (L : Hp) (b : Bool) : Prop := ∀ H, Wld T F0 B L H → ∀ Q : Bool → Hp → Prop, (∀ N H', (∀ a, N a ≠ none → L a = none ∧ ¬ B a) → Wld T' F0 B (Unn N L) H' → Q b H') → tt σ H Q
section
variable {T T' T'' U : RP} {F0 B : Reg} {L L' H H' N : Hp} {K : PySem.W.Frag} {σ : L2.St} {ta tb te tl : TE} {t u : TT} {x y z v : V} {r : R2} {D : Ends} {tu tw tz ts : TS} {P P' : V → Hp → Prop}
theorem SvW.weak (h : SvW ts D σ T F0 B L') (e : Ex L' L) : SvW ts D σ T F0 B L := fun H w => h H (w.weak e)
theorem vw_asg {i : Nat} (R : Regn T) (h : Ev te σ L v) (k : SvW tz D (σ.set i (some v)) T F0 B L) : SvW (tSeq (tAsg te (gName i)) tz) D σ T F0 B L := fun H w => h H w.lx _ fun H2 e => k H2 (w.ext R e)
theorem vw_asg' {i : Nat} (R : Regn T) (h : Ev te σ L v) (k : SvW tNext D (σ.set i (some v)) T F0 B L) : SvW (tAsg te (gName i)) D σ T F0 B L := fun H w => h H w.lx _ fun H2 e => k H2 (w.ext R e)
theorem vw_asgN {i : Nat} (R : Regn T) (h : EvN te σ L P) (k : ∀ v N, (∀ a, N a ≠ none → L a = none ∧ ¬ B a) → P v N → SvW tz D (σ.set i (some v)) T F0 B (Unn N L)) : SvW (tSeq (tAsg te (gName i)) tz) D σ T F0 B L := fun H w =>
  h H w.lx _ fun v N H2 d p a b => k v N (fun x z => ⟨fresh_back w.lx (d x z), fun y => let ⟨_, _, _, _, bb, _⟩ := w; bb x y (d x z)⟩) p H2 (w.new R b d a)
theorem vw_asgN' {i : Nat} (R : Regn T) (h : EvN te σ L P) (k : ∀ v N, (∀ a, N a ≠ none → L a = none ∧ ¬ B a) → P v N → SvW tNext D (σ.set i (some v)) T F0 B (Unn N L)) : SvW (tAsg te (gName i)) D σ T F0 B L := fun H w =>
  h H w.lx _ fun v N H2 d p a b => k v N (fun x z => ⟨fresh_back w.lx (d x z), fun y => let ⟨_, _, _, _, bb, _⟩ := w; bb x y (d x z)⟩) p H2 (w.new R b d a)
theorem vw_asgW {i : Nat} (h : EvW te σ T T' F0 B L P) (k : ∀ v N, (∀ a, N a ≠ none → L a = none ∧ ¬ B a) → P v N → SvW tz D (σ.set i (some v)) T' F0 B (Unn N L)) : SvW (tSeq (tAsg te (gName i)) tz) D σ T F0 B L := fun H w =>
  h H w _ fun v N H2 d p w' => k v N d p H2 w'
theorem vw_asgW' {i : Nat} (h : EvW te σ T T' F0 B L P) (k : ∀ v N, (∀ a, N a ≠ none → L a = none ∧ ¬ B a) → P v N → SvW tNext D (σ.set i (some v)) T' F0 B (Unn N L)) : SvW (tAsg te (gName i)) D σ T F0 B L := fun H w =>
  h H w _ fun v N H2 d p w' => k v N d p H2 w'
theorem vw_drop (h : EvW te σ T T' F0 B L P) (k : ∀ v N, (∀ a, N a ≠ none → L a = none ∧ ¬ B a) → P v N → SvW tz D σ T' F0 B (Unn N L)) : SvW (tSeq (tDrop te) tz) D σ T F0 B L := fun H w => h H w _ fun v N H2 d p w' => k v N d p H2 w'
theorem vw_drop' (h : EvW te σ T T' F0 B L P) (k : ∀ v N, (∀ a, N a ≠ none → L a = none ∧ ¬ B a) → P v N → SvW tNext D σ T' F0 B (Unn N L)) : SvW (tDrop te) D σ T F0 B L := fun H w => h H w _ fun v N H2 d p w' => k v N d p H2 w'
theorem vw_retW (h : EvW te σ T T' F0 B L P) (k : ∀ v N H', (∀ a, N a ≠ none → L a = none ∧ ¬ B a) → P v N → Wld T' F0 B (Unn N L) H' → D.rt v H') : SvW (tRet te) D σ T F0 B L := fun H w => h H w _ fun v N H2 d p w' => k v N H2 d p w'
theorem vw_ret (R : Regn T) (h : Ev te σ L v) (k : ∀ H, Wld T F0 B L H → D.rt v H) : SvW (tRet te) D σ T F0 B L := fun H w => h H w.lx _ fun H2 e => k H2 (w.ext R e)
theorem vw_if {p : Prop} [Decidable p] (R : Regn T) (h : EvT t σ L (decide p)) (h1 : p → SvW tu { D with nx := tz D } σ T F0 B L) (h2 : ¬ p → SvW tw { D with nx := tz D } σ T F0 B L) : SvW (tSeq (tIfS t tu tw) tz) D σ T F0 B L := fun H w => h H w.lx _ fun H2 e => by
  by_cases q : p
  · rw [decide_eq_true q]
    exact h1 q H2 (w.ext R e)
  · rw [decide_eq_false q]
    exact h2 q H2 (w.ext R e)
theorem vw_when {p : Prop} [Decidable p] (R : Regn T) (h : EvT t σ L (decide p)) (h1 : p → SvW tu { D with nx := tz D } σ T F0 B L) (h2 : ¬ p → SvW tz D σ T F0 B L) : SvW (tSeq (tIfS t tu tNext) tz) D σ T F0 B L := vw_if R h h1 h2
theorem vw_if' {p : Prop} [Decidable p] (R : Regn T) (h : EvT t σ L (decide p)) (h1 : p → SvW tu D σ T F0 B L) (h2 : ¬ p → SvW tw D σ T F0 B L) : SvW (tIfS t tu tw) D σ T F0 B L := fun H w => h H w.lx _ fun H2 e => by
  by_cases q : p
  · rw [decide_eq_true q]
    exact h1 q H2 (w.ext R e)
  · rw [decide_eq_false q]
    exact h2 q H2 (w.ext R e)
theorem vw_ifset {p : Prop} [Decidable p] {i : Nat} {v w : V} (R : Regn T) (h : EvT t σ L (decide p)) (h1 : p → Ev te σ L v) (h2 : ¬ p → σ.set i (some w) = σ) (k : SvW tz D (σ.set i (some (if p then v else w))) T F0 B L) :
    SvW (tSeq (tIfS t (tAsg te (gName i)) tNext) tz) D σ T F0 B L := fun H ww => h H ww.lx _ fun H2 e2 => by
  by_cases q : p
  · rw [decide_eq_true q]
    rw [if_pos q] at k
    exact h1 q H2 (ww.ext R e2).lx _ fun H3 e3 => k H3 ((ww.ext R e2).ext R e3)
  · rw [decide_eq_false q]
    rw [if_neg q, h2 q] at k
    exact k H2 (ww.ext R e2)
/-- a test that changes the region -/
theorem vw_ifW' {b : Bool} (h : EtW t σ T T' F0 B L b) (h1 : ∀ N, (∀ a, N a ≠ none → L a = none ∧ ¬ B a) → b = true → SvW tu D σ T' F0 B (Unn N L)) (h2 : ∀ N, (∀ a, N a ≠ none → L a = none ∧ ¬ B a) → b = false → SvW tw D σ T' F0 B (Unn N L)) : SvW (tIfS t tu tw) D σ T F0 B L := fun H w => h H w _ fun N H2 d w' => by
  cases b with
  | true => exact h1 N d rfl H2 w'
  | false => exact h2 N d rfl H2 w'
theorem vw_ifW {b : Bool} (h : EtW t σ T T' F0 B L b) (h1 : ∀ N, (∀ a, N a ≠ none → L a = none ∧ ¬ B a) → b = true → SvW tu { D with nx := tz D } σ T' F0 B (Unn N L)) (h2 : ∀ N, (∀ a, N a ≠ none → L a = none ∧ ¬ B a) → b = false → SvW tw { D with nx := tz D } σ T' F0 B (Unn N L)) : SvW (tSeq (tIfS t tu tw) tz) D σ T F0 B L := fun H w => h H w _ fun N H2 d w' => by
  cases b with
  | true => exact h1 N d rfl H2 w'
  | false => exact h2 N d rfl H2 w'
theorem etw_val {b : Bool} (h : EvW te σ T T' F0 B L fun v _ => v = .bl b) : EtW (tB te) σ T T' F0 B L b := fun H w Q q => h H w _ fun v N H2 d p w' => ⟨b, p, q N H2 d w'⟩
theorem etw_not {b : Bool} (h : EtW t σ T T' F0 B L b) : EtW (tNot t) σ T T' F0 B L (!b) := fun H w Q q => h H w _ fun N H2 d w' => q N H2 d w'
theorem ew_cl {sp : Sp} {E : XK} {ta : TA} {vs : List V} (R : Regn T) (h : EvA ta σ L vs) (hs : SpWP sp vs T T' F0 B L P) : EvW (tCall sp [] E ta) σ T T' F0 B L P := fun H w Q q => h H w.lx _ fun H2 e => by
  rw [List.append_nil]
  exact hs H2 (w.ext R e) Q q E
theorem ew_of (R : Regn T) (h : Ev te σ L v) : EvW te σ T T F0 B L fun v' N => v' = v := fun H w Q q => h H w.lx Q fun H2 e => q v nonew H2 (fun a z => (z rfl).elim) rfl ((w.ext R e).weak (fun a o h => by
  have g : (match L a with | some o => some o | none => nonew a) = some o := h
  cases k : L a with
  | some u =>
    rw [k] at g
    exact g
  | none =>
    rw [k] at g
    cases g))
theorem EvW.imp (h : EvW te σ T T' F0 B L P) (i : ∀ v N, P v N → P' v N) : EvW te σ T T' F0 B L P' := fun H w Q q => h H w Q fun v N H2 d p w' => q v N H2 d (i v N p) w'
/-- a method of an object in the region -/
theorem ew_mt {C : Addr} {m : Str} {sp : Sp} {E : XK} {a : Addr} {t : TA} {vs : List V} (R : Regn T) (h : Ev ta σ L (.ref a)) (hi : ∀ H, Wld T F0 B L H → ∃ dx fs, H a = some (.ins C dx fs) ∧ fs.lookup m = none) (ht : EvA t σ L vs) (hs : SpWP sp (.ref a :: vs) T T' F0 B L P) : EvW (tMeth C m sp [] E ta t) σ T T' F0 B L P := fun H w Q q =>
  h H w.lx _ fun H2 e => by
    obtain ⟨dx, fs, h1, h2⟩ := hi H2 (w.ext R e)
    refine ⟨a, dx, fs, rfl, h1, h2, ht H2 (w.ext R e).lx _ fun H3 e3 => ?_⟩
    rw [List.append_nil]
    exact hs H3 ((w.ext R e).ext R e3) Q q E
theorem vw_next (k : ∀ H, Wld T F0 B L H → D.nx σ H) : SvW tNext D σ T F0 B L := k
/-- what holds over a region, whatever stands besides -/
def KnW (F0 B : Reg) (I : L2.St → RP → Hp → Prop) : L2.St → Hp → Prop := fun σ H => ∃ T L, I σ T L ∧ Wld T F0 B L H
theorem vw_kn {rt : VK} {bk ct : L2.St → Hp → Prop} {I : L2.St → RP → Hp → Prop} (h : I σ T L) : SvW tNext { nx := KnW F0 B I, rt := rt, bk := bk, ct := ct } σ T F0 B L := fun H w => ⟨T, L, h, w⟩
theorem vw_cut (I : L2.St → RP → Hp → Prop) (h : SvW tu { D with nx := KnW F0 B I } σ T F0 B L) (k : ∀ σ' T' L', I σ' T' L' → SvW tz D σ' T' F0 B L') : SvW (tCut tu tz) D σ T F0 B L := fun H w => ⟨KnW F0 B I, h H w, fun σ' H3 ⟨T', L', m, w'⟩ => k σ' T' L' m H3 w'⟩
theorem vw_forR1 {ta : TA} {j : Nat} {n : Int} (R : Regn T) (h : EvA ta σ L [.int n]) (hn : -100000 ≤ n ∧ n ≤ 100000) (I : Nat → L2.St → RP → Hp → Prop) (h0 : I 0 σ T L)
    (hs : ∀ (i : Nat) σ' T' L', (i : Int) < n → I i σ' T' L' → SvW tu { D with nx := KnW F0 B (I (i + 1)), ct := KnW F0 B (I (i + 1)), bk := tz D } (σ'.set j (some (.int (i : Int)))) T' F0 B L') (hd : ∀ σ' T' L', I n.toNat σ' T' L' → SvW tz D σ' T' F0 B L') : SvW (tSeq (tFor (iRng1 ta) (gName j) tu) tz) D σ T F0 B L :=
  fun H w => h H w.lx _ fun H2 e2 => ⟨n, rfl, by omega, by omega, for_range (D := { D with nx := tz D }) (lo := 0) (n := n.toNat) (fun i => KnW F0 B (I i)) ⟨T, L, h0, w.ext R e2⟩ (fun i σ' H3 hi ⟨T', L', p, w'⟩ => by
    have e0 : (0 : Int) + (i : Int) = (i : Int) := Int.zero_add _
    show tu { D with nx := KnW F0 B (I (i + 1)), ct := KnW F0 B (I (i + 1)), bk := tz D } (σ'.set j (some (.int ((0 : Int) + (i : Int))))) H3
    rw [e0]
    exact hs i σ' T' L' (by omega) p H3 w') (fun σ' H3 ⟨T', L', p, w'⟩ => hd σ' T' L' p H3 w')⟩
theorem vw_forL {a : Addr} {xs : List V} {j : Nat} (R : Regn T) (h : Ev tl σ L (.ref a)) (hx : SqL K L a xs) (I : Nat → L2.St → RP → Hp → Prop) (h0 : I 0 σ T L) (hl : ∀ i σ' T' L', I i σ' T' L' → SqL K L' a xs)
    (hs : ∀ i x σ' T' L', xs[i]? = some x → I i σ' T' L' → SvW tu { D with nx := KnW F0 B (I (i + 1)), ct := KnW F0 B (I (i + 1)), bk := tz D } (σ'.set j (some x)) T' F0 B L') (hd : ∀ σ' T' L', I xs.length σ' T' L' → SvW tz D σ' T' F0 B L') : SvW (tSeq (tFor (iList K tl) (gName j) tu) tz) D σ T F0 B L :=
  fun H w => h H w.lx _ fun H2 e2 => ⟨a, rfl, ⟨xs, ex_l (w.lx.trans e2) hx⟩, for_list (D := { D with nx := tz D }) (xs := xs) (fun i => KnW F0 B (I i)) ⟨T, L, h0, w.ext R e2⟩ (fun i σ' H3 _ ⟨T', L', p, w'⟩ => ex_l w'.lx (hl i σ' T' L' p))
    (fun i x σ' H3 hi ⟨T', L', p, w'⟩ => hs i x σ' T' L' hi p H3 w') (fun σ' H3 ⟨T', L', p, w'⟩ => hd σ' T' L' p H3 w')⟩
/-- xs[i] = e of an own list -/
theorem vw_setL {l : Addr} {xs : List V} {i : Int} {j : Nat} {ti : TE} (R : Regn T) (hl : L l = some (.lst xs)) (h : Ev te σ L v) (ho : Ev ta σ L (.ref l)) (hi : Ev ti σ L (.int i)) (hj : ixN xs.length i = some j) (k : SvW tz D σ T F0 B (upd L l (.lst (xs.set j v)))) :
    SvW (tSeq (tAsg te (gSub ta ti rSetL)) tz) D σ T F0 B L := fun H w => h H w.lx _ fun H2 e2 => ho H2 (w.ext R e2).lx _ fun H3 e3 => hi H3 ((w.ext R e2).ext R e3).lx _ fun H4 e4 =>
  have w4 := ((w.ext R e2).ext R e3).ext R e4
  ⟨l, xs, i, j, rfl, rfl, w4.lx _ _ hl, hj, k _ (w4.put R hl (fun ⟨_, z⟩ => by cases z))⟩
/-- xs.append(e) of an own list -/
theorem vw_app {l : Addr} {xs : List V} (R : Regn T) (hl : L l = some (.lst xs)) (ha : Ev ta σ L (.ref l)) (h : Ev te σ L v) (hz : xs.length < 100000) (k : SvW tz D σ T F0 B (upd L l (.lst (xs ++ [v])))) : SvW (tSeq (tDrop (tBM K "list" rAppend ta (tCons te tNil))) tz) D σ T F0 B L := fun H w =>
  ha H w.lx _ fun H2 e2 => ⟨Or.inl ⟨rfl, xs, sq_of ((w.ext R e2).lx _ _ hl)⟩, h H2 (w.ext R e2).lx _ fun H3 e3 =>
    have w3 := (w.ext R e2).ext R e3
    ⟨l, xs, v, rfl, rfl, w3.lx _ _ hl, sz_lt hz, k _ (w3.put R hl (fun ⟨_, z⟩ => by cases z))⟩⟩
/-- d[y] = e of an own dict, its keys ints and texts -/
theorem vw_dput {d : Addr} {kvs : List (Key × V)} {k0 : Key} {ty : TE} (R : Regn T) (hd : L d = some (.dK kvs)) (hv : Ev te σ L v) (ha : Ev ta σ L (.ref d)) (hy : Ev ty σ L (kV k0)) (hz : kvs.length < 10000) (k : SvW tz D σ T F0 B (upd L d (.dK (putK kvs k0 v)))) : SvW (tSeq (sDPut ta ty te) tz) D σ T F0 B L := fun H w =>
  hv H w.lx _ fun H2 e2 => ha H2 (w.ext R e2).lx _ fun H3 e3 => hy H3 ((w.ext R e2).ext R e3).lx _ fun H4 e4 =>
    have w4 := ((w.ext R e2).ext R e3).ext R e4
    ⟨d, _, rfl, DPut.k (w4.lx _ _ hd) (sz_lt (by omega)), k _ (w4.put R hd (fun ⟨_, z⟩ => by cases z))⟩
/-- x = d.pop(y) of an own dict -/
theorem vw_dpop {i : Nat} {d : Addr} {kvs : List (Key × V)} {k0 : Key} {ty : TE} (R : Regn T) (hd : L d = some (.dK kvs)) (ha : Ev ta σ L (.ref d)) (hy : Ev ty σ L (kV k0)) (hv : valV kvs k0 = some v) (k : SvW tz D (σ.set i (some v)) T F0 B (upd L d (.dK (dropK kvs k0)))) : SvW (tSeq (tAsg (tDPop1 ta ty) (gName i)) tz) D σ T F0 B L := fun H w =>
  ha H w.lx _ fun H2 e2 => ⟨d, rfl, .inl ⟨kvs, .inl ((w.ext R e2).lx _ _ hd)⟩, hy H2 (w.ext R e2).lx _ fun H3 e3 =>
    have w3 := (w.ext R e2).ext R e3
    ⟨kvs, k0, v, w3.lx _ _ hd, rfl, hv, k _ (w3.put R hd (fun ⟨_, z⟩ => by cases z))⟩⟩
end
end Wy

namespace Wy
open PySem PySem.Spec PyProof.Rows L2 Evl
/-! ### a region opened, and closed again -/
open Classical in
/-- all but F -/
noncomputable def Out (F : Reg) (H : Hp) : Hp := fun a => if F a then none else H a
theorem out_ex {F : Reg} {H : Hp} : Ex (Out F H) H := fun a o h => by
  unfold Out at h
  split at h
  · cases h
  · exact h
theorem out_no {F : Reg} {H : Hp} {a : Addr} (h : F a) : Out F H a = none := by
  unfold Out
  rw [if_pos h]
theorem out_at {F : Reg} {H : Hp} {a : Addr} (h : ¬ F a) : Out F H a = H a := by
  unfold Out
  rw [if_neg h]
theorem Regn.some {T : RP} (R : Regn T) : Regn T := R
theorem regn_ex {α : Type} {T : α → RP} (R : ∀ x, Regn (T x)) : Regn fun F H => ∃ x, T x F H where
  loc := fun F H H' ⟨x, t⟩ h => ⟨x, (R x).loc F H H' t h⟩
  dom := fun F H a ⟨x, t⟩ z => (R x).dom F H a t z
theorem regn_and {p : Prop} {T : RP} (R : Regn T) : Regn fun F H => p ∧ T F H where
  loc := fun F H H' ⟨x, t⟩ h => ⟨x, R.loc F H H' t h⟩
  dom := fun F H a ⟨x, t⟩ z => R.dom F H a t z
section
variable {T T' U U' : RP} {F F1 F2 F2' F0 B : Reg} {L L' H H' N : Hp} {Q : VK} {v : V} {P : V → Hp → Prop}
theorem open_r (R : Regn T) (S : Regn U) (t : T F1 H) (u : U F2 H) (d : ∀ a, F1 a → F2 a → False) : Wld T F1 (fun a => H a ≠ none) (Out F1 H) H ∧ U F2 (Out F1 H) := by
  refine ⟨⟨F1, t, out_ex, fun a z => out_no z, fun a z => z, fun a z => .inl z⟩, S.loc F2 H _ u fun a o h z => ?_⟩
  have nf : ¬ F1 a := fun f => by
    rcases z with z | z
    · exact d a f z
    · obtain ⟨o', ho, nt⟩ := R.dom F1 H a t f
      rw [h] at ho
      rw [← Option.some.inj ho] at nt
      exact nt z
  rw [out_at nf]
  exact h
theorem close_r (R : Regn T) (S' : Regn U') (t : T F1 H) (ff : ∀ a, F a ↔ F1 a ∨ F2 a)
    (q : ∀ (v : V) (N H' : Hp) (F' : Reg), Frm F H H' → Two T' U' F' H' → (∀ a, F' a → F a ∨ H a = none) → (∀ a, N a ≠ none → H a = none ∧ ¬ F' a) → Ex N H' → P v N → Q v H')
    (w : Wld T' F1 (fun a => H a ≠ none) L' H') (u' : U' F2' L') (g : ∀ a, F2' a → F2 a ∨ H a = none) (keep : ∀ a o, Out F1 H a = some o → (F2 a → Tupo o) → L' a = some o) (nN : ∀ a, N a ≠ none → H a = none ∧ ¬ F2' a) (eN : Ex N L') (p : P v N) : Q v H' := by
  obtain ⟨F1', t', x, d, b, f⟩ := w
  have k2 : ∀ a, F2' a → L' a ≠ none := fun a z => by
    obtain ⟨o, ho, _⟩ := S'.dom F2' L' a u' z
    rw [ho]
    exact fun q => by cases q
  refine q v N H' (fun a => F1' a ∨ F2' a) ⟨fun a o h z => ?_, b⟩ ⟨F1', F2', t', S'.ex u' x, fun a z1 z2 => k2 a z2 (d a z1), fun a => Iff.rfl⟩ (fun a z => ?_) (fun a z => ⟨(nN a z).1, fun y => ?_⟩) (eN.trans x) p
  · have nf : ¬ F1 a := fun f1 => by
      obtain ⟨o', ho, nt⟩ := R.dom F1 H a t f1
      rw [h] at ho
      rw [← Option.some.inj ho] at nt
      exact nt (z ((ff a).mpr (.inl f1)))
    exact x a o (keep a o (by rw [out_at nf]; exact h) fun f2 => z ((ff a).mpr (.inr f2)))
  · rcases z with z | z
    · rcases f a z with y | y
      · exact .inl ((ff a).mpr (.inl y))
      · exact .inr (Classical.not_not.mp y)
    · rcases g a z with y | y
      · exact .inl ((ff a).mpr (.inr y))
      · exact .inr y
  · rcases y with y | y
    · have := d a y
      cases k : N a with
      | none => exact z k
      | some o =>
        rw [eN a o k] at this
        cases this
    · exact (nN a z).2 y
end
/-! ### values read out of the region -/
section
variable {T T' U : RP} {F0 B : Reg} {L L' H H' N : Hp} {K : PySem.W.Frag} {σ : L2.St} {ta tb te tl : TE} {t u : TT} {x y z v : V} {D : Ends} {tu tw tz ts : TS} {P P' : V → Hp → Prop}
theorem unn_no : Ex (Unn nonew L) L := fun a o h => by
  have g : (match L a with | some o => some o | none => nonew a) = some o := h
  cases k : L a with
  | some u =>
    rw [k] at g
    exact g
  | none =>
    rw [k] at g
    cases g
theorem ew_at (R : Regn T) (h : ∀ H, Wld T F0 B L H → Ev te σ H v) : EvW te σ T T F0 B L fun v' _ => v' = v := fun H w Q q => h H w H (Ex.refl H) Q fun H2 e => q v nonew H2 (fun a z => (z rfl).elim) rfl ((w.ext R e).weak unn_no)
theorem et_at (R : Regn T) {b : Bool} (h : ∀ H, Wld T F0 B L H → EvT t σ H b) : EtW t σ T T F0 B L b := fun H w Q q => h H w H (Ex.refl H) Q fun H2 e => q nonew H2 (fun a z => (z rfl).elim) ((w.ext R e).weak unn_no)
/-- a pure test and what stands in the region -/
theorem vw_ifR {p : Prop} [Decidable p] (R : Regn T) (h : ∀ H, Wld T F0 B L H → EvT t σ H (decide p)) (h1 : p → SvW tu { D with nx := tz D } σ T F0 B L) (h2 : ¬ p → SvW tw { D with nx := tz D } σ T F0 B L) : SvW (tSeq (tIfS t tu tw) tz) D σ T F0 B L := fun H w => h H w H (Ex.refl H) _ fun H2 e => by
  by_cases q : p
  · rw [decide_eq_true q]
    exact h1 q H2 (w.ext R e)
  · rw [decide_eq_false q]
    exact h2 q H2 (w.ext R e)
theorem vw_whenR {p : Prop} [Decidable p] (R : Regn T) (h : ∀ H, Wld T F0 B L H → EvT t σ H (decide p)) (h1 : p → SvW tu { D with nx := tz D } σ T F0 B L) (h2 : ¬ p → SvW tz D σ T F0 B L) : SvW (tSeq (tIfS t tu tNext) tz) D σ T F0 B L := vw_ifR R h h1 h2
theorem vw_ifR' {p : Prop} [Decidable p] (R : Regn T) (h : ∀ H, Wld T F0 B L H → EvT t σ H (decide p)) (h1 : p → SvW tu D σ T F0 B L) (h2 : ¬ p → SvW tw D σ T F0 B L) : SvW (tIfS t tu tw) D σ T F0 B L := fun H w => h H w H (Ex.refl H) _ fun H2 e => by
  by_cases q : p
  · rw [decide_eq_true q]
    exact h1 q H2 (w.ext R e)
  · rw [decide_eq_false q]
    exact h2 q H2 (w.ext R e)
end
/-! ### rows by their numbers, a dict and its lists, as a region -/
/-- an entry of the dict and a row -/
def RowIs (F : Reg) (H : Hp) (e : Key × V) (p : Int × List Int) : Prop := e.1 = Sum.inl p.1 ∧ ∃ q : Addr, e.2 = V.ref q ∧ H q = some (.lst (p.2.map V.int)) ∧ F q
def DtR (d : Addr) (s : Rows) : RP := fun F H => ∃ kvs, H d = some (.dK kvs) ∧ Paired (RowIs F H) kvs s ∧ F d ∧ ∀ a, F a → ∃ o, H a = some o ∧ ¬ Tupo o
theorem rowIs_loc {F F' : Reg} {H H' : Hp} {e : Key × V} {p : Int × List Int} (h : RowIs F H e p) (k : ∀ a o, F a → H a = some o → H' a = some o) (kf : ∀ a, F a → F' a) : RowIs F' H' e p := by
  obtain ⟨a, q, b, c, d⟩ := h
  exact ⟨a, q, b, k q _ d c, kf q d⟩
theorem paired_imp {α β : Type} {R R' : α → β → Prop} (h : ∀ a b, R a b → R' a b) : ∀ {l : List α} {m : List β}, Paired R l m → Paired R' l m
  | _, _, .nil => .nil
  | _, _, .cons a b => .cons (h _ _ a) (paired_imp h b)
theorem paired_len {α β : Type} {R : α → β → Prop} : ∀ {l : List α} {m : List β}, Paired R l m → l.length = m.length
  | _, _, .nil => rfl
  | _, _, .cons _ b => congrArg (· + 1) (paired_len b)
theorem paired_snoc {α β : Type} {R : α → β → Prop} {x : α} {y : β} (h : R x y) : ∀ {l : List α} {m : List β}, Paired R l m → Paired R (l ++ [x]) (m ++ [y])
  | _, _, .nil => .cons h .nil
  | _, _, .cons a b => .cons a (paired_snoc h b)
theorem paired_get {α β : Type} {R : α → β → Prop} : ∀ {l : List α} {m : List β} {i : Nat} {y : β}, Paired R l m → m[i]? = some y → ∃ x, l[i]? = some x ∧ R x y
  | _, _, i, y, .nil, h => by cases h
  | x :: _, _ :: _, 0, y, .cons a b, h => ⟨x, rfl, by rw [← Option.some.inj h]; exact a⟩
  | _ :: _, _ :: _, i + 1, y, .cons a b, h => paired_get (i := i) b h
theorem dtR_regn (d : Addr) (s : Rows) : Regn (DtR d s) where
  loc := fun F H H' ⟨kvs, h1, h2, h4, h5⟩ h => ⟨kvs, h d _ h1 (.inl h4), paired_imp (fun e p r => rowIs_loc r (fun a o f ha => h a o ha (.inl f)) fun a z => z) h2, h4, fun a z => by
    obtain ⟨o, a1, a2⟩ := h5 a z
    exact ⟨o, h a o a1 (.inl z), a2⟩⟩
  dom := fun F H a ⟨_, _, _, _, h5⟩ z => h5 a z
theorem DtR.dc {K : PySem.W.Frag} {d : Addr} {s : Rows} {F : Reg} {H : Hp} (h : DtR d s F H) : Dc K H d s := by
  obtain ⟨kvs, h1, h2, _⟩ := h
  refine ⟨kvs, h1, paired_len h2, fun i n r hi => ?_⟩
  obtain ⟨e, he, a, q, b, c, _⟩ := paired_get h2 hi
  refine ⟨q, ?_, sq_of c⟩
  rw [he]
  obtain ⟨e1, e2⟩ := e
  simp only at a b
  rw [a, b]
theorem paired_drop {F : Reg} {H : Hp} (n : Int) : ∀ {kvs : List (Key × V)} {s : Rows}, Paired (RowIs F H) kvs s → Paired (RowIs F H) (dropK kvs (Sum.inl n)) (s.filter fun p => decide (¬ p.1 = n))
  | _, _, .nil => .nil
  | e :: kvs, p :: s, .cons a b => by
    have ih := paired_drop n b
    unfold dropK at ih ⊢
    rw [List.filter_cons, List.filter_cons]
    by_cases c : p.1 = n
    · rw [if_neg (by rw [a.1, c]; simp), if_neg (by rw [c]; simp)]
      exact ih
    · rw [if_pos (by rw [a.1]; simpa using c), if_pos (by simpa using c)]
      exact .cons a ih
theorem put_new {kvs : List (Key × V)} {k : Key} {v : V} (h : valV kvs k = none) : putK kvs k v = kvs ++ [(k, v)] := by
  unfold putK
  rw [valV_any, h]
  exact if_neg (fun z => by cases z)
theorem rowOf_snoc (s : Rows) (n m : Int) (r : List Int) : rowOf (s ++ [(n, r)]) m = match rowOf s m with | some x => some x | none => if n = m then some r else none := by
  induction s with
  | nil =>
    rw [List.nil_append, rowOf_cons]
    rfl
  | cons p s ih =>
    rw [List.cons_append, rowOf_cons, rowOf_cons]
    by_cases c : p.1 = m
    · rw [if_pos c, if_pos c]
    · rw [if_neg c, if_neg c]
      exact ih
theorem rowOf_filter (s : Rows) (n m : Int) : rowOf (s.filter fun p => decide (¬ p.1 = n)) m = if n = m then none else rowOf s m := by
  induction s with
  | nil =>
    split <;> rfl
  | cons p s ih =>
    rw [List.filter_cons]
    by_cases c : p.1 = n
    · rw [if_neg (by simp [c]), ih, rowOf_cons]
      by_cases d : n = m
      · rw [if_pos d, if_pos d]
      · rw [if_neg d, if_neg d, if_neg (by rw [c]; exact d)]
    · rw [if_pos (by simp [c]), rowOf_cons, ih, rowOf_cons]
      by_cases d : p.1 = m
      · rw [if_pos d, if_pos d, if_neg (by rw [← d]; exact fun z => c z.symm)]
      · rw [if_neg d, if_neg d]
theorem rowOf_mem {s : Rows} {n : Int} (h : n ∈ s.map (·.1)) : ∃ r, rowOf s n = some r := by
  induction s with
  | nil => cases h
  | cons p s ih =>
    rw [rowOf_cons]
    by_cases c : p.1 = n
    · exact ⟨p.2, if_pos c⟩
    · rw [if_neg c]
      rw [List.map_cons] at h
      rcases List.mem_cons.mp h with q | q
      · exact (c q.symm).elim
      · exact ih q
theorem mem_rowOf {s : Rows} {n : Int} {r : List Int} (h : rowOf s n = some r) : n ∈ s.map (·.1) := by
  induction s with
  | nil => cases h
  | cons p s ih =>
    rw [rowOf_cons] at h
    rw [List.map_cons]
    by_cases c : p.1 = n
    · rw [c]
      exact List.mem_cons_self ..
    · rw [if_neg c] at h
      exact List.mem_cons_of_mem _ (ih h)
/-! ### new arguments, methods -/
def EvAN (ta : TA) (σ : L2.St) (H : Hp) (PA : List V → Hp → Prop) : Prop := ∀ H1, Ex H H1 → ∀ Q : List V → Hp → Prop, (∀ vs N H2, (∀ a, N a ≠ none → H1 a = none) → PA vs N → Ex N H2 → Ex H1 H2 → Q vs H2) → ta σ H1 Q
section
variable {T T' T'' U : RP} {F0 B : Reg} {L L' H H' N : Hp} {K : PySem.W.Frag} {σ : L2.St} {ta tb te tl : TE} {t u : TT} {x y z v : V} {D : Ends} {tu tw tz ts : TS} {P P' : V → Hp → Prop}
theorem ean_one {P : V → Hp → Prop} (h : EvN te σ H P) : EvAN (tCons te tNil) σ H fun vs N => ∃ v, vs = [v] ∧ P v N := fun H1 e Q q => h H1 e _ fun v N H2 d p a b => q [v] N H2 d ⟨v, rfl, p⟩ a b
theorem ean_cons {tr : TA} {PA : List V → Hp → Prop} (h : Ev te σ H v) (hr : EvAN tr σ H PA) : EvAN (tCons te tr) σ H fun vs N => ∃ ws, vs = v :: ws ∧ PA ws N := fun H1 e Q q =>
  h H1 e _ fun H2 e2 => hr H2 (e.trans e2) _ fun ws N H3 d p a b => q (v :: ws) N H3 (fun x z => fresh_back e2 (d x z)) ⟨ws, rfl, p⟩ a (e2.trans b)
theorem ew_mtN {C : Addr} {m : Str} {sp : Sp} {E : XK} {a : Addr} {t : TA} {PA : List V → Hp → Prop} {p : V → Prop} (R : Regn T) (h : Ev ta σ L (.ref a)) (hi : ∀ H, Wld T F0 B L H → ∃ dx fs, H a = some (.ins C dx fs) ∧ fs.lookup m = none) (ht : EvAN t σ L PA)
    (hs : ∀ vs N, (∀ a, N a ≠ none → L a = none ∧ ¬ B a) → PA vs N → SpWP sp (.ref a :: vs) T T' F0 B (Unn N L) fun v _ => p v) : EvW (tMeth C m sp [] E ta t) σ T T' F0 B L fun v _ => p v := fun H w Q q =>
  h H w.lx _ fun H2 e => by
    obtain ⟨dx, fs, h1, h2⟩ := hi H2 (w.ext R e)
    refine ⟨a, dx, fs, rfl, h1, h2, ht H2 (w.ext R e).lx _ fun vs N H3 d pa x y => ?_⟩
    rw [List.append_nil]
    have w2 := w.ext R e
    refine hs vs N (fun b z => ⟨fresh_back w2.lx (d b z), fun g => let ⟨_, _, _, _, bb, _⟩ := w2; bb b g (d b z)⟩) pa H3 (w2.new R y d x) Q (fun v N' H' d' pv w' => q v nonew H' (fun b z => (z rfl).elim) pv (w'.weak (unn_no.trans (unn_r.trans unn_r)))) E
theorem ew_isN (h : EvW te σ T T' F0 B L fun v _ => v = .non) : EvW (tOp rNone te (tC .non)) σ T T' F0 B L fun v _ => v = .bl true := fun H w Q q => h H w _ fun v N H' d p w' => ⟨rfl, by
  show Q (.bl (decide (v = .non))) H'
  rw [decide_eq_true p]
  exact q _ N H' d rfl w'⟩
theorem ew_and (h1 : EvW ta σ T T' F0 B L fun v _ => v = .bl true) (h2 : EvW tb σ T' T'' F0 B L fun v _ => v = .bl true) : EvW (tAndV ta tb) σ T T'' F0 B L fun v _ => v = .bl true := fun H w Q q => h1 H w _ fun v N H' d p w' => ⟨true, p, by
  show tb σ H' Q
  exact h2 H' (w'.weak unn_r) Q fun v N' H2 d' p' w2 => q v N' H2 d' p' w2⟩
end
section
variable {K : PySem.W.Frag} {σ : L2.St} {H : Hp} {ta : TE}
/-- sorted(d.keys()) -/
theorem en_sortK {d : Addr} {s : Rows} (ha : Ev ta σ H (.ref d)) (hd : Dc K H d s) (hz : s.length ≤ 100000) : EvN (tCB rSortK (tCons (tBM0 K "dict" rKeysV ta) tNil)) σ H fun v N => ∃ (p : Addr) (ys : List Int), v = .ref p ∧ N p = some (.lst (ys.map V.int)) ∧ ys.Perm (s.map (·.1)) ∧ ys.Pairwise (· ≤ ·) := fun H1 e Q q =>
  ha H1 e _ fun H2 e2 => by
    obtain ⟨kvs, hk, hv⟩ := hd.mono (e.trans e2)
    refine ⟨.inr (.inr (.inl ⟨rfl, .inl ⟨kvs, hk⟩⟩)), d, kvs, rfl, rfl, hk, fun p np => ⟨p, d, kvs, s.map (·.1), rfl, upd_same, by rw [upd_ne (ne_of_none hk np)]; exact hk, hv.keys, by rw [List.length_map]; exact hz, fun ys l p1 p2 nl => ?_⟩⟩
    have x : Ex H1 (upd H2 p (keysO p d)) := e2.trans (Ex.new np)
    exact q (.ref l) (one l (.lst (ys.map V.int))) _ (fun a z => by rw [one_ne z]; exact fresh_back x nl) ⟨l, ys, rfl, one_at, p1, p2⟩ (one_ex upd_same) (x.trans (Ex.new nl))
/-- list(d.values()) -/
theorem en_listV {d : Addr} {s : Rows} {kvs : List (Key × V)} (ha : Ev ta σ H (.ref d)) (hk : H d = some (.dK kvs)) : EvL (tCB rListV (tCons (tBM0 K "dict" rValsV ta) tNil)) σ H (kvs.map (·.2)) := fun H1 e Q q =>
  ha H1 e _ fun H2 e2 => by
    have hk2 := (e.trans e2) _ _ hk
    refine ⟨.inr (.inr (.inl ⟨rfl, .inl ⟨kvs, hk2⟩⟩)), d, kvs, rfl, rfl, hk2, fun p np => ⟨p, d, kvs, rfl, upd_same, by rw [upd_ne (ne_of_none hk2 np)]; exact hk2, fun l nl => ?_⟩⟩
    exact q l _ (fresh_back (e2.trans (Ex.new np)) nl) ((e2.trans (Ex.new np)).trans (Ex.new nl)) upd_same
end
theorem paired_val {F : Reg} {H : Hp} : ∀ {kvs : List (Key × V)} {s : Rows} {n : Int} {r : List Int}, Paired (RowIs F H) kvs s → rowOf s n = some r → ∃ q : Addr, valV kvs (Sum.inl n) = some (V.ref q) ∧ H q = some (.lst (r.map V.int)) ∧ F q
  | _, _, _, _, .nil, h => by cases h
  | e :: kvs, p :: s, n, r, .cons a b, h => by
    rw [rowOf_cons] at h
    obtain ⟨e1, q, e2, e3, e4⟩ := a
    by_cases c : p.1 = n
    · rw [if_pos c] at h
      rw [valV_pos (by rw [e1, c])]
      exact ⟨q, by rw [e2], by rw [← Option.some.inj h]; exact e3, e4⟩
    · rw [if_neg c] at h
      rw [valV_neg (by rw [e1]; intro z; exact c (Sum.inl.inj z))]
      exact paired_val b h
theorem paired_no {F : Reg} {H : Hp} : ∀ {kvs : List (Key × V)} {s : Rows} {n : Int}, Paired (RowIs F H) kvs s → rowOf s n = none → valV kvs (Sum.inl n) = none
  | _, _, _, .nil, h => rfl
  | e :: kvs, p :: s, n, .cons a b, h => by
    rw [rowOf_cons] at h
    obtain ⟨e1, q, e2, e3, e4⟩ := a
    by_cases c : p.1 = n
    · rw [if_pos c] at h
      cases h
    · rw [if_neg c] at h
      rw [valV_neg (by rw [e1]; intro z; exact c (Sum.inl.inj z))]
      exact paired_no b h
theorem rowOf_none {s : Rows} {n : Int} (h : n ∉ s.map (·.1)) : rowOf s n = none := by
  cases k : rowOf s n with
  | none => rfl
  | some r => exact (h (mem_rowOf k)).elim
end Wy

set_option Elab.async false
set_option linter.all false
set_option maxRecDepth 100000
set_option maxHeartbeats 4000000
/-! Wk: an order that is kept, by what it promises. -/
namespace Wy
open PySem PySem.Spec PyProof.Rows L2 Evl
/-- whether one list stands ahead of another -/
def ahead : List Int → List Int → Bool
  | x :: xs, y :: ys => if x = y then ahead xs ys else decide (x < y)
  | [], _ :: _ => true
  | _, [] => false
structure Mt (P : Program) (w : World) (K : PySem.W.Frag) (mg : Str → Option Value) (base : Heap) (CX : CXT) (k : Nat) (C : Addr) (m : Str) (sp : Sp) : Prop where
  ex : ∃ (f : Addr) (fd : FuncData) (ps : List Str), Cls K C ∧ Meth K C m f ∧ FnOk P w K mg base CX k f fd ps sp ∧ Binds K fd ps []
structure Mc (P : Program) (w : World) (K : PySem.W.Frag) (mg : Str → Option Value) (base : Heap) (CX : CXT) (k : Nat) (x : Str) (C : Addr) (sp : Sp) : Prop where
  ex : ∃ (f : Addr) (fd : FuncData) (ps : List Str), Mk K C f ∧ FnOk P w K mg base CX k f fd ps sp ∧ mg x = some (.ref C) ∧ Binds K fd ps []
section
variable {X : Cx} {CX : CXT} {E : XK} {k j : Nat} {C : Addr} {x m : Str} {sp : Sp} {p pos apos : Pos} {e o : Expr} {es : List Expr} {ta : TE} {t : TA}
theorem pe_m {pl : Sem Bool} (c : Mt X.prog X.w X.K X.mg X.base CX k C m sp) (hr : Room j X.A) (hk : k ≤ j) (hx : Passes CX X E) (he : PE X o ta) (ha : PA X (e :: es) t)
    (hst : starEach (e :: es) X.env = (false, eval e X.env) :: starEach es X.env := by rfl) (hpl : (backTo pos (starEach es X.env)).any (·.1) = false := by rfl)
    (ht : eval (.Call (.Attribute o m apos) (e :: es) [] pos) X.env = (do
      let recv ← eval o X.env
      standAt apos.atName
      let (g, first) ← holding [recv] (getMethod recv m pl)
      callWith pos g first (backTo pos (starEach (e :: es) X.env)) (backToKw pos (keywordEach [] X.env))) := by rfl) :
    PE X (.Call (.Attribute o m apos) (e :: es) [] pos) (tMeth C m sp [] E ta t) := by
  obtain ⟨f, fd, ps, hc, hm, F, b⟩ := c.ex
  exact pe_meth (pl := pl) he hc hm F (hr.mono hk) b .nil hx ha hst hpl ht
theorem pe_m0 {pl : Sem Bool} (c : Mt X.prog X.w X.K X.mg X.base CX k C m sp) (hr : Room j X.A) (hk : k ≤ j) (hx : Passes CX X E) (he : PE X o ta)
    (ht : eval (.Call (.Attribute o m apos) [] [] pos) X.env = (do
      let recv ← eval o X.env
      standAt apos.atName
      let (g, first) ← holding [recv] (getMethod recv m pl)
      callWith pos g first (backTo pos (starEach [] X.env)) (backToKw pos (keywordEach [] X.env))) := by rfl) :
    PE X (.Call (.Attribute o m apos) [] [] pos) (tMeth C m sp [] E ta tNil) := by
  obtain ⟨f, fd, ps, hc, hm, F, b⟩ := c.ex
  exact pe_meth0 (pl := pl) he hc hm F (hr.mono hk) b .nil hx ht
theorem pe_k (c : Mc X.prog X.w X.K X.mg X.base CX k x C sp) (hr : Room j X.A) (hk : k + 1 ≤ j) (hx : Passes CX X E) (hg : Gl X x) (ha : PA X (e :: es) t)
    (hdb : (x == ("__debug__" : Str)) = false := by decide) (he : starEach (e :: es) X.env = (false, eval e X.env) :: starEach es X.env := by rfl) (hpl : (backTo pos (starEach es X.env)).any (·.1) = false := by rfl) :
    PE X (.Call (.Name x p) (e :: es) [] pos) (tMake C sp [] E t) := by
  obtain ⟨f, fd, ps, M, F, hm, b⟩ := c.ex
  exact pe_make M F (hr.mono hk) hg hm b .nil hx ha hdb he hpl
end
/-- what a Kept is, whatever it holds: its region, its columns -/
structure KS (K : PySem.W.Frag) where
  C : Addr
  at_ : Addr → List Int → Rows → RP
  regn : ∀ k c s, Regn (at_ k c s)
  ins : ∀ {k c s F H}, at_ k c s F H → ∃ (dx : Addr) (fs : List (Str × V)) (ct : Addr), H k = some (.ins C dx fs) ∧ fs.lookup ("columns" : Str) = some (.ref ct) ∧ SqT K H ct (c.map V.int) ∧
    fs.lookup ("put" : Str) = none ∧ fs.lookup ("drop" : Str) = none ∧ fs.lookup ("numbers" : Str) = none ∧ fs.lookup ("stretch" : Str) = none ∧ fs.lookup ("covers" : Str) = none
  cls : Cls K C
  noCol : NoAttr K C "columns"
def Wide (s : Rows) (w : Nat) : Prop := ∀ n r, rowOf s n = some r → r.length = w
section
variable {K : PySem.W.Frag} (S : KS K)
def RowAt (K : PySem.W.Frag) (H : Hp) (F : Reg) (r : Addr) (row : List Int) : Prop := (SqL K H r (row.map V.int) ∧ ¬ F r) ∨ SqT K H r (row.map V.int)
def RKPut : List V → Hp → Reg → RP → (V → Hp → Prop) → Prop := fun vs H F T' P => ∃ (k r : Addr) (n : Int) (row c : List Int) (s : Rows), vs = [.ref k, .int n, .ref r] ∧ S.at_ k c s F H ∧ RowAt K H F r row ∧ rowOf s n = none ∧ (∀ x ∈ c, 0 ≤ x ∧ x < row.length) ∧ row.length ≤ 6 ∧ Wide s row.length ∧ s.length < 200 ∧
  T' = S.at_ k c (s ++ [(n, row)]) ∧ P = fun v _ => v = .non
def RKDrop : List V → Hp → Reg → RP → (V → Hp → Prop) → Prop := fun vs H F T' P => ∃ (k r : Addr) (n : Int) (row c : List Int) (s : Rows), vs = [.ref k, .int n, .ref r] ∧ S.at_ k c s F H ∧ RowAt K H F r row ∧ rowOf s n = some row ∧ (∀ x ∈ c, 0 ≤ x ∧ x < row.length) ∧ row.length ≤ 6 ∧ Wide s row.length ∧
  T' = S.at_ k c (s.filter fun p => decide (¬ p.1 = n)) ∧ P = fun v _ => v = .non
def RKNumbers : List V → Hp → Reg → RP → (V → Hp → Prop) → Prop := fun vs H F T' P => ∃ (k : Addr) (c : List Int) (s : Rows), vs = [.ref k] ∧ S.at_ k c s F H ∧ T' = S.at_ k c s ∧ P = fun v N => ∃ p ns, v = .ref p ∧ N p = some (.lst (ns.map V.int)) ∧ InOrd ahead c s ns
def RKCovers : List V → Hp → Reg → RP → (V → Hp → Prop) → Prop := fun vs H F T' P => ∃ (k b : Addr) (c : List Int) (s : Rows) (ws : List V) (ts : List Tri), vs = [.ref k, .ref b] ∧ S.at_ k c s F H ∧ SqL K H b ws ∧ Wt K H ws ts ∧ ts.length ≤ 20 ∧ T' = S.at_ k c s ∧ P = fun v _ => v = .bl (ts.all fun t => decide (t.c ∈ c))
/-- a new one -/
def spKInit : Sp := fun vs H Q _ => ∃ (x dx ct : Addr) (c : List Int), vs = [.ref x, .ref ct] ∧ H x = some (.ins S.C dx []) ∧ H dx = some (.own x) ∧ dx ≠ x ∧ H ct = some (.tup (c.map V.int)) ∧ c ≠ [] ∧ c.length ≤ 6 ∧
  ∀ (H' : Hp) (F' : Reg), (∀ a o, H a = some o → a ≠ x → a ≠ dx → H' a = some o) → (∀ a, H a ≠ none → H' a ≠ none) → S.at_ x c [] F' H' → (∀ a, F' a → a = x ∨ a = dx ∨ H a = none) → Q .non H'
end
def Emp : RP := fun F _ => ∀ a, ¬ F a
theorem emp_regn : Regn Emp := ⟨fun F _ _ t _ => t, fun F H a t z => (t a z).elim⟩
section
variable {T U : RP} {F0 B F2 : Reg} {L H : Hp} {K : PySem.W.Frag} {S : KS K} {σ : L2.St} {ta : TE} {t : TA} {D : Ends} {tz : TS}
theorem two_emp {F : Reg} (R : Regn T) (h : Two T Emp F H) : T F H := by
  obtain ⟨F1, F2, t, u, d, f⟩ := h
  have e : F1 = F := by
    funext a
    refine propext ⟨fun z => (f a).mpr (.inl z), fun z => ((f a).mp z).elim id fun q => (u a q).elim⟩
  rw [← e]
  exact t
theorem start_w (h : Ex L H) : Wld Emp F0 (fun _ => False) L H := ⟨fun _ => False, fun _ z => z, h, fun _ z => z.elim, fun _ z => z.elim, fun _ z => z.elim⟩
/-- what is known becomes a region's -/
theorem Wld.own (R : Regn T) (SU : Regn U) (w : Wld T F0 B L H) (u : U F2 L) (n : ∀ a, F2 a → ¬ B a) : Wld (Two T U) F0 B (Out F2 L) H := by
  obtain ⟨F, t, x, d, b, f⟩ := w
  refine ⟨fun a => F a ∨ F2 a, ⟨F, F2, t, SU.ex u x, fun a z1 z2 => ?_, fun a => Iff.rfl⟩, out_ex.trans x, fun a z => ?_, b, fun a z => z.elim (f a) fun z => .inr (n a z)⟩
  · obtain ⟨o, ho, _⟩ := SU.dom F2 L a u z2
    rw [d a z1] at ho
    cases ho
  · rcases z with z | z
    · exact fresh_back out_ex (d a z)
    · exact out_no z
/-- x = Kept(t) -/
theorem vw_make {i : Nat} {sp : Sp} {E : XK} {ct : Addr} {c : List Int} (R : Regn T) (hc : L ct = some (.tup (c.map V.int))) (h : EvA t σ L [.ref ct]) (h0 : c ≠ []) (h6 : c.length ≤ 6) (he : sp = spKInit S)
    (k : ∀ x, L x = none → SvW tz D (σ.set i (some (.ref x))) (Two T (S.at_ x c [])) F0 B L) : SvW (tSeq (tAsg (tMake S.C sp [] E t) (gName i)) tz) D σ T F0 B L := fun H w => h H w.lx _ fun H2 e x dx nx nd ne => by
  subst he
  have w2 := w.ext R e
  have e3 : Ex H2 (upd (upd H2 dx (.own x)) x (.ins S.C dx [])) := fun a o ha => by
    rw [upd_ne (ne_of_none ha nx), upd_ne (ne_of_none ha nd)]
    exact ha
  rw [List.append_nil]
  refine ⟨x, dx, ct, c, rfl, upd_same, by rw [upd_ne ne, upd_same], ne, e3 _ _ (w2.lx _ _ hc), h0, h6, fun H' F' kp dm at' gr => ⟨rfl, ?_⟩⟩
  have keep : Ex H2 H' := fun a o ha => kp a o (e3 a o ha) (ne_of_none ha nx) (ne_of_none ha nd)
  have new : ∀ a, F' a → H2 a = none := fun a z => by
    rcases gr a z with q | q | q
    · rw [q]
      exact nx
    · rw [q]
      exact nd
    · exact fresh_back e3 q
  refine k x (fresh_back w2.lx nx) H' ?_
  obtain ⟨F, tt, xx, d, b, f⟩ := w2
  refine ⟨fun a => F a ∨ F' a, ⟨F, F', R.ex tt keep, at', fun a z1 z2 => ?_, fun a => Iff.rfl⟩, xx.trans keep, fun a z => ?_, fun a z => ex_dm keep a (b a z), fun a z => z.elim (f a) fun z => .inr fun y => b a y (new a z)⟩
  · obtain ⟨o, ho, _⟩ := R.dom F H2 a tt z1
    rw [new a z2] at ho
    cases ho
  · rcases z with z | z
    · exact d a z
    · exact fresh_back xx (new a z)
end
end Wy

set_option Elab.async false
set_option linter.all false
set_option maxRecDepth 100000
set_option maxHeartbeats 4000000
/-! Wl: laws over regions: a beginning, what is new, what is read. -/
namespace Wy
open PySem PySem.Spec PyProof.Rows L2 Evl
section
variable {T T' T'' U A B C : RP} {F0 B0 F2 : Reg} {L L' H H' N : Hp} {K : PySem.W.Frag} {σ : L2.St} {ta tb te tl : TE} {t u : TT} {x y z v : V} {D : Ends} {tu tw tz ts : TS} {P P' : V → Hp → Prop}
theorem rv_mono {r : R2} (e : Ex H H') (h : RV r x y H v) : RV r x y H' v := fun H1 a Q q => h H1 (e.trans a) Q q
theorem et_b {b b' : Bool} (h : EvT t σ H b) (e : b = b') : EvT t σ H b' := e ▸ h
theorem sv_ifsetI {p : Prop} [Decidable p] {i : Nat} {m : Int} (h : EvT t σ L (decide p)) (h1 : p → ∃ n : Int, Ev te σ L (.int n)) (h2 : σ.set i (some (.int m)) = σ) (k : ∀ n : Int, Sv tz D (σ.set i (some (.int n))) L) : Sv (tSeq (tIfS t (tAsg te (gName i)) tNext) tz) D σ L := by
  by_cases q : p
  · obtain ⟨n, hn⟩ := h1 q
    refine sv_ifset (p := p) (v := .int n) (w := .int m) h (fun _ => hn) (fun c => (c q).elim) ?_
    rw [if_pos q]
    exact k n
  · refine sv_ifset (p := p) (v := .int 0) (w := .int m) h (fun c => (q c).elim) (fun _ => h2) ?_
    rw [if_neg q]
    exact k m
theorem ev_opL {r : R2} {xs : List V} (ha : EvL ta σ L xs) (hb : Ev tb σ L y) (hr : ∀ p H2, Ex L H2 → H2 p = some (.lst xs) → RV r (.ref p) y H2 z) : Ev (tOp r ta tb) σ L z := fun H1 e Q q =>
  ha H1 e _ fun p H2 n e2 hp => hb H2 (e.trans e2) _ fun H3 e3 => hr p H3 ((e.trans e2).trans e3) (e3 _ _ hp) H3 (Ex.refl _) Q fun H4 e4 => q H4 ((e2.trans e3).trans e4)
theorem sv_w (h : SvW ts D σ Emp (fun _ => False) (fun _ => False) L) : Sv ts D σ L := fun H1 e => h H1 (start_w e)
theorem vw_imp (i : ∀ F H, T F H → T' F H) (h : SvW ts D σ T' F0 B0 L) : SvW ts D σ T F0 B0 L := fun H w => h H (w.imp fun F t => i F H t)
theorem vw_ex {α : Type} {TT : α → RP} (h : ∀ x, SvW ts D σ (TT x) F0 B0 L) : SvW ts D σ (fun F H => ∃ x, TT x F H) F0 B0 L := fun H ⟨F, ⟨x, t⟩, r⟩ => h x H ⟨F, t, r⟩
theorem vw_and {p : Prop} (h : p → SvW ts D σ T F0 B0 L) : SvW ts D σ (fun F H => p ∧ T F H) F0 B0 L := fun H ⟨F, ⟨q, t⟩, r⟩ => h q H ⟨F, t, r⟩
theorem two_empl {F : Reg} (R : Regn T) (h : Two Emp T F H) : T F H := two_emp R (two_swap h)
theorem two_assoc {F : Reg} (h : Two (Two A B) C F H) : Two A (Two B C) F H := by
  obtain ⟨F1, F3, ⟨Fa, Fb, a, b, d1, f1⟩, c, d, f⟩ := h
  refine ⟨Fa, fun x => Fb x ∨ F3 x, a, ⟨Fb, F3, b, c, fun x p q => d x ((f1 x).mpr (.inr p)) q, fun x => Iff.rfl⟩, fun x p q => q.elim (d1 x p) (d x ((f1 x).mpr (.inl p))), fun x => ?_⟩
  rw [f x, f1 x, or_assoc]
theorem two_assoc' {F : Reg} (h : Two A (Two B C) F H) : Two (Two A B) C F H := by
  obtain ⟨Fa, F2, a, ⟨Fb, Fc, b, c, d2, f2⟩, d, f⟩ := h
  refine ⟨fun x => Fa x ∨ Fb x, Fc, ⟨Fa, Fb, a, b, fun x p q => d x p ((f2 x).mpr (.inl q)), fun x => Iff.rfl⟩, c, fun x p q => p.elim (fun p => d x p ((f2 x).mpr (.inr q))) fun p => d2 x p q, fun x => ?_⟩
  rw [f x, f2 x, or_assoc]
theorem two_imp {F : Reg} (i : ∀ F, A F H → B F H) (h : Two A C F H) : Two B C F H := let ⟨F1, F2, a, c, r⟩ := h; ⟨F1, F2, i F1 a, c, r⟩
theorem two_impr {F : Reg} (i : ∀ F, A F H → B F H) (h : Two C A F H) : Two C B F H := let ⟨F1, F2, c, a, r⟩ := h; ⟨F1, F2, c, i F2 a, r⟩
theorem spw_imp {sp : Sp} {vs : List V} (i : ∀ F H, T F H → A F H) (j : ∀ F H, B F H → T' F H) (h : SpWP sp vs A B F0 B0 L P) : SpWP sp vs T T' F0 B0 L P := fun H w Q q E =>
  h H (w.imp fun F t => i F H t) Q (fun v N H' d p w' => q v N H' d p (w'.imp fun F t => j F H' t)) E
/-- d = {} -/
theorem vw_newD {i : Nat} (R : Regn T) (k : ∀ d, L d = none → SvW tz D (σ.set i (some (.ref d))) (Two T (DtR d [])) F0 B0 L) : SvW (tSeq (tAsg tDNewK (gName i)) tz) D σ T F0 B0 L := fun H w d nd => by
  refine k d (fresh_back w.lx nd) _ ?_
  have e : Ex H (upd H d (.dK [])) := Ex.new nd
  obtain ⟨F, t, x, dd, b, f⟩ := w
  refine ⟨fun a => F a ∨ a = d, ⟨F, fun a => a = d, R.ex t e, ⟨[], upd_same, .nil, rfl, fun a z => ⟨.dK [], by rw [show a = d from z]; exact upd_same, fun ⟨_, q⟩ => by cases q⟩⟩, fun a z1 z2 => ?_, fun a => Iff.rfl⟩, x.trans e, fun a z => ?_, fun a z => ex_dm e a (b a z), fun a z => z.elim (f a) fun z => .inr fun y => b a y (by rw [z]; exact nd)⟩
  · obtain ⟨o, ho, _⟩ := R.dom F H a t z1
    rw [z2, nd] at ho
    cases ho
  · rcases z with z | z
    · exact dd a z
    · rw [z]
      exact fresh_back x nd
/-- o.f -/
theorem ev_fld {C a dx : Addr} {f : Str} {fs : List (Str × V)} (h : Ev ta σ H (.ref a)) (hi : H a = some (.ins C dx fs)) (hc : Cls K C) (hn : NoAttr K C f) (hl : fs.lookup f = some v) : Ev (tFld K ta f) σ H v := fun H1 e Q q =>
  h H1 e _ fun H2 e2 => ⟨a, C, dx, fs, v, rfl, (e.trans e2) _ _ hi, hc, hn, hl, q H2 e2⟩
theorem ev_neg {i : Int} (h : Ev te σ H (.int i)) : Ev (tUn (rU fun i => .int (-i)) te) σ H (.int (-i)) := fun H1 e Q q => h H1 e _ fun H2 e2 => ⟨i, rfl, q H2 e2⟩
/-- arguments, the first one out of the region -/
def EaW (ta : TA) (σ : L2.St) (T T' : RP) (F0 B : Reg) (L : Hp) (P : List V → Hp → Prop) : Prop := ∀ H, Wld T F0 B L H → ∀ Q : List V → Hp → Prop, (∀ vs N H', (∀ a, N a ≠ none → L a = none ∧ ¬ B a) → P vs N → Wld T' F0 B (Unn N L) H' → Q vs H') → ta σ H Q
theorem eaw_cons {tr : TA} {vs : List V} (R : Regn T') (h : EvW te σ T T' F0 B0 L P) (hr : EvA tr σ L vs) : EaW (tCons te tr) σ T T' F0 B0 L fun ws N => ∃ v, ws = v :: vs ∧ P v N := fun H w Q q =>
  h H w _ fun v N H2 d p w2 => hr H2 (unn_r.trans w2.lx) _ fun H3 e3 => q (v :: vs) N H3 d ⟨v, rfl, p⟩ (w2.ext R e3)
theorem ew_clR {sp : Sp} {E : XK} {ta : TA} {PA : List V → Hp → Prop} (R : Regn T') (h : EaW ta σ T T' F0 B0 L PA) (hs : ∀ vs N H', (∀ a, N a ≠ none → L a = none ∧ ¬ B0 a) → PA vs N → Wld T' F0 B0 (Unn N L) H' → SpV sp vs H' v) : EvW (tCall sp [] E ta) σ T T' F0 B0 L fun v' _ => v' = v := fun H w Q q =>
  h H w _ fun vs N H2 d p w2 => by
    rw [List.append_nil]
    exact hs vs N H2 d p w2 H2 (Ex.refl H2) Q (fun H3 e3 => q v N H3 d rfl (w2.ext R e3)) E
theorem etw_or {b1 b2 : Bool} (h1 : EtW t σ T T' F0 B0 L b1) (h0 : b1 = false) (h2 : ∀ N, (∀ a, N a ≠ none → L a = none ∧ ¬ B0 a) → EtW u σ T' T'' F0 B0 (Unn N L) b2) : EtW (tOr t u) σ T T'' F0 B0 L b2 := fun H w Q q => h1 H w _ fun N H2 d w2 => by
  show (if b1 = true then Q true H2 else u σ H2 Q)
  rw [h0, if_neg (by decide)]
  refine h2 N d H2 w2 Q fun N' H3 d' w3 => q (Unn N' N) H3 (fun a z => ?_) (w3.weak fun a o h => ?_)
  · rcases unn_none z with z | z
    · exact d a z
    · exact ⟨fresh_back unn_r (d' a z).1, (d' a z).2⟩
  · have g : (match L a with | some o => some o | none => (match N a with | some o => some o | none => N' a)) = some o := h
    show (match (match L a with | some o => some o | none => N a) with | some o => some o | none => N' a) = some o
    cases k : L a with
    | some l =>
      rw [k] at g
      exact g
    | none =>
      rw [k] at g
      exact g
theorem etw_of {b : Bool} (R : Regn T) (h : EvT t σ L b) : EtW t σ T T F0 B0 L b := fun H w Q q => h H w.lx Q fun H2 e => q nonew H2 (fun a z => (z rfl).elim) ((w.ext R e).weak unn_no)
/-- o.m(), its promise over the region -/
theorem ew_mt0 {C : Addr} {m : Str} {sp : Sp} {E : XK} {a : Addr} (R : Regn T) (h : Ev ta σ L (.ref a)) (hi : ∀ H, Wld T F0 B0 L H → ∃ dx fs, H a = some (.ins C dx fs) ∧ fs.lookup m = none) (hs : SpWP sp [.ref a] T T' F0 B0 L P) : EvW (tMeth C m sp [] E ta tNil) σ T T' F0 B0 L P := ew_mt R h hi ea_nil hs
theorem vw_whenW {b : Bool} (h : EtW t σ T T' F0 B0 L b) (hb : b = false) (k : ∀ N, (∀ a, N a ≠ none → L a = none ∧ ¬ B0 a) → SvW tz D σ T' F0 B0 (Unn N L)) : SvW (tSeq (tIfS t tu tNext) tz) D σ T F0 B0 L := vw_ifW h (fun N d e => by rw [hb] at e; cases e) fun N d _ => k N d
theorem ew_and' {v : V} (h1 : EvW ta σ T T' F0 B0 L fun v _ => v = .bl true) (h2 : ∀ N, (∀ a, N a ≠ none → L a = none ∧ ¬ B0 a) → EvW tb σ T' T'' F0 B0 (Unn N L) fun v' _ => v' = v) : EvW (tAndV ta tb) σ T T'' F0 B0 L fun v' _ => v' = v := fun H w Q q => h1 H w _ fun v N H' d p w' => ⟨true, p, by
  show tb σ H' Q
  exact h2 N d H' w' Q fun v N' H2 d' p' w2 => q v nonew H2 (fun a z => (z rfl).elim) p' (w2.weak (unn_no.trans (unn_r.trans unn_r)))⟩
theorem SpWP.weak {sp : Sp} {vs : List V} (h : SpWP sp vs T T' F0 B0 L P) : SpWP sp vs T T' F0 B0 L P := h
end
end Wy

set_option Elab.async false
set_option linter.all false
set_option maxRecDepth 100000
set_option maxHeartbeats 4000000
/-! Wm: the ends of a wish, stretches. -/
namespace Wy
open PySem PySem.Spec PyProof.Rows L2 Evl
theorem maxL_snoc : ∀ (l : List Int) (x : Int), maxL (l ++ [x]) = if l = [] then x else max (maxL l) x
  | [], x => rfl
  | [a], x => rfl
  | a :: b :: r, x => by
    rw [if_neg (by simp)]
    show max a (maxL ((b :: r) ++ [x])) = max (max a (maxL (b :: r))) x
    rw [maxL_snoc (b :: r) x, if_neg (by simp)]
    omega
theorem minL_snoc : ∀ (l : List Int) (x : Int), minL (l ++ [x]) = if l = [] then x else min (minL l) x
  | [], x => rfl
  | [a], x => rfl
  | a :: b :: r, x => by
    rw [if_neg (by simp)]
    show min a (minL ((b :: r) ++ [x])) = min (min a (minL (b :: r))) x
    rw [minL_snoc (b :: r) x, if_neg (by simp)]
    omega
theorem lows_snoc (c : Int) (ts : List Tri) (t : Tri) : lowsM c (ts ++ [t]) = lowsM c ts ++ if t.c = c ∧ ¬ t.lo = none then [t.lo.getD 0] else [] := by
  unfold lowsM
  rw [List.filter_append, List.map_append]
  congr 1
  by_cases h : t.c = c ∧ ¬ t.lo = none
  · rw [if_pos h, List.filter_cons_of_pos (p := fun t : Tri => decide (t.c = c ∧ ¬ t.lo = none)) (decide_eq_true h)]
    rfl
  · rw [if_neg h, List.filter_cons_of_neg (p := fun t : Tri => decide (t.c = c ∧ ¬ t.lo = none)) (by rw [decide_eq_false h]; decide)]
    rfl
theorem highs_snoc (c : Int) (ts : List Tri) (t : Tri) : highsM c (ts ++ [t]) = highsM c ts ++ if t.c = c ∧ ¬ t.hi = none then [t.hi.getD 0] else [] := by
  unfold highsM
  rw [List.filter_append, List.map_append]
  congr 1
  by_cases h : t.c = c ∧ ¬ t.hi = none
  · rw [if_pos h, List.filter_cons_of_pos (p := fun t : Tri => decide (t.c = c ∧ ¬ t.hi = none)) (decide_eq_true h)]
    rfl
  · rw [if_neg h, List.filter_cons_of_neg (p := fun t : Tri => decide (t.c = c ∧ ¬ t.hi = none)) (by rw [decide_eq_false h]; decide)]
    rfl
theorem some_get {o : Option Int} (h : ¬ o = none) : some (o.getD 0) = o := by
  cases o with
  | none => exact (h rfl).elim
  | some i => rfl
theorem endLo_nil {c : Int} {ts : List Tri} (h : lowsM c ts = []) : endLo c ts = none := by
  unfold endLo
  rw [h]
  rfl
theorem endLo_some {c : Int} {ts : List Tri} (h : ¬ lowsM c ts = []) : endLo c ts = some (maxL (lowsM c ts)) := by
  unfold endLo
  exact if_pos (List.length_pos_iff.mpr h)
theorem endLo_snoc (c : Int) (ts : List Tri) (t : Tri) : endLo c (ts ++ [t]) = if t.c = c ∧ ¬ t.lo = none ∧ (endLo c ts = none ∨ (endLo c ts).getD 0 < t.lo.getD 0) then t.lo else endLo c ts := by
  by_cases h : t.c = c ∧ ¬ t.lo = none
  · have e : lowsM c (ts ++ [t]) = lowsM c ts ++ [t.lo.getD 0] := by rw [lows_snoc, if_pos h]
    have en : ¬ lowsM c (ts ++ [t]) = [] := by
      rw [e]
      simp
    rw [endLo_some en, e, maxL_snoc]
    by_cases hz : lowsM c ts = []
    · rw [if_pos hz, endLo_nil hz, if_pos ⟨h.1, h.2, .inl rfl⟩]
      exact some_get h.2
    · rw [if_neg hz, endLo_some hz]
      have eg : (some (maxL (lowsM c ts))).getD 0 = maxL (lowsM c ts) := rfl
      rw [eg]
      by_cases hl : maxL (lowsM c ts) < t.lo.getD 0
      · rw [if_pos ⟨h.1, h.2, .inr hl⟩, ← some_get h.2]
        congr 1
        have e2 : (some (t.lo.getD 0)).getD 0 = t.lo.getD 0 := rfl
        rw [e2]
        omega
      · rw [if_neg (fun k => k.2.2.elim (fun k => nomatch k) hl)]
        congr 1
        omega
  · have e : lowsM c (ts ++ [t]) = lowsM c ts := by rw [lows_snoc, if_neg h, List.append_nil]
    rw [if_neg fun k => h ⟨k.1, k.2.1⟩]
    unfold endLo
    rw [e]
theorem endHi_nil {c : Int} {ts : List Tri} (h : highsM c ts = []) : endHi c ts = none := by
  unfold endHi
  rw [h]
  rfl
theorem endHi_some {c : Int} {ts : List Tri} (h : ¬ highsM c ts = []) : endHi c ts = some (minL (highsM c ts)) := by
  unfold endHi
  exact if_pos (List.length_pos_iff.mpr h)
theorem endHi_snoc (c : Int) (ts : List Tri) (t : Tri) : endHi c (ts ++ [t]) = if t.c = c ∧ ¬ t.hi = none ∧ (endHi c ts = none ∨ t.hi.getD 0 < (endHi c ts).getD 0) then t.hi else endHi c ts := by
  by_cases h : t.c = c ∧ ¬ t.hi = none
  · have e : highsM c (ts ++ [t]) = highsM c ts ++ [t.hi.getD 0] := by rw [highs_snoc, if_pos h]
    have en : ¬ highsM c (ts ++ [t]) = [] := by
      rw [e]
      simp
    rw [endHi_some en, e, minL_snoc]
    by_cases hz : highsM c ts = []
    · rw [if_pos hz, endHi_nil hz, if_pos ⟨h.1, h.2, .inl rfl⟩]
      exact some_get h.2
    · rw [if_neg hz, endHi_some hz]
      have eg : (some (minL (highsM c ts))).getD 0 = minL (highsM c ts) := rfl
      rw [eg]
      by_cases hl : t.hi.getD 0 < minL (highsM c ts)
      · rw [if_pos ⟨h.1, h.2, .inr hl⟩, ← some_get h.2]
        congr 1
        have e2 : (some (t.hi.getD 0)).getD 0 = t.hi.getD 0 := rfl
        rw [e2]
        omega
      · rw [if_neg (fun k => k.2.2.elim (fun k => nomatch k) hl)]
        congr 1
        omega
  · have e : highsM c (ts ++ [t]) = highsM c ts := by rw [highs_snoc, if_neg h, List.append_nil]
    rw [if_neg fun k => h ⟨k.1, k.2.1⟩]
    unfold endHi
    rw [e]
/-- whether a value lies between two ends -/
def betw (v : Int) (lo hi : Option Int) : Bool := decide (¬ (¬ lo = none ∧ v < lo.getD 0) ∧ (hi = none ∨ v ≤ hi.getD 0))
/-- whether a row lies in the stretch of an order -/
def inS : List Int → List Int → List Tri → Bool
  | [], _, _ => true
  | c :: cs, r, ts => if endLo c ts = none ∨ ¬ endLo c ts = endHi c ts then betw (r.getD c.toNat 0) (endLo c ts) (endHi c ts) else if r.getD c.toNat 0 = (endLo c ts).getD 0 then inS cs r ts else false
theorem take_snoc {α : Type} {l : List α} {i : Nat} {x : α} (h : l[i]? = some x) : l.take (i + 1) = l.take i ++ [x] := by
  rw [List.take_add_one, h]
  rfl
section
variable {σ : L2.St} {H H' L : Hp} {K : PySem.W.Frag} {ta tb te tl : TE} {t u : TT} {x y z v : V} {D : Ends} {tu tw tz ts : TS}
theorem sv_ifset' {p : Prop} [Decidable p] {i : Nat} {v w : V} (h : EvT t σ H (decide p)) (h1 : p → Ev te σ H v) (h2 : ¬ p → σ.set i (some w) = σ) (k : Sv tNext D (σ.set i (some (if p then v else w))) H) :
    Sv (tIfS t (tAsg te (gName i)) tNext) D σ H := fun H1 e => h H1 e _ fun H2 e2 => by
  by_cases q : p
  · rw [decide_eq_true q]
    rw [if_pos q] at k
    exact h1 q H2 (e.trans e2) _ fun H3 e3 => k H3 ((e.trans e2).trans e3)
  · rw [decide_eq_false q]
    rw [if_neg q, h2 q] at k
    exact k H2 (e.trans e2)
theorem ov_inj : ∀ {a b : Option Int}, ov a = ov b → a = b
  | none, none, _ => rfl
  | some _, some _, h => by rw [V.int.inj h]
  | none, some _, h => nomatch h
  | some _, none, h => nomatch h
theorem rp_neO {a b : Option Int} : RV rNe (ov a) (ov b) H (.bl (decide (¬ a = b))) := by
  have e : (.bl (decide (¬ a = b)) : V) = .bl (!decide (ov a = ov b)) := by
    by_cases c : a = b
    · rw [decide_eq_false (fun k => k c), decide_eq_true (show ov a = ov b by rw [c])]
      rfl
    · rw [decide_eq_true c, decide_eq_false (fun k => c (ov_inj k))]
      rfl
  rw [e]
  exact rv_ne (by cases a <;> cases b <;> rfl)
theorem ov_ite {p : Prop} [Decidable p] (a b : Option Int) : (if p then ov a else ov b) = ov (if p then a else b) := by split <;> rfl
end
end Wy

set_option Elab.async false
set_option linter.all false
set_option maxRecDepth 100000
set_option maxHeartbeats 4000000
/-! Wz: max and min with a default, sets of ints by comprehension. -/
namespace Wy
open PySem PySem.Spec PyProof.Rows L2 Evl

section
variable {prog : Program} {w : World} {A : Around}
variable {I S : Addr} {fp wr : List Addr} {n : Nat} {P : Nat → Value → Prop} {St : Nat → Heap → Prop}
abbrev bestOb (xs : Array Value) (c : Nat) : Obj := { cls := .type "list", dict := none, data := .seq xs c, slots := #[] }
/-- max with keywords, some item seen already -/
theorem maxKwLoop {R : Result → Shared → Prop} {kw : List (Str × Value)} (bt : Nat → Nat → Bool) (W : Walks prog w A.in1 I fp wr n P St) (cmp : CmpOf prog w A.in1 .Gt P bt) (out : S ∉ fp) : ∀ (left j c : Nat) (vb : Value) (s : Shared),
    j + 1 + left = n → P (argBest bt j) vb → St (j + 1) s.heap → s.heap.get? S = some (bestOb #[vb, vb] c) →
    (∀ u g tk, P (argBest bt (n - 1)) u → (∀ b o, b ∉ wr → b ≠ S → s.heap.get? b = some o → g.get? b = some o) → R (.ok (.ret u)) { s with heap := g, toks := tk }) →
    codeAny (model prog w) A (.builtin "max.loop" ⟨[.ref I, .none, .ref S], kw⟩) R s
  | 0, j, c, vb, s, hn, pb, st, hS, k => by
    have notW : S ∉ wr := fun h => out (W.sub _ h)
    refine codeAny_builtin F.entry_max_loop ?_
    rw [Around.under_plainId F.plain_max_loop _]
    show wpAny _ A.in1 (seqItems? (.ref S) >>= _) _ _ s
    refine wpAny_bind (wpAny_seqItems hS rfl ?_)
    show wpAny _ A.in1 (tryCatch (pyNext (.ref I)) _ >>= _) _ _ s
    have st' : St n s.heap := by rw [← hn]; exact st
    refine wpAny_bind (wpAny_tryCatch (W.done s _ _ st' fun g tk keep => ?_))
    show wpAny _ A.in1 (updateSeq S (fun _ => #[]) >>= _) _ _ _
    refine wpAny_bind (wpAny_updateSeq (keep S _ notW hS) rfl (wpAny_bind (wpAny_letGo (wpAny_pure ?_))))
    have e : n - 1 = j := by omega
    exact k vb _ tk (by rw [e]; exact pb) fun b o h1 h2 x => (Heap.get?_update_other _ _ (Ne.symm h2)).trans (keep b o h1 x)
  | left + 1, j, c, vb, s, hn, pb, st, hS, k => by
    have notW : S ∉ wr := fun h => out (W.sub _ h)
    have nm : (toString "max" ++ toString ".loop" : String) = "max.loop" := by decide
    refine codeAny_builtin F.entry_max_loop ?_
    rw [Around.under_plainId F.plain_max_loop _]
    show wpAny _ A.in1 (seqItems? (.ref S) >>= _) _ _ s
    refine wpAny_bind (wpAny_seqItems hS rfl ?_)
    show wpAny _ A.in1 (tryCatch (pyNext (.ref I)) _ >>= _) _ _ s
    refine wpAny_bind (wpAny_tryCatch (W.item (j + 1) s _ _ (by omega) st fun u g tk pu st2 keep => ?_))
    have hS2 := keep S _ notW hS
    show wpAny _ A.in1 (tryCatch (holding [u, u] (richCompare .Gt u vb >>= _)) _ >>= _) _ _ _
    refine wpAny_bind (wpAny_tryCatch (wpAny_holding (wpAny_bind (cmp (j + 1) (argBest bt j) u vb _ _ _ pu pb ?_))))
    refine wpAny_bind (wpAny_holding (wpAny_truthy_bool (wpAny_bind (wpAny_letGo (wpAny_pure ?_)))))
    by_cases hb : bt (j + 1) (argBest bt j) = true
    · have ea : argBest bt (j + 1) = j + 1 := if_pos hb
      rw [if_pos hb]
      refine wpAny_bind (wpAny_updateSeq hS2 rfl (wpAny_bind (wpAny_letGo ?_)))
      rw [nm]
      refine wpAny_pure ⟨plainId_quiet F.plain_max_loop _, maxKwLoop bt W cmp out left (j + 1) _ u _ (by omega) (by rw [ea]; exact pu) (W.frame _ _ _ st2 fun b hb o x => ?_) (Heap.get?_update_self _ hS2 rfl) fun u' g' tk' p' keep' => ?_⟩
      · exact (Heap.get?_update_other _ _ (fun z : S = b => out (z ▸ hb))).trans x
      · exact k u' g' tk' p' fun b o h1 h2 x => keep' b o h1 h2 ((Heap.get?_update_other _ _ (Ne.symm h2)).trans (keep b o h1 x))
    · have ea : argBest bt (j + 1) = argBest bt j := if_neg hb
      rw [if_neg hb]
      refine wpAny_bind (wpAny_letGo ?_)
      rw [nm]
      exact wpAny_pure ⟨plainId_quiet F.plain_max_loop _, maxKwLoop bt W cmp out left (j + 1) c vb _ (by omega) (by rw [ea]; exact pb) st2 hS2 fun u' g' tk' p' keep' => k u' g' tk' p' fun b o h1 h2 x => keep' b o h1 h2 (keep b o h1 x)⟩
theorem max_args (a d : Value) : argsOk "max" ⟨[a], [(Str.ofString "default", d)]⟩ := by unfold argsOk; kernel_rfl
variable {E : Value → Shared → Prop} {s : Shared}
/-- max(x, default=d) -/
theorem maxDflt_run {x d : Value} {Q : Value → Shared → Prop} (h : wpAny (model prog w) A.in1 (pyIter x) (fun it s2 => ∃ I fp wr n P St bt, it = .ref I ∧ Walks prog w A.in1 I fp wr n P St ∧ St 0 s2.heap ∧ (∀ b ∈ fp, b < s2.heap.objs.size) ∧ CmpOf prog w A.in1 .Gt P bt ∧
      ∀ u g tk, (∀ b o, b ∉ wr → s2.heap.get? b = some o → g.get? b = some o) → (n = 0 ∧ u = d ∨ 0 < n ∧ P (argBest bt (n - 1)) u) → Q u { s2 with heap := g, toks := tk }) E s) :
    wpAny (model prog w) A (call (.builtin "max") [x] [(Str.ofString "default", d)]) Q E s := by
  have nm : (toString "max" ++ toString ".loop" : String) = "max.loop" := by decide
  refine kmk_tree F.kind_max F.plain_max F.entry_max (max_args _ _) ?_
  have bp : Builtin.Builtins.bindParams "max" ["key", "default"] 0 ⟨[], [(Str.ofString "default", d)]⟩ = pure [none, some d] := rfl
  show wpAny _ A.in1 (Builtin.Builtins.bindParams "max" ["key", "default"] 0 ⟨[], [(Str.ofString "default", d)]⟩ >>= _) _ _ s
  refine wpAny_bind (wpAny_of_eq bp (wpAny_bind (wpAny_pure (wpAny_bind (wpAny_mono h (fun it s2 h2 => ?_) fun _ _ e => e)))))
  obtain ⟨I, fp, wr, n, P, St, bt, rfl, W, st, low, cmp, k⟩ := h2
  refine wpAny_bind (wpAny_newObj_type ?_)
  generalize hS0 : s2.heap.objs.size = S
  have out : S ∉ fp := fun z => by
    have lt := low _ z
    rw [hS0] at lt
    exact Nat.lt_irrefl _ lt
  have notW : S ∉ wr := fun z => out (W.sub _ z)
  have hS : (s2.heap.push (bestOb #[] 0)).get? S = some (bestOb #[] 0) := by
    rw [← hS0]
    exact Heap.get?_push_size _ rfl
  have stp : St 0 (s2.heap.push (bestOb #[] 0)) := W.frame _ _ _ st fun b _ o x => Heap.get?_push_of_some _ x
  have old : ∀ {b o}, s2.heap.get? b = some o → b ≠ S := fun x => by
    rw [← hS0]
    exact Nat.ne_of_lt (Heap.lt_size x)
  rw [nm]
  refine wpAny_pure ⟨plainId_quiet F.plain_max_loop _, codeAny_builtin F.entry_max_loop ?_⟩
  rw [Around.under_plainId F.plain_max_loop _]
  show wpAny _ A.in1 (seqItems? (.ref S) >>= _) _ _ _
  refine wpAny_bind (wpAny_seqItems hS rfl ?_)
  show wpAny _ A.in1 (tryCatch (pyNext (.ref I)) _ >>= _) _ _ _
  by_cases hn : n = 0
  · subst hn
    refine wpAny_bind (wpAny_tryCatch (W.done _ _ _ stp fun g tk keep => ?_))
    show wpAny _ A.in1 (rule _ >>= _) _ _ _
    refine wpAny_bind (wpAny_rule ?_)
    show wpAny _ A.in1 (ret d) _ _ _
    exact wpAny_pure (k d g tk (fun b o h1 x => keep b o h1 (Heap.get?_push_of_some _ x)) (.inl ⟨rfl, rfl⟩))
  · refine wpAny_bind (wpAny_tryCatch (W.item 0 _ _ _ (by omega) stp fun u g tk pu st2 keep => ?_))
    have hS2 := keep S _ notW hS
    show wpAny _ A.in1 (updateSeq S (fun _ => #[u, u]) >>= _) _ _ _
    refine wpAny_bind (wpAny_updateSeq hS2 rfl ?_)
    rw [nm]
    refine wpAny_pure ⟨plainId_quiet F.plain_max_loop _, maxKwLoop bt W cmp out (n - 1) 0 _ u _ (by omega) pu (W.frame _ _ _ st2 fun b hb o x => ?_) (Heap.get?_update_self _ hS2 rfl) fun u' g' tk' p' keep' => ?_⟩
    · exact (Heap.get?_update_other _ _ (fun z : S = b => out (z ▸ hb))).trans x
    · exact k u' g' tk' (fun b o h1 x => keep' b o h1 (old x) ((Heap.get?_update_other _ _ (Ne.symm (old x))).trans (keep b o h1 (Heap.get?_push_of_some _ x)))) (.inr ⟨by omega, p'⟩)
end
section
variable {X : Cx}
/-- of a list of ints, None where there is none -/
def rMaxDef (K : PySem.W.Frag) : List V → List V → Hp → VK → Prop := fun vs zs H Q => ∃ (a : Addr) (ns : List Int), vs = [V.ref a] ∧ zs = [.non] ∧ SqL K H a (ns.map V.int) ∧ (ns = [] → Q .non H) ∧ (∀ m, m ∈ ns → (∀ y, y ∈ ns → y ≤ m) → Q (.int m) H)
theorem cr_maxDef (calm : X.calm = true) : CallRK X (.builtin "max") [Str.ofString "default"] (rMaxDef X.K) := by
  intro pins s σ H vs zs us ws Q I r rz h
  obtain ⟨a, ns, rfl, rfl, hs, q0, q⟩ := h
  obtain rfl := Vals.ref1 r
  obtain ⟨w1, rfl, e1⟩ := vals1 rz
  obtain rfl : w1 = Value.none := e1
  obtain ⟨its, rv, hl, _⟩ := I.list hs
  obtain ⟨xs, e⟩ := rv.ints.allInts.items
  have hn : numsOf (intItems xs).toList = ns := by
    rw [← e]
    exact rv.ints.numsOf
  rw [nums_intItems] at hn
  subst hn
  have hl2 : s.heap.IsList a (intItems xs) := by
    rw [← e]
    exact hl.isList
  refine maxDflt_run (iter_intList hl2 fun s2 e2 st low ne => ?_)
  subst e2
  refine ⟨_, _, _, _, _, _, _, rfl, Walks.list (A := X.A.in1) (I.ok.hd calm) _ a ne (intItems xs), st, low, CmpOf.ints_gt (numAt xs) (fun _ _ => intItems_at), fun u g tk keep hu => ?_⟩
  have hsz : (intItems xs).size = xs.size := by simp [intItems]
  have I2 : Inv X pins σ H { s with heap := g, toks := tk } := I.kept (old_kept keep)
  rcases hu with ⟨h0, rfl⟩ | ⟨h0, hp⟩
  · refine ⟨.non, H, I2, rfl, q0 ?_⟩
    rw [hsz] at h0
    have : xs.toList = [] := List.length_eq_zero_iff.mp (by rw [Array.length_toList]; exact h0)
    rw [this]
    rfl
  · rw [hsz] at h0 hp
    obtain ⟨t, rfl⟩ := intItems_at hp
    obtain ⟨h1, h2⟩ := argBest_gt (numAt xs) (xs.size - 1)
    refine ⟨.int _, H, I2, ⟨_, rfl⟩, q _ ?_ fun y hy => ?_⟩
    · rw [numAt_eq]
      exact getD_mem (by rw [List.length_map, Array.length_toList]; omega)
    · obtain ⟨j, hj, rfl⟩ := mem_getD hy
      rw [List.length_map, Array.length_toList] at hj
      rw [← numAt_eq]
      exact h2 j (by omega)
end

section
variable {prog : Program} {w : World} {A : Around}
variable {I S : Addr} {fp wr : List Addr} {n : Nat} {P : Nat → Value → Prop} {St : Nat → Heap → Prop}
/-- min with keywords, some item seen already -/
theorem minKwLoop {R : Result → Shared → Prop} {kw : List (Str × Value)} (bt : Nat → Nat → Bool) (W : Walks prog w A.in1 I fp wr n P St) (cmp : CmpOf prog w A.in1 .Lt P bt) (out : S ∉ fp) : ∀ (left j c : Nat) (vb : Value) (s : Shared),
    j + 1 + left = n → P (argBest bt j) vb → St (j + 1) s.heap → s.heap.get? S = some (bestOb #[vb, vb] c) →
    (∀ u g tk, P (argBest bt (n - 1)) u → (∀ b o, b ∉ wr → b ≠ S → s.heap.get? b = some o → g.get? b = some o) → R (.ok (.ret u)) { s with heap := g, toks := tk }) →
    codeAny (model prog w) A (.builtin "min.loop" ⟨[.ref I, .none, .ref S], kw⟩) R s
  | 0, j, c, vb, s, hn, pb, st, hS, k => by
    have notW : S ∉ wr := fun h => out (W.sub _ h)
    refine codeAny_builtin F.entry_min_loop ?_
    rw [Around.under_plainId F.plain_min_loop _]
    show wpAny _ A.in1 (seqItems? (.ref S) >>= _) _ _ s
    refine wpAny_bind (wpAny_seqItems hS rfl ?_)
    show wpAny _ A.in1 (tryCatch (pyNext (.ref I)) _ >>= _) _ _ s
    have st' : St n s.heap := by rw [← hn]; exact st
    refine wpAny_bind (wpAny_tryCatch (W.done s _ _ st' fun g tk keep => ?_))
    show wpAny _ A.in1 (updateSeq S (fun _ => #[]) >>= _) _ _ _
    refine wpAny_bind (wpAny_updateSeq (keep S _ notW hS) rfl (wpAny_bind (wpAny_letGo (wpAny_pure ?_))))
    have e : n - 1 = j := by omega
    exact k vb _ tk (by rw [e]; exact pb) fun b o h1 h2 x => (Heap.get?_update_other _ _ (Ne.symm h2)).trans (keep b o h1 x)
  | left + 1, j, c, vb, s, hn, pb, st, hS, k => by
    have notW : S ∉ wr := fun h => out (W.sub _ h)
    have nm : (toString "min" ++ toString ".loop" : String) = "min.loop" := by decide
    refine codeAny_builtin F.entry_min_loop ?_
    rw [Around.under_plainId F.plain_min_loop _]
    show wpAny _ A.in1 (seqItems? (.ref S) >>= _) _ _ s
    refine wpAny_bind (wpAny_seqItems hS rfl ?_)
    show wpAny _ A.in1 (tryCatch (pyNext (.ref I)) _ >>= _) _ _ s
    refine wpAny_bind (wpAny_tryCatch (W.item (j + 1) s _ _ (by omega) st fun u g tk pu st2 keep => ?_))
    have hS2 := keep S _ notW hS
    show wpAny _ A.in1 (tryCatch (holding [u, u] (richCompare .Lt u vb >>= _)) _ >>= _) _ _ _
    refine wpAny_bind (wpAny_tryCatch (wpAny_holding (wpAny_bind (cmp (j + 1) (argBest bt j) u vb _ _ _ pu pb ?_))))
    refine wpAny_bind (wpAny_holding (wpAny_truthy_bool (wpAny_bind (wpAny_letGo (wpAny_pure ?_)))))
    by_cases hb : bt (j + 1) (argBest bt j) = true
    · have ea : argBest bt (j + 1) = j + 1 := if_pos hb
      rw [if_pos hb]
      refine wpAny_bind (wpAny_updateSeq hS2 rfl (wpAny_bind (wpAny_letGo ?_)))
      rw [nm]
      refine wpAny_pure ⟨plainId_quiet F.plain_min_loop _, minKwLoop bt W cmp out left (j + 1) _ u _ (by omega) (by rw [ea]; exact pu) (W.frame _ _ _ st2 fun b hb o x => ?_) (Heap.get?_update_self _ hS2 rfl) fun u' g' tk' p' keep' => ?_⟩
      · exact (Heap.get?_update_other _ _ (fun z : S = b => out (z ▸ hb))).trans x
      · exact k u' g' tk' p' fun b o h1 h2 x => keep' b o h1 h2 ((Heap.get?_update_other _ _ (Ne.symm h2)).trans (keep b o h1 x))
    · have ea : argBest bt (j + 1) = argBest bt j := if_neg hb
      rw [if_neg hb]
      refine wpAny_bind (wpAny_letGo ?_)
      rw [nm]
      exact wpAny_pure ⟨plainId_quiet F.plain_min_loop _, minKwLoop bt W cmp out left (j + 1) c vb _ (by omega) (by rw [ea]; exact pb) st2 hS2 fun u' g' tk' p' keep' => k u' g' tk' p' fun b o h1 h2 x => keep' b o h1 h2 (keep b o h1 x)⟩
theorem min_args (a d : Value) : argsOk "min" ⟨[a], [(Str.ofString "default", d)]⟩ := by unfold argsOk; kernel_rfl
variable {E : Value → Shared → Prop} {s : Shared}
/-- min(x, default=d) -/
theorem minDflt_run {x d : Value} {Q : Value → Shared → Prop} (h : wpAny (model prog w) A.in1 (pyIter x) (fun it s2 => ∃ I fp wr n P St bt, it = .ref I ∧ Walks prog w A.in1 I fp wr n P St ∧ St 0 s2.heap ∧ (∀ b ∈ fp, b < s2.heap.objs.size) ∧ CmpOf prog w A.in1 .Lt P bt ∧
      ∀ u g tk, (∀ b o, b ∉ wr → s2.heap.get? b = some o → g.get? b = some o) → (n = 0 ∧ u = d ∨ 0 < n ∧ P (argBest bt (n - 1)) u) → Q u { s2 with heap := g, toks := tk }) E s) :
    wpAny (model prog w) A (call (.builtin "min") [x] [(Str.ofString "default", d)]) Q E s := by
  have nm : (toString "min" ++ toString ".loop" : String) = "min.loop" := by decide
  refine kmk_tree F.kind_min F.plain_min F.entry_min (min_args _ _) ?_
  have bp : Builtin.Builtins.bindParams "min" ["key", "default"] 0 ⟨[], [(Str.ofString "default", d)]⟩ = pure [none, some d] := rfl
  show wpAny _ A.in1 (Builtin.Builtins.bindParams "min" ["key", "default"] 0 ⟨[], [(Str.ofString "default", d)]⟩ >>= _) _ _ s
  refine wpAny_bind (wpAny_of_eq bp (wpAny_bind (wpAny_pure (wpAny_bind (wpAny_mono h (fun it s2 h2 => ?_) fun _ _ e => e)))))
  obtain ⟨I, fp, wr, n, P, St, bt, rfl, W, st, low, cmp, k⟩ := h2
  refine wpAny_bind (wpAny_newObj_type ?_)
  generalize hS0 : s2.heap.objs.size = S
  have out : S ∉ fp := fun z => by
    have lt := low _ z
    rw [hS0] at lt
    exact Nat.lt_irrefl _ lt
  have notW : S ∉ wr := fun z => out (W.sub _ z)
  have hS : (s2.heap.push (bestOb #[] 0)).get? S = some (bestOb #[] 0) := by
    rw [← hS0]
    exact Heap.get?_push_size _ rfl
  have stp : St 0 (s2.heap.push (bestOb #[] 0)) := W.frame _ _ _ st fun b _ o x => Heap.get?_push_of_some _ x
  have old : ∀ {b o}, s2.heap.get? b = some o → b ≠ S := fun x => by
    rw [← hS0]
    exact Nat.ne_of_lt (Heap.lt_size x)
  rw [nm]
  refine wpAny_pure ⟨plainId_quiet F.plain_min_loop _, codeAny_builtin F.entry_min_loop ?_⟩
  rw [Around.under_plainId F.plain_min_loop _]
  show wpAny _ A.in1 (seqItems? (.ref S) >>= _) _ _ _
  refine wpAny_bind (wpAny_seqItems hS rfl ?_)
  show wpAny _ A.in1 (tryCatch (pyNext (.ref I)) _ >>= _) _ _ _
  by_cases hn : n = 0
  · subst hn
    refine wpAny_bind (wpAny_tryCatch (W.done _ _ _ stp fun g tk keep => ?_))
    show wpAny _ A.in1 (rule _ >>= _) _ _ _
    refine wpAny_bind (wpAny_rule ?_)
    show wpAny _ A.in1 (ret d) _ _ _
    exact wpAny_pure (k d g tk (fun b o h1 x => keep b o h1 (Heap.get?_push_of_some _ x)) (.inl ⟨rfl, rfl⟩))
  · refine wpAny_bind (wpAny_tryCatch (W.item 0 _ _ _ (by omega) stp fun u g tk pu st2 keep => ?_))
    have hS2 := keep S _ notW hS
    show wpAny _ A.in1 (updateSeq S (fun _ => #[u, u]) >>= _) _ _ _
    refine wpAny_bind (wpAny_updateSeq hS2 rfl ?_)
    rw [nm]
    refine wpAny_pure ⟨plainId_quiet F.plain_min_loop _, minKwLoop bt W cmp out (n - 1) 0 _ u _ (by omega) pu (W.frame _ _ _ st2 fun b hb o x => ?_) (Heap.get?_update_self _ hS2 rfl) fun u' g' tk' p' keep' => ?_⟩
    · exact (Heap.get?_update_other _ _ (fun z : S = b => out (z ▸ hb))).trans x
    · exact k u' g' tk' (fun b o h1 x => keep' b o h1 (old x) ((Heap.get?_update_other _ _ (Ne.symm (old x))).trans (keep b o h1 (Heap.get?_push_of_some _ x)))) (.inr ⟨by omega, p'⟩)
end
section
variable {X : Cx}
/-- of a list of ints, None where there is none -/
def rMinDef (K : PySem.W.Frag) : List V → List V → Hp → VK → Prop := fun vs zs H Q => ∃ (a : Addr) (ns : List Int), vs = [V.ref a] ∧ zs = [.non] ∧ SqL K H a (ns.map V.int) ∧ (ns = [] → Q .non H) ∧ (∀ m, m ∈ ns → (∀ y, y ∈ ns → m ≤ y) → Q (.int m) H)
theorem cr_minDef (calm : X.calm = true) : CallRK X (.builtin "min") [Str.ofString "default"] (rMinDef X.K) := by
  intro pins s σ H vs zs us ws Q I r rz h
  obtain ⟨a, ns, rfl, rfl, hs, q0, q⟩ := h
  obtain rfl := Vals.ref1 r
  obtain ⟨w1, rfl, e1⟩ := vals1 rz
  obtain rfl : w1 = Value.none := e1
  obtain ⟨its, rv, hl, _⟩ := I.list hs
  obtain ⟨xs, e⟩ := rv.ints.allInts.items
  have hn : numsOf (intItems xs).toList = ns := by
    rw [← e]
    exact rv.ints.numsOf
  rw [nums_intItems] at hn
  subst hn
  have hl2 : s.heap.IsList a (intItems xs) := by
    rw [← e]
    exact hl.isList
  refine minDflt_run (iter_intList hl2 fun s2 e2 st low ne => ?_)
  subst e2
  refine ⟨_, _, _, _, _, _, _, rfl, Walks.list (A := X.A.in1) (I.ok.hd calm) _ a ne (intItems xs), st, low, CmpOf.ints_lt (numAt xs) (fun _ _ => intItems_at), fun u g tk keep hu => ?_⟩
  have hsz : (intItems xs).size = xs.size := by simp [intItems]
  have I2 : Inv X pins σ H { s with heap := g, toks := tk } := I.kept (old_kept keep)
  rcases hu with ⟨h0, rfl⟩ | ⟨h0, hp⟩
  · refine ⟨.non, H, I2, rfl, q0 ?_⟩
    rw [hsz] at h0
    have : xs.toList = [] := List.length_eq_zero_iff.mp (by rw [Array.length_toList]; exact h0)
    rw [this]
    rfl
  · rw [hsz] at h0 hp
    obtain ⟨t, rfl⟩ := intItems_at hp
    obtain ⟨h1, h2⟩ := argBest_lt (numAt xs) (xs.size - 1)
    refine ⟨.int _, H, I2, ⟨_, rfl⟩, q _ ?_ fun y hy => ?_⟩
    · rw [numAt_eq]
      exact getD_mem (by rw [List.length_map, Array.length_toList]; omega)
    · obtain ⟨j, hj, rfl⟩ := mem_getD hy
      rw [List.length_map, Array.length_toList] at hj
      rw [← numAt_eq]
      exact h2 j (by omega)
end

/-! ### {e for x in xs}, e an int -/
section
variable {X : Cx}
/-- D is the new set, S its members so far, n their number -/
def tSci (w : World) (wi : TI) (g : TG) (te : TE) (vs : List Nat) : TE := fun σ H Q => wi σ H fun J H1 => ∀ D, H1 D = none → ∃ W : Nat → Nat → Hp → Prop, (∃ m, W 0 m (upd H1 D (SetO w D (fun _ => false) 0))) ∧
  ∀ i m H, W i m H → (J.stop i H ∧ Q (.ref D) H) ∨ (J.go i H ∧ ∃ Nx : Hp → Prop, (∀ H', Nx H' → ∃ m', m' < m ∧ W (i + 1) m' H') ∧ ∀ x H', J.yld i H x H' → g x (wipe σ vs) H' fun σ2 H2 => wipe σ2 vs = wipe σ vs ∧
    te σ2 H2 fun y H3 => ∃ (k : Int) (S : Int → Bool) (n : Nat), y = .int k ∧ H3 D = some (SetO w D S n) ∧ n + 1 < scanBound ∧ Nx (upd H3 D (SetO w D (fun j => S j || decide (j = k)) (if S k = true then n else n + 1))))
theorem addI_run {pins : List (Addr × Obj)} {σ : L2.St} {H : Hp} {s : Shared} {E : Value → Shared → Prop} {D : Addr} {S : Int → Bool} {n : Nat} {k : Int} {t : Tok} {Q : Value → Shared → Prop} (I : Inv X pins σ H s) (hD : H D = some (SetO X.w D S n)) (room : n + 1 < scanBound)
    (h : ∀ s', Inv X pins σ (upd H D (SetO X.w D (fun j => S j || decide (j = k)) (if S k = true then n else n + 1))) s' → Q .none s') : wpAny (model X.prog X.w) X.A (call (.builtin "set.add") [.ref D, .int k t]) Q E s :=
  setR_add (setO_get I hD) room fun g sb new => h _ (I.write (e := D) (t' := s.toks + 1) (by rw [hD]; trivial) (.inl rfl) (fun b u hb hu => (sb.2 b hb).trans hu) (let ⟨o, _, _, _, ho, _⟩ := new; ⟨o, ho⟩) (setO_new new))
variable {elt tg iter : Expr} {scope : Scope} {own : List (Str × Nat)} {pos : Pos} {wi : TI} {g : TG} {te : TE}
abbrev blkAt (X : Cx) (scope : Scope) (s : Shared) (H : Hp) (C : Addr) (cl : List (Str × Addr)) (fp : List Addr) : Cx := X.blk s H scope (compEnvC scope cl C X.env) fp
abbrev setGen (elt tg iter : Expr) (scope : Scope) (pos : Pos) : Expr := .SetComp elt [⟨tg, iter, [], 0⟩] scope pos
theorem pe_sci (calm : X.calm = true) (nd : X.N.Nodup) (hi : PI X tg iter wi) (ok : BlkOk X.N X.env.scope scope own) (hg : ∀ s H C cl fp, PG (blkAt X scope s H C cl fp) tg g) (he : ∀ s H C cl fp, PE (blkAt X scope s H C cl fp) elt te)
    (hs : ∀ x, foldedSetIterable iter X.env x = pure x := by intro _; rfl) : PE X (setGen elt tg iter scope pos) (tSci X.w wi g te (own.map (·.2))) := by
  refine ⟨fun pins s σ H Q I h => ?_⟩
  rw [PpSet.eval_SetComp]
  have cells : ∀ y ∈ scope.names, y.2 = .free → ∃ c, X.env.cells.lookup y.1 = some c := fun y hy e => (ok.free y hy e).elim (fun k => I.ok.has _ (.inl k)) (fun k => I.ok.has _ (.inr k))
  refine wpAny_comprehension_free rfl hs (closure_ok cells) ok.kind (fun y hy e => by rw [ok.uniq y hy, e]) (thn (hi.run pins s σ H _ I h) fun xv s1 hx => thn hx fun itv s2 h2 => ?_)
  obtain ⟨it, fp, tn, J, H2, rfl, I2, T, st2, f2, q⟩ := h2
  refine PpSet.newSet_ok (newEnv_comp ?_)
  generalize hD : s2.heap.objs.size = D
  obtain ⟨W, ⟨m0, w0⟩, turn⟩ := q D (I2.hok.fresh (Nat.le_of_eq hD))
  generalize ho : ({ cls := .type "set", dict := none, data := .set #[] 0 (.fresh 0 0 (!X.w.params.followText "set-order")) } : Obj) = ob
  generalize hs3 : ({ s2 with heap := s2.heap.push ob } : Shared) = s3
  have hp3 : s3.heap = s2.heap.push ob := by rw [← hs3]
  have k23 : ∀ b o, s2.heap.get? b = some o → s3.heap.get? b = some o := fun b o e => by
    rw [hp3]
    exact Heap.get?_push_of_some _ e
  have I3 : Inv X pins σ (upd H2 D (SetO X.w D (fun _ => false) 0)) s3 := by
    rw [← hs3]
    refine I2.laid (t' := s2.toks) (fun b o e => Heap.get?_push_of_some _ e) (Nat.le_of_eq hD) ?_
    rw [← hD, ← ho]
    exact setO_new (setR_fresh X.w)
  have at2 : ∀ b ∈ fp, b < s2.heap.objs.size := fun b hb => let ⟨o, e, _⟩ := T.obj _ _ st2 b hb; Heap.lt_size e
  have f3 : ∀ b ∈ fp, FpOk X pins (upd H2 D (SetO X.w D (fun _ => false) 0)) b ∧ b < s3.heap.objs.size := fun b hb => by
    have lt := at2 b hb
    refine ⟨⟨(upd_ne (Nat.ne_of_lt (hD ▸ lt))).trans (f2 b hb).1, (f2 b hb).2⟩, ?_⟩
    rw [hp3, Heap.size_push]
    exact Nat.lt_succ_of_lt lt
  generalize upd H2 D (SetO X.w D (fun _ => false) 0) = H3 at I3 f3 w0
  have I4 := block_start I3 ok nd f3
  have pg := hg s3 H3 s3.heap.objs.size (cellsFrom (s3.heap.objs.size + 1) scope.names (cloFrom X.env.cells scope.names [])) fp
  have pe := he s3 H3 s3.heap.objs.size (cellsFrom (s3.heap.objs.size + 1) scope.names (cloFrom X.env.cells scope.names [])) fp
  have new : ∀ b ∈ fp, H3 b = none := fun b hb => (f3 b hb).1.1
  show codeAny _ _ (.compStart (setGen elt tg iter scope pos) 0 (.ref it) (.ref D) (compEnvC scope (cellsFrom (s3.heap.objs.size + 1) scope.names (cloFrom X.env.cells scope.names [])) s3.heap.objs.size X.env)) (compPost _ _ _ none _ (.ref D) s3.heap.objs.size) { s3 with heap := pushCells (s3.heap.push { cls := .type "dict", data := .dict #[] }) scope.names }
  unfold blkAt at pg pe
  generalize hce : compEnvC scope (cellsFrom (s3.heap.objs.size + 1) scope.names (cloFrom X.env.cells scope.names [])) s3.heap.objs.size X.env = ce at I4 pg pe ⊢
  have lc : ce.locals = s3.heap.objs.size := by rw [← hce]; rfl
  generalize hs4 : ({ s3 with heap := pushCells (s3.heap.push { cls := .type "dict", data := .dict #[] }) scope.names } : Shared) = s4 at I4 ⊢
  have st4 : tn 0 s4.heap := T.keep _ _ _ st2 fun b _ o e => by
    rw [← hs4]
    exact pushCells_keeps _ _ _ _ (Heap.get?_push_of_some _ (k23 b o e))
  have still : ∀ {σ' : L2.St} {H' : Hp} {s' : Shared}, Inv (X.blk s3 H3 scope ce fp) [] σ' H' s' → (∀ b ∈ fp, H' b = none) → ∀ b ∈ fp, FpOk (X.blk s3 H3 scope ce fp) [] H' b := fun I' n b hb =>
    ⟨n b hb, (I'.ok.exf b hb).1, I'.ok.exfs b hb, .inl hb, (I'.ok.exf b hb).2, fun p hp => absurd (show p ∈ ([] : List (Addr × Obj)) ++ [] from hp) (by simp)⟩
  generalize hI0 : (fun (n : Nat) (s' : Shared) => ∃ i H', Inv (X.blk s3 H3 scope ce fp) [] (wipe σ (own.map (·.2))) H' s' ∧ tn i s'.heap ∧ (∀ b ∈ fp, H' b = none) ∧ W i n H') = I0
  have run : ∀ (n : Nat) s', I0 n s' → codeAny (model X.prog X.w) X.A (.compLoop (setGen elt tg iter scope pos) 0 (.ref it) (.ref D) ce) (compPost (model X.prog X.w) X.A X.xe none (EP X pins σ Q) (.ref D) s3.heap.objs.size) s' := by
    intro n s' hIn
    refine PpSet.compLoopS_any I0 ?_ n hIn
    clear hIn
    subst hI0
    rintro n s5 ⟨i, H5, I5, st5, n5, w5⟩
    rcases turn i n H5 w5 with ⟨stop, qq⟩ | ⟨go, Nx, hNx, step⟩
    · -- no more items: back in the def
      refine thnF (T.done (X.blk s3 H3 scope ce fp) rfl rfl rfl calm i [] s5 _ H5 (fun _ _ => False) I5 (still I5 n5) st5 stop) fun r s6 ⟨hr, I6⟩ => ?_
      subst hr
      have I7 : Inv X pins σ H5 s6 := I3.call' (ch := fp) I6.os I6.base I6.hok I6.bare fun b hb => let z := (f3 b hb).1.2; ⟨z.2.2.1, z.1, z.2.2.2.1, z.2.2.2.2⟩
      have free : H5 s3.heap.objs.size = none := lc ▸ I6.free
      obtain ⟨m, hn, _⟩ := I6.loc
      obtain ⟨c1, c2, c3, c4, c5, c6⟩ := I3.fpOk (Nat.le_refl _) free
      refine ⟨m, lc ▸ hn, fun g sb => ⟨.ref D, H5, I7.turned (t' := s6.toks) (fun b o hb e => (sb.2 b hb).trans e) c1 c2 c4 c5 c6, rfl, qq⟩⟩
    · refine thnF (T.item (X.blk s3 H3 scope ce fp) rfl rfl rfl calm i [] s5 _ H5 (fun _ _ => False) I5 (still I5 n5) st5 go) fun r s6 ⟨u, hr, h6⟩ => ?_
      subst hr
      refine thnF h6 fun _ s7 ⟨x, H7, I7, r7, y7, st7, n7⟩ => ?_
      refine thnF (pg.run _ s7 _ H7 x u _ (I7.pinned (still I7 n7) (T.obj _ _ st7)) r7 (step x H7 y7)) fun _ s8 ⟨σ8, H8, I8, hw8, q8⟩ => ?_
      rw [List.forIn_nil]
      refine wpAny_pure ?_
      rw [if_pos rfl]
      refine thnF (pe.run _ s8 σ8 H8 _ I8 q8) fun z s10 ⟨yv, H10, I10, r10, k, S0, n0, ey, hD10, room, nx⟩ => ?_
      subst ey
      obtain ⟨tk, rfl⟩ := r10
      refine addI_run (X := X.blk s3 H3 scope ce fp) I10 hD10 room fun s11 I11 => ?_
      obtain ⟨m', hm, w'⟩ := hNx _ nx
      have pin : ∀ b ∈ fp, ∀ o, s7.heap.get? b = some o → s11.heap.get? b = some o ∧ _ = none := fun b hb o e =>
        let z := I11.pin (b, o) (List.mem_append_right _ (List.mem_append_right _ (mem_pinsAt hb e)))
        ⟨z.1, z.2.1⟩
      refine ⟨m', hm, i + 1, _, (I11.unpinned (pins := [])).weak (by rw [← hw8, wipe_length]) (fun j v e => ?_), T.keep _ _ _ st7 fun b hb o e => (pin b hb o e).1, fun b hb => ?_, w'⟩
      · rw [← hw8] at e
        exact (wipe_some e).1
      · obtain ⟨o, e, _⟩ := T.obj _ _ st7 b hb
        exact (pin b hb o e).2
  have loop := run m0 s4 (by subst hI0; exact ⟨0, H3, I4, st4, new, w0⟩)
  exact PpSet.codeAny_compStart_set loop (T.self X.A 0 _ _ _ st4 loop)
end
end Wy

set_option Elab.async false
set_option linter.all false
set_option maxRecDepth 100000
set_option maxHeartbeats 4000000
/-! Wv: values over what is known: sets sorted, ends, comprehensions along a mirror. -/
namespace Wy
open PySem PySem.Spec PyProof.Rows L2 Evl
section
variable {K : PySem.W.Frag} {σ : L2.St} {H H' : Hp} {ta tb te tx tl : TE} {t u : TT} {x y z v : V} {r : R2} {D : Ends} {tu tw tz ts : TS} {g : TG} {P P' : V → Hp → Prop}
theorem ev_maxDef {p : Addr} {ns : List Int} (ha : Ev ta σ H (.ref p)) (h : SqL K H p (ns.map V.int)) : Ev (tCKw (rMaxDef K) (tCons ta tNil) (tCons (tC .non) tNil)) σ H (ov (if 0 < ns.length then some (maxL ns) else none)) := fun H1 e Q q =>
  ha H1 e _ fun H2 e2 => ⟨p, ns, rfl, rfl, ex_l (e.trans e2) h, fun h0 => by
    subst h0
    exact q H2 e2, fun m hm hle => by
    rw [if_pos (List.length_pos_of_mem hm), ← maxL_eq hm hle] at q
    exact q H2 e2⟩
theorem ev_minDef {p : Addr} {ns : List Int} (ha : Ev ta σ H (.ref p)) (h : SqL K H p (ns.map V.int)) : Ev (tCKw (rMinDef K) (tCons ta tNil) (tCons (tC .non) tNil)) σ H (ov (if 0 < ns.length then some (minL ns) else none)) := fun H1 e Q q =>
  ha H1 e _ fun H2 e2 => ⟨p, ns, rfl, rfl, ex_l (e.trans e2) h, fun h0 => by
    subst h0
    exact q H2 e2, fun m hm hle => by
    rw [if_pos (List.length_pos_of_mem hm), ← minL_eq hm hle] at q
    exact q H2 e2⟩
/-- sorted({e for x in xs}), e an int -/
theorem en_sortSc {w : World} {a : Addr} {xs : List V} {j : Nat} {vs : List Nat} (f : Nat → Int) (h : Ev tl σ H (.ref a)) (hx : SqL K H a xs) (hz : xs.length < 60) (hw : ∀ x, wipe ((wipe σ vs).set j (some x)) vs = wipe σ vs)
    (he : ∀ (i : Nat) x, xs[i]? = some x → Ev te ((wipe σ vs).set j (some x)) H (.int (f i))) :
    EvN (tCB (rSortedSet w) (tCons (tSci w (iList K tl) (gName j) te vs) tNil)) σ H fun v N => ∃ (p : Addr) (ns : List Int), v = .ref p ∧ N p = some (.lst (ns.map V.int)) ∧ ns.Pairwise (· < ·) ∧ ∀ k, k ∈ ns ↔ ∃ i, i < xs.length ∧ f i = k := fun H0 e Q q =>
  h H0 e _ fun H1 e1 => ⟨a, rfl, ⟨xs, ex_l (e.trans e1) hx⟩, fun D hD => by
    refine ⟨fun i m H' => m = xs.length - i ∧ i ≤ xs.length ∧ Ex H1 H' ∧ ∃ S n, H' D = some (SetO w D S n) ∧ n ≤ i ∧ ∀ k, S k = true ↔ ∃ l, l < i ∧ f l = k, ⟨xs.length, by simp, Nat.zero_le _, Ex.new hD, _, 0, upd_same, Nat.le_refl _, fun k => ⟨fun c => (by cases c), fun ⟨l, c, _⟩ => absurd c (Nat.not_lt_zero _)⟩⟩, ?_⟩
    rintro i m H' ⟨rfl, hi, ex, S, n, hS, hn, mem⟩
    have hx' : SqL K H' a xs := ex_l ((e.trans e1).trans ex) hx
    by_cases lt : i < xs.length
    · refine .inr ⟨⟨xs, xs[i], hx', List.getElem?_eq_getElem lt⟩, fun H2 => i + 1 ≤ xs.length ∧ Ex H1 H2 ∧ ∃ S n, H2 D = some (SetO w D S n) ∧ n ≤ i + 1 ∧ ∀ k, S k = true ↔ ∃ l, l < i + 1 ∧ f l = k, fun H2 p => ⟨xs.length - (i + 1), by omega, rfl, p⟩, fun x H2 y => ?_⟩
      obtain ⟨rfl, y⟩ := y
      refine ⟨hw x, he i x (y xs hx') H2 ((e.trans e1).trans ex) _ fun H3 e3 => ⟨f i, S, n, rfl, e3 _ _ hS, ?_, lt, Ex.mut (ex.trans e3) hD, _, _, upd_same, ?_, fun k => ?_⟩⟩
      · unfold scanBound
        omega
      · split <;> omega
      · rw [Bool.or_eq_true, decide_eq_true_eq, mem k]
        constructor
        · rintro (⟨l, c1, c2⟩ | c)
          · exact ⟨l, by omega, c2⟩
          · exact ⟨i, by omega, c.symm⟩
        · rintro ⟨l, c1, c2⟩
          by_cases c : l = i
          · exact .inr (by rw [← c2, c])
          · exact .inl ⟨l, by omega, c2⟩
    · have ei : i = xs.length := by omega
      subst ei
      refine .inl ⟨⟨xs, hx', Nat.le_refl _⟩, D, S, n, rfl, hS, by omega, fun ns p up mem' _ hp => q (.ref p) (one p (.lst (ns.map V.int))) _ (fun b z => by
        rw [one_ne z]
        exact fresh_back (e1.trans ex) hp) ⟨p, ns, rfl, one_at, up, fun k => (mem' k).trans (mem k)⟩ (one_ex upd_same) ((e1.trans ex).trans (Ex.new hp))⟩⟩
theorem rv_ixE {p : Addr} {xs : List V} {i : Int} (h : SqL K H p xs ∨ SqT K H p xs) (ha : atI xs i = some v) : RV (rIx K) (.ref p) (.int i) H v := fun H1 e Q q => h.elim (fun h => .inl (rv_ixL h ha H1 e Q q)) fun h => .inr (.inl (rv_ixT h ha H1 e Q q))
/-- x, y, z = t and x, y = t of tuples that stand -/
theorem sv_un3 {i j k : Nat} {a : Addr} (h : Ev te σ H (.ref a)) (hx : SqT K H a [x, y, z]) (n : Sv tz D (((σ.set i (some x)).set j (some y)).set k (some z)) H) : Sv (tSeq (tAsg te (gTup K 3 (gCons (gName i) (gCons (gName j) (gCons (gName k) gNil))))) tz) D σ H := fun H1 e =>
  h H1 e _ fun H2 e2 => ⟨a, _, rfl, ex_t (e.trans e2) hx, rfl, x, _, rfl, y, _, rfl, z, _, rfl, rfl, n H2 (e.trans e2)⟩
theorem sv_un2 {i j : Nat} {P : V → Hp → Prop} (h : EvP te σ H P) (n : ∀ v H2, Ex H H2 → P v H2 → ∃ a x y, v = .ref a ∧ SqT K H2 a [x, y] ∧ Sv tz D ((σ.set i (some x)).set j (some y)) H2) : Sv (tSeq (tAsg te (gTup K 2 (gCons (gName i) (gCons (gName j) gNil)))) tz) D σ H := fun H1 e =>
  h H1 e _ fun v H2 e2 p => by
    obtain ⟨a, x, y, rfl, hx, s⟩ := n v H2 (e.trans e2) p
    exact ⟨a, _, rfl, hx, rfl, x, _, rfl, y, _, rfl, rfl, s H2 (Ex.refl _)⟩
/-- [e for x in xs], xs and its mirror -/
theorem el_lcM {α : Type} {a : Addr} {xs : List V} {ms : List α} {j : Nat} {vs : List Nat} (f : α → V) (h : Ev tl σ H (.ref a)) (hx : SqL K H a xs) (hl : xs.length = ms.length) (hz : xs.length ≤ 40000) (hw : ∀ x, wipe ((wipe σ vs).set j (some x)) vs = wipe σ vs)
    (he : ∀ (i : Nat) x m, xs[i]? = some x → ms[i]? = some m → Ev te ((wipe σ vs).set j (some x)) H (f m)) : EvL (tLc (iList K tl) (gName j) tYes te vs) σ H (ms.map f) := by
  have g : EvL (tLc (iList K tl) (gName j) tYes te vs) σ H (given xs.length (fun _ => true) fun i => (ms.map f).getD i .non) := el_lcL (fun _ => true) (fun i => (ms.map f).getD i .non) h hx hz hw (fun i x H1 e hi H2 e2 Q q => q H2 (Ex.refl H2)) fun i x H1 e hi _ => by
    have li := (List.getElem?_eq_some_iff.mp hi).1
    have hm : ms[i]? = some (ms[i]'(by omega)) := List.getElem?_eq_getElem _
    rw [List.getD_eq_getElem?_getD, List.getElem?_map, hm]
    exact (he i x _ hi hm).mono e
  have eg : given xs.length (fun _ => true) (fun i => (ms.map f).getD i .non) = ms.map f := by
    unfold given
    rw [List.filter_eq_self.mpr (fun _ _ => rfl)]
    have g := range_get V.non (ms.map f) id
    rw [List.map_id, List.length_map, ← hl] at g
    exact g
  rw [eg] at g
  exact g
/-- all(xs) of truths -/
theorem ev_allB {bs : List Bool} (h : EvL te σ H (bs.map V.bl)) : Ev (tCB (rAll K) (tCons te tNil)) σ H (.bl (bs.all id)) := fun H1 e Q q =>
  h H1 e (fun v H2 => rAll K [v] H2 Q) fun p H2 n e2 hp => ⟨p, bs, rfl, sq_of hp, q H2 e2⟩
theorem all_id {α : Type} (l : List α) (f : α → Bool) : ((l.map f).all id) = l.all f := by
  rw [List.all_map]
  rfl
theorem wt_filter {ws : List V} {ts : List Tri} (p : Tri → Bool) (h : Wt K H ws ts) : Wt K H (given ts.length (fun i => p (ts.getD i t0)) fun i => ws.getD i .non) (ts.filter p) := by
  have g : ∀ n, n ≤ ts.length → Wt K H (given n (fun i => p (ts.getD i t0)) fun i => ws.getD i .non) ((ts.take n).filter p) := fun n => by
    induction n with
    | zero => exact fun _ => Wt.nil
    | succ n ih =>
      intro hn
      have hi : ts[n]? = some (ts[n]'(by omega)) := List.getElem?_eq_getElem _
      obtain ⟨q, a, b⟩ := h.2 n _ hi
      have et : ts.getD n t0 = ts[n]'(by omega) := getD_at hi
      have ew : ws.getD n .non = .ref q := by
        rw [List.getD_eq_getElem?_getD, a]
        rfl
      rw [take_snoc hi, List.filter_append]
      by_cases c : p (ts[n]'(by omega)) = true
      · rw [given_yes (by rw [et]; exact c), List.filter_cons_of_pos c, ew]
        exact (ih (by omega)).snoc b
      · rw [given_no (by rw [et]; simpa using c), List.filter_cons_of_neg c, List.filter_nil, List.append_nil]
        exact ih (by omega)
  have g2 := g ts.length (Nat.le_refl _)
  rw [List.take_length] at g2
  exact g2
end
/-! ### the merged wish by its columns -/
theorem spoken_iff {c : Int} {ts : List Tri} : spoken c ts ↔ ∃ t, t ∈ ts ∧ t.c = c := by
  unfold spoken
  rw [List.length_pos_iff_exists_mem]
  constructor
  · rintro ⟨t, h⟩
    obtain ⟨h1, h2⟩ := List.mem_filter.mp h
    exact ⟨t, h1, of_decide_eq_true h2⟩
  · rintro ⟨t, h1, h2⟩
    exact ⟨t, List.mem_filter.mpr ⟨h1, decide_eq_true h2⟩⟩
def triOf (ts : List Tri) (c : Int) : Tri := ⟨c, endLo c ts, endHi c ts⟩
def colsTo (ts : List Tri) : Nat → List Int
  | 0 => []
  | k + 1 => colsTo ts k ++ if spoken (k : Int) ts then [(k : Int)] else []
theorem mergedTo_cols (ts : List Tri) : ∀ k, mergedTo ts k = (colsTo ts k).map (triOf ts)
  | 0 => rfl
  | k + 1 => by
    show mergedTo ts k ++ _ = (colsTo ts k ++ _).map _
    rw [List.map_append, mergedTo_cols ts k]
    split <;> rfl
theorem colsTo_mem (ts : List Tri) (c : Int) : ∀ k, c ∈ colsTo ts k ↔ spoken c ts ∧ 0 ≤ c ∧ c < k
  | 0 => ⟨fun h => (by cases h), fun h => (by omega)⟩
  | k + 1 => by
    show c ∈ colsTo ts k ++ (if spoken (k : Int) ts then [(k : Int)] else []) ↔ _
    rw [List.mem_append, colsTo_mem ts c k]
    constructor
    · rintro (⟨h1, h2, h3⟩ | h)
      · exact ⟨h1, h2, by omega⟩
      · split at h
        · rename_i hs
          have e := List.mem_singleton.mp h
          exact ⟨e ▸ hs, by omega, by omega⟩
        · cases h
    · rintro ⟨h1, h2, h3⟩
      by_cases e : c = k
      · subst e
        rw [if_pos h1]
        exact .inr (List.mem_singleton.mpr rfl)
      · exact .inl ⟨h1, h2, by omega⟩
theorem colsTo_up (ts : List Tri) : ∀ k, (colsTo ts k).Pairwise (· < ·)
  | 0 => List.Pairwise.nil
  | k + 1 => by
    refine List.pairwise_append.mpr ⟨colsTo_up ts k, ?_, fun a ha b hb => ?_⟩
    · split
      · exact List.pairwise_singleton _ _
      · exact List.Pairwise.nil
    · split at hb
      · have e := List.mem_singleton.mp hb
        have := ((colsTo_mem ts a k).mp ha).2.2
        omega
      · cases hb
theorem up_eq {l m : List Int} (hl : l.Pairwise (· < ·)) (hm : m.Pairwise (· < ·)) (h : ∀ k, k ∈ l ↔ k ∈ m) : l = m := by
  have n1 : l.Nodup := hl.imp fun h e => by omega
  have n2 : m.Nodup := hm.imp fun h e => by omega
  exact ((List.perm_ext_iff_of_nodup n1 n2).mpr h).eq_of_pairwise (fun a b _ _ h1 h2 => by omega) hl hm
theorem cols_merged {ns : List Int} {ts : List Tri} (up : ns.Pairwise (· < ·)) (mem : ∀ k, k ∈ ns ↔ ∃ t, t ∈ ts ∧ t.c = k) (h : ∀ t ∈ ts, 0 ≤ t.c ∧ t.c < 6) : mergedM ts = ns.map (triOf ts) := by
  have e : ns = colsTo ts 6 := up_eq up (colsTo_up ts 6) fun k => by
    rw [mem k, colsTo_mem, spoken_iff]
    constructor
    · rintro ⟨t, h1, h2⟩
      have := h t h1
      exact ⟨⟨t, h1, h2⟩, by omega, by omega⟩
    · exact fun g => g.1
  rw [e]
  exact mergedTo_cols ts 6
theorem lows_at (c : Int) (ts : List Tri) : (((ts.filter fun t => decide (t.c = c)).filter fun t => decide (¬ t.lo = none)).map fun t => t.lo.getD 0) = lowsM c ts := by
  unfold lowsM
  rw [List.filter_filter]
  congr 1
  exact List.filter_congr fun t _ => by
    rw [← Bool.decide_and]
    exact decide_eq_decide.mpr and_comm
theorem highs_at (c : Int) (ts : List Tri) : (((ts.filter fun t => decide (t.c = c)).filter fun t => decide (¬ t.hi = none)).map fun t => t.hi.getD 0) = highsM c ts := by
  unfold highsM
  rw [List.filter_filter]
  congr 1
  exact List.filter_congr fun t _ => by
    rw [← Bool.decide_and]
    exact decide_eq_decide.mpr and_comm
end Wy

set_option Elab.async false
set_option linter.all false
set_option maxRecDepth 100000
set_option maxHeartbeats 4000000
namespace K4
open PySem PySem.Spec PyProof.Rows L2 Evl Wy
local macro_rules | `(tactic| walk_at "s") => `(tactic| first
  | (with_reducible exact ev_c)
  | ((with_reducible apply ev_var); rfl)
  | (with_reducible exact rv_I0)
  | (with_reducible exact rp_eqI)
  | (with_reducible exact rp_neI)
  | ((with_reducible apply rv_mod); (first | decide | omega))
  | ((with_reducible apply rv_div); decide; decide)
  | ((with_reducible apply rv_mulL); (first | decide | omega); (first | decide | omega))
  | ((with_reducible apply rv_mulR); (first | decide | omega); (first | decide | omega))
  | ((with_reducible apply rv_powS); exact ⟨by decide, by decide, by decide⟩)
  | (with_reducible apply ev_op)
  | (with_reducible apply ev_cl)
  | (with_reducible apply ea_cons)
  | (with_reducible exact ea_nil)
  | (with_reducible apply tp_cmp)
  | (with_reducible apply tp_val)
  | (with_reducible apply tp_and)
  | (with_reducible apply tp_or)
  | (with_reducible apply tp_not)
  | ((with_reducible apply ev_lenI); (walk_at "s"); (walk_at "s"))
  | (with_reducible apply ev_len)
  | (with_reducible apply ev_min2)
  | (with_reducible assumption)
  | (intro hq; (with_reducible show EvT _ _ _ _)))

def topS (i : Nat) : Stmt := PySem.Challenge.pw_waybook_k04_rows_that_fit.main.body.getD i (.Pass ⟨0, 0, 0, 0⟩)
abbrev s_fits : Stmt := topS 1
theorem sc_fits : FnScope ["row", "wish", "triple"] ["row", "wish"] (defScope s_fits) := ⟨rfl, rfl, rfl, by decide +kernel, rfl, by decide +kernel, by decide +kernel⟩
abbrev s_fits_triple : Stmt := topS 2
theorem sc_fits_triple : FnScope ["row", "triple", "column", "low", "high"] ["row", "triple"] (defScope s_fits_triple) := ⟨rfl, rfl, rfl, by decide +kernel, rfl, by decide +kernel, by decide +kernel⟩
abbrev s_l_at : Stmt := topS 4
theorem sc_l_at : FnScope ["_law_script", "_law_k"] ["_law_script", "_law_k"] (defScope s_l_at) := ⟨rfl, rfl, rfl, by decide +kernel, rfl, by decide +kernel, by decide +kernel⟩
abbrev s_l_value : Stmt := topS 5
theorem sc_l_value : FnScope ["_law_cell"] ["_law_cell"] (defScope s_l_value) := ⟨rfl, rfl, rfl, by decide +kernel, rfl, by decide +kernel, by decide +kernel⟩
abbrev s_l_triple : Stmt := topS 6
theorem sc_l_triple : FnScope ["_law_cell", "_law_row", "_law_column", "_law_low", "_law_high", "_law_way"] ["_law_cell", "_law_row"] (defScope s_l_triple) := ⟨rfl, rfl, rfl, by decide +kernel, rfl, by decide +kernel, by decide +kernel⟩
abbrev s_l_fits : Stmt := topS 7
theorem sc_l_fits : FnScope ["_law_row", "_law_wish", "_law_one"] ["_law_row", "_law_wish"] (defScope s_l_fits) := ⟨rfl, rfl, rfl, by decide +kernel, rfl, by decide +kernel, by decide +kernel⟩
abbrev s_law : Stmt := topS 8
theorem sc_law : FnScope ["_law_script", "_law_width", "_law_row", "_law_size", "_law_wish", "_law_handed", "_law_told", "_law_found", "_law_k"] ["_law_script"] (defScope s_law) := ⟨rfl, rfl, rfl, by decide +kernel, rfl, by decide +kernel, by decide +kernel⟩

/-! ### the mathematics -/
theorem take_more {xs ys : List Int} {i : Nat} {x y : Int} (h : xs.take i = ys.take i) (hx : xs[i]? = some x) (hy : ys[i]? = some y) (e : x = y) : xs.take (i + 1) = ys.take (i + 1) := by
  rw [List.take_add_one, List.take_add_one, hx, hy, h, e]
theorem int_at {ns : List Int} {i : Nat} {x : V} (h : (ns.map V.int)[i]? = some x) : ∃ n, ns[i]? = some n ∧ x = .int n := by
  rw [List.getElem?_map] at h
  cases e : ns[i]? with
  | none => rw [e] at h; cases h
  | some n => rw [e] at h; exact ⟨n, rfl, (Option.some.inj h).symm⟩
def cell (ns : List Int) (k : Int) : Int := if k < ns.length then ns.getD k.toNat 0 else 0
def value (c : Int) : Int := if c % 8 = 0 then c / 8 % (2 * 10 ^ 30) - 10 ^ 30 else if c % 8 = 1 then c / 8 % 9 - 4 else c / 8 % 3

def triple (c : Int) (rs : List Int) : Tri :=
  let col := c % 6 % (rs.length : Int)
  let lo := if c / 6 % 2 = 0 then value (c / 60) else rs.getD col.toNat 0 + c / 60 % 3 - 1
  let hi := if c / 6 % 2 = 0 then value (c / 180) else rs.getD col.toNat 0 + c / 180 % 3 - 1
  if c / 12 % 5 = 0 then ⟨col, none, none⟩ else if c / 12 % 5 = 1 then ⟨col, some lo, none⟩ else if c / 12 % 5 = 2 then ⟨col, none, some hi⟩ else if c / 12 % 5 = 3 then ⟨col, some lo, some lo⟩ else ⟨col, some lo, some hi⟩
theorem triple_c (c : Int) (rs : List Int) : (triple c rs).c = c % 6 % (rs.length : Int) := by
  unfold triple
  simp only
  split
  · rfl
  · split
    · rfl
    · split
      · rfl
      · split <;> rfl

/-! ### the promises -/
section
variable {P : Program} {w : World} {K : PySem.W.Frag} {mg : Str → Option Value} {base : Heap}
def RAt (K : PySem.W.Frag) : List V → Hp → V → Prop := fun vs H z => ∃ (a : Addr) (ns : List Int) (k : Int), vs = [.ref a, .int k] ∧ SqL K H a (ns.map V.int) ∧ 0 ≤ k ∧ z = .int (cell ns k)
def RValue : List V → Hp → V → Prop := fun vs _ z => ∃ c : Int, vs = [.int c] ∧ z = .int (value c)
def RFits (K : PySem.W.Frag) : List V → Hp → V → Prop := fun vs H z => ∃ (a b : Addr) (rs : List Int) (ws : List V) (ts : List Tri), vs = [.ref a, .ref b] ∧ (SqL K H a (rs.map V.int) ∨ SqT K H a (rs.map V.int)) ∧ SqL K H b ws ∧ Wt K H ws ts ∧ ts.length ≤ 20 ∧ (∀ t ∈ ts, 0 ≤ t.c ∧ t.c < rs.length) ∧ z = .bl (fitsM rs ts)
def RLFits (K : PySem.W.Frag) : List V → Hp → V → Prop := fun vs H z => ∃ (a b : Addr) (rs : List Int) (ws : List V) (ts : List Tri), vs = [.ref a, .ref b] ∧ SqL K H a (rs.map V.int) ∧ SqL K H b ws ∧ Wt K H ws ts ∧ (∀ t ∈ ts, 0 ≤ t.c ∧ t.c < rs.length) ∧ z = .bl (fitsM rs ts)
structure Zs (mg : Str → Option Value) : Prop where
  all : mg "all" = none
  list : mg "list" = none
  len : mg "len" = none
  range : mg "range" = none
  tuple : mg "tuple" = none
  isinstance : mg "isinstance" = none
  bool : mg "bool" = none

theorem ok_at {f : Addr} {fd : FuncData} {k : Nat} (F : Fun K "_law_at" "_law_at" s_l_at f fd) (Z : Zs mg) : FnOk P w K mg base CX0 (k + 1) f fd ["_law_script", "_law_k"] (SpR 2 (RAt K)) := by
  refine F.ok sc_l_at (fun vs H Q E h => h.1) (fun cdv A outer s H vs Q E hr h => ?_)
  obtain ⟨_, z, ⟨a, ns, k, rfl, hS, h0, rfl⟩, q⟩ := h
  refine ⟨_, (pss_cons (ps_if (pt_cmpR op_lt (pv 1) (pe_callB (id := "len") (r := rLenS K) c_len (by rfl) Z.len PySem.boot_len (pa_cons (pv 0) pa_nil)) (nomark _)) (pss_one (ps_ret (pe_ix (r := rIxL K) ix_list (pv 0) (pv 1) (fun _ _ => rfl)))) pss_nil)
      (pss_one (ps_ret pe_int))), ?_⟩
  try dsimp only [cx_K]
  refine Sv.at (sv_when (p := k < (ns.length : Int)) ?_ (fun hk => ?_) (fun hk => ?_))
  · repeat' walk_at "s"
  · refine sv_rq q ?_
    have e : cell ns k = ns.getD k.toNat 0 := if_pos hk
    rw [e]
    refine ev_op (ev_var rfl) (ev_var rfl) (rv_ixI hS h0 hk)
  · refine sv_rq q ?_
    have e : cell ns k = 0 := if_neg hk
    rw [e]
    exact ev_c
theorem ok_value {f : Addr} {fd : FuncData} {k : Nat} (F : Fun K "_law_value" "_law_value" s_l_value f fd) : FnOk P w K mg base CX0 (k + 1) f fd ["_law_cell"] (SpR 1 RValue) := by
  refine F.ok sc_l_value (fun vs H Q E h => h.1) (fun cdv A outer s H vs Q E hr h => ?_)
  obtain ⟨_, z, ⟨c, rfl, rfl⟩, q⟩ := h
  refine ⟨_, (pss_cons (ps_if (pt_cmpR op_eq (pe_op op_mod (pv 0) pe_int) pe_int (nomark _)) (pss_one (ps_ret (pe_op op_sub (pe_op op_mod (pe_op op_fdiv (pv 0) pe_int) (pe_op op_mul pe_int (pe_op op_pow pe_int pe_int))) (pe_op op_pow pe_int pe_int)))) pss_nil)
      (pss_cons (ps_if (pt_cmpR op_eq (pe_op op_mod (pv 0) pe_int) pe_int (nomark _)) (pss_one (ps_ret (pe_op op_sub (pe_op op_mod (pe_op op_fdiv (pv 0) pe_int) pe_int) pe_int))) pss_nil)
      (pss_one (ps_ret (pe_op op_mod (pe_op op_fdiv (pv 0) pe_int) pe_int))))), ?_⟩
  try dsimp only [cx_K]
  refine Sv.at (sv_when (p := c % 8 = 0) (by repeat' walk_at "s") (fun h0 => ?_) (fun h0 => sv_when (p := c % 8 = 1) (by repeat' walk_at "s") (fun h1 => ?_) (fun h1 => ?_)))
  · have e : value c = c / 8 % (2 * 10 ^ 30) - 10 ^ 30 := if_pos h0
    rw [e] at q
    refine sv_rq q ?_
    have e2 : (10 : Int) ^ (30 : Int).toNat = 10 ^ 30 := rfl
    refine ev_eq (v := .int (c / 8 % (2 * 10 ^ (30 : Int).toNat) - 10 ^ (30 : Int).toNat)) ?_ (by rw [e2])
    repeat' walk_at "s"
  · have e : value c = c / 8 % 9 - 4 := (if_neg h0).trans (if_pos h1)
    rw [e] at q
    refine sv_rq q ?_
    repeat' walk_at "s"
  · have e : value c = c / 8 % 3 := (if_neg h0).trans (if_neg h1)
    rw [e] at q
    refine sv_rq q ?_
    repeat' walk_at "s"

theorem spv_at {H : Hp} {a : Addr} {ns : List Int} {k : Int} (h : SqL K H a (ns.map V.int)) (h0 : 0 ≤ k) : SpV (SpR 2 (RAt K)) [.ref a, .int k] H (.int (cell ns k)) := spv rfl fun H1 e => ⟨a, ns, k, rfl, ex_l e h, h0, rfl⟩
theorem spv_value {H : Hp} {c : Int} : SpV (SpR 1 RValue) [.int c] H (.int (value c)) := spv rfl fun H1 e => ⟨c, rfl, rfl⟩

local macro_rules | `(tactic| walk_at "s") => `(tactic| first
  | ((with_reducible apply spv_at); (walk_at "s"); (first | decide | omega))
  | (with_reducible exact spv_value))
theorem ok_lfits {f : Addr} {fd : FuncData} {k : Nat} (F : Fun K "_law_fits" "_law_fits" s_l_fits f fd) (Z : Zs mg) : FnOk P w K mg base CX0 (k + 1) f fd ["_law_row", "_law_wish"] (SpR 2 (RLFits K)) := by
  refine F.ok sc_l_fits (fun vs H Q E h => h.1) (fun cdv A outer s H vs Q E hr h => ?_)
  obtain ⟨_, z, ⟨a, b, rs, ws, ts, rfl, ha, hb, hw, hc, rfl⟩, q⟩ := h
  refine ⟨_, (pss_cons (ps_for PassesOwn.never rfl (pi_list (pv 1)) (pg_name (i := 2) sc_l_fits.nd rfl (Or.inl rfl)) (pss_cons (ps_if (PW.pt (pw_and (pt_cmpR o_notN (pe_ix (r := rIxT K) ix_tup (pv 2) pe_int (fun _ _ => rfl)) pe_non (nomark _)) (pw_and1 (pt_cmpR op_lt (pe_ix (r := rIxL K) ix_list (pv 0) (pe_ix (r := rIxT K) ix_tup (pv 2) pe_int (fun _ _ => rfl)) (fun _ _ => rfl)) (pe_ix (r := rIxT K) ix_tup (pv 2) pe_int (fun _ _ => rfl)) (nomark _))))) (pss_one (ps_ret pe_bl)) pss_nil) (pss_one (ps_if (PW.pt (pw_and (pt_cmpR o_notN (pe_ix (r := rIxT K) ix_tup (pv 2) pe_int (fun _ _ => rfl)) pe_non (nomark _)) (pw_and1 (pt_cmpR op_gt (pe_ix (r := rIxL K) ix_list (pv 0) (pe_ix (r := rIxT K) ix_tup (pv 2) pe_int (fun _ _ => rfl)) (fun _ _ => rfl)) (pe_ix (r := rIxT K) ix_tup (pv 2) pe_int (fun _ _ => rfl)) (nomark _))))) (pss_one (ps_ret pe_bl)) pss_nil))))
      (pss_one (ps_ret pe_bl))), ?_⟩
  try dsimp only [cx_K]
  refine Sv.at (sv_forL (ev_var rfl) hb (fun i σ' H' => H' = H ∧ (∃ y, σ' = [some (.ref a), some (.ref b), y]) ∧ fitsM rs (ts.take i) = true) ⟨rfl, ⟨none, rfl⟩, rfl⟩ (fun i σ' H' h => by rw [h.1]; exact hb) ?_ ?_)
  · rintro i x σ' H' hx ⟨rfl, ⟨y, rfl⟩, ht⟩
    obtain ⟨t, p, htt, rfl, hp⟩ := hw.at hx
    have hct := hc t (List.mem_of_getElem? htt)
    have i0 : RV (rIxT K) (.ref p) (.int 0) H' (.int t.c) := rv_ixT hp (tv0 t)
    have i1 : RV (rIxT K) (.ref p) (.int 1) H' (ov t.lo) := rv_ixT hp (tv1 t)
    have i2 : RV (rIxT K) (.ref p) (.int 2) H' (ov t.hi) := rv_ixT hp (tv2 t)
    have ir : RV (rIxL K) (.ref a) (.int t.c) H' (.int (rs.getD t.c.toNat 0)) := rv_ixI ha hct.1 hct.2
    have e1 := fit1_eq rs t
    refine sv_when (p := ¬ t.lo = none ∧ rs.getD t.c.toNat 0 < t.lo.getD 0) ?_ (fun h => ?_) (fun h => ?_)
    · refine tp_and (tp_cmp (ev_op (ev_op (ev_var rfl) ev_c i1) ev_c rs_ov)) (fun hn => ?_)
      rw [ov_get hn] at i1
      repeat' walk_at "s"
    · have e : fitsM rs ts = false := fits_no htt (by rw [e1]; exact decide_eq_false fun k => k.1 h)
      rw [e] at q
      exact sv_rq q ev_c
    refine sv_if' (p := ¬ t.hi = none ∧ t.hi.getD 0 < rs.getD t.c.toNat 0) ?_ (fun h => ?_) (fun h2 => ?_)
    · refine tp_and (tp_cmp (ev_op (ev_op (ev_var rfl) ev_c i2) ev_c rs_ov)) (fun hn => ?_)
      rw [ov_get hn] at i2
      repeat' walk_at "s"
    · have e : fitsM rs ts = false := fits_no htt (by rw [e1]; exact decide_eq_false fun k => k.2 h)
      rw [e] at q
      exact sv_rq q ev_c
    · refine sv_kn ⟨rfl, ⟨_, rfl⟩, ?_⟩
      rw [fits_take htt, ht, e1, decide_eq_true ⟨h, h2⟩]
      rfl
  · rintro σ' H' ⟨rfl, ⟨y, rfl⟩, ht⟩
    rw [hw.1, List.take_length] at ht
    rw [ht] at q
    exact sv_rq q ev_c
theorem spv_lfits {H : Hp} {a b : Addr} {rs : List Int} {ws : List V} {ts : List Tri} (h1 : SqL K H a (rs.map V.int)) (h2 : SqL K H b ws) (h3 : Wt K H ws ts) (h4 : ∀ t ∈ ts, 0 ≤ t.c ∧ t.c < rs.length) : SpV (SpR 2 (RLFits K)) [.ref a, .ref b] H (.bl (fitsM rs ts)) :=
  spv rfl fun H1 e => ⟨a, b, rs, ws, ts, rfl, ex_l e h1, ex_l e h2, h3.mono e, h4, rfl⟩

def RTriple (K : PySem.W.Frag) : List V → Hp → (V → Hp → Prop) → Prop := fun vs H P => ∃ (c : Int) (a : Addr) (rs : List Int), vs = [.int c, .ref a] ∧ SqL K H a (rs.map V.int) ∧ 0 < rs.length ∧ P = IsTri (triple c rs)
theorem ok_triple {f : Addr} {fd : FuncData} (F : Fun K "_law_triple" "_law_triple" s_l_triple f fd) (Z : Zs mg) (c_l_value : Cl P w K mg base CX0 1 "_law_value" (SpR 1 RValue)) : FnOk P w K mg base CX0 2 f fd ["_law_cell", "_law_row"] (SpNn 2 (RTriple K)) := by
  refine F.ok sc_l_triple (fun vs H Q E h => h.1) (fun cdv A outer s H vs Q E hr h => ?_)
  obtain ⟨_, z, ⟨c, a, rs, rfl, ha, hl, rfl⟩, q⟩ := h
  refine ⟨_, (pss_cons (ps_set (i := 2) sc_l_triple.nd rfl (Or.inl rfl) (pe_op op_mod (pe_op op_mod (pv 0) pe_int) (pe_callB (id := "len") (r := rLenS K) c_len (by rfl) Z.len PySem.boot_len (pa_cons (pv 1) pa_nil))))
      (pss_cons (ps_set (i := 3) sc_l_triple.nd rfl (Or.inl rfl) (pe_op op_sub (pe_op op_add (pe_ix (r := rIxL K) ix_list (pv 1) (pv 2) (fun _ _ => rfl)) (pe_op op_mod (pe_op op_fdiv (pv 0) pe_int) pe_int)) pe_int))
      (pss_cons (ps_set (i := 4) sc_l_triple.nd rfl (Or.inl rfl) (pe_op op_sub (pe_op op_add (pe_ix (r := rIxL K) ix_list (pv 1) (pv 2) (fun _ _ => rfl)) (pe_op op_mod (pe_op op_fdiv (pv 0) pe_int) pe_int)) pe_int))
      (pss_cut (ps_if (pt_cmpR op_eq (pe_op op_mod (pe_op op_fdiv (pv 0) pe_int) pe_int) pe_int (nomark _)) (pss_cons (ps_set (i := 3) sc_l_triple.nd rfl (Or.inl rfl) (pe_cl c_l_value hr (by decide) pass0 (by rfl) (pa_cons (pe_op op_fdiv (pv 0) pe_int) pa_nil))) (pss_one (ps_set (i := 4) sc_l_triple.nd rfl (Or.inl rfl) (pe_cl c_l_value hr (by decide) pass0 (by rfl) (pa_cons (pe_op op_fdiv (pv 0) pe_int) pa_nil))))) pss_nil)
      (pss_cons (ps_set (i := 5) sc_l_triple.nd rfl (Or.inl rfl) (pe_op op_mod (pe_op op_fdiv (pv 0) pe_int) pe_int))
      (pss_cons (ps_if (pt_cmpR op_eq (pv 5) pe_int (nomark _)) (pss_one (ps_ret (pe_tup (pa_cons (pv 2) (pa_cons pe_non (pa_cons pe_non pa_nil)))))) pss_nil)
      (pss_cons (ps_if (pt_cmpR op_eq (pv 5) pe_int (nomark _)) (pss_one (ps_ret (pe_tup (pa_cons (pv 2) (pa_cons (pv 3) (pa_cons pe_non pa_nil)))))) pss_nil)
      (pss_cons (ps_if (pt_cmpR op_eq (pv 5) pe_int (nomark _)) (pss_one (ps_ret (pe_tup (pa_cons (pv 2) (pa_cons pe_non (pa_cons (pv 4) pa_nil)))))) pss_nil)
      (pss_cons (ps_if (pt_cmpR op_eq (pv 5) pe_int (nomark _)) (pss_one (ps_ret (pe_tup (pa_cons (pv 2) (pa_cons (pv 3) (pa_cons (pv 3) pa_nil)))))) pss_nil)
      (pss_one (ps_ret (pe_tup (pa_cons (pv 2) (pa_cons (pv 3) (pa_cons (pv 4) pa_nil))))))))))))))), ?_⟩
  try dsimp only [cx_K]
  have hl' : (0 : Int) < rs.length := by omega
  have m0 : 0 ≤ c % 6 % (rs.length : Int) := Int.emod_nonneg _ (by omega)
  have m1 : c % 6 % (rs.length : Int) < rs.length := Int.emod_lt_of_pos _ hl'
  unfold triple at q
  simp only at q
  refine Sv.at (sv_asg (v := .int (c % 6 % (rs.length : Int))) (by repeat' walk_at "s") ?_)
  generalize c % 6 % (rs.length : Int) = col at q m0 m1
  have ir : RV (rIxL K) (.ref a) (.int col) H (.int (rs.getD col.toNat 0)) := rv_ixI ha m0 m1
  generalize rs.getD col.toNat 0 = at_ at q ir
  refine sv_asg (v := .int (at_ + c / 60 % 3 - 1)) (by repeat' walk_at "s") (sv_asg (v := .int (at_ + c / 180 % 3 - 1)) (by repeat' walk_at "s") ?_)
  refine sv_cut (fun σ' H' => H' = H ∧ σ' = [some (.int c), some (.ref a), some (.int col), some (.int (if c / 6 % 2 = 0 then value (c / 60) else at_ + c / 60 % 3 - 1)), some (.int (if c / 6 % 2 = 0 then value (c / 180) else at_ + c / 180 % 3 - 1)), none]) ?_ ?_
  · refine sv_if' (p := c / 6 % 2 = 0) (by repeat' walk_at "s") (fun h => ?_) (fun h => ?_)
    · rw [if_pos h, if_pos h]
      exact sv_asg (v := .int (value (c / 60))) (by repeat' walk_at "s") (sv_asg' (v := .int (value (c / 180))) (by repeat' walk_at "s") (sv_kn ⟨rfl, rfl⟩))
    · rw [if_neg h, if_neg h]
      exact sv_kn ⟨rfl, rfl⟩
  rintro σ' H' ⟨rfl, rfl⟩
  generalize (if c / 6 % 2 = 0 then value (c / 60) else at_ + c / 60 % 3 - 1) = lo at q
  generalize (if c / 6 % 2 = 0 then value (c / 180) else at_ + c / 180 % 3 - 1) = hi at q
  refine sv_asg (v := .int (c / 12 % 5)) (by repeat' walk_at "s") ?_
  generalize c / 12 % 5 = way at q
  refine sv_when (p := way = 0) (by repeat' walk_at "s") (fun h0 => ?_) (fun h0 => ?_)
  · rw [if_pos h0] at q
    refine sv_rqN q (EvU.n (xs := tv ⟨col, none, none⟩) (eu_tup (vs := tv ⟨col, none, none⟩) ?_ (by simp [tv])))
    exact ea_cons (ev_var rfl) (ea_cons ev_c (ea_cons ev_c ea_nil))
  refine sv_when (p := way = 1) (by repeat' walk_at "s") (fun h1 => ?_) (fun h1 => ?_)
  · rw [if_neg h0, if_pos h1] at q
    refine sv_rqN q (EvU.n (xs := tv ⟨col, some lo, none⟩) (eu_tup (vs := tv ⟨col, some lo, none⟩) ?_ (by simp [tv])))
    exact ea_cons (ev_var rfl) (ea_cons (ev_var rfl) (ea_cons ev_c ea_nil))
  refine sv_when (p := way = 2) (by repeat' walk_at "s") (fun h2 => ?_) (fun h2 => ?_)
  · rw [if_neg h0, if_neg h1, if_pos h2] at q
    refine sv_rqN q (EvU.n (xs := tv ⟨col, none, some hi⟩) (eu_tup (vs := tv ⟨col, none, some hi⟩) ?_ (by simp [tv])))
    exact ea_cons (ev_var rfl) (ea_cons ev_c (ea_cons (ev_var rfl) ea_nil))
  refine sv_when (p := way = 3) (by repeat' walk_at "s") (fun h3 => ?_) (fun h3 => ?_)
  · rw [if_neg h0, if_neg h1, if_neg h2, if_pos h3] at q
    refine sv_rqN q (EvU.n (xs := tv ⟨col, some lo, some lo⟩) (eu_tup (vs := tv ⟨col, some lo, some lo⟩) ?_ (by simp [tv])))
    exact ea_cons (ev_var rfl) (ea_cons (ev_var rfl) (ea_cons (ev_var rfl) ea_nil))
  · rw [if_neg h0, if_neg h1, if_neg h2, if_neg h3] at q
    refine sv_rqN q (EvU.n (xs := tv ⟨col, some lo, some hi⟩) (eu_tup (vs := tv ⟨col, some lo, some hi⟩) ?_ (by simp [tv])))
    exact ea_cons (ev_var rfl) (ea_cons (ev_var rfl) (ea_cons (ev_var rfl) ea_nil))
theorem spv_fits {H : Hp} {a b : Addr} {rs : List Int} {ws : List V} {ts : List Tri} (h1 : SqL K H a (rs.map V.int) ∨ SqT K H a (rs.map V.int)) (h2 : SqL K H b ws) (h3 : Wt K H ws ts) (h5 : ts.length ≤ 20) (h4 : ∀ t ∈ ts, 0 ≤ t.c ∧ t.c < rs.length) : SpV (SpR 2 (RFits K)) [.ref a, .ref b] H (.bl (fitsM rs ts)) :=
  spv rfl fun H1 e => ⟨a, b, rs, ws, ts, rfl, h1.imp (ex_l e) (ex_t e), ex_l e h2, h3.mono e, h5, h4, rfl⟩

theorem spn_triple {H : Hp} {c : Int} {a : Addr} {rs : List Int} (h : SqL K H a (rs.map V.int)) (h0 : 0 < rs.length) : SpNP (SpNn 2 (RTriple K)) [.int c, .ref a] H (IsTri (triple c rs)) := spn rfl fun H1 e => ⟨c, a, rs, rfl, ex_l e h, h0, rfl⟩
def RFitsT (K : PySem.W.Frag) : List V → Hp → V → Prop := fun vs H z => ∃ (a p : Addr) (rs : List Int) (t : Tri), vs = [.ref a, .ref p] ∧ (SqL K H a (rs.map V.int) ∨ SqT K H a (rs.map V.int)) ∧ SqT K H p (tv t) ∧ 0 ≤ t.c ∧ t.c < rs.length ∧ z = .bl (fit1 rs t)
theorem spv_fitsT {H : Hp} {a p : Addr} {rs : List Int} {t : Tri} (h1 : SqL K H a (rs.map V.int) ∨ SqT K H a (rs.map V.int)) (h2 : SqT K H p (tv t)) (h3 : 0 ≤ t.c ∧ t.c < rs.length) : SpV (SpR 2 (RFitsT K)) [.ref a, .ref p] H (.bl (fit1 rs t)) :=
  spv rfl fun H1 e => ⟨a, p, rs, t, rfl, h1.imp (ex_l e) (ex_t e), ex_t e h2, h3.1, h3.2, rfl⟩
theorem ok_fits_triple {f : Addr} {fd : FuncData} {k : Nat} (F : Fun K "fits_triple" "fits_triple" s_fits_triple f fd) (Z : Zs mg) : FnOk P w K mg base CX0 (k + 1) f fd ["row", "triple"] (SpR 2 (RFitsT K)) := by
  refine F.ok sc_fits_triple (fun vs H Q E h => h.1) (fun cdv A outer s H vs Q E hr h => ?_)
  obtain ⟨_, z, ⟨a, p, rs, t, rfl, ha, hp, h0, h1, rfl⟩, q⟩ := h
  refine ⟨_, (pss_cons (ps_asg (pv 1) (pg_tup (by rfl) (pgs_cons (pg_name (i := 2) sc_fits_triple.nd rfl (Or.inl rfl)) (pgs_cons (pg_name (i := 3) sc_fits_triple.nd rfl (Or.inl rfl)) (pgs_cons (pg_name (i := 4) sc_fits_triple.nd rfl (Or.inl rfl)) pgs_nil)))))
      (pss_cons (ps_if (PW.pt (pw_and (pt_cmpR o_notN (pv 3) pe_non (nomark _)) (pw_and1 (pt_cmpR op_lt (pe_ix (r := rIx K) ix_seq (pv 0) (pv 2) (fun _ _ => rfl)) (pv 3) (nomark _))))) (pss_one (ps_ret pe_bl)) pss_nil)
      (pss_one (ps_ret (pe_or (pe_cmpR o_isN (pv 4) pe_non (nomark _)) (pe_one (pe_cmpR op_le (pe_ix (r := rIx K) ix_seq (pv 0) (pv 2) (fun _ _ => rfl)) (pv 4) (nomark _)))))))), ?_⟩
  try dsimp only [cx_K]
  have ir : RV (rIx K) (.ref a) (.int t.c) H (.int (rs.getD t.c.toNat 0)) := rv_ixE ha (ix_int h0 h1)
  refine Sv.at (sv_un3 (x := .int t.c) (y := ov t.lo) (z := ov t.hi) (ev_var rfl) hp ?_)
  refine sv_when (p := ¬ t.lo = none ∧ rs.getD t.c.toNat 0 < t.lo.getD 0) (tp_and (tp_cmp (ev_op (ev_var rfl) ev_c rs_ov)) fun hn => tp_cmp (ev_op (ev_op (ev_var rfl) (ev_var rfl) ir) (ev_var (by rw [← ov_get hn] <;> rfl)) rv_I0)) (fun h => ?_) (fun h => ?_)
  · have e : fit1 rs t = false := by
      rw [fit1_eq]
      exact decide_eq_false fun g => g.1 h
    rw [e] at q
    exact sv_rq q ev_c
  · have e : fit1 rs t = decide (t.hi = none ∨ rs.getD t.c.toNat 0 ≤ t.hi.getD 0) := by
      rw [fit1_eq]
      refine decide_eq_decide.mpr ⟨fun g => ?_, fun g => ⟨h, fun c => ?_⟩⟩
      · by_cases c : t.hi = none
        · exact .inl c
        · exact .inr (Int.not_lt.mp fun z => g.2 ⟨c, z⟩)
      · rcases g with g | g
        · exact c.1 g
        · omega
    rw [e] at q
    exact sv_rq q (ep_or (ev_op (ev_var rfl) ev_c rn_ov) fun hn => ev_op (ev_op (ev_var rfl) (ev_var rfl) ir) (ev_var (by rw [← ov_get hn] <;> rfl)) rv_I0)
theorem ok_fits {f : Addr} {fd : FuncData} (F : Fun K "fits" "fits" s_fits f fd) (Z : Zs mg) (c_fits_triple : Cl P w K mg base CX0 1 "fits_triple" (SpR 2 (RFitsT K))) : FnOk P w K mg base CX0 2 f fd ["row", "wish"] (SpR 2 (RFits K)) := by
  refine F.ok sc_fits (fun vs H Q E h => h.1) (fun cdv A outer s H vs Q E hr h => ?_)
  obtain ⟨_, z, ⟨a, b, rs, ws, ts, rfl, ha, hb, hw, hz, hc, rfl⟩, q⟩ := h
  refine ⟨_, (pss_one (ps_ret (pe_callB (id := "all") (r := rAll K) (cr_all rfl) (by rfl) Z.all (by decide +kernel) (pa_cons (pe_lc (own := [("triple", 2)]) (g := gName 2) (tt := tYes) (by rfl) sc_fits.nd (pi_list (pv 1)) (blkOk_by (own := [("triple", 2)]) (N := ["row", "wish", "triple"]) (sc := defScope s_fits) (by decide +kernel)) (fun _ _ _ _ _ => (pg_name (i := 2) sc_fits.nd rfl (Or.inl rfl))) (fun _ _ _ _ _ => pts_nil) (fun _ _ _ _ _ => (pe_cl c_fits_triple hr (by decide) pass0 (by rfl) (pa_cons (pv 0) (pa_cons (pv 2) pa_nil))))) pa_nil)))), ?_⟩
  try dsimp only [cx_K]
  have e : fitsM rs ts = ((ts.map (fit1 rs)).all id) := (all_id _ _).symm
  rw [e] at q
  refine Sv.at (sv_rq q (ev_allB ?_))
  rw [List.map_map]
  refine el_lcM (V.bl ∘ fit1 rs) (ev_var rfl) hb hw.1 (by have := hw.1; omega) (fun _ => rfl) fun i x m hx hm => ?_
  obtain ⟨p, e, hp⟩ := hw.2 i m hm
  rw [hx] at e
  obtain rfl := Option.some.inj e
  exact ev_cl (vs := [.ref a, .ref p]) (ea_cons (ev_var rfl) (ea_cons (ev_var rfl) ea_nil)) (spv_fitsT ha hp (hc m (List.mem_of_getElem? hm)))
def spLaw (K : PySem.W.Frag) : Sp := fun vs H Q _ => ∃ (a : Addr) (ns : List Int), vs = [.ref a] ∧ SqL K H a (ns.map V.int) ∧ ∀ H', Q (.bl true) H'
theorem ok_law {f : Addr} {fd : FuncData} (F : Fun K "law" "law" s_law f fd) (Z : Zs mg) (c_l_at : Cl P w K mg base CX0 1 "_law_at" (SpR 2 (RAt K))) (c_l_value : Cl P w K mg base CX0 1 "_law_value" (SpR 1 RValue))
    (c_l_triple : Cl P w K mg base CX0 2 "_law_triple" (SpNn 2 (RTriple K))) (c_l_fits : Cl P w K mg base CX0 1 "_law_fits" (SpR 2 (RLFits K))) (c_fits : Cl P w K mg base CX0 2 "fits" (SpR 2 (RFits K))) : FnOk P w K mg base CX0 3 f fd ["_law_script"] (spLaw K) := by
  refine F.ok sc_law (fun vs H Q E h => by obtain ⟨a, ns, rfl, _⟩ := h; rfl) (fun cdv A outer s H vs Q E hr h => ?_)
  obtain ⟨a, ns, rfl, hS, q⟩ := h
  refine ⟨_, (pss_cons (ps_set (i := 1) sc_law.nd rfl (Or.inl rfl) (pe_op op_add pe_int (pe_op op_mod (pe_cl c_l_at hr (by decide) pass0 (by rfl) (pa_cons (pv 0) (pa_cons pe_int pa_nil))) pe_int)))
      (pss_cons (ps_set (i := 2) sc_law.nd rfl (Or.inr rfl) (pe_lc (own := [("_law_k", 8)]) (g := gName 8) (tt := tYes) (by rfl) sc_law.nd (pi_range1 (by rfl) Z.range (pa_cons (pv 1) pa_nil)) (blkOk_by (own := [("_law_k", 8)]) (N := ["_law_script", "_law_width", "_law_row", "_law_size", "_law_wish", "_law_handed", "_law_told", "_law_found", "_law_k"]) (sc := defScope s_law) (by decide +kernel)) (fun _ _ _ _ _ => (pg_name (i := 8) sc_law.nd rfl (Or.inl rfl))) (fun _ _ _ _ _ => pts_nil) (fun _ _ _ _ _ => (pe_cl c_l_value hr (by decide) pass0 (by rfl) (pa_cons (pe_cl c_l_at hr (by decide) pass0 (by rfl) (pa_cons (pv 0) (pa_cons (pe_op op_add pe_int (pv 8)) pa_nil))) pa_nil)))))
      (pss_cons (ps_set (i := 3) sc_law.nd rfl (Or.inl rfl) (pe_op op_mod (pe_cl c_l_at hr (by decide) pass0 (by rfl) (pa_cons (pv 0) (pa_cons pe_int pa_nil))) pe_int))
      (pss_cons (ps_if (pt_cmpR op_eq (pe_op op_mod (pe_op op_fdiv (pe_cl c_l_at hr (by decide) pass0 (by rfl) (pa_cons (pv 0) (pa_cons pe_int pa_nil))) pe_int) pe_int) pe_int (nomark _)) (pss_one (ps_set (i := 3) sc_law.nd rfl (Or.inl rfl) pe_int)) pss_nil)
      (pss_cons (ps_setLc (i := 4) rfl sc_law.nd rfl rfl (sw_true rfl rfl rfl (by decide +kernel)) (pi_range1 (by rfl) Z.range (pa_cons (pv 3) pa_nil)) (blkOk_by (own := [("_law_k", 8)]) (N := ["_law_script", "_law_width", "_law_row", "_law_size", "_law_wish", "_law_handed", "_law_told", "_law_found", "_law_k"]) (sc := defScope s_law) (by decide +kernel)) (fun _ _ _ _ _ => (pg_name (i := 8) sc_law.nd rfl (Or.inl rfl))) (fun _ _ _ _ _ => pts_nil) (fun _ _ _ _ _ => (pe_cl c_l_triple hr (by decide) pass0 (by rfl) (pa_cons (pe_cl c_l_at hr (by decide) pass0 (by rfl) (pa_cons (pv 0) (pa_cons (pe_op op_add pe_int (pv 8)) pa_nil))) (pa_cons (pv 2) pa_nil)))))
      (pss_cons (ps_set (i := 5) sc_law.nd rfl (Or.inl rfl) (pe_callTy (T := "list") (r := rListS K) c_list (by rfl) Z.list (by decide +kernel) (pa_cons (pv 2) pa_nil)))
      (pss_cons (ps_set (i := 6) sc_law.nd rfl (Or.inl rfl) (pe_callTy (T := "list") (r := rListS K) c_list (by rfl) Z.list (by decide +kernel) (pa_cons (pv 4) pa_nil)))
      (pss_cut (ps_if (pt_cmpR op_eq (pe_op op_mod (pe_op op_fdiv (pe_cl c_l_at hr (by decide) pass0 (by rfl) (pa_cons (pv 0) (pa_cons pe_int pa_nil))) pe_int) pe_int) pe_int (nomark _)) (pss_one (ps_set (i := 7) sc_law.nd rfl (Or.inl rfl) (pe_cl c_fits hr (by decide) pass0 (by rfl) (pa_cons (pe_callTy (T := "tuple") (r := rTupS K) c_tuple (by rfl) Z.tuple (by decide +kernel) (pa_cons (pv 2) pa_nil)) (pa_cons (pv 6) pa_nil))))) (pss_one (ps_set (i := 7) sc_law.nd rfl (Or.inl rfl) (pe_cl c_fits hr (by decide) pass0 (by rfl) (pa_cons (pv 5) (pa_cons (pv 6) pa_nil))))))
      (pss_cons (ps_if (PW.pt (pw_or (pt_not (pt_val (pe_callB (id := "isinstance") (r := rIsi K) call_isi (by rfl) Z.isinstance (by decide +kernel) (pa_cons (pv 7) (pa_cons (pe_bltn (v := .ty "bool") (by rfl) Z.bool (by decide +kernel) rfl) pa_nil))))) (pw_or (pt_cmpR (r := rNeD K) (op_neD hr.units) (pv 5) (pv 2) (nomark _)) (pw_or1 (pt_cmpR (r := rNeD K) (op_neD hr.units) (pv 6) (pv 4) (nomark _)))))) (pss_one (ps_ret pe_bl)) pss_nil)
      (pss_one (ps_ret (pe_cmpR op_eq (pv 7) (pe_cl c_l_fits hr (by decide) pass0 (by rfl) (pa_cons (pv 2) (pa_cons (pv 4) pa_nil))) (nomark _))))))))))))), ?_⟩
  try dsimp only [cx_K]
  refine Sv.at (sv_asg (v := .int (1 + cell ns 0 % 6)) (by repeat' walk_at "s") ?_)
  have hw : 1 ≤ 1 + cell ns 0 % 6 ∧ 1 + cell ns 0 % 6 ≤ 6 := by omega
  generalize 1 + cell ns 0 % 6 = wd at hw
  refine sv_asgL (el_lcI (n := wd) (fun i : Nat => value (cell ns (1 + i))) ?_ (by omega) (fun _ => rfl) (fun i hi => ?_)) fun pr H1 n1 e1 hr1 => ?_
  · repeat' walk_at "s"
  · repeat' walk_at "s"
  have lr : ((List.range wd.toNat).map fun i : Nat => value (cell ns (1 + i))).length = wd.toNat := by rw [List.length_map, List.length_range]
  generalize (List.range wd.toNat).map (fun i : Nat => value (cell ns (1 + i))) = rs at hr1 lr
  have hS1 := ex_l e1 hS
  refine sv_asg (v := .int (cell ns 7 % 5)) (by repeat' walk_at "s") (sv_ifset (p := cell ns 7 / 5 % 4 = 1) (v := .int 20) (w := .int (cell ns 7 % 5)) (by repeat' walk_at "s") (fun _ => ev_c) (fun _ => rfl) ?_)
  have es : (if cell ns 7 / 5 % 4 = 1 then V.int 20 else V.int (cell ns 7 % 5)) = V.int (if cell ns 7 / 5 % 4 = 1 then 20 else cell ns 7 % 5) := by split <;> rfl
  rw [es]
  have hz : 0 ≤ (if cell ns 7 / 5 % 4 = 1 then 20 else cell ns 7 % 5) ∧ (if cell ns 7 / 5 % 4 = 1 then 20 else cell ns 7 % 5) ≤ 20 := by split <;> omega
  generalize (if cell ns 7 / 5 % 4 = 1 then 20 else cell ns 7 % 5) = size at hz
  have hq1 : SqL K H1 pr (rs.map V.int) := sq_of hr1
  -- the wish
  refine sv_asgN (en_lcR1 (n := size) ?_ (by omega) (fun _ => rfl) (fun i acc N => Wt K N acc ((List.range i).map fun k : Nat => triple (cell ns (8 + k)) rs)) Wt.nil (fun i acc N hi hI => ?_)) ?_
  · repeat' walk_at "s"
  · refine (en_cl (vs := [.int (cell ns (8 + i)), .ref pr]) ?_ (spn_triple hq1 (by omega))).imp ?_
    · repeat' walk_at "s"
    · rintro v N' ⟨p, rfl, hp⟩ N'' e1 e2
      rw [List.range_succ, List.map_append]
      exact (hI.mono e1).snoc (st_of (e2 _ _ hp))
  rintro v N H2 d ⟨pw, ws, rfl, hpw, N0, eN, hW⟩ e2 e12
  have lt : ((List.range size.toNat).map fun k : Nat => triple (cell ns (8 + k)) rs).length ≤ 20 := by rw [List.length_map, List.length_range]; omega
  have hts : ∀ t ∈ (List.range size.toNat).map (fun k : Nat => triple (cell ns (8 + k)) rs), 0 ≤ t.c ∧ t.c < rs.length := fun t ht => by
    obtain ⟨k, _, rfl⟩ := List.mem_map.mp ht
    rw [triple_c]
    exact ⟨Int.emod_nonneg _ (by omega), Int.emod_lt_of_pos _ (by omega)⟩
  generalize (List.range size.toNat).map (fun k : Nat => triple (cell ns (8 + k)) rs) = ts at hW lt hts
  have hW2 := hW.mono (eN.trans e2)
  have hS2 := ex_l e12 hS1
  have hq2 := ex_l e12 hq1
  have hw2 : SqL K H2 pw ws := sq_of (e2 _ _ hpw)
  refine sv_asgL (el_list (ev_var rfl) hq2) fun ph H3 n3 e3 hh3 => sv_asgL (el_list (ev_var rfl) (ex_l e3 hw2)) fun pt H4 n4 e4 ht4 => ?_
  have hS4 := ex_l (e3.trans e4) hS2
  have hr4 := ex_l (e3.trans e4) hq2
  have hw4 := ex_l (e3.trans e4) hw2
  have hW4 := hW2.mono (e3.trans e4)
  have hh4 : SqL K H4 ph (rs.map V.int) := sq_of (e4 _ _ hh3)
  have ht4' : SqL K H4 pt ws := sq_of ht4
  -- the answer
  refine sv_cut (fun σ' H' => Ex H4 H' ∧ σ' = [some (.ref a), some (.int wd), some (.ref pr), some (.int size), some (.ref pw), some (.ref ph), some (.ref pt), some (.bl (fitsM rs ts)), none]) ?_ ?_
  · refine sv_if' (p := cell ns 0 / 6 % 2 = 1) (by repeat' walk_at "s") (fun _ => ?_) (fun _ => ?_)
    · refine sv_asgP' (evp_cl (PA := fun vs H' => ∃ p, vs = [.ref p, .ref pt] ∧ Ex H4 H' ∧ H' p = some (.tup (rs.map V.int))) (eap_cons (EvU.p (eu_tuple (ev_var rfl) hr4)) ?_) (P := fun v _ => v = .bl (fitsM rs ts)) ?_) ?_
      · rintro v H5 e5 ⟨p, rfl, n5, _, hp⟩
        refine eap_cons (Ev.p (ev_var rfl)) ?_
        rintro v2 H6 e6 ⟨rfl, _⟩
        exact eap_nil fun H7 e7 => ⟨p, rfl, (e5.trans e6).trans e7, e7 _ _ (e6 _ _ hp)⟩
      · rintro vs H5 e5 ⟨p, rfl, e45, hp⟩
        exact spp_v (spv_fits (.inr (st_of hp)) (ex_l e45 ht4') (hW4.mono e45) lt hts)
      · rintro v H5 e5 rfl
        exact sv_kn ⟨e5, rfl⟩
    · refine sv_asg' (v := .bl (fitsM rs ts)) (ev_cl (vs := [.ref ph, .ref pt]) ?_ (spv_fits (.inl hh4) ht4' hW4 lt hts)) (sv_kn ⟨Ex.refl _, rfl⟩)
      repeat' walk_at "s"
  rintro σ' H5 ⟨e5, rfl⟩
  have c1 : RV (rNeD K) (.ref ph) (.ref pr) H5 (.bl (decide False)) := rd_neSame (dp_ints (ex_l e5 hh4)) (dp_ints (ex_l e5 hr4)) (shp_listI rs) (by decide)
  have c2 : RV (rNeD K) (.ref pt) (.ref pw) H5 (.bl (decide False)) := rd_neSame (.lst (ex_l e5 ht4') (wt_dp (hW4.mono e5))) (.lst (ex_l e5 hw4) (wt_dp (hW4.mono e5))) (shp_wish ts) (by decide)
  refine sv_when (p := ¬ True ∨ False ∨ False) ?_ (fun h => by simp at h) (fun _ => ?_)
  · refine tp_or (tp_not (tp_valT (ev_isi (ev_var rfl) (fun _ _ => .base (.bl _)) (kit_ty (by decide +kernel))))) (fun _ => tp_or (by repeat' walk_at "s") (fun _ => by repeat' walk_at "s"))
  · refine sv_ret (v := .bl (decide (fitsM rs ts = fitsM rs ts))) ?_ (fun H' _ => ?_)
    · refine ev_op (ev_var rfl) (ev_cl (vs := [.ref pr, .ref pw]) ?_ (spv_lfits (ex_l e5 hr4) (ex_l e5 hw4) (hW4.mono e5) hts)) rp_eqB
      repeat' walk_at "s"
    · rw [decide_eq_true rfl]
      exact q _
end
theorem all_mk {l : PySem.W.OpenLaw} {w : World} {K : PySem.W.Frag} {h : Heap} {mg : Str → Option Value} {fa : Addr} (X : K.In h) (G : h.Ns mainGlobals mg) (hfa : mg "law" = some (.ref fa))
    {f_fits : Addr} {od_fits an_fits : Option Addr} {sl_fits : Array (Option Value)} {oc_fits kV_fits dc_fits pm_fits cd_fits ct_fits : Value}
    {f_fits_triple : Addr} {od_fits_triple an_fits_triple : Option Addr} {sl_fits_triple : Array (Option Value)} {oc_fits_triple kV_fits_triple dc_fits_triple pm_fits_triple cd_fits_triple ct_fits_triple : Value}
    {f_l_at : Addr} {od_l_at an_l_at : Option Addr} {sl_l_at : Array (Option Value)} {oc_l_at kV_l_at dc_l_at pm_l_at cd_l_at ct_l_at : Value}
    {f_l_value : Addr} {od_l_value an_l_value : Option Addr} {sl_l_value : Array (Option Value)} {oc_l_value kV_l_value dc_l_value pm_l_value cd_l_value ct_l_value : Value}
    {f_l_triple : Addr} {od_l_triple an_l_triple : Option Addr} {sl_l_triple : Array (Option Value)} {oc_l_triple kV_l_triple dc_l_triple pm_l_triple cd_l_triple ct_l_triple : Value}
    {f_l_fits : Addr} {od_l_fits an_l_fits : Option Addr} {sl_l_fits : Array (Option Value)} {oc_l_fits kV_l_fits dc_l_fits pm_l_fits cd_l_fits ct_l_fits : Value}
    {f_law : Addr} {od_law an_law : Option Addr} {sl_law : Array (Option Value)} {oc_law kV_law dc_law pm_law cd_law ct_law : Value}
    (a_fits : PySem.W.nsIn K mainGlobals "fits" = some (some (.ref f_fits)))
    (l_fits : K.lookup f_fits = some ⟨oc_fits, od_fits, .func (PySem.W.fnOf "fits" "fits" (defArgs s_fits) (defBody s_fits) (defScope s_fits) .none kV_fits dc_fits pm_fits an_fits cd_fits ct_fits), sl_fits⟩)
    (c_fits : PySem.W.codeIn K cd_fits "fits" = true)
    (k_fits : PySem.W.keepIn K (.ref f_fits) = true)
    (a_fits_triple : PySem.W.nsIn K mainGlobals "fits_triple" = some (some (.ref f_fits_triple)))
    (l_fits_triple : K.lookup f_fits_triple = some ⟨oc_fits_triple, od_fits_triple, .func (PySem.W.fnOf "fits_triple" "fits_triple" (defArgs s_fits_triple) (defBody s_fits_triple) (defScope s_fits_triple) .none kV_fits_triple dc_fits_triple pm_fits_triple an_fits_triple cd_fits_triple ct_fits_triple), sl_fits_triple⟩)
    (c_fits_triple : PySem.W.codeIn K cd_fits_triple "fits_triple" = true)
    (k_fits_triple : PySem.W.keepIn K (.ref f_fits_triple) = true)
    (a_l_at : PySem.W.nsIn K mainGlobals "_law_at" = some (some (.ref f_l_at)))
    (l_l_at : K.lookup f_l_at = some ⟨oc_l_at, od_l_at, .func (PySem.W.fnOf "_law_at" "_law_at" (defArgs s_l_at) (defBody s_l_at) (defScope s_l_at) .none kV_l_at dc_l_at pm_l_at an_l_at cd_l_at ct_l_at), sl_l_at⟩)
    (c_l_at : PySem.W.codeIn K cd_l_at "_law_at" = true)
    (k_l_at : PySem.W.keepIn K (.ref f_l_at) = true)
    (a_l_value : PySem.W.nsIn K mainGlobals "_law_value" = some (some (.ref f_l_value)))
    (l_l_value : K.lookup f_l_value = some ⟨oc_l_value, od_l_value, .func (PySem.W.fnOf "_law_value" "_law_value" (defArgs s_l_value) (defBody s_l_value) (defScope s_l_value) .none kV_l_value dc_l_value pm_l_value an_l_value cd_l_value ct_l_value), sl_l_value⟩)
    (c_l_value : PySem.W.codeIn K cd_l_value "_law_value" = true)
    (k_l_value : PySem.W.keepIn K (.ref f_l_value) = true)
    (a_l_triple : PySem.W.nsIn K mainGlobals "_law_triple" = some (some (.ref f_l_triple)))
    (l_l_triple : K.lookup f_l_triple = some ⟨oc_l_triple, od_l_triple, .func (PySem.W.fnOf "_law_triple" "_law_triple" (defArgs s_l_triple) (defBody s_l_triple) (defScope s_l_triple) .none kV_l_triple dc_l_triple pm_l_triple an_l_triple cd_l_triple ct_l_triple), sl_l_triple⟩)
    (c_l_triple : PySem.W.codeIn K cd_l_triple "_law_triple" = true)
    (k_l_triple : PySem.W.keepIn K (.ref f_l_triple) = true)
    (a_l_fits : PySem.W.nsIn K mainGlobals "_law_fits" = some (some (.ref f_l_fits)))
    (l_l_fits : K.lookup f_l_fits = some ⟨oc_l_fits, od_l_fits, .func (PySem.W.fnOf "_law_fits" "_law_fits" (defArgs s_l_fits) (defBody s_l_fits) (defScope s_l_fits) .none kV_l_fits dc_l_fits pm_l_fits an_l_fits cd_l_fits ct_l_fits), sl_l_fits⟩)
    (c_l_fits : PySem.W.codeIn K cd_l_fits "_law_fits" = true)
    (k_l_fits : PySem.W.keepIn K (.ref f_l_fits) = true)
    (a_law : PySem.W.nsIn K mainGlobals "law" = some (some (.ref f_law)))
    (l_law : K.lookup f_law = some ⟨oc_law, od_law, .func (PySem.W.fnOf "law" "law" (defArgs s_law) (defBody s_law) (defScope s_law) .none kV_law dc_law pm_law an_law cd_law ct_law), sl_law⟩)
    (c_law : PySem.W.codeIn K cd_law "law" = true)
    (k_law : PySem.W.keepIn K (.ref f_law) = true)
    (z_all : PySem.W.nsIn K mainGlobals "all" = some none)
    (z_list : PySem.W.nsIn K mainGlobals "list" = some none)
    (z_len : PySem.W.nsIn K mainGlobals "len" = some none)
    (z_range : PySem.W.nsIn K mainGlobals "range" = some none)
    (z_tuple : PySem.W.nsIn K mainGlobals "tuple" = some none)
    (z_isinstance : PySem.W.nsIn K mainGlobals "isinstance" = some none)
    (z_bool : PySem.W.nsIn K mainGlobals "bool" = some none) :
    ∃ fd : FuncData, (∀ (s : Shared) (v : Value), BindsTo s fd ⟨[v], []⟩ [("_law_script", v)]) ∧ ∀ base : Heap, K.In base → base.Ns mainGlobals mg → FnOk l.prog w K mg base CX0 3 fa fd ["_law_script"] (spLaw K) := by
  have e := hfa.symm.trans (PySem.W.mg_of X G a_law)
  cases e
  have F_fits := fun_mk (st := s_fits) l_fits c_fits k_fits
  have m_fits := PySem.W.mg_of X G a_fits
  have b_fits := F_fits.binds (ps := ["row", "wish"]) fun _ _ _ _ _ _ us hl => match us, hl with | [_, _], _ => rfl
  have F_fits_triple := fun_mk (st := s_fits_triple) l_fits_triple c_fits_triple k_fits_triple
  have m_fits_triple := PySem.W.mg_of X G a_fits_triple
  have b_fits_triple := F_fits_triple.binds (ps := ["row", "triple"]) fun _ _ _ _ _ _ us hl => match us, hl with | [_, _], _ => rfl
  have F_l_at := fun_mk (st := s_l_at) l_l_at c_l_at k_l_at
  have m_l_at := PySem.W.mg_of X G a_l_at
  have b_l_at := F_l_at.binds (ps := ["_law_script", "_law_k"]) fun _ _ _ _ _ _ us hl => match us, hl with | [_, _], _ => rfl
  have F_l_value := fun_mk (st := s_l_value) l_l_value c_l_value k_l_value
  have m_l_value := PySem.W.mg_of X G a_l_value
  have b_l_value := F_l_value.binds (ps := ["_law_cell"]) fun _ _ _ _ _ _ us hl => match us, hl with | [_], _ => rfl
  have F_l_triple := fun_mk (st := s_l_triple) l_l_triple c_l_triple k_l_triple
  have m_l_triple := PySem.W.mg_of X G a_l_triple
  have b_l_triple := F_l_triple.binds (ps := ["_law_cell", "_law_row"]) fun _ _ _ _ _ _ us hl => match us, hl with | [_, _], _ => rfl
  have F_l_fits := fun_mk (st := s_l_fits) l_l_fits c_l_fits k_l_fits
  have m_l_fits := PySem.W.mg_of X G a_l_fits
  have b_l_fits := F_l_fits.binds (ps := ["_law_row", "_law_wish"]) fun _ _ _ _ _ _ us hl => match us, hl with | [_, _], _ => rfl
  have F_law := fun_mk (st := s_law) l_law c_law k_law
  have m_law := PySem.W.mg_of X G a_law
  have b_law := F_law.binds (ps := ["_law_script"]) fun _ _ _ _ _ _ us hl => match us, hl with | [_], _ => rfl
  have Z : Zs mg := ⟨PySem.W.mg_none_of X G z_all, PySem.W.mg_none_of X G z_list, PySem.W.mg_none_of X G z_len, PySem.W.mg_none_of X G z_range, PySem.W.mg_none_of X G z_tuple, PySem.W.mg_none_of X G z_isinstance, PySem.W.mg_none_of X G z_bool⟩
  exact ⟨PySem.W.fnOf "law" "law" (defArgs s_law) (defBody s_law) (defScope s_law) .none kV_law dc_law pm_law an_law cd_law ct_law, fun s v => .of_eq rfl, fun base _ _ => ok_law F_law Z (cl_mk F_l_at (ok_at F_l_at Z) m_l_at b_l_at) (cl_mk F_l_value (ok_value F_l_value) m_l_value b_l_value) (cl_mk F_l_triple (ok_triple F_l_triple Z (cl_mk F_l_value (ok_value F_l_value) m_l_value b_l_value)) m_l_triple b_l_triple) (cl_mk F_l_fits (ok_lfits F_l_fits Z) m_l_fits b_l_fits) (cl_mk F_fits (ok_fits F_fits Z (cl_mk F_fits_triple (ok_fits_triple F_fits_triple Z) m_fits_triple b_fits_triple)) m_fits b_fits)⟩
end K4
open PySem PySem.W PyProof.Rows
set_option maxHeartbeats 0 in
theorem PySem.Challenge.cw_waybook_k04_rows_that_fit_holds : PySem.Challenge.rw_waybook_k04_rows_that_fit.Holds := by
  w_on; o_law; k_head; (case hw => w_witness2)
  k_fill
  refine L2.walk_of (l := PySem.Challenge.rw_waybook_k04_rows_that_fit) (n := 63) (k := 3) (x := "_law_script") (CX := fun _ => L2.CX0) (sp := fun w => K4.spLaw _) rfl (by decide) rfl ⟨rfl, by decide, by decide⟩ (fun w h Y => PySem.W.kIn_of Y) ?F (fun _ _ a ns hl _ hS => ⟨a, ns, rfl, hS, fun _ => rfl⟩) (fun _ _ _ _ _ h => h)
  case F =>
    intro w mg fa h KX G hmg
    refine' K4.all_mk KX G hmg ?a_fits ?l_fits ?c_fits ?k_fits ?a_fits_triple ?l_fits_triple ?c_fits_triple ?k_fits_triple ?a_l_at ?l_l_at ?c_l_at ?k_l_at ?a_l_value ?l_l_value ?c_l_value ?k_l_value ?a_l_triple ?l_l_triple ?c_l_triple ?k_l_triple ?a_l_fits ?l_l_fits ?c_l_fits ?k_l_fits ?a_law ?l_law ?c_law ?k_law ?z_all ?z_list ?z_len ?z_range ?z_tuple ?z_isinstance ?z_bool
    (case a_fits => k_is); (case l_fits => k_is); (case c_fits => k_is); (case k_fits => k_is); (case a_fits_triple => k_is); (case l_fits_triple => k_is); (case c_fits_triple => k_is); (case k_fits_triple => k_is); (case a_l_at => k_is); (case l_l_at => k_is); (case c_l_at => k_is); (case k_l_at => k_is); (case a_l_value => k_is); (case l_l_value => k_is); (case c_l_value => k_is); (case k_l_value => k_is); (case a_l_triple => k_is); (case l_l_triple => k_is); (case c_l_triple => k_is); (case k_l_triple => k_is); (case a_l_fits => k_is); (case l_l_fits => k_is); (case c_l_fits => k_is); (case k_l_fits => k_is); (case a_law => k_is); (case l_law => k_is); (case c_law => k_is); (case k_law => k_is); (case z_all => k_is); (case z_list => k_is); (case z_len => k_is); (case z_range => k_is); (case z_tuple => k_is); (case z_isinstance => k_is); (case z_bool => k_is)

import PyProof.Rows.All
import Wide.All
import OpenK.AllK
import Wide.FinOn
import HandS.ForMost
import HandS.ForExc
import HandS.TryMany
import HandS.Evl
import HandS.IsInst
import HandS.EndBits
import HandS.SortInts
import HandS.Deep
import HandS.Zip
import HandS.More
import HandS.Conv
import KE.KDictSum
import KE.KDictCopyH
import HandS.Codes
import KE.KEqDeep
import HandS.Rev
import HandS.SetBool
import HandS.Strs
import HandS.SortKw
import HandS.DictComp
import HandS.Flow
import HandS.TupAny
import HandS.SetFor
import HandS.Lambda
import KE.DataFind
import HandS.Exc
import HandS.ExcOwn
import HandS.WordsExc
import HandS.ExcIs
import PyProof.ExcBaseAll.ValueError
import KE.KExcInit
import HandS.EndTab
import KE.KMinKey
import PySem.Challenge.RW_waybook_k13_whole_two_tables
set_option Elab.async false
set_option linter.all false
set_option maxRecDepth 100000
set_option maxHeartbeats 4000000
/-! Wy: statements and values over what is known of the heap. -/
namespace Wy
open PySem PySem.Spec PyProof.Rows L2 Evl

/-! ### calls by what is promised -/
theorem cx_K {CX : CXT} {P : Program} {w : World} {K : PySem.W.Frag} {mg : Str → Option Value} {base : Heap} {N : List Str} {q : Str} {sc : Scope} {f : Addr} {cd : Value} {A : Around} {outer : List Env} {s : Shared} {H : Hp} {E : XK} :
    (cxOf CX P w K mg base N q sc f cd A outer s H E).nox.K = K := rfl
theorem cx_K1 {CX : CXT} {P : Program} {w : World} {K : PySem.W.Frag} {mg : Str → Option Value} {base : Heap} {N : List Str} {q : Str} {sc : Scope} {f : Addr} {cd : Value} {A : Around} {outer : List Env} {s : Shared} {H : Hp} {E : XK} :
    (cxOf CX P w K mg base N q sc f cd A outer s H E).K = K := rfl
structure Cl (P : Program) (w : World) (K : PySem.W.Frag) (mg : Str → Option Value) (base : Heap) (CX : CXT) (k : Nat) (x : Str) (sp : Sp) : Prop where
  ex : ∃ (f : Addr) (fd : FuncData) (ps : List Str), FnOk P w K mg base CX k f fd ps sp ∧ mg x = some (.ref f) ∧ PySem.W.keepIn K (.ref f) = true ∧ Binds K fd ps []
section
variable {X : Cx} {CX : CXT} {E : XK} {k j : Nat} {x : Str} {sp : Sp} {p pos : Pos} {e : Expr} {es : List Expr} {t : TA}
theorem pe_cl (c : Cl X.prog X.w X.K X.mg X.base CX k x sp) (hr : Room j X.A) (hk : k ≤ j) (hx : Passes CX X E) (hg : Gl X x) (ha : PA X (e :: es) t)
    (hdb : (x == ("__debug__" : Str)) = false := by decide) (he : starEach (e :: es) X.env = (false, eval e X.env) :: starEach es X.env := by rfl) (hpl : (backTo pos (starEach es X.env)).any (·.1) = false := by rfl) :
    PE X (.Call (.Name x p) (e :: es) [] pos) (tCall sp [] E t) := by
  obtain ⟨f, fd, ps, F, hm, kp, b⟩ := c.ex
  exact pe_call F (hr.mono hk) hg hm kp b .nil hx ha hdb he hpl
end
theorem cl_mk {P : Program} {w : World} {K : PySem.W.Frag} {mg : Str → Option Value} {base : Heap} {CX : CXT} {k : Nat} {x q : Str} {st : Stmt} {f : Addr} {fd : FuncData} {ps : List Str} {sp : Sp}
    (F : Fun K x q st f fd) (G : FnOk P w K mg base CX k f fd ps sp) (hm : mg x = some (.ref f)) (b : Binds K fd ps []) : Cl P w K mg base CX k x sp := ⟨f, fd, ps, G, hm, F.kp, b⟩

/-! ### statements at what is known -/
def Sv (ts : TS) (D : Ends) (σ : L2.St) (H : Hp) : Prop := ∀ H1, Ex H H1 → ts D σ H1
/-- a value of which P holds in what is known behind it -/
def EvP (te : TE) (σ : L2.St) (H : Hp) (P : V → Hp → Prop) : Prop := ∀ H1, Ex H H1 → ∀ Q : VK, (∀ v H2, Ex H1 H2 → P v H2 → Q v H2) → te σ H1 Q
abbrev IsL (xs : List V) : V → Hp → Prop := fun v H => ∃ p, v = .ref p ∧ H p = some (.lst xs)
section
variable {K : PySem.W.Frag} {σ : L2.St} {H H' : Hp} {ta tb te tx : TE} {t u : TT} {x y z v : V} {r : R2} {D : Ends} {tu tw tz ts : TS} {g : TG}
theorem Sv.mono (e : Ex H H') (h : Sv ts D σ H) : Sv ts D σ H' := fun H1 a => h H1 (e.trans a)
theorem Sv.at (h : Sv ts D σ H) : ts D σ H := h H (Ex.refl H)
theorem sv_asg {i : Nat} (h : Ev te σ H v) (k : Sv tz D (σ.set i (some v)) H) : Sv (tSeq (tAsg te (gName i)) tz) D σ H := fun H1 e => h H1 e _ fun H2 e2 => k H2 (e.trans e2)
theorem sv_asgP {i : Nat} {P : V → Hp → Prop} (h : EvP te σ H P) (k : ∀ v H2, Ex H H2 → P v H2 → Sv tz D (σ.set i (some v)) H2) : Sv (tSeq (tAsg te (gName i)) tz) D σ H :=
  fun H1 e => h H1 e _ fun v H2 e2 p => k v H2 (e.trans e2) p H2 (Ex.refl H2)
theorem sv_asgL {i : Nat} {xs : List V} (h : EvL te σ H xs) (k : ∀ p H2, H p = none → Ex H H2 → H2 p = some (.lst xs) → Sv tz D (σ.set i (some (.ref p))) H2) : Sv (tSeq (tAsg te (gName i)) tz) D σ H :=
  fun H1 e => h H1 e _ fun p H2 n e2 q => k p H2 (fresh_back e n) (e.trans e2) q H2 (Ex.refl H2)
theorem sv_asgU {i : Nat} {xs : List V} (h : EvU te σ H xs) (k : ∀ p H2, H p = none → Ex H H2 → H2 p = some (.tup xs) → Sv tz D (σ.set i (some (.ref p))) H2) : Sv (tSeq (tAsg te (gName i)) tz) D σ H :=
  fun H1 e => h H1 e _ fun p H2 n e2 q => k p H2 (fresh_back e n) (e.trans e2) q H2 (Ex.refl H2)
theorem sv_asg' {i : Nat} (h : Ev te σ H v) (k : Sv tNext D (σ.set i (some v)) H) : Sv (tAsg te (gName i)) D σ H := fun H1 e => h H1 e _ fun H2 e2 => k H2 (e.trans e2)
theorem sv_asgL' {i : Nat} {xs : List V} (h : EvL te σ H xs) (k : ∀ p H2, H p = none → Ex H H2 → H2 p = some (.lst xs) → Sv tNext D (σ.set i (some (.ref p))) H2) : Sv (tAsg te (gName i)) D σ H :=
  fun H1 e => h H1 e _ fun p H2 n e2 q => k p H2 (fresh_back e n) (e.trans e2) q H2 (Ex.refl H2)
theorem sv_ret (h : Ev te σ H v) (k : RetV v H D.rt) : Sv (tRet te) D σ H := fun H1 e => h H1 e _ fun H2 e2 => k H2 (e.trans e2)
theorem sv_retP {P : V → Hp → Prop} (h : EvP te σ H P) (k : ∀ v H1, Ex H H1 → P v H1 → D.rt v H1) : Sv (tRet te) D σ H := fun H1 e => h H1 e _ fun v H2 e2 p => k v H2 (e.trans e2) p
theorem sv_retL {xs : List V} (h : EvL te σ H xs) (k : RetL xs H D.rt) : Sv (tRet te) D σ H := fun H1 e => h H1 e _ fun p H2 n e2 q => k p H2 (fresh_back e n) (e.trans e2) q
theorem sv_retU {xs : List V} (h : EvU te σ H xs) (k : ∀ p H1, H p = none → Ex H H1 → H1 p = some (.tup xs) → D.rt (.ref p) H1) : Sv (tRet te) D σ H := fun H1 e => h H1 e _ fun p H2 n e2 q => k p H2 (fresh_back e n) (e.trans e2) q
theorem sv_ifB {b : Bool} (h : EvT t σ H b) (h1 : b = true → Sv tu { D with nx := tz D } σ H) (h2 : b = false → Sv tw { D with nx := tz D } σ H) : Sv (tSeq (tIfS t tu tw) tz) D σ H := fun H1 e => h H1 e _ fun H2 e2 => by
  cases b with
  | true => exact h1 rfl H2 (e.trans e2)
  | false => exact h2 rfl H2 (e.trans e2)
theorem sv_rq {nx bk ct : L2.St → Hp → Prop} {Q : VK} (k : RetV v H Q) (h : Ev te σ H v) : Sv (tRet te) { nx := nx, rt := Q, bk := bk, ct := ct } σ H := sv_ret h k
theorem sv_rqL {nx bk ct : L2.St → Hp → Prop} {Q : VK} {xs : List V} (k : RetL xs H Q) (h : EvL te σ H xs) : Sv (tRet te) { nx := nx, rt := Q, bk := bk, ct := ct } σ H := sv_retL h k
theorem ev_lenI {p : Addr} {ns : List Int} (ha : Ev ta σ H (.ref p)) (h : SqL K H p (ns.map V.int)) : Ev (tCB (rLenS K) (tCons ta tNil)) σ H (.int (ns.length : Int)) := by
  have g := ev_len ha h
  rw [List.length_map] at g
  exact g
/-- an if whose test is a proposition's truth, something behind -/
theorem sv_if {p : Prop} [Decidable p] (h : EvT t σ H (decide p)) (h1 : p → Sv tu { D with nx := tz D } σ H) (h2 : ¬ p → Sv tw { D with nx := tz D } σ H) : Sv (tSeq (tIfS t tu tw) tz) D σ H :=
  sv_ifB h (fun b => h1 (of_decide_eq_true b)) (fun b => h2 (of_decide_eq_false b))
theorem sv_when {p : Prop} [Decidable p] (h : EvT t σ H (decide p)) (h1 : p → Sv tu { D with nx := tz D } σ H) (h2 : ¬ p → Sv tz D σ H) : Sv (tSeq (tIfS t tu tNext) tz) D σ H := sv_if h h1 h2
theorem sv_if' {p : Prop} [Decidable p] (h : EvT t σ H (decide p)) (h1 : p → Sv tu D σ H) (h2 : ¬ p → Sv tw D σ H) : Sv (tIfS t tu tw) D σ H := fun H1 e => h H1 e _ fun H2 e2 => by
  by_cases q : p
  · rw [decide_eq_true q]
    exact h1 q H2 (e.trans e2)
  · rw [decide_eq_false q]
    exact h2 q H2 (e.trans e2)
theorem sv_ifB' {b : Bool} (h : EvT t σ H b) (h1 : b = true → Sv tu D σ H) (h2 : b = false → Sv tw D σ H) : Sv (tIfS t tu tw) D σ H := fun H1 e => h H1 e _ fun H2 e2 => by
  cases b with
  | true => exact h1 rfl H2 (e.trans e2)
  | false => exact h2 rfl H2 (e.trans e2)
theorem sv_next (k : ∀ H1, Ex H H1 → D.nx σ H1) : Sv tNext D σ H := k
/-- where a branch runs on into what follows -/
theorem sv_nx (k : Sv tz D σ H) : Sv tNext { D with nx := tz D } σ H := k
/-- if t: x = e, by the value behind it -/
theorem sv_ifset {p : Prop} [Decidable p] {i : Nat} {v w : V} (h : EvT t σ H (decide p)) (h1 : p → Ev te σ H v) (h2 : ¬ p → σ.set i (some w) = σ) (k : Sv tz D (σ.set i (some (if p then v else w))) H) :
    Sv (tSeq (tIfS t (tAsg te (gName i)) tNext) tz) D σ H := fun H1 e => h H1 e _ fun H2 e2 => by
  by_cases q : p
  · rw [decide_eq_true q]
    rw [if_pos q] at k
    exact h1 q H2 (e.trans e2) _ fun H3 e3 => k H3 ((e.trans e2).trans e3)
  · rw [decide_eq_false q]
    rw [if_neg q, h2 q] at k
    exact k H2 (e.trans e2)

/-! ### values -/
theorem EvP.mono {P : V → Hp → Prop} (e : Ex H H') (h : EvP te σ H P) : EvP te σ H' P := fun H1 a Q q => h H1 (e.trans a) Q q
theorem Ev.p (h : Ev te σ H v) : EvP te σ H fun v' H2 => v' = v ∧ Ex H H2 := fun H1 e Q q => h H1 e Q fun H2 e2 => q v H2 e2 ⟨rfl, e.trans e2⟩
theorem EvL.l {xs : List V} (h : EvL te σ H xs) : EvP te σ H (IsL xs) := fun H1 e Q q => h H1 e Q fun p H2 _ e2 hp => q _ H2 e2 ⟨p, rfl, hp⟩
theorem ev_l {p : Addr} {xs : List V} (h : Ev te σ H (.ref p)) (hp : H p = some (.lst xs)) : EvP te σ H (IsL xs) := fun H1 e Q q => h H1 e Q fun H2 e2 => q _ H2 e2 ⟨p, rfl, (e.trans e2) _ _ hp⟩
theorem el_cat {xs ys : List V} (ha : EvP ta σ H (IsL xs)) (hb : EvP tb σ H (IsL ys)) (hl : xs.length + ys.length ≤ 100000) : EvL (tOp rCat ta tb) σ H (xs ++ ys) := fun H1 e Q q =>
  ha H1 e _ fun x H2 e2 ⟨p, ex, hp⟩ => hb H2 (e.trans e2) _ fun y H3 e3 ⟨p', ey, hp'⟩ => ⟨p, p', xs, ys, ex, ey, e3 _ _ hp, hp', sz_of hl, fun l hn => q l _ (fresh_back (e2.trans e3) hn) ((e2.trans e3).trans (Ex.new hn)) upd_same⟩
theorem el_rep {xs : List V} {n : Int} (ha : EvP ta σ H (IsL xs)) (hb : Ev tb σ H (.int n)) (h0 : -1000 ≤ n) (h1 : n ≤ 1000) (hl : xs.length ≤ 100) : EvL (tOp rRep ta tb) σ H ((List.replicate n.toNat xs).flatten) := fun H1 e Q q =>
  ha H1 e _ fun x H2 e2 ⟨p, ex, hp⟩ => hb H2 (e.trans e2) _ fun H3 e3 => by
    refine ⟨p, n, xs, ex, rfl, e3 _ _ hp, by omega, by omega, ?_, fun l hn => ?_⟩
    · have a : xs.length * n.toNat ≤ 100 * 1000 := Nat.mul_le_mul hl (by omega)
      exact sz_of (by omega)
    · exact q l _ (fresh_back (e2.trans e3) hn) ((e2.trans e3).trans (Ex.new hn)) upd_same
end

/-! ### tests by propositions -/
section
variable {K : PySem.W.Frag} {σ : L2.St} {H H' : Hp} {ta tb te tx : TE} {t u : TT} {x y z v : V} {r : R2} {p q : Prop} [Decidable p] [Decidable q]
theorem tp_cmp (h : Ev te σ H (.bl (decide p))) : EvT (tTest te) σ H (decide p) := et_test h
theorem tp_val (h : Ev te σ H (.bl (decide p))) : EvT (tB te) σ H (decide p) := et_B h
theorem tp_and (h1 : EvT t σ H (decide p)) (h2 : p → EvT u σ H (decide q)) : EvT (tAnd t u) σ H (decide (p ∧ q)) := by
  have g := et_and (b := decide q) h1 (fun e => h2 (of_decide_eq_true e))
  have e : (decide p && decide q) = decide (p ∧ q) := (Bool.decide_and p q).symm
  rw [e] at g
  exact g
theorem tp_or (h1 : EvT t σ H (decide p)) (h2 : ¬ p → EvT u σ H (decide q)) : EvT (tOr t u) σ H (decide (p ∨ q)) := by
  have g := et_or (b := decide q) h1 (fun e => h2 (of_decide_eq_false e))
  have e : (decide p || decide q) = decide (p ∨ q) := (Bool.decide_or p q).symm
  rw [e] at g
  exact g
theorem tp_not (h1 : EvT t σ H (decide p)) : EvT (tNot t) σ H (decide (¬ p)) := by
  have g := et_not h1
  have e : (!decide p) = decide (¬ p) := decide_not.symm
  rw [e] at g
  exact g
theorem tp_iff (h1 : EvT t σ H (decide p)) (e : p ↔ q) : EvT t σ H (decide q) := by
  have e2 : decide p = decide q := decide_eq_decide.mpr e
  rw [← e2]
  exact h1
theorem ep_and (h1 : Ev ta σ H (.bl (decide p))) (h2 : p → Ev tb σ H (.bl (decide q))) : Ev (tAndV ta tb) σ H (.bl (decide (p ∧ q))) := by
  have g := ev_andV (b := decide q) h1 (fun e => h2 (of_decide_eq_true e))
  have e : (decide p && decide q) = decide (p ∧ q) := (Bool.decide_and p q).symm
  rw [e] at g
  exact g
theorem ep_or (h1 : Ev ta σ H (.bl (decide p))) (h2 : ¬ p → Ev tb σ H (.bl (decide q))) : Ev (tOrV ta tb) σ H (.bl (decide (p ∨ q))) := by
  have g := ev_orV (b := decide q) h1 (fun e => h2 (of_decide_eq_false e))
  have e : (decide p || decide q) = decide (p ∨ q) := (Bool.decide_or p q).symm
  rw [e] at g
  exact g
theorem ep_not (h1 : Ev ta σ H (.bl (decide p))) : Ev (tNotV ta) σ H (.bl (decide (¬ p))) := by
  have g := ev_notV h1
  have e : (!decide p) = decide (¬ p) := decide_not.symm
  rw [e] at g
  exact g
theorem ev_eq {v' : V} (h : Ev te σ H v) (e : v = v') : Ev te σ H v' := by
  rw [← e]
  exact h
theorem rp_lt {i j : Int} : RV (rI0 fun i j => .bl (decide (i < j))) (.int i) (.int j) H (.bl (decide (i < j))) := rv_I0
theorem rp_eqI {i j : Int} : RV rEq (.int i) (.int j) H (.bl (decide (i = j))) := by
  have e : decide (V.int i = V.int j) = decide (i = j) := decide_eq_decide.mpr ⟨V.int.inj, fun e => by rw [e]⟩
  rw [← e]
  exact rv_eq rfl
theorem rp_neI {i j : Int} : RV rNe (.int i) (.int j) H (.bl (decide (¬ i = j))) := by
  have e : decide (V.int i = V.int j) = decide (i = j) := decide_eq_decide.mpr ⟨V.int.inj, fun e => by rw [e]⟩
  have e2 : decide (¬ i = j) = !decide (i = j) := decide_not
  rw [e2, ← e]
  exact rv_ne rfl
theorem rp_eqB {i j : Bool} : RV rEq (.bl i) (.bl j) H (.bl (decide (i = j))) := by
  have e : decide (V.bl i = V.bl j) = decide (i = j) := decide_eq_decide.mpr ⟨V.bl.inj, fun e => by rw [e]⟩
  rw [← e]
  exact rv_eq rfl
theorem rp_neB {i j : Bool} : RV rNe (.bl i) (.bl j) H (.bl (decide (¬ i = j))) := by
  have e : decide (V.bl i = V.bl j) = decide (i = j) := decide_eq_decide.mpr ⟨V.bl.inj, fun e => by rw [e]⟩
  have e2 : decide (¬ i = j) = !decide (i = j) := decide_not
  rw [e2, ← e]
  exact rv_ne rfl
/-- is None of what is no None, of None -/
theorem rp_isNF (h : x ≠ .non) : RV (fun x y H Q => y = .non ∧ Q (.bl (decide (x = .non))) H) x .non H (.bl (decide False)) := fun H1 _ Q q => by
  refine ⟨rfl, ?_⟩
  show Q (.bl (decide (x = .non))) H1
  rw [decide_eq_false h]
  exact q H1 (Ex.refl H1)
theorem rp_isNT : RV (fun x y H Q => y = .non ∧ Q (.bl (decide (x = .non))) H) .non .non H (.bl (decide True)) := fun H1 _ Q q => ⟨rfl, q H1 (Ex.refl H1)⟩
theorem rp_notNF (h : x ≠ .non) : RV (fun x y H Q => y = .non ∧ Q (.bl (!decide (x = .non))) H) x .non H (.bl (decide True)) := fun H1 _ Q q => by
  refine ⟨rfl, ?_⟩
  show Q (.bl (!decide (x = .non))) H1
  rw [decide_eq_false h]
  exact q H1 (Ex.refl H1)
theorem rp_notNT : RV (fun x y H Q => y = .non ∧ Q (.bl (!decide (x = .non))) H) .non .non H (.bl (decide False)) := fun H1 _ Q q => ⟨rfl, q H1 (Ex.refl H1)⟩

/-! ### promises of values -/
/-- a promise: the arguments and what is known give a value; nothing that was known is touched -/
def SpR (n : Nat) (R : List V → Hp → V → Prop) : Sp := fun vs H Q _ => vs.length = n ∧ ∃ z, R vs H z ∧ RetV z H Q
def SpN (n : Nat) (R : List V → Hp → List V → Prop) : Sp := fun vs H Q _ => vs.length = n ∧ ∃ xs, R vs H xs ∧ RetL xs H Q
theorem spv {n : Nat} {R : List V → Hp → V → Prop} {vs : List V} (hl : vs.length = n) (h : ∀ H1, Ex H H1 → R vs H1 z) : SpV (SpR n R) vs H z := fun H1 e Q q E => ⟨hl, z, h H1 e, q⟩
theorem spl {n : Nat} {R : List V → Hp → List V → Prop} {vs xs : List V} (hl : vs.length = n) (h : ∀ H1, Ex H H1 → R vs H1 xs) : SpL (SpN n R) vs H xs := fun H1 e Q q E => ⟨hl, xs, h H1 e, fun p H2 hp e2 h2 => q p H2 hp e2 h2⟩
/-! ### calls of built-ins -/
theorem ev_lenL {p : Addr} {xs : List V} (ha : Ev ta σ H (.ref p)) (h : SqL K H p xs) : Ev (tCB (rLenS K) (tCons ta tNil)) σ H (.int (xs.length : Int)) := ev_len ha h
theorem ev_lenT {p : Addr} {xs : List V} (ha : Ev ta σ H (.ref p)) (h : SqT K H p xs) : Ev (tCB (rLenS K) (tCons ta tNil)) σ H (.int (xs.length : Int)) := fun H1 e Q q =>
  ha H1 e _ fun H2 e2 => ⟨p, xs, rfl, Or.inr (ex_t (e.trans e2) h), q H2 e2⟩
theorem ev_isi {n : String} {ty : Value} {b : Bool} (ha : Ev ta σ H x) (ht : ∀ H1, Ex H H1 → TyX K H1 x ty) (hk : PySem.W.kitOne K ty (.type n) = some b) : Ev (tCB (rIsi K) (tCons ta (tCons (tC (.ty n)) tNil))) σ H (.bl b) := fun H1 e Q q =>
  ha H1 e _ fun H2 e2 => ⟨x, .ty n, ty, .type n, b, rfl, .ty n, ht H2 (e.trans e2), hk, q H2 e2⟩
end

/-! ### the rules by short names -/
section
variable {X : Cx}
theorem c_len : CallR X (.builtin "len") (rLenS X.K) := call_len_seq
theorem c_list : CallR X (.type "list") (rListS X.K) := call_list_of
def rMin2 : List V → Hp → VK → Prop := fun xs H Q => ∃ i j, xs = [.int i, .int j] ∧ Q (.int (if j < i then j else i)) H
theorem c_min2 (hc : X.calm = true) : CallR X (.builtin "min") rMin2 := call_min2 hc
theorem c_max2 (hc : X.calm = true) : CallR X (.builtin "max") rMax2 := call_max2 hc
def rNone : R2 := fun x y H Q => y = .non ∧ Q (.bl (decide (x = .non))) H
def rSome : R2 := fun x y H Q => y = .non ∧ Q (.bl (!decide (x = .non))) H
theorem o_isN : OpR X (compareOp .Is) rNone := op_isN
theorem o_notN : OpR X (compareOp .IsNot) rSome := op_notN
end
section
variable {K : PySem.W.Frag} {σ : L2.St} {H H' : Hp} {ta tb te tx : TE} {t u : TT} {x y z v : V} {r : R2} {D : Ends} {tu tw tz ts : TS} {g : TG}
theorem ev_cl {sp : Sp} {vs : List V} {E : XK} {ta : TA} (h : EvA ta σ H vs) (hs : SpV sp vs H z) : Ev (tCall sp [] E ta) σ H z := ev_call h (by rw [List.append_nil]; exact hs)
theorem el_cl {sp : Sp} {vs xs : List V} {E : XK} {ta : TA} (h : EvA ta σ H vs) (hs : SpL sp vs H xs) : EvL (tCall sp [] E ta) σ H xs := el_call h (by rw [List.append_nil]; exact hs)
theorem ev_min2 {i j : Int} (ha : Ev ta σ H (.int i)) (hb : Ev tb σ H (.int j)) : Ev (tCB rMin2 (tCons ta (tCons tb tNil))) σ H (.int (if j < i then j else i)) := fun H1 e Q q =>
  ha H1 e _ fun H2 e2 => hb H2 (e.trans e2) _ fun H3 e3 => ⟨i, j, rfl, q H3 (e2.trans e3)⟩
theorem rv_mod {i j : Int} (h : 0 < j) : RV (rI (fun _ j => 0 < j) fun i j => .int (i % j)) (.int i) (.int j) H (.int (i % j)) := rv_I h
theorem rv_div {i j : Int} (h : 0 < j) (h2 : j < 1073741824) : RV (rI CDiv fun i j => .int (i / j)) (.int i) (.int j) H (.int (i / j)) := rv_I ⟨h, h2⟩
theorem rv_mulR {i j : Int} (h : -(2 ^ 64) < j) (h2 : j < 2 ^ 64) : RV (rI CMul fun i j => .int (i * j)) (.int i) (.int j) H (.int (i * j)) := rv_I (.inr ⟨h, h2⟩)
theorem rv_mulL {i j : Int} (h : -(2 ^ 64) < i) (h2 : i < 2 ^ 64) : RV (rI CMul fun i j => .int (i * j)) (.int i) (.int j) H (.int (i * j)) := rv_I (.inl ⟨h, h2⟩)
theorem rv_powS {i j : Int} (h : CPow i j) : RV (rI CPow fun i j => .int (i ^ j.toNat)) (.int i) (.int j) H (.int (i ^ j.toNat)) := rv_I h
theorem ix_int {ns : List Int} {i : Int} (h0 : 0 ≤ i) (h1 : i < ns.length) : atI (ns.map V.int) i = some (.int (ns.getD i.toNat 0)) := by
  obtain ⟨k, rfl⟩ := Int.eq_ofNat_of_zero_le h0
  refine atI_nat ?_
  have hk : k < ns.length := by omega
  rw [List.getElem?_map, List.getElem?_eq_getElem hk]
  show some (V.int ns[k]) = some (V.int (ns.getD k 0))
  rw [List.getD_eq_getElem?_getD, List.getElem?_eq_getElem hk]
  rfl
theorem rv_ixI {p : Addr} {ns : List Int} {i : Int} (h : SqL K H p (ns.map V.int)) (h0 : 0 ≤ i) (h1 : i < ns.length) : RV (rIxL K) (.ref p) (.int i) H (.int (ns.getD i.toNat 0)) := rv_ixL h (ix_int h0 h1)
theorem rn_no (h : x ≠ .non) : RV rNone x .non H (.bl (decide False)) := rp_isNF h
theorem rn_yes : RV rNone .non .non H (.bl (decide True)) := rp_isNT
theorem rs_no : RV rSome .non .non H (.bl (decide False)) := rp_notNT
theorem rs_yes (h : x ≠ .non) : RV rSome x .non H (.bl (decide True)) := rp_notNF h
end

/-! ### loops -/
/-- what holds in what is known, whatever stands besides -/
def Kn (I : L2.St → Hp → Prop) : L2.St → Hp → Prop := fun σ H1 => ∃ H, I σ H ∧ Ex H H1
section
variable {K : PySem.W.Frag} {σ : L2.St} {H H' : Hp} {ta tb te tx : TE} {t u : TT} {x y z v : V} {r : R2} {D : Ends} {tu tw tz ts : TS} {g : TG} {I : L2.St → Hp → Prop}
theorem sv_kn {rt : VK} {bk ct : L2.St → Hp → Prop} (h : I σ H) : Sv tNext { nx := Kn I, rt := rt, bk := bk, ct := ct } σ H := fun H1 e => ⟨H, h, e⟩
theorem sv_kc {rt : VK} {bk nx : L2.St → Hp → Prop} (h : I σ H) : Sv tCont { nx := nx, rt := rt, bk := bk, ct := Kn I } σ H := fun H1 e => ⟨H, h, e⟩
/-- for x in range(n) -/
theorem sv_forR1 {ta : TA} {j : Nat} {n : Int} (h : EvA ta σ H [.int n]) (hn : -100000 ≤ n ∧ n ≤ 100000) (I : Nat → L2.St → Hp → Prop) (h0 : I 0 σ H)
    (hs : ∀ (i : Nat) σ' H', (i : Int) < n → I i σ' H' → Sv tu { D with nx := Kn (I (i + 1)), ct := Kn (I (i + 1)), bk := tz D } (σ'.set j (some (.int (i : Int)))) H') (hd : ∀ σ' H', I n.toNat σ' H' → Sv tz D σ' H') : Sv (tSeq (tFor (iRng1 ta) (gName j) tu) tz) D σ H :=
  fun H1 e => h H1 e _ fun H2 e2 => ⟨n, rfl, by omega, by omega, for_range (D := { D with nx := tz D }) (lo := 0) (n := n.toNat) (fun i => Kn (I i)) ⟨H, h0, e.trans e2⟩ (fun i σ' H3 hi ⟨H', p, e3⟩ => by
    have e0 : (0 : Int) + (i : Int) = (i : Int) := Int.zero_add _
    show tu { D with nx := Kn (I (i + 1)), ct := Kn (I (i + 1)), bk := tz D } (σ'.set j (some (.int ((0 : Int) + (i : Int))))) H3
    rw [e0]
    exact hs i σ' H' (by omega) p H3 e3) (fun σ' H3 ⟨H', p, e3⟩ => hd σ' H' p H3 e3)⟩
/-- for x in xs, a list that stands -/
theorem sv_forL {a : Addr} {xs : List V} {tl : TE} {j : Nat} (h : Ev tl σ H (.ref a)) (hx : SqL K H a xs) (I : Nat → L2.St → Hp → Prop) (h0 : I 0 σ H) (hl : ∀ i σ' H', I i σ' H' → SqL K H' a xs)
    (hs : ∀ i x σ' H', xs[i]? = some x → I i σ' H' → Sv tu { D with nx := Kn (I (i + 1)), ct := Kn (I (i + 1)), bk := tz D } (σ'.set j (some x)) H') (hd : ∀ σ' H', I xs.length σ' H' → Sv tz D σ' H') : Sv (tSeq (tFor (iList K tl) (gName j) tu) tz) D σ H :=
  fun H1 e => h H1 e _ fun H2 e2 => ⟨a, rfl, ⟨xs, ex_l (e.trans e2) hx⟩, for_list (D := { D with nx := tz D }) (xs := xs) (fun i => Kn (I i)) ⟨H, h0, e.trans e2⟩ (fun i σ' H3 _ ⟨H', p, e3⟩ => ex_l e3 (hl i σ' H' p))
    (fun i x σ' H3 hi ⟨H', p, e3⟩ => hs i x σ' H' hi p H3 e3) (fun σ' H3 ⟨H', p, e3⟩ => hd σ' H' p H3 e3)⟩
/-- for x in t, a tuple that stands -/
theorem sv_forT {a : Addr} {xs : List V} {tl : TE} {j : Nat} (h : Ev tl σ H (.ref a)) (hx : SqT K H a xs) (I : Nat → L2.St → Hp → Prop) (h0 : I 0 σ H) (hl : ∀ i σ' H', I i σ' H' → SqT K H' a xs)
    (hs : ∀ i x σ' H', xs[i]? = some x → I i σ' H' → Sv tu { D with nx := Kn (I (i + 1)), ct := Kn (I (i + 1)), bk := tz D } (σ'.set j (some x)) H') (hd : ∀ σ' H', I xs.length σ' H' → Sv tz D σ' H') : Sv (tSeq (tFor (iTup K tl) (gName j) tu) tz) D σ H :=
  fun H1 e => h H1 e _ fun H2 e2 => ⟨a, rfl, ⟨xs, ex_t (e.trans e2) hx⟩, for_tup (D := { D with nx := tz D }) (xs := xs) (fun i => Kn (I i)) ⟨H, h0, e.trans e2⟩ (fun i σ' H3 _ ⟨H', p, e3⟩ => ex_t e3 (hl i σ' H' p))
    (fun i x σ' H3 hi ⟨H', p, e3⟩ => hs i x σ' H' hi p H3 e3) (fun σ' H3 ⟨H', p, e3⟩ => hd σ' H' p H3 e3)⟩
/-- for x, y in zip(xs, ys) -/
theorem sv_forZ {a b : Addr} {xs ys : List V} {ta : TA} {j k : Nat} (h : EvA ta σ H [.ref a, .ref b]) (hx : SqL K H a xs) (hy : SqL K H b ys) (I : Nat → L2.St → Hp → Prop) (h0 : I 0 σ H) (hl : ∀ i σ' H', I i σ' H' → SqL K H' a xs ∧ SqL K H' b ys)
    (hs : ∀ i x y σ' H', xs[i]? = some x → ys[i]? = some y → I i σ' H' → Sv tu { D with nx := Kn (I (i + 1)), ct := Kn (I (i + 1)), bk := tz D } ((σ'.set j (some x)).set k (some y)) H')
    (hd : ∀ i σ' H', i ≤ xs.length → i ≤ ys.length → (xs.length ≤ i ∨ ys.length ≤ i) → I i σ' H' → Sv tz D σ' H') :
    Sv (tSeq (tFor (iZip K ta) (gTup K 2 (gCons (gName j) (gCons (gName k) gNil))) tu) tz) D σ H := fun H1 e => h H1 e _ fun H2 e2 => by
  refine ⟨a, b, xs, ys, rfl, ex_l (e.trans e2) hx, ex_l (e.trans e2) hy, fun i m σ' H3 => i + m = min xs.length ys.length ∧ i ≤ xs.length ∧ i ≤ ys.length ∧ Kn (I i) σ' H3, ⟨min xs.length ys.length, by omega, Nat.zero_le _, Nat.zero_le _, H, h0, e.trans e2⟩, ?_⟩
  rintro i m σ' H3 ⟨hm, l1, l2, H', p, e3⟩
  obtain ⟨qx, qy⟩ := hl i σ' H' p
  by_cases c : i < xs.length ∧ i < ys.length
  · refine .inr ⟨⟨xs, ys, _, _, ex_l e3 qx, ex_l e3 qy, List.getElem?_eq_getElem c.1, List.getElem?_eq_getElem c.2⟩, Kn (I (i + 1)), fun σ2 H4 n => ⟨m - 1, by omega, by omega, by omega, by omega, n⟩, fun z H4 y => ?_⟩
    obtain ⟨T, x1, x2, rfl, nT, rfl, f1, f2⟩ := y
    refine ⟨T, [x1, x2], rfl, st_of upd_same, rfl, x1, [x2], rfl, x2, [], rfl, rfl, ?_⟩
    exact hs i x1 x2 σ' H' (f1 xs (ex_l e3 qx)) (f2 ys (ex_l e3 qy)) p _ (e3.trans (Ex.new nT))
  · refine .inl ⟨⟨xs, ys, ex_l e3 qx, ex_l e3 qy, by omega⟩, ?_⟩
    exact hd i σ' H' l1 l2 (by omega) p H3 e3
end

/-! ### data at any depth -/
mutual
theorem dp_mono {K : PySem.W.Frag} {H H' : Hp} (e : Ex H H') : ∀ {v : V} (d : PyData), Dp K H v d → Dp K H' v d
  | _, .none, h => by cases h; exact .non
  | _, .bool _, h => by cases h; exact .bl _
  | _, .int _, h => by cases h; exact .int _
  | _, .str _, h => by cases h; exact .str _
  | _, .list ds, h => by
    cases h with
    | lst a b => exact .lst (ex_l e a) (dpAll_mono e ds b)
  | _, .tuple ds, h => by
    cases h with
    | tup a b => exact .tup (ex_t e a) (dpAll_mono e ds b)
  | _, .dict _, h => by cases h
theorem dpAll_mono {K : PySem.W.Frag} {H H' : Hp} (e : Ex H H') : ∀ {vs : List V} (ds : List PyData), DpAll K H vs ds → DpAll K H' vs ds
  | _, [], h => by cases h; exact .nil
  | _, d :: ds, h => by
    cases h with
    | cons a b => exact .cons (dp_mono e d a) (dpAll_mono e ds b)
end
theorem dpAll_ints {K : PySem.W.Frag} {H : Hp} : ∀ ns : List Int, DpAll K H (ns.map V.int) (ns.map PyData.int)
  | [] => .nil
  | n :: r => .cons (.int n) (dpAll_ints r)
theorem dp_ints {K : PySem.W.Frag} {H : Hp} {a : Addr} {ns : List Int} (h : SqL K H a (ns.map V.int)) : Dp K H (.ref a) (.list (ns.map PyData.int)) := .lst h (dpAll_ints ns)
theorem dp_intsT {K : PySem.W.Frag} {H : Hp} {a : Addr} {ns : List Int} (h : SqT K H a (ns.map V.int)) : Dp K H (.ref a) (.tuple (ns.map PyData.int)) := .tup h (dpAll_ints ns)
/-- data that may be compared, at most n deep -/
def Shp (n : Nat) (d : PyData) : Prop := d.canLay0 = true ∧ d.depth ≤ n
theorem Shp.ok {n : Nat} {d : PyData} (h : Shp n d) (hn : n ≤ 64) : SeqAt.shaped d = true := by
  unfold SeqAt.shaped
  rw [h.1, Bool.true_and]
  exact decide_eq_true (Nat.le_trans h.2 hn)
theorem shp_int {n : Nat} (i : Int) : Shp n (.int i) := ⟨rfl, Nat.zero_le _⟩
theorem shp_none {n : Nat} : Shp n .none := ⟨rfl, Nat.zero_le _⟩
theorem shp_all {n : Nat} : ∀ {ds : List PyData}, (∀ d ∈ ds, Shp n d) → PyData.canLayAll0 ds = true ∧ PyData.depthAll ds ≤ n
  | [], _ => ⟨rfl, Nat.zero_le _⟩
  | d :: ds, h => by
    have h1 := h d (List.mem_cons_self ..)
    have h2 := shp_all fun x hx => h x (List.mem_cons_of_mem _ hx)
    refine ⟨?_, ?_⟩
    · show (d.canLay0 && PyData.canLayAll0 ds) = true
      rw [h1.1, h2.1]
      rfl
    · show max d.depth (PyData.depthAll ds) ≤ n
      exact Nat.max_le.mpr ⟨h1.2, h2.2⟩
theorem shp_list {n : Nat} {ds : List PyData} (h : ∀ d ∈ ds, Shp n d) : Shp (n + 1) (.list ds) := ⟨(shp_all h).1, Nat.succ_le_succ (shp_all h).2⟩
theorem shp_tuple {n : Nat} {ds : List PyData} (h : ∀ d ∈ ds, Shp n d) : Shp (n + 1) (.tuple ds) := ⟨(shp_all h).1, Nat.succ_le_succ (shp_all h).2⟩
theorem shp_ints (ns : List Int) : ∀ d ∈ ns.map PyData.int, Shp 0 d := fun d hd => by
  obtain ⟨n, _, rfl⟩ := List.mem_map.mp hd
  exact shp_int n
theorem shp_listI (ns : List Int) : Shp 1 (.list (ns.map PyData.int)) := shp_list (shp_ints ns)
theorem shp_tupI (ns : List Int) : Shp 1 (.tuple (ns.map PyData.int)) := shp_tuple (shp_ints ns)
section
variable {K : PySem.W.Frag} {σ : L2.St} {H H' : Hp} {ta tb te tx : TE} {t u : TT} {x y z v : V} {r : R2} {D : Ends} {tu tw tz ts : TS} {g : TG}
theorem rd_neSame {d : PyData} {n : Nat} (hx : Dp K H x d) (hy : Dp K H y d) (hs : Shp n d) (hn : n ≤ 64) : RV (rNeD K) x y H (.bl (decide False)) := fun H1 e Q q => by
  refine ⟨d, d, dp_mono e d hx, dp_mono e d hy, hs.ok hn, hs.ok hn, ?_⟩
  rw [SeqAt.eqv_refl d hs.1]
  exact q H1 (Ex.refl H1)
theorem rd_eqSame {d : PyData} {n : Nat} (hx : Dp K H x d) (hy : Dp K H y d) (hs : Shp n d) (hn : n ≤ 64) : RV (rEqD K) x y H (.bl (decide True)) := fun H1 e Q q => by
  refine ⟨d, d, dp_mono e d hx, dp_mono e d hy, hs.ok hn, hs.ok hn, ?_⟩
  rw [SeqAt.eqv_refl d hs.1]
  exact q H1 (Ex.refl H1)
theorem rd_eq {d d' : PyData} {n : Nat} (hx : Dp K H x d) (hy : Dp K H y d') (hs : Shp n d) (hs' : Shp n d') (hn : n ≤ 64) : RV (rEqD K) x y H (.bl (PyData.eqv d d')) := fun H1 e Q q =>
  ⟨d, d', dp_mono e d hx, dp_mono e d' hy, hs.ok hn, hs'.ok hn, q H1 (Ex.refl H1)⟩
theorem rd_ne {d d' : PyData} {n : Nat} (hx : Dp K H x d) (hy : Dp K H y d') (hs : Shp n d) (hs' : Shp n d') (hn : n ≤ 64) : RV (rNeD K) x y H (.bl (!PyData.eqv d d')) := fun H1 e Q q =>
  ⟨d, d', dp_mono e d hx, dp_mono e d' hy, hs.ok hn, hs'.ok hn, q H1 (Ex.refl H1)⟩
theorem tp_valT (h : Ev te σ H (.bl true)) : EvT (tB te) σ H (decide True) := et_B h
theorem tp_valF (h : Ev te σ H (.bl false)) : EvT (tB te) σ H (decide False) := et_B h

/-! ### arguments of which something is known -/
def EvAP (ta : TA) (σ : L2.St) (H : Hp) (P : List V → Hp → Prop) : Prop := ∀ H1, Ex H H1 → ∀ Q : List V → Hp → Prop, (∀ vs H2, Ex H1 H2 → P vs H2 → Q vs H2) → ta σ H1 Q
theorem eap_nil {P : List V → Hp → Prop} (h : ∀ H2, Ex H H2 → P [] H2) : EvAP tNil σ H P := fun H1 e Q q => q [] H1 (Ex.refl H1) (h H1 e)
theorem eap_cons {tr : TA} {P : List V → Hp → Prop} {P1 : V → Hp → Prop} (h : EvP te σ H P1) (hr : ∀ v H2, Ex H H2 → P1 v H2 → EvAP tr σ H2 fun vs H3 => P (v :: vs) H3) : EvAP (tCons te tr) σ H P := fun H1 e Q q =>
  h H1 e _ fun v H2 e2 p => hr v H2 (e.trans e2) p H2 (Ex.refl H2) _ fun vs H3 e3 p3 => q (v :: vs) H3 (e2.trans e3) p3
theorem eap_of {ta : TA} {vs : List V} (h : EvA ta σ H vs) : EvAP ta σ H fun ws H2 => ws = vs ∧ Ex H H2 := fun H1 e Q q => h H1 e Q fun H2 e2 => q vs H2 e2 ⟨rfl, e.trans e2⟩
/-- a promise that gives a value of which P holds -/
def SpP (sp : Sp) (vs : List V) (H : Hp) (P : V → Hp → Prop) : Prop := ∀ H1, Ex H H1 → ∀ Q : VK, (∀ v H2, Ex H1 H2 → P v H2 → Q v H2) → ∀ E : XK, sp vs H1 Q E
theorem evp_cl {sp : Sp} {E : XK} {ta : TA} {PA : List V → Hp → Prop} {P : V → Hp → Prop} (h : EvAP ta σ H PA) (hs : ∀ vs H2, Ex H H2 → PA vs H2 → SpP sp vs H2 P) : EvP (tCall sp [] E ta) σ H P := fun H1 e Q q =>
  h H1 e _ fun vs H2 e2 p => by
    rw [List.append_nil]
    exact hs vs H2 (e.trans e2) p H2 (Ex.refl H2) Q (fun v H3 e3 => q v H3 (e2.trans e3)) E
theorem ep_cl {sp : Sp} {E : XK} {ta : TA} {vs : List V} {P : V → Hp → Prop} (h : EvA ta σ H vs) (hs : SpP sp vs H P) : EvP (tCall sp [] E ta) σ H P := fun H1 e Q q =>
  h H1 e _ fun H2 e2 => by
    rw [List.append_nil]
    exact hs H2 (e.trans e2) Q (fun v H3 e3 => q v H3 (e2.trans e3)) E
/-- a list display; what is known of its items -/
theorem evp_lst {ta : TA} {PA : List V → Hp → Prop} (h : EvAP ta σ H PA) (hl : ∀ vs H2, PA vs H2 → vs.length ≤ 100000) : EvP (tLst ta) σ H fun v H2 => ∃ p vs H3, v = .ref p ∧ PA vs H3 ∧ H3 p = none ∧ Ex H H3 ∧ H2 = upd H3 p (.lst vs) := fun H1 e Q q =>
  h H1 e _ fun vs H2 e2 p => ⟨sz_of (hl vs H2 p), fun l hn => q _ _ (e2.trans (Ex.new hn)) ⟨l, vs, H2, rfl, p, hn, e.trans e2, rfl⟩⟩
theorem evp_tup {ta : TA} {PA : List V → Hp → Prop} (h : EvAP ta σ H PA) (hl : ∀ vs H2, PA vs H2 → vs.length ≤ 100000) : EvP (tTup ta) σ H fun v H2 => ∃ p vs H3, v = .ref p ∧ PA vs H3 ∧ H3 p = none ∧ Ex H H3 ∧ H2 = upd H3 p (.tup vs) := fun H1 e Q q =>
  h H1 e _ fun vs H2 e2 p => ⟨sz_of (hl vs H2 p), fun l hn => q _ _ (e2.trans (Ex.new hn)) ⟨l, vs, H2, rfl, p, hn, e.trans e2, rfl⟩⟩
theorem EvP.imp {P P' : V → Hp → Prop} (h : EvP te σ H P) (i : ∀ v H2, Ex H H2 → P v H2 → P' v H2) : EvP te σ H P' := fun H1 e Q q => h H1 e Q fun v H2 e2 p => q v H2 e2 (i v H2 (e.trans e2) p)
theorem EvL.p {xs : List V} (h : EvL te σ H xs) : EvP te σ H fun v H2 => ∃ p, v = .ref p ∧ H p = none ∧ Ex H H2 ∧ H2 p = some (.lst xs) := fun H1 e Q q => h H1 e Q fun p H2 n e2 hp => q _ H2 e2 ⟨p, rfl, fresh_back e n, e.trans e2, hp⟩
/-! ### comprehensions of ints -/
theorem el_lcI {ta : TA} {j : Nat} {vs : List Nat} {n : Int} (f : Nat → Int) (h : EvA ta σ H [.int n]) (hn : 0 ≤ n ∧ n ≤ 40000) (hw : ∀ x, wipe ((wipe σ vs).set j (some x)) vs = wipe σ vs)
    (he : ∀ i : Nat, (i : Int) < n → Ev te ((wipe σ vs).set j (some (.int (i : Int)))) H (.int (f i))) : EvL (tLc (iRng1 ta) (gName j) tYes te vs) σ H (((List.range n.toNat).map f).map V.int) := by
  have g := el_lcR1 (t := tYes) (te := te) (fun _ => true) (fun i => V.int (f i)) h hn hw (fun i H1 _ _ H2 _ Q q => q H2 (Ex.refl H2)) (fun i H1 e hi _ => (he i hi).mono e)
  have e : given n.toNat (fun _ => true) (fun i => V.int (f i)) = ((List.range n.toNat).map f).map V.int := by
    unfold given
    rw [List.map_map, List.filter_eq_self.mpr (fun _ _ => rfl)]
    rfl
  rw [e] at g
  exact g
theorem sv_cut (M : L2.St → Hp → Prop) (h : Sv tu { D with nx := Kn M } σ H) (k : ∀ σ' H', M σ' H' → Sv tz D σ' H') : Sv (tCut tu tz) D σ H := fun H1 e => ⟨Kn M, h H1 e, fun σ' H3 ⟨H', m, e3⟩ => k σ' H' m H3 e3⟩
/-- xs[i] = e, the list xs tracked -/
theorem sv_setL {l : Addr} {xs : List V} {i : Int} {j : Nat} {ti : TE} (hl : H l = some (.lst xs)) (h : Ev te σ H v) (ho : Ev ta σ H (.ref l)) (hi : Ev ti σ H (.int i)) (hj : ixN xs.length i = some j) (k : Sv tNext D σ (upd H l (.lst (xs.set j v)))) :
    Sv (tAsg te (gSub ta ti rSetL)) D σ H := fun H1 e => h H1 e _ fun H2 e2 => ho H2 (e.trans e2) _ fun H3 e3 => hi H3 ((e.trans e2).trans e3) _ fun H4 e4 =>
  ⟨l, xs, i, j, rfl, rfl, (((e.trans e2).trans e3).trans e4) l _ hl, hj, k _ fun a o ha => by
    by_cases q : a = l
    · subst q
      rw [upd_same] at ha ⊢
      exact ha
    · rw [upd_ne q] at ha ⊢
      exact (((e.trans e2).trans e3).trans e4) a o ha⟩
end

/-! ### slices, repetitions -/
theorem cut_to {xs : List V} {m : Int} (h : 0 ≤ m) : cutV xs none (some m) = xs.take m.toNat := by
  obtain ⟨k, rfl⟩ := Int.eq_ofNat_of_zero_le h
  unfold cutV
  rw [HT.sIx_none, HT.sIx_nat, List.drop_zero, Nat.sub_zero]
  show List.take (min k xs.length) xs = List.take k xs
  by_cases c : k ≤ xs.length
  · rw [Nat.min_eq_left c]
  · rw [Nat.min_eq_right (by omega), List.take_length, List.take_of_length_le (by omega)]
theorem cut_from {xs : List V} {m : Int} (h : 0 ≤ m) : cutV xs (some m) none = xs.drop m.toNat := by
  obtain ⟨k, rfl⟩ := Int.eq_ofNat_of_zero_le h
  unfold cutV
  rw [HT.sIx_none, HT.sIx_nat]
  show List.take (xs.length - min k xs.length) (List.drop (min k xs.length) xs) = List.drop k xs
  by_cases c : k ≤ xs.length
  · rw [Nat.min_eq_left c]
    exact List.take_of_length_le (by rw [List.length_drop] <;> omega)
  · rw [Nat.min_eq_right (by omega), List.drop_eq_nil_of_le (Nat.le_refl _), List.drop_eq_nil_of_le (by omega), List.take_nil]
theorem flat_rep {α : Type} (x : α) : ∀ n : Nat, (List.replicate n [x]).flatten = List.replicate n x
  | 0 => rfl
  | n + 1 => by
    rw [List.replicate_succ, List.replicate_succ, List.flatten_cons, flat_rep x n]
    rfl
theorem map_rep (x : Int) (n : Nat) : List.replicate n (V.int x) = (List.replicate n x).map V.int := List.map_replicate.symm
theorem ixN_of {n : Nat} {i : Int} (h0 : 0 ≤ i) (h1 : i < n) : ixN n i = some i.toNat := by
  unfold ixN
  rw [if_pos h0, if_pos h1]
theorem map_set_int (xs : List Int) (j : Nat) (v : Int) : (xs.map V.int).set j (.int v) = (xs.set j v).map V.int := by
  rw [List.map_set]

/-! ### values with new objects: N holds what was made for them -/
def Unn (N H : Hp) : Hp := fun a => match H a with
  | some o => some o
  | none => N a
theorem unn_r {N H : Hp} : Ex H (Unn N H) := fun a o h => by
  show (match H a with | some o => some o | none => N a) = some o
  rw [h]
theorem unn_l {N H : Hp} (d : ∀ a, N a ≠ none → H a = none) : Ex N (Unn N H) := fun a o h => by
  show (match H a with | some o => some o | none => N a) = some o
  rw [d a (by rw [h]; exact fun z => by cases z)]
  exact h
theorem unn_none {N H : Hp} {a : Addr} (h : Unn N H a ≠ none) : H a ≠ none ∨ N a ≠ none := by
  cases e : H a with
  | some o => exact .inl fun z => by cases z
  | none =>
    refine .inr fun z => h ?_
    show (match H a with | some o => some o | none => N a) = none
    rw [e]
    exact z
theorem unn_ex {N H H' : Hp} (a : Ex H H') (b : Ex N H') : Ex (Unn N H) H' := fun x o h => by
  have h2 : (match H x with | some o => some o | none => N x) = some o := h
  cases e : H x with
  | some q =>
    rw [e] at h2
    exact a x o (e.trans h2)
  | none =>
    rw [e] at h2
    exact b x o h2
def nonew : Hp := fun _ => none
theorem nonew_ex {H : Hp} : Ex nonew H := fun a o h => by cases h
def one (p : Addr) (o : HO) : Hp := upd nonew p o
theorem one_at {p : Addr} {o : HO} : one p o p = some o := upd_same
theorem one_ne {p a : Addr} {o : HO} (h : one p o a ≠ none) : a = p := by
  by_cases q : a = p
  · exact q
  · exfalso
    refine h ?_
    unfold one
    rw [upd_ne q]
    rfl
theorem one_ex {p : Addr} {o : HO} {H : Hp} (h : H p = some o) : Ex (one p o) H := fun a x e => by
  have q := one_ne (p := p) (a := a) (o := o) (by rw [e]; exact fun z => by cases z)
  subst q
  rw [one_at] at e
  rw [h, e]
/-- a value, N its new objects, all of them new in the heap that is there -/
def EvN (te : TE) (σ : L2.St) (H : Hp) (P : V → Hp → Prop) : Prop := ∀ H1, Ex H H1 → ∀ Q : VK, (∀ v N H2, (∀ a, N a ≠ none → H1 a = none) → P v N → Ex N H2 → Ex H1 H2 → Q v H2) → te σ H1 Q
def RetN (P : V → Hp → Prop) (H : Hp) (Q : VK) : Prop := ∀ v N H2, (∀ a, N a ≠ none → H a = none) → P v N → Ex N H2 → Ex H H2 → Q v H2
def SpNn (n : Nat) (R : List V → Hp → (V → Hp → Prop) → Prop) : Sp := fun vs H Q _ => vs.length = n ∧ ∃ P, R vs H P ∧ RetN P H Q
section
variable {K : PySem.W.Frag} {σ : L2.St} {H H' : Hp} {ta tb te tx tl : TE} {t u : TT} {x y z v : V} {r : R2} {D : Ends} {tu tw tz ts : TS} {g : TG} {P P' : V → Hp → Prop}
theorem EvN.mono (e : Ex H H') (h : EvN te σ H P) : EvN te σ H' P := fun H1 a Q q => h H1 (e.trans a) Q q
theorem EvN.imp (h : EvN te σ H P) (i : ∀ v N, P v N → P' v N) : EvN te σ H P' := fun H1 e Q q => h H1 e Q fun v N H2 d p a b => q v N H2 d (i v N p) a b
theorem EvL.n {xs : List V} (h : EvL te σ H xs) : EvN te σ H (IsL xs) := fun H1 e Q q => h H1 e Q fun p H2 n e2 hp => q (.ref p) (one p (.lst xs)) H2 (fun a z => by rw [one_ne z]; exact n) ⟨p, rfl, one_at⟩ (one_ex hp) e2
theorem Ev.n (h : Ev te σ H v) : EvN te σ H fun v' _ => v' = v := fun H1 e Q q => h H1 e Q fun H2 e2 => q v nonew H2 (fun a z => (z rfl).elim) rfl nonew_ex e2
theorem EvN.p (h : EvN te σ H P) (m : ∀ v N N', Ex N N' → P v N → P v N') : EvP te σ H P := fun H1 e Q q => h H1 e Q fun v N H2 d p a b => q v H2 b (m v N H2 a p)
theorem EvN.l {xs : List V} (h : EvN te σ H (IsL xs)) : EvL te σ H xs := fun H1 e Q q => h H1 e Q fun v N H2 d ⟨p, ev, hp⟩ a b => by
  subst ev
  exact q p H2 (d p (by rw [hp]; exact fun z => by cases z)) b (a _ _ hp)
theorem sv_asgN {i : Nat} (h : EvN te σ H P) (k : ∀ v N H2, (∀ a, N a ≠ none → H a = none) → P v N → Ex N H2 → Ex H H2 → Sv tz D (σ.set i (some v)) H2) : Sv (tSeq (tAsg te (gName i)) tz) D σ H :=
  fun H1 e => h H1 e _ fun v N H2 d p a b => k v N H2 (fun x z => fresh_back e (d x z)) p a (e.trans b) H2 (Ex.refl H2)
theorem sv_asgN' {i : Nat} (h : EvN te σ H P) (k : ∀ v N H2, (∀ a, N a ≠ none → H a = none) → P v N → Ex N H2 → Ex H H2 → Sv tNext D (σ.set i (some v)) H2) : Sv (tAsg te (gName i)) D σ H :=
  fun H1 e => h H1 e _ fun v N H2 d p a b => k v N H2 (fun x z => fresh_back e (d x z)) p a (e.trans b) H2 (Ex.refl H2)
theorem sv_rqN {nx bk ct : L2.St → Hp → Prop} {Q : VK} (k : RetN P H Q) (h : EvN te σ H P) : Sv (tRet te) { nx := nx, rt := Q, bk := bk, ct := ct } σ H :=
  fun H1 e => h H1 e _ fun v N H2 d p a b => k v N H2 (fun x z => fresh_back e (d x z)) p a (e.trans b)
theorem retN_mono {Q : VK} (e : Ex H H') (h : RetN P H Q) : RetN P H' Q := fun v N H2 d p a b => h v N H2 (fun x z => fresh_back e (d x z)) p a (e.trans b)
def SpNP (sp : Sp) (vs : List V) (H : Hp) (P : V → Hp → Prop) : Prop := ∀ H1, Ex H H1 → ∀ Q : VK, RetN P H1 Q → ∀ E : XK, sp vs H1 Q E
theorem spn {n : Nat} {R : List V → Hp → (V → Hp → Prop) → Prop} {vs : List V} (hl : vs.length = n) (h : ∀ H1, Ex H H1 → R vs H1 P) : SpNP (SpNn n R) vs H P := fun H1 e Q q E => ⟨hl, P, h H1 e, q⟩
theorem en_cl {sp : Sp} {vs : List V} {E : XK} {ta : TA} (h : EvA ta σ H vs) (hs : SpNP sp vs H P) : EvN (tCall sp [] E ta) σ H P := fun H1 e Q q =>
  h H1 e _ fun H2 e2 => by
    rw [List.append_nil]
    exact hs H2 (e.trans e2) Q (fun v N H3 d p a b => q v N H3 (fun x z => fresh_back e2 (d x z)) p a (e2.trans b)) E
/-- [e for x in range(n)], e with new objects: a word of the items so far and of what was made for them -/
theorem en_lcR1 {ta : TA} {j : Nat} {vs : List Nat} {n : Int} (h : EvA ta σ H [.int n]) (hn : -100000 ≤ n ∧ n ≤ 40000) (hw : ∀ x, wipe ((wipe σ vs).set j (some x)) vs = wipe σ vs) (I : Nat → List V → Hp → Prop) (h0 : I 0 [] nonew)
    (he : ∀ (i : Nat) acc N, (i : Int) < n → I i acc N → EvN te ((wipe σ vs).set j (some (.int (i : Int)))) H fun v N' => ∀ N'', Ex N N'' → Ex N' N'' → I (i + 1) (acc ++ [v]) N'') :
    EvN (tLc (iRng1 ta) (gName j) tYes te vs) σ H fun v N => ∃ Dl acc, v = .ref Dl ∧ N Dl = some (.lst acc) ∧ ∃ N0, Ex N0 N ∧ I n.toNat acc N0 := fun H0 e Q q => h H0 e _ fun H1 e1 => ⟨n, rfl, by omega, by omega, fun Dl hD => by
  refine lc_range (lo := 0) (n := n.toNat) (fun i H' => ∃ acc N, Ex H1 H' ∧ H' Dl = some (.lst acc) ∧ (∀ a, N a ≠ none → H1 a = none ∧ a ≠ Dl) ∧ Ex N H' ∧ I i acc N ∧ acc.length ≤ i) ⟨[], nonew, Ex.new hD, upd_same, fun a z => (z rfl).elim, nonew_ex, h0, Nat.le_refl _⟩ ?_ ?_
  · rintro i H' hi ⟨acc, N, p1, p2, p3, p4, p5, p6⟩
    have e0 : (0 : Int) + (i : Int) = (i : Int) := Int.zero_add _
    show wipe ((wipe σ vs).set j (some (.int ((0 : Int) + (i : Int))))) vs = wipe σ vs ∧ _
    rw [e0]
    refine ⟨hw _, ?_⟩
    show te ((wipe σ vs).set j (some (.int (i : Int)))) H' _
    refine he i acc N (by omega) p5 H' ((e.trans e1).trans p1) _ fun v N' H4 d p a b => ⟨acc, b _ _ p2, sz_lt (by omega), acc ++ [v], Unn N' N, Ex.mut (p1.trans b) hD, upd_same, fun x z => ?_, ?_, p (Unn N' N) unn_r (unn_l fun x z => ?_), by rw [List.length_append]; simp only [List.length_singleton]; omega⟩
    · rcases unn_none z with z | z
      · exact p3 x z
      · refine ⟨fresh_back p1 (d x z), fun q => ?_⟩
        have w := d x z
        rw [q, p2] at w
        cases w
    · refine unn_ex (fun x o z => ?_) (fun x o z => ?_)
      · rw [upd_ne (p3 x (by rw [z]; exact fun w => by cases w)).2]
        exact b _ _ (p4 _ _ z)
      · have w := d x (by rw [z]; exact fun w => by cases w)
        rw [upd_ne (fun q => by rw [q, p2] at w; cases w)]
        exact a _ _ z
    · have w := d x z
      cases k : N x with
      | none => rfl
      | some o => rw [p4 _ _ k] at w; cases w
  · rintro H' ⟨acc, N, p1, p2, p3, p4, p5, p6⟩
    refine q (.ref Dl) (Unn (one Dl (.lst acc)) N) H' (fun a z => ?_) ⟨Dl, acc, rfl, ?_, N, unn_r, p5⟩ (unn_ex p4 (one_ex p2)) (e1.trans p1)
    · rcases unn_none z with z | z
      · exact fresh_back e1 (p3 a z).1
      · rw [one_ne z]
        exact fresh_back e1 hD
    · refine unn_l (fun a z => ?_) _ _ one_at
      have w := one_ne z
      subst w
      cases k : N a with
      | none => rfl
      | some o => exact ((p3 a (by rw [k]; exact fun w => by cases w)).2 rfl).elim⟩
/-- [e for x in xs if t], the same over a list that stands -/
theorem en_lcL {a : Addr} {xs : List V} {j : Nat} {vs : List Nat} (h : Ev tl σ H (.ref a)) (hx : SqL K H a xs) (hz : xs.length ≤ 40000) (hw : ∀ x, wipe ((wipe σ vs).set j (some x)) vs = wipe σ vs) (f : Nat → Bool) (I : Nat → List V → Hp → Prop) (h0 : I 0 [] nonew)
    (ht : ∀ (i : Nat) x, xs[i]? = some x → EvT t ((wipe σ vs).set j (some x)) H (f i))
    (he : ∀ (i : Nat) x acc N, xs[i]? = some x → f i = true → I i acc N → EvN te ((wipe σ vs).set j (some x)) H fun v N' => ∀ N'', Ex N N'' → Ex N' N'' → I (i + 1) (acc ++ [v]) N'')
    (hs : ∀ (i : Nat) acc N, f i = false → I i acc N → I (i + 1) acc N) :
    EvN (tLc (iList K tl) (gName j) t te vs) σ H fun v N => ∃ Dl acc, v = .ref Dl ∧ N Dl = some (.lst acc) ∧ ∃ N0, Ex N0 N ∧ I xs.length acc N0 := fun H0 e Q q => h H0 e _ fun H1 e1 => ⟨a, rfl, ⟨xs, ex_l (e.trans e1) hx⟩, fun Dl hD => by
  refine lc_list (K := K) (a := a) (xs := xs) (fun i H' => ∃ acc N, Ex H1 H' ∧ H' Dl = some (.lst acc) ∧ (∀ a, N a ≠ none → H1 a = none ∧ a ≠ Dl) ∧ Ex N H' ∧ I i acc N ∧ acc.length ≤ i) ⟨[], nonew, Ex.new hD, upd_same, fun a z => (z rfl).elim, nonew_ex, h0, Nat.le_refl _⟩ (fun i H' _ ⟨_, _, p1, _⟩ => ex_l ((e.trans e1).trans p1) hx) ?_ ?_
  · rintro i x H' hi ⟨acc, N, p1, p2, p3, p4, p5, p6⟩
    refine ⟨hw x, ?_⟩
    have hl := (List.getElem?_eq_some_iff.mp hi).1
    refine ht i x hi H' ((e.trans e1).trans p1) _ fun H3 e3 => ?_
    cases hf : f i with
    | false => exact ⟨acc, N, p1.trans e3, e3 _ _ p2, p3, p4.trans e3, hs i acc N hf p5, by omega⟩
    | true =>
      show te ((wipe σ vs).set j (some x)) H3 _
      refine he i x acc N hi hf p5 H3 (((e.trans e1).trans p1).trans e3) _ fun v N' H4 d p a b => ⟨acc, b _ _ (e3 _ _ p2), sz_lt (by omega), acc ++ [v], Unn N' N, Ex.mut ((p1.trans e3).trans b) hD, upd_same, fun x z => ?_, ?_, p (Unn N' N) unn_r (unn_l fun x z => ?_), by rw [List.length_append]; simp only [List.length_singleton]; omega⟩
      · rcases unn_none z with z | z
        · exact p3 x z
        · refine ⟨fresh_back (p1.trans e3) (d x z), fun q => ?_⟩
          have w := d x z
          rw [q, e3 _ _ p2] at w
          cases w
      · refine unn_ex (fun x o z => ?_) (fun x o z => ?_)
        · rw [upd_ne (p3 x (by rw [z]; exact fun w => by cases w)).2]
          exact b _ _ (e3 _ _ (p4 _ _ z))
        · have w := d x (by rw [z]; exact fun w => by cases w)
          rw [upd_ne (fun q => by rw [q, e3 _ _ p2] at w; cases w)]
          exact a _ _ z
      · have w := d x z
        cases k : N x with
        | none => rfl
        | some o => rw [e3 _ _ (p4 _ _ k)] at w; cases w
  · rintro H' ⟨acc, N, p1, p2, p3, p4, p5, p6⟩
    refine q (.ref Dl) (Unn (one Dl (.lst acc)) N) H' (fun a z => ?_) ⟨Dl, acc, rfl, ?_, N, unn_r, p5⟩ (unn_ex p4 (one_ex p2)) (e1.trans p1)
    · rcases unn_none z with z | z
      · exact fresh_back e1 (p3 a z).1
      · rw [one_ne z]
        exact fresh_back e1 hD
    · refine unn_l (fun a z => ?_) _ _ one_at
      have w := one_ne z
      subst w
      cases k : N a with
      | none => rfl
      | some o => exact ((p3 a (by rw [k]; exact fun w => by cases w)).2 rfl).elim⟩
/-- while, by a word and a number that falls -/
theorem sv_while (W : Nat → L2.St → Hp → Prop) (m0 : Nat) (h0 : W m0 σ H)
    (hs : ∀ m σ' H', W m σ' H' → ∃ (b : Bool), EvT t σ' H' b ∧ (b = true → Sv tu { D with nx := Kn fun σ2 H2 => ∃ m', m' < m ∧ W m' σ2 H2, ct := Kn fun σ2 H2 => ∃ m', m' < m ∧ W m' σ2 H2, bk := tz D } σ' H') ∧ (b = false → Sv tz D σ' H')) : Sv (tSeq (tWhile t tu) tz) D σ H := fun H1 e => by
  refine ⟨fun m => Kn (W m), ⟨m0, H, h0, e⟩, ?_⟩
  rintro m σ' H2 ⟨H', w, e2⟩
  obtain ⟨b, ht, k1, k2⟩ := hs m σ' H' w
  refine ht H2 e2 _ fun H3 e3 => ?_
  cases b with
  | true => exact ⟨_, fun σ2 H4 ⟨H5, ⟨m', l, w'⟩, e5⟩ => ⟨m', l, H5, w', e5⟩, k1 rfl H3 (e2.trans e3)⟩
  | false => exact k2 rfl H3 (e2.trans e3)
/-! ### lists of lists of ints -/
def Rw (K : PySem.W.Frag) (H : Hp) (vs : List V) (rss : List (List Int)) : Prop := vs.length = rss.length ∧ ∀ (i : Nat) (rs : List Int), rss[i]? = some rs → ∃ q : Addr, vs[i]? = some (V.ref q) ∧ SqL K H q (rs.map V.int)
theorem Rw.mono {vs : List V} {rss : List (List Int)} (e : Ex H H') (h : Rw K H vs rss) : Rw K H' vs rss := ⟨h.1, fun i rs hi => by
  obtain ⟨q, a, b⟩ := h.2 i rs hi
  exact ⟨q, a, ex_l e b⟩⟩
theorem Rw.nil : Rw K H [] [] := ⟨rfl, fun i rs h => by simp at h⟩
theorem Rw.snoc {vs : List V} {rss : List (List Int)} {q : Addr} {rs : List Int} (h : Rw K H vs rss) (hq : SqL K H q (rs.map V.int)) : Rw K H (vs ++ [.ref q]) (rss ++ [rs]) := by
  refine ⟨by rw [List.length_append, List.length_append, h.1]; rfl, fun i r hi => ?_⟩
  by_cases c : i < rss.length
  · rw [List.getElem?_append_left c] at hi
    rw [List.getElem?_append_left (by rw [h.1]; exact c)]
    exact h.2 i r hi
  · rw [List.getElem?_append_right (by omega)] at hi
    have c2 : i - rss.length = 0 := by
      have := (List.getElem?_eq_some_iff.mp hi).1
      simp only [List.length_singleton] at this
      omega
    rw [c2] at hi
    have hr : rs = r := Option.some.inj hi
    subst hr
    refine ⟨q, ?_, hq⟩
    rw [List.getElem?_append_right (by rw [h.1]; omega), h.1, c2]
    rfl
theorem rw_dp : ∀ {vs : List V} {rss : List (List Int)}, Rw K H vs rss → DpAll K H vs (rss.map fun rs => PyData.list (rs.map PyData.int))
  | [], [], _ => .nil
  | [], r :: rss, h => by cases h.1
  | v :: vs, [], h => by cases h.1
  | v :: vs, r :: rss, h => by
    obtain ⟨q, e, s⟩ := h.2 0 r rfl
    have e2 : v = .ref q := Option.some.inj e
    subst e2
    refine .cons (dp_ints s) (rw_dp ⟨Nat.succ.inj h.1, fun i rs hi => h.2 (i + 1) rs hi⟩)
theorem shp_rows (rss : List (List Int)) : Shp 2 (.list (rss.map fun rs => PyData.list (rs.map PyData.int))) := shp_list fun d hd => by
  obtain ⟨rs, _, rfl⟩ := List.mem_map.mp hd
  exact shp_listI rs
end

/-! ### ends that may be none, triples, wishes -/
def ov : Option Int → V
  | none => .non
  | some i => .int i
theorem ov_get {o : Option Int} (h : ¬ o = none) : ov o = .int (o.getD 0) := by
  cases o with
  | none => exact (h rfl).elim
  | some i => rfl
structure Tri where
  c : Int
  lo : Option Int
  hi : Option Int
def tv (t : Tri) : List V := [.int t.c, ov t.lo, ov t.hi]
def IsTri (t : Tri) : V → Hp → Prop := fun v N => ∃ p, v = .ref p ∧ N p = some (.tup (tv t))
section
variable {K : PySem.W.Frag} {σ : L2.St} {H H' : Hp} {ta tb te tx tl : TE} {t u : TT} {x y z v : V} {r : R2} {D : Ends} {tu tw tz ts : TS} {g : TG} {P P' : V → Hp → Prop}
theorem rs_ov {o : Option Int} : RV rSome (ov o) .non H (.bl (decide (¬ o = none))) := by
  cases o with
  | none => exact rs_no
  | some i =>
    have e : (decide (¬ (some i : Option Int) = none)) = decide True := rfl
    rw [e]
    exact rs_yes (fun h => by cases h)
theorem rn_ov {o : Option Int} : RV rNone (ov o) .non H (.bl (decide (o = none))) := by
  cases o with
  | none => exact rn_yes
  | some i =>
    have e : (decide ((some i : Option Int) = none)) = decide False := rfl
    rw [e]
    exact rn_no (fun h => by cases h)
def Wt (K : PySem.W.Frag) (H : Hp) (vs : List V) (ts : List Tri) : Prop := vs.length = ts.length ∧ ∀ (i : Nat) (t : Tri), ts[i]? = some t → ∃ q : Addr, vs[i]? = some (V.ref q) ∧ SqT K H q (tv t)
theorem Wt.mono {vs : List V} {ts : List Tri} (e : Ex H H') (h : Wt K H vs ts) : Wt K H' vs ts := ⟨h.1, fun i t hi => by
  obtain ⟨q, a, b⟩ := h.2 i t hi
  exact ⟨q, a, ex_t e b⟩⟩
theorem Wt.nil : Wt K H [] [] := ⟨rfl, fun i t h => by simp at h⟩
theorem Wt.snoc {vs : List V} {ts : List Tri} {q : Addr} {t : Tri} (h : Wt K H vs ts) (hq : SqT K H q (tv t)) : Wt K H (vs ++ [.ref q]) (ts ++ [t]) := by
  refine ⟨by rw [List.length_append, List.length_append, h.1]; rfl, fun i r hi => ?_⟩
  by_cases c : i < ts.length
  · rw [List.getElem?_append_left c] at hi
    rw [List.getElem?_append_left (by rw [h.1]; exact c)]
    exact h.2 i r hi
  · rw [List.getElem?_append_right (by omega)] at hi
    have c2 : i - ts.length = 0 := by
      have := (List.getElem?_eq_some_iff.mp hi).1
      simp only [List.length_singleton] at this
      omega
    rw [c2] at hi
    have hr : t = r := Option.some.inj hi
    subst hr
    refine ⟨q, ?_, hq⟩
    rw [List.getElem?_append_right (by rw [h.1]; omega), h.1, c2]
    rfl
theorem Wt.at {vs : List V} {ts : List Tri} {i : Nat} {x : V} (h : Wt K H vs ts) (hx : vs[i]? = some x) : ∃ t q, ts[i]? = some t ∧ x = .ref q ∧ SqT K H q (tv t) := by
  have hi : i < ts.length := by
    have := (List.getElem?_eq_some_iff.mp hx).1
    have := h.1
    omega
  obtain ⟨q, a, b⟩ := h.2 i _ (List.getElem?_eq_getElem hi)
  rw [hx] at a
  exact ⟨_, q, List.getElem?_eq_getElem hi, Option.some.inj a, b⟩
def ovD : Option Int → PyData
  | none => .none
  | some i => .int i
def triD (t : Tri) : PyData := .tuple [.int t.c, ovD t.lo, ovD t.hi]
theorem dp_ov (o : Option Int) : Dp K H (ov o) (ovD o) := by
  cases o with
  | none => exact .non
  | some i => exact .int i
theorem dp_tri {q : Addr} {t : Tri} (h : SqT K H q (tv t)) : Dp K H (.ref q) (triD t) := .tup h (.cons (.int _) (.cons (dp_ov _) (.cons (dp_ov _) .nil)))
theorem wt_dp : ∀ {vs : List V} {ts : List Tri}, Wt K H vs ts → DpAll K H vs (ts.map triD)
  | [], [], _ => .nil
  | [], r :: rss, h => by cases h.1
  | v :: vs, [], h => by cases h.1
  | v :: vs, r :: rss, h => by
    obtain ⟨q, e, s⟩ := h.2 0 r rfl
    have e2 : v = .ref q := Option.some.inj e
    subst e2
    exact .cons (dp_tri s) (wt_dp ⟨Nat.succ.inj h.1, fun i rs hi => h.2 (i + 1) rs hi⟩)
theorem shp_ov {n : Nat} (o : Option Int) : Shp n (ovD o) := by
  cases o with
  | none => exact shp_none
  | some i => exact shp_int i
theorem shp_tri (t : Tri) : Shp 1 (triD t) := shp_tuple fun d hd => by
  rcases List.mem_cons.mp hd with h | hd
  · rw [h]; exact shp_int _
  rcases List.mem_cons.mp hd with h | hd
  · rw [h]; exact shp_ov _
  rcases List.mem_cons.mp hd with h | hd
  · rw [h]; exact shp_ov _
  · cases hd
theorem shp_wish (ts : List Tri) : Shp 2 (.list (ts.map triD)) := shp_list fun d hd => by
  obtain ⟨t, _, rfl⟩ := List.mem_map.mp hd
  exact shp_tri t
theorem EvU.n {xs : List V} (h : EvU te σ H xs) : EvN te σ H fun v N => ∃ p, v = .ref p ∧ N p = some (.tup xs) := fun H1 e Q q => h H1 e Q fun p H2 n e2 hp => q (.ref p) (one p (.tup xs)) H2 (fun a z => by rw [one_ne z]; exact n) ⟨p, rfl, one_at⟩ (one_ex hp) e2
theorem tv0 (t : Tri) : atI (tv t) 0 = some (.int t.c) := rfl
theorem tv1 (t : Tri) : atI (tv t) 1 = some (ov t.lo) := rfl
theorem tv2 (t : Tri) : atI (tv t) 2 = some (ov t.hi) := rfl
end
/-- whether a row fits a wish -/
def fit1 (rs : List Int) (t : Tri) : Bool := (match t.lo with | none => true | some l => decide (l ≤ rs.getD t.c.toNat 0)) && (match t.hi with | none => true | some h => decide (rs.getD t.c.toNat 0 ≤ h))
def fitsM (rs : List Int) (ts : List Tri) : Bool := ts.all (fit1 rs)
theorem fit1_eq (rs : List Int) (t : Tri) : fit1 rs t = decide (¬ (¬ t.lo = none ∧ rs.getD t.c.toNat 0 < t.lo.getD 0) ∧ ¬ (¬ t.hi = none ∧ t.hi.getD 0 < rs.getD t.c.toNat 0)) := by
  unfold fit1
  cases t.lo <;> cases t.hi <;> simp
theorem fits_take {rs : List Int} {ts : List Tri} {i : Nat} {t : Tri} (h : ts[i]? = some t) : fitsM rs (ts.take (i + 1)) = (fitsM rs (ts.take i) && fit1 rs t) := by
  unfold fitsM
  rw [List.take_add_one, h, List.all_append]
  simp
theorem fits_no {rs : List Int} {ts : List Tri} {i : Nat} {t : Tri} (h : ts[i]? = some t) (hf : fit1 rs t = false) : fitsM rs ts = false := by
  unfold fitsM
  rw [List.all_eq_false]
  exact ⟨t, List.mem_of_getElem? h, by rw [hf]; decide⟩

section
variable {X : Cx}
def rTupS (K : PySem.W.Frag) : List V → Hp → VK → Prop := fun xs H Q => ∃ p ys, xs = [.ref p] ∧ ((SqL K H p ys ∧ ∀ l, H l = none → Q (.ref l) (upd H l (.tup ys))) ∨ (SqT K H p ys ∧ Q (.ref p) H))
theorem c_tuple : CallR X (.type "tuple") (rTupS X.K) := call_tuple_of
end
section
variable {K : PySem.W.Frag} {σ : L2.St} {H H' : Hp} {ta tb te tx tl : TE} {t u : TT} {x y z v : V} {r : R2} {D : Ends} {tu tw tz ts : TS} {g : TG} {P P' : V → Hp → Prop}
theorem eu_tuple {p : Addr} {xs : List V} (ha : Ev ta σ H (.ref p)) (h : SqL K H p xs) : EvU (tCB (rTupS K) (tCons ta tNil)) σ H xs := fun H1 e Q q =>
  ha H1 e _ fun H2 e2 => ⟨p, xs, rfl, .inl ⟨ex_l (e.trans e2) h, fun l hl => q l _ (fresh_back e2 hl) (e2.trans (Ex.new hl)) upd_same⟩⟩
theorem ev_tupT {p : Addr} {xs : List V} (ha : Ev ta σ H (.ref p)) (h : SqT K H p xs) : Ev (tCB (rTupS K) (tCons ta tNil)) σ H (.ref p) := fun H1 e Q q =>
  ha H1 e _ fun H2 e2 => ⟨p, xs, rfl, .inr ⟨ex_t (e.trans e2) h, q H2 e2⟩⟩
theorem EvU.p {xs : List V} (h : EvU te σ H xs) : EvP te σ H fun v H2 => ∃ p, v = .ref p ∧ H p = none ∧ Ex H H2 ∧ H2 p = some (.tup xs) := fun H1 e Q q => h H1 e Q fun p H2 n e2 hp => q _ H2 e2 ⟨p, rfl, fresh_back e n, e.trans e2, hp⟩
theorem sv_asgP' {i : Nat} {P : V → Hp → Prop} (h : EvP te σ H P) (k : ∀ v H2, Ex H H2 → P v H2 → Sv tNext D (σ.set i (some v)) H2) : Sv (tAsg te (gName i)) D σ H :=
  fun H1 e => h H1 e _ fun v H2 e2 p => k v H2 (e.trans e2) p H2 (Ex.refl H2)
/-- a value known by a promise of values, as P -/
theorem spp_v {sp : Sp} {vs : List V} (h : SpV sp vs H z) : SpP sp vs H fun v _ => v = z := fun H1 e Q q E => h H1 e Q (fun H2 e2 => q z H2 e2 rfl) E
end

/-! ### one object changed -/
def Exb (l : Addr) (H H' : Hp) : Prop := ∀ a o, a ≠ l → H a = some o → H' a = some o
theorem exb_of {l : Addr} {H0 H H' : Hp} (e : Exb l H H') (e0 : Ex H0 H) (n : H0 l = none) : Ex H0 H' := fun a o h => e a o (ne_of_none h n) (e0 a o h)
theorem exb_t {K : PySem.W.Frag} {l q : Addr} {H H' : Hp} {xs ys : List V} (h : H l = some (.lst xs)) (e : Exb l H H') (hq : SqT K H q ys) : SqT K H' q ys := by
  rcases hq with (hq | ⟨o, hq⟩) | hq
  · exact .inl (.inl (e _ _ (fun z => by rw [z, h] at hq; cases hq) hq))
  · exact .inl (.inr ⟨o, e _ _ (fun z => by rw [z, h] at hq; cases hq) hq⟩)
  · exact .inr hq
theorem wt_exb {K : PySem.W.Frag} {l : Addr} {H H' : Hp} {xs vs : List V} {ts : List Tri} (h : H l = some (.lst xs)) (e : Exb l H H') (hw : Wt K H vs ts) : Wt K H' vs ts := ⟨hw.1, fun i t hi => by
  obtain ⟨q, a, b⟩ := hw.2 i t hi
  exact ⟨q, a, exb_t h e b⟩⟩
theorem tyx_t {K : PySem.W.Frag} {H : Hp} {p : Addr} {xs : List V} (h : SqT K H p xs) : TyX K H (.ref p) (.type "tuple") := by
  rcases h with (h | ⟨o, h⟩) | ⟨o, its, n, h, c, _⟩
  · exact .base (.tup h)
  · exact .fTuple h
  · exact .kTuple h c
theorem tyx_l {K : PySem.W.Frag} {H : Hp} {p : Addr} {xs : List V} (h : SqL K H p xs) : TyX K H (.ref p) (.type "list") := by
  rcases h with (h | ⟨o, h⟩) | ⟨o, its, n, h, c, _⟩
  · exact .base (.lst h)
  · exact .base (.frz h)
  · exact .kList h c
section
variable {K : PySem.W.Frag} {σ : L2.St} {H H' : Hp} {ta tb te tx tl : TE} {t u : TT} {x y z v : V} {r : R2} {D : Ends} {tu tw tz ts : TS} {g : TG} {P P' : V → Hp → Prop}
/-- xs.append(e), e with new objects -/
theorem sv_appN {l : Addr} {xs : List V} (hl : H l = some (.lst xs)) (ha : Ev ta σ H (.ref l)) (h : EvN te σ H P) (hz : xs.length < 100000)
    (k : ∀ v N H2, (∀ a, N a ≠ none → H a = none) → P v N → Ex N H2 → Exb l H H2 → H2 l = some (.lst (xs ++ [v])) → Sv tz D σ H2) : Sv (tSeq (tDrop (tBM K "list" rAppend ta (tCons te tNil))) tz) D σ H := fun H1 e =>
  ha H1 e _ fun H2 e2 => ⟨Or.inl ⟨rfl, xs, sq_of (e2 _ _ (e _ _ hl))⟩, h H2 (e.trans e2) _ fun v N H3 d p a b => ⟨l, xs, v, rfl, rfl, b _ _ (e2 _ _ (e _ _ hl)), sz_lt hz, k v N _ (fun x z => fresh_back (e.trans e2) (d x z)) p (fun x o z => by
    have w := d x (by rw [z]; exact fun w => by cases w)
    rw [upd_ne (fun q => by rw [q, e2 _ _ (e _ _ hl)] at w; cases w)]
    exact a _ _ z) (fun x o n z => by
    rw [upd_ne n]
    exact b _ _ (e2 _ _ (e _ _ z))) upd_same _ (Ex.refl _)⟩⟩
theorem sv_appN' {l : Addr} {xs : List V} (hl : H l = some (.lst xs)) (ha : Ev ta σ H (.ref l)) (h : EvN te σ H P) (hz : xs.length < 100000)
    (k : ∀ v N H2, (∀ a, N a ≠ none → H a = none) → P v N → Ex N H2 → Exb l H H2 → H2 l = some (.lst (xs ++ [v])) → Sv tNext D σ H2) : Sv (tDrop (tBM K "list" rAppend ta (tCons te tNil))) D σ H := fun H1 e =>
  ha H1 e _ fun H2 e2 => ⟨Or.inl ⟨rfl, xs, sq_of (e2 _ _ (e _ _ hl))⟩, h H2 (e.trans e2) _ fun v N H3 d p a b => ⟨l, xs, v, rfl, rfl, b _ _ (e2 _ _ (e _ _ hl)), sz_lt hz, k v N _ (fun x z => fresh_back (e.trans e2) (d x z)) p (fun x o z => by
    have w := d x (by rw [z]; exact fun w => by cases w)
    rw [upd_ne (fun q => by rw [q, e2 _ _ (e _ _ hl)] at w; cases w)]
    exact a _ _ z) (fun x o n z => by
    rw [upd_ne n]
    exact b _ _ (e2 _ _ (e _ _ z))) upd_same _ (Ex.refl _)⟩⟩
theorem sv_drop (h : Ev te σ H v) (k : Sv tz D σ H) : Sv (tSeq (tDrop te) tz) D σ H := fun H1 e => h H1 e _ fun H2 e2 => k H2 (e.trans e2)
theorem ev_max {p : Addr} {ns : List Int} {m : Int} (ha : Ev ta σ H (.ref p)) (h : SqL K H p (ns.map V.int)) (h0 : 0 < ns.length) (hm : ∀ i, i ∈ ns → (∀ y, y ∈ ns → y ≤ i) → i = m) : Ev (tCB (rMax K) (tCons ta tNil)) σ H (.int m) := fun H1 e Q q =>
  ha H1 e _ fun H2 e2 => ⟨p, ns, rfl, ex_l (e.trans e2) h, h0, fun i hi hle => by rw [hm i hi hle]; exact q H2 e2⟩
theorem ev_min {p : Addr} {ns : List Int} {m : Int} (ha : Ev ta σ H (.ref p)) (h : SqL K H p (ns.map V.int)) (h0 : 0 < ns.length) (hm : ∀ i, i ∈ ns → (∀ y, y ∈ ns → i ≤ y) → i = m) : Ev (tCB (rMin K) (tCons ta tNil)) σ H (.int m) := fun H1 e Q q =>
  ha H1 e _ fun H2 e2 => ⟨p, ns, rfl, ex_l (e.trans e2) h, h0, fun i hi hle => by rw [hm i hi hle]; exact q H2 e2⟩
end
/-- a promise of which something holds in the heap behind it -/
def SpQ (n : Nat) (R : List V → Hp → (V → Hp → Prop) → Prop) : Sp := fun vs H Q _ => vs.length = n ∧ ∃ P, R vs H P ∧ ∀ v H2, Ex H H2 → P v H2 → Q v H2
theorem spq {n : Nat} {R : List V → Hp → (V → Hp → Prop) → Prop} {vs : List V} {H : Hp} {P : V → Hp → Prop} (hl : vs.length = n) (h : ∀ H1, Ex H H1 → ∃ P', R vs H1 P' ∧ ∀ v H2, P' v H2 → P v H2) : SpP (SpQ n R) vs H P := fun H1 e Q q E => by
  obtain ⟨P', r, i⟩ := h H1 e
  exact ⟨hl, P', r, fun v H2 e2 p => q v H2 e2 (i v H2 p)⟩
/-! ### the merged wish -/
def maxL : List Int → Int
  | [] => 0
  | [x] => x
  | x :: y :: r => max x (maxL (y :: r))
def minL : List Int → Int
  | [] => 0
  | [x] => x
  | x :: y :: r => min x (minL (y :: r))
theorem maxL_le : ∀ {l : List Int} {y : Int}, y ∈ l → y ≤ maxL l
  | [], y, h => by cases h
  | [x], y, h => by
    have e : y = x := by simpa using h
    rw [e]
    exact Int.le_refl _
  | x :: z :: r, y, h => by
    show y ≤ max x (maxL (z :: r))
    rcases List.mem_cons.mp h with e | h
    · omega
    · have := maxL_le h
      omega
theorem maxL_mem : ∀ {l : List Int}, 0 < l.length → maxL l ∈ l
  | [], h => absurd h (Nat.lt_irrefl _)
  | [x], _ => List.mem_cons_self ..
  | x :: z :: r, _ => by
    have h := maxL_mem (l := z :: r) (Nat.succ_pos _)
    show max x (maxL (z :: r)) ∈ _
    by_cases c : maxL (z :: r) ≤ x
    · rw [Int.max_eq_left c]
      exact List.mem_cons_self ..
    · rw [Int.max_eq_right (by omega)]
      exact List.mem_cons_of_mem _ h
theorem minL_le : ∀ {l : List Int} {y : Int}, y ∈ l → minL l ≤ y
  | [], y, h => by cases h
  | [x], y, h => by
    have e : y = x := by simpa using h
    rw [e]
    exact Int.le_refl _
  | x :: z :: r, y, h => by
    show min x (minL (z :: r)) ≤ y
    rcases List.mem_cons.mp h with e | h
    · omega
    · have := minL_le h
      omega
theorem minL_mem : ∀ {l : List Int}, 0 < l.length → minL l ∈ l
  | [], h => absurd h (Nat.lt_irrefl _)
  | [x], _ => List.mem_cons_self ..
  | x :: z :: r, _ => by
    have h := minL_mem (l := z :: r) (Nat.succ_pos _)
    show min x (minL (z :: r)) ∈ _
    by_cases c : x ≤ minL (z :: r)
    · rw [Int.min_eq_left c]
      exact List.mem_cons_self ..
    · rw [Int.min_eq_right (by omega)]
      exact List.mem_cons_of_mem _ h
theorem maxL_eq {l : List Int} {m : Int} (h : m ∈ l) (hm : ∀ y, y ∈ l → y ≤ m) : m = maxL l := by
  have h1 := maxL_le h
  have h2 := hm _ (maxL_mem (List.length_pos_of_mem h))
  omega
theorem minL_eq {l : List Int} {m : Int} (h : m ∈ l) (hm : ∀ y, y ∈ l → m ≤ y) : m = minL l := by
  have h1 := minL_le h
  have h2 := hm _ (minL_mem (List.length_pos_of_mem h))
  omega
def lowsM (c : Int) (ts : List Tri) : List Int := (ts.filter fun t => decide (t.c = c ∧ ¬ t.lo = none)).map fun t => t.lo.getD 0
def highsM (c : Int) (ts : List Tri) : List Int := (ts.filter fun t => decide (t.c = c ∧ ¬ t.hi = none)).map fun t => t.hi.getD 0
def endLo (c : Int) (ts : List Tri) : Option Int := if 0 < (lowsM c ts).length then some (maxL (lowsM c ts)) else none
def endHi (c : Int) (ts : List Tri) : Option Int := if 0 < (highsM c ts).length then some (minL (highsM c ts)) else none
def spoken (c : Int) (ts : List Tri) : Prop := 0 < (ts.filter fun t => decide (t.c = c)).length
instance (c : Int) (ts : List Tri) : Decidable (spoken c ts) := inferInstanceAs (Decidable (0 < _))
def mergedTo (ts : List Tri) : Nat → List Tri
  | 0 => []
  | k + 1 => mergedTo ts k ++ if spoken (k : Int) ts then [⟨(k : Int), endLo k ts, endHi k ts⟩] else []
def mergedM (ts : List Tri) : List Tri := mergedTo ts 6
theorem mergedTo_len (ts : List Tri) : ∀ k, (mergedTo ts k).length ≤ k
  | 0 => Nat.le_refl _
  | k + 1 => by
    have := mergedTo_len ts k
    show (mergedTo ts k ++ _).length ≤ k + 1
    rw [List.length_append]
    split
    · simp only [List.length_singleton]
      omega
    · simp only [List.length_nil]
      omega
def t0 : Tri := ⟨0, none, none⟩
theorem given_ints (ts : List Tri) (p : Tri → Bool) (g : Tri → Int) : given ts.length (fun i => p (ts.getD i t0)) (fun i => V.int (g (ts.getD i t0))) = ((ts.filter p).map g).map V.int := by
  have e : (List.range ts.length).map (fun i => ts.getD i t0) = ts := by
    refine List.ext_getElem? fun i => ?_
    rw [List.getElem?_map]
    by_cases h : i < ts.length
    · rw [List.getElem?_range h, List.getElem?_eq_getElem h]
      show some (ts.getD i t0) = _
      rw [List.getD_eq_getElem?_getD, List.getElem?_eq_getElem h]
      rfl
    · rw [List.getElem?_eq_none (by rw [List.length_range]; omega), List.getElem?_eq_none (by omega)]
      rfl
  have e2 : ts.filter p = ((List.range ts.length).filter fun i => p (ts.getD i t0)).map fun i => ts.getD i t0 := by
    have h := congrArg (List.filter p) e
    rw [List.filter_map] at h
    exact h.symm
  rw [e2, List.map_map, List.map_map]
  rfl
theorem getD_at {ts : List Tri} {i : Nat} {t : Tri} (h : ts[i]? = some t) : ts.getD i t0 = t := by
  rw [List.getD_eq_getElem?_getD, h]
  rfl

/-! ### the size of ints -/
/-- below the n-th power of two -/
structure Bits (n : Nat) (z : Int) : Prop where
  lt : z.natAbs < 2 ^ n
theorem Bits.of {n : Nat} {z : Int} (h : Builtin.Int.intBits z ≤ n) : Bits n z := ⟨by
  unfold Builtin.Int.intBits at h
  split at h
  · rename_i c
    have e : z = 0 := by simpa using c
    rw [e]
    exact Nat.two_pow_pos n
  · rename_i c
    have hz : z.natAbs ≠ 0 := fun e => c (by simpa using Int.natAbs_eq_zero.mp e)
    exact (Nat.log2_lt hz).mp h⟩
theorem Bits.to {n : Nat} {z : Int} (h : Bits n z) : Builtin.Int.intBits z ≤ n := by
  unfold Builtin.Int.intBits
  split
  · exact Nat.zero_le _
  · rename_i c
    have hz : z.natAbs ≠ 0 := fun e => c (by simpa using Int.natAbs_eq_zero.mp e)
    exact (Nat.log2_lt hz).mpr h.lt
theorem Bits.mono {n m : Nat} {z : Int} (h : Bits n z) (l : n ≤ m) : Bits m z := ⟨Nat.lt_of_lt_of_le h.lt (Nat.pow_le_pow_right (by decide) l)⟩
theorem Bits.add {n : Nat} {a b : Int} (h : Bits n a) (k : Bits n b) : Bits (n + 1) (a + b) := ⟨by
  have h1 := h.lt
  have h2 := k.lt
  rw [Nat.pow_succ]
  have := Int.natAbs_add_le a b
  omega⟩
theorem Bits.sub {n : Nat} {a b : Int} (h : Bits n a) (k : Bits n b) : Bits (n + 1) (a - b) := ⟨by
  have h1 := h.lt
  have h2 := k.lt
  rw [Nat.pow_succ]
  have := Int.natAbs_sub_le a b
  omega⟩
theorem Bits.mul {n m : Nat} {a b : Int} (h : Bits n a) (k : Bits m b) : Bits (n + m) (a * b) := ⟨by
  rw [Int.natAbs_mul, Nat.pow_add]
  exact Nat.mul_lt_mul'' h.lt k.lt⟩
theorem Bits.div {n : Nat} {a k : Int} (h : Bits n a) : Bits n (a / k) := ⟨Nat.lt_of_le_of_lt (Int.natAbs_ediv_le_natAbs a k) h.lt⟩
theorem Bits.nat {n k : Nat} (h : k < 2 ^ n) : Bits n (k : Int) := ⟨by rw [Int.natAbs_natCast]; exact h⟩
theorem Bits.zero {n : Nat} : Bits n 0 := ⟨Nat.two_pow_pos n⟩
def CPowB (i j : Int) : Prop := 0 ≤ j ∧ (Builtin.Int.intBits i : Int) * j ≤ 2 ^ 27
section
variable {X : Cx}
theorem op_powB : OpR X (binaryOp .Pow) (rI CPowB fun i j => .int (i ^ j.toNat)) := opI fun _ _ _ _ _ _ _ hc q => pow_int hc.1 hc.2 q
end
theorem rv_powB {H : Hp} {i : Int} {n : Nat} (h : Bits n i) (hn : n ≤ 44739242) : RV (rI CPowB fun i j => .int (i ^ j.toNat)) (.int i) (.int 3) H (.int (i ^ 3)) := rv_I ⟨by decide, by
  have := h.to
  have e : (2 : Int) ^ 27 = 134217728 := by decide
  rw [e]
  omega⟩
end Wy

set_option Elab.async false
set_option linter.all false
set_option maxRecDepth 100000
set_option maxHeartbeats 4000000
/-! Wd: a dict's views, sorted and listed. -/
namespace Wy
open PySem PySem.Spec PyProof.Rows L2 Evl
/-- d.keys() at p, d.values() at p -/
def keysO (p d : Addr) : HO := .ext fun g => PySem.W.KdlKeysView g p d
def valsO (p d : Addr) : HO := .ext fun g => g.IsValuesView p d
section
variable {X : Cx}
def rKeysV : V → List V → Hp → VK → Prop := fun x xs H Q => ∃ (d : Addr) (kvs : List (Key × V)), x = .ref d ∧ xs = [] ∧ H d = some (.dK kvs) ∧ ∀ p, H p = none → Q (.ref p) (upd H p (keysO p d))
def rValsV : V → List V → Hp → VK → Prop := fun x xs H Q => ∃ (d : Addr) (kvs : List (Key × V)), x = .ref d ∧ xs = [] ∧ H d = some (.dK kvs) ∧ ∀ p, H p = none → Q (.ref p) (upd H p (valsO p d))
theorem m_keysV : MtR X "dict.keys" rKeysV := by
  intro pins s σ H x xs v us Q I rx rxs h
  obtain ⟨d, kvs, rfl, rfl, hd, q⟩ := h
  cases rx
  cases rxs
  obtain ⟨_, lo, ws, _, dd⟩ := dk_rd I.hok (.inl hd)
  have room : H s.heap.objs.size = none := I.hok.fresh (Nat.le_refl _)
  have here : (s.heap.push { cls := .type "dict_keys", data := .fields #[.ref d] }).get? s.heap.objs.size = some { cls := .type "dict_keys", data := .fields #[.ref d] } := Heap.get?_push_size _ rfl
  refine call_meetsIn PySem.F.slot_dict_keys dd.typeIs PySem.F.entry_dict_keys (PySem.F.args_dict_keys_1 _) (PySem.W.kdl_meets_keys (mixKind X.prog X.w) d lo) ⟨⟨ws, dd⟩, ?_⟩
  refine ⟨V.ref s.heap.objs.size, upd H s.heap.objs.size (keysO s.heap.objs.size d), ?_, rfl, q _ room⟩
  exact I.laid (t' := s.toks) (fun b u k => Heap.get?_push_of_some _ k) (Nat.le_refl _) ⟨⟨_, here, rfl, rfl⟩, ⟨_, here⟩, fun g1 g2 x k => let ⟨o, ho, r⟩ := x; ⟨o, k o ho, r⟩⟩
theorem m_valsV : MtR X "dict.values" rValsV := by
  intro pins s σ H x xs v us Q I rx rxs h
  obtain ⟨d, kvs, rfl, rfl, hd, q⟩ := h
  cases rx
  cases rxs
  obtain ⟨_, lo, ws, _, dd⟩ := dk_rd I.hok (.inl hd)
  have room : H s.heap.objs.size = none := I.hok.fresh (Nat.le_refl _)
  have here : (s.heap.push { cls := .type "dict_values", data := .fields #[.ref d] }).get? s.heap.objs.size = some { cls := .type "dict_values", data := .fields #[.ref d] } := Heap.get?_push_size _ rfl
  refine call_meetsIn PySem.F.slot_dict_values dd.typeIs PySem.F.entry_dict_values (PySem.F.args_dict_values_1 _) (meets_dict_values (mixKind X.prog X.w) d lo) ⟨⟨ws, dd⟩, ?_⟩
  refine ⟨V.ref s.heap.objs.size, upd H s.heap.objs.size (valsO s.heap.objs.size d), ?_, rfl, q _ room⟩
  exact I.laid (t' := s.toks) (fun b u k => Heap.get?_push_of_some _ k) (Nat.le_refl _) ⟨⟨_, here, rfl, rfl⟩, ⟨_, here⟩, fun g1 g2 x k => let ⟨o, ho, r⟩ := x; ⟨o, k o ho, r⟩⟩
/-- sorted(d.keys()), the keys ints -/
def rSortK : List V → Hp → VK → Prop := fun xs H Q => ∃ (p d : Addr) (kvs : List (Key × V)) (ks : List Int), xs = [.ref p] ∧ H p = some (keysO p d) ∧ H d = some (.dK kvs) ∧ kvs.map (·.1) = ks.map Sum.inl ∧ ks.length ≤ 100000 ∧
  ∀ (ys : List Int) (l : Addr), ys.Perm ks → ys.Pairwise (· ≤ ·) → H l = none → Q (.ref l) (upd H l (.lst (ys.map V.int)))
theorem c_sortK (calm : X.calm = true) : CallR X (.builtin "sorted") rSortK := by
  intro pins s σ H xs us Q I r h
  obtain ⟨p, d, kvs, ks, rfl, hp, hd, hks, hz, q⟩ := h
  obtain ⟨u, rfl, rx⟩ := vals1 r
  cases rx
  have view : PySem.W.KdlKeysView s.heap p d := (I.hok p _ hp).1
  obtain ⟨_, lo, ws, rel, dd⟩ := dk_rd I.hok (.inl hd)
  obtain ⟨ep, hat⟩ := dd.dictAt
  have names : ws.map (·.1) = ks.map Sum.inl := rel.keys.symm.trans hks
  have count : ws.length = ks.length := by
    have g := congrArg List.length names
    simpa using g
  have fits : ws.length ≤ sizeLine := by rw [count]; exact sz_of hz
  refine Calls.call_function_entry PyProof.Rows.kind_sorted PyProof.Rows.plain_sorted PyProof.Rows.entry_sorted (PyProof.Rows.args_sorted1 _) ?_
  unfold Builtin.«sorted»
  refine wpAny_bind (m := checkCount "sorted" 1 1 _) (wpAny_pure ?_)
  refine wpAny_bind (PySem.W.kdu_collect (A := X.A.in1) (PySem.W.kdl_keys (knd := mixKind X.prog X.w) (r := p) (d := d) (kvs := ws) (ep := ep)) (I.ok.hd calm) ⟨view, hat⟩ fits fun g tk acc old got => ?_)
  have many : acc.toList.length = ks.length := by rw [Array.length_toList, got.1, count]
  have allI : IntsAre acc.toList ks := ints_each many fun j v e => by
    obtain ⟨k, x, e1, e2⟩ := got.2 j v (by rw [← Array.getElem?_toList]; exact e)
    have e3 : (ws.map (·.1))[j]? = some k := by
      rw [List.getElem?_map, e1]
      rfl
    rw [names, List.getElem?_map] at e3
    cases e4 : ks[j]? with
    | none =>
      rw [e4] at e3
      cases e3
    | some y =>
      rw [e4] at e3
      have e5 : (Sum.inl y : Key) = k := Option.some.inj e3
      subst e5
      rcases keyIs_shape (show keyIs (Sum.inl y) v = true from e2) with ⟨i, t, ek, ev⟩ | ⟨z, t, ek, ev⟩
      · cases ek
        exact ⟨y, t, rfl, ev⟩
      · cases ek
  have I1 : Inv X pins σ H { s with heap := g, toks := tk } := I.kept old
  refine wpAny_bind (wpAny_newList ?_ (by rw [many]; exact sz_of hz))
  have there : (g.push (seqObj "list" acc.toList.toArray 0)).get? g.objs.size = some (seqObj "list" acc.toList.toArray 0) := Heap.get?_push_size _ rfl
  show wpAny _ _ _ _ _ { s with heap := g.push (seqObj "list" acc.toList.toArray 0), toks := tk }
  refine wpAny_bind (wpAny_holding (wpAny_call_entry PyProof.Rows.slot_list_sort ⟨_, there, rfl⟩ PyProof.Rows.entry_list_sort
    (SrtO.list_sort_ord (s := { s with heap := g.push (seqObj "list" acc.toList.toArray 0), toks := tk }) SrtO.swo_int there (by rw [many]; exact sz_of hz) (fun two => SrtO.ints_sortable allI two) fun out o1 o2 => ⟨_, rfl, ?_⟩) (PyProof.Rows.args_list_sort _)))
  obtain ⟨k1, k2, k3⟩ := SrtO.ints_out allI o1 o2
  obtain ⟨e', at'⟩ := PyProof.Rows.sortedHeap_at (vs := acc.toList) (out := out.toArray) there
  have len : ((out.map SrtO.iv).map V.int).length ≤ sizeLine := by
    rw [List.length_map, k2.length_eq]
    exact sz_of hz
  refine wpAny_pure ⟨_, rfl, V.ref g.objs.size, upd H g.objs.size (.lst ((out.map SrtO.iv).map V.int)), I1.laid (t' := tk) (fun b u k => ?_) (Nat.le_refl _) ⟨len, out, e', vals_of_ints k1, at'⟩, rfl, q _ _ k2 k3 (I1.hok.fresh (Nat.le_refl _))⟩
  have less : b < g.objs.size := Heap.lt_size k
  rw [PyProof.Rows.sortedHeap_old (Nat.ne_of_lt less) (by rw [size_push']; exact Nat.lt_succ_of_lt less)]
  exact Heap.get?_push_of_some _ k
/-- list(d.values()) -/
def rListV : List V → Hp → VK → Prop := fun xs H Q => ∃ (p d : Addr) (kvs : List (Key × V)), xs = [.ref p] ∧ H p = some (valsO p d) ∧ H d = some (.dK kvs) ∧ ∀ l, H l = none → Q (.ref l) (upd H l (.lst (kvs.map (·.2))))
theorem vals_snd : ∀ {kvs : List (Key × V)} {ws : List (Key × Value)}, KV kvs ws → Vals (kvs.map (·.2)) (ws.map (·.2))
  | _, _, .nil => .nil
  | _, _, .cons a b => .cons a.2 (vals_snd b)
theorem c_listV (calm : X.calm = true) : CallR X (.type "list") rListV := by
  intro pins s σ H xs us Q I r h
  obtain ⟨p, d, kvs, rfl, hp, hd, q⟩ := h
  obtain ⟨u, rfl, rx⟩ := vals1 r
  cases rx
  have view : s.heap.IsValuesView p d := (I.hok p _ hp).1
  obtain ⟨z, lo, ws, rel, dd⟩ := dk_rd I.hok (.inl hd)
  obtain ⟨ep, hat⟩ := dd.dictAt
  have fits : ws.length ≤ sizeLine := by rw [← rel.length]; exact z
  refine PySem.W.kdl_call (PySem.W.kdl_values (knd := mixKind X.prog X.w) (r := p) (d := d) (kvs := ws) (ep := ep)) (I.ok.hd calm) ⟨view, hat⟩ fits fun g tk acc c' old at' got => ?_
  have e : acc.toList = ws.map (·.2) := by
    refine List.ext_getElem? fun j => ?_
    rw [List.getElem?_map]
    by_cases hj : j < ws.length
    · have hj2 : j < acc.size := by rw [got.1]; exact hj
      obtain ⟨k, hk⟩ := got.2 j acc[j] (Array.getElem?_eq_getElem hj2)
      rw [hk, Array.getElem?_toList, Array.getElem?_eq_getElem hj2]
      rfl
    · rw [List.getElem?_eq_none (by rw [Array.length_toList, got.1]; omega), List.getElem?_eq_none (by omega)]
      rfl
  have rv : Vals (kvs.map (·.2)) acc.toList := by
    rw [e]
    exact vals_snd rel
  refine ⟨V.ref s.heap.objs.size, upd H s.heap.objs.size (.lst (kvs.map (·.2))), I.laid (t' := tk) old (Nat.le_refl _) ⟨by rw [List.length_map]; exact z, acc.toList, c', rv, by rw [Array.toArray_toList]; exact at'⟩, rfl, q _ (I.hok.fresh (Nat.le_refl _))⟩
end
end Wy

namespace Wy
open PySem PySem.Spec PyProof.Rows L2 Evl
/-! ### what is there: a dict of rows by their numbers -/
abbrev Rows := List (Int × List Int)
def rowOf (there : Rows) (n : Int) : Option (List Int) := (there.find? fun p => decide (p.1 = n)).map (·.2)
def Dcv (K : PySem.W.Frag) (H : Hp) (kvs : List (Key × V)) (there : Rows) : Prop :=
  kvs.length = there.length ∧ ∀ (i : Nat) (n : Int) (r : List Int), there[i]? = some (n, r) → ∃ p : Addr, kvs[i]? = some (Sum.inl n, V.ref p) ∧ SqL K H p (r.map V.int)
def Dc (K : PySem.W.Frag) (H : Hp) (d : Addr) (there : Rows) : Prop := ∃ kvs, H d = some (.dK kvs) ∧ Dcv K H kvs there
theorem rowOf_cons (p : Int × List Int) (r : Rows) (n : Int) : rowOf (p :: r) n = if p.1 = n then some p.2 else rowOf r n := by
  unfold rowOf
  rw [List.find?_cons]
  by_cases c : p.1 = n
  · rw [if_pos c, decide_eq_true c]
    rfl
  · rw [if_neg c, decide_eq_false c]
section
variable {K : PySem.W.Frag} {H H' : Hp}
theorem Dcv.mono {kvs : List (Key × V)} {there : Rows} (e : Ex H H') (h : Dcv K H kvs there) : Dcv K H' kvs there := ⟨h.1, fun i n r hi => by
  obtain ⟨p, a, b⟩ := h.2 i n r hi
  exact ⟨p, a, ex_l e b⟩⟩
theorem Dc.mono {d : Addr} {there : Rows} (e : Ex H H') (h : Dc K H d there) : Dc K H' d there := by
  obtain ⟨kvs, a, b⟩ := h
  exact ⟨kvs, e _ _ a, b.mono e⟩
theorem Dcv.tail {k : Key × V} {kvs : List (Key × V)} {t : Int × List Int} {there : Rows} (h : Dcv K H (k :: kvs) (t :: there)) : Dcv K H kvs there := ⟨Nat.succ.inj h.1, fun i n r hi => h.2 (i + 1) n r hi⟩
theorem Dcv.none : ∀ {kvs : List (Key × V)} {there : Rows} {n : Int}, Dcv K H kvs there → rowOf there n = none → valV kvs (Sum.inl n) = Option.none
  | [], [], _, _, _ => rfl
  | [], _ :: _, _, h, _ => by cases h.1
  | _ :: _, [], _, h, _ => by cases h.1
  | k :: kvs, t :: there, n, h, hn => by
    obtain ⟨p, e, _⟩ := h.2 0 t.1 t.2 rfl
    have ek : k = (Sum.inl t.1, V.ref p) := Option.some.inj e
    rw [rowOf_cons] at hn
    by_cases c : t.1 = n
    · rw [if_pos c] at hn
      cases hn
    · rw [if_neg c] at hn
      rw [valV_neg (by rw [ek]; intro z; exact c (Sum.inl.inj z))]
      exact Dcv.none h.tail hn
theorem Dcv.some : ∀ {kvs : List (Key × V)} {there : Rows} {n : Int} {r : List Int}, Dcv K H kvs there → rowOf there n = some r → ∃ p, valV kvs (Sum.inl n) = some (V.ref p) ∧ SqL K H p (r.map V.int)
  | [], [], _, _, _, h => by cases h
  | [], _ :: _, _, _, h, _ => by cases h.1
  | _ :: _, [], _, _, h, _ => by cases h.1
  | k :: kvs, t :: there, n, r, h, hn => by
    obtain ⟨p, e, s⟩ := h.2 0 t.1 t.2 rfl
    have ek : k = (Sum.inl t.1, V.ref p) := Option.some.inj e
    rw [rowOf_cons] at hn
    by_cases c : t.1 = n
    · rw [if_pos c] at hn
      have er : t.2 = r := Option.some.inj hn
      rw [valV_pos (by rw [ek, c]), ek]
      exact ⟨p, rfl, by rw [← er]; exact s⟩
    · rw [if_neg c] at hn
      rw [valV_neg (by rw [ek]; intro z; exact c (Sum.inl.inj z))]
      exact Dcv.some h.tail hn
theorem Dcv.keys : ∀ {kvs : List (Key × V)} {there : Rows}, Dcv K H kvs there → kvs.map (·.1) = (there.map (·.1)).map Sum.inl
  | [], [], _ => rfl
  | [], _ :: _, h => by cases h.1
  | _ :: _, [], h => by cases h.1
  | k :: kvs, t :: there, h => by
    obtain ⟨p, e, s⟩ := h.2 0 t.1 t.2 rfl
    have ek : k = (Sum.inl t.1, V.ref p) := Option.some.inj e
    rw [List.map_cons, List.map_cons, List.map_cons, Dcv.keys h.tail, ek]
theorem Dc.none {d : Addr} {there : Rows} {n : Int} (h : Dc K H d there) (hn : rowOf there n = none) : DGet H d (.int n) Option.none := by
  obtain ⟨kvs, a, b⟩ := h
  have g := DGet.k (k := Sum.inl n) a
  rw [b.none hn] at g
  exact g
theorem Dc.some {d : Addr} {there : Rows} {n : Int} {r : List Int} (h : Dc K H d there) (hn : rowOf there n = some r) : ∃ p, DGet H d (.int n) (some (.ref p)) ∧ SqL K H p (r.map V.int) := by
  obtain ⟨kvs, a, b⟩ := h
  obtain ⟨p, e, s⟩ := b.some hn
  have g := DGet.k (k := Sum.inl n) a
  rw [e] at g
  exact ⟨p, g, s⟩
end
theorem dget_ex {H H' : Hp} {a : Addr} {y : V} {o : Option V} (e : Ex H H') (h : DGet H a y o) : DGet H' a y o := by
  rcases h with ⟨kvs, k, r, e1, e2⟩ | ⟨kvs, k, b, r, e1, e2, e3⟩
  · exact .inl ⟨kvs, k, ex_rd e r, e1, e2⟩
  · exact .inr ⟨kvs, k, b, ex_rd e r, e1, e _ _ e2, e3⟩
section
variable {K : PySem.W.Frag} {σ : L2.St} {H H' : Hp} {ta tb te tx tl : TE} {t u : TT} {x y z v : V} {r : R2} {D : Ends} {tu tw tz ts : TS} {g : TG} {P P' : V → Hp → Prop}
theorem ev_dget {d : Addr} (ha : Ev ta σ H (.ref d)) (hb : Ev tb σ H y) (h : DGet H d y (some v)) : Ev (tDGet ta tb) σ H v := fun H1 e Q q =>
  ha H1 e _ fun H2 e2 => hb H2 (e.trans e2) _ fun H3 e3 => ⟨d, v, rfl, dget_ex ((e.trans e2).trans e3) h, q H3 (e2.trans e3)⟩
theorem ev_din {d : Addr} {o : Option V} (hb : Ev tb σ H y) (ha : Ev ta σ H (.ref d)) (h : DGet H d y o) : Ev (tDIn tb ta) σ H (.bl o.isSome) := fun H1 e Q q =>
  hb H1 e _ fun H2 e2 => ha H2 (e.trans e2) _ fun H3 e3 => ⟨d, o, rfl, dget_ex ((e.trans e2).trans e3) h, q H3 (e2.trans e3)⟩
theorem ev_dnotin {d : Addr} {o : Option V} (hb : Ev tb σ H y) (ha : Ev ta σ H (.ref d)) (h : DGet H d y o) : Ev (tDNotIn tb ta) σ H (.bl (!o.isSome)) := fun H1 e Q q =>
  hb H1 e _ fun H2 e2 => ha H2 (e.trans e2) _ fun H3 e3 => ⟨d, o, rfl, dget_ex ((e.trans e2).trans e3) h, q H3 (e2.trans e3)⟩
def rLenD : List V → Hp → VK → Prop := fun xs H Q => ∃ a kvs, xs = [V.ref a] ∧ H a = some (.dK kvs) ∧ Q (.int kvs.length) H
theorem c_lenD {X : Cx} : CallR X (.builtin "len") rLenD := call_lenD
theorem ev_lenDc {d : Addr} {there : Rows} (ha : Ev ta σ H (.ref d)) (h : Dc K H d there) : Ev (tCB rLenD (tCons ta tNil)) σ H (.int (there.length : Int)) := fun H1 e Q q =>
  ha H1 e _ fun H2 e2 => by
    obtain ⟨kvs, a, b⟩ := h.mono (e.trans e2)
    refine ⟨d, kvs, rfl, a, ?_⟩
    rw [b.1]
    exact q H2 e2
/-- [e for x in t], t a tuple, e an int -/
theorem el_lcT {a : Addr} {xs : List V} {j : Nat} {vs : List Nat} (f : Nat → Int) (h : Ev tl σ H (.ref a)) (hx : SqT K H a xs) (hz : xs.length ≤ 40000) (hw : ∀ x, wipe ((wipe σ vs).set j (some x)) vs = wipe σ vs)
    (he : ∀ (i : Nat) (x : V), xs[i]? = some x → Ev te ((wipe σ vs).set j (some x)) H (.int (f i))) : EvL (tLc (iTup K tl) (gName j) tYes te vs) σ H (((List.range xs.length).map f).map V.int) := fun H0 e Q q => h H0 e _ fun H1 e1 => ⟨a, rfl, ⟨xs, ex_t (e.trans e1) hx⟩, fun Dl hD =>
  lc_tup (K := K) (a := a) (xs := xs) (fun i H' => Ex H1 H' ∧ H' Dl = some (.lst (((List.range i).map f).map V.int))) ⟨Ex.new hD, upd_same⟩ (fun i H' _ p => ex_t ((e.trans e1).trans p.1) hx)
    (fun i x H' hi p => ⟨hw x, by
      have hl := (List.getElem?_eq_some_iff.mp hi).1
      show te ((wipe σ vs).set j (some x)) H' _
      refine he i x hi H' ((e.trans e1).trans p.1) _ fun H4 e4 => ⟨_, e4 _ _ p.2, sz_lt (by rw [List.length_map, List.length_map, List.length_range]; omega), Ex.mut (p.1.trans e4) hD, ?_⟩
      rw [upd_same, List.range_succ, List.map_append, List.map_append]
      rfl⟩)
    (fun H' p => q Dl H' (fresh_back e1 hD) (e1.trans p.1) p.2)⟩
theorem el_rg {n : Int} (h : Ev te σ H (.int n)) (h0 : 0 ≤ n) (h1 : n ≤ 10000) : EvL (tLstRg (tRg1 te)) σ H (((List.range n.toNat).map fun i : Nat => (i : Int)).map V.int) := fun H1 e Q q =>
  h H1 e _ fun H2 e2 => ⟨n, rfl, RgOk.of_le (Int.le_refl _) (by omega) (by omega) h0, fun l hl => q l _ (fresh_back e2 hl) (e2.trans (Ex.new hl)) (by
    rw [upd_same]
    unfold rgV
    rw [Int.sub_zero, List.map_map]
    congr 2
    refine List.map_congr_left fun i _ => ?_
    show V.int (0 + (i : Int)) = V.int (i : Int)
    rw [Int.zero_add])⟩
theorem seq_ix {i : Int} {n : Nat} (h0 : 0 ≤ i) (h1 : i < n) : seqIndex? i n = some i.toNat := by
  unfold seqIndex?
  simp only [if_neg (show ¬ i < 0 by omega)]
  rw [if_pos]
  simp only [Bool.and_eq_true, decide_eq_true_eq]
  exact ⟨h0, h1⟩
/-- l.append(m.pop(i)) -/
theorem sv_appPop {l m : Addr} {xs ys : List V} {i : Int} {tm : TE} (hl : H l = some (.lst xs)) (hm : H m = some (.lst ys)) (hlm : l ≠ m) (h1 : Ev ta σ H (.ref l)) (h2 : Ev tm σ H (.ref m)) (hi : Ev te σ H (.int i)) (h0 : 0 ≤ i) (hn : i < ys.length) (hy : ys[i.toNat]? = some y) (hz : xs.length < 10000) (hz2 : ys.length < 10000)
    (k : ∀ H2, (∀ a o, a ≠ l → a ≠ m → H a = some o → H2 a = some o) → H2 l = some (.lst (xs ++ [y])) → H2 m = some (.lst (ys.eraseIdx i.toNat)) → Sv tz D σ H2) :
    Sv (tSeq (tDrop (tBM K "list" rAppend ta (tCons (tBM K "list" rPopAt tm (tCons te tNil)) tNil))) tz) D σ H := fun H1 e =>
  h1 H1 e _ fun H2 e2 => ⟨Or.inl ⟨rfl, xs, sq_of (e2 _ _ (e _ _ hl))⟩, h2 H2 (e.trans e2) _ fun H3 e3 => ⟨Or.inl ⟨rfl, ys, sq_of (((e.trans e2).trans e3) _ _ hm)⟩, hi H3 ((e.trans e2).trans e3) _ fun H4 e4 =>
    ⟨m, ys, i, i.toNat, y, rfl, rfl, (((e.trans e2).trans e3).trans e4) _ _ hm, by omega, by omega, seq_ix h0 hn, hy, l, xs, y, rfl, rfl, by
      rw [upd_ne hlm]
      exact (((e.trans e2).trans e3).trans e4) _ _ hl, sz_lt (by omega), k _ (fun a o n1 n2 ha => by
        rw [upd_ne n1, upd_ne n2]
        exact (((e.trans e2).trans e3).trans e4) _ _ ha) upd_same (by rw [upd_ne hlm.symm, upd_same]) _ (Ex.refl _)⟩⟩⟩
end
theorem map_erase (f : Int → V) : ∀ (l : List Int) (i : Nat), (l.map f).eraseIdx i = (l.eraseIdx i).map f
  | [], _ => rfl
  | _ :: _, 0 => rfl
  | x :: l, i + 1 => by
    show f x :: (l.map f).eraseIdx i = f x :: (l.eraseIdx i).map f
    rw [map_erase f l i]
/-! ### the numbers in an order -/
/-- what an order goes by: what stands in its columns, then the number -/
def ent (cols : List Int) (there : Rows) (n : Int) : List Int := cols.map (fun c => ((rowOf there n).getD []).getD c.toNat 0) ++ [n]
/-- ahead: which of two such stands ahead -/
def InOrd (ahead : List Int → List Int → Bool) (cols : List Int) (there : Rows) (ns : List Int) : Prop :=
  ns.length = there.length ∧ (∀ n ∈ ns, ∃ r, rowOf there n = some r) ∧ ∀ (i : Nat) a b, ns[i]? = some a → ns[i + 1]? = some b → ahead (ent cols there a) (ent cols there b) = true
theorem range_get {α β : Type} (d : α) (l : List α) (g : α → β) : (List.range l.length).map (fun i => g (l.getD i d)) = l.map g := by
  refine List.ext_getElem? fun i => ?_
  rw [List.getElem?_map, List.getElem?_map]
  by_cases h : i < l.length
  · rw [List.getElem?_range h, List.getElem?_eq_getElem h]
    show some (g (l.getD i d)) = _
    rw [List.getD_eq_getElem?_getD, List.getElem?_eq_getElem h]
    rfl
  · rw [List.getElem?_eq_none (by rw [List.length_range]; omega), List.getElem?_eq_none (by omega)]
    rfl
theorem el_lcTI {K : PySem.W.Frag} {σ : L2.St} {H : Hp} {tl te : TE} {a : Addr} {cols : List Int} {j : Nat} {vs : List Nat} (g : Int → Int) (h : Ev tl σ H (.ref a)) (hx : SqT K H a (cols.map V.int)) (hz : cols.length ≤ 40000) (hw : ∀ x, wipe ((wipe σ vs).set j (some x)) vs = wipe σ vs)
    (he : ∀ x ∈ cols, Ev te ((wipe σ vs).set j (some (.int x))) H (.int (g x))) : EvL (tLc (iTup K tl) (gName j) tYes te vs) σ H ((cols.map g).map V.int) := by
  have k := el_lcT (K := K) (te := te) (fun i => g (cols.getD i 0)) h hx (by rw [List.length_map]; exact hz) hw fun i x hi => by
    rw [List.getElem?_map] at hi
    cases e : cols[i]? with
    | none =>
      rw [e] at hi
      cases hi
    | some c =>
      rw [e] at hi
      have ex : V.int c = x := Option.some.inj hi
      subst ex
      have eg : cols.getD i 0 = c := by
        rw [List.getD_eq_getElem?_getD, e]
        rfl
      show Ev te _ _ (.int (g (cols.getD i 0)))
      rw [eg]
      exact he c (List.mem_of_getElem? e)
  rw [List.length_map, range_get 0 cols g] at k
  exact k
end Wy

set_option Elab.async false
set_option linter.all false
set_option maxRecDepth 100000
set_option maxHeartbeats 4000000
/-! Wr: regions: what an object owns, what stands besides. -/
namespace Wy
open PySem PySem.Spec PyProof.Rows L2 Evl
abbrev Reg := Addr → Prop
def Tupo (o : HO) : Prop := ∃ xs, o = .tup xs
/-- what is not in F, and every tuple, stands as it stood; nothing that was known is unknown -/
structure Frm (F : Reg) (H H' : Hp) : Prop where
  keep : ∀ a o, H a = some o → (F a → Tupo o) → H' a = some o
  dm : ∀ a, H a ≠ none → H' a ≠ none
theorem ex_dm {H H' : Hp} (e : Ex H H') : ∀ a, H a ≠ none → H' a ≠ none := fun a h => by
  cases k : H a with
  | none => exact (h k).elim
  | some o =>
    rw [e a o k]
    exact fun z => by cases z
theorem Frm.of {F : Reg} {H H' : Hp} (e : Ex H H') : Frm F H H' := ⟨fun a o h _ => e a o h, ex_dm e⟩
abbrev RP := Reg → Hp → Prop
/-- it leans on its region and on tuples alone; its region is known and holds no tuples -/
structure Regn (T : RP) : Prop where
  loc : ∀ F H H', T F H → (∀ a o, H a = some o → (F a ∨ Tupo o) → H' a = some o) → T F H'
  dom : ∀ F H a, T F H → F a → ∃ o, H a = some o ∧ ¬ Tupo o
theorem Regn.ex {T : RP} (R : Regn T) {F : Reg} {H H' : Hp} (t : T F H) (e : Ex H H') : T F H' := R.loc F H H' t fun a o h _ => e a o h
/-- two regions side by side -/
def Two (T U : RP) : RP := fun F H => ∃ F1 F2 : Reg, T F1 H ∧ U F2 H ∧ (∀ a, F1 a → F2 a → False) ∧ ∀ a, F a ↔ F1 a ∨ F2 a
theorem Regn.two {T U : RP} (R : Regn T) (S : Regn U) : Regn (Two T U) where
  loc := fun F H H' ⟨F1, F2, t, u, d, f⟩ h => ⟨F1, F2, R.loc F1 H H' t fun a o ha z => h a o ha (z.imp (fun z => (f a).mpr (.inl z)) id), S.loc F2 H H' u fun a o ha z => h a o ha (z.imp (fun z => (f a).mpr (.inr z)) id), d, f⟩
  dom := fun F H a ⟨F1, F2, t, u, d, f⟩ z => ((f a).mp z).elim (R.dom F1 H a t) (S.dom F2 H a u)
/-- L: what is known besides the region; F0, B: the region and what was known at first -/
def Wld (T : RP) (F0 B : Reg) (L H : Hp) : Prop := ∃ F : Reg, T F H ∧ Ex L H ∧ (∀ a, F a → L a = none) ∧ (∀ a, B a → H a ≠ none) ∧ ∀ a, F a → F0 a ∨ ¬ B a
section
variable {T T' U : RP} {F0 B : Reg} {L L' H H' N : Hp}
theorem Wld.lx (w : Wld T F0 B L H) : Ex L H := let ⟨_, _, e, _⟩ := w; e
theorem Wld.ext (R : Regn T) (w : Wld T F0 B L H) (e : Ex H H') : Wld T F0 B L H' := by
  obtain ⟨F, t, x, d, b, f⟩ := w
  exact ⟨F, R.ex t e, x.trans e, d, fun a z => ex_dm e a (b a z), f⟩
/-- new objects beside the region -/
theorem Wld.new (R : Regn T) (w : Wld T F0 B L H) (e : Ex H H') (n : ∀ a, N a ≠ none → H a = none) (x : Ex N H') : Wld T F0 B (Unn N L) H' := by
  obtain ⟨F, t, x1, d, b, f⟩ := w
  refine ⟨F, R.ex t e, unn_ex (x1.trans e) x, fun a z => ?_, fun a z => ex_dm e a (b a z), f⟩
  obtain ⟨o, ho, _⟩ := R.dom F H a t z
  cases k : Unn N L a with
  | none => rfl
  | some u =>
    rcases unn_none (a := a) (N := N) (H := L) (by rw [k]; exact fun z => by cases z) with q | q
    · exact (q (d a z)).elim
    · rw [n a q] at ho
      cases ho
/-- less is known -/
theorem Wld.weak (w : Wld T F0 B L H) (e : Ex L' L) : Wld T F0 B L' H := by
  obtain ⟨F, t, x, d, b, f⟩ := w
  exact ⟨F, t, e.trans x, fun a z => fresh_back e (d a z), b, f⟩
/-- an own object changed -/
theorem Wld.put (R : Regn T) (w : Wld T F0 B L H) {p : Addr} {o o' : HO} (l : L p = some o) (nt : ¬ Tupo o) : Wld T F0 B (upd L p o') (upd H p o') := by
  obtain ⟨F, t, x, d, b, f⟩ := w
  have np : ∀ a, F a → a ≠ p := fun a z q => by
    have := d a z
    rw [q, l] at this
    cases this
  refine ⟨F, R.loc F H _ t fun a u h z => ?_, fun a u h => ?_, fun a z => ?_, fun a z => ?_, f⟩
  · have : a ≠ p := fun q => by
      rcases z with z | ⟨xs, z⟩
      · exact np a z q
      · rw [q, x _ _ l] at h
        exact nt ⟨xs, by rw [← z]; exact Option.some.inj h⟩
    rw [upd_ne this]
    exact h
  · by_cases q : a = p
    · subst q
      rw [upd_same] at h ⊢
      exact h
    · rw [upd_ne q] at h ⊢
      exact x _ _ h
  · rw [upd_ne (np a z)]
    exact d a z
  · by_cases q : a = p
    · rw [q, upd_same]
      exact fun z => by cases z
    · rw [upd_ne q]
      exact b a z
end
/-! ### promises over a region -/
def SpW (n : Nat) (R : List V → Hp → Reg → RP → (V → Hp → Prop) → Prop) : Sp := fun vs H Q _ => vs.length = n ∧ ∃ (F : Reg) (T' : RP) (P : V → Hp → Prop), R vs H F T' P ∧
  ∀ (v : V) (N H' : Hp) (F' : Reg), Frm F H H' → T' F' H' → (∀ a, F' a → F a ∨ H a = none) → (∀ a, N a ≠ none → H a = none ∧ ¬ F' a) → Ex N H' → P v N → Q v H'
/-- the same for whoever calls: the region T becomes T', the value and its new objects are as P says -/
def SpWP (sp : Sp) (vs : List V) (T T' : RP) (F0 B : Reg) (L : Hp) (P : V → Hp → Prop) : Prop := ∀ H, Wld T F0 B L H → ∀ Q : VK, (∀ v N H', (∀ a, N a ≠ none → L a = none ∧ ¬ B a) → P v N → Wld T' F0 B (Unn N L) H' → Q v H') → ∀ E : XK, sp vs H Q E
section
variable {T T' U : RP} {F0 B : Reg} {L L' H H' N : Hp} {n : Nat} {R : List V → Hp → Reg → RP → (V → Hp → Prop) → Prop} {vs : List V} {P : V → Hp → Prop}
theorem spw (hl : vs.length = n) (h : ∀ H F, T F H → Ex L H → (∀ a, F a → L a = none) → R vs H F T' P) : SpWP (SpW n R) vs T T' F0 B L P := fun H ⟨F, t, x, d, b, f⟩ Q q E =>
  ⟨hl, F, T', P, h H F t x d, fun v N H' F' fr t' gr dN eN p => q v N H' (fun a z => ⟨fresh_back x (dN a z).1, fun y => b a y (dN a z).1⟩) p ⟨F', t', unn_ex (fun a o ha => fr.keep a o (x a o ha) fun fa => by rw [d a fa] at ha; cases ha) eN, fun a fa => by
    cases k : Unn N L a with
    | none => rfl
    | some u =>
      rcases unn_none (a := a) (N := N) (H := L) (by rw [k]; exact fun z => by cases z) with y | y
      · rcases gr a fa with z | z
        · exact (y (d a z)).elim
        · exact (y (fresh_back x z)).elim
      · exact ((dN a y).2 fa).elim, fun a z => fr.dm a (b a z), fun a fa => by
      rcases gr a fa with z | z
      · exact f a z
      · exact .inr fun y => b a y z⟩⟩
/-- where another region stands beside -/
theorem spw_l (S : Regn T) (SU : Regn U) (hl : vs.length = n) (h : ∀ H F, T F H → Ex L H → (∀ a, F a → L a = none) → R vs H F T' P) : SpWP (SpW n R) vs (Two T U) (Two T' U) F0 B L P := fun H ⟨F, ⟨F1, F2, t, u, dd, ff⟩, x, d, b, f⟩ Q q E =>
  ⟨hl, F1, T', P, h H F1 t x (fun a z => d a ((ff a).mpr (.inl z))), fun v N H' F' fr t' gr dN eN p => by
    have u' : U F2 H' := SU.loc F2 H H' u fun a o ha z => fr.keep a o ha fun f1 => z.elim (fun f2 => (dd a f1 f2).elim) id
    have nF : ∀ a, F2 a → ¬ F' a := fun a f2 fa => by
      rcases gr a fa with z | z
      · exact dd a z f2
      · obtain ⟨o, ho, _⟩ := SU.dom F2 H a u f2
        rw [z] at ho
        cases ho
    refine q v N H' (fun a z => ⟨fresh_back x (dN a z).1, fun y => b a y (dN a z).1⟩) p ⟨fun a => F' a ∨ F2 a, ⟨F', F2, t', u', fun a y z => nF a z y, fun a => Iff.rfl⟩, unn_ex (fun a o ha => fr.keep a o (x a o ha) fun fa => by rw [d a ((ff a).mpr (.inl fa))] at ha; cases ha) eN, fun a fa => ?_, fun a z => fr.dm a (b a z), fun a fa => ?_⟩
    · cases k : Unn N L a with
      | none => rfl
      | some uu =>
        rcases unn_none (a := a) (N := N) (H := L) (by rw [k]; exact fun z => by cases z) with y | y
        · rcases fa with fa | fa
          · rcases gr a fa with z | z
            · exact (y (d a ((ff a).mpr (.inl z)))).elim
            · exact (y (fresh_back x z)).elim
          · exact (y (d a ((ff a).mpr (.inr fa)))).elim
        · rcases fa with fa | fa
          · exact ((dN a y).2 fa).elim
          · obtain ⟨o, ho, _⟩ := SU.dom F2 H a u fa
            rw [(dN a y).1] at ho
            cases ho
    · rcases fa with fa | fa
      · rcases gr a fa with z | z
        · exact f a ((ff a).mpr (.inl z))
        · exact .inr fun y => b a y z
      · exact f a ((ff a).mpr (.inr fa))⟩
theorem two_swap {F : Reg} (h : Two T U F H) : Two U T F H := let ⟨F1, F2, t, u, d, f⟩ := h; ⟨F2, F1, u, t, fun a x y => d a y x, fun a => (f a).trans or_comm⟩
theorem Wld.imp (w : Wld T F0 B L H) (i : ∀ F, T F H → T' F H) : Wld T' F0 B L H := let ⟨F, t, r⟩ := w; ⟨F, i F t, r⟩
theorem spw_r (S : Regn T) (SU : Regn U) (hl : vs.length = n) (h : ∀ H F, T F H → Ex L H → (∀ a, F a → L a = none) → R vs H F T' P) : SpWP (SpW n R) vs (Two U T) (Two U T') F0 B L P := fun H w Q q E =>
  spw_l S SU hl h H (w.imp fun F t => two_swap t) Q (fun v N H' d p w' => q v N H' d p (w'.imp fun F t => two_swap t)) E
end
/-! ### statements over a region -/
def SvW (ts : TS) (D : Ends) (σ : L2.St) (T : RP) (F0 B : Reg) (L : Hp) : Prop := ∀ H, Wld T F0 B L H → ts D σ H
def EvW (te : TE) (σ : L2.St) (T T' : RP) (F0 B : Reg) (L : Hp) (P : V → Hp → Prop) : Prop := ∀ H, Wld T F0 B L H → ∀ Q : VK, (∀ v N H', (∀ a, N a ≠ none → L a = none ∧ ¬ B a) → P v N → Wld T' F0 B (Unn N L) H' → Q v H') → te σ H Q
def EtW (tt : TT) (σ : L2.St) (T T' : RP) (F0 B : Reg) (L : Hp) (b : Bool) : Prop := ∀ H, Wld T F0 B L H → ∀ Q : Bool → Hp → Prop, (∀ N H', (∀ a, N a ≠ none → L a = none ∧ ¬ B a) → Wld T' F0 B (Unn N L) H' → Q b H') → tt σ H Q
section
variable {T T' T'' U : RP} {F0 B : Reg} {L L' H H' N : Hp} {K : PySem.W.Frag} {σ : L2.St} {ta tb te tl : TE} {t u : TT} {x y z v : V} {r : R2} {D : Ends} {tu tw tz ts : TS} {P P' : V → Hp → Prop}
theorem SvW.weak (h : SvW ts D σ T F0 B L') (e : Ex L' L) : SvW ts D σ T F0 B L := fun H w => h H (w.weak e)
theorem vw_asg {i : Nat} (R : Regn T) (h : Ev te σ L v) (k : SvW tz D (σ.set i (some v)) T F0 B L) : SvW (tSeq (tAsg te (gName i)) tz) D σ T F0 B L := fun H w => h H w.lx _ fun H2 e => k H2 (w.ext R e)
theorem vw_asg' {i : Nat} (R : Regn T) (h : Ev te σ L v) (k : SvW tNext D (σ.set i (some v)) T F0 B L) : SvW (tAsg te (gName i)) D σ T F0 B L := fun H w => h H w.lx _ fun H2 e => k H2 (w.ext R e)
theorem vw_asgN {i : Nat} (R : Regn T) (h : EvN te σ L P) (k : ∀ v N, (∀ a, N a ≠ none → L a = none ∧ ¬ B a) → P v N → SvW tz D (σ.set i (some v)) T F0 B (Unn N L)) : SvW (tSeq (tAsg te (gName i)) tz) D σ T F0 B L := fun H w =>
  h H w.lx _ fun v N H2 d p a b => k v N (fun x z => ⟨fresh_back w.lx (d x z), fun y => let ⟨_, _, _, _, bb, _⟩ := w; bb x y (d x z)⟩) p H2 (w.new R b d a)
theorem vw_asgN' {i : Nat} (R : Regn T) (h : EvN te σ L P) (k : ∀ v N, (∀ a, N a ≠ none → L a = none ∧ ¬ B a) → P v N → SvW tNext D (σ.set i (some v)) T F0 B (Unn N L)) : SvW (tAsg te (gName i)) D σ T F0 B L := fun H w =>
  h H w.lx _ fun v N H2 d p a b => k v N (fun x z => ⟨fresh_back w.lx (d x z), fun y => let ⟨_, _, _, _, bb, _⟩ := w; bb x y (d x z)⟩) p H2 (w.new R b d a)
theorem vw_asgW {i : Nat} (h : EvW te σ T T' F0 B L P) (k : ∀ v N, (∀ a, N a ≠ none → L a = none ∧ ¬ B a) → P v N → SvW tz D (σ.set i (some v)) T' F0 B (Unn N L)) : SvW (tSeq (tAsg te (gName i)) tz) D σ T F0 B L := fun H w =>
  h H w _ fun v N H2 d p w' => k v N d p H2 w'
theorem vw_asgW' {i : Nat} (h : EvW te σ T T' F0 B L P) (k : ∀ v N, (∀ a, N a ≠ none → L a = none ∧ ¬ B a) → P v N → SvW tNext D (σ.set i (some v)) T' F0 B (Unn N L)) : SvW (tAsg te (gName i)) D σ T F0 B L := fun H w =>
  h H w _ fun v N H2 d p w' => k v N d p H2 w'
theorem vw_drop (h : EvW te σ T T' F0 B L P) (k : ∀ v N, (∀ a, N a ≠ none → L a = none ∧ ¬ B a) → P v N → SvW tz D σ T' F0 B (Unn N L)) : SvW (tSeq (tDrop te) tz) D σ T F0 B L := fun H w => h H w _ fun v N H2 d p w' => k v N d p H2 w'
theorem vw_drop' (h : EvW te σ T T' F0 B L P) (k : ∀ v N, (∀ a, N a ≠ none → L a = none ∧ ¬ B a) → P v N → SvW tNext D σ T' F0 B (Unn N L)) : SvW (tDrop te) D σ T F0 B L := fun H w => h H w _ fun v N H2 d p w' => k v N d p H2 w'
theorem vw_retW (h : EvW te σ T T' F0 B L P) (k : ∀ v N H', (∀ a, N a ≠ none → L a = none ∧ ¬ B a) → P v N → Wld T' F0 B (Unn N L) H' → D.rt v H') : SvW (tRet te) D σ T F0 B L := fun H w => h H w _ fun v N H2 d p w' => k v N H2 d p w'
theorem vw_ret (R : Regn T) (h : Ev te σ L v) (k : ∀ H, Wld T F0 B L H → D.rt v H) : SvW (tRet te) D σ T F0 B L := fun H w => h H w.lx _ fun H2 e => k H2 (w.ext R e)
theorem vw_if {p : Prop} [Decidable p] (R : Regn T) (h : EvT t σ L (decide p)) (h1 : p → SvW tu { D with nx := tz D } σ T F0 B L) (h2 : ¬ p → SvW tw { D with nx := tz D } σ T F0 B L) : SvW (tSeq (tIfS t tu tw) tz) D σ T F0 B L := fun H w => h H w.lx _ fun H2 e => by
  by_cases q : p
  · rw [decide_eq_true q]
    exact h1 q H2 (w.ext R e)
  · rw [decide_eq_false q]
    exact h2 q H2 (w.ext R e)
theorem vw_when {p : Prop} [Decidable p] (R : Regn T) (h : EvT t σ L (decide p)) (h1 : p → SvW tu { D with nx := tz D } σ T F0 B L) (h2 : ¬ p → SvW tz D σ T F0 B L) : SvW (tSeq (tIfS t tu tNext) tz) D σ T F0 B L := vw_if R h h1 h2
theorem vw_if' {p : Prop} [Decidable p] (R : Regn T) (h : EvT t σ L (decide p)) (h1 : p → SvW tu D σ T F0 B L) (h2 : ¬ p → SvW tw D σ T F0 B L) : SvW (tIfS t tu tw) D σ T F0 B L := fun H w => h H w.lx _ fun H2 e => by
  by_cases q : p
  · rw [decide_eq_true q]
    exact h1 q H2 (w.ext R e)
  · rw [decide_eq_false q]
    exact h2 q H2 (w.ext R e)
theorem vw_ifset {p : Prop} [Decidable p] {i : Nat} {v w : V} (R : Regn T) (h : EvT t σ L (decide p)) (h1 : p → Ev te σ L v) (h2 : ¬ p → σ.set i (some w) = σ) (k : SvW tz D (σ.set i (some (if p then v else w))) T F0 B L) :
    SvW (tSeq (tIfS t (tAsg te (gName i)) tNext) tz) D σ T F0 B L := fun H ww => h H ww.lx _ fun H2 e2 => by
  by_cases q : p
  · rw [decide_eq_true q]
    rw [if_pos q] at k
    exact h1 q H2 (ww.ext R e2).lx _ fun H3 e3 => k H3 ((ww.ext R e2).ext R e3)
  · rw [decide_eq_false q]
    rw [if_neg q, h2 q] at k
    exact k H2 (ww.ext R e2)
/-- a test that changes the region -/
theorem vw_ifW' {b : Bool} (h : EtW t σ T T' F0 B L b) (h1 : ∀ N, (∀ a, N a ≠ none → L a = none ∧ ¬ B a) → b = true → SvW tu D σ T' F0 B (Unn N L)) (h2 : ∀ N, (∀ a, N a ≠ none → L a = none ∧ ¬ B a) → b = false → SvW tw D σ T' F0 B (Unn N L)) : SvW (tIfS t tu tw) D σ T F0 B L := fun H w => h H w _ fun N H2 d w' => by
  cases b with
  | true => exact h1 N d rfl H2 w'
  | false => exact h2 N d rfl H2 w'
theorem vw_ifW {b : Bool} (h : EtW t σ T T' F0 B L b) (h1 : ∀ N, (∀ a, N a ≠ none → L a = none ∧ ¬ B a) → b = true → SvW tu { D with nx := tz D } σ T' F0 B (Unn N L)) (h2 : ∀ N, (∀ a, N a ≠ none → L a = none ∧ ¬ B a) → b = false → SvW tw { D with nx := tz D } σ T' F0 B (Unn N L)) : SvW (tSeq (tIfS t tu tw) tz) D σ T F0 B L := fun H w => h H w _ fun N H2 d w' => by
  cases b with
  | true => exact h1 N d rfl H2 w'
  | false => exact h2 N d rfl H2 w'
theorem etw_val {b : Bool} (h : EvW te σ T T' F0 B L fun v _ => v = .bl b) : EtW (tB te) σ T T' F0 B L b := fun H w Q q => h H w _ fun v N H2 d p w' => ⟨b, p, q N H2 d w'⟩
theorem etw_not {b : Bool} (h : EtW t σ T T' F0 B L b) : EtW (tNot t) σ T T' F0 B L (!b) := fun H w Q q => h H w _ fun N H2 d w' => q N H2 d w'
theorem ew_cl {sp : Sp} {E : XK} {ta : TA} {vs : List V} (R : Regn T) (h : EvA ta σ L vs) (hs : SpWP sp vs T T' F0 B L P) : EvW (tCall sp [] E ta) σ T T' F0 B L P := fun H w Q q => h H w.lx _ fun H2 e => by
  rw [List.append_nil]
  exact hs H2 (w.ext R e) Q q E
theorem ew_of (R : Regn T) (h : Ev te σ L v) : EvW te σ T T F0 B L fun v' N => v' = v := fun H w Q q => h H w.lx Q fun H2 e => q v nonew H2 (fun a z => (z rfl).elim) rfl ((w.ext R e).weak (fun a o h => by
  have g : (match L a with | some o => some o | none => nonew a) = some o := h
  cases k : L a with
  | some u =>
    rw [k] at g
    exact g
  | none =>
    rw [k] at g
    cases g))
theorem EvW.imp (h : EvW te σ T T' F0 B L P) (i : ∀ v N, P v N → P' v N) : EvW te σ T T' F0 B L P' := fun H w Q q => h H w Q fun v N H2 d p w' => q v N H2 d (i v N p) w'
/-- a method of an object in the region -/
theorem ew_mt {C : Addr} {m : Str} {sp : Sp} {E : XK} {a : Addr} {t : TA} {vs : List V} (R : Regn T) (h : Ev ta σ L (.ref a)) (hi : ∀ H, Wld T F0 B L H → ∃ dx fs, H a = some (.ins C dx fs) ∧ fs.lookup m = none) (ht : EvA t σ L vs) (hs : SpWP sp (.ref a :: vs) T T' F0 B L P) : EvW (tMeth C m sp [] E ta t) σ T T' F0 B L P := fun H w Q q =>
  h H w.lx _ fun H2 e => by
    obtain ⟨dx, fs, h1, h2⟩ := hi H2 (w.ext R e)
    refine ⟨a, dx, fs, rfl, h1, h2, ht H2 (w.ext R e).lx _ fun H3 e3 => ?_⟩
    rw [List.append_nil]
    exact hs H3 ((w.ext R e).ext R e3) Q q E
theorem vw_next (k : ∀ H, Wld T F0 B L H → D.nx σ H) : SvW tNext D σ T F0 B L := k
/-- what holds over a region, whatever stands besides -/
def KnW (F0 B : Reg) (I : L2.St → RP → Hp → Prop) : L2.St → Hp → Prop := fun σ H => ∃ T L, I σ T L ∧ Wld T F0 B L H
theorem vw_kn {rt : VK} {bk ct : L2.St → Hp → Prop} {I : L2.St → RP → Hp → Prop} (h : I σ T L) : SvW tNext { nx := KnW F0 B I, rt := rt, bk := bk, ct := ct } σ T F0 B L := fun H w => ⟨T, L, h, w⟩
theorem vw_cut (I : L2.St → RP → Hp → Prop) (h : SvW tu { D with nx := KnW F0 B I } σ T F0 B L) (k : ∀ σ' T' L', I σ' T' L' → SvW tz D σ' T' F0 B L') : SvW (tCut tu tz) D σ T F0 B L := fun H w => ⟨KnW F0 B I, h H w, fun σ' H3 ⟨T', L', m, w'⟩ => k σ' T' L' m H3 w'⟩
theorem vw_forR1 {ta : TA} {j : Nat} {n : Int} (R : Regn T) (h : EvA ta σ L [.int n]) (hn : -100000 ≤ n ∧ n ≤ 100000) (I : Nat → L2.St → RP → Hp → Prop) (h0 : I 0 σ T L)
    (hs : ∀ (i : Nat) σ' T' L', (i : Int) < n → I i σ' T' L' → SvW tu { D with nx := KnW F0 B (I (i + 1)), ct := KnW F0 B (I (i + 1)), bk := tz D } (σ'.set j (some (.int (i : Int)))) T' F0 B L') (hd : ∀ σ' T' L', I n.toNat σ' T' L' → SvW tz D σ' T' F0 B L') : SvW (tSeq (tFor (iRng1 ta) (gName j) tu) tz) D σ T F0 B L :=
  fun H w => h H w.lx _ fun H2 e2 => ⟨n, rfl, by omega, by omega, for_range (D := { D with nx := tz D }) (lo := 0) (n := n.toNat) (fun i => KnW F0 B (I i)) ⟨T, L, h0, w.ext R e2⟩ (fun i σ' H3 hi ⟨T', L', p, w'⟩ => by
    have e0 : (0 : Int) + (i : Int) = (i : Int) := Int.zero_add _
    show tu { D with nx := KnW F0 B (I (i + 1)), ct := KnW F0 B (I (i + 1)), bk := tz D } (σ'.set j (some (.int ((0 : Int) + (i : Int))))) H3
    rw [e0]
    exact hs i σ' T' L' (by omega) p H3 w') (fun σ' H3 ⟨T', L', p, w'⟩ => hd σ' T' L' p H3 w')⟩
theorem vw_forL {a : Addr} {xs : List V} {j : Nat} (R : Regn T) (h : Ev tl σ L (.ref a)) (hx : SqL K L a xs) (I : Nat → L2.St → RP → Hp → Prop) (h0 : I 0 σ T L) (hl : ∀ i σ' T' L', I i σ' T' L' → SqL K L' a xs)
    (hs : ∀ i x σ' T' L', xs[i]? = some x → I i σ' T' L' → SvW tu { D with nx := KnW F0 B (I (i + 1)), ct := KnW F0 B (I (i + 1)), bk := tz D } (σ'.set j (some x)) T' F0 B L') (hd : ∀ σ' T' L', I xs.length σ' T' L' → SvW tz D σ' T' F0 B L') : SvW (tSeq (tFor (iList K tl) (gName j) tu) tz) D σ T F0 B L :=
  fun H w => h H w.lx _ fun H2 e2 => ⟨a, rfl, ⟨xs, ex_l (w.lx.trans e2) hx⟩, for_list (D := { D with nx := tz D }) (xs := xs) (fun i => KnW F0 B (I i)) ⟨T, L, h0, w.ext R e2⟩ (fun i σ' H3 _ ⟨T', L', p, w'⟩ => ex_l w'.lx (hl i σ' T' L' p))
    (fun i x σ' H3 hi ⟨T', L', p, w'⟩ => hs i x σ' T' L' hi p H3 w') (fun σ' H3 ⟨T', L', p, w'⟩ => hd σ' T' L' p H3 w')⟩
/-- xs[i] = e of an own list -/
theorem vw_setL {l : Addr} {xs : List V} {i : Int} {j : Nat} {ti : TE} (R : Regn T) (hl : L l = some (.lst xs)) (h : Ev te σ L v) (ho : Ev ta σ L (.ref l)) (hi : Ev ti σ L (.int i)) (hj : ixN xs.length i = some j) (k : SvW tz D σ T F0 B (upd L l (.lst (xs.set j v)))) :
    SvW (tSeq (tAsg te (gSub ta ti rSetL)) tz) D σ T F0 B L := fun H w => h H w.lx _ fun H2 e2 => ho H2 (w.ext R e2).lx _ fun H3 e3 => hi H3 ((w.ext R e2).ext R e3).lx _ fun H4 e4 =>
  have w4 := ((w.ext R e2).ext R e3).ext R e4
  ⟨l, xs, i, j, rfl, rfl, w4.lx _ _ hl, hj, k _ (w4.put R hl (fun ⟨_, z⟩ => by cases z))⟩
/-- xs.append(e) of an own list -/
theorem vw_app {l : Addr} {xs : List V} (R : Regn T) (hl : L l = some (.lst xs)) (ha : Ev ta σ L (.ref l)) (h : Ev te σ L v) (hz : xs.length < 100000) (k : SvW tz D σ T F0 B (upd L l (.lst (xs ++ [v])))) : SvW (tSeq (tDrop (tBM K "list" rAppend ta (tCons te tNil))) tz) D σ T F0 B L := fun H w =>
  ha H w.lx _ fun H2 e2 => ⟨Or.inl ⟨rfl, xs, sq_of ((w.ext R e2).lx _ _ hl)⟩, h H2 (w.ext R e2).lx _ fun H3 e3 =>
    have w3 := (w.ext R e2).ext R e3
    ⟨l, xs, v, rfl, rfl, w3.lx _ _ hl, sz_lt hz, k _ (w3.put R hl (fun ⟨_, z⟩ => by cases z))⟩⟩
/-- d[y] = e of an own dict, its keys ints and texts -/
theorem vw_dput {d : Addr} {kvs : List (Key × V)} {k0 : Key} {ty : TE} (R : Regn T) (hd : L d = some (.dK kvs)) (hv : Ev te σ L v) (ha : Ev ta σ L (.ref d)) (hy : Ev ty σ L (kV k0)) (hz : kvs.length < 10000) (k : SvW tz D σ T F0 B (upd L d (.dK (putK kvs k0 v)))) : SvW (tSeq (sDPut ta ty te) tz) D σ T F0 B L := fun H w =>
  hv H w.lx _ fun H2 e2 => ha H2 (w.ext R e2).lx _ fun H3 e3 => hy H3 ((w.ext R e2).ext R e3).lx _ fun H4 e4 =>
    have w4 := ((w.ext R e2).ext R e3).ext R e4
    ⟨d, _, rfl, DPut.k (w4.lx _ _ hd) (sz_lt (by omega)), k _ (w4.put R hd (fun ⟨_, z⟩ => by cases z))⟩
/-- x = d.pop(y) of an own dict -/
theorem vw_dpop {i : Nat} {d : Addr} {kvs : List (Key × V)} {k0 : Key} {ty : TE} (R : Regn T) (hd : L d = some (.dK kvs)) (ha : Ev ta σ L (.ref d)) (hy : Ev ty σ L (kV k0)) (hv : valV kvs k0 = some v) (k : SvW tz D (σ.set i (some v)) T F0 B (upd L d (.dK (dropK kvs k0)))) : SvW (tSeq (tAsg (tDPop1 ta ty) (gName i)) tz) D σ T F0 B L := fun H w =>
  ha H w.lx _ fun H2 e2 => ⟨d, rfl, .inl ⟨kvs, .inl ((w.ext R e2).lx _ _ hd)⟩, hy H2 (w.ext R e2).lx _ fun H3 e3 =>
    have w3 := (w.ext R e2).ext R e3
    ⟨kvs, k0, v, w3.lx _ _ hd, rfl, hv, k _ (w3.put R hd (fun ⟨_, z⟩ => by cases z))⟩⟩
end
end Wy

namespace Wy
open PySem PySem.Spec PyProof.Rows L2 Evl
/-! ### a region opened, and closed again -/
open Classical in
/-- all but F -/
noncomputable def Out (F : Reg) (H : Hp) : Hp := fun a => if F a then none else H a
theorem out_ex {F : Reg} {H : Hp} : Ex (Out F H) H := fun a o h => by
  unfold Out at h
  split at h
  · cases h
  · exact h
theorem out_no {F : Reg} {H : Hp} {a : Addr} (h : F a) : Out F H a = none := by
  unfold Out
  rw [if_pos h]
theorem out_at {F : Reg} {H : Hp} {a : Addr} (h : ¬ F a) : Out F H a = H a := by
  unfold Out
  rw [if_neg h]
theorem Regn.some {T : RP} (R : Regn T) : Regn T := R
theorem regn_ex {α : Type} {T : α → RP} (R : ∀ x, Regn (T x)) : Regn fun F H => ∃ x, T x F H where
  loc := fun F H H' ⟨x, t⟩ h => ⟨x, (R x).loc F H H' t h⟩
  dom := fun F H a ⟨x, t⟩ z => (R x).dom F H a t z
theorem regn_and {p : Prop} {T : RP} (R : Regn T) : Regn fun F H => p ∧ T F H where
  loc := fun F H H' ⟨x, t⟩ h => ⟨x, R.loc F H H' t h⟩
  dom := fun F H a ⟨x, t⟩ z => R.dom F H a t z
section
variable {T T' U U' : RP} {F F1 F2 F2' F0 B : Reg} {L L' H H' N : Hp} {Q : VK} {v : V} {P : V → Hp → Prop}
theorem open_r (R : Regn T) (S : Regn U) (t : T F1 H) (u : U F2 H) (d : ∀ a, F1 a → F2 a → False) : Wld T F1 (fun a => H a ≠ none) (Out F1 H) H ∧ U F2 (Out F1 H) := by
  refine ⟨⟨F1, t, out_ex, fun a z => out_no z, fun a z => z, fun a z => .inl z⟩, S.loc F2 H _ u fun a o h z => ?_⟩
  have nf : ¬ F1 a := fun f => by
    rcases z with z | z
    · exact d a f z
    · obtain ⟨o', ho, nt⟩ := R.dom F1 H a t f
      rw [h] at ho
      rw [← Option.some.inj ho] at nt
      exact nt z
  rw [out_at nf]
  exact h
theorem close_r (R : Regn T) (S' : Regn U') (t : T F1 H) (ff : ∀ a, F a ↔ F1 a ∨ F2 a)
    (q : ∀ (v : V) (N H' : Hp) (F' : Reg), Frm F H H' → Two T' U' F' H' → (∀ a, F' a → F a ∨ H a = none) → (∀ a, N a ≠ none → H a = none ∧ ¬ F' a) → Ex N H' → P v N → Q v H')
    (w : Wld T' F1 (fun a => H a ≠ none) L' H') (u' : U' F2' L') (g : ∀ a, F2' a → F2 a ∨ H a = none) (keep : ∀ a o, Out F1 H a = some o → (F2 a → Tupo o) → L' a = some o) (nN : ∀ a, N a ≠ none → H a = none ∧ ¬ F2' a) (eN : Ex N L') (p : P v N) : Q v H' := by
  obtain ⟨F1', t', x, d, b, f⟩ := w
  have k2 : ∀ a, F2' a → L' a ≠ none := fun a z => by
    obtain ⟨o, ho, _⟩ := S'.dom F2' L' a u' z
    rw [ho]
    exact fun q => by cases q
  refine q v N H' (fun a => F1' a ∨ F2' a) ⟨fun a o h z => ?_, b⟩ ⟨F1', F2', t', S'.ex u' x, fun a z1 z2 => k2 a z2 (d a z1), fun a => Iff.rfl⟩ (fun a z => ?_) (fun a z => ⟨(nN a z).1, fun y => ?_⟩) (eN.trans x) p
  · have nf : ¬ F1 a := fun f1 => by
      obtain ⟨o', ho, nt⟩ := R.dom F1 H a t f1
      rw [h] at ho
      rw [← Option.some.inj ho] at nt
      exact nt (z ((ff a).mpr (.inl f1)))
    exact x a o (keep a o (by rw [out_at nf]; exact h) fun f2 => z ((ff a).mpr (.inr f2)))
  · rcases z with z | z
    · rcases f a z with y | y
      · exact .inl ((ff a).mpr (.inl y))
      · exact .inr (Classical.not_not.mp y)
    · rcases g a z with y | y
      · exact .inl ((ff a).mpr (.inr y))
      · exact .inr y
  · rcases y with y | y
    · have := d a y
      cases k : N a with
      | none => exact z k
      | some o =>
        rw [eN a o k] at this
        cases this
    · exact (nN a z).2 y
end
/-! ### values read out of the region -/
section
variable {T T' U : RP} {F0 B : Reg} {L L' H H' N : Hp} {K : PySem.W.Frag} {σ : L2.St} {ta tb te tl : TE} {t u : TT} {x y z v : V} {D : Ends} {tu tw tz ts : TS} {P P' : V → Hp → Prop}
theorem unn_no : Ex (Unn nonew L) L := fun a o h => by
  have g : (match L a with | some o => some o | none => nonew a) = some o := h
  cases k : L a with
  | some u =>
    rw [k] at g
    exact g
  | none =>
    rw [k] at g
    cases g
theorem ew_at (R : Regn T) (h : ∀ H, Wld T F0 B L H → Ev te σ H v) : EvW te σ T T F0 B L fun v' _ => v' = v := fun H w Q q => h H w H (Ex.refl H) Q fun H2 e => q v nonew H2 (fun a z => (z rfl).elim) rfl ((w.ext R e).weak unn_no)
theorem et_at (R : Regn T) {b : Bool} (h : ∀ H, Wld T F0 B L H → EvT t σ H b) : EtW t σ T T F0 B L b := fun H w Q q => h H w H (Ex.refl H) Q fun H2 e => q nonew H2 (fun a z => (z rfl).elim) ((w.ext R e).weak unn_no)
/-- a pure test and what stands in the region -/
theorem vw_ifR {p : Prop} [Decidable p] (R : Regn T) (h : ∀ H, Wld T F0 B L H → EvT t σ H (decide p)) (h1 : p → SvW tu { D with nx := tz D } σ T F0 B L) (h2 : ¬ p → SvW tw { D with nx := tz D } σ T F0 B L) : SvW (tSeq (tIfS t tu tw) tz) D σ T F0 B L := fun H w => h H w H (Ex.refl H) _ fun H2 e => by
  by_cases q : p
  · rw [decide_eq_true q]
    exact h1 q H2 (w.ext R e)
  · rw [decide_eq_false q]
    exact h2 q H2 (w.ext R e)
theorem vw_whenR {p : Prop} [Decidable p] (R : Regn T) (h : ∀ H, Wld T F0 B L H → EvT t σ H (decide p)) (h1 : p → SvW tu { D with nx := tz D } σ T F0 B L) (h2 : ¬ p → SvW tz D σ T F0 B L) : SvW (tSeq (tIfS t tu tNext) tz) D σ T F0 B L := vw_ifR R h h1 h2
theorem vw_ifR' {p : Prop} [Decidable p] (R : Regn T) (h : ∀ H, Wld T F0 B L H → EvT t σ H (decide p)) (h1 : p → SvW tu D σ T F0 B L) (h2 : ¬ p → SvW tw D σ T F0 B L) : SvW (tIfS t tu tw) D σ T F0 B L := fun H w => h H w H (Ex.refl H) _ fun H2 e => by
  by_cases q : p
  · rw [decide_eq_true q]
    exact h1 q H2 (w.ext R e)
  · rw [decide_eq_false q]
    exact h2 q H2 (w.ext R e)
end
/-! ### rows by their numbers, a dict and its lists, as a region -/
/-- an entry of the dict and a row -/
def RowIs (F : Reg) (H : Hp) (e : Key × V) (p : Int × List Int) : Prop := e.1 = Sum.inl p.1 ∧ ∃ q : Addr, e.2 = V.ref q ∧ H q = some (.lst (p.2.map V.int)) ∧ F q
def DtR (d : Addr) (s : Rows) : RP := fun F H => ∃ kvs, H d = some (.dK kvs) ∧ Paired (RowIs F H) kvs s ∧ F d ∧ ∀ a, F a → ∃ o, H a = some o ∧ ¬ Tupo o
theorem rowIs_loc {F F' : Reg} {H H' : Hp} {e : Key × V} {p : Int × List Int} (h : RowIs F H e p) (k : ∀ a o, F a → H a = some o → H' a = some o) (kf : ∀ a, F a → F' a) : RowIs F' H' e p := by
  obtain ⟨a, q, b, c, d⟩ := h
  exact ⟨a, q, b, k q _ d c, kf q d⟩
theorem paired_imp {α β : Type} {R R' : α → β → Prop} (h : ∀ a b, R a b → R' a b) : ∀ {l : List α} {m : List β}, Paired R l m → Paired R' l m
  | _, _, .nil => .nil
  | _, _, .cons a b => .cons (h _ _ a) (paired_imp h b)
theorem paired_len {α β : Type} {R : α → β → Prop} : ∀ {l : List α} {m : List β}, Paired R l m → l.length = m.length
  | _, _, .nil => rfl
  | _, _, .cons _ b => congrArg (· + 1) (paired_len b)
theorem paired_snoc {α β : Type} {R : α → β → Prop} {x : α} {y : β} (h : R x y) : ∀ {l : List α} {m : List β}, Paired R l m → Paired R (l ++ [x]) (m ++ [y])
  | _, _, .nil => .cons h .nil
  | _, _, .cons a b => .cons a (paired_snoc h b)
theorem paired_get {α β : Type} {R : α → β → Prop} : ∀ {l : List α} {m : List β} {i : Nat} {y : β}, Paired R l m → m[i]? = some y → ∃ x, l[i]? = some x ∧ R x y
  | _, _, i, y, .nil, h => by cases h
  | x :: _, _ :: _, 0, y, .cons a b, h => ⟨x, rfl, by rw [← Option.some.inj h]; exact a⟩
  | _ :: _, _ :: _, i + 1, y, .cons a b, h => paired_get (i := i) b h
theorem paired_erase {α β : Type} {R : α → β → Prop} : ∀ {l : List α} {m : List β}, Paired R l m → ∀ k, Paired R (l.eraseIdx k) (m.eraseIdx k)
  | _, _, .nil, _ => .nil
  | _ :: _, _ :: _, .cons a b, 0 => b
  | _ :: _, _ :: _, .cons a b, k + 1 => .cons a (paired_erase b k)
theorem dtR_regn (d : Addr) (s : Rows) : Regn (DtR d s) where
  loc := fun F H H' ⟨kvs, h1, h2, h4, h5⟩ h => ⟨kvs, h d _ h1 (.inl h4), paired_imp (fun e p r => rowIs_loc r (fun a o f ha => h a o ha (.inl f)) fun a z => z) h2, h4, fun a z => by
    obtain ⟨o, a1, a2⟩ := h5 a z
    exact ⟨o, h a o a1 (.inl z), a2⟩⟩
  dom := fun F H a ⟨_, _, _, _, h5⟩ z => h5 a z
theorem DtR.dc {K : PySem.W.Frag} {d : Addr} {s : Rows} {F : Reg} {H : Hp} (h : DtR d s F H) : Dc K H d s := by
  obtain ⟨kvs, h1, h2, _⟩ := h
  refine ⟨kvs, h1, paired_len h2, fun i n r hi => ?_⟩
  obtain ⟨e, he, a, q, b, c, _⟩ := paired_get h2 hi
  refine ⟨q, ?_, sq_of c⟩
  rw [he]
  obtain ⟨e1, e2⟩ := e
  simp only at a b
  rw [a, b]
theorem paired_drop {F : Reg} {H : Hp} (n : Int) : ∀ {kvs : List (Key × V)} {s : Rows}, Paired (RowIs F H) kvs s → Paired (RowIs F H) (dropK kvs (Sum.inl n)) (s.filter fun p => decide (¬ p.1 = n))
  | _, _, .nil => .nil
  | e :: kvs, p :: s, .cons a b => by
    have ih := paired_drop n b
    unfold dropK at ih ⊢
    rw [List.filter_cons, List.filter_cons]
    by_cases c : p.1 = n
    · rw [if_neg (by rw [a.1, c]; simp), if_neg (by rw [c]; simp)]
      exact ih
    · rw [if_pos (by rw [a.1]; simpa using c), if_pos (by simpa using c)]
      exact .cons a ih
theorem put_new {kvs : List (Key × V)} {k : Key} {v : V} (h : valV kvs k = none) : putK kvs k v = kvs ++ [(k, v)] := by
  unfold putK
  rw [valV_any, h]
  exact if_neg (fun z => by cases z)
theorem rowOf_snoc (s : Rows) (n m : Int) (r : List Int) : rowOf (s ++ [(n, r)]) m = match rowOf s m with | some x => some x | none => if n = m then some r else none := by
  induction s with
  | nil =>
    rw [List.nil_append, rowOf_cons]
    rfl
  | cons p s ih =>
    rw [List.cons_append, rowOf_cons, rowOf_cons]
    by_cases c : p.1 = m
    · rw [if_pos c, if_pos c]
    · rw [if_neg c, if_neg c]
      exact ih
theorem rowOf_filter (s : Rows) (n m : Int) : rowOf (s.filter fun p => decide (¬ p.1 = n)) m = if n = m then none else rowOf s m := by
  induction s with
  | nil =>
    split <;> rfl
  | cons p s ih =>
    rw [List.filter_cons]
    by_cases c : p.1 = n
    · rw [if_neg (by simp [c]), ih, rowOf_cons]
      by_cases d : n = m
      · rw [if_pos d, if_pos d]
      · rw [if_neg d, if_neg d, if_neg (by rw [c]; exact d)]
    · rw [if_pos (by simp [c]), rowOf_cons, ih, rowOf_cons]
      by_cases d : p.1 = m
      · rw [if_pos d, if_pos d, if_neg (by rw [← d]; exact fun z => c z.symm)]
      · rw [if_neg d, if_neg d]
theorem rowOf_mem {s : Rows} {n : Int} (h : n ∈ s.map (·.1)) : ∃ r, rowOf s n = some r := by
  induction s with
  | nil => cases h
  | cons p s ih =>
    rw [rowOf_cons]
    by_cases c : p.1 = n
    · exact ⟨p.2, if_pos c⟩
    · rw [if_neg c]
      rw [List.map_cons] at h
      rcases List.mem_cons.mp h with q | q
      · exact (c q.symm).elim
      · exact ih q
theorem mem_rowOf {s : Rows} {n : Int} {r : List Int} (h : rowOf s n = some r) : n ∈ s.map (·.1) := by
  induction s with
  | nil => cases h
  | cons p s ih =>
    rw [rowOf_cons] at h
    rw [List.map_cons]
    by_cases c : p.1 = n
    · rw [c]
      exact List.mem_cons_self ..
    · rw [if_neg c] at h
      exact List.mem_cons_of_mem _ (ih h)
/-! ### new arguments, methods -/
def EvAN (ta : TA) (σ : L2.St) (H : Hp) (PA : List V → Hp → Prop) : Prop := ∀ H1, Ex H H1 → ∀ Q : List V → Hp → Prop, (∀ vs N H2, (∀ a, N a ≠ none → H1 a = none) → PA vs N → Ex N H2 → Ex H1 H2 → Q vs H2) → ta σ H1 Q
section
variable {T T' T'' U : RP} {F0 B : Reg} {L L' H H' N : Hp} {K : PySem.W.Frag} {σ : L2.St} {ta tb te tl : TE} {t u : TT} {x y z v : V} {D : Ends} {tu tw tz ts : TS} {P P' : V → Hp → Prop}
theorem ean_one {P : V → Hp → Prop} (h : EvN te σ H P) : EvAN (tCons te tNil) σ H fun vs N => ∃ v, vs = [v] ∧ P v N := fun H1 e Q q => h H1 e _ fun v N H2 d p a b => q [v] N H2 d ⟨v, rfl, p⟩ a b
theorem ean_cons {tr : TA} {PA : List V → Hp → Prop} (h : Ev te σ H v) (hr : EvAN tr σ H PA) : EvAN (tCons te tr) σ H fun vs N => ∃ ws, vs = v :: ws ∧ PA ws N := fun H1 e Q q =>
  h H1 e _ fun H2 e2 => hr H2 (e.trans e2) _ fun ws N H3 d p a b => q (v :: ws) N H3 (fun x z => fresh_back e2 (d x z)) ⟨ws, rfl, p⟩ a (e2.trans b)
theorem ew_mtN {C : Addr} {m : Str} {sp : Sp} {E : XK} {a : Addr} {t : TA} {PA : List V → Hp → Prop} {p : V → Prop} (R : Regn T) (h : Ev ta σ L (.ref a)) (hi : ∀ H, Wld T F0 B L H → ∃ dx fs, H a = some (.ins C dx fs) ∧ fs.lookup m = none) (ht : EvAN t σ L PA)
    (hs : ∀ vs N, (∀ a, N a ≠ none → L a = none ∧ ¬ B a) → PA vs N → SpWP sp (.ref a :: vs) T T' F0 B (Unn N L) fun v _ => p v) : EvW (tMeth C m sp [] E ta t) σ T T' F0 B L fun v _ => p v := fun H w Q q =>
  h H w.lx _ fun H2 e => by
    obtain ⟨dx, fs, h1, h2⟩ := hi H2 (w.ext R e)
    refine ⟨a, dx, fs, rfl, h1, h2, ht H2 (w.ext R e).lx _ fun vs N H3 d pa x y => ?_⟩
    rw [List.append_nil]
    have w2 := w.ext R e
    refine hs vs N (fun b z => ⟨fresh_back w2.lx (d b z), fun g => let ⟨_, _, _, _, bb, _⟩ := w2; bb b g (d b z)⟩) pa H3 (w2.new R y d x) Q (fun v N' H' d' pv w' => q v nonew H' (fun b z => (z rfl).elim) pv (w'.weak (unn_no.trans (unn_r.trans unn_r)))) E
theorem ew_isN (h : EvW te σ T T' F0 B L fun v _ => v = .non) : EvW (tOp rNone te (tC .non)) σ T T' F0 B L fun v _ => v = .bl true := fun H w Q q => h H w _ fun v N H' d p w' => ⟨rfl, by
  show Q (.bl (decide (v = .non))) H'
  rw [decide_eq_true p]
  exact q _ N H' d rfl w'⟩
theorem ew_and (h1 : EvW ta σ T T' F0 B L fun v _ => v = .bl true) (h2 : EvW tb σ T' T'' F0 B L fun v _ => v = .bl true) : EvW (tAndV ta tb) σ T T'' F0 B L fun v _ => v = .bl true := fun H w Q q => h1 H w _ fun v N H' d p w' => ⟨true, p, by
  show tb σ H' Q
  exact h2 H' (w'.weak unn_r) Q fun v N' H2 d' p' w2 => q v N' H2 d' p' w2⟩
end
section
variable {K : PySem.W.Frag} {σ : L2.St} {H : Hp} {ta : TE}
/-- sorted(d.keys()) -/
theorem en_sortK {d : Addr} {s : Rows} (ha : Ev ta σ H (.ref d)) (hd : Dc K H d s) (hz : s.length ≤ 100000) : EvN (tCB rSortK (tCons (tBM0 K "dict" rKeysV ta) tNil)) σ H fun v N => ∃ (p : Addr) (ys : List Int), v = .ref p ∧ N p = some (.lst (ys.map V.int)) ∧ ys.Perm (s.map (·.1)) ∧ ys.Pairwise (· ≤ ·) := fun H1 e Q q =>
  ha H1 e _ fun H2 e2 => by
    obtain ⟨kvs, hk, hv⟩ := hd.mono (e.trans e2)
    refine ⟨.inr (.inr (.inl ⟨rfl, .inl ⟨kvs, hk⟩⟩)), d, kvs, rfl, rfl, hk, fun p np => ⟨p, d, kvs, s.map (·.1), rfl, upd_same, by rw [upd_ne (ne_of_none hk np)]; exact hk, hv.keys, by rw [List.length_map]; exact hz, fun ys l p1 p2 nl => ?_⟩⟩
    have x : Ex H1 (upd H2 p (keysO p d)) := e2.trans (Ex.new np)
    exact q (.ref l) (one l (.lst (ys.map V.int))) _ (fun a z => by rw [one_ne z]; exact fresh_back x nl) ⟨l, ys, rfl, one_at, p1, p2⟩ (one_ex upd_same) (x.trans (Ex.new nl))
/-- list(d.values()) -/
theorem en_listV {d : Addr} {s : Rows} {kvs : List (Key × V)} (ha : Ev ta σ H (.ref d)) (hk : H d = some (.dK kvs)) : EvL (tCB rListV (tCons (tBM0 K "dict" rValsV ta) tNil)) σ H (kvs.map (·.2)) := fun H1 e Q q =>
  ha H1 e _ fun H2 e2 => by
    have hk2 := (e.trans e2) _ _ hk
    refine ⟨.inr (.inr (.inl ⟨rfl, .inl ⟨kvs, hk2⟩⟩)), d, kvs, rfl, rfl, hk2, fun p np => ⟨p, d, kvs, rfl, upd_same, by rw [upd_ne (ne_of_none hk2 np)]; exact hk2, fun l nl => ?_⟩⟩
    exact q l _ (fresh_back (e2.trans (Ex.new np)) nl) ((e2.trans (Ex.new np)).trans (Ex.new nl)) upd_same
end
theorem paired_val {F : Reg} {H : Hp} : ∀ {kvs : List (Key × V)} {s : Rows} {n : Int} {r : List Int}, Paired (RowIs F H) kvs s → rowOf s n = some r → ∃ q : Addr, valV kvs (Sum.inl n) = some (V.ref q) ∧ H q = some (.lst (r.map V.int)) ∧ F q
  | _, _, _, _, .nil, h => by cases h
  | e :: kvs, p :: s, n, r, .cons a b, h => by
    rw [rowOf_cons] at h
    obtain ⟨e1, q, e2, e3, e4⟩ := a
    by_cases c : p.1 = n
    · rw [if_pos c] at h
      rw [valV_pos (by rw [e1, c])]
      exact ⟨q, by rw [e2], by rw [← Option.some.inj h]; exact e3, e4⟩
    · rw [if_neg c] at h
      rw [valV_neg (by rw [e1]; intro z; exact c (Sum.inl.inj z))]
      exact paired_val b h
theorem paired_no {F : Reg} {H : Hp} : ∀ {kvs : List (Key × V)} {s : Rows} {n : Int}, Paired (RowIs F H) kvs s → rowOf s n = none → valV kvs (Sum.inl n) = none
  | _, _, _, .nil, h => rfl
  | e :: kvs, p :: s, n, .cons a b, h => by
    rw [rowOf_cons] at h
    obtain ⟨e1, q, e2, e3, e4⟩ := a
    by_cases c : p.1 = n
    · rw [if_pos c] at h
      cases h
    · rw [if_neg c] at h
      rw [valV_neg (by rw [e1]; intro z; exact c (Sum.inl.inj z))]
      exact paired_no b h
theorem rowOf_none {s : Rows} {n : Int} (h : n ∉ s.map (·.1)) : rowOf s n = none := by
  cases k : rowOf s n with
  | none => rfl
  | some r => exact (h (mem_rowOf k)).elim
end Wy

set_option Elab.async false
set_option linter.all false
set_option maxRecDepth 100000
set_option maxHeartbeats 4000000
/-! Wk: an order that is kept, by what it promises. -/
namespace Wy
open PySem PySem.Spec PyProof.Rows L2 Evl
/-- whether one list stands ahead of another -/
def ahead : List Int → List Int → Bool
  | x :: xs, y :: ys => if x = y then ahead xs ys else decide (x < y)
  | [], _ :: _ => true
  | _, [] => false
structure Mt (P : Program) (w : World) (K : PySem.W.Frag) (mg : Str → Option Value) (base : Heap) (CX : CXT) (k : Nat) (C : Addr) (m : Str) (sp : Sp) : Prop where
  ex : ∃ (f : Addr) (fd : FuncData) (ps : List Str), Cls K C ∧ Meth K C m f ∧ FnOk P w K mg base CX k f fd ps sp ∧ Binds K fd ps []
structure Mc (P : Program) (w : World) (K : PySem.W.Frag) (mg : Str → Option Value) (base : Heap) (CX : CXT) (k : Nat) (x : Str) (C : Addr) (sp : Sp) : Prop where
  ex : ∃ (f : Addr) (fd : FuncData) (ps : List Str), Mk K C f ∧ FnOk P w K mg base CX k f fd ps sp ∧ mg x = some (.ref C) ∧ Binds K fd ps []
section
variable {X : Cx} {CX : CXT} {E : XK} {k j : Nat} {C : Addr} {x m : Str} {sp : Sp} {p pos apos : Pos} {e o : Expr} {es : List Expr} {ta : TE} {t : TA}
theorem pe_m {pl : Sem Bool} (c : Mt X.prog X.w X.K X.mg X.base CX k C m sp) (hr : Room j X.A) (hk : k ≤ j) (hx : Passes CX X E) (he : PE X o ta) (ha : PA X (e :: es) t)
    (hst : starEach (e :: es) X.env = (false, eval e X.env) :: starEach es X.env := by rfl) (hpl : (backTo pos (starEach es X.env)).any (·.1) = false := by rfl)
    (ht : eval (.Call (.Attribute o m apos) (e :: es) [] pos) X.env = (do
      let recv ← eval o X.env
      standAt apos.atName
      let (g, first) ← holding [recv] (getMethod recv m pl)
      callWith pos g first (backTo pos (starEach (e :: es) X.env)) (backToKw pos (keywordEach [] X.env))) := by rfl) :
    PE X (.Call (.Attribute o m apos) (e :: es) [] pos) (tMeth C m sp [] E ta t) := by
  obtain ⟨f, fd, ps, hc, hm, F, b⟩ := c.ex
  exact pe_meth (pl := pl) he hc hm F (hr.mono hk) b .nil hx ha hst hpl ht
theorem pe_m0 {pl : Sem Bool} (c : Mt X.prog X.w X.K X.mg X.base CX k C m sp) (hr : Room j X.A) (hk : k ≤ j) (hx : Passes CX X E) (he : PE X o ta)
    (ht : eval (.Call (.Attribute o m apos) [] [] pos) X.env = (do
      let recv ← eval o X.env
      standAt apos.atName
      let (g, first) ← holding [recv] (getMethod recv m pl)
      callWith pos g first (backTo pos (starEach [] X.env)) (backToKw pos (keywordEach [] X.env))) := by rfl) :
    PE X (.Call (.Attribute o m apos) [] [] pos) (tMeth C m sp [] E ta tNil) := by
  obtain ⟨f, fd, ps, hc, hm, F, b⟩ := c.ex
  exact pe_meth0 (pl := pl) he hc hm F (hr.mono hk) b .nil hx ht
theorem pe_k (c : Mc X.prog X.w X.K X.mg X.base CX k x C sp) (hr : Room j X.A) (hk : k + 1 ≤ j) (hx : Passes CX X E) (hg : Gl X x) (ha : PA X (e :: es) t)
    (hdb : (x == ("__debug__" : Str)) = false := by decide) (he : starEach (e :: es) X.env = (false, eval e X.env) :: starEach es X.env := by rfl) (hpl : (backTo pos (starEach es X.env)).any (·.1) = false := by rfl) :
    PE X (.Call (.Name x p) (e :: es) [] pos) (tMake C sp [] E t) := by
  obtain ⟨f, fd, ps, M, F, hm, b⟩ := c.ex
  exact pe_make M F (hr.mono hk) hg hm b .nil hx ha hdb he hpl
end
/-- what a Kept is, whatever it holds: its region, its columns -/
structure KS (K : PySem.W.Frag) where
  C : Addr
  at_ : Addr → List Int → Rows → RP
  regn : ∀ k c s, Regn (at_ k c s)
  ins : ∀ {k c s F H}, at_ k c s F H → ∃ (dx : Addr) (fs : List (Str × V)) (ct : Addr), H k = some (.ins C dx fs) ∧ fs.lookup ("columns" : Str) = some (.ref ct) ∧ SqT K H ct (c.map V.int) ∧
    fs.lookup ("put" : Str) = none ∧ fs.lookup ("drop" : Str) = none ∧ fs.lookup ("numbers" : Str) = none ∧ fs.lookup ("stretch" : Str) = none ∧ fs.lookup ("covers" : Str) = none
  cls : Cls K C
  noCol : NoAttr K C "columns"
def Wide (s : Rows) (w : Nat) : Prop := ∀ n r, rowOf s n = some r → r.length = w
section
variable {K : PySem.W.Frag} (S : KS K)
def RowAt (K : PySem.W.Frag) (H : Hp) (F : Reg) (r : Addr) (row : List Int) : Prop := (SqL K H r (row.map V.int) ∧ ¬ F r) ∨ SqT K H r (row.map V.int)
def RKPut : List V → Hp → Reg → RP → (V → Hp → Prop) → Prop := fun vs H F T' P => ∃ (k r : Addr) (n : Int) (row c : List Int) (s : Rows), vs = [.ref k, .int n, .ref r] ∧ S.at_ k c s F H ∧ RowAt K H F r row ∧ rowOf s n = none ∧ (∀ x ∈ c, 0 ≤ x ∧ x < row.length) ∧ row.length ≤ 6 ∧ Wide s row.length ∧ s.length < 200 ∧
  T' = S.at_ k c (s ++ [(n, row)]) ∧ P = fun v _ => v = .non
def RKDrop : List V → Hp → Reg → RP → (V → Hp → Prop) → Prop := fun vs H F T' P => ∃ (k r : Addr) (n : Int) (row c : List Int) (s : Rows), vs = [.ref k, .int n, .ref r] ∧ S.at_ k c s F H ∧ RowAt K H F r row ∧ rowOf s n = some row ∧ (∀ x ∈ c, 0 ≤ x ∧ x < row.length) ∧ row.length ≤ 6 ∧ Wide s row.length ∧
  T' = S.at_ k c (s.filter fun p => decide (¬ p.1 = n)) ∧ P = fun v _ => v = .non
def RKNumbers : List V → Hp → Reg → RP → (V → Hp → Prop) → Prop := fun vs H F T' P => ∃ (k : Addr) (c : List Int) (s : Rows), vs = [.ref k] ∧ S.at_ k c s F H ∧ T' = S.at_ k c s ∧ P = fun v N => ∃ p ns, v = .ref p ∧ N p = some (.lst (ns.map V.int)) ∧ InOrd ahead c s ns
def RKCovers : List V → Hp → Reg → RP → (V → Hp → Prop) → Prop := fun vs H F T' P => ∃ (k b : Addr) (c : List Int) (s : Rows) (ws : List V) (ts : List Tri), vs = [.ref k, .ref b] ∧ S.at_ k c s F H ∧ SqL K H b ws ∧ Wt K H ws ts ∧ ts.length ≤ 20 ∧ T' = S.at_ k c s ∧ P = fun v _ => v = .bl (ts.all fun t => decide (t.c ∈ c))
/-- a new one -/
def spKInit : Sp := fun vs H Q _ => ∃ (x dx ct : Addr) (c : List Int), vs = [.ref x, .ref ct] ∧ H x = some (.ins S.C dx []) ∧ H dx = some (.own x) ∧ dx ≠ x ∧ H ct = some (.tup (c.map V.int)) ∧ c ≠ [] ∧ c.length ≤ 6 ∧
  ∀ (H' : Hp) (F' : Reg), (∀ a o, H a = some o → a ≠ x → a ≠ dx → H' a = some o) → (∀ a, H a ≠ none → H' a ≠ none) → S.at_ x c [] F' H' → (∀ a, F' a → a = x ∨ a = dx ∨ H a = none) → Q .non H'
end
def Emp : RP := fun F _ => ∀ a, ¬ F a
theorem emp_regn : Regn Emp := ⟨fun F _ _ t _ => t, fun F H a t z => (t a z).elim⟩
section
variable {T U : RP} {F0 B F2 : Reg} {L H : Hp} {K : PySem.W.Frag} {S : KS K} {σ : L2.St} {ta : TE} {t : TA} {D : Ends} {tz : TS}
theorem two_emp {F : Reg} (R : Regn T) (h : Two T Emp F H) : T F H := by
  obtain ⟨F1, F2, t, u, d, f⟩ := h
  have e : F1 = F := by
    funext a
    refine propext ⟨fun z => (f a).mpr (.inl z), fun z => ((f a).mp z).elim id fun q => (u a q).elim⟩
  rw [← e]
  exact t
theorem start_w (h : Ex L H) : Wld Emp F0 (fun _ => False) L H := ⟨fun _ => False, fun _ z => z, h, fun _ z => z.elim, fun _ z => z.elim, fun _ z => z.elim⟩
/-- what is known becomes a region's -/
theorem Wld.own (R : Regn T) (SU : Regn U) (w : Wld T F0 B L H) (u : U F2 L) (n : ∀ a, F2 a → ¬ B a) : Wld (Two T U) F0 B (Out F2 L) H := by
  obtain ⟨F, t, x, d, b, f⟩ := w
  refine ⟨fun a => F a ∨ F2 a, ⟨F, F2, t, SU.ex u x, fun a z1 z2 => ?_, fun a => Iff.rfl⟩, out_ex.trans x, fun a z => ?_, b, fun a z => z.elim (f a) fun z => .inr (n a z)⟩
  · obtain ⟨o, ho, _⟩ := SU.dom F2 L a u z2
    rw [d a z1] at ho
    cases ho
  · rcases z with z | z
    · exact fresh_back out_ex (d a z)
    · exact out_no z
/-- x = Kept(t) -/
theorem vw_make {i : Nat} {sp : Sp} {E : XK} {ct : Addr} {c : List Int} (R : Regn T) (hc : L ct = some (.tup (c.map V.int))) (h : EvA t σ L [.ref ct]) (h0 : c ≠ []) (h6 : c.length ≤ 6) (he : sp = spKInit S)
    (k : ∀ x, L x = none → SvW tz D (σ.set i (some (.ref x))) (Two T (S.at_ x c [])) F0 B L) : SvW (tSeq (tAsg (tMake S.C sp [] E t) (gName i)) tz) D σ T F0 B L := fun H w => h H w.lx _ fun H2 e x dx nx nd ne => by
  subst he
  have w2 := w.ext R e
  have e3 : Ex H2 (upd (upd H2 dx (.own x)) x (.ins S.C dx [])) := fun a o ha => by
    rw [upd_ne (ne_of_none ha nx), upd_ne (ne_of_none ha nd)]
    exact ha
  rw [List.append_nil]
  refine ⟨x, dx, ct, c, rfl, upd_same, by rw [upd_ne ne, upd_same], ne, e3 _ _ (w2.lx _ _ hc), h0, h6, fun H' F' kp dm at' gr => ⟨rfl, ?_⟩⟩
  have keep : Ex H2 H' := fun a o ha => kp a o (e3 a o ha) (ne_of_none ha nx) (ne_of_none ha nd)
  have new : ∀ a, F' a → H2 a = none := fun a z => by
    rcases gr a z with q | q | q
    · rw [q]
      exact nx
    · rw [q]
      exact nd
    · exact fresh_back e3 q
  refine k x (fresh_back w2.lx nx) H' ?_
  obtain ⟨F, tt, xx, d, b, f⟩ := w2
  refine ⟨fun a => F a ∨ F' a, ⟨F, F', R.ex tt keep, at', fun a z1 z2 => ?_, fun a => Iff.rfl⟩, xx.trans keep, fun a z => ?_, fun a z => ex_dm keep a (b a z), fun a z => z.elim (f a) fun z => .inr fun y => b a y (new a z)⟩
  · obtain ⟨o, ho, _⟩ := R.dom F H2 a tt z1
    rw [new a z2] at ho
    cases ho
  · rcases z with z | z
    · exact d a z
    · exact fresh_back xx (new a z)
end
end Wy

set_option Elab.async false
set_option linter.all false
set_option maxRecDepth 100000
set_option maxHeartbeats 4000000
/-! Wl: laws over regions: a beginning, what is new, what is read. -/
namespace Wy
open PySem PySem.Spec PyProof.Rows L2 Evl
section
variable {T T' T'' U A B C : RP} {F0 B0 F2 : Reg} {L L' H H' N : Hp} {K : PySem.W.Frag} {σ : L2.St} {ta tb te tl : TE} {t u : TT} {x y z v : V} {D : Ends} {tu tw tz ts : TS} {P P' : V → Hp → Prop}
theorem rv_mono {r : R2} (e : Ex H H') (h : RV r x y H v) : RV r x y H' v := fun H1 a Q q => h H1 (e.trans a) Q q
theorem et_b {b b' : Bool} (h : EvT t σ H b) (e : b = b') : EvT t σ H b' := e ▸ h
theorem sv_ifsetI {p : Prop} [Decidable p] {i : Nat} {m : Int} (h : EvT t σ L (decide p)) (h1 : p → ∃ n : Int, Ev te σ L (.int n)) (h2 : σ.set i (some (.int m)) = σ) (k : ∀ n : Int, Sv tz D (σ.set i (some (.int n))) L) : Sv (tSeq (tIfS t (tAsg te (gName i)) tNext) tz) D σ L := by
  by_cases q : p
  · obtain ⟨n, hn⟩ := h1 q
    refine sv_ifset (p := p) (v := .int n) (w := .int m) h (fun _ => hn) (fun c => (c q).elim) ?_
    rw [if_pos q]
    exact k n
  · refine sv_ifset (p := p) (v := .int 0) (w := .int m) h (fun c => (q c).elim) (fun _ => h2) ?_
    rw [if_neg q]
    exact k m
theorem ev_opL {r : R2} {xs : List V} (ha : EvL ta σ L xs) (hb : Ev tb σ L y) (hr : ∀ p H2, Ex L H2 → H2 p = some (.lst xs) → RV r (.ref p) y H2 z) : Ev (tOp r ta tb) σ L z := fun H1 e Q q =>
  ha H1 e _ fun p H2 n e2 hp => hb H2 (e.trans e2) _ fun H3 e3 => hr p H3 ((e.trans e2).trans e3) (e3 _ _ hp) H3 (Ex.refl _) Q fun H4 e4 => q H4 ((e2.trans e3).trans e4)
theorem sv_w (h : SvW ts D σ Emp (fun _ => False) (fun _ => False) L) : Sv ts D σ L := fun H1 e => h H1 (start_w e)
theorem vw_imp (i : ∀ F H, T F H → T' F H) (h : SvW ts D σ T' F0 B0 L) : SvW ts D σ T F0 B0 L := fun H w => h H (w.imp fun F t => i F H t)
theorem vw_ex {α : Type} {TT : α → RP} (h : ∀ x, SvW ts D σ (TT x) F0 B0 L) : SvW ts D σ (fun F H => ∃ x, TT x F H) F0 B0 L := fun H ⟨F, ⟨x, t⟩, r⟩ => h x H ⟨F, t, r⟩
theorem vw_and {p : Prop} (h : p → SvW ts D σ T F0 B0 L) : SvW ts D σ (fun F H => p ∧ T F H) F0 B0 L := fun H ⟨F, ⟨q, t⟩, r⟩ => h q H ⟨F, t, r⟩
theorem two_empl {F : Reg} (R : Regn T) (h : Two Emp T F H) : T F H := two_emp R (two_swap h)
theorem two_assoc {F : Reg} (h : Two (Two A B) C F H) : Two A (Two B C) F H := by
  obtain ⟨F1, F3, ⟨Fa, Fb, a, b, d1, f1⟩, c, d, f⟩ := h
  refine ⟨Fa, fun x => Fb x ∨ F3 x, a, ⟨Fb, F3, b, c, fun x p q => d x ((f1 x).mpr (.inr p)) q, fun x => Iff.rfl⟩, fun x p q => q.elim (d1 x p) (d x ((f1 x).mpr (.inl p))), fun x => ?_⟩
  rw [f x, f1 x, or_assoc]
theorem two_assoc' {F : Reg} (h : Two A (Two B C) F H) : Two (Two A B) C F H := by
  obtain ⟨Fa, F2, a, ⟨Fb, Fc, b, c, d2, f2⟩, d, f⟩ := h
  refine ⟨fun x => Fa x ∨ Fb x, Fc, ⟨Fa, Fb, a, b, fun x p q => d x p ((f2 x).mpr (.inl q)), fun x => Iff.rfl⟩, c, fun x p q => p.elim (fun p => d x p ((f2 x).mpr (.inr q))) fun p => d2 x p q, fun x => ?_⟩
  rw [f x, f2 x, or_assoc]
theorem two_imp {F : Reg} (i : ∀ F, A F H → B F H) (h : Two A C F H) : Two B C F H := let ⟨F1, F2, a, c, r⟩ := h; ⟨F1, F2, i F1 a, c, r⟩
theorem two_impr {F : Reg} (i : ∀ F, A F H → B F H) (h : Two C A F H) : Two C B F H := let ⟨F1, F2, c, a, r⟩ := h; ⟨F1, F2, c, i F2 a, r⟩
theorem spw_imp {sp : Sp} {vs : List V} (i : ∀ F H, T F H → A F H) (j : ∀ F H, B F H → T' F H) (h : SpWP sp vs A B F0 B0 L P) : SpWP sp vs T T' F0 B0 L P := fun H w Q q E =>
  h H (w.imp fun F t => i F H t) Q (fun v N H' d p w' => q v N H' d p (w'.imp fun F t => j F H' t)) E
/-- d = {} -/
theorem vw_newD {i : Nat} (R : Regn T) (k : ∀ d, L d = none → SvW tz D (σ.set i (some (.ref d))) (Two T (DtR d [])) F0 B0 L) : SvW (tSeq (tAsg tDNewK (gName i)) tz) D σ T F0 B0 L := fun H w d nd => by
  refine k d (fresh_back w.lx nd) _ ?_
  have e : Ex H (upd H d (.dK [])) := Ex.new nd
  obtain ⟨F, t, x, dd, b, f⟩ := w
  refine ⟨fun a => F a ∨ a = d, ⟨F, fun a => a = d, R.ex t e, ⟨[], upd_same, .nil, rfl, fun a z => ⟨.dK [], by rw [show a = d from z]; exact upd_same, fun ⟨_, q⟩ => by cases q⟩⟩, fun a z1 z2 => ?_, fun a => Iff.rfl⟩, x.trans e, fun a z => ?_, fun a z => ex_dm e a (b a z), fun a z => z.elim (f a) fun z => .inr fun y => b a y (by rw [z]; exact nd)⟩
  · obtain ⟨o, ho, _⟩ := R.dom F H a t z1
    rw [z2, nd] at ho
    cases ho
  · rcases z with z | z
    · exact dd a z
    · rw [z]
      exact fresh_back x nd
/-- o.f -/
theorem ev_fld {C a dx : Addr} {f : Str} {fs : List (Str × V)} (h : Ev ta σ H (.ref a)) (hi : H a = some (.ins C dx fs)) (hc : Cls K C) (hn : NoAttr K C f) (hl : fs.lookup f = some v) : Ev (tFld K ta f) σ H v := fun H1 e Q q =>
  h H1 e _ fun H2 e2 => ⟨a, C, dx, fs, v, rfl, (e.trans e2) _ _ hi, hc, hn, hl, q H2 e2⟩
theorem ev_neg {i : Int} (h : Ev te σ H (.int i)) : Ev (tUn (rU fun i => .int (-i)) te) σ H (.int (-i)) := fun H1 e Q q => h H1 e _ fun H2 e2 => ⟨i, rfl, q H2 e2⟩
/-- arguments, the first one out of the region -/
def EaW (ta : TA) (σ : L2.St) (T T' : RP) (F0 B : Reg) (L : Hp) (P : List V → Hp → Prop) : Prop := ∀ H, Wld T F0 B L H → ∀ Q : List V → Hp → Prop, (∀ vs N H', (∀ a, N a ≠ none → L a = none ∧ ¬ B a) → P vs N → Wld T' F0 B (Unn N L) H' → Q vs H') → ta σ H Q
theorem eaw_cons {tr : TA} {vs : List V} (R : Regn T') (h : EvW te σ T T' F0 B0 L P) (hr : EvA tr σ L vs) : EaW (tCons te tr) σ T T' F0 B0 L fun ws N => ∃ v, ws = v :: vs ∧ P v N := fun H w Q q =>
  h H w _ fun v N H2 d p w2 => hr H2 (unn_r.trans w2.lx) _ fun H3 e3 => q (v :: vs) N H3 d ⟨v, rfl, p⟩ (w2.ext R e3)
theorem ew_clR {sp : Sp} {E : XK} {ta : TA} {PA : List V → Hp → Prop} (R : Regn T') (h : EaW ta σ T T' F0 B0 L PA) (hs : ∀ vs N H', (∀ a, N a ≠ none → L a = none ∧ ¬ B0 a) → PA vs N → Wld T' F0 B0 (Unn N L) H' → SpV sp vs H' v) : EvW (tCall sp [] E ta) σ T T' F0 B0 L fun v' _ => v' = v := fun H w Q q =>
  h H w _ fun vs N H2 d p w2 => by
    rw [List.append_nil]
    exact hs vs N H2 d p w2 H2 (Ex.refl H2) Q (fun H3 e3 => q v N H3 d rfl (w2.ext R e3)) E
theorem etw_or {b1 b2 : Bool} (h1 : EtW t σ T T' F0 B0 L b1) (h0 : b1 = false) (h2 : ∀ N, (∀ a, N a ≠ none → L a = none ∧ ¬ B0 a) → EtW u σ T' T'' F0 B0 (Unn N L) b2) : EtW (tOr t u) σ T T'' F0 B0 L b2 := fun H w Q q => h1 H w _ fun N H2 d w2 => by
  show (if b1 = true then Q true H2 else u σ H2 Q)
  rw [h0, if_neg (by decide)]
  refine h2 N d H2 w2 Q fun N' H3 d' w3 => q (Unn N' N) H3 (fun a z => ?_) (w3.weak fun a o h => ?_)
  · rcases unn_none z with z | z
    · exact d a z
    · exact ⟨fresh_back unn_r (d' a z).1, (d' a z).2⟩
  · have g : (match L a with | some o => some o | none => (match N a with | some o => some o | none => N' a)) = some o := h
    show (match (match L a with | some o => some o | none => N a) with | some o => some o | none => N' a) = some o
    cases k : L a with
    | some l =>
      rw [k] at g
      exact g
    | none =>
      rw [k] at g
      exact g
theorem etw_of {b : Bool} (R : Regn T) (h : EvT t σ L b) : EtW t σ T T F0 B0 L b := fun H w Q q => h H w.lx Q fun H2 e => q nonew H2 (fun a z => (z rfl).elim) ((w.ext R e).weak unn_no)
/-- o.m(), its promise over the region -/
theorem ew_mt0 {C : Addr} {m : Str} {sp : Sp} {E : XK} {a : Addr} (R : Regn T) (h : Ev ta σ L (.ref a)) (hi : ∀ H, Wld T F0 B0 L H → ∃ dx fs, H a = some (.ins C dx fs) ∧ fs.lookup m = none) (hs : SpWP sp [.ref a] T T' F0 B0 L P) : EvW (tMeth C m sp [] E ta tNil) σ T T' F0 B0 L P := ew_mt R h hi ea_nil hs
theorem vw_whenW {b : Bool} (h : EtW t σ T T' F0 B0 L b) (hb : b = false) (k : ∀ N, (∀ a, N a ≠ none → L a = none ∧ ¬ B0 a) → SvW tz D σ T' F0 B0 (Unn N L)) : SvW (tSeq (tIfS t tu tNext) tz) D σ T F0 B0 L := vw_ifW h (fun N d e => by rw [hb] at e; cases e) fun N d _ => k N d
theorem ew_and' {v : V} (h1 : EvW ta σ T T' F0 B0 L fun v _ => v = .bl true) (h2 : ∀ N, (∀ a, N a ≠ none → L a = none ∧ ¬ B0 a) → EvW tb σ T' T'' F0 B0 (Unn N L) fun v' _ => v' = v) : EvW (tAndV ta tb) σ T T'' F0 B0 L fun v' _ => v' = v := fun H w Q q => h1 H w _ fun v N H' d p w' => ⟨true, p, by
  show tb σ H' Q
  exact h2 N d H' w' Q fun v N' H2 d' p' w2 => q v nonew H2 (fun a z => (z rfl).elim) p' (w2.weak (unn_no.trans (unn_r.trans unn_r)))⟩
theorem SpWP.weak {sp : Sp} {vs : List V} (h : SpWP sp vs T T' F0 B0 L P) : SpWP sp vs T T' F0 B0 L P := h
end
end Wy

set_option Elab.async false
set_option linter.all false
set_option maxRecDepth 100000
set_option maxHeartbeats 4000000
/-! Wm: the ends of a wish, stretches. -/
namespace Wy
open PySem PySem.Spec PyProof.Rows L2 Evl
theorem maxL_snoc : ∀ (l : List Int) (x : Int), maxL (l ++ [x]) = if l = [] then x else max (maxL l) x
  | [], x => rfl
  | [a], x => rfl
  | a :: b :: r, x => by
    rw [if_neg (by simp)]
    show max a (maxL ((b :: r) ++ [x])) = max (max a (maxL (b :: r))) x
    rw [maxL_snoc (b :: r) x, if_neg (by simp)]
    omega
theorem minL_snoc : ∀ (l : List Int) (x : Int), minL (l ++ [x]) = if l = [] then x else min (minL l) x
  | [], x => rfl
  | [a], x => rfl
  | a :: b :: r, x => by
    rw [if_neg (by simp)]
    show min a (minL ((b :: r) ++ [x])) = min (min a (minL (b :: r))) x
    rw [minL_snoc (b :: r) x, if_neg (by simp)]
    omega
theorem lows_snoc (c : Int) (ts : List Tri) (t : Tri) : lowsM c (ts ++ [t]) = lowsM c ts ++ if t.c = c ∧ ¬ t.lo = none then [t.lo.getD 0] else [] := by
  unfold lowsM
  rw [List.filter_append, List.map_append]
  congr 1
  by_cases h : t.c = c ∧ ¬ t.lo = none
  · rw [if_pos h, List.filter_cons_of_pos (p := fun t : Tri => decide (t.c = c ∧ ¬ t.lo = none)) (decide_eq_true h)]
    rfl
  · rw [if_neg h, List.filter_cons_of_neg (p := fun t : Tri => decide (t.c = c ∧ ¬ t.lo = none)) (by rw [decide_eq_false h]; decide)]
    rfl
theorem highs_snoc (c : Int) (ts : List Tri) (t : Tri) : highsM c (ts ++ [t]) = highsM c ts ++ if t.c = c ∧ ¬ t.hi = none then [t.hi.getD 0] else [] := by
  unfold highsM
  rw [List.filter_append, List.map_append]
  congr 1
  by_cases h : t.c = c ∧ ¬ t.hi = none
  · rw [if_pos h, List.filter_cons_of_pos (p := fun t : Tri => decide (t.c = c ∧ ¬ t.hi = none)) (decide_eq_true h)]
    rfl
  · rw [if_neg h, List.filter_cons_of_neg (p := fun t : Tri => decide (t.c = c ∧ ¬ t.hi = none)) (by rw [decide_eq_false h]; decide)]
    rfl
theorem some_get {o : Option Int} (h : ¬ o = none) : some (o.getD 0) = o := by
  cases o with
  | none => exact (h rfl).elim
  | some i => rfl
theorem endLo_nil {c : Int} {ts : List Tri} (h : lowsM c ts = []) : endLo c ts = none := by
  unfold endLo
  rw [h]
  rfl
theorem endLo_some {c : Int} {ts : List Tri} (h : ¬ lowsM c ts = []) : endLo c ts = some (maxL (lowsM c ts)) := by
  unfold endLo
  exact if_pos (List.length_pos_iff.mpr h)
theorem endLo_snoc (c : Int) (ts : List Tri) (t : Tri) : endLo c (ts ++ [t]) = if t.c = c ∧ ¬ t.lo = none ∧ (endLo c ts = none ∨ (endLo c ts).getD 0 < t.lo.getD 0) then t.lo else endLo c ts := by
  by_cases h : t.c = c ∧ ¬ t.lo = none
  · have e : lowsM c (ts ++ [t]) = lowsM c ts ++ [t.lo.getD 0] := by rw [lows_snoc, if_pos h]
    have en : ¬ lowsM c (ts ++ [t]) = [] := by
      rw [e]
      simp
    rw [endLo_some en, e, maxL_snoc]
    by_cases hz : lowsM c ts = []
    · rw [if_pos hz, endLo_nil hz, if_pos ⟨h.1, h.2, .inl rfl⟩]
      exact some_get h.2
    · rw [if_neg hz, endLo_some hz]
      have eg : (some (maxL (lowsM c ts))).getD 0 = maxL (lowsM c ts) := rfl
      rw [eg]
      by_cases hl : maxL (lowsM c ts) < t.lo.getD 0
      · rw [if_pos ⟨h.1, h.2, .inr hl⟩, ← some_get h.2]
        congr 1
        have e2 : (some (t.lo.getD 0)).getD 0 = t.lo.getD 0 := rfl
        rw [e2]
        omega
      · rw [if_neg (fun k => k.2.2.elim (fun k => nomatch k) hl)]
        congr 1
        omega
  · have e : lowsM c (ts ++ [t]) = lowsM c ts := by rw [lows_snoc, if_neg h, List.append_nil]
    rw [if_neg fun k => h ⟨k.1, k.2.1⟩]
    unfold endLo
    rw [e]
theorem endHi_nil {c : Int} {ts : List Tri} (h : highsM c ts = []) : endHi c ts = none := by
  unfold endHi
  rw [h]
  rfl
theorem endHi_some {c : Int} {ts : List Tri} (h : ¬ highsM c ts = []) : endHi c ts = some (minL (highsM c ts)) := by
  unfold endHi
  exact if_pos (List.length_pos_iff.mpr h)
theorem endHi_snoc (c : Int) (ts : List Tri) (t : Tri) : endHi c (ts ++ [t]) = if t.c = c ∧ ¬ t.hi = none ∧ (endHi c ts = none ∨ t.hi.getD 0 < (endHi c ts).getD 0) then t.hi else endHi c ts := by
  by_cases h : t.c = c ∧ ¬ t.hi = none
  · have e : highsM c (ts ++ [t]) = highsM c ts ++ [t.hi.getD 0] := by rw [highs_snoc, if_pos h]
    have en : ¬ highsM c (ts ++ [t]) = [] := by
      rw [e]
      simp
    rw [endHi_some en, e, minL_snoc]
    by_cases hz : highsM c ts = []
    · rw [if_pos hz, endHi_nil hz, if_pos ⟨h.1, h.2, .inl rfl⟩]
      exact some_get h.2
    · rw [if_neg hz, endHi_some hz]
      have eg : (some (minL (highsM c ts))).getD 0 = minL (highsM c ts) := rfl
      rw [eg]
      by_cases hl : t.hi.getD 0 < minL (highsM c ts)
      · rw [if_pos ⟨h.1, h.2, .inr hl⟩, ← some_get h.2]
        congr 1
        have e2 : (some (t.hi.getD 0)).getD 0 = t.hi.getD 0 := rfl
        rw [e2]
        omega
      · rw [if_neg (fun k => k.2.2.elim (fun k => nomatch k) hl)]
        congr 1
        omega
  · have e : highsM c (ts ++ [t]) = highsM c ts := by rw [highs_snoc, if_neg h, List.append_nil]
    rw [if_neg fun k => h ⟨k.1, k.2.1⟩]
    unfold endHi
    rw [e]
/-- whether a value lies between two ends -/
def betw (v : Int) (lo hi : Option Int) : Bool := decide (¬ (¬ lo = none ∧ v < lo.getD 0) ∧ (hi = none ∨ v ≤ hi.getD 0))
/-- whether a row lies in the stretch of an order -/
def inS : List Int → List Int → List Tri → Bool
  | [], _, _ => true
  | c :: cs, r, ts => if endLo c ts = none ∨ ¬ endLo c ts = endHi c ts then betw (r.getD c.toNat 0) (endLo c ts) (endHi c ts) else if r.getD c.toNat 0 = (endLo c ts).getD 0 then inS cs r ts else false
theorem take_snoc {α : Type} {l : List α} {i : Nat} {x : α} (h : l[i]? = some x) : l.take (i + 1) = l.take i ++ [x] := by
  rw [List.take_add_one, h]
  rfl
section
variable {σ : L2.St} {H H' L : Hp} {K : PySem.W.Frag} {ta tb te tl : TE} {t u : TT} {x y z v : V} {D : Ends} {tu tw tz ts : TS}
theorem sv_ifset' {p : Prop} [Decidable p] {i : Nat} {v w : V} (h : EvT t σ H (decide p)) (h1 : p → Ev te σ H v) (h2 : ¬ p → σ.set i (some w) = σ) (k : Sv tNext D (σ.set i (some (if p then v else w))) H) :
    Sv (tIfS t (tAsg te (gName i)) tNext) D σ H := fun H1 e => h H1 e _ fun H2 e2 => by
  by_cases q : p
  · rw [decide_eq_true q]
    rw [if_pos q] at k
    exact h1 q H2 (e.trans e2) _ fun H3 e3 => k H3 ((e.trans e2).trans e3)
  · rw [decide_eq_false q]
    rw [if_neg q, h2 q] at k
    exact k H2 (e.trans e2)
theorem ov_inj : ∀ {a b : Option Int}, ov a = ov b → a = b
  | none, none, _ => rfl
  | some _, some _, h => by rw [V.int.inj h]
  | none, some _, h => nomatch h
  | some _, none, h => nomatch h
theorem rp_neO {a b : Option Int} : RV rNe (ov a) (ov b) H (.bl (decide (¬ a = b))) := by
  have e : (.bl (decide (¬ a = b)) : V) = .bl (!decide (ov a = ov b)) := by
    by_cases c : a = b
    · rw [decide_eq_false (fun k => k c), decide_eq_true (show ov a = ov b by rw [c])]
      rfl
    · rw [decide_eq_true c, decide_eq_false (fun k => c (ov_inj k))]
      rfl
  rw [e]
  exact rv_ne (by cases a <;> cases b <;> rfl)
theorem ov_ite {p : Prop} [Decidable p] (a b : Option Int) : (if p then ov a else ov b) = ov (if p then a else b) := by split <;> rfl
end
end Wy

set_option Elab.async false
set_option linter.all false
set_option maxRecDepth 100000
set_option maxHeartbeats 4000000
/-! Wh: numbers in an order, rows by their places, what a law holds back. -/
namespace Wy
open PySem PySem.Spec PyProof.Rows L2 Evl
/-! ### ahead -/
theorem ahead_irr : ∀ a : List Int, ahead a a = false
  | [] => rfl
  | x :: a => by
    show (if x = x then ahead a a else decide (x < x)) = false
    rw [if_pos rfl]
    exact ahead_irr a
theorem ahead_tr : ∀ {a b c : List Int}, ahead a b = true → ahead b c = true → ahead a c = true
  | [], [], _, h, _ => nomatch h
  | [], _ :: _, [], _, h => nomatch h
  | [], _ :: _, _ :: _, _, _ => rfl
  | _ :: _, [], _, h, _ => nomatch h
  | _ :: _, _ :: _, [], _, h => nomatch h
  | x :: a, y :: b, z :: c, h1, h2 => by
    have h1' : (if x = y then ahead a b else decide (x < y)) = true := h1
    have h2' : (if y = z then ahead b c else decide (y < z)) = true := h2
    show (if x = z then ahead a c else decide (x < z)) = true
    by_cases c1 : x = y
    · rw [if_pos c1] at h1'
      by_cases c2 : y = z
      · rw [if_pos c2] at h2'
        rw [if_pos (c1.trans c2)]
        exact ahead_tr h1' h2'
      · rw [if_neg c2] at h2'
        rw [if_neg (by omega)]
        have := of_decide_eq_true h2'
        exact decide_eq_true (by omega)
    · rw [if_neg c1] at h1'
      have k1 := of_decide_eq_true h1'
      by_cases c2 : y = z
      · rw [if_neg (by omega)]
        exact decide_eq_true (by omega)
      · rw [if_neg c2] at h2'
        have := of_decide_eq_true h2'
        rw [if_neg (by omega)]
        exact decide_eq_true (by omega)
/-- numbers of rows that are there, each ahead of the next -/
def Asc (cols : List Int) (there : Rows) (ns : List Int) : Prop := (∀ n ∈ ns, ∃ r, rowOf there n = some r) ∧ ∀ (i : Nat) a b, ns[i]? = some a → ns[i + 1]? = some b → ahead (ent cols there a) (ent cols there b) = true
theorem InOrd.asc {cols : List Int} {there : Rows} {ns : List Int} (h : InOrd ahead cols there ns) : Asc cols there ns := h.2
theorem asc_far {cols : List Int} {there : Rows} {ns : List Int} (h : Asc cols there ns) : ∀ (k i : Nat) a b, ns[i]? = some a → ns[i + k + 1]? = some b → ahead (ent cols there a) (ent cols there b) = true
  | 0, i, a, b, ha, hb => h.2 i a b ha hb
  | k + 1, i, a, b, ha, hb => by
    have hl := (List.getElem?_eq_some_iff.mp hb).1
    have hm : ns[i + k + 1]? = some (ns[i + k + 1]'(by omega)) := List.getElem?_eq_getElem _
    exact ahead_tr (asc_far h k i a _ ha hm) (h.2 (i + k + 1) _ b hm hb)
theorem asc_nodup {cols : List Int} {there : Rows} {ns : List Int} (h : Asc cols there ns) : ns.Nodup := by
  refine List.pairwise_iff_getElem.mpr fun i j hi hj hij e => ?_
  obtain ⟨k, rfl⟩ : ∃ k, j = i + k + 1 := ⟨j - i - 1, by omega⟩
  have g := asc_far h k i _ _ (List.getElem?_eq_getElem hi) (List.getElem?_eq_getElem hj)
  rw [e, ahead_irr] at g
  cases g
theorem sorted_due {ns ys due : List Int} (hn : ns.Nodup) (hp : ys.Perm ns) (hs : ys.Pairwise (· ≤ ·)) (hd : due.Pairwise (· < ·)) (hm : ∀ n, n ∈ ns ↔ n ∈ due) : ys = due := by
  have dn : due.Nodup := hd.imp fun h e => by omega
  have p2 : ns.Perm due := (List.perm_ext_iff_of_nodup hn dn).mpr hm
  exact List.Perm.eq_of_pairwise (fun a b _ _ h1 h2 => by omega) hs (hd.imp fun h => by omega) (hp.trans p2)
/-! ### rows by their places -/
def numd (rss : List (List Int)) : Rows := (List.range rss.length).map fun i : Nat => ((i : Int), rss.getD i [])
theorem rowOf_rng (g : Nat → List Int) : ∀ (k : Nat) (n : Int), rowOf ((List.range k).map fun i : Nat => ((i : Int), g i)) n = if 0 ≤ n ∧ n < k then some (g n.toNat) else none
  | 0, n => by
    rw [if_neg (by omega)]
    rfl
  | k + 1, n => by
    rw [List.range_succ, List.map_append, List.map_singleton, rowOf_snoc, rowOf_rng g k n]
    by_cases h : 0 ≤ n ∧ n < k
    · rw [if_pos h]
      show some (g n.toNat) = _
      rw [if_pos (by omega)]
    · rw [if_neg h]
      show (if (k : Int) = n then some (g k) else none) = _
      by_cases e : (k : Int) = n
      · rw [if_pos e, if_pos (by omega), ← e]
        rfl
      · rw [if_neg e, if_neg (by omega)]
theorem rowOf_numd (rss : List (List Int)) (n : Int) : rowOf (numd rss) n = if 0 ≤ n ∧ n < rss.length then some (rss.getD n.toNat []) else none := rowOf_rng _ _ _
theorem numd_len (rss : List (List Int)) : (numd rss).length = rss.length := by
  unfold numd
  rw [List.length_map, List.length_range]
theorem numd_snoc (rss : List (List Int)) (r : List Int) : numd (rss ++ [r]) = numd rss ++ [((rss.length : Int), r)] := by
  unfold numd
  rw [List.length_append, List.length_singleton, List.range_succ, List.map_append]
  refine congr (congrArg _ (List.map_congr_left fun i hi => ?_)) ?_
  · have := List.mem_range.mp hi
    rw [List.getD_eq_getElem?_getD, List.getD_eq_getElem?_getD, List.getElem?_append_left this]
  · show [((rss.length : Int), (rss ++ [r]).getD rss.length [])] = _
    rw [List.getD_eq_getElem?_getD, List.getElem?_append_right (Nat.le_refl _), Nat.sub_self]
    rfl
theorem numd_take {rss : List (List Int)} {i : Nat} {r : List Int} (h : rss[i]? = some r) : numd (rss.take (i + 1)) = numd (rss.take i) ++ [((i : Int), r)] := by
  have hi := (List.getElem?_eq_some_iff.mp h).1
  rw [take_snoc h, numd_snoc, List.length_take, Nat.min_eq_left (by omega)]
theorem numd_wide {rss : List (List Int)} {w : Nat} (h : ∀ r ∈ rss, r.length = w) : Wide (numd rss) w := fun n r hr => by
  rw [rowOf_numd] at hr
  split at hr
  · rename_i hb
    rw [← Option.some.inj hr, List.getD_eq_getElem?_getD, List.getElem?_eq_getElem (by omega)]
    exact h _ (List.getElem_mem _)
  · cases hr
/-- the numbers of those in a stretch -/
def dueM (c : List Int) (rss : List (List Int)) (ts : List Tri) : List Int := ((List.range rss.length).filter fun i => inS c (rss.getD i []) ts).map fun i : Nat => (i : Int)
theorem due_lt (c : List Int) (rss : List (List Int)) (ts : List Tri) : (dueM c rss ts).Pairwise (· < ·) := by
  unfold dueM
  refine List.Pairwise.map _ (fun a b h => Int.ofNat_lt.mpr h) (List.Pairwise.filter _ List.pairwise_lt_range)
theorem due_mem {c : List Int} {rss : List (List Int)} {ts : List Tri} {n : Int} : n ∈ dueM c rss ts ↔ ∃ r, rowOf (numd rss) n = some r ∧ inS c r ts = true := by
  unfold dueM
  rw [rowOf_numd]
  constructor
  · intro h
    obtain ⟨i, hi, rfl⟩ := List.mem_map.mp h
    obtain ⟨h1, h2⟩ := List.mem_filter.mp hi
    have := List.mem_range.mp h1
    exact ⟨_, if_pos (by omega), h2⟩
  · rintro ⟨r, h1, h2⟩
    split at h1
    · rename_i hb
      rw [← Option.some.inj h1] at h2
      exact List.mem_map.mpr ⟨n.toNat, List.mem_filter.mpr ⟨List.mem_range.mpr (by omega), h2⟩, by omega⟩
    · cases h1
theorem due_len (c : List Int) (rss : List (List Int)) (ts : List Tri) : (dueM c rss ts).length ≤ rss.length := by
  unfold dueM
  rw [List.length_map]
  have h := List.length_filter_le (fun i => inS c (rss.getD i []) ts) (List.range rss.length)
  rw [List.length_range] at h
  exact h
/-! ### opening and closing with one region -/
section
variable {T T' T'' U : RP} {F F0 B0 : Reg} {L L' H H' N : Hp} {K : PySem.W.Frag} {σ : L2.St} {ta tb te tl : TE} {t u : TT} {x y z v : V} {D : Ends} {tu tw tz ts : TS} {P P' : V → Hp → Prop} {Q : VK}
theorem start_1 (t : T F H) : Wld T F (fun a => H a ≠ none) (Out F H) H := ⟨F, t, out_ex, fun a z => out_no z, fun a z => z, fun a z => .inl z⟩
theorem out_of (e : Ex L H) (d : ∀ a, F a → L a = none) : Ex L (Out F H) := fun a o h => by
  rw [out_at (fun z => by rw [d a z] at h; cases h)]
  exact e a o h
theorem close_1 (R : Regn T) (t : T F H) (q : ∀ (v : V) (N H' : Hp) (F' : Reg), Frm F H H' → T' F' H' → (∀ a, F' a → F a ∨ H a = none) → (∀ a, N a ≠ none → H a = none ∧ ¬ F' a) → Ex N H' → P v N → Q v H')
    (w : Wld T' F (fun a => H a ≠ none) L' H') (keep : Ex (Out F H) L') (p : P v nonew) : Q v H' := by
  obtain ⟨F', t', x, d, b, f⟩ := w
  refine q v nonew H' F' ⟨fun a o h z => ?_, b⟩ t' (fun a z => (f a z).imp id Classical.not_not.mp) (fun a z => (z rfl).elim) nonew_ex p
  have nf : ¬ F a := fun f1 => by
    obtain ⟨o', ho, nt⟩ := R.dom F H a t f1
    rw [h] at ho
    rw [← Option.some.inj ho] at nt
    exact nt (z f1)
  exact x a o (keep a o (by rw [out_at nf]; exact h))
/-! ### more arguments, more tests -/
theorem ean_consN {tr : TA} {vs : List V} (h : EvN te σ H P) (hr : EvA tr σ H vs) : EvAN (tCons te tr) σ H fun ws N => ∃ v, ws = v :: vs ∧ P v N := fun H1 e Q q =>
  h H1 e _ fun v N H2 d p a b => hr H2 (e.trans b) _ fun H3 e3 => q (v :: vs) N H3 d ⟨v, rfl, p⟩ (a.trans e3) (b.trans e3)
theorem en_lst {PA : List V → Hp → Prop} (h : EvAN ta' σ H PA) (hl : ∀ vs N, PA vs N → vs.length ≤ 100000) : EvN (tLst ta') σ H fun v N => ∃ p vs N0, v = .ref p ∧ N p = some (.lst vs) ∧ PA vs N0 ∧ Ex N0 N := fun H1 e Q q =>
  h H1 e _ fun vs N H2 d pa a b => ⟨sz_of (hl vs N pa), fun p hp => q (.ref p) (Unn N (one p (.lst vs))) _ (fun x z => by
    rcases unn_none z with z | z
    · rw [one_ne z]
      exact fresh_back b hp
    · exact d x z) ⟨p, vs, N, rfl, unn_r _ _ one_at, pa, unn_l fun x z => by
      by_cases c : x = p
      · rw [c] at z
        cases k : N p with
        | none => exact (z k).elim
        | some o =>
          rw [a _ _ k] at hp
          cases hp
      · exact Classical.not_not.mp fun g => c (one_ne g)⟩ (unn_ex (one_ex upd_same) (a.trans (Ex.new hp))) (b.trans (Ex.new hp))⟩
end

/-! ### what a law holds back: pairs of lists that are to stay alike -/
/-- ints, tuples of ints, pairs of a way and an int -/
def Fl (H : Hp) (xs : List V) : Prop := ∀ x ∈ xs, ((∃ i, x = .int i) ∨ ∃ (p : Addr) (y : V) (n : Int), x = .ref p ∧ H p = some (.tup [y, .int n]) ∧ (y = .non ∨ ∃ (q : Addr) (ns : List Int), y = .ref q ∧ H q = some (.tup (ns.map V.int)))) ∨ ∃ (p : Addr) (ns : List Int), x = .ref p ∧ H p = some (.tup (ns.map V.int))
theorem fl_ints {H : Hp} (ns : List Int) : Fl H (ns.map V.int) := fun x hx => by
  obtain ⟨n, _, rfl⟩ := List.mem_map.mp hx
  exact .inl (.inl ⟨n, rfl⟩)
theorem Fl.mono {H H' : Hp} {xs : List V} (h : Fl H xs) (k : ∀ a o, H a = some o → Tupo o → H' a = some o) : Fl H' xs := fun x hx => (h x hx).imp (fun h => h.imp id fun ⟨p, y, n, e, hp, hy⟩ => ⟨p, y, n, e, k _ _ hp ⟨_, rfl⟩, hy.imp id fun ⟨q, ns, e2, hq⟩ => ⟨q, ns, e2, k _ _ hq ⟨_, rfl⟩⟩⟩) fun ⟨p, ns, e, hp⟩ => ⟨p, ns, e, k _ _ hp ⟨_, rfl⟩⟩
theorem fl_dp {K : PySem.W.Frag} {H : Hp} : ∀ {xs : List V}, Fl H xs → ∃ ds, DpAll K H xs ds ∧ ∀ d ∈ ds, Shp 2 d
  | [], _ => ⟨[], .nil, fun d h => by cases h⟩
  | x :: xs, h => by
    obtain ⟨ds, h1, h2⟩ := fl_dp (K := K) (xs := xs) fun y hy => h y (List.mem_cons_of_mem _ hy)
    have up : ∀ {d : PyData}, Shp 1 d → Shp 2 d := fun h => ⟨h.1, Nat.le_trans h.2 (by decide)⟩
    rcases h x (List.mem_cons_self ..) with (⟨i, rfl⟩ | ⟨p, y, n, rfl, hp, hy⟩) | ⟨p, ns, rfl, hp⟩
    · exact ⟨_, .cons (.int i) h1, fun d hd => (List.mem_cons.mp hd).elim (fun e => by rw [e]; exact shp_int _) (h2 d)⟩
    · rcases hy with rfl | ⟨q, ns, rfl, hq⟩
      · exact ⟨_, .cons (.tup (st_of hp) (.cons .non (.cons (.int n) .nil))) h1, fun d hd => (List.mem_cons.mp hd).elim (fun e => by
          rw [e]
          refine shp_tuple fun d hd => ?_
          rcases List.mem_cons.mp hd with h | hd
          · rw [h]
            exact shp_none
          · rw [List.mem_singleton.mp hd]
            exact shp_int _) (h2 d)⟩
      · exact ⟨_, .cons (.tup (st_of hp) (.cons (dp_intsT (st_of hq)) (.cons (.int n) .nil))) h1, fun d hd => (List.mem_cons.mp hd).elim (fun e => by
          rw [e]
          refine shp_tuple fun d hd => ?_
          rcases List.mem_cons.mp hd with h | hd
          · rw [h]
            exact shp_tupI _
          · rw [List.mem_singleton.mp hd]
            exact shp_int _) (h2 d)⟩
    · exact ⟨_, .cons (dp_intsT (st_of hp)) h1, fun d hd => (List.mem_cons.mp hd).elim (fun e => by rw [e]; exact up (shp_tupI _)) (h2 d)⟩
structure HeldP where
  q : Addr
  a : Addr
  b : Addr
  xs : List V
def HeldE (ph : Addr) (ps : List HeldP) : RP := fun F H => H ph = some (.lst (ps.map fun p => V.ref p.q)) ∧ F ph ∧ (∀ p ∈ ps, H p.q = some (.lst [.ref p.a, .ref p.b]) ∧ H p.a = some (.lst p.xs) ∧ H p.b = some (.lst p.xs) ∧ F p.q ∧ F p.a ∧ F p.b ∧ (p.q ≠ ph ∧ p.a ≠ ph ∧ p.b ≠ ph) ∧ Fl H p.xs) ∧ ∀ a, F a → ∃ o, H a = some o ∧ ¬ Tupo o
def HeldR (ph : Addr) (n : Nat) : RP := fun F H => ∃ ps : List HeldP, ps.length ≤ n ∧ HeldE ph ps F H
theorem heldE_regn (ph : Addr) (ps : List HeldP) : Regn (HeldE ph ps) where
  loc := fun F H H' ⟨h1, f1, h2, h3⟩ k => ⟨k _ _ h1 (.inl f1), f1, fun p hp => by
    obtain ⟨a, b, c, d, e, f, nn, g⟩ := h2 p hp
    exact ⟨k _ _ a (.inl d), k _ _ b (.inl e), k _ _ c (.inl f), d, e, f, nn, g.mono fun x o hx t => k x o hx (.inr t)⟩, fun a z => by
    obtain ⟨o, ho, nt⟩ := h3 a z
    exact ⟨o, k _ _ ho (.inl z), nt⟩⟩
  dom := fun F H a ⟨_, _, _, h3⟩ z => h3 a z
theorem heldR_regn (ph : Addr) (n : Nat) : Regn (HeldR ph n) := regn_ex fun ps => regn_and (heldE_regn ph ps)
section
variable {T T' T'' U : RP} {F F0 B0 : Reg} {L L' H H' N : Hp} {K : PySem.W.Frag} {σ : L2.St} {ta tb te tl : TE} {t u : TT} {x y z v : V} {D : Ends} {tu tw tz ts : TS} {P P' : V → Hp → Prop} {Q : VK}
/-- held = [] -/
theorem vw_newHeld {i : Nat} (R : Regn T) (k : ∀ d, L d = none → SvW tz D (σ.set i (some (.ref d))) (Two T (HeldE d [])) F0 B0 L) : SvW (tSeq (tAsg (tLst tNil) (gName i)) tz) D σ T F0 B0 L := fun H w => ⟨Nat.zero_le _, fun d nd => by
  refine k d (fresh_back w.lx nd) _ ?_
  have e : Ex H (upd H d (.lst [])) := Ex.new nd
  obtain ⟨F, t, x, dd, b, f⟩ := w
  refine ⟨fun a => F a ∨ a = d, ⟨F, fun a => a = d, R.ex t e, ⟨upd_same, rfl, ⟨fun p hp => (List.not_mem_nil hp).elim, fun a z => ⟨.lst [], by rw [show a = d from z]; exact upd_same, fun ⟨_, q⟩ => by cases q⟩⟩⟩, fun a z1 z2 => ?_, fun a => Iff.rfl⟩, x.trans e, fun a z => ?_, fun a z => ex_dm e a (b a z), fun a z => z.elim (f a) fun z => .inr fun y => b a y (by rw [z]; exact nd)⟩
  · obtain ⟨o, ho, _⟩ := R.dom F H a t z1
    rw [z2, nd] at ho
    cases ho
  · rcases z with z | z
    · exact dd a z
    · rw [z]
      exact fresh_back x nd⟩
/-- held.append([found, list(found)]) -/
theorem vw_held {ph pf : Addr} {ps : List HeldP} {xs : List V} {PX : V → Hp → Prop} (R : Regn T) (ha : ∀ H, Wld (Two T (HeldE ph ps)) F0 B0 L H → Ev ta σ H (.ref ph)) (hf : L pf = some (.lst xs)) (nB : ¬ B0 pf) (hl : ps.length < 100000) (fl : Fl L xs)
    (he : EvN te σ L PX) (hx : ∀ v N, PX v N → ∃ q pg, v = .ref q ∧ N q = some (.lst [.ref pf, .ref pg]) ∧ N pg = some (.lst xs)) (eL : Ex L' L) (nL : L' pf = none)
    (k : ∀ q pg, SvW tz D σ (Two T (HeldE ph (ps ++ [⟨q, pf, pg, xs⟩]))) F0 B0 L') : SvW (tSeq (tDrop (tBM K "list" rAppend ta (tCons te tNil))) tz) D σ (Two T (HeldE ph ps)) F0 B0 L := fun H w => by
  have R2 := R.two (heldE_regn ph ps)
  have get : ∀ {H : Hp}, Wld (Two T (HeldE ph ps)) F0 B0 L H → H ph = some (.lst (ps.map fun p => V.ref p.q)) := fun w => by
    obtain ⟨_, ⟨_, _, _, ⟨h1, _⟩, _⟩, _⟩ := w
    exact h1
  refine ha H w H (Ex.refl H) _ fun H2 e2 => ?_
  have w2 := w.ext R2 e2
  refine ⟨Or.inl ⟨rfl, _, sq_of (get w2)⟩, he H2 w2.lx _ fun v N H3 d p a b => ?_⟩
  have w3 := w2.ext R2 b
  obtain ⟨q, pg, rfl, hq, hg⟩ := hx v N p
  refine ⟨ph, _, _, rfl, rfl, get w3, sz_lt (by rw [List.length_map]; exact hl), k q pg _ ?_⟩
  have nq := d q (by rw [hq]; exact fun z => by cases z)
  have ng := d pg (by rw [hg]; exact fun z => by cases z)
  have hq3 := a _ _ hq
  have hg3 := a _ _ hg
  have nN := fun (a : Addr) (z : N a ≠ none) => d a z
  clear w3 w get
  obtain ⟨F, ⟨F1, F2, t1, ⟨h1, f1, h2, h3⟩, dj, ff⟩, x, dd, bb, f⟩ := w2
  have nFf : ¬ F pf := fun z => by
    rw [dd pf z] at hf
    cases hf
  have hf2 := x _ _ hf
  have hf3 := b _ _ hf2
  have n1 : ∀ {a o}, H3 a = some o → a ≠ ph → (upd H3 ph (.lst (ps.map (fun p => V.ref p.q) ++ [.ref q]))) a = some o := fun h n => by
    rw [upd_ne n]
    exact h
  have dq : q ≠ ph := fun e => by
    rw [e, h1] at nq
    cases nq
  have dg : pg ≠ ph := fun e => by
    rw [e, h1] at ng
    cases ng
  have df : pf ≠ ph := fun e => nFf (by rw [e]; exact (ff ph).mpr (.inr f1))
  have ntup : ∀ {a o}, H2 a = some o → Tupo o → a ≠ ph := fun h ⟨ys, t⟩ e => by
    rw [e, h1, t] at h
    cases h
  refine ⟨fun a => F a ∨ a = pf ∨ a = q ∨ a = pg, ⟨F1, fun a => F2 a ∨ a = pf ∨ a = q ∨ a = pg, R.loc F1 H2 _ t1 fun a o h z => n1 (b _ _ h) ?_, ⟨?_, .inl f1, ⟨?_, ?_⟩⟩, ?_, ?_⟩, ?_, ?_, ?_, ?_⟩
  · rcases z with z | z
    · exact fun e => dj a z (by rw [e]; exact f1)
    · exact ntup h z
  · rw [upd_same, List.map_append]
    rfl
  · intro p hp
    rcases List.mem_append.mp hp with hp | hp
    · obtain ⟨a1, a2, a3, a4, a5, a6, a7, a8⟩ := h2 p hp
      exact ⟨n1 (b _ _ a1) a7.1, n1 (b _ _ a2) a7.2.1, n1 (b _ _ a3) a7.2.2, .inl a4, .inl a5, .inl a6, a7, a8.mono fun c o hc tc => n1 (b _ _ hc) (ntup hc tc)⟩
    · have e : p = ⟨q, pf, pg, xs⟩ := by simpa using hp
      rw [e]
      exact ⟨n1 hq3 dq, n1 hf3 df, n1 hg3 dg, .inr (.inr (.inl rfl)), .inr (.inl rfl), .inr (.inr (.inr rfl)), ⟨dq, df, dg⟩, fl.mono fun c o hc tc => n1 (b _ _ (x _ _ hc)) (ntup (x _ _ hc) tc)⟩
  · rintro a (z | z | z | z)
    · by_cases c : a = ph
      · rw [c]
        exact ⟨_, upd_same, fun ⟨_, t⟩ => by cases t⟩
      · obtain ⟨o, ho, nt⟩ := h3 a z
        exact ⟨o, n1 (b _ _ ho) c, nt⟩
    · rw [z]
      exact ⟨_, n1 hf3 df, fun ⟨_, t⟩ => by cases t⟩
    · rw [z]
      exact ⟨_, n1 hq3 dq, fun ⟨_, t⟩ => by cases t⟩
    · rw [z]
      exact ⟨_, n1 hg3 dg, fun ⟨_, t⟩ => by cases t⟩
  · rintro a z1 (z | z | z | z)
    · exact dj a z1 z
    · exact nFf ((ff pf).mpr (.inl (by rw [← z]; exact z1)))
    · obtain ⟨o, ho, _⟩ := R.dom F1 H2 a t1 z1
      rw [z, nq] at ho
      cases ho
    · obtain ⟨o, ho, _⟩ := R.dom F1 H2 a t1 z1
      rw [z, ng] at ho
      cases ho
  · intro a
    show (F a ∨ a = pf ∨ a = q ∨ a = pg) ↔ F1 a ∨ (F2 a ∨ a = pf ∨ a = q ∨ a = pg)
    rw [ff a, or_assoc]
  · exact fun a o h => n1 (b _ _ (x _ _ (eL _ _ h))) fun e => by
      have g := eL _ _ h
      rw [e, dd ph ((ff ph).mpr (.inr f1))] at g
      cases g
  · rintro a (z | z | z | z)
    · exact fresh_back eL (dd a z)
    · rw [z]
      exact nL
    · rw [z]
      exact fresh_back eL (fresh_back x nq)
    · rw [z]
      exact fresh_back eL (fresh_back x ng)
  · intro a z
    by_cases c : a = ph
    · rw [c, upd_same]
      exact fun g => by cases g
    · rw [upd_ne c]
      exact ex_dm b a (bb a z)
  · rintro a (z | z | z | z)
    · exact f a z
    · rw [z]
      exact .inr nB
    · rw [z]
      exact .inr fun g => bb q g nq
    · rw [z]
      exact .inr fun g => bb pg g ng
end
end Wy

set_option Elab.async false
set_option linter.all false
set_option maxRecDepth 100000
set_option maxHeartbeats 4000000
/-! Wi: more rules. -/
namespace Wy
open PySem PySem.Spec PyProof.Rows L2 Evl
section
variable {T T' T'' U : RP} {F F0 B0 : Reg} {L L' H H' N : Hp} {K : PySem.W.Frag} {σ : L2.St} {ta tb tc te tl : TE} {t u : TT} {x y z v w' : V} {r r' : R2} {D : Ends} {tu tw tz ts : TS} {P P' : V → Hp → Prop} {Q : VK}
theorem ev_chain (ha : Ev ta σ H x) (hb : Ev tb σ H y) (h1 : RV r x y H (.bl true)) (hc : Ev tc σ H w') (h2 : RV r' y w' H z) : Ev (tChain r r' ta tb tc) σ H z := fun H1 e Q q =>
  ha H1 e _ fun H2 e2 => hb H2 (e.trans e2) _ fun H3 e3 => h1 H3 ((e.trans e2).trans e3) _ fun H4 e4 => ⟨true, rfl, by
    show tc σ H4 fun w' H5 => r' y w' H5 Q
    exact hc H4 (((e.trans e2).trans e3).trans e4) _ fun H5 e5 => h2 H5 ((((e.trans e2).trans e3).trans e4).trans e5) _ fun H6 e6 => q H6 ((((e2.trans e3).trans e4).trans e5).trans e6)⟩
theorem rv_leT {i j : Int} (h : i ≤ j) : RV (rI0 fun i j => .bl (decide (i ≤ j))) (.int i) (.int j) H (.bl true) := by
  have g := rv_I0 (H := H) (i := i) (j := j) (g := fun i j => .bl (decide (i ≤ j)))
  rw [decide_eq_true h] at g
  exact g
theorem inV_ints (i : Int) : ∀ c : List Int, inV (.int i) (c.map V.int) = decide (i ∈ c)
  | [] => by
    rw [decide_eq_false (List.not_mem_nil)]
    rfl
  | y :: c => by
    show (eqV (.int y) (.int i) || inV (.int i) (c.map V.int)) = _
    rw [inV_ints i c]
    have e : eqV (.int y) (.int i) = decide (i = y) := by
      show decide (y = i) = _
      exact decide_eq_decide.mpr eq_comm
    rw [e, ← Bool.decide_or]
    exact decide_eq_decide.mpr List.mem_cons.symm
theorem flat_ints (c : List Int) : (c.map V.int).all flatV = true := List.all_eq_true.mpr fun x hx => by
  obtain ⟨i, _, rfl⟩ := List.mem_map.mp hx
  rfl
theorem rv_ninI {p : Addr} {c : List Int} {i : Int} (h : SqT K H p (c.map V.int)) : RV (rIn K true) (.int i) (.ref p) H (.bl (!decide (i ∈ c))) := by
  rw [← inV_ints]
  exact rv_niT h rfl (flat_ints c)
theorem ev_opP (ha : EvP ta σ H P) (hb : Ev tb σ H y) (hr : ∀ x H2, Ex H H2 → P x H2 → RV r x y H2 z) : Ev (tOp r ta tb) σ H z := fun H1 e Q q =>
  ha H1 e _ fun x H2 e2 p => hb H2 (e.trans e2) _ fun H3 e3 => hr x H2 (e.trans e2) p H3 e3 Q fun H4 e4 => q H4 ((e2.trans e3).trans e4)
theorem ep_sorted {a : Addr} {ns : List Int} (ha : Ev ta σ H (.ref a)) (h : SqL K H a (ns.map V.int)) : EvP (tCB (rSortedI K) (tCons ta tNil)) σ H fun v H2 => ∃ (p : Addr) (ys : List Int), v = .ref p ∧ H2 p = some (.lst (ys.map V.int)) ∧ ys.Perm ns ∧ ys.Pairwise (· ≤ ·) := fun H1 e Q q =>
  ha H1 e _ fun H2 e2 => ⟨a, ns, rfl, ex_l (e.trans e2) h, fun ys p h1 h2 hp => q _ _ (e2.trans (Ex.new hp)) ⟨p, ys, rfl, upd_same, h1, h2⟩⟩
/-- sorted of what the region gives -/
theorem ew_sorted {G : List Int → Prop} (R : Regn T') (h : EvW te σ T T' F0 B0 L fun v N => ∃ (p : Addr) (ns : List Int), v = .ref p ∧ N p = some (.lst (ns.map V.int)) ∧ G ns) : EvW (tCB (rSortedI K) (tCons te tNil)) σ T T' F0 B0 L fun v N => ∃ (p : Addr) (ns ys : List Int), v = .ref p ∧ N p = some (.lst (ys.map V.int)) ∧ G ns ∧ ys.Perm ns ∧ ys.Pairwise (· ≤ ·) := fun H w Q q =>
  h H w _ fun v N H2 d ⟨p, ns, e1, hp, g⟩ w2 => by
    subst e1
    have hp2 := w2.lx _ _ (unn_l (fun a z => (d a z).1) _ _ hp)
    refine ⟨p, ns, rfl, sq_of hp2, fun ys l h1 h2 hl => ?_⟩
    have nB : ∀ a, (one l (.lst (ys.map V.int))) a ≠ none → H2 a = none := fun a z => by
      rw [one_ne z]
      exact hl
    have nl : (Unn N L) l = none := fresh_back w2.lx hl
    refine q (.ref l) (one l (.lst (ys.map V.int))) _ (fun a z => ?_) ⟨l, ns, ys, rfl, one_at, g, h1, h2⟩ ((w2.new R (Ex.new hl) nB (one_ex upd_same)).weak fun a o ha => ?_)
    · rw [one_ne z]
      refine ⟨fresh_back unn_r nl, fun b => ?_⟩
      obtain ⟨_, _, _, _, bb, _⟩ := w2
      exact bb l b hl
    · have g : (match L a with | some o => some o | none => (one l (.lst (ys.map V.int))) a) = some o := ha
      show (match (Unn N L) a with | some o => some o | none => (one l (.lst (ys.map V.int))) a) = some o
      cases k : L a with
      | some o' =>
        rw [k] at g
        rw [unn_r _ _ k]
        exact g
      | none =>
        rw [k] at g
        have e : a = l := one_ne (by
          show (one l (.lst (ys.map V.int))) a ≠ none
          simp only at g
          rw [g]
          exact fun z => by cases z)
        rw [e] at g ⊢
        rw [nl]
        exact g
theorem ew_opR (R : Regn T') (ha : EvW ta σ T T' F0 B0 L P) (hb : Ev tb σ L y) (hr : ∀ x N, (∀ a, N a ≠ none → L a = none ∧ ¬ B0 a) → P x N → RV r x y (Unn N L) z) : EvW (tOp r ta tb) σ T T' F0 B0 L fun v _ => v = z := fun H w Q q =>
  ha H w _ fun x N H2 d p w2 => hb H2 (unn_r.trans w2.lx) _ fun H3 e3 => hr x N d p H3 (w2.lx.trans e3) Q fun H4 e4 => q z N H4 d rfl ((w2.ext R e3).ext R e4)
/-- a test of two parts, the second one over the region -/
theorem etw_and {p : Prop} [Decidable p] (R : Regn T) (h1 : EvT t σ L (decide p)) (h2 : p → EtW u σ T T' F0 B0 L false) (h3 : ∀ F H, T F H → T' F H) : EtW (tAnd t u) σ T T' F0 B0 L false := fun H w Q q => h1 H w.lx _ fun H2 e2 => by
  by_cases c : p
  · rw [decide_eq_true c]
    show u σ H2 Q
    exact h2 c H2 (w.ext R e2) Q q
  · rw [decide_eq_false c]
    show Q false H2
    exact q nonew H2 (fun a z => (z rfl).elim) (((w.ext R e2).imp fun F => h3 F H2).weak unn_no)
theorem ew_clN {sp : Sp} {E : XK} {t : TA} {PA : List V → Hp → Prop} {p : V → Prop} (R : Regn T) (ht : EvAN t σ L PA) (hs : ∀ vs N, (∀ a, N a ≠ none → L a = none ∧ ¬ B0 a) → PA vs N → SpWP sp vs T T' F0 B0 (Unn N L) fun v _ => p v) : EvW (tCall sp [] E t) σ T T' F0 B0 L fun v _ => p v := fun H w Q q =>
  ht H w.lx _ fun vs N H3 d pa x y => by
    rw [List.append_nil]
    refine hs vs N (fun b z => ⟨fresh_back w.lx (d b z), fun g => let ⟨_, _, _, _, bb, _⟩ := w; bb b g (d b z)⟩) pa H3 (w.new R y d x) Q (fun v N' H' d' pv w' => q v nonew H' (fun b z => (z rfl).elim) pv (w'.weak (unn_no.trans (unn_r.trans unn_r)))) E
/-- xs.clear(), xs.extend(ys), own lists -/
theorem vw_clear {l : Addr} {xs : List V} (R : Regn T) (hl : L l = some (.lst xs)) (ha : Ev ta σ L (.ref l)) (k : SvW tz D σ T F0 B0 (upd L l (.lst []))) : SvW (tSeq (tDrop (tBM0 K "list" rClear ta)) tz) D σ T F0 B0 L := fun H w =>
  ha H w.lx _ fun H2 e2 => have w2 := w.ext R e2
    ⟨Or.inl ⟨rfl, xs, sq_of (w2.lx _ _ hl)⟩, l, xs, rfl, rfl, w2.lx _ _ hl, k _ (w2.put R hl (fun ⟨_, z⟩ => by cases z))⟩
theorem vw_extend {l m : Addr} {xs zs : List V} (R : Regn T) (hl : L l = some (.lst xs)) (hm : L m = some (.lst zs)) (ha : Ev ta σ L (.ref l)) (h : Ev te σ L (.ref m)) (hz : xs.length + zs.length ≤ 100000) (k : SvW tz D σ T F0 B0 (upd L l (.lst (xs ++ zs)))) : SvW (tSeq (tDrop (tBM K "list" rExtend ta (tCons te tNil))) tz) D σ T F0 B0 L := fun H w =>
  ha H w.lx _ fun H2 e2 => ⟨Or.inl ⟨rfl, xs, sq_of ((w.ext R e2).lx _ _ hl)⟩, h H2 (w.ext R e2).lx _ fun H3 e3 =>
    have w3 := (w.ext R e2).ext R e3
    ⟨l, m, xs, zs, rfl, rfl, w3.lx _ _ hl, w3.lx _ _ hm, sz_of hz, k _ (w3.put R hl (fun ⟨_, z⟩ => by cases z))⟩⟩
/-- all([p[0] == p[1] for p in held]) -/
theorem ev_allHeld {ph : Addr} {n : Nat} {j : Nat} {vs : List Nat} {F : Reg} (h : HeldR ph n F H) (hn : n ≤ 40000) (ha : Ev tl σ H (.ref ph)) (hw : ∀ x, wipe ((wipe σ vs).set j (some x)) vs = wipe σ vs) (hj : ∀ x, ((wipe σ vs).set j (some x))[j]? = some (some x)) :
    Ev (tCB (rAll K) (tCons (tLc (iList K tl) (gName j) tYes (tOp (rEqD K) (tOp (rIxL K) (tVar j) (tC (.int 0))) (tOp (rIxL K) (tVar j) (tC (.int 1)))) vs) tNil)) σ H (.bl true) := fun H1 e Q q => by
  obtain ⟨ps, hl, h1, _, h2, _⟩ := h
  have g : EvL (tLc (iList K tl) (gName j) tYes (tOp (rEqD K) (tOp (rIxL K) (tVar j) (tC (.int 0))) (tOp (rIxL K) (tVar j) (tC (.int 1)))) vs) σ H (given (ps.map fun p => V.ref p.q).length (fun _ => true) fun _ => V.bl (decide True)) :=
    el_lcL (fun _ => true) (fun _ => V.bl (decide True)) ha (sq_of h1) (by rw [List.length_map]; omega) hw (fun i x H3 _ _ H4 _ Q q => q H4 (Ex.refl H4)) fun i x H3 e3 hx _ => by
      rw [List.getElem?_map] at hx
      cases k : ps[i]? with
      | none =>
        rw [k] at hx
        cases hx
      | some p =>
        rw [k] at hx
        have ex : x = .ref p.q := (Option.some.inj hx).symm
        subst ex
        obtain ⟨a1, a2, a3, _, _, _, _, fl⟩ := h2 p (List.mem_of_getElem? k)
        obtain ⟨ds, hd, hs⟩ := fl_dp (K := K) (fl.mono fun a o ha _ => e3 _ _ ha)
        have q1 : SqL K H3 p.q [.ref p.a, .ref p.b] := sq_of (e3 _ _ a1)
        exact ev_op (ev_op (ev_var (hj _)) ev_c (rv_ixL q1 rfl)) (ev_op (ev_var (hj _)) ev_c (rv_ixL q1 rfl)) (rd_eqSame (.lst (sq_of (e3 _ _ a2)) hd) (.lst (sq_of (e3 _ _ a3)) hd) (shp_list hs) (by decide))
  have key : ∀ (p : Addr) (H2 : Hp), Ex H1 H2 → H2 p = some (.lst (given (ps.map fun p => V.ref p.q).length (fun _ => true) fun _ => V.bl (decide True))) → rAll K [.ref p] H2 Q := fun p H2 e2 hp => by
    refine ⟨p, (List.range (ps.map fun p => V.ref p.q).length).map fun _ => true, rfl, sq_of ?_, ?_⟩
    · rw [hp]
      unfold given
      rw [List.map_map, List.filter_eq_self.mpr fun a _ => rfl]
      rfl
    · have ea : (((List.range (ps.map fun p => V.ref p.q).length).map fun _ => true).all id) = true := by
        rw [List.all_eq_true]
        intro b hb
        obtain ⟨_, _, rfl⟩ := List.mem_map.mp hb
        rfl
      rw [ea]
      exact q H2 e2
  exact g H1 e (fun v H2 => rAll K [v] H2 Q) fun p H2 n2 e2 hp => key p H2 e2 hp
end
/-- whether an order covers a wish -/
def covM (c : List Int) (ts : List Tri) : Bool := ts.all fun t => decide (t.c ∈ c)
theorem cov_given (c : List Int) (ts : List Tri) (v : Nat → V) : decide (((given ts.length (fun i => !decide ((ts.getD i t0).c ∈ c)) v).length : Int) = 0) = covM c ts := by
  have e : covM c ts = true ↔ ∀ i < ts.length, (ts.getD i t0).c ∈ c := by
    unfold covM
    rw [List.all_eq_true]
    constructor
    · intro h i hi
      rw [List.getD_eq_getElem?_getD, List.getElem?_eq_getElem hi]
      exact of_decide_eq_true (h _ (List.getElem_mem hi))
    · intro h t ht
      obtain ⟨i, hi, rfl⟩ := List.mem_iff_getElem.mp ht
      have g := h i hi
      rw [List.getD_eq_getElem?_getD, List.getElem?_eq_getElem hi] at g
      exact decide_eq_true g
  have e2 : ((given ts.length (fun i => !decide ((ts.getD i t0).c ∈ c)) v).length : Int) = 0 ↔ ∀ i < ts.length, (ts.getD i t0).c ∈ c := by
    unfold given
    rw [List.length_map]
    constructor
    · intro h i hi
      have h0 : ((List.range ts.length).filter fun i => !decide ((ts.getD i t0).c ∈ c)) = [] := List.length_eq_zero_iff.mp (by omega)
      have h1 := List.filter_eq_nil_iff.mp h0 i (List.mem_range.mpr hi)
      simpa using h1
    · intro h
      have h0 : ((List.range ts.length).filter fun i => !decide ((ts.getD i t0).c ∈ c)) = [] := List.filter_eq_nil_iff.mpr fun i hi => by
        have := h i (List.mem_range.mp hi)
        simpa using this
      rw [h0]
      rfl
  cases k : covM c ts with
  | true => exact decide_eq_true (e2.mpr (e.mp k))
  | false => exact decide_eq_false fun z => absurd ((e.mpr (e2.mp z)).symm.trans k) (by decide)
def RKStretch {K : PySem.W.Frag} (S : KS K) : List V → Hp → Reg → RP → (V → Hp → Prop) → Prop := fun vs H F T' P => ∃ (k b : Addr) (c : List Int) (s : Rows) (ws : List V) (ts : List Tri) (wd : Nat), vs = [.ref k, .ref b] ∧ S.at_ k c s F H ∧ SqL K H b ws ∧ Wt K H ws ts ∧ ts.length ≤ 20 ∧ wd ≤ 6 ∧ Wide s wd ∧ (∀ t ∈ ts, 0 ≤ t.c ∧ t.c < wd) ∧ (∀ x ∈ c, 0 ≤ x ∧ x < wd) ∧ s.length ≤ 200 ∧
  T' = S.at_ k c s ∧ P = fun v N => ∃ (p : Addr) (ns : List Int), v = .ref p ∧ N p = some (.lst (ns.map V.int)) ∧ Asc c s ns ∧ ∀ n, n ∈ ns ↔ ∃ r, rowOf s n = some r ∧ inS c r ts = true
end Wy

set_option Elab.async false
set_option linter.all false
set_option maxRecDepth 100000
set_option maxHeartbeats 4000000
/-! Wo: what a law holds: a dict by names, rows, orders, side by side. -/
namespace Wy
open PySem PySem.Spec PyProof.Rows L2 Evl
/-! ### regions moved about -/
section
variable {T T' T'' U U' A B C D' E' : RP} {F F0 B0 : Reg} {L L' H H' N : Hp} {K : PySem.W.Frag} {σ : L2.St} {ta tb tc te tl ty tv' : TE} {t u : TT} {x y z v w' : V} {r r' : R2} {D : Ends} {tu tw tz ts : TS} {P P' : V → Hp → Prop} {Q : VK}
/-- one object of U changed, what was known in M made U's -/
theorem Wld.upd2 {d : Addr} {o' : HO} {M : Reg} (R : Regn T) (w : Wld (Two T U) F0 B0 L H)
    (hU : ∀ F2, U F2 H → (∀ a, F2 a → L a = none) → Ex L H → F2 d ∧ (∀ o, H d = some o → ¬ Tupo o) ∧ U' (fun a => F2 a ∨ M a) (upd H d o'))
    (hM : ∀ a, M a → L a ≠ none) (nB : ∀ a, M a → ¬ B0 a) (eL : Ex L' L) (nL : ∀ a, M a → L' a = none) : Wld (Two T U') F0 B0 L' (upd H d o') := by
  obtain ⟨F, ⟨F1, F2, t, u, dj, ff⟩, x, dd, bb, f⟩ := w
  obtain ⟨h1, h2, h3⟩ := hU F2 u (fun a z => dd a ((ff a).mpr (.inr z))) x
  refine ⟨fun a => F a ∨ M a, ⟨F1, fun a => F2 a ∨ M a, R.loc F1 H _ t fun a o h z => ?_, h3, fun a z1 z2 => ?_, fun a => ?_⟩, fun a o h => ?_, fun a z => ?_, fun a z => ?_, fun a z => ?_⟩
  · rw [upd_ne fun e => ?_]
    · exact h
    · rcases z with z | z
      · exact dj a z (by rw [e]; exact h1)
      · exact h2 o (by rw [← e]; exact h) z
  · rcases z2 with z2 | z2
    · exact dj a z1 z2
    · exact hM a z2 (dd a ((ff a).mpr (.inl z1)))
  · show (F a ∨ M a) ↔ F1 a ∨ (F2 a ∨ M a)
    rw [ff a, or_assoc]
  · rw [upd_ne fun e => ?_]
    · exact x _ _ (eL _ _ h)
    · have g := eL _ _ h
      rw [e, dd d ((ff d).mpr (.inr h1))] at g
      cases g
  · rcases z with z | z
    · exact fresh_back eL (dd a z)
    · exact nL a z
  · by_cases c : a = d
    · rw [c, upd_same]
      exact fun g => by cases g
    · rw [upd_ne c]
      exact bb a z
  · rcases z with z | z
    · exact f a z
    · exact .inr (nB a z)
/-- the same with nothing made U's -/
theorem Wld.upd1 {d : Addr} {o' : HO} (R : Regn T) (w : Wld (Two T U) F0 B0 L H) (hU : ∀ F2, U F2 H → F2 d ∧ (∀ o, H d = some o → ¬ Tupo o) ∧ U' F2 (upd H d o')) : Wld (Two T U') F0 B0 L (upd H d o') := by
  refine Wld.upd2 (M := fun _ => False) R w (fun F2 u _ _ => ?_) (fun a z => z.elim) (fun a z => z.elim) (Ex.refl _) fun a z => z.elim
  have e : (fun a => F2 a ∨ False) = F2 := funext fun a => propext ⟨fun h => h.elim id False.elim, .inl⟩
  rw [e]
  exact hU F2 u
/-- tuples told of -/
theorem Wld.tup {M : Hp} (R : Regn T) (w : Wld T F0 B0 L H) (e : Ex M H) (tM : ∀ a o, M a = some o → Tupo o) : Wld T F0 B0 (Unn M L) H ∧ Ex M (Unn M L) := by
  obtain ⟨F, t, x, dd, bb, f⟩ := w
  refine ⟨⟨F, t, unn_ex x e, fun a z => ?_, bb, f⟩, fun a o h => ?_⟩
  · cases k : Unn M L a with
    | none => rfl
    | some o =>
      rcases unn_none (a := a) (N := M) (H := L) (by rw [k]; exact fun z => by cases z) with q | q
      · exact (q (dd a z)).elim
      · cases m : M a with
        | none => exact (q m).elim
        | some o' =>
          obtain ⟨o2, h2, nt⟩ := R.dom F H a t z
          rw [e _ _ m] at h2
          exact (nt (by rw [← Option.some.inj h2]; exact tM _ _ m)).elim
  · cases k : L a with
    | none =>
      show (match L a with | some o => some o | none => M a) = some o
      rw [k]
      exact h
    | some o2 =>
      have : o2 = o := Option.some.inj ((x _ _ k).symm.trans (e _ _ h))
      rw [← this]
      exact unn_r _ _ k
/-! ### values read where the regions stand -/
theorem vw_asgR {i : Nat} (R : Regn T) (h : ∀ H, Wld T F0 B0 L H → Ev te σ H v) (k : SvW tz D (σ.set i (some v)) T F0 B0 L) : SvW (tSeq (tAsg te (gName i)) tz) D σ T F0 B0 L := fun H w => h H w H (Ex.refl H) _ fun H2 e => k H2 (w.ext R e)
theorem vw_asgRN {i : Nat} (R : Regn T) (h : ∀ H, Wld T F0 B0 L H → EvN te σ H P) (k : ∀ v N, (∀ a, N a ≠ none → L a = none ∧ ¬ B0 a) → P v N → SvW tz D (σ.set i (some v)) T F0 B0 (Unn N L)) : SvW (tSeq (tAsg te (gName i)) tz) D σ T F0 B0 L := fun H w =>
  h H w H (Ex.refl H) _ fun v N H2 d p a b => k v N (fun x z => ⟨fresh_back w.lx (d x z), fun y => let ⟨_, _, _, _, bb, _⟩ := w; bb x y (d x z)⟩) p H2 (w.new R b d a)
/-- for x in a list of the region -/
theorem vw_forLR {a : Addr} {xs : List V} {j : Nat} (R : Regn T) (h : ∀ H, Wld T F0 B0 L H → Ev tl σ H (.ref a) ∧ SqL K H a xs) (I : Nat → L2.St → RP → Hp → Prop) (h0 : I 0 σ T L) (hl : ∀ i σ' T' L' H, I i σ' T' L' → Wld T' F0 B0 L' H → SqL K H a xs)
    (hs : ∀ i x σ' T' L', xs[i]? = some x → I i σ' T' L' → SvW tu { D with nx := KnW F0 B0 (I (i + 1)), ct := KnW F0 B0 (I (i + 1)), bk := tz D } (σ'.set j (some x)) T' F0 B0 L') (hd : ∀ σ' T' L', I xs.length σ' T' L' → SvW tz D σ' T' F0 B0 L') : SvW (tSeq (tFor (iList K tl) (gName j) tu) tz) D σ T F0 B0 L :=
  fun H w => (h H w).1 H (Ex.refl H) _ fun H2 e2 => ⟨a, rfl, ⟨xs, ex_l e2 (h H w).2⟩, for_list (D := { D with nx := tz D }) (xs := xs) (fun i => KnW F0 B0 (I i)) ⟨T, L, h0, w.ext R e2⟩ (fun i σ' H3 _ ⟨T', L', p, w'⟩ => hl i σ' T' L' H3 p w')
    (fun i x σ' H3 hi ⟨T', L', p, w'⟩ => hs i x σ' T' L' hi p H3 w') (fun σ' H3 ⟨T', L', p, w'⟩ => hd σ' T' L' p H3 w')⟩
/-! ### a dict by names -/
def PoR (po : Addr) (kvs : List (Key × V)) : RP := fun F H => H po = some (.dK kvs) ∧ F po ∧ ∀ a, F a → ∃ o, H a = some o ∧ ¬ Tupo o
theorem poR_regn (po : Addr) (kvs : List (Key × V)) : Regn (PoR po kvs) where
  loc := fun F H H' ⟨h1, f1, h3⟩ k => ⟨k _ _ h1 (.inl f1), f1, fun a z => let ⟨o, ho, nt⟩ := h3 a z; ⟨o, k _ _ ho (.inl z), nt⟩⟩
  dom := fun F H a ⟨_, _, h3⟩ z => h3 a z
theorem dom_upd {F : Reg} {d : Addr} {o' : HO} (h : ∀ a, F a → ∃ o, H a = some o ∧ ¬ Tupo o) (n : ¬ Tupo o') : ∀ a, F a → ∃ o, (upd H d o') a = some o ∧ ¬ Tupo o := fun a z => by
  by_cases c : a = d
  · rw [c, upd_same]
    exact ⟨_, rfl, n⟩
  · rw [upd_ne c]
    exact h a z
/-- own[k] = e -/
theorem vw_poSet {po : Addr} {kvs : List (Key × V)} {k0 : Key} (R : Regn T) (hv : ∀ H, Wld (Two T (PoR po kvs)) F0 B0 L H → Ev te σ H v) (ha : Ev ta σ L (.ref po)) (hy : Ev ty σ L (kV k0)) (hz : kvs.length < 100) (k : SvW tz D σ (Two T (PoR po (putK kvs k0 v))) F0 B0 L) : SvW (tSeq (sDPut ta ty te) tz) D σ (Two T (PoR po kvs)) F0 B0 L := fun H w => by
  have R2 := R.two (poR_regn po kvs)
  refine hv H w H (Ex.refl H) _ fun H2 e2 => ha H2 (w.ext R2 e2).lx _ fun H3 e3 => hy H3 ((w.ext R2 e2).ext R2 e3).lx _ fun H4 e4 => ?_
  have w4 := ((w.ext R2 e2).ext R2 e3).ext R2 e4
  have hd : H4 po = some (.dK kvs) := by
    obtain ⟨_, ⟨_, _, _, ⟨h1, _⟩, _⟩, _⟩ := w4
    exact h1
  exact ⟨po, _, rfl, DPut.k hd (sz_lt (by omega)), k _ (w4.upd1 R fun F2 ⟨h1, f1, h3⟩ => ⟨f1, fun o ho ⟨_, t⟩ => (by rw [h1, t] at ho; cases ho), upd_same, f1, dom_upd h3 fun ⟨_, t⟩ => (by cases t)⟩)⟩
/-! ### rows: put, changed, dropped -/
def putRow (s : Rows) (n : Int) (row : List Int) : Rows := if (s.any fun p => decide (p.1 = n)) = true then s.map (fun p => if p.1 = n then (p.1, row) else p) else s ++ [(n, row)]
theorem paired_any {F : Reg} {H : Hp} (n : Int) : ∀ {kvs : List (Key × V)} {s : Rows}, Paired (RowIs F H) kvs s → (kvs.any fun kv => decide (kv.1 = Sum.inl n)) = s.any fun p => decide (p.1 = n)
  | _, _, .nil => rfl
  | e :: kvs, p :: s, .cons a b => by
    rw [List.any_cons, List.any_cons, paired_any n b]
    congr 1
    rw [a.1]
    exact decide_eq_decide.mpr ⟨Sum.inl.inj, fun h => by rw [h]⟩
theorem paired_map {F : Reg} {H : Hp} {n : Int} {row : List Int} {q : Addr} (hq : H q = some (.lst (row.map V.int))) (fq : F q) : ∀ {kvs : List (Key × V)} {s : Rows}, Paired (RowIs F H) kvs s → Paired (RowIs F H) (kvs.map fun kv => if kv.1 = Sum.inl n then (kv.1, V.ref q) else kv) (s.map fun p => if p.1 = n then (p.1, row) else p)
  | _, _, .nil => .nil
  | e :: kvs, p :: s, .cons a b => by
    refine .cons ?_ (paired_map hq fq b)
    show RowIs F H (if e.1 = Sum.inl n then (e.1, V.ref q) else e) (if p.1 = n then (p.1, row) else p)
    by_cases c : p.1 = n
    · rw [if_pos c, if_pos (by rw [a.1, c])]
      exact ⟨a.1, q, rfl, hq, fq⟩
    · rw [if_neg c, if_neg (by rw [a.1]; exact fun z => c (Sum.inl.inj z))]
      exact a
theorem paired_put {F : Reg} {H : Hp} {n : Int} {row : List Int} {q : Addr} {kvs : List (Key × V)} {s : Rows} (h : Paired (RowIs F H) kvs s) (hq : H q = some (.lst (row.map V.int))) (fq : F q) : Paired (RowIs F H) (putK kvs (Sum.inl n) (.ref q)) (putRow s n row) := by
  unfold putK putRow
  rw [paired_any n h]
  split
  · exact paired_map hq fq h
  · exact paired_snoc ⟨rfl, q, rfl, hq, fq⟩ h
/-- rows, one list of them told of -/
def DtX (d : Addr) (s : Rows) (pr : Addr) (row : List Int) : RP := fun F H => DtR d s F H ∧ F pr ∧ H pr = some (.lst (row.map V.int))
theorem dtX_regn (d : Addr) (s : Rows) (pr : Addr) (row : List Int) : Regn (DtX d s pr row) where
  loc := fun F H H' ⟨h1, f1, h2⟩ k => ⟨(dtR_regn d s).loc F H H' h1 k, f1, k _ _ h2 (.inl f1)⟩
  dom := fun F H a ⟨h1, _, _⟩ z => (dtR_regn d s).dom F H a h1 z
/-- one list -/
def OneL (pr : Addr) (row : List Int) : RP := fun F H => H pr = some (.lst (row.map V.int)) ∧ F pr ∧ ∀ a, F a → ∃ o, H a = some o ∧ ¬ Tupo o
theorem oneL_regn (pr : Addr) (row : List Int) : Regn (OneL pr row) where
  loc := fun F H H' ⟨h1, f1, h3⟩ k => ⟨k _ _ h1 (.inl f1), f1, fun a z => let ⟨o, ho, nt⟩ := h3 a z; ⟨o, k _ _ ho (.inl z), nt⟩⟩
  dom := fun F H a ⟨_, _, h3⟩ z => h3 a z
/-- d[n] = row, an own list -/
theorem vw_dtPut {d pr : Addr} {s : Rows} {n : Int} {row : List Int} (R : Regn T) (hv : Ev te σ L (.ref pr)) (hr : L pr = some (.lst (row.map V.int))) (nB : ¬ B0 pr) (ha : ∀ H, Wld (Two T (DtR d s)) F0 B0 L H → Ev ta σ H (.ref d)) (hy : ∀ H, Wld (Two T (DtR d s)) F0 B0 L H → Ev ty σ H (.int n)) (hz : s.length < 1000)
    (eL : Ex L' L) (nL : L' pr = none) (k : SvW tz D σ (Two T (DtX d (putRow s n row) pr row)) F0 B0 L') : SvW (tSeq (sDPut ta ty te) tz) D σ (Two T (DtR d s)) F0 B0 L := fun H w => by
  have R2 := R.two (dtR_regn d s)
  refine hv H w.lx _ fun H2 e2 => ha H2 (w.ext R2 e2) H2 (Ex.refl _) _ fun H3 e3 => hy H3 ((w.ext R2 e2).ext R2 e3) H3 (Ex.refl _) _ fun H4 e4 => ?_
  have w4 := ((w.ext R2 e2).ext R2 e3).ext R2 e4
  have hd : ∃ kvs, H4 d = some (.dK kvs) ∧ kvs.length = s.length ∧ ∃ F2 : Reg, Paired (RowIs F2 H4) kvs s := by
    obtain ⟨_, ⟨_, F2, _, ⟨kvs, h1, h2, _⟩, _⟩, _⟩ := w4
    exact ⟨kvs, h1, paired_len h2, F2, h2⟩
  obtain ⟨kvs, h1, hl, _⟩ := hd
  have hpr4 := w4.lx _ _ hr
  refine ⟨d, _, rfl, DPut.k (k := Sum.inl n) h1 (sz_lt (by omega)), k _ (w4.upd2 (M := fun a => a = pr) R (fun F2 ⟨kvs', h1', h2, fd, h5⟩ dd x => ?_) (fun a z => by rw [show a = pr from z, hr]; exact fun z => by cases z) (fun a z => by rw [show a = pr from z]; exact nB) eL (fun a z => by rw [show a = pr from z]; exact nL))⟩
  have e : kvs' = kvs := by
    rw [h1] at h1'
    injection h1' with h1'
    injection h1' with h1'
    exact h1'.symm
  subst e
  have npd : pr ≠ d := fun e => by
    rw [e, dd d fd] at hr
    cases hr
  have hq : (upd H4 d (.dK (putK kvs' (Sum.inl n) (.ref pr)))) pr = some (.lst (row.map V.int)) := by
    rw [upd_ne npd]
    exact hpr4
  refine ⟨fd, fun o ho ⟨_, t⟩ => (by rw [h1, t] at ho; cases ho), ⟨_, upd_same, paired_put (paired_imp (fun e p r => ?_) h2) hq (.inr rfl), .inl fd, fun a z => ?_⟩, .inr rfl, hq⟩
  · obtain ⟨e1, q, e2, e3, e4⟩ := r
    refine ⟨e1, q, e2, ?_, .inl e4⟩
    rw [upd_ne fun z => by rw [z, h1] at e3; cases e3]
    exact e3
  · by_cases c : a = d
    · rw [c, upd_same]
      exact ⟨_, rfl, fun ⟨_, t⟩ => by cases t⟩
    · rw [upd_ne c]
      rcases z with z | z
      · exact h5 a z
      · rw [z]
        exact ⟨_, hpr4, fun ⟨_, t⟩ => by cases t⟩
/-- d[n] = row, a list of the region -/
theorem vw_dtPutO {d pr : Addr} {s : Rows} {n : Int} {row : List Int} (R : Regn T) (hv : Ev te σ L (.ref pr)) (ha : ∀ H, Wld (Two T (Two (DtR d s) (OneL pr row))) F0 B0 L H → Ev ta σ H (.ref d)) (hy : ∀ H, Wld (Two T (Two (DtR d s) (OneL pr row))) F0 B0 L H → Ev ty σ H (.int n)) (hz : s.length < 1000)
    (k : SvW tz D σ (Two T (DtX d (putRow s n row) pr row)) F0 B0 L) : SvW (tSeq (sDPut ta ty te) tz) D σ (Two T (Two (DtR d s) (OneL pr row))) F0 B0 L := fun H w => by
  have R2 := R.two ((dtR_regn d s).two (oneL_regn pr row))
  refine hv H w.lx _ fun H2 e2 => ha H2 (w.ext R2 e2) H2 (Ex.refl _) _ fun H3 e3 => hy H3 ((w.ext R2 e2).ext R2 e3) H3 (Ex.refl _) _ fun H4 e4 => ?_
  have w4 := ((w.ext R2 e2).ext R2 e3).ext R2 e4
  have hd : ∃ kvs, H4 d = some (.dK kvs) ∧ kvs.length = s.length := by
    obtain ⟨_, ⟨_, F2, _, ⟨_, _, ⟨kvs, h1, h2, _⟩, _⟩, _⟩, _⟩ := w4
    exact ⟨kvs, h1, paired_len h2⟩
  obtain ⟨kvs, h1, hl⟩ := hd
  refine ⟨d, _, rfl, DPut.k (k := Sum.inl n) h1 (sz_lt (by omega)), k _ (w4.upd1 R fun F2 ⟨F3, F4, ⟨kvs', h1', h2, fd, h5⟩, ⟨hr, fr, h6⟩, dj, ff⟩ => ?_)⟩
  have e : kvs' = kvs := by
    rw [h1] at h1'
    injection h1' with h1'
    injection h1' with h1'
    exact h1'.symm
  subst e
  have npd : pr ≠ d := fun e => dj d fd (by rw [← e]; exact fr)
  have hq : (upd H4 d (.dK (putK kvs' (Sum.inl n) (.ref pr)))) pr = some (.lst (row.map V.int)) := by
    rw [upd_ne npd]
    exact hr
  refine ⟨(ff d).mpr (.inl fd), fun o ho ⟨_, t⟩ => (by rw [h1, t] at ho; cases ho), ⟨_, upd_same, paired_put (paired_imp (fun e p r => ?_) h2) hq ((ff pr).mpr (.inr fr)), (ff d).mpr (.inl fd), dom_upd (fun a z => ((ff a).mp z).elim (h5 a) (h6 a)) fun ⟨_, t⟩ => (by cases t)⟩, (ff pr).mpr (.inr fr), hq⟩
  obtain ⟨e1, q, e2, e3, e4⟩ := r
  refine ⟨e1, q, e2, ?_, (ff q).mpr (.inl e4)⟩
  rw [upd_ne fun z => by rw [z, h1] at e3; cases e3]
  exact e3
/-- d.pop(n) -/
theorem vw_dtPop {d : Addr} {s : Rows} {n : Int} {row : List Int} (R : Regn T) (ha : Ev ta σ L (.ref d)) (hy : Ev ty σ L (.int n)) (hn : rowOf s n = some row) (k : SvW tz D σ (Two T (DtR d (s.filter fun p => decide (¬ p.1 = n)))) F0 B0 L) : SvW (tSeq (tDrop (tDPop1 ta ty)) tz) D σ (Two T (DtR d s)) F0 B0 L := fun H w => by
  have R2 := R.two (dtR_regn d s)
  have get : ∀ {H}, Wld (Two T (DtR d s)) F0 B0 L H → ∃ kvs v, H d = some (.dK kvs) ∧ valV kvs (Sum.inl n) = some v := fun w => by
    obtain ⟨_, ⟨_, F2, _, ⟨kvs, h1, h2, _⟩, _⟩, _⟩ := w
    obtain ⟨q, a, _⟩ := paired_val h2 hn
    exact ⟨kvs, _, h1, a⟩
  refine ha H w.lx _ fun H2 e2 => ?_
  have w2 := w.ext R2 e2
  obtain ⟨kvs2, _, h2, _⟩ := get w2
  refine ⟨d, rfl, .inl ⟨kvs2, .inl h2⟩, hy H2 w2.lx _ fun H3 e3 => ?_⟩
  have w3 := w2.ext R2 e3
  obtain ⟨kvs, v, h1, hv⟩ := get w3
  refine ⟨kvs, Sum.inl n, v, h1, rfl, hv, k _ (w3.upd1 R fun F2 ⟨kvs', h1', h2, fd, h5⟩ => ?_)⟩
  have e : kvs' = kvs := by
    rw [h1] at h1'
    injection h1' with h1'
    injection h1' with h1'
    exact h1'.symm
  subst e
  refine ⟨fd, fun o ho ⟨_, t⟩ => (by rw [h1, t] at ho; cases ho), _, upd_same, paired_drop n (paired_imp (fun e p r => ?_) h2), fd, dom_upd h5 fun ⟨_, t⟩ => (by cases t)⟩
  obtain ⟨e1, q, e2, e3, e4⟩ := r
  refine ⟨e1, q, e2, ?_, e4⟩
  rw [upd_ne fun z => by rw [z, h1] at e3; cases e3]
  exact e3
/-! ### orders told -/
def OrdIs (H : Hp) (x : V) (c : List Int) : Prop := ∃ p : Addr, x = .ref p ∧ H p = some (.tup (c.map V.int))
def OrdR (pl : Addr) (os : List (List Int)) : RP := fun F H => ∃ xs, H pl = some (.lst xs) ∧ Paired (OrdIs H) xs os ∧ F pl ∧ ∀ a, F a → ∃ o, H a = some o ∧ ¬ Tupo o
theorem ordIs_loc {x : V} {c : List Int} (h : OrdIs H x c) (k : ∀ a o, H a = some o → Tupo o → H' a = some o) : OrdIs H' x c := let ⟨p, e, hp⟩ := h; ⟨p, e, k _ _ hp ⟨_, rfl⟩⟩
theorem ordR_regn (pl : Addr) (os : List (List Int)) : Regn (OrdR pl os) where
  loc := fun F H H' ⟨xs, h1, h2, f1, h3⟩ k => ⟨xs, k _ _ h1 (.inl f1), paired_imp (fun e p r => ordIs_loc r fun a o h t => k a o h (.inr t)) h2, f1, fun a z => let ⟨o, ho, nt⟩ := h3 a z; ⟨o, k _ _ ho (.inl z), nt⟩⟩
  dom := fun F H a ⟨_, _, _, _, h3⟩ z => h3 a z
/-- orders.append(t) -/
theorem vw_ordApp {pl pt : Addr} {os : List (List Int)} {c : List Int} (R : Regn T) (ha : Ev ta σ L (.ref pl)) (he : Ev te σ L (.ref pt)) (ht : L pt = some (.tup (c.map V.int))) (hz : os.length < 1000) (k : SvW tz D σ (Two T (OrdR pl (os ++ [c]))) F0 B0 L) : SvW (tSeq (tDrop (tBM K "list" rAppend ta (tCons te tNil))) tz) D σ (Two T (OrdR pl os)) F0 B0 L := fun H w => by
  have R2 := R.two (ordR_regn pl os)
  have get : ∀ {H}, Wld (Two T (OrdR pl os)) F0 B0 L H → ∃ xs, H pl = some (.lst xs) ∧ xs.length = os.length := fun w => by
    obtain ⟨_, ⟨_, F2, _, ⟨xs, h1, h2, _⟩, _⟩, _⟩ := w
    exact ⟨xs, h1, paired_len h2⟩
  refine ha H w.lx _ fun H2 e2 => ?_
  have w2 := w.ext R2 e2
  obtain ⟨xs2, h2, _⟩ := get w2
  refine ⟨Or.inl ⟨rfl, xs2, sq_of h2⟩, he H2 w2.lx _ fun H3 e3 => ?_⟩
  have w3 := w2.ext R2 e3
  obtain ⟨xs, h1, hl⟩ := get w3
  refine ⟨pl, xs, _, rfl, rfl, h1, sz_lt (by omega), k _ (w3.upd1 R fun F2 ⟨xs', h1', h2, f1, h5⟩ => ?_)⟩
  have e : xs' = xs := by
    rw [h1] at h1'
    injection h1' with h1'
    injection h1' with h1'
    exact h1'.symm
  subst e
  have nt : ∀ {a o}, H3 a = some o → Tupo o → (upd H3 pl (.lst (xs' ++ [.ref pt]))) a = some o := fun h ⟨_, t⟩ => by
    rw [upd_ne fun e => by rw [e, h1, t] at h; cases h]
    exact h
  exact ⟨f1, fun o ho ⟨_, t⟩ => (by rw [h1, t] at ho; cases ho), _, upd_same, paired_snoc ⟨pt, rfl, nt (w3.lx _ _ ht) ⟨_, rfl⟩⟩ (paired_imp (fun e p r => ordIs_loc r fun a o h t => nt h t) h2), f1, dom_upd h5 fun ⟨_, t⟩ => (by cases t)⟩
theorem eqv_ints (a b : List Int) : PyData.eqv (.tuple (a.map PyData.int)) (.tuple (b.map PyData.int)) = decide (a = b) := PySem.W.ked_eqvAll a b
theorem ord_dp : ∀ {xs : List V} {os : List (List Int)}, Paired (OrdIs H) xs os → DpAll K H xs (os.map fun c => PyData.tuple (c.map PyData.int))
  | _, _, .nil => .nil
  | _, _, .cons ⟨p, e, hp⟩ b => by
    rw [e]
    exact .cons (dp_intsT (st_of hp)) (ord_dp b)
theorem shp_ords (os : List (List Int)) : Shp 2 (.list (os.map fun c => PyData.tuple (c.map PyData.int))) := shp_list fun d hd => by
  obtain ⟨c, _, rfl⟩ := List.mem_map.mp hd
  exact shp_tupI c
theorem any_ords (c : List Int) : ∀ os : List (List Int), ((os.map fun c => PyData.tuple (c.map PyData.int)).any fun z => PyData.eqv z (.tuple (c.map PyData.int))) = decide (c ∈ os)
  | [] => (decide_eq_false (List.not_mem_nil)).symm
  | o :: os => by
    rw [List.map_cons, List.any_cons, any_ords c os, eqv_ints, ← Bool.decide_or]
    exact decide_eq_decide.mpr ⟨fun h => List.mem_cons.mpr (h.imp Eq.symm id), fun h => (List.mem_cons.mp h).imp Eq.symm id⟩
/-- t not in orders -/
theorem rv_ninOrd {pl pt : Addr} {os : List (List Int)} {c : List Int} {F : Reg} (h : OrdR pl os F H) (ht : SqT K H pt (c.map V.int)) : RV (rNotInD K) (.ref pt) (.ref pl) H (.bl (decide (¬ c ∈ os))) := fun H1 e Q q => by
  rw [decide_not] at q
  obtain ⟨xs, h1, h2, _⟩ := h
  refine ⟨_, _, dp_mono e _ (dp_intsT ht), dp_mono e _ (.lst (sq_of h1) (ord_dp h2)), (shp_tupI c).ok (by decide), (shp_ords os).ok (by decide), ?_⟩
  rw [any_ords]
  exact q H1 (Ex.refl _)
end
end Wy

set_option Elab.async false
set_option linter.all false
set_option maxRecDepth 100000
set_option maxHeartbeats 4000000
/-! Wt: a table, by what it promises. -/
namespace Wy
open PySem PySem.Spec PyProof.Rows L2 Evl
/-- a row: a list besides the region, or a tuple -/
def RowAtT (K : PySem.W.Frag) (H : Hp) (F : Reg) (r : Addr) (row : List Int) : Prop := (SqL K H r (row.map V.int) ∧ ¬ F r) ∨ H r = some (.tup (row.map V.int))
/-- what stands in a table: its width, its rows, the next number, its orders -/
structure TabS where
  wd : Nat
  rows : Rows
  made : Int
  os : List (List Int)
def tabNames : List Str := ["put", "drop", "change", "tell", "forget", "orders", "listed", "numbers", "row", "costs", "plan", "walked", "ask_by", "ask"]
/-- what a table is: its region, its names -/
structure TSp (K : PySem.W.Frag) where
  C : Addr
  at_ : Addr → TabS → RP
  regn : ∀ t s, Regn (at_ t s)
  ins : ∀ {t s F H}, at_ t s F H → ∃ (dx : Addr) (fs : List (Str × V)), H t = some (.ins C dx fs) ∧ fs.lookup ("width" : Str) = some (.int s.wd) ∧ ∀ m ∈ tabNames, fs.lookup m = none
  cls : Cls K C
  noW : NoAttr K C "width"
/-- tables that laws build: numbers below the next one, each once, as wide as the table; orders each once -/
structure TabS.Ok (s : TabS) : Prop where
  w1 : 1 ≤ s.wd
  w6 : s.wd ≤ 6
  nd : (s.rows.map (·.1)).Pairwise (· < ·)
  lt : ∀ n ∈ s.rows.map (·.1), 0 ≤ n ∧ n < s.made
  wide : Wide s.rows s.wd
  l200 : s.rows.length ≤ 200
  m0 : 0 ≤ s.made
  od : s.os.Nodup
  oc : ∀ c ∈ s.os, c ≠ [] ∧ c.Nodup ∧ (∀ x ∈ c, 0 ≤ x ∧ x < s.wd) ∧ c.length ≤ 6
  o8 : s.os.length ≤ 8
section
variable {K : PySem.W.Frag} (S : TSp K)
def RTPut : List V → Hp → Reg → RP → (V → Hp → Prop) → Prop := fun vs H F T' P => ∃ (t r : Addr) (s : TabS) (row : List Int), vs = [.ref t, .ref r] ∧ S.at_ t s F H ∧ s.Ok ∧ RowAtT K H F r row ∧ row.length = s.wd ∧ s.rows.length < 200 ∧ T' = S.at_ t { s with rows := s.rows ++ [(s.made, row)], made := s.made + 1 } ∧ P = fun v _ => v = .int s.made
def RTDrop : List V → Hp → Reg → RP → (V → Hp → Prop) → Prop := fun vs H F T' P => ∃ (t : Addr) (s : TabS) (n : Int) (row : List Int), vs = [.ref t, .int n] ∧ S.at_ t s F H ∧ s.Ok ∧ rowOf s.rows n = some row ∧ T' = S.at_ t { s with rows := s.rows.filter fun p => decide (¬ p.1 = n) } ∧ P = fun v _ => v = .non
def RTChange : List V → Hp → Reg → RP → (V → Hp → Prop) → Prop := fun vs H F T' P => ∃ (t : Addr) (s : TabS) (n c x : Int) (row : List Int), vs = [.ref t, .int n, .int c, .int x] ∧ S.at_ t s F H ∧ s.Ok ∧ rowOf s.rows n = some row ∧ 0 ≤ c ∧ c < s.wd ∧ T' = S.at_ t { s with rows := putRow s.rows n (row.set c.toNat x) } ∧ P = fun v _ => v = .non
def RTTell : List V → Hp → Reg → RP → (V → Hp → Prop) → Prop := fun vs H F T' P => ∃ (t o : Addr) (s : TabS) (c : List Int), vs = [.ref t, .ref o] ∧ S.at_ t s F H ∧ s.Ok ∧ H o = some (.tup (c.map V.int)) ∧ c ≠ [] ∧ c.Nodup ∧ (∀ x ∈ c, 0 ≤ x ∧ x < s.wd) ∧ c.length ≤ 6 ∧ c ∉ s.os ∧ s.os.length < 8 ∧ T' = S.at_ t { s with os := s.os ++ [c] } ∧ P = fun v _ => v = .non
def RTForget : List V → Hp → Reg → RP → (V → Hp → Prop) → Prop := fun vs H F T' P => ∃ (t o : Addr) (s : TabS) (c : List Int) (k : Nat), vs = [.ref t, .ref o] ∧ S.at_ t s F H ∧ s.Ok ∧ H o = some (.tup (c.map V.int)) ∧ s.os[k]? = some c ∧ T' = S.at_ t { s with os := s.os.eraseIdx k } ∧ P = fun v _ => v = .non
def RTListed : List V → Hp → Reg → RP → (V → Hp → Prop) → Prop := fun vs H F T' P => ∃ (t o : Addr) (s : TabS) (c : List Int), vs = [.ref t, .ref o] ∧ S.at_ t s F H ∧ s.Ok ∧ H o = some (.tup (c.map V.int)) ∧ c ∈ s.os ∧ T' = S.at_ t s ∧ P = fun v N => ∃ (p : Addr) (ns : List Int), v = .ref p ∧ N p = some (.lst (ns.map V.int)) ∧ InOrd ahead c s.rows ns
def RTNumbers : List V → Hp → Reg → RP → (V → Hp → Prop) → Prop := fun vs H F T' P => ∃ (t : Addr) (s : TabS), vs = [.ref t] ∧ S.at_ t s F H ∧ s.Ok ∧ T' = S.at_ t s ∧ P = fun v N => ∃ (p : Addr), v = .ref p ∧ N p = some (.lst ((s.rows.map (·.1)).map V.int))
/-- a new one -/
def spTInit : Sp := fun vs H Q _ => ∃ (x dx : Addr) (wd : Nat), vs = [.ref x, .int wd] ∧ H x = some (.ins S.C dx []) ∧ H dx = some (.own x) ∧ dx ≠ x ∧ 1 ≤ wd ∧ wd ≤ 6 ∧
  ∀ (H' : Hp) (F' : Reg), (∀ a o, H a = some o → a ≠ x → a ≠ dx → H' a = some o) → (∀ a, H a ≠ none → H' a ≠ none) → S.at_ x ⟨wd, [], 0, []⟩ F' H' → (∀ a, F' a → a = x ∨ a = dx ∨ H a = none) → Q .non H'
end
/-- a promise of which the tuples that are handed out are told besides -/
def SpWM (n : Nat) (R : List V → Hp → Reg → RP → (V → Hp → Hp → Prop) → Prop) : Sp := fun vs H Q _ => vs.length = n ∧ ∃ (F : Reg) (T' : RP) (P : V → Hp → Hp → Prop), R vs H F T' P ∧
  ∀ (v : V) (N M H' : Hp) (F' : Reg), Frm F H H' → T' F' H' → (∀ a, F' a → F a ∨ H a = none) → (∀ a, N a ≠ none → H a = none ∧ ¬ F' a) → Ex N H' → Ex M H' → (∀ a o, M a = some o → Tupo o) → P v N M → Q v H'
def SpWMP (sp : Sp) (vs : List V) (T T' : RP) (F0 B : Reg) (L : Hp) (P : V → Hp → Hp → Prop) : Prop := ∀ H, Wld T F0 B L H → ∀ Q : VK, (∀ v N M H' L', (∀ a, N a ≠ none → L a = none ∧ ¬ B a) → (∀ a o, M a = some o → Tupo o) → Ex L L' → Ex N L' → Ex M L' → P v N M → Wld T' F0 B L' H' → Q v H') → ∀ E : XK, sp vs H Q E
section
variable {T T' U : RP} {F0 B : Reg} {L H : Hp} {K : PySem.W.Frag} {S : TSp K} {σ : L2.St} {ta te : TE} {t : TA} {D : Ends} {tz : TS} {n : Nat} {vs : List V}
/-- x = Table(w) -/
theorem vw_makeT {i : Nat} {sp : Sp} {E : XK} {wd : Nat} (R : Regn T) (h : EvA t σ L [.int wd]) (h0 : 1 ≤ wd) (h6 : wd ≤ 6) (he : sp = spTInit S)
    (k : ∀ x, L x = none → SvW tz D (σ.set i (some (.ref x))) (Two T (S.at_ x ⟨wd, [], 0, []⟩)) F0 B L) : SvW (tSeq (tAsg (tMake S.C sp [] E t) (gName i)) tz) D σ T F0 B L := fun H w => h H w.lx _ fun H2 e x dx nx nd ne => by
  subst he
  have w2 := w.ext R e
  have e3 : Ex H2 (upd (upd H2 dx (.own x)) x (.ins S.C dx [])) := fun a o ha => by
    rw [upd_ne (ne_of_none ha nx), upd_ne (ne_of_none ha nd)]
    exact ha
  rw [List.append_nil]
  refine ⟨x, dx, wd, rfl, upd_same, by rw [upd_ne ne, upd_same], ne, h0, h6, fun H' F' kp dm at' gr => ⟨rfl, ?_⟩⟩
  have keep : Ex H2 H' := fun a o ha => kp a o (e3 a o ha) (ne_of_none ha nx) (ne_of_none ha nd)
  have new : ∀ a, F' a → H2 a = none := fun a z => by
    rcases gr a z with q | q | q
    · rw [q]
      exact nx
    · rw [q]
      exact nd
    · exact fresh_back e3 q
  refine k x (fresh_back w2.lx nx) H' ?_
  obtain ⟨F, tt, xx, d, b, f⟩ := w2
  refine ⟨fun a => F a ∨ F' a, ⟨F, F', R.ex tt keep, at', fun a z1 z2 => ?_, fun a => Iff.rfl⟩, xx.trans keep, fun a z => ?_, fun a z => ex_dm keep a (b a z), fun a z => z.elim (f a) fun z => .inr fun y => b a y (new a z)⟩
  · obtain ⟨o, ho, _⟩ := R.dom F H2 a tt z1
    rw [new a z2] at ho
    cases ho
  · rcases z with z | z
    · exact d a z
    · exact fresh_back xx (new a z)
/-- where another region stands beside, tuples told -/
theorem spwm_l {R : List V → Hp → Reg → RP → (V → Hp → Hp → Prop) → Prop} {P : V → Hp → Hp → Prop} (RT : Regn T') (SU : Regn U) (RT0 : Regn T) (hl : vs.length = n) (h : ∀ H F, T F H → Ex L H → (∀ a, F a → L a = none) → R vs H F T' P) : SpWMP (SpWM n R) vs (Two T U) (Two T' U) F0 B L P := fun H w Q q E => by
  have w0 := w
  obtain ⟨F, ⟨F1, F2, t, u, dd, ff⟩, x, d, b, f⟩ := w
  refine ⟨hl, F1, T', P, h H F1 t x (fun a z => d a ((ff a).mpr (.inl z))), fun v N M H' F' fr t' gr dN eN eM tM p => ?_⟩
  -- the same with N and no tuples, then the tuples
  let RN : List V → Hp → Reg → RP → (V → Hp → Prop) → Prop := fun vs' H' F' T'' P' => vs' = vs ∧ H' = H ∧ F' = F1 ∧ T'' = T' ∧ P' = fun v' N' => v' = v ∧ N' = N
  have u' : U F2 H' := SU.loc F2 H H' u fun a o ha z => fr.keep a o ha fun f1 => z.elim (fun f2 => (dd a f1 f2).elim) id
  have nF : ∀ a, F2 a → ¬ F' a := fun a f2 fa => by
    rcases gr a fa with z | z
    · exact dd a z f2
    · obtain ⟨o, ho, _⟩ := SU.dom F2 H a u f2
      rw [z] at ho
      cases ho
  have wN : Wld (Two T' U) F0 B (Unn N L) H' := by
    refine ⟨fun a => F' a ∨ F2 a, ⟨F', F2, t', u', fun a y z => nF a z y, fun a => Iff.rfl⟩, unn_ex (fun a o ha => fr.keep a o (x a o ha) fun fa => by rw [d a ((ff a).mpr (.inl fa))] at ha; cases ha) eN, fun a fa => ?_, fun a z => fr.dm a (b a z), fun a fa => ?_⟩
    · cases k : Unn N L a with
      | none => rfl
      | some uu =>
        rcases unn_none (a := a) (N := N) (H := L) (by rw [k]; exact fun z => by cases z) with y | y
        · rcases fa with fa | fa
          · rcases gr a fa with z | z
            · exact (y (d a ((ff a).mpr (.inl z)))).elim
            · exact (y (fresh_back x z)).elim
          · exact (y (d a ((ff a).mpr (.inr fa)))).elim
        · rcases fa with fa | fa
          · exact ((dN a y).2 fa).elim
          · obtain ⟨o, ho, _⟩ := SU.dom F2 H a u fa
            rw [(dN a y).1] at ho
            cases ho
    · rcases fa with fa | fa
      · rcases gr a fa with z | z
        · exact f a ((ff a).mpr (.inl z))
        · exact .inr fun y => b a y z
      · exact f a ((ff a).mpr (.inr fa))
  obtain ⟨wM, eM2⟩ := wN.tup (RT.two SU) eM tM
  have eNN : Ex N (Unn N L) := unn_l fun a z => fresh_back x (dN a z).1
  exact q v N M H' _ (fun a z => ⟨fresh_back x (dN a z).1, fun y => b a y (dN a z).1⟩) tM (unn_r.trans unn_r) (eNN.trans unn_r) eM2 p wM
end
end Wy

set_option Elab.async false
set_option linter.all false
set_option maxRecDepth 100000
set_option maxHeartbeats 4000000
/-! Wp: a table and what a law holds of it. -/
namespace Wy
open PySem PySem.Spec PyProof.Rows L2 Evl
def ownK (wd : Int) (pt pl : Addr) (made : Int) (ph : Addr) (turn : Int) : List (Key × V) := [(Sum.inr "width", .int wd), (Sum.inr "there", .ref pt), (Sum.inr "orders", .ref pl), (Sum.inr "made", .int made), (Sum.inr "held", .ref ph), (Sum.inr "turn", .int turn)]
section
variable {A P D O E : RP} {F : Reg} {H : Hp}
theorem fP (h : Two A (Two P E) F H) : Two (Two A E) P F H := two_assoc' (two_impr (fun F t => two_swap t) h)
theorem fP' (h : Two (Two A E) P F H) : Two A (Two P E) F H := two_impr (fun F t => two_swap t) (two_assoc h)
theorem fX (h : Two (Two A (Two P E)) D F H) : Two (Two (Two A E) D) P F H := two_assoc' (two_impr (fun F t => two_swap t) (two_assoc (two_imp (fun F t => fP t) h)))
theorem fX' (h : Two (Two (Two A E) D) P F H) : Two (Two A (Two P E)) D F H := two_imp (fun F t => fP' t) (two_assoc' (two_impr (fun F t => two_swap t) (two_assoc h)))
theorem fD (h : Two A (Two P (Two D E)) F H) : Two (Two A (Two P E)) D F H := two_assoc' (two_impr (fun F t => fP t) h)
theorem fD' (h : Two (Two A (Two P E)) D F H) : Two A (Two P (Two D E)) F H := two_impr (fun F t => fP' t) (two_assoc h)
theorem fO (h : Two A (Two P (Two D (Two O E))) F H) : Two (Two A (Two P (Two D E))) O F H := two_assoc' (two_impr (fun F t => fD t) h)
theorem fO' (h : Two (Two A (Two P (Two D E))) O F H) : Two A (Two P (Two D (Two O E))) F H := two_impr (fun F t => fD' t) (two_assoc h)
theorem fE (h : Two A (Two P (Two D (Two O E))) F H) : Two (Two A (Two P (Two D O))) E F H := two_assoc' (two_impr (fun F t => two_assoc' (two_impr (fun F t => two_assoc' t) t)) h)
theorem fE' (h : Two (Two A (Two P (Two D O))) E F H) : Two A (Two P (Two D (Two O E))) F H := two_impr (fun F t => two_impr (fun F t => two_assoc t) (two_assoc t)) (two_assoc h)
end
/-! ### rows put and changed -/
theorem rowOf_any (n : Int) : ∀ s : Rows, (s.any fun p => decide (p.1 = n)) = (rowOf s n).isSome
  | [] => rfl
  | p :: s => by
    rw [List.any_cons, rowOf_cons, rowOf_any n s]
    by_cases c : p.1 = n
    · rw [if_pos c, decide_eq_true c]
      rfl
    · rw [if_neg c, decide_eq_false c]
      rfl
theorem putRow_new {s : Rows} {n : Int} {row : List Int} (h : rowOf s n = none) : putRow s n row = s ++ [(n, row)] := by
  unfold putRow
  rw [rowOf_any, h]
  exact if_neg (by decide)
theorem putRow_old {s : Rows} {n : Int} {row r : List Int} (h : rowOf s n = some r) : putRow s n row = s.map (fun p => if p.1 = n then (p.1, row) else p) := by
  unfold putRow
  rw [rowOf_any, h]
  exact if_pos rfl
theorem putRow_keys {s : Rows} {n : Int} {row r : List Int} (h : rowOf s n = some r) : (putRow s n row).map (·.1) = s.map (·.1) := by
  rw [putRow_old h, List.map_map]
  refine List.map_congr_left fun p _ => ?_
  show (if p.1 = n then (p.1, row) else p).1 = p.1
  split <;> rfl
theorem putRow_len {s : Rows} {n : Int} {row r : List Int} (h : rowOf s n = some r) : (putRow s n row).length = s.length := by
  rw [putRow_old h, List.length_map]
theorem rowOf_map {n : Int} {row : List Int} (m : Int) : ∀ s : Rows, rowOf (s.map fun p => if p.1 = n then (p.1, row) else p) m = if n = m then (rowOf s m).map fun _ => row else rowOf s m
  | [] => by split <;> rfl
  | p :: s => by
    rw [List.map_cons, rowOf_cons, rowOf_map m s, rowOf_cons]
    by_cases c : p.1 = n
    · rw [if_pos c]
      by_cases d : p.1 = m
      · rw [if_pos d, if_pos d, if_pos (by rw [← c]; exact d)]
        rfl
      · rw [if_neg d, if_neg d]
    · rw [if_neg c]
      by_cases d : p.1 = m
      · rw [if_pos d, if_pos d, if_neg (by rw [← d]; exact fun z => c z.symm)]
      · rw [if_neg d, if_neg d]
theorem rowOf_putRow {s : Rows} {n m : Int} {row r : List Int} (h : rowOf s n = some r) : rowOf (putRow s n row) m = if n = m then some row else rowOf s m := by
  rw [putRow_old h, rowOf_map]
  by_cases c : n = m
  · rw [if_pos c, if_pos c, ← c, h]
    rfl
  · rw [if_neg c, if_neg c]
/-! ### a table stays good -/
theorem TabS.Ok.new {s : TabS} (h : s.Ok) : rowOf s.rows s.made = none := rowOf_none fun hm => by
  have := (h.lt _ hm).2
  omega
theorem TabS.Ok.put {s : TabS} {row : List Int} (h : s.Ok) (hw : row.length = s.wd) (hl : s.rows.length < 200) : TabS.Ok { s with rows := s.rows ++ [(s.made, row)], made := s.made + 1 } where
  w1 := h.w1
  w6 := h.w6
  nd := by
    show ((s.rows ++ [(s.made, row)]).map (·.1)).Pairwise (· < ·)
    rw [List.map_append]
    exact List.pairwise_append.mpr ⟨h.nd, List.pairwise_singleton _ _, fun a ha b hb => by
      rw [List.mem_singleton.mp hb]
      exact (h.lt a ha).2⟩
  lt := fun n hn => by
    have hn' : n ∈ (s.rows ++ [(s.made, row)]).map (·.1) := hn
    rw [List.map_append] at hn'
    show 0 ≤ n ∧ n < s.made + 1
    have := h.m0
    rcases List.mem_append.mp hn' with g | g
    · have := h.lt n g
      omega
    · have e : n = s.made := List.mem_singleton.mp g
      omega
  wide := fun n r hr => by
    have hr' : rowOf (s.rows ++ [(s.made, row)]) n = some r := hr
    rw [rowOf_snoc] at hr'
    cases z : rowOf s.rows n with
    | some x =>
      rw [z] at hr'
      rw [← Option.some.inj hr']
      exact h.wide n x z
    | none =>
      rw [z] at hr'
      simp only at hr'
      split at hr'
      · rw [← Option.some.inj hr']
        exact hw
      · cases hr'
  l200 := by
    show (s.rows ++ [(s.made, row)]).length ≤ 200
    rw [List.length_append]
    simp only [List.length_singleton]
    omega
  m0 := by
    show 0 ≤ s.made + 1
    have := h.m0
    omega
  od := h.od
  oc := h.oc
  o8 := h.o8
theorem TabS.Ok.drop {s : TabS} {n : Int} (h : s.Ok) : TabS.Ok { s with rows := s.rows.filter fun p => decide (¬ p.1 = n) } where
  w1 := h.w1
  w6 := h.w6
  nd := h.nd.sublist (List.Sublist.map _ List.filter_sublist)
  lt := fun m hm => h.lt m ((List.Sublist.map _ List.filter_sublist).subset hm)
  wide := fun m r hr => by
    have hr' : rowOf (s.rows.filter fun p => decide (¬ p.1 = n)) m = some r := hr
    rw [rowOf_filter] at hr'
    split at hr'
    · cases hr'
    · exact h.wide m r hr'
  l200 := Nat.le_trans (List.length_filter_le _ _) h.l200
  m0 := h.m0
  od := h.od
  oc := h.oc
  o8 := h.o8
theorem TabS.Ok.change {s : TabS} {n : Int} {row r : List Int} (h : s.Ok) (hn : rowOf s.rows n = some r) (hw : row.length = s.wd) : TabS.Ok { s with rows := putRow s.rows n row } where
  w1 := h.w1
  w6 := h.w6
  nd := by
    show ((putRow s.rows n row).map (·.1)).Pairwise (· < ·)
    rw [putRow_keys hn]
    exact h.nd
  lt := fun m hm => h.lt m (by
    have hm' : m ∈ (putRow s.rows n row).map (·.1) := hm
    rw [putRow_keys hn] at hm'
    exact hm')
  wide := fun m r hr => by
    have hr' : rowOf (putRow s.rows n row) m = some r := hr
    rw [rowOf_putRow hn] at hr'
    split at hr'
    · rw [← Option.some.inj hr']
      exact hw
    · exact h.wide m r hr'
  l200 := by
    show (putRow s.rows n row).length ≤ 200
    rw [putRow_len hn]
    exact h.l200
  m0 := h.m0
  od := h.od
  oc := h.oc
  o8 := h.o8
theorem TabS.Ok.tell {s : TabS} {c : List Int} (h : s.Ok) (h0 : c ≠ []) (h1 : c.Nodup) (h2 : ∀ x ∈ c, 0 ≤ x ∧ x < s.wd) (h6 : c.length ≤ 6) (h3 : c ∉ s.os) (h4 : s.os.length < 8) : TabS.Ok { s with os := s.os ++ [c] } where
  w1 := h.w1
  w6 := h.w6
  nd := h.nd
  lt := h.lt
  wide := h.wide
  l200 := h.l200
  m0 := h.m0
  od := List.nodup_append.mpr ⟨h.od, List.nodup_cons.mpr ⟨List.not_mem_nil, List.nodup_nil⟩, fun a ha b hb e => h3 (by
    rw [← List.mem_singleton.mp hb, ← e]
    exact ha)⟩
  oc := fun d hd => by
    rcases List.mem_append.mp hd with g | g
    · exact h.oc d g
    · rw [List.mem_singleton.mp g]
      exact ⟨h0, h1, h2, h6⟩
  o8 := by
    show (s.os ++ [c]).length ≤ 8
    rw [List.length_append]
    simp only [List.length_singleton]
    omega
theorem TabS.Ok.forget {s : TabS} {k : Nat} (h : s.Ok) : TabS.Ok { s with os := s.os.eraseIdx k } where
  w1 := h.w1
  w6 := h.w6
  nd := h.nd
  lt := h.lt
  wide := h.wide
  l200 := h.l200
  m0 := h.m0
  od := h.od.sublist (List.eraseIdx_sublist ..)
  oc := fun d hd => h.oc d ((List.eraseIdx_sublist ..).subset hd)
  o8 := Nat.le_trans (List.eraseIdx_sublist ..).length_le h.o8
theorem TabS.Ok.empty {wd : Nat} (h1 : 1 ≤ wd) (h6 : wd ≤ 6) : TabS.Ok ⟨wd, [], 0, []⟩ where
  w1 := h1
  w6 := h6
  nd := List.Pairwise.nil
  lt := fun n h => (List.not_mem_nil h).elim
  wide := fun n r h => nomatch (show (none : Option (List Int)) = some r from h)
  l200 := Nat.zero_le _
  m0 := Int.le_refl _
  od := List.nodup_nil
  oc := fun c h => (List.not_mem_nil h).elim
  o8 := Nat.zero_le _
/-! ### the whole -/
/-- where a law's dict and its parts stand -/
structure OwnA where
  po : Addr
  pt : Addr
  pl : Addr
  ph : Addr
def tput (s : TabS) (row : List Int) : TabS := if s.rows.length < 200 then { s with rows := s.rows ++ [(s.made, row)], made := s.made + 1 } else s
section
variable {K : PySem.W.Frag} (S : TSp K)
def OwnT (o : OwnA) (s : TabS) (turn : Int) (ps : List HeldP) : RP := Two (PoR o.po (ownK s.wd o.pt o.pl s.made o.ph turn)) (Two (DtR o.pt s.rows) (Two (OrdR o.pl s.os) (HeldE o.ph ps)))
def WT (t : Addr) (o : OwnA) (s : TabS) (turn : Int) (ps : List HeldP) : RP := Two (S.at_ t s) (OwnT o s turn ps)
theorem ownT_regn (o : OwnA) (s : TabS) (turn : Int) (ps : List HeldP) : Regn (OwnT o s turn ps) := (poR_regn _ _).two ((dtR_regn _ _).two ((ordR_regn _ _).two (heldE_regn _ _)))
theorem wT_regn (t : Addr) (o : OwnA) (s : TabS) (turn : Int) (ps : List HeldP) : Regn (WT S t o s turn ps) := (S.regn _ _).two (ownT_regn o s turn ps)
end
section
variable {T T' T'' U : RP} {F F0 B0 : Reg} {L L' H H' N : Hp} {K : PySem.W.Frag} {S : TSp K} {σ : L2.St} {ta tb tc te tl ty : TE} {t u : TT} {x y z v w' : V} {D : Ends} {tu tw tz ts : TS} {P P' : V → Hp → Prop} {Q : VK}
theorem units65 {A : Around} {k : Nat} (hr : Room k A) : A.units + 65 < cLine := by
  have := hr.un
  omega
theorem Wld.fst (w : Wld (Two T U) F0 B0 L H) : Wld T F0 B0 L H := by
  obtain ⟨F, ⟨F1, F2, t, u, dj, ff⟩, x, d, b, f⟩ := w
  exact ⟨F1, t, x, fun a z => d a ((ff a).mpr (.inl z)), b, fun a z => f a ((ff a).mpr (.inl z))⟩
theorem wT_got {S : TSp K} {t : Addr} {o : OwnA} {s : TabS} {turn : Int} {ps : List HeldP} {F : Reg} {H : Hp} (h : WT S t o s turn ps F H) : H o.po = some (.dK (ownK s.wd o.pt o.pl s.made o.ph turn)) ∧ Dc K H o.pt s.rows ∧ (∃ F2, OrdR o.pl s.os F2 H) ∧ (∃ F2, HeldE o.ph ps F2 H) ∧
    ∃ dx fs, H t = some (.ins S.C dx fs) ∧ ∀ m ∈ tabNames, fs.lookup m = none := by
  obtain ⟨_, _, a, ⟨_, _, ⟨p, _⟩, ⟨_, _, d, ⟨_, _, o, e, _⟩, _⟩, _⟩, _⟩ := h
  obtain ⟨dx, fs, i1, _, i2⟩ := S.ins a
  exact ⟨p, d.dc, ⟨_, o⟩, ⟨_, e⟩, dx, fs, i1, i2⟩
theorem ean_imp {ta : TA} {PA PA' : List V → Hp → Prop} (h : EvAN ta σ H PA) (i : ∀ vs N, PA vs N → PA' vs N) : EvAN ta σ H PA' := fun H1 e Q k => h H1 e Q fun vs N H2 d p x y => k vs N H2 d (i vs N p) x y
/-- own["..."] -/
theorem ev_own {po : Addr} {kvs : List (Key × V)} {k : Str} (ha : Ev ta σ H (.ref po)) (hp : H po = some (.dK kvs)) (hk : valV kvs (Sum.inr k) = some v) : Ev (tDGet ta (tC (.str k))) σ H v :=
  ev_dget ha ev_c (by
    have g := DGet.k (k := Sum.inr k) hp
    rw [hk] at g
    exact g)
/-- a call by which a new list of the caller's becomes the region's -/
theorem ew_clO {sp : Sp} {E : XK} {t : TA} {PA : List V → Hp → Prop} {p : V → Prop} (R : Regn T) (ht : ∀ H, Wld T F0 B0 L H → EvAN t σ H PA) (hs : ∀ vs N, PA vs N → ∃ (U : RP) (F2 : Reg), Regn U ∧ U F2 N ∧ (∀ a, F2 a → N a ≠ none) ∧ SpWP sp vs (Two T U) T' F0 B0 L fun v _ => p v) : EvW (tCall sp [] E t) σ T T' F0 B0 L fun v _ => p v := fun H w Q q =>
  ht H w H (Ex.refl H) _ fun vs N H3 d pa x y => by
    rw [List.append_nil]
    obtain ⟨U, F2, RU, hu, hF, hs2⟩ := hs vs N pa
    have nB : ∀ b, N b ≠ none → ¬ B0 b := fun b z g => let ⟨_, _, _, _, bb, _⟩ := w; bb b g (d b z)
    have w1 := w.new R y d x
    have uL : U F2 (Unn N L) := RU.ex hu (unn_l fun a z => fresh_back w.lx (d a z))
    have w2 := w1.own R RU uL fun a z => nB a (hF a z)
    have w3 : Wld (Two T U) F0 B0 L H3 := w2.weak fun a o h => by
      rw [out_at fun z => ?_]
      · exact unn_r _ _ h
      · have g := w.lx _ _ h
        rw [d a (hF a z)] at g
        cases g
    exact hs2 H3 w3 Q (fun v N' H' d' pv w' => q v nonew H' (fun b z => (z rfl).elim) pv (w'.weak (unn_no.trans unn_r))) E
theorem vw_clear' {l : Addr} {xs : List V} (R : Regn T) (hl : L l = some (.lst xs)) (ha : Ev ta σ L (.ref l)) (k : ∀ L', (∀ a o, a ≠ l → L a = some o → L' a = some o) → SvW tNext D σ T F0 B0 L') : SvW (tDrop (tBM0 K "list" rClear ta)) D σ T F0 B0 L := fun H w =>
  ha H w.lx _ fun H2 e2 => have w2 := w.ext R e2
    ⟨Or.inl ⟨rfl, xs, sq_of (w2.lx _ _ hl)⟩, l, xs, rfl, rfl, w2.lx _ _ hl, k _ (fun a o n h => by rw [upd_ne n]; exact h) _ (w2.put R hl (fun ⟨_, z⟩ => by cases z))⟩
theorem ew_mtR {C : Addr} {m : Str} {sp : Sp} {E : XK} {a : Addr} {t : TA} {vs : List V} (R : Regn T) (h : Ev ta σ L (.ref a)) (hi : ∀ H, Wld T F0 B0 L H → ∃ dx fs, H a = some (.ins C dx fs) ∧ fs.lookup m = none) (ht : ∀ H, Wld T F0 B0 L H → EvA t σ H vs) (hs : SpWP sp (.ref a :: vs) T T' F0 B0 L P) : EvW (tMeth C m sp [] E ta t) σ T T' F0 B0 L P := fun H w Q q =>
  h H w.lx _ fun H2 e => by
    obtain ⟨dx, fs, h1, h2⟩ := hi H2 (w.ext R e)
    refine ⟨a, dx, fs, rfl, h1, h2, ht H2 (w.ext R e) H2 (Ex.refl _) _ fun H3 e3 => ?_⟩
    rw [List.append_nil]
    exact hs H3 ((w.ext R e).ext R e3) Q q E
/-- table.forget(orders.pop(k)) -/
theorem ew_forget {A R : RP} {C : Addr} {m : Str} {sp : Sp} {E : XK} {a pl : Addr} {t0 tl ti : TE} {os : List (List Int)} {c : List Int} {i : Int} {k : Nat} (RA : Regn A) (RR : Regn R) (h0 : Ev t0 σ L (.ref a)) (hi : ∀ F H, A F H → ∃ dx fs, H a = some (.ins C dx fs) ∧ fs.lookup m = none) (hl : Ev tl σ L (.ref pl)) (hx : ∀ H, Wld (Two A (Two R (OrdR pl os))) F0 B0 L H → Ev ti σ H (.int i))
    (hk : seqIndex? i os.length = some k) (b1 : -(2 ^ 63) ≤ i) (b2 : i < 2 ^ 63) (hc : os[k]? = some c)
    (hs : ∀ q L', Ex L L' → L' q = some (.tup (c.map V.int)) → SpWP sp [.ref a, .ref q] (Two A (Two R (OrdR pl (os.eraseIdx k)))) T' F0 B0 L' fun v _ => v = .non) :
    EvW (tMeth C m sp [] E t0 (tCons (tBM K "list" rPopAt tl (tCons ti tNil)) tNil)) σ (Two A (Two R (OrdR pl os))) T' F0 B0 L fun v _ => v = .non := fun H w Q q => by
  have R0 := RA.two (RR.two (ordR_regn pl os))
  refine h0 H w.lx _ fun H2 e2 => ?_
  have w2 := w.ext R0 e2
  obtain ⟨dx, fs, i1, i2⟩ : ∃ dx fs, H2 a = some (.ins C dx fs) ∧ fs.lookup m = none := by
    obtain ⟨_, ⟨_, _, ha, _⟩, _⟩ := w2
    exact hi _ _ ha
  have get : ∀ {H}, Wld (Two A (Two R (OrdR pl os))) F0 B0 L H → ∃ xs, H pl = some (.lst xs) ∧ Paired (OrdIs H) xs os := fun w => by
    obtain ⟨_, ⟨_, _, _, ⟨_, _, _, ⟨xs, h1, h2, _⟩, _⟩, _⟩, _⟩ := w
    exact ⟨xs, h1, h2⟩
  refine ⟨a, dx, fs, rfl, i1, i2, hl H2 w2.lx _ fun H3 e3 => ?_⟩
  have w3 := w2.ext R0 e3
  obtain ⟨xs3, g3, _⟩ := get w3
  refine ⟨Or.inl ⟨rfl, xs3, sq_of g3⟩, hx H3 w3 H3 (Ex.refl _) _ fun H4 e4 => ?_⟩
  have w4 := w3.ext R0 e4
  obtain ⟨xs, g4, hp⟩ := get w4
  obtain ⟨y, hy, q0, ey, hq0⟩ := paired_get hp hc
  subst ey
  refine ⟨pl, xs, i, k, _, rfl, rfl, g4, b1, b2, by rw [paired_len hp]; exact hk, hy, ?_⟩
  show sp [V.ref a, V.ref q0] _ Q E
  have w5 : Wld (Two (Two A R) (OrdR pl (os.eraseIdx k))) F0 B0 L (upd H4 pl (.lst (xs.eraseIdx k))) := Wld.upd1 (U := OrdR pl os) (RA.two RR) (w4.imp fun F t => two_assoc' t) fun F2 ⟨xs', h1', h2, f1, h5⟩ => by
    have e : xs' = xs := by
      rw [g4] at h1'
      injection h1' with h1'
      injection h1' with h1'
      exact h1'.symm
    subst e
    refine ⟨f1, fun o ho ⟨_, t⟩ => (by rw [g4, t] at ho; cases ho), _, upd_same, ?_, f1, dom_upd h5 fun ⟨_, t⟩ => (by cases t)⟩
    refine paired_erase (paired_imp (fun e p r => ordIs_loc r fun a o h ⟨_, t⟩ => ?_) h2) k
    rw [upd_ne fun e => by rw [e, g4, t] at h; cases h]
    exact h
  have w6 := w5.imp fun F t => two_assoc t
  have nq : q0 ≠ pl := fun e => by
    rw [e, g4] at hq0
    cases hq0
  have hq5 : (upd H4 pl (.lst (xs.eraseIdx k))) q0 = some (.tup (c.map V.int)) := by
    rw [upd_ne nq]
    exact hq0
  obtain ⟨w7, eM⟩ := w6.tup (M := one q0 (.tup (c.map V.int))) (RA.two (RR.two (ordR_regn pl _))) (one_ex hq5) fun b o hb => by
    have e := one_ne (p := q0) (a := b) (o := .tup (c.map V.int)) (by rw [hb]; exact fun z => by cases z)
    subst e
    rw [one_at] at hb
    exact ⟨_, (Option.some.inj hb).symm⟩
  exact hs q0 _ unn_r (eM _ _ one_at) _ w7 Q (fun v N H' d p w' => q v nonew H' (fun b z => (z rfl).elim) p (w'.weak (unn_no.trans (unn_r.trans unn_r)))) E
/-- [e for x in t if c], t a tuple of which c holds nowhere -/
theorem el_lcT0 {a : Addr} {xs : List V} {j : Nat} {vs : List Nat} {tt : TT} (h : Ev tl σ H (.ref a)) (hx : SqT K H a xs) (hz : xs.length ≤ 40000) (hw : ∀ x, wipe ((wipe σ vs).set j (some x)) vs = wipe σ vs)
    (ht : ∀ (i : Nat) (x : V), xs[i]? = some x → EvT tt ((wipe σ vs).set j (some x)) H false) : EvL (tLc (iTup K tl) (gName j) tt te vs) σ H [] := fun H0 e Q q => h H0 e _ fun H1 e1 => ⟨a, rfl, ⟨xs, ex_t (e.trans e1) hx⟩, fun Dl hD =>
  lc_tup (K := K) (a := a) (xs := xs) (fun i H' => Ex H1 H' ∧ H' Dl = some (.lst [])) ⟨Ex.new hD, upd_same⟩ (fun i H' _ p => ex_t ((e.trans e1).trans p.1) hx)
    (fun i x H' hi p => ⟨hw x, by
      refine ht i x hi H' ((e.trans e1).trans p.1) _ fun H4 e4 => ?_
      exact ⟨p.1.trans e4, e4 _ _ p.2⟩⟩)
    (fun H' p => q Dl H' (fresh_back e1 hD) (e1.trans p.1) p.2)⟩
end
end Wy

set_option Elab.async false
set_option linter.all false
set_option maxRecDepth 100000
set_option maxHeartbeats 4000000
/-! Wq: the orders told by a table; lists walked backwards. -/
namespace Wy
open PySem PySem.Spec PyProof.Rows L2 Evl
section
variable {K : PySem.W.Frag} (S : TSp K)
def RTOrders : List V → Hp → Reg → RP → (V → Hp → Hp → Prop) → Prop := fun vs H F T' P => ∃ (t : Addr) (s : TabS), vs = [.ref t] ∧ S.at_ t s F H ∧ s.Ok ∧ T' = S.at_ t s ∧ P = fun v N M => ∃ (p : Addr) (xs : List V), v = .ref p ∧ N p = some (.lst xs) ∧ Paired (OrdIs M) xs s.os
end
def EvWM (te : TE) (σ : L2.St) (T T' : RP) (F0 B : Reg) (L : Hp) (P : V → Hp → Hp → Prop) : Prop := ∀ H, Wld T F0 B L H → ∀ Q : VK, (∀ v N M H' L', (∀ a, N a ≠ none → L a = none ∧ ¬ B a) → (∀ a o, M a = some o → Tupo o) → Ex L L' → Ex N L' → Ex M L' → P v N M → Wld T' F0 B L' H' → Q v H') → te σ H Q
section
variable {T T' T'' U : RP} {F F0 B0 : Reg} {L L' H H' N : Hp} {K : PySem.W.Frag} {S : TSp K} {σ : L2.St} {ta : TA} {tb tc te tl ty : TE} {t u : TT} {x y z v w' : V} {D : Ends} {tu tw tz ts : TS} {P : V → Hp → Hp → Prop} {Q : VK}
theorem ew_mtM {C : Addr} {m : Str} {sp : Sp} {E : XK} {a : Addr} {t : TA} {vs : List V} (R : Regn T) (h : Ev te σ L (.ref a)) (hi : ∀ H, Wld T F0 B0 L H → ∃ dx fs, H a = some (.ins C dx fs) ∧ fs.lookup m = none) (ht : EvA t σ L vs) (hs : SpWMP sp (.ref a :: vs) T T' F0 B0 L P) : EvWM (tMeth C m sp [] E te t) σ T T' F0 B0 L P := fun H w Q q =>
  h H w.lx _ fun H2 e => by
    obtain ⟨dx, fs, h1, h2⟩ := hi H2 (w.ext R e)
    refine ⟨a, dx, fs, rfl, h1, h2, ht H2 (w.ext R e).lx _ fun H3 e3 => ?_⟩
    rw [List.append_nil]
    exact hs H3 ((w.ext R e).ext R e3) Q q E
theorem vw_asgM {i : Nat} (h : EvWM te σ T T' F0 B0 L P) (k : ∀ v N M L', (∀ a, N a ≠ none → L a = none ∧ ¬ B0 a) → (∀ a o, M a = some o → Tupo o) → Ex L L' → Ex N L' → Ex M L' → P v N M → SvW tz D (σ.set i (some v)) T' F0 B0 L') : SvW (tSeq (tAsg te (gName i)) tz) D σ T F0 B0 L := fun H w =>
  h H w _ fun v N M H' L' d tM e1 e2 e3 p w' => k v N M L' d tM e1 e2 e3 p H' w'
/-- for x in reversed(a list of the region) -/
theorem vw_forRevR {a : Addr} {xs : List V} {j : Nat} (R : Regn T) (h : ∀ H, Wld T F0 B0 L H → EvA ta σ H [.ref a] ∧ SqL K H a xs) (I : Nat → L2.St → RP → Hp → Prop) (h0 : I 0 σ T L) (hl : ∀ i σ' T' L' H, I i σ' T' L' → Wld T' F0 B0 L' H → SqL K H a xs)
    (hs : ∀ i x σ' T' L', xs[xs.length - 1 - i]? = some x → I i σ' T' L' → SvW tu { D with nx := KnW F0 B0 (I (i + 1)), ct := KnW F0 B0 (I (i + 1)), bk := tz D } (σ'.set j (some x)) T' F0 B0 L') (hd : ∀ σ' T' L', I xs.length σ' T' L' → SvW tz D σ' T' F0 B0 L') : SvW (tSeq (tFor (iRev K ta) (gName j) tu) tz) D σ T F0 B0 L :=
  fun H w => (h H w).1 H (Ex.refl H) _ fun H2 e2 => ⟨a, xs, rfl, ex_l e2 (h H w).2, RT.for_Itv (K := K) (a := a) (xs := xs) (D := { D with nx := tz D }) (fun i => KnW F0 B0 (I i)) ⟨T, L, h0, w.ext R e2⟩ (fun i σ' H3 ⟨T', L', p, w'⟩ => hl i σ' T' L' H3 p w')
    (fun i x σ' H3 _ hi ⟨T', L', p, w'⟩ => hs i x σ' T' L' hi p H3 w') (fun σ' H3 ⟨T', L', p, w'⟩ => hd σ' T' L' p H3 w')⟩
/-- a tuple of the region told of -/
theorem vw_tup {q : Addr} {ys : List V} (R : Regn T) (h : ∀ H, Wld T F0 B0 L H → H q = some (.tup ys)) (k : ∀ L', Ex L L' → L' q = some (.tup ys) → SvW ts D σ T F0 B0 L') : SvW ts D σ T F0 B0 L := fun H w => by
  obtain ⟨w7, eM⟩ := w.tup (M := one q (.tup ys)) R (one_ex (h H w)) fun b o hb => by
    have e := one_ne (p := q) (a := b) (o := .tup ys) (by rw [hb]; exact fun z => by cases z)
    subst e
    rw [one_at] at hb
    exact ⟨_, (Option.some.inj hb).symm⟩
  exact k _ unn_r (eM _ _ one_at) H w7
variable {P1 : V → Hp → Prop}
theorem eaw_consR {tr : TA} {vs : List V} (R : Regn T') (h : EvW te σ T T' F0 B0 L P1) (hr : ∀ N H', Wld T' F0 B0 (Unn N L) H' → EvA tr σ H' vs) : EaW (tCons te tr) σ T T' F0 B0 L fun ws N => ∃ v, ws = v :: vs ∧ P1 v N := fun H w Q q =>
  h H w _ fun v N H2 d p w2 => hr N H2 w2 H2 (Ex.refl _) _ fun H3 e3 => q (v :: vs) N H3 d ⟨v, rfl, p⟩ (w2.ext R e3)
/-- two sides, the first over the region, the second read in it -/
theorem ew_op2R {r : R2} {P2 : V → Hp → Prop} (R : Regn T') (ha : EvW te σ T T' F0 B0 L P1) (hb : ∀ N H', Wld T' F0 B0 (Unn N L) H' → EvP tb σ H' P2) (hr : ∀ x N y H2, (∀ a, N a ≠ none → L a = none ∧ ¬ B0 a) → P1 x N → P2 y H2 → Ex (Unn N L) H2 → RV r x y H2 z) : EvW (tOp r te tb) σ T T' F0 B0 L fun v _ => v = z := fun H w Q q =>
  ha H w _ fun x N H2 d p w2 => hb N H2 w2 H2 (Ex.refl _) _ fun y H3 e3 p2 => hr x N y H3 d p p2 (w2.lx.trans e3) H3 (Ex.refl _) Q fun H4 e4 => q z N H4 d rfl ((w2.ext R e3).ext R e4)
/-- xs.append(a new tuple) -/
theorem vw_appU {l : Addr} {xs ys : List V} (R : Regn T) (hl : L l = some (.lst xs)) (ha : Ev ty σ L (.ref l)) (h : EvU te σ L ys) (hz : xs.length < 100000) (k : ∀ p L', (∀ a o, a ≠ l → L a = some o → L' a = some o) → L p = none → L' p = some (.tup ys) → L' l = some (.lst (xs ++ [.ref p])) → (∀ a, L' a ≠ none → L a ≠ none ∨ a = p) → SvW tz D σ T F0 B0 L') : SvW (tSeq (tDrop (tBM K "list" rAppend ty (tCons te tNil))) tz) D σ T F0 B0 L := fun H w =>
  ha H w.lx _ fun H2 e2 => ⟨Or.inl ⟨rfl, xs, sq_of ((w.ext R e2).lx _ _ hl)⟩, h H2 (w.ext R e2).lx _ fun p H3 np e3 hp => by
    have w2 := w.ext R e2
    have nN : ∀ a, (one p (.tup ys)) a ≠ none → H2 a = none := fun a z => by
      rw [one_ne z]
      exact np
    have w3 := w2.new R e3 nN (one_ex hp)
    have npL : L p = none := fresh_back w2.lx np
    have npl : p ≠ l := fun e => by
      rw [e, hl] at npL
      cases npL
    have hl3 : (Unn (one p (.tup ys)) L) l = some (.lst xs) := unn_r _ _ hl
    refine ⟨l, xs, _, rfl, rfl, w3.lx _ _ hl3, sz_lt hz, k p (upd (Unn (one p (.tup ys)) L) l (.lst (xs ++ [.ref p]))) (fun a o n h => ?_) npL ?_ upd_same (fun a z => ?_) _ (w3.put R hl3 (fun ⟨_, z⟩ => by cases z))⟩
    · rw [upd_ne n]
      exact unn_r _ _ h
    · rw [upd_ne npl]
      exact unn_l (fun a z => by rw [one_ne z]; exact npL) _ _ one_at
    · by_cases c : a = l
      · rw [c, hl]
        exact .inl fun z => by cases z
      · rw [upd_ne c] at z
        rcases unn_none z with z | z
        · exact .inl z
        · exact .inr (one_ne z)⟩
end
/-! ### the orders' tuples told of -/
theorem paired_getL {α β : Type} {R : α → β → Prop} : ∀ {l : List α} {m : List β} {i : Nat} {x : α}, Paired R l m → l[i]? = some x → ∃ y, m[i]? = some y ∧ R x y
  | _, _, i, x, .nil, h => by cases h
  | _ :: _, y :: _, 0, x, .cons a b, h => ⟨y, rfl, by rw [← Option.some.inj h]; exact a⟩
  | _ :: _, _ :: _, i + 1, x, .cons a b, h => paired_getL (i := i) b h
def OrdE (pl : Addr) (xs : List V) (os : List (List Int)) : RP := fun F H => H pl = some (.lst xs) ∧ Paired (OrdIs H) xs os ∧ F pl ∧ ∀ a, F a → ∃ o, H a = some o ∧ ¬ Tupo o
theorem ordE_regn (pl : Addr) (xs : List V) (os : List (List Int)) : Regn (OrdE pl xs os) where
  loc := fun F H H' ⟨h1, h2, f1, h3⟩ k => ⟨k _ _ h1 (.inl f1), paired_imp (fun e p r => ordIs_loc r fun a o h t => k a o h (.inr t)) h2, f1, fun a z => let ⟨o, ho, nt⟩ := h3 a z; ⟨o, k _ _ ho (.inl z), nt⟩⟩
  dom := fun F H a ⟨_, _, _, h3⟩ z => h3 a z
section
variable {K : PySem.W.Frag} (S : TSp K)
def OwnX (o : OwnA) (s : TabS) (xs : List V) (turn : Int) (ps : List HeldP) : RP := Two (PoR o.po (ownK s.wd o.pt o.pl s.made o.ph turn)) (Two (DtR o.pt s.rows) (Two (OrdE o.pl xs s.os) (HeldE o.ph ps)))
def WX (t : Addr) (o : OwnA) (s : TabS) (xs : List V) (turn : Int) (ps : List HeldP) : RP := Two (S.at_ t s) (OwnX o s xs turn ps)
theorem ownX_regn (o : OwnA) (s : TabS) (xs : List V) (turn : Int) (ps : List HeldP) : Regn (OwnX o s xs turn ps) := (poR_regn _ _).two ((dtR_regn _ _).two ((ordE_regn _ _ _).two (heldE_regn _ _)))
theorem wX_regn (t : Addr) (o : OwnA) (s : TabS) (xs : List V) (turn : Int) (ps : List HeldP) : Regn (WX S t o s xs turn ps) := (S.regn _ _).two (ownX_regn o s xs turn ps)
variable {S} {t : Addr} {o : OwnA} {s : TabS} {xs : List V} {turn : Int} {ps : List HeldP} {F : Reg} {H : Hp}
theorem wt_x (h : WT S t o s turn ps F H) : ∃ xs, WX S t o s xs turn ps F H := by
  obtain ⟨Fa, Fo, a, ⟨Fp, Fr, p, ⟨Fd, Fs, d, ⟨Fl, Fe, ⟨xs, g1, g2, g3, g4⟩, e, r1⟩, r2⟩, r3⟩, r4⟩ := h
  exact ⟨xs, Fa, Fo, a, ⟨Fp, Fr, p, ⟨Fd, Fs, d, ⟨Fl, Fe, ⟨g1, g2, g3, g4⟩, e, r1⟩, r2⟩, r3⟩, r4⟩
theorem x_wt (h : WX S t o s xs turn ps F H) : WT S t o s turn ps F H := two_impr (fun F h => two_impr (fun F h => two_impr (fun F h => two_imp (fun F ⟨g1, g2, g3, g4⟩ => ⟨xs, g1, g2, g3, g4⟩) h) h) h) h
theorem wX_got (h : WX S t o s xs turn ps F H) : H o.po = some (.dK (ownK s.wd o.pt o.pl s.made o.ph turn)) ∧ Dc K H o.pt s.rows ∧ (H o.pl = some (.lst xs) ∧ Paired (OrdIs H) xs s.os) ∧ (∃ F2, HeldE o.ph ps F2 H) ∧
    ∃ dx fs, H t = some (.ins S.C dx fs) ∧ ∀ m ∈ tabNames, fs.lookup m = none := by
  obtain ⟨_, _, a, ⟨_, _, ⟨p, _⟩, ⟨_, _, d, ⟨_, _, ⟨g1, g2, _⟩, e, _⟩, _⟩, _⟩, _⟩ := h
  obtain ⟨dx, fs, i1, _, i2⟩ := S.ins a
  exact ⟨p, d.dc, ⟨g1, g2⟩, ⟨_, e⟩, dx, fs, i1, i2⟩
end
section
variable {T T' : RP} {F0 B0 : Reg} {L L' H : Hp} {σ : L2.St} {ta tb te : TE} {y z : V} {P1 : V → Hp → Prop} {P : V → Hp → Hp → Prop}
theorem etw_test {b : Bool} (h : EvW te σ T T' F0 B0 L fun v _ => v = .bl b) : EtW (tTest te) σ T T' F0 B0 L b := fun H w Q q => h H w _ fun v N H2 d p w' => ⟨b, p, q N H2 d w'⟩
theorem en_p2 {P2 : V → Hp → Prop} (h : EvN te σ H P2) (m : ∀ v N N', Ex N N' → P2 v N → P2 v N') : EvP te σ H P2 := h.p m
theorem ev_opP2 {x : V} {r : R2} {P2 : V → Hp → Prop} (ha : Ev ta σ H x) (hb : EvP tb σ H P2) (hr : ∀ y H2, Ex H H2 → P2 y H2 → RV r x y H2 z) : Ev (tOp r ta tb) σ H z := fun H1 e Q q =>
  ha H1 e _ fun H2 e2 => hb H2 (e.trans e2) _ fun y H3 e3 p => hr y H3 ((e.trans e2).trans e3) p H3 (Ex.refl _) Q fun H4 e4 => q H4 ((e2.trans e3).trans e4)
/-- two sides, the first with tuples told, the second read in the region -/
theorem ew_opMR {r : R2} (R : Regn T') (ha : EvWM ta σ T T' F0 B0 L P) (hb : ∀ L' H', Ex L L' → Wld T' F0 B0 L' H' → Ev tb σ H' y) (hr : ∀ x N M L' H2, Ex N L' → Ex M L' → P x N M → Wld T' F0 B0 L' H2 → RV r x y H2 z) : EvW (tOp r ta tb) σ T T' F0 B0 L fun v _ => v = z := fun H w Q q =>
  ha H w _ fun x N M H2 L' d tM e1 e2 e3 p w2 => hb L' H2 e1 w2 H2 (Ex.refl _) _ fun H3 e4 => hr x N M L' H3 e2 e3 p (w2.ext R e4) H3 (Ex.refl _) Q fun H4 e5 => q z nonew H4 (fun a g => (g rfl).elim) rfl (((w2.ext R e4).ext R e5).weak (unn_no.trans e1))
/-- own = {..} -/
def ownK0 (wd : Int) (pt pl ph : Addr) : List (Key × V) := [(Sum.inr "width", .int wd), (Sum.inr "there", .ref pt), (Sum.inr "orders", .ref pl), (Sum.inr "made", .int 0), (Sum.inr "held", .ref ph)]
theorem vw_newOwn {D : Ends} {tz : TS} {i : Nat} {wd : Int} {t1 : TE} (hw : Ev t1 σ L (.int wd)) (k : ∀ o : OwnA, SvW tz D (σ.set i (some (.ref o.po))) (Two (PoR o.po (ownK0 wd o.pt o.pl o.ph)) (Two (DtR o.pt []) (Two (OrdR o.pl []) (HeldE o.ph [])))) (fun _ => False) (fun _ => False) L) :
    SvW (tSeq (tAsg (tDisp [(tC (.str "width"), t1), (tC (.str "there"), tDNewK), (tC (.str "orders"), tLst tNil), (tC (.str "made"), tC (.int 0)), (tC (.str "held"), tLst tNil)]) (gName i)) tz) D σ Emp (fun _ => False) (fun _ => False) L := fun H w p np => by
  have x1 : Ex L (upd H p (.dK [])) := w.lx.trans (Ex.new np)
  have hp1 : (upd H p (.dK [])) p = some (.dK []) := upd_same
  have np0 : L p = none := fresh_back w.lx np
  refine hw _ x1 _ fun H2 e2 => ?_
  have hp2 := e2 _ _ hp1
  have x2 := x1.trans e2
  refine fun pt npt => ?_
  have x3 : Ex L (upd H2 pt (.dK [])) := x2.trans (Ex.new npt)
  have hp3 := (Ex.new (o := .dK []) npt) _ _ hp2
  have ht3 : (upd H2 pt (.dK [])) pt = some (.dK []) := upd_same
  have nt0 : L pt = none := fresh_back x2 npt
  generalize upd H2 pt (.dK []) = H3 at x3 hp3 ht3
  refine ⟨Nat.zero_le _, fun pl npl => ?_⟩
  have x4 : Ex L (upd H3 pl (.lst [])) := x3.trans (Ex.new npl)
  have hp4 := (Ex.new (o := .lst []) npl) _ _ hp3
  have ht4 := (Ex.new (o := .lst []) npl) _ _ ht3
  have hl4 : (upd H3 pl (.lst [])) pl = some (.lst []) := upd_same
  have nl0 : L pl = none := fresh_back x3 npl
  generalize upd H3 pl (.lst []) = H4 at x4 hp4 ht4 hl4
  refine ⟨Nat.zero_le _, fun ph nph => ?_⟩
  have x5 : Ex L (upd H4 ph (.lst [])) := x4.trans (Ex.new nph)
  have hp5 := (Ex.new (o := .lst []) nph) _ _ hp4
  have ht5 := (Ex.new (o := .lst []) nph) _ _ ht4
  have hl5 := (Ex.new (o := .lst []) nph) _ _ hl4
  have hh5 : (upd H4 ph (.lst [])) ph = some (.lst []) := upd_same
  have nh0 : L ph = none := fresh_back x4 nph
  have d1 : pt ≠ p := fun e => by rw [e, hp2] at npt; cases npt
  have d2 : pl ≠ p := fun e => by rw [e, hp3] at npl; cases npl
  have d3 : pl ≠ pt := fun e => by rw [e, ht3] at npl; cases npl
  have d4 : ph ≠ p := fun e => by rw [e, hp4] at nph; cases nph
  have d5 : ph ≠ pt := fun e => by rw [e, ht4] at nph; cases nph
  have d6 : ph ≠ pl := fun e => by rw [e, hl4] at nph; cases nph
  generalize upd H4 ph (.lst []) = H5 at x5 hp5 ht5 hl5 hh5
  refine ⟨hp5, ownK0 wd pt pl ph, rfl, by show 5 ≤ 15; decide, ?_⟩
  have em : mergeK [] (ownK0 wd pt pl ph) = ownK0 wd pt pl ph := rfl
  rw [em]
  refine k ⟨p, pt, pl, ph⟩ _ ?_
  have ne : ∀ {a}, a ≠ p → (upd H5 p (.dK (ownK0 wd pt pl ph))) a = H5 a := fun n => upd_ne n
  refine ⟨fun a => a = p ∨ (a = pt ∨ (a = pl ∨ a = ph)), ⟨fun a => a = p, fun a => a = pt ∨ (a = pl ∨ a = ph), ⟨upd_same, rfl, fun a z => ?_⟩, ⟨fun a => a = pt, fun a => a = pl ∨ a = ph, ⟨[], by rw [ne d1]; exact ht5, .nil, rfl, fun a z => ?_⟩, ⟨fun a => a = pl, fun a => a = ph, ⟨[], by rw [ne d2]; exact hl5, .nil, rfl, fun a z => ?_⟩, ⟨by rw [ne d4]; exact hh5, rfl, ⟨fun q hq => (List.not_mem_nil hq).elim, fun a z => ?_⟩⟩, fun a z1 z2 => ?_, fun a => Iff.rfl⟩, fun a z1 z2 => ?_, fun a => Iff.rfl⟩, fun a z1 z2 => ?_, fun a => Iff.rfl⟩, fun a o h => ?_, fun a z => ?_, fun a z => z.elim, fun a z => .inr fun y => y⟩
  · have e : a = p := z
    rw [e, upd_same]
    exact ⟨_, rfl, fun ⟨_, t⟩ => by cases t⟩
  · have e : a = pt := z
    rw [e, ne d1]
    exact ⟨_, ht5, fun ⟨_, t⟩ => by cases t⟩
  · have e : a = pl := z
    rw [e, ne d2]
    exact ⟨_, hl5, fun ⟨_, t⟩ => by cases t⟩
  · have e : a = ph := z
    rw [e, ne d4]
    exact ⟨_, hh5, fun ⟨_, t⟩ => by cases t⟩
  · exact d6 ((show a = ph from z2).symm.trans z1)
  · rcases z2 with z2 | z2
    · exact d3 (z2.symm.trans z1)
    · exact d5 (z2.symm.trans z1)
  · rcases z2 with z2 | z2 | z2
    · exact d1 (z2.symm.trans z1)
    · exact d2 (z2.symm.trans z1)
    · exact d4 (z2.symm.trans z1)
  · rw [ne (ne_of_none h np0)]
    exact x5 _ _ h
  · rcases z with z | z | z | z
    · rw [z]
      exact np0
    · rw [z]
      exact nt0
    · rw [z]
      exact nl0
    · rw [z]
      exact nh0
variable {D : Ends} {tz tu : TS} {t : TA} {tl : TE} {K : PySem.W.Frag} {S : TSp K} {B : Reg}
/-- x = Table(e), e read in the region -/
theorem vw_makeTR {i : Nat} {sp : Sp} {E : XK} {wd : Nat} (R : Regn T) (h : ∀ H, Wld T F0 B0 L H → EvA t σ H [.int wd]) (h0 : 1 ≤ wd) (h6 : wd ≤ 6) (he : sp = spTInit S)
    (k : ∀ x, L x = none → SvW tz D (σ.set i (some (.ref x))) (Two T (S.at_ x ⟨wd, [], 0, []⟩)) F0 B0 L) : SvW (tSeq (tAsg (tMake S.C sp [] E t) (gName i)) tz) D σ T F0 B0 L := fun H w => h H w H (Ex.refl H) _ fun H2 e x dx nx nd ne => by
  subst he
  have w2 := w.ext R e
  have e3 : Ex H2 (upd (upd H2 dx (.own x)) x (.ins S.C dx [])) := fun a o ha => by
    rw [upd_ne (ne_of_none ha nx), upd_ne (ne_of_none ha nd)]
    exact ha
  rw [List.append_nil]
  refine ⟨x, dx, wd, rfl, upd_same, by rw [upd_ne ne, upd_same], ne, h0, h6, fun H' F' kp dm at' gr => ⟨rfl, ?_⟩⟩
  have keep : Ex H2 H' := fun a o ha => kp a o (e3 a o ha) (ne_of_none ha nx) (ne_of_none ha nd)
  have new : ∀ a, F' a → H2 a = none := fun a z => by
    rcases gr a z with q | q | q
    · rw [q]
      exact nx
    · rw [q]
      exact nd
    · exact fresh_back e3 q
  refine k x (fresh_back w2.lx nx) H' ?_
  obtain ⟨F, tt, xx, d, b, f⟩ := w2
  refine ⟨fun a => F a ∨ F' a, ⟨F, F', R.ex tt keep, at', fun a z1 z2 => ?_, fun a => Iff.rfl⟩, xx.trans keep, fun a z => ?_, fun a z => ex_dm keep a (b a z), fun a z => z.elim (f a) fun z => .inr fun y => b a y (new a z)⟩
  · obtain ⟨o, ho, _⟩ := R.dom F H2 a tt z1
    rw [new a z2] at ho
    cases ho
  · rcases z with z | z
    · exact d a z
    · exact fresh_back xx (new a z)
/-- for x in a new list -/
theorem vw_forLN {xs : List V} {j : Nat} (R : Regn T) (h : EvL tl σ L xs) (I : Addr → Nat → L2.St → RP → Hp → Prop) (h0 : ∀ a L', L a = none → Ex L L' → L' a = some (.lst xs) → I a 0 σ T L') (hl : ∀ a i σ' T' L', I a i σ' T' L' → SqL K L' a xs)
    (hs : ∀ a i x σ' T' L', xs[i]? = some x → I a i σ' T' L' → SvW tu { D with nx := KnW F0 B0 (I a (i + 1)), ct := KnW F0 B0 (I a (i + 1)), bk := tz D } (σ'.set j (some x)) T' F0 B0 L') (hd : ∀ a σ' T' L', I a xs.length σ' T' L' → SvW tz D σ' T' F0 B0 L') : SvW (tSeq (tFor (iList K tl) (gName j) tu) tz) D σ T F0 B0 L :=
  fun H w => h H w.lx _ fun a H2 na e2 ha => by
    have w2 : Wld T F0 B0 (Unn (one a (.lst xs)) L) H2 := w.new R e2 (fun b z => by rw [one_ne z]; exact na) (one_ex ha)
    have haL : (Unn (one a (.lst xs)) L) a = some (.lst xs) := unn_l (fun b z => by rw [one_ne z]; exact fresh_back w.lx na) _ _ one_at
    exact ⟨a, rfl, ⟨xs, sq_of ha⟩, for_list (D := { D with nx := tz D }) (xs := xs) (fun i => KnW F0 B0 (I a i)) ⟨T, _, h0 a _ (fresh_back w.lx na) unn_r haL, w2⟩ (fun i σ' H3 _ ⟨T', L', p, w'⟩ => ex_l w'.lx (hl a i σ' T' L' p))
      (fun i x σ' H3 hi ⟨T', L', p, w'⟩ => hs a i x σ' T' L' hi p H3 w') (fun σ' H3 ⟨T', L', p, w'⟩ => hd a σ' T' L' p H3 w')⟩
/-- a loop that is the last statement -/
theorem vw_forR1' {ta : TA} {j : Nat} {n : Int} (R : Regn T) (h : EvA ta σ L [.int n]) (hn : -100000 ≤ n ∧ n ≤ 100000) (I : Nat → L2.St → RP → Hp → Prop) (h0 : I 0 σ T L)
    (hs : ∀ (i : Nat) σ' T' L', (i : Int) < n → I i σ' T' L' → SvW tu { D with nx := KnW F0 B0 (I (i + 1)), ct := KnW F0 B0 (I (i + 1)), bk := D.nx } (σ'.set j (some (.int (i : Int)))) T' F0 B0 L') (hd : ∀ σ' T' L', I n.toNat σ' T' L' → SvW tNext D σ' T' F0 B0 L') : SvW (tFor (iRng1 ta) (gName j) tu) D σ T F0 B0 L :=
  fun H w => h H w.lx _ fun H2 e2 => ⟨n, rfl, by omega, by omega, for_range (D := D) (lo := 0) (n := n.toNat) (fun i => KnW F0 B0 (I i)) ⟨T, L, h0, w.ext R e2⟩ (fun i σ' H3 hi ⟨T', L', p, w'⟩ => by
    have e0 : (0 : Int) + (i : Int) = (i : Int) := Int.zero_add _
    show tu { D with nx := KnW F0 B0 (I (i + 1)), ct := KnW F0 B0 (I (i + 1)), bk := D.nx } (σ'.set j (some (.int ((0 : Int) + (i : Int))))) H3
    rw [e0]
    exact hs i σ' T' L' (by omega) p H3 w') (fun σ' H3 ⟨T', L', p, w'⟩ => hd σ' T' L' p H3 w')⟩
end
end Wy

set_option Elab.async false
set_option linter.all false
set_option maxRecDepth 100000
set_option maxHeartbeats 4000000
/-! Wz: max and min with a default, sets of ints by comprehension. -/
namespace Wy
open PySem PySem.Spec PyProof.Rows L2 Evl

section
variable {prog : Program} {w : World} {A : Around}
variable {I S : Addr} {fp wr : List Addr} {n : Nat} {P : Nat → Value → Prop} {St : Nat → Heap → Prop}
abbrev bestOb (xs : Array Value) (c : Nat) : Obj := { cls := .type "list", dict := none, data := .seq xs c, slots := #[] }
/-- max with keywords, some item seen already -/
theorem maxKwLoop {R : Result → Shared → Prop} {kw : List (Str × Value)} (bt : Nat → Nat → Bool) (W : Walks prog w A.in1 I fp wr n P St) (cmp : CmpOf prog w A.in1 .Gt P bt) (out : S ∉ fp) : ∀ (left j c : Nat) (vb : Value) (s : Shared),
    j + 1 + left = n → P (argBest bt j) vb → St (j + 1) s.heap → s.heap.get? S = some (bestOb #[vb, vb] c) →
    (∀ u g tk, P (argBest bt (n - 1)) u → (∀ b o, b ∉ wr → b ≠ S → s.heap.get? b = some o → g.get? b = some o) → R (.ok (.ret u)) { s with heap := g, toks := tk }) →
    codeAny (model prog w) A (.builtin "max.loop" ⟨[.ref I, .none, .ref S], kw⟩) R s
  | 0, j, c, vb, s, hn, pb, st, hS, k => by
    have notW : S ∉ wr := fun h => out (W.sub _ h)
    refine codeAny_builtin F.entry_max_loop ?_
    rw [Around.under_plainId F.plain_max_loop _]
    show wpAny _ A.in1 (seqItems? (.ref S) >>= _) _ _ s
    refine wpAny_bind (wpAny_seqItems hS rfl ?_)
    show wpAny _ A.in1 (tryCatch (pyNext (.ref I)) _ >>= _) _ _ s
    have st' : St n s.heap := by rw [← hn]; exact st
    refine wpAny_bind (wpAny_tryCatch (W.done s _ _ st' fun g tk keep => ?_))
    show wpAny _ A.in1 (updateSeq S (fun _ => #[]) >>= _) _ _ _
    refine wpAny_bind (wpAny_updateSeq (keep S _ notW hS) rfl (wpAny_bind (wpAny_letGo (wpAny_pure ?_))))
    have e : n - 1 = j := by omega
    exact k vb _ tk (by rw [e]; exact pb) fun b o h1 h2 x => (Heap.get?_update_other _ _ (Ne.symm h2)).trans (keep b o h1 x)
  | left + 1, j, c, vb, s, hn, pb, st, hS, k => by
    have notW : S ∉ wr := fun h => out (W.sub _ h)
    have nm : (toString "max" ++ toString ".loop" : String) = "max.loop" := by decide
    refine codeAny_builtin F.entry_max_loop ?_
    rw [Around.under_plainId F.plain_max_loop _]
    show wpAny _ A.in1 (seqItems? (.ref S) >>= _) _ _ s
    refine wpAny_bind (wpAny_seqItems hS rfl ?_)
    show wpAny _ A.in1 (tryCatch (pyNext (.ref I)) _ >>= _) _ _ s
    refine wpAny_bind (wpAny_tryCatch (W.item (j + 1) s _ _ (by omega) st fun u g tk pu st2 keep => ?_))
    have hS2 := keep S _ notW hS
    show wpAny _ A.in1 (tryCatch (holding [u, u] (richCompare .Gt u vb >>= _)) _ >>= _) _ _ _
    refine wpAny_bind (wpAny_tryCatch (wpAny_holding (wpAny_bind (cmp (j + 1) (argBest bt j) u vb _ _ _ pu pb ?_))))
    refine wpAny_bind (wpAny_holding (wpAny_truthy_bool (wpAny_bind (wpAny_letGo (wpAny_pure ?_)))))
    by_cases hb : bt (j + 1) (argBest bt j) = true
    · have ea : argBest bt (j + 1) = j + 1 := if_pos hb
      rw [if_pos hb]
      refine wpAny_bind (wpAny_updateSeq hS2 rfl (wpAny_bind (wpAny_letGo ?_)))
      rw [nm]
      refine wpAny_pure ⟨plainId_quiet F.plain_max_loop _, maxKwLoop bt W cmp out left (j + 1) _ u _ (by omega) (by rw [ea]; exact pu) (W.frame _ _ _ st2 fun b hb o x => ?_) (Heap.get?_update_self _ hS2 rfl) fun u' g' tk' p' keep' => ?_⟩
      · exact (Heap.get?_update_other _ _ (fun z : S = b => out (z ▸ hb))).trans x
      · exact k u' g' tk' p' fun b o h1 h2 x => keep' b o h1 h2 ((Heap.get?_update_other _ _ (Ne.symm h2)).trans (keep b o h1 x))
    · have ea : argBest bt (j + 1) = argBest bt j := if_neg hb
      rw [if_neg hb]
      refine wpAny_bind (wpAny_letGo ?_)
      rw [nm]
      exact wpAny_pure ⟨plainId_quiet F.plain_max_loop _, maxKwLoop bt W cmp out left (j + 1) c vb _ (by omega) (by rw [ea]; exact pb) st2 hS2 fun u' g' tk' p' keep' => k u' g' tk' p' fun b o h1 h2 x => keep' b o h1 h2 (keep b o h1 x)⟩
theorem max_args (a d : Value) : argsOk "max" ⟨[a], [(Str.ofString "default", d)]⟩ := by unfold argsOk; kernel_rfl
variable {E : Value → Shared → Prop} {s : Shared}
/-- max(x, default=d) -/
theorem maxDflt_run {x d : Value} {Q : Value → Shared → Prop} (h : wpAny (model prog w) A.in1 (pyIter x) (fun it s2 => ∃ I fp wr n P St bt, it = .ref I ∧ Walks prog w A.in1 I fp wr n P St ∧ St 0 s2.heap ∧ (∀ b ∈ fp, b < s2.heap.objs.size) ∧ CmpOf prog w A.in1 .Gt P bt ∧
      ∀ u g tk, (∀ b o, b ∉ wr → s2.heap.get? b = some o → g.get? b = some o) → (n = 0 ∧ u = d ∨ 0 < n ∧ P (argBest bt (n - 1)) u) → Q u { s2 with heap := g, toks := tk }) E s) :
    wpAny (model prog w) A (call (.builtin "max") [x] [(Str.ofString "default", d)]) Q E s := by
  have nm : (toString "max" ++ toString ".loop" : String) = "max.loop" := by decide
  refine kmk_tree F.kind_max F.plain_max F.entry_max (max_args _ _) ?_
  have bp : Builtin.Builtins.bindParams "max" ["key", "default"] 0 ⟨[], [(Str.ofString "default", d)]⟩ = pure [none, some d] := rfl
  show wpAny _ A.in1 (Builtin.Builtins.bindParams "max" ["key", "default"] 0 ⟨[], [(Str.ofString "default", d)]⟩ >>= _) _ _ s
  refine wpAny_bind (wpAny_of_eq bp (wpAny_bind (wpAny_pure (wpAny_bind (wpAny_mono h (fun it s2 h2 => ?_) fun _ _ e => e)))))
  obtain ⟨I, fp, wr, n, P, St, bt, rfl, W, st, low, cmp, k⟩ := h2
  refine wpAny_bind (wpAny_newObj_type ?_)
  generalize hS0 : s2.heap.objs.size = S
  have out : S ∉ fp := fun z => by
    have lt := low _ z
    rw [hS0] at lt
    exact Nat.lt_irrefl _ lt
  have notW : S ∉ wr := fun z => out (W.sub _ z)
  have hS : (s2.heap.push (bestOb #[] 0)).get? S = some (bestOb #[] 0) := by
    rw [← hS0]
    exact Heap.get?_push_size _ rfl
  have stp : St 0 (s2.heap.push (bestOb #[] 0)) := W.frame _ _ _ st fun b _ o x => Heap.get?_push_of_some _ x
  have old : ∀ {b o}, s2.heap.get? b = some o → b ≠ S := fun x => by
    rw [← hS0]
    exact Nat.ne_of_lt (Heap.lt_size x)
  rw [nm]
  refine wpAny_pure ⟨plainId_quiet F.plain_max_loop _, codeAny_builtin F.entry_max_loop ?_⟩
  rw [Around.under_plainId F.plain_max_loop _]
  show wpAny _ A.in1 (seqItems? (.ref S) >>= _) _ _ _
  refine wpAny_bind (wpAny_seqItems hS rfl ?_)
  show wpAny _ A.in1 (tryCatch (pyNext (.ref I)) _ >>= _) _ _ _
  by_cases hn : n = 0
  · subst hn
    refine wpAny_bind (wpAny_tryCatch (W.done _ _ _ stp fun g tk keep => ?_))
    show wpAny _ A.in1 (rule _ >>= _) _ _ _
    refine wpAny_bind (wpAny_rule ?_)
    show wpAny _ A.in1 (ret d) _ _ _
    exact wpAny_pure (k d g tk (fun b o h1 x => keep b o h1 (Heap.get?_push_of_some _ x)) (.inl ⟨rfl, rfl⟩))
  · refine wpAny_bind (wpAny_tryCatch (W.item 0 _ _ _ (by omega) stp fun u g tk pu st2 keep => ?_))
    have hS2 := keep S _ notW hS
    show wpAny _ A.in1 (updateSeq S (fun _ => #[u, u]) >>= _) _ _ _
    refine wpAny_bind (wpAny_updateSeq hS2 rfl ?_)
    rw [nm]
    refine wpAny_pure ⟨plainId_quiet F.plain_max_loop _, maxKwLoop bt W cmp out (n - 1) 0 _ u _ (by omega) pu (W.frame _ _ _ st2 fun b hb o x => ?_) (Heap.get?_update_self _ hS2 rfl) fun u' g' tk' p' keep' => ?_⟩
    · exact (Heap.get?_update_other _ _ (fun z : S = b => out (z ▸ hb))).trans x
    · exact k u' g' tk' (fun b o h1 x => keep' b o h1 (old x) ((Heap.get?_update_other _ _ (Ne.symm (old x))).trans (keep b o h1 (Heap.get?_push_of_some _ x)))) (.inr ⟨by omega, p'⟩)
end
section
variable {X : Cx}
/-- of a list of ints, None where there is none -/
def rMaxDef (K : PySem.W.Frag) : List V → List V → Hp → VK → Prop := fun vs zs H Q => ∃ (a : Addr) (ns : List Int), vs = [V.ref a] ∧ zs = [.non] ∧ SqL K H a (ns.map V.int) ∧ (ns = [] → Q .non H) ∧ (∀ m, m ∈ ns → (∀ y, y ∈ ns → y ≤ m) → Q (.int m) H)
theorem cr_maxDef (calm : X.calm = true) : CallRK X (.builtin "max") [Str.ofString "default"] (rMaxDef X.K) := by
  intro pins s σ H vs zs us ws Q I r rz h
  obtain ⟨a, ns, rfl, rfl, hs, q0, q⟩ := h
  obtain rfl := Vals.ref1 r
  obtain ⟨w1, rfl, e1⟩ := vals1 rz
  obtain rfl : w1 = Value.none := e1
  obtain ⟨its, rv, hl, _⟩ := I.list hs
  obtain ⟨xs, e⟩ := rv.ints.allInts.items
  have hn : numsOf (intItems xs).toList = ns := by
    rw [← e]
    exact rv.ints.numsOf
  rw [nums_intItems] at hn
  subst hn
  have hl2 : s.heap.IsList a (intItems xs) := by
    rw [← e]
    exact hl.isList
  refine maxDflt_run (iter_intList hl2 fun s2 e2 st low ne => ?_)
  subst e2
  refine ⟨_, _, _, _, _, _, _, rfl, Walks.list (A := X.A.in1) (I.ok.hd calm) _ a ne (intItems xs), st, low, CmpOf.ints_gt (numAt xs) (fun _ _ => intItems_at), fun u g tk keep hu => ?_⟩
  have hsz : (intItems xs).size = xs.size := by simp [intItems]
  have I2 : Inv X pins σ H { s with heap := g, toks := tk } := I.kept (old_kept keep)
  rcases hu with ⟨h0, rfl⟩ | ⟨h0, hp⟩
  · refine ⟨.non, H, I2, rfl, q0 ?_⟩
    rw [hsz] at h0
    have : xs.toList = [] := List.length_eq_zero_iff.mp (by rw [Array.length_toList]; exact h0)
    rw [this]
    rfl
  · rw [hsz] at h0 hp
    obtain ⟨t, rfl⟩ := intItems_at hp
    obtain ⟨h1, h2⟩ := argBest_gt (numAt xs) (xs.size - 1)
    refine ⟨.int _, H, I2, ⟨_, rfl⟩, q _ ?_ fun y hy => ?_⟩
    · rw [numAt_eq]
      exact getD_mem (by rw [List.length_map, Array.length_toList]; omega)
    · obtain ⟨j, hj, rfl⟩ := mem_getD hy
      rw [List.length_map, Array.length_toList] at hj
      rw [← numAt_eq]
      exact h2 j (by omega)
end

section
variable {prog : Program} {w : World} {A : Around}
variable {I S : Addr} {fp wr : List Addr} {n : Nat} {P : Nat → Value → Prop} {St : Nat → Heap → Prop}
/-- min with keywords, some item seen already -/
theorem minKwLoop {R : Result → Shared → Prop} {kw : List (Str × Value)} (bt : Nat → Nat → Bool) (W : Walks prog w A.in1 I fp wr n P St) (cmp : CmpOf prog w A.in1 .Lt P bt) (out : S ∉ fp) : ∀ (left j c : Nat) (vb : Value) (s : Shared),
    j + 1 + left = n → P (argBest bt j) vb → St (j + 1) s.heap → s.heap.get? S = some (bestOb #[vb, vb] c) →
    (∀ u g tk, P (argBest bt (n - 1)) u → (∀ b o, b ∉ wr → b ≠ S → s.heap.get? b = some o → g.get? b = some o) → R (.ok (.ret u)) { s with heap := g, toks := tk }) →
    codeAny (model prog w) A (.builtin "min.loop" ⟨[.ref I, .none, .ref S], kw⟩) R s
  | 0, j, c, vb, s, hn, pb, st, hS, k => by
    have notW : S ∉ wr := fun h => out (W.sub _ h)
    refine codeAny_builtin F.entry_min_loop ?_
    rw [Around.under_plainId F.plain_min_loop _]
    show wpAny _ A.in1 (seqItems? (.ref S) >>= _) _ _ s
    refine wpAny_bind (wpAny_seqItems hS rfl ?_)
    show wpAny _ A.in1 (tryCatch (pyNext (.ref I)) _ >>= _) _ _ s
    have st' : St n s.heap := by rw [← hn]; exact st
    refine wpAny_bind (wpAny_tryCatch (W.done s _ _ st' fun g tk keep => ?_))
    show wpAny _ A.in1 (updateSeq S (fun _ => #[]) >>= _) _ _ _
    refine wpAny_bind (wpAny_updateSeq (keep S _ notW hS) rfl (wpAny_bind (wpAny_letGo (wpAny_pure ?_))))
    have e : n - 1 = j := by omega
    exact k vb _ tk (by rw [e]; exact pb) fun b o h1 h2 x => (Heap.get?_update_other _ _ (Ne.symm h2)).trans (keep b o h1 x)
  | left + 1, j, c, vb, s, hn, pb, st, hS, k => by
    have notW : S ∉ wr := fun h => out (W.sub _ h)
    have nm : (toString "min" ++ toString ".loop" : String) = "min.loop" := by decide
    refine codeAny_builtin F.entry_min_loop ?_
    rw [Around.under_plainId F.plain_min_loop _]
    show wpAny _ A.in1 (seqItems? (.ref S) >>= _) _ _ s
    refine wpAny_bind (wpAny_seqItems hS rfl ?_)
    show wpAny _ A.in1 (tryCatch (pyNext (.ref I)) _ >>= _) _ _ s
    refine wpAny_bind (wpAny_tryCatch (W.item (j + 1) s _ _ (by omega) st fun u g tk pu st2 keep => ?_))
    have hS2 := keep S _ notW hS
    show wpAny _ A.in1 (tryCatch (holding [u, u] (richCompare .Lt u vb >>= _)) _ >>= _) _ _ _
    refine wpAny_bind (wpAny_tryCatch (wpAny_holding (wpAny_bind (cmp (j + 1) (argBest bt j) u vb _ _ _ pu pb ?_))))
    refine wpAny_bind (wpAny_holding (wpAny_truthy_bool (wpAny_bind (wpAny_letGo (wpAny_pure ?_)))))
    by_cases hb : bt (j + 1) (argBest bt j) = true
    · have ea : argBest bt (j + 1) = j + 1 := if_pos hb
      rw [if_pos hb]
      refine wpAny_bind (wpAny_updateSeq hS2 rfl (wpAny_bind (wpAny_letGo ?_)))
      rw [nm]
      refine wpAny_pure ⟨plainId_quiet F.plain_min_loop _, minKwLoop bt W cmp out left (j + 1) _ u _ (by omega) (by rw [ea]; exact pu) (W.frame _ _ _ st2 fun b hb o x => ?_) (Heap.get?_update_self _ hS2 rfl) fun u' g' tk' p' keep' => ?_⟩
      · exact (Heap.get?_update_other _ _ (fun z : S = b => out (z ▸ hb))).trans x
      · exact k u' g' tk' p' fun b o h1 h2 x => keep' b o h1 h2 ((Heap.get?_update_other _ _ (Ne.symm h2)).trans (keep b o h1 x))
    · have ea : argBest bt (j + 1) = argBest bt j := if_neg hb
      rw [if_neg hb]
      refine wpAny_bind (wpAny_letGo ?_)
      rw [nm]
      exact wpAny_pure ⟨plainId_quiet F.plain_min_loop _, minKwLoop bt W cmp out left (j + 1) c vb _ (by omega) (by rw [ea]; exact pb) st2 hS2 fun u' g' tk' p' keep' => k u' g' tk' p' fun b o h1 h2 x => keep' b o h1 h2 (keep b o h1 x)⟩
theorem min_args (a d : Value) : argsOk "min" ⟨[a], [(Str.ofString "default", d)]⟩ := by unfold argsOk; kernel_rfl
variable {E : Value → Shared → Prop} {s : Shared}
/-- min(x, default=d) -/
theorem minDflt_run {x d : Value} {Q : Value → Shared → Prop} (h : wpAny (model prog w) A.in1 (pyIter x) (fun it s2 => ∃ I fp wr n P St bt, it = .ref I ∧ Walks prog w A.in1 I fp wr n P St ∧ St 0 s2.heap ∧ (∀ b ∈ fp, b < s2.heap.objs.size) ∧ CmpOf prog w A.in1 .Lt P bt ∧
      ∀ u g tk, (∀ b o, b ∉ wr → s2.heap.get? b = some o → g.get? b = some o) → (n = 0 ∧ u = d ∨ 0 < n ∧ P (argBest bt (n - 1)) u) → Q u { s2 with heap := g, toks := tk }) E s) :
    wpAny (model prog w) A (call (.builtin "min") [x] [(Str.ofString "default", d)]) Q E s := by
  have nm : (toString "min" ++ toString ".loop" : String) = "min.loop" := by decide
  refine kmk_tree F.kind_min F.plain_min F.entry_min (min_args _ _) ?_
  have bp : Builtin.Builtins.bindParams "min" ["key", "default"] 0 ⟨[], [(Str.ofString "default", d)]⟩ = pure [none, some d] := rfl
  show wpAny _ A.in1 (Builtin.Builtins.bindParams "min" ["key", "default"] 0 ⟨[], [(Str.ofString "default", d)]⟩ >>= _) _ _ s
  refine wpAny_bind (wpAny_of_eq bp (wpAny_bind (wpAny_pure (wpAny_bind (wpAny_mono h (fun it s2 h2 => ?_) fun _ _ e => e)))))
  obtain ⟨I, fp, wr, n, P, St, bt, rfl, W, st, low, cmp, k⟩ := h2
  refine wpAny_bind (wpAny_newObj_type ?_)
  generalize hS0 : s2.heap.objs.size = S
  have out : S ∉ fp := fun z => by
    have lt := low _ z
    rw [hS0] at lt
    exact Nat.lt_irrefl _ lt
  have notW : S ∉ wr := fun z => out (W.sub _ z)
  have hS : (s2.heap.push (bestOb #[] 0)).get? S = some (bestOb #[] 0) := by
    rw [← hS0]
    exact Heap.get?_push_size _ rfl
  have stp : St 0 (s2.heap.push (bestOb #[] 0)) := W.frame _ _ _ st fun b _ o x => Heap.get?_push_of_some _ x
  have old : ∀ {b o}, s2.heap.get? b = some o → b ≠ S := fun x => by
    rw [← hS0]
    exact Nat.ne_of_lt (Heap.lt_size x)
  rw [nm]
  refine wpAny_pure ⟨plainId_quiet F.plain_min_loop _, codeAny_builtin F.entry_min_loop ?_⟩
  rw [Around.under_plainId F.plain_min_loop _]
  show wpAny _ A.in1 (seqItems? (.ref S) >>= _) _ _ _
  refine wpAny_bind (wpAny_seqItems hS rfl ?_)
  show wpAny _ A.in1 (tryCatch (pyNext (.ref I)) _ >>= _) _ _ _
  by_cases hn : n = 0
  · subst hn
    refine wpAny_bind (wpAny_tryCatch (W.done _ _ _ stp fun g tk keep => ?_))
    show wpAny _ A.in1 (rule _ >>= _) _ _ _
    refine wpAny_bind (wpAny_rule ?_)
    show wpAny _ A.in1 (ret d) _ _ _
    exact wpAny_pure (k d g tk (fun b o h1 x => keep b o h1 (Heap.get?_push_of_some _ x)) (.inl ⟨rfl, rfl⟩))
  · refine wpAny_bind (wpAny_tryCatch (W.item 0 _ _ _ (by omega) stp fun u g tk pu st2 keep => ?_))
    have hS2 := keep S _ notW hS
    show wpAny _ A.in1 (updateSeq S (fun _ => #[u, u]) >>= _) _ _ _
    refine wpAny_bind (wpAny_updateSeq hS2 rfl ?_)
    rw [nm]
    refine wpAny_pure ⟨plainId_quiet F.plain_min_loop _, minKwLoop bt W cmp out (n - 1) 0 _ u _ (by omega) pu (W.frame _ _ _ st2 fun b hb o x => ?_) (Heap.get?_update_self _ hS2 rfl) fun u' g' tk' p' keep' => ?_⟩
    · exact (Heap.get?_update_other _ _ (fun z : S = b => out (z ▸ hb))).trans x
    · exact k u' g' tk' (fun b o h1 x => keep' b o h1 (old x) ((Heap.get?_update_other _ _ (Ne.symm (old x))).trans (keep b o h1 (Heap.get?_push_of_some _ x)))) (.inr ⟨by omega, p'⟩)
end
section
variable {X : Cx}
/-- of a list of ints, None where there is none -/
def rMinDef (K : PySem.W.Frag) : List V → List V → Hp → VK → Prop := fun vs zs H Q => ∃ (a : Addr) (ns : List Int), vs = [V.ref a] ∧ zs = [.non] ∧ SqL K H a (ns.map V.int) ∧ (ns = [] → Q .non H) ∧ (∀ m, m ∈ ns → (∀ y, y ∈ ns → m ≤ y) → Q (.int m) H)
theorem cr_minDef (calm : X.calm = true) : CallRK X (.builtin "min") [Str.ofString "default"] (rMinDef X.K) := by
  intro pins s σ H vs zs us ws Q I r rz h
  obtain ⟨a, ns, rfl, rfl, hs, q0, q⟩ := h
  obtain rfl := Vals.ref1 r
  obtain ⟨w1, rfl, e1⟩ := vals1 rz
  obtain rfl : w1 = Value.none := e1
  obtain ⟨its, rv, hl, _⟩ := I.list hs
  obtain ⟨xs, e⟩ := rv.ints.allInts.items
  have hn : numsOf (intItems xs).toList = ns := by
    rw [← e]
    exact rv.ints.numsOf
  rw [nums_intItems] at hn
  subst hn
  have hl2 : s.heap.IsList a (intItems xs) := by
    rw [← e]
    exact hl.isList
  refine minDflt_run (iter_intList hl2 fun s2 e2 st low ne => ?_)
  subst e2
  refine ⟨_, _, _, _, _, _, _, rfl, Walks.list (A := X.A.in1) (I.ok.hd calm) _ a ne (intItems xs), st, low, CmpOf.ints_lt (numAt xs) (fun _ _ => intItems_at), fun u g tk keep hu => ?_⟩
  have hsz : (intItems xs).size = xs.size := by simp [intItems]
  have I2 : Inv X pins σ H { s with heap := g, toks := tk } := I.kept (old_kept keep)
  rcases hu with ⟨h0, rfl⟩ | ⟨h0, hp⟩
  · refine ⟨.non, H, I2, rfl, q0 ?_⟩
    rw [hsz] at h0
    have : xs.toList = [] := List.length_eq_zero_iff.mp (by rw [Array.length_toList]; exact h0)
    rw [this]
    rfl
  · rw [hsz] at h0 hp
    obtain ⟨t, rfl⟩ := intItems_at hp
    obtain ⟨h1, h2⟩ := argBest_lt (numAt xs) (xs.size - 1)
    refine ⟨.int _, H, I2, ⟨_, rfl⟩, q _ ?_ fun y hy => ?_⟩
    · rw [numAt_eq]
      exact getD_mem (by rw [List.length_map, Array.length_toList]; omega)
    · obtain ⟨j, hj, rfl⟩ := mem_getD hy
      rw [List.length_map, Array.length_toList] at hj
      rw [← numAt_eq]
      exact h2 j (by omega)
end

/-! ### {e for x in xs}, e an int -/
section
variable {X : Cx}
/-- D is the new set, S its members so far, n their number -/
def tSci (w : World) (wi : TI) (g : TG) (te : TE) (vs : List Nat) : TE := fun σ H Q => wi σ H fun J H1 => ∀ D, H1 D = none → ∃ W : Nat → Nat → Hp → Prop, (∃ m, W 0 m (upd H1 D (SetO w D (fun _ => false) 0))) ∧
  ∀ i m H, W i m H → (J.stop i H ∧ Q (.ref D) H) ∨ (J.go i H ∧ ∃ Nx : Hp → Prop, (∀ H', Nx H' → ∃ m', m' < m ∧ W (i + 1) m' H') ∧ ∀ x H', J.yld i H x H' → g x (wipe σ vs) H' fun σ2 H2 => wipe σ2 vs = wipe σ vs ∧
    te σ2 H2 fun y H3 => ∃ (k : Int) (S : Int → Bool) (n : Nat), y = .int k ∧ H3 D = some (SetO w D S n) ∧ n + 1 < scanBound ∧ Nx (upd H3 D (SetO w D (fun j => S j || decide (j = k)) (if S k = true then n else n + 1))))
theorem addI_run {pins : List (Addr × Obj)} {σ : L2.St} {H : Hp} {s : Shared} {E : Value → Shared → Prop} {D : Addr} {S : Int → Bool} {n : Nat} {k : Int} {t : Tok} {Q : Value → Shared → Prop} (I : Inv X pins σ H s) (hD : H D = some (SetO X.w D S n)) (room : n + 1 < scanBound)
    (h : ∀ s', Inv X pins σ (upd H D (SetO X.w D (fun j => S j || decide (j = k)) (if S k = true then n else n + 1))) s' → Q .none s') : wpAny (model X.prog X.w) X.A (call (.builtin "set.add") [.ref D, .int k t]) Q E s :=
  setR_add (setO_get I hD) room fun g sb new => h _ (I.write (e := D) (t' := s.toks + 1) (by rw [hD]; trivial) (.inl rfl) (fun b u hb hu => (sb.2 b hb).trans hu) (let ⟨o, _, _, _, ho, _⟩ := new; ⟨o, ho⟩) (setO_new new))
variable {elt tg iter : Expr} {scope : Scope} {own : List (Str × Nat)} {pos : Pos} {wi : TI} {g : TG} {te : TE}
abbrev blkAt (X : Cx) (scope : Scope) (s : Shared) (H : Hp) (C : Addr) (cl : List (Str × Addr)) (fp : List Addr) : Cx := X.blk s H scope (compEnvC scope cl C X.env) fp
abbrev setGen (elt tg iter : Expr) (scope : Scope) (pos : Pos) : Expr := .SetComp elt [⟨tg, iter, [], 0⟩] scope pos
theorem pe_sci (calm : X.calm = true) (nd : X.N.Nodup) (hi : PI X tg iter wi) (ok : BlkOk X.N X.env.scope scope own) (hg : ∀ s H C cl fp, PG (blkAt X scope s H C cl fp) tg g) (he : ∀ s H C cl fp, PE (blkAt X scope s H C cl fp) elt te)
    (hs : ∀ x, foldedSetIterable iter X.env x = pure x := by intro _; rfl) : PE X (setGen elt tg iter scope pos) (tSci X.w wi g te (own.map (·.2))) := by
  refine ⟨fun pins s σ H Q I h => ?_⟩
  rw [PpSet.eval_SetComp]
  have cells : ∀ y ∈ scope.names, y.2 = .free → ∃ c, X.env.cells.lookup y.1 = some c := fun y hy e => (ok.free y hy e).elim (fun k => I.ok.has _ (.inl k)) (fun k => I.ok.has _ (.inr k))
  refine wpAny_comprehension_free rfl hs (closure_ok cells) ok.kind (fun y hy e => by rw [ok.uniq y hy, e]) (thn (hi.run pins s σ H _ I h) fun xv s1 hx => thn hx fun itv s2 h2 => ?_)
  obtain ⟨it, fp, tn, J, H2, rfl, I2, T, st2, f2, q⟩ := h2
  refine PpSet.newSet_ok (newEnv_comp ?_)
  generalize hD : s2.heap.objs.size = D
  obtain ⟨W, ⟨m0, w0⟩, turn⟩ := q D (I2.hok.fresh (Nat.le_of_eq hD))
  generalize ho : ({ cls := .type "set", dict := none, data := .set #[] 0 (.fresh 0 0 (!X.w.params.followText "set-order")) } : Obj) = ob
  generalize hs3 : ({ s2 with heap := s2.heap.push ob } : Shared) = s3
  have hp3 : s3.heap = s2.heap.push ob := by rw [← hs3]
  have k23 : ∀ b o, s2.heap.get? b = some o → s3.heap.get? b = some o := fun b o e => by
    rw [hp3]
    exact Heap.get?_push_of_some _ e
  have I3 : Inv X pins σ (upd H2 D (SetO X.w D (fun _ => false) 0)) s3 := by
    rw [← hs3]
    refine I2.laid (t' := s2.toks) (fun b o e => Heap.get?_push_of_some _ e) (Nat.le_of_eq hD) ?_
    rw [← hD, ← ho]
    exact setO_new (setR_fresh X.w)
  have at2 : ∀ b ∈ fp, b < s2.heap.objs.size := fun b hb => let ⟨o, e, _⟩ := T.obj _ _ st2 b hb; Heap.lt_size e
  have f3 : ∀ b ∈ fp, FpOk X pins (upd H2 D (SetO X.w D (fun _ => false) 0)) b ∧ b < s3.heap.objs.size := fun b hb => by
    have lt := at2 b hb
    refine ⟨⟨(upd_ne (Nat.ne_of_lt (hD ▸ lt))).trans (f2 b hb).1, (f2 b hb).2⟩, ?_⟩
    rw [hp3, Heap.size_push]
    exact Nat.lt_succ_of_lt lt
  generalize upd H2 D (SetO X.w D (fun _ => false) 0) = H3 at I3 f3 w0
  have I4 := block_start I3 ok nd f3
  have pg := hg s3 H3 s3.heap.objs.size (cellsFrom (s3.heap.objs.size + 1) scope.names (cloFrom X.env.cells scope.names [])) fp
  have pe := he s3 H3 s3.heap.objs.size (cellsFrom (s3.heap.objs.size + 1) scope.names (cloFrom X.env.cells scope.names [])) fp
  have new : ∀ b ∈ fp, H3 b = none := fun b hb => (f3 b hb).1.1
  show codeAny _ _ (.compStart (setGen elt tg iter scope pos) 0 (.ref it) (.ref D) (compEnvC scope (cellsFrom (s3.heap.objs.size + 1) scope.names (cloFrom X.env.cells scope.names [])) s3.heap.objs.size X.env)) (compPost _ _ _ none _ (.ref D) s3.heap.objs.size) { s3 with heap := pushCells (s3.heap.push { cls := .type "dict", data := .dict #[] }) scope.names }
  unfold blkAt at pg pe
  generalize hce : compEnvC scope (cellsFrom (s3.heap.objs.size + 1) scope.names (cloFrom X.env.cells scope.names [])) s3.heap.objs.size X.env = ce at I4 pg pe ⊢
  have lc : ce.locals = s3.heap.objs.size := by rw [← hce]; rfl
  generalize hs4 : ({ s3 with heap := pushCells (s3.heap.push { cls := .type "dict", data := .dict #[] }) scope.names } : Shared) = s4 at I4 ⊢
  have st4 : tn 0 s4.heap := T.keep _ _ _ st2 fun b _ o e => by
    rw [← hs4]
    exact pushCells_keeps _ _ _ _ (Heap.get?_push_of_some _ (k23 b o e))
  have still : ∀ {σ' : L2.St} {H' : Hp} {s' : Shared}, Inv (X.blk s3 H3 scope ce fp) [] σ' H' s' → (∀ b ∈ fp, H' b = none) → ∀ b ∈ fp, FpOk (X.blk s3 H3 scope ce fp) [] H' b := fun I' n b hb =>
    ⟨n b hb, (I'.ok.exf b hb).1, I'.ok.exfs b hb, .inl hb, (I'.ok.exf b hb).2, fun p hp => absurd (show p ∈ ([] : List (Addr × Obj)) ++ [] from hp) (by simp)⟩
  generalize hI0 : (fun (n : Nat) (s' : Shared) => ∃ i H', Inv (X.blk s3 H3 scope ce fp) [] (wipe σ (own.map (·.2))) H' s' ∧ tn i s'.heap ∧ (∀ b ∈ fp, H' b = none) ∧ W i n H') = I0
  have run : ∀ (n : Nat) s', I0 n s' → codeAny (model X.prog X.w) X.A (.compLoop (setGen elt tg iter scope pos) 0 (.ref it) (.ref D) ce) (compPost (model X.prog X.w) X.A X.xe none (EP X pins σ Q) (.ref D) s3.heap.objs.size) s' := by
    intro n s' hIn
    refine PpSet.compLoopS_any I0 ?_ n hIn
    clear hIn
    subst hI0
    rintro n s5 ⟨i, H5, I5, st5, n5, w5⟩
    rcases turn i n H5 w5 with ⟨stop, qq⟩ | ⟨go, Nx, hNx, step⟩
    · -- no more items: back in the def
      refine thnF (T.done (X.blk s3 H3 scope ce fp) rfl rfl rfl calm i [] s5 _ H5 (fun _ _ => False) I5 (still I5 n5) st5 stop) fun r s6 ⟨hr, I6⟩ => ?_
      subst hr
      have I7 : Inv X pins σ H5 s6 := I3.call' (ch := fp) I6.os I6.base I6.hok I6.bare fun b hb => let z := (f3 b hb).1.2; ⟨z.2.2.1, z.1, z.2.2.2.1, z.2.2.2.2⟩
      have free : H5 s3.heap.objs.size = none := lc ▸ I6.free
      obtain ⟨m, hn, _⟩ := I6.loc
      obtain ⟨c1, c2, c3, c4, c5, c6⟩ := I3.fpOk (Nat.le_refl _) free
      refine ⟨m, lc ▸ hn, fun g sb => ⟨.ref D, H5, I7.turned (t' := s6.toks) (fun b o hb e => (sb.2 b hb).trans e) c1 c2 c4 c5 c6, rfl, qq⟩⟩
    · refine thnF (T.item (X.blk s3 H3 scope ce fp) rfl rfl rfl calm i [] s5 _ H5 (fun _ _ => False) I5 (still I5 n5) st5 go) fun r s6 ⟨u, hr, h6⟩ => ?_
      subst hr
      refine thnF h6 fun _ s7 ⟨x, H7, I7, r7, y7, st7, n7⟩ => ?_
      refine thnF (pg.run _ s7 _ H7 x u _ (I7.pinned (still I7 n7) (T.obj _ _ st7)) r7 (step x H7 y7)) fun _ s8 ⟨σ8, H8, I8, hw8, q8⟩ => ?_
      rw [List.forIn_nil]
      refine wpAny_pure ?_
      rw [if_pos rfl]
      refine thnF (pe.run _ s8 σ8 H8 _ I8 q8) fun z s10 ⟨yv, H10, I10, r10, k, S0, n0, ey, hD10, room, nx⟩ => ?_
      subst ey
      obtain ⟨tk, rfl⟩ := r10
      refine addI_run (X := X.blk s3 H3 scope ce fp) I10 hD10 room fun s11 I11 => ?_
      obtain ⟨m', hm, w'⟩ := hNx _ nx
      have pin : ∀ b ∈ fp, ∀ o, s7.heap.get? b = some o → s11.heap.get? b = some o ∧ _ = none := fun b hb o e =>
        let z := I11.pin (b, o) (List.mem_append_right _ (List.mem_append_right _ (mem_pinsAt hb e)))
        ⟨z.1, z.2.1⟩
      refine ⟨m', hm, i + 1, _, (I11.unpinned (pins := [])).weak (by rw [← hw8, wipe_length]) (fun j v e => ?_), T.keep _ _ _ st7 fun b hb o e => (pin b hb o e).1, fun b hb => ?_, w'⟩
      · rw [← hw8] at e
        exact (wipe_some e).1
      · obtain ⟨o, e, _⟩ := T.obj _ _ st7 b hb
        exact (pin b hb o e).2
  have loop := run m0 s4 (by subst hI0; exact ⟨0, H3, I4, st4, new, w0⟩)
  exact PpSet.codeAny_compStart_set loop (T.self X.A 0 _ _ _ st4 loop)
end
end Wy

set_option Elab.async false
set_option linter.all false
set_option maxRecDepth 100000
set_option maxHeartbeats 4000000
/-! Wv: values over what is known: sets sorted, ends, comprehensions along a mirror. -/
namespace Wy
open PySem PySem.Spec PyProof.Rows L2 Evl
section
variable {K : PySem.W.Frag} {σ : L2.St} {H H' : Hp} {ta tb te tx tl : TE} {t u : TT} {x y z v : V} {r : R2} {D : Ends} {tu tw tz ts : TS} {g : TG} {P P' : V → Hp → Prop}
theorem ev_maxDef {p : Addr} {ns : List Int} (ha : Ev ta σ H (.ref p)) (h : SqL K H p (ns.map V.int)) : Ev (tCKw (rMaxDef K) (tCons ta tNil) (tCons (tC .non) tNil)) σ H (ov (if 0 < ns.length then some (maxL ns) else none)) := fun H1 e Q q =>
  ha H1 e _ fun H2 e2 => ⟨p, ns, rfl, rfl, ex_l (e.trans e2) h, fun h0 => by
    subst h0
    exact q H2 e2, fun m hm hle => by
    rw [if_pos (List.length_pos_of_mem hm), ← maxL_eq hm hle] at q
    exact q H2 e2⟩
theorem ev_minDef {p : Addr} {ns : List Int} (ha : Ev ta σ H (.ref p)) (h : SqL K H p (ns.map V.int)) : Ev (tCKw (rMinDef K) (tCons ta tNil) (tCons (tC .non) tNil)) σ H (ov (if 0 < ns.length then some (minL ns) else none)) := fun H1 e Q q =>
  ha H1 e _ fun H2 e2 => ⟨p, ns, rfl, rfl, ex_l (e.trans e2) h, fun h0 => by
    subst h0
    exact q H2 e2, fun m hm hle => by
    rw [if_pos (List.length_pos_of_mem hm), ← minL_eq hm hle] at q
    exact q H2 e2⟩
/-- sorted({e for x in xs}), e an int -/
theorem en_sortSc {w : World} {a : Addr} {xs : List V} {j : Nat} {vs : List Nat} (f : Nat → Int) (h : Ev tl σ H (.ref a)) (hx : SqL K H a xs) (hz : xs.length < 60) (hw : ∀ x, wipe ((wipe σ vs).set j (some x)) vs = wipe σ vs)
    (he : ∀ (i : Nat) x, xs[i]? = some x → Ev te ((wipe σ vs).set j (some x)) H (.int (f i))) :
    EvN (tCB (rSortedSet w) (tCons (tSci w (iList K tl) (gName j) te vs) tNil)) σ H fun v N => ∃ (p : Addr) (ns : List Int), v = .ref p ∧ N p = some (.lst (ns.map V.int)) ∧ ns.Pairwise (· < ·) ∧ ∀ k, k ∈ ns ↔ ∃ i, i < xs.length ∧ f i = k := fun H0 e Q q =>
  h H0 e _ fun H1 e1 => ⟨a, rfl, ⟨xs, ex_l (e.trans e1) hx⟩, fun D hD => by
    refine ⟨fun i m H' => m = xs.length - i ∧ i ≤ xs.length ∧ Ex H1 H' ∧ ∃ S n, H' D = some (SetO w D S n) ∧ n ≤ i ∧ ∀ k, S k = true ↔ ∃ l, l < i ∧ f l = k, ⟨xs.length, by simp, Nat.zero_le _, Ex.new hD, _, 0, upd_same, Nat.le_refl _, fun k => ⟨fun c => (by cases c), fun ⟨l, c, _⟩ => absurd c (Nat.not_lt_zero _)⟩⟩, ?_⟩
    rintro i m H' ⟨rfl, hi, ex, S, n, hS, hn, mem⟩
    have hx' : SqL K H' a xs := ex_l ((e.trans e1).trans ex) hx
    by_cases lt : i < xs.length
    · refine .inr ⟨⟨xs, xs[i], hx', List.getElem?_eq_getElem lt⟩, fun H2 => i + 1 ≤ xs.length ∧ Ex H1 H2 ∧ ∃ S n, H2 D = some (SetO w D S n) ∧ n ≤ i + 1 ∧ ∀ k, S k = true ↔ ∃ l, l < i + 1 ∧ f l = k, fun H2 p => ⟨xs.length - (i + 1), by omega, rfl, p⟩, fun x H2 y => ?_⟩
      obtain ⟨rfl, y⟩ := y
      refine ⟨hw x, he i x (y xs hx') H2 ((e.trans e1).trans ex) _ fun H3 e3 => ⟨f i, S, n, rfl, e3 _ _ hS, ?_, lt, Ex.mut (ex.trans e3) hD, _, _, upd_same, ?_, fun k => ?_⟩⟩
      · unfold scanBound
        omega
      · split <;> omega
      · rw [Bool.or_eq_true, decide_eq_true_eq, mem k]
        constructor
        · rintro (⟨l, c1, c2⟩ | c)
          · exact ⟨l, by omega, c2⟩
          · exact ⟨i, by omega, c.symm⟩
        · rintro ⟨l, c1, c2⟩
          by_cases c : l = i
          · exact .inr (by rw [← c2, c])
          · exact .inl ⟨l, by omega, c2⟩
    · have ei : i = xs.length := by omega
      subst ei
      refine .inl ⟨⟨xs, hx', Nat.le_refl _⟩, D, S, n, rfl, hS, by omega, fun ns p up mem' _ hp => q (.ref p) (one p (.lst (ns.map V.int))) _ (fun b z => by
        rw [one_ne z]
        exact fresh_back (e1.trans ex) hp) ⟨p, ns, rfl, one_at, up, fun k => (mem' k).trans (mem k)⟩ (one_ex upd_same) ((e1.trans ex).trans (Ex.new hp))⟩⟩
theorem rv_ixE {p : Addr} {xs : List V} {i : Int} (h : SqL K H p xs ∨ SqT K H p xs) (ha : atI xs i = some v) : RV (rIx K) (.ref p) (.int i) H v := fun H1 e Q q => h.elim (fun h => .inl (rv_ixL h ha H1 e Q q)) fun h => .inr (.inl (rv_ixT h ha H1 e Q q))
/-- x, y, z = t and x, y = t of tuples that stand -/
theorem sv_un3 {i j k : Nat} {a : Addr} (h : Ev te σ H (.ref a)) (hx : SqT K H a [x, y, z]) (n : Sv tz D (((σ.set i (some x)).set j (some y)).set k (some z)) H) : Sv (tSeq (tAsg te (gTup K 3 (gCons (gName i) (gCons (gName j) (gCons (gName k) gNil))))) tz) D σ H := fun H1 e =>
  h H1 e _ fun H2 e2 => ⟨a, _, rfl, ex_t (e.trans e2) hx, rfl, x, _, rfl, y, _, rfl, z, _, rfl, rfl, n H2 (e.trans e2)⟩
theorem sv_un2 {i j : Nat} {P : V → Hp → Prop} (h : EvP te σ H P) (n : ∀ v H2, Ex H H2 → P v H2 → ∃ a x y, v = .ref a ∧ SqT K H2 a [x, y] ∧ Sv tz D ((σ.set i (some x)).set j (some y)) H2) : Sv (tSeq (tAsg te (gTup K 2 (gCons (gName i) (gCons (gName j) gNil)))) tz) D σ H := fun H1 e =>
  h H1 e _ fun v H2 e2 p => by
    obtain ⟨a, x, y, rfl, hx, s⟩ := n v H2 (e.trans e2) p
    exact ⟨a, _, rfl, hx, rfl, x, _, rfl, y, _, rfl, rfl, s H2 (Ex.refl _)⟩
/-- [e for x in xs], xs and its mirror -/
theorem el_lcM {α : Type} {a : Addr} {xs : List V} {ms : List α} {j : Nat} {vs : List Nat} (f : α → V) (h : Ev tl σ H (.ref a)) (hx : SqL K H a xs) (hl : xs.length = ms.length) (hz : xs.length ≤ 40000) (hw : ∀ x, wipe ((wipe σ vs).set j (some x)) vs = wipe σ vs)
    (he : ∀ (i : Nat) x m, xs[i]? = some x → ms[i]? = some m → Ev te ((wipe σ vs).set j (some x)) H (f m)) : EvL (tLc (iList K tl) (gName j) tYes te vs) σ H (ms.map f) := by
  have g : EvL (tLc (iList K tl) (gName j) tYes te vs) σ H (given xs.length (fun _ => true) fun i => (ms.map f).getD i .non) := el_lcL (fun _ => true) (fun i => (ms.map f).getD i .non) h hx hz hw (fun i x H1 e hi H2 e2 Q q => q H2 (Ex.refl H2)) fun i x H1 e hi _ => by
    have li := (List.getElem?_eq_some_iff.mp hi).1
    have hm : ms[i]? = some (ms[i]'(by omega)) := List.getElem?_eq_getElem _
    rw [List.getD_eq_getElem?_getD, List.getElem?_map, hm]
    exact (he i x _ hi hm).mono e
  have eg : given xs.length (fun _ => true) (fun i => (ms.map f).getD i .non) = ms.map f := by
    unfold given
    rw [List.filter_eq_self.mpr (fun _ _ => rfl)]
    have g := range_get V.non (ms.map f) id
    rw [List.map_id, List.length_map, ← hl] at g
    exact g
  rw [eg] at g
  exact g
/-- all(xs) of truths -/
theorem ev_allB {bs : List Bool} (h : EvL te σ H (bs.map V.bl)) : Ev (tCB (rAll K) (tCons te tNil)) σ H (.bl (bs.all id)) := fun H1 e Q q =>
  h H1 e (fun v H2 => rAll K [v] H2 Q) fun p H2 n e2 hp => ⟨p, bs, rfl, sq_of hp, q H2 e2⟩
theorem all_id {α : Type} (l : List α) (f : α → Bool) : ((l.map f).all id) = l.all f := by
  rw [List.all_map]
  rfl
theorem wt_filter {ws : List V} {ts : List Tri} (p : Tri → Bool) (h : Wt K H ws ts) : Wt K H (given ts.length (fun i => p (ts.getD i t0)) fun i => ws.getD i .non) (ts.filter p) := by
  have g : ∀ n, n ≤ ts.length → Wt K H (given n (fun i => p (ts.getD i t0)) fun i => ws.getD i .non) ((ts.take n).filter p) := fun n => by
    induction n with
    | zero => exact fun _ => Wt.nil
    | succ n ih =>
      intro hn
      have hi : ts[n]? = some (ts[n]'(by omega)) := List.getElem?_eq_getElem _
      obtain ⟨q, a, b⟩ := h.2 n _ hi
      have et : ts.getD n t0 = ts[n]'(by omega) := getD_at hi
      have ew : ws.getD n .non = .ref q := by
        rw [List.getD_eq_getElem?_getD, a]
        rfl
      rw [take_snoc hi, List.filter_append]
      by_cases c : p (ts[n]'(by omega)) = true
      · rw [given_yes (by rw [et]; exact c), List.filter_cons_of_pos c, ew]
        exact (ih (by omega)).snoc b
      · rw [given_no (by rw [et]; simpa using c), List.filter_cons_of_neg c, List.filter_nil, List.append_nil]
        exact ih (by omega)
  have g2 := g ts.length (Nat.le_refl _)
  rw [List.take_length] at g2
  exact g2
end
/-! ### the merged wish by its columns -/
theorem spoken_iff {c : Int} {ts : List Tri} : spoken c ts ↔ ∃ t, t ∈ ts ∧ t.c = c := by
  unfold spoken
  rw [List.length_pos_iff_exists_mem]
  constructor
  · rintro ⟨t, h⟩
    obtain ⟨h1, h2⟩ := List.mem_filter.mp h
    exact ⟨t, h1, of_decide_eq_true h2⟩
  · rintro ⟨t, h1, h2⟩
    exact ⟨t, List.mem_filter.mpr ⟨h1, decide_eq_true h2⟩⟩
def triOf (ts : List Tri) (c : Int) : Tri := ⟨c, endLo c ts, endHi c ts⟩
def colsTo (ts : List Tri) : Nat → List Int
  | 0 => []
  | k + 1 => colsTo ts k ++ if spoken (k : Int) ts then [(k : Int)] else []
theorem mergedTo_cols (ts : List Tri) : ∀ k, mergedTo ts k = (colsTo ts k).map (triOf ts)
  | 0 => rfl
  | k + 1 => by
    show mergedTo ts k ++ _ = (colsTo ts k ++ _).map _
    rw [List.map_append, mergedTo_cols ts k]
    split <;> rfl
theorem colsTo_mem (ts : List Tri) (c : Int) : ∀ k, c ∈ colsTo ts k ↔ spoken c ts ∧ 0 ≤ c ∧ c < k
  | 0 => ⟨fun h => (by cases h), fun h => (by omega)⟩
  | k + 1 => by
    show c ∈ colsTo ts k ++ (if spoken (k : Int) ts then [(k : Int)] else []) ↔ _
    rw [List.mem_append, colsTo_mem ts c k]
    constructor
    · rintro (⟨h1, h2, h3⟩ | h)
      · exact ⟨h1, h2, by omega⟩
      · split at h
        · rename_i hs
          have e := List.mem_singleton.mp h
          exact ⟨e ▸ hs, by omega, by omega⟩
        · cases h
    · rintro ⟨h1, h2, h3⟩
      by_cases e : c = k
      · subst e
        rw [if_pos h1]
        exact .inr (List.mem_singleton.mpr rfl)
      · exact .inl ⟨h1, h2, by omega⟩
theorem colsTo_up (ts : List Tri) : ∀ k, (colsTo ts k).Pairwise (· < ·)
  | 0 => List.Pairwise.nil
  | k + 1 => by
    refine List.pairwise_append.mpr ⟨colsTo_up ts k, ?_, fun a ha b hb => ?_⟩
    · split
      · exact List.pairwise_singleton _ _
      · exact List.Pairwise.nil
    · split at hb
      · have e := List.mem_singleton.mp hb
        have := ((colsTo_mem ts a k).mp ha).2.2
        omega
      · cases hb
theorem up_eq {l m : List Int} (hl : l.Pairwise (· < ·)) (hm : m.Pairwise (· < ·)) (h : ∀ k, k ∈ l ↔ k ∈ m) : l = m := by
  have n1 : l.Nodup := hl.imp fun h e => by omega
  have n2 : m.Nodup := hm.imp fun h e => by omega
  exact ((List.perm_ext_iff_of_nodup n1 n2).mpr h).eq_of_pairwise (fun a b _ _ h1 h2 => by omega) hl hm
theorem cols_merged {ns : List Int} {ts : List Tri} (up : ns.Pairwise (· < ·)) (mem : ∀ k, k ∈ ns ↔ ∃ t, t ∈ ts ∧ t.c = k) (h : ∀ t ∈ ts, 0 ≤ t.c ∧ t.c < 6) : mergedM ts = ns.map (triOf ts) := by
  have e : ns = colsTo ts 6 := up_eq up (colsTo_up ts 6) fun k => by
    rw [mem k, colsTo_mem, spoken_iff]
    constructor
    · rintro ⟨t, h1, h2⟩
      have := h t h1
      exact ⟨⟨t, h1, h2⟩, by omega, by omega⟩
    · exact fun g => g.1
  rw [e]
  exact mergedTo_cols ts 6
theorem lows_at (c : Int) (ts : List Tri) : (((ts.filter fun t => decide (t.c = c)).filter fun t => decide (¬ t.lo = none)).map fun t => t.lo.getD 0) = lowsM c ts := by
  unfold lowsM
  rw [List.filter_filter]
  congr 1
  exact List.filter_congr fun t _ => by
    rw [← Bool.decide_and]
    exact decide_eq_decide.mpr and_comm
theorem highs_at (c : Int) (ts : List Tri) : (((ts.filter fun t => decide (t.c = c)).filter fun t => decide (¬ t.hi = none)).map fun t => t.hi.getD 0) = highsM c ts := by
  unfold highsM
  rw [List.filter_filter]
  congr 1
  exact List.filter_congr fun t _ => by
    rw [← Bool.decide_and]
    exact decide_eq_decide.mpr and_comm
end Wy

set_option Elab.async false
set_option linter.all false
set_option maxRecDepth 100000
set_option maxHeartbeats 4000000
/-! Wx: keys in their order: where one comes to stand, which lie in a stretch. -/
namespace Wy
open PySem PySem.Spec PyProof.Rows L2 Evl
theorem split_at {α : Type} {p : α → Bool} : ∀ {l : List α}, (∀ (i j : Nat) x y, l[i]? = some x → l[j]? = some y → i ≤ j → p y = true → p x = true) → ∀ (j : Nat) x, l[j]? = some x → (p x = true ↔ j < (l.filter p).length)
  | [], _, j, x, h => by simp at h
  | a :: l, anti, j, x, h => by
    by_cases c : p a = true
    · rw [List.filter_cons_of_pos c, List.length_cons]
      match j, h with
      | 0, h =>
        have e : a = x := Option.some.inj h
        rw [← e]
        exact ⟨fun _ => Nat.succ_pos _, fun _ => c⟩
      | j + 1, h =>
        have ih := split_at (l := l) (fun i j x y hi hj hij hp => anti (i + 1) (j + 1) x y hi hj (Nat.succ_le_succ hij) hp) j x h
        rw [ih]
        exact ⟨Nat.succ_lt_succ, Nat.lt_of_succ_lt_succ⟩
    · have no : ∀ y ∈ a :: l, ¬ p y = true := fun y hy g => by
        obtain ⟨i, hi⟩ := List.mem_iff_getElem?.mp hy
        exact c (anti 0 i a y rfl hi (Nat.zero_le _) g)
      have e : (a :: l).filter p = [] := List.filter_eq_nil_iff.mpr no
      rw [e]
      exact ⟨fun g => absurd g (no x (List.mem_of_getElem? h)), fun g => absurd g (Nat.not_lt_zero _)⟩
theorem cnt_split {α : Type} {p : α → Bool} : ∀ {l : List α} {n : Nat}, n ≤ l.length → (∀ (i : Nat) r, l[i]? = some r → i < n → p r = true) → (∀ (i : Nat) r, l[i]? = some r → n ≤ i → p r = false) → (l.filter p).length = n
  | [], n, h, _, _ => by
    have : n = 0 := by simpa using h
    subst this
    rfl
  | x :: l, 0, _, _, h => by
    rw [List.filter_cons, if_neg (by rw [h 0 x rfl (Nat.zero_le _)]; decide)]
    exact cnt_split (n := 0) (Nat.zero_le _) (fun i r _ hi => absurd hi (Nat.not_lt_zero _)) (fun i r hr _ => h (i + 1) r hr (Nat.zero_le _))
  | x :: l, n + 1, hn, h1, h2 => by
    rw [List.filter_cons, if_pos (h1 0 x rfl (Nat.succ_pos _)), List.length_cons, cnt_split (Nat.le_of_succ_le_succ hn) (fun i r hr hi => h1 (i + 1) r hr (Nat.succ_lt_succ hi)) (fun i r hr hi => h2 (i + 1) r hr (Nat.succ_le_succ hi))]
theorem ahead_tot : ∀ {a b : List Int}, ahead a b = false → ahead b a = false → a = b
  | [], [], _, _ => rfl
  | [], _ :: _, h, _ => nomatch h
  | _ :: _, [], _, h => nomatch h
  | x :: a, y :: b, h1, h2 => by
    have h1' : (if x = y then ahead a b else decide (x < y)) = false := h1
    have h2' : (if y = x then ahead b a else decide (y < x)) = false := h2
    by_cases c : x = y
    · rw [if_pos c] at h1'
      rw [if_pos c.symm] at h2'
      rw [c, ahead_tot h1' h2']
    · rw [if_neg c] at h1'
      rw [if_neg (fun z => c z.symm)] at h2'
      have k1 := of_decide_eq_false h1'
      have k2 := of_decide_eq_false h2'
      omega
theorem ent_last {c : List Int} {s s' : Rows} {n m : Int} (h : ent c s n = ent c s' m) : n = m := by
  unfold ent at h
  have := List.append_inj_right' h rfl
  simpa using this
theorem ent_len (c : List Int) (s : Rows) (n : Int) : (ent c s n).length = c.length + 1 := by
  unfold ent
  rw [List.length_append, List.length_map]
  rfl
def keyR (c row : List Int) (n : Int) : List Int := c.map (fun x => row.getD x.toNat 0) ++ [n]
theorem ent_key {c row : List Int} {s : Rows} {n : Int} (h : rowOf s n = some row) : ent c s n = keyR c row n := by
  unfold ent keyR
  rw [h]
  rfl
theorem ent_congr {c : List Int} {s s' : Rows} {n : Int} (h : rowOf s n = rowOf s' n) : ent c s n = ent c s' n := by
  unfold ent
  rw [h]
theorem asc_anti {c : List Int} {s : Rows} {ns : List Int} (h : Asc c s ns) (key : List Int) : ∀ (i j : Nat) x y, (ns.map (ent c s))[i]? = some x → (ns.map (ent c s))[j]? = some y → i ≤ j → ahead y key = true → ahead x key = true := fun i j x y hx hy hij hp => by
  rw [List.getElem?_map] at hx hy
  obtain ⟨a, ha, rfl⟩ := Option.map_eq_some_iff.mp hx
  obtain ⟨b, hb, rfl⟩ := Option.map_eq_some_iff.mp hy
  by_cases e : i = j
  · subst e
    rw [ha] at hb
    cases hb
    exact hp
  · have g := asc_far h (j - i - 1) i a b ha (by rw [show i + (j - i - 1) + 1 = j by omega]; exact hb)
    exact ahead_tr g hp
/-- how many stand ahead of a key -/
def cntA (c : List Int) (s : Rows) (ns : List Int) (key : List Int) : Nat := ((ns.map (ent c s)).filter fun r => ahead r key).length
theorem cntA_le (c : List Int) (s : Rows) (ns : List Int) (key : List Int) : cntA c s ns key ≤ ns.length := by
  have := List.length_filter_le (fun r => ahead r key) (ns.map (ent c s))
  rw [List.length_map] at this
  exact this
theorem cntA_iff {c : List Int} {s : Rows} {ns : List Int} {key : List Int} (h : Asc c s ns) {j : Nat} {n : Int} (hj : ns[j]? = some n) : ahead (ent c s n) key = true ↔ j < cntA c s ns key :=
  split_at (asc_anti h key) j _ (by rw [List.getElem?_map, hj]; rfl)
theorem ins_get {α : Type} {l : List α} {i : Nat} {x : α} (hi : i ≤ l.length) (j : Nat) : (l.take i ++ [x] ++ l.drop i)[j]? = if j < i then l[j]? else if j = i then some x else l[j - 1]? := by
  have lt : (l.take i).length = i := by
    rw [List.length_take]
    omega
  rw [List.append_assoc]
  by_cases c : j < i
  · rw [if_pos c, List.getElem?_append_left (by omega), List.getElem?_take_of_lt c]
  · rw [if_neg c, List.getElem?_append_right (by omega), lt]
    by_cases d : j = i
    · rw [if_pos d, d, Nat.sub_self]
      rfl
    · rw [if_neg d]
      show ([x] ++ l.drop i)[j - i]? = _
      rw [List.getElem?_append_right (by simp only [List.length_singleton]; omega), List.getElem?_drop]
      congr 1
      simp only [List.length_singleton]
      omega
theorem inOrd_put {c row : List Int} {s : Rows} {ns : List Int} {n : Int} (h : InOrd ahead c s ns) (hn : rowOf s n = none) : InOrd ahead c (s ++ [(n, row)]) (ns.take (cntA c s ns (keyR c row n)) ++ [n] ++ ns.drop (cntA c s ns (keyR c row n))) := by
  have hi := cntA_le c s ns (keyR c row n)
  have iff := fun j m hj => cntA_iff (key := keyR c row n) h.asc (j := j) (n := m) hj
  generalize hI : cntA c s ns (keyR c row n) = i at hi iff
  have old : ∀ m ∈ ns, rowOf (s ++ [(n, row)]) m = rowOf s m ∧ ¬ m = n := fun m hm => by
    obtain ⟨r, hr⟩ := h.2.1 m hm
    rw [rowOf_snoc, hr]
    exact ⟨rfl, fun e => by rw [e, hn] at hr; cases hr⟩
  have new : rowOf (s ++ [(n, row)]) n = some row := by
    rw [rowOf_snoc, hn]
    exact if_pos rfl
  refine ⟨?_, fun m hm => ?_, fun j a b ha hb => ?_⟩
  · rw [List.length_append, List.length_append, List.length_append, List.length_take, List.length_drop, ← h.1]
    simp only [List.length_singleton]
    omega
  · rcases List.mem_append.mp hm with g | g
    · rcases List.mem_append.mp g with g | g
      · rw [(old m (List.mem_of_mem_take g)).1]
        exact h.2.1 m (List.mem_of_mem_take g)
      · rw [List.mem_singleton.mp g]
        exact ⟨_, new⟩
    · rw [(old m (List.mem_of_mem_drop g)).1]
      exact h.2.1 m (List.mem_of_mem_drop g)
  · rw [ins_get hi] at ha hb
    have eo : ∀ {m}, m ∈ ns → ent c (s ++ [(n, row)]) m = ent c s m := fun hm => ent_congr (old _ hm).1
    by_cases c1 : j + 1 < i
    · rw [if_pos (by omega)] at ha
      rw [if_pos c1] at hb
      rw [eo (List.mem_of_getElem? ha), eo (List.mem_of_getElem? hb)]
      exact h.2.2 j a b ha hb
    by_cases c2 : j + 1 = i
    · rw [if_pos (by omega)] at ha
      rw [if_neg c1, if_pos c2] at hb
      rw [← Option.some.inj hb, eo (List.mem_of_getElem? ha), ent_key new]
      exact (iff j a ha).mpr (by omega)
    rw [if_neg c1, if_neg c2] at hb
    by_cases c3 : j = i
    · rw [if_neg (by omega), if_pos c3] at ha
      rw [show j + 1 - 1 = i by omega] at hb
      rw [← Option.some.inj ha, eo (List.mem_of_getElem? hb), ent_key new]
      have nb : ¬ ahead (ent c s b) (keyR c row n) = true := fun g => by
        have := (iff i b hb).mp g
        omega
      cases g : ahead (keyR c row n) (ent c s b) with
      | true => rfl
      | false =>
        have e := ahead_tot g (by simpa using nb)
        rw [← ent_key (c := c) new] at e
        exact absurd (ent_last e).symm (old b (List.mem_of_getElem? hb)).2
    · rw [if_neg (by omega), if_neg c3] at ha
      rw [show j + 1 - 1 = j - 1 + 1 by omega] at hb
      rw [eo (List.mem_of_getElem? ha), eo (List.mem_of_getElem? hb)]
      exact h.2.2 (j - 1) a b ha hb
theorem filter_one {s : Rows} {n : Int} {row : List Int} (nd : (s.map (·.1)).Nodup) (h : rowOf s n = some row) : (s.filter fun p => decide (¬ p.1 = n)).length + 1 = s.length := by
  induction s with
  | nil => cases h
  | cons p s ih =>
    rw [List.map_cons, List.nodup_cons] at nd
    rw [rowOf_cons] at h
    by_cases c : p.1 = n
    · have e : s.filter (fun p => decide (¬ p.1 = n)) = s := List.filter_eq_self.mpr fun q hq => decide_eq_true fun z => nd.1 (List.mem_map.mpr ⟨q, hq, z.trans c.symm⟩)
      rw [List.filter_cons_of_neg (by simpa using c), e]
      rfl
    · rw [if_neg c] at h
      rw [List.filter_cons_of_pos (by simpa using c), List.length_cons, ih nd.2 h]
      rfl
theorem inOrd_drop {c row : List Int} {s : Rows} {ns : List Int} {n : Int} (h : InOrd ahead c s ns) (nd : (s.map (·.1)).Nodup) (hr : rowOf s n = some row) (mem : n ∈ ns) :
    ns[cntA c s ns (keyR c row n)]? = some n ∧ InOrd ahead c (s.filter fun p => decide (¬ p.1 = n)) (ns.eraseIdx (cntA c s ns (keyR c row n))) := by
  obtain ⟨j, hj⟩ := List.mem_iff_getElem?.mp mem
  have iff := fun j m hj => cntA_iff (key := keyR c row n) h.asc (j := j) (n := m) hj
  have hc := cntA_le c s ns (keyR c row n)
  generalize cntA c s ns (keyR c row n) = i at iff hc
  have e : i = j := by
    have h1 : ¬ j < i := fun g => by
      have := (iff j n hj).mpr g
      rw [ent_key hr, ahead_irr] at this
      cases this
    by_cases h2 : i < j
    · have hj2 := (List.getElem?_eq_some_iff.mp hj).1
      have hi : ns[i]? = some (ns[i]'(by omega)) := List.getElem?_eq_getElem _
      have g := asc_far h.asc (j - i - 1) i _ n hi (by rw [show i + (j - i - 1) + 1 = j by omega]; exact hj)
      rw [ent_key (c := c) hr] at g
      have := (iff i _ hi).mp g
      omega
    · omega
  subst e
  have hi := (List.getElem?_eq_some_iff.mp hj).1
  have old : ∀ m ∈ ns, ¬ m = n → rowOf (s.filter fun p => decide (¬ p.1 = n)) m = rowOf s m := fun m _ g => by
    rw [rowOf_filter, if_neg (fun z => g z.symm)]
  have ndn := asc_nodup h.asc
  have other : ∀ k m, ns[k]? = some m → k ≠ i → ¬ m = n := fun k m hk g z => by
    subst z
    exact g ((List.getElem?_inj (List.getElem?_eq_some_iff.mp hk).1 ndn).mp (hk.trans hj.symm))
  have get : ∀ (k : Nat) m, (ns.eraseIdx i)[k]? = some m → m ∈ ns ∧ ¬ m = n := fun k m hk => by
    rw [List.getElem?_eraseIdx] at hk
    split at hk
    · exact ⟨List.mem_of_getElem? hk, other k m hk (by omega)⟩
    · exact ⟨List.mem_of_getElem? hk, other _ m hk (by omega)⟩
  refine ⟨hj, ?_, fun m hm => ?_, fun k a b ha hb => ?_⟩
  · have := filter_one nd hr
    rw [List.length_eraseIdx_of_lt hi, h.1]
    omega
  · obtain ⟨k, hk⟩ := List.mem_iff_getElem?.mp hm
    obtain ⟨g1, g2⟩ := get k m hk
    rw [old m g1 g2]
    exact h.2.1 m g1
  · obtain ⟨a1, a2⟩ := get k a ha
    obtain ⟨b1, b2⟩ := get _ b hb
    rw [ent_congr (old a a1 a2), ent_congr (old b b1 b2)]
    rw [List.getElem?_eraseIdx] at ha hb
    by_cases c1 : k + 1 < i
    · rw [if_pos (by omega)] at ha
      rw [if_pos c1] at hb
      exact h.2.2 k a b ha hb
    rw [if_neg c1] at hb
    by_cases c2 : k < i
    · rw [if_pos c2] at ha
      have g := asc_far h.asc 1 k a b ha (by rw [show k + 1 + 1 = k + 1 + 1 by omega]; exact hb)
      exact g
    · rw [if_neg c2] at ha
      exact h.2.2 (k + 1) a b ha hb
/-! ### the keys of a stretch -/
theorem endLo_un {c : Int} {ts : List Tri} (h : ¬ spoken c ts) : endLo c ts = none := endLo_nil (by
  unfold lowsM
  rw [List.map_eq_nil_iff, List.filter_eq_nil_iff]
  intro t ht g
  exact h (spoken_iff.mpr ⟨t, ht, (of_decide_eq_true g).1⟩))
theorem endHi_un {c : Int} {ts : List Tri} (h : ¬ spoken c ts) : endHi c ts = none := endHi_nil (by
  unfold highsM
  rw [List.map_eq_nil_iff, List.filter_eq_nil_iff]
  intro t ht g
  exact h (spoken_iff.mpr ⟨t, ht, (of_decide_eq_true g).1⟩))
def faF : List Int → List Tri → List Int
  | [], _ => []
  | c :: cs, ts => if endLo c ts = none ∨ ¬ endLo c ts = endHi c ts then (endLo c ts).toList else (endLo c ts).getD 0 :: faF cs ts
def faT : List Int → List Tri → List Int
  | [], _ => []
  | c :: cs, ts => if endLo c ts = none ∨ ¬ endLo c ts = endHi c ts then (endHi c ts).toList else (endLo c ts).getD 0 :: faT cs ts
theorem faF_len : ∀ (cs : List Int) (ts : List Tri), (faF cs ts).length ≤ cs.length
  | [], _ => Nat.le_refl _
  | c :: cs, ts => by
    show (if _ then _ else _ : List Int).length ≤ cs.length + 1
    split
    · cases endLo c ts <;> simp
    · have := faF_len cs ts
      simp only [List.length_cons]
      omega
theorem faT_len : ∀ (cs : List Int) (ts : List Tri), (faT cs ts).length ≤ cs.length
  | [], _ => Nat.le_refl _
  | c :: cs, ts => by
    show (if _ then _ else _ : List Int).length ≤ cs.length + 1
    split
    · cases endHi c ts <;> simp
    · have := faT_len cs ts
      simp only [List.length_cons]
      omega
/-- the last one raised by one -/
def incL (l : List Int) : List Int := l.take (l.length - 1) ++ [l.getD (l.length - 1) 0 + 1]
theorem incL_cons (x y : Int) (l : List Int) : incL (x :: y :: l) = x :: incL (y :: l) := by
  unfold incL
  simp only [List.length_cons, Nat.add_sub_cancel]
  rw [List.take_succ_cons, List.cons_append]
  congr 2
theorem ahead_nil (a : List Int) : ahead a [] = false := by
  cases a <;> rfl
theorem betw_b (v l : Int) (hi : Option Int) : betw v (some l) hi = (!decide (v < l) && betw v none hi) := by
  by_cases a : v < l
  · rw [decide_eq_true a]
    exact decide_eq_false fun z => z.1 ⟨nofun, a⟩
  · rw [decide_eq_false a]
    exact decide_eq_decide.mpr ⟨fun z => ⟨fun y => y.1 rfl, z.2⟩, fun z => ⟨fun y => a y.2, z.2⟩⟩
theorem betw_h (v h : Int) : betw v none (some h) = decide (v < h + 1) := decide_eq_decide.mpr ⟨fun z => by
  rcases z.2 with y | y
  · cases y
  · have y' : v ≤ h := y
    omega, fun z => ⟨fun y => y.1 rfl, .inr (show v ≤ h by omega)⟩⟩
theorem betw_n (v : Int) : betw v none none = true := decide_eq_true ⟨fun y => y.1 rfl, .inl rfl⟩
theorem in_keys : ∀ (cs row : List Int) (n : Int) (ts : List Tri), inS cs row ts = (!ahead (keyR cs row n) (faF cs ts) && (decide (faT cs ts = []) || ahead (keyR cs row n) (incL (faT cs ts))))
  | [], row, n, ts => by
    show true = (!ahead _ [] && (decide (([] : List Int) = []) || _))
    rw [ahead_nil]
    rfl
  | c :: cs, row, n, ts => by
    have ih := in_keys cs row n ts
    have e1 : inS (c :: cs) row ts = if endLo c ts = none ∨ ¬ endLo c ts = endHi c ts then betw (row.getD c.toNat 0) (endLo c ts) (endHi c ts) else if row.getD c.toNat 0 = (endLo c ts).getD 0 then inS cs row ts else false := rfl
    have e2 : faF (c :: cs) ts = if endLo c ts = none ∨ ¬ endLo c ts = endHi c ts then (endLo c ts).toList else (endLo c ts).getD 0 :: faF cs ts := rfl
    have e3 : faT (c :: cs) ts = if endLo c ts = none ∨ ¬ endLo c ts = endHi c ts then (endHi c ts).toList else (endLo c ts).getD 0 :: faT cs ts := rfl
    have e4 : keyR (c :: cs) row n = row.getD c.toNat 0 :: keyR cs row n := rfl
    rw [e1, e2, e3, e4]
    generalize row.getD c.toNat 0 = v
    generalize keyR cs row n = k at ih ⊢
    generalize faF cs ts = F at ih ⊢
    generalize faT cs ts = T at ih ⊢
    have one : ∀ x : Int, ahead (v :: k) [x] = decide (v < x) := fun x => by
      show (if v = x then ahead k [] else decide (v < x)) = _
      split
      · rename_i h
        rw [ahead_nil, h]
        simp
      · rfl
    have cons : ∀ (x : Int) (l : List Int), ahead (v :: k) (x :: l) = if v = x then ahead k l else decide (v < x) := fun x l => rfl
    have i1 : ∀ x : Int, incL [x] = [x + 1] := fun x => rfl
    by_cases hp : endLo c ts = none ∨ ¬ endLo c ts = endHi c ts
    · rw [if_pos hp, if_pos hp, if_pos hp]
      cases endLo c ts with
      | none =>
        cases endHi c ts with
        | none =>
          rw [betw_n]
          show true = (!ahead (v :: k) [] && (decide (([] : List Int) = []) || _))
          rw [ahead_nil]
          rfl
        | some h =>
          rw [betw_h]
          show _ = (!ahead (v :: k) [] && (decide ([h] = []) || ahead (v :: k) (incL [h])))
          rw [ahead_nil, i1, one]
          simp
      | some l =>
        rw [betw_b]
        cases endHi c ts with
        | none =>
          rw [betw_n]
          show _ = (!ahead (v :: k) [l] && (decide (([] : List Int) = []) || _))
          rw [one]
          simp
        | some h =>
          rw [betw_h]
          show _ = (!ahead (v :: k) [l] && (decide ([h] = []) || ahead (v :: k) (incL [h])))
          rw [i1, one, one]
          simp
    · rw [if_neg hp, if_neg hp, if_neg hp]
      generalize (endLo c ts).getD 0 = l
      rw [cons]
      match T, ih with
      | [], ih =>
        rw [i1, one]
        by_cases e : v = l
        · rw [if_pos e, if_pos e, ih, e]
          simp
          intro
          omega
        · rw [if_neg e, if_neg e]
          by_cases g : v < l
          · simp [g]
          · simp [g]
            omega
      | y :: T, ih =>
        rw [incL_cons, cons]
        by_cases e : v = l
        · rw [if_pos e, if_pos e, if_pos e, ih]
          simp
        · rw [if_neg e, if_neg e, if_neg e]
          simp
end Wy

set_option Elab.async false
set_option linter.all false
set_option maxRecDepth 100000
set_option maxHeartbeats 4000000
/-! Wu: an order that is kept, as it stands: its columns and its keys. -/
namespace Wy
open PySem PySem.Spec PyProof.Rows L2 Evl
section
variable {K : PySem.W.Frag} {σ : L2.St} {H H' : Hp} {ta tb te tx tl ti ty td tk : TE} {t u : TT} {x y z v : V} {r : R2} {D : Ends} {tu tw tz ts : TS} {g : TG} {P P' : V → Hp → Prop}
theorem sv_last (h : Sv (tSeq ts tNext) D σ H) : Sv ts D σ H := h
theorem sv_break (k : ∀ H1, Ex H H1 → D.bk σ H1) : Sv tBreak D σ H := k
theorem upd_ex {a : Addr} {o : HO} (e : Ex H H') : Ex (upd H a o) (upd H' a o) := fun b u h => by
  by_cases c : b = a
  · rw [c, upd_same] at h ⊢
    exact h
  · rw [upd_ne c] at h ⊢
    exact e b u h
/-- o.f = e -/
theorem sv_fld {a C dx : Addr} {fs : List (Str × V)} {f : Str} (hv : Ev te σ H v) (ha : Ev ta σ H (.ref a)) (hi : H a = some (.ins C dx fs)) (hc : Cls K C) (hn : NoAttr K C f) (hl : fs.length < 1000) (k : Sv tz D σ (upd H a (.ins C dx (putF f v fs)))) : Sv (tSeq (sFld K ta te f) tz) D σ H := fun H1 e =>
  hv H1 e _ fun H2 e2 => ha H2 (e.trans e2) _ fun H3 e3 => ⟨a, C, dx, fs, rfl, ((e.trans e2).trans e3) _ _ hi, hc, hn, hl, k _ (upd_ex ((e.trans e2).trans e3))⟩
theorem sv_fldL {a C dx : Addr} {fs : List (Str × V)} {f : Str} {xs : List V} (hv : EvL te σ H xs) (ha : Ev ta σ H (.ref a)) (hi : H a = some (.ins C dx fs)) (hc : Cls K C) (hn : NoAttr K C f) (hl : fs.length < 1000)
    (k : ∀ p H2, H p = none → Ex H H2 → H2 p = some (.lst xs) → Sv tz D σ (upd H2 a (.ins C dx (putF f (.ref p) fs)))) : Sv (tSeq (sFld K ta te f) tz) D σ H := fun H1 e =>
  hv H1 e _ fun p H2 n e2 hp => ha H2 (e.trans e2) _ fun H3 e3 => ⟨a, C, dx, fs, rfl, ((e.trans e2).trans e3) _ _ hi, hc, hn, hl, k p H3 (fresh_back e n) ((e.trans e2).trans e3) (e3 _ _ hp) _ (Ex.refl _)⟩
def rInsL : V → List V → Hp → VK → Prop := fun x vs H Q => ∃ (l : Addr) (xs : List V) (i : Int) (y : V), x = .ref l ∧ vs = [.int i, y] ∧ H l = some (.lst xs) ∧ xs.length < sizeLine ∧ 0 ≤ i ∧ i < 2 ^ 63 ∧ Q .non (upd H l (.lst (xs.take i.toNat ++ [y] ++ xs.drop i.toNat)))
theorem m_insert {X : Cx} : MtR X "list.insert" rInsL := mt_insert
/-- xs.insert(i, e) -/
theorem sv_insert {l : Addr} {xs : List V} {i : Int} (hl : H l = some (.lst xs)) (ha : Ev ta σ H (.ref l)) (hi : Ev ti σ H (.int i)) (hy : Ev ty σ H y) (h0 : 0 ≤ i) (h1 : i ≤ 100000) (hz : xs.length < 100000) (k : Sv tz D σ (upd H l (.lst (xs.take i.toNat ++ [y] ++ xs.drop i.toNat)))) :
    Sv (tSeq (tDrop (tBM K "list" rInsL ta (tCons ti (tCons ty tNil)))) tz) D σ H := fun H1 e =>
  ha H1 e _ fun H2 e2 => ⟨Or.inl ⟨rfl, xs, sq_of (e2 _ _ (e _ _ hl))⟩, hi H2 (e.trans e2) _ fun H3 e3 => hy H3 ((e.trans e2).trans e3) _ fun H4 e4 =>
    have e14 := ((e.trans e2).trans e3).trans e4
    ⟨l, xs, i, y, rfl, rfl, e14 _ _ hl, sz_lt hz, h0, by omega, k _ (upd_ex e14)⟩⟩
/-- del xs[i] -/
theorem sv_del {l : Addr} {xs : List V} {i : Nat} (hl : H l = some (.lst xs)) (ha : Ev ta σ H (.ref l)) (hi : Ev ti σ H (.int (i : Int))) (h1 : i < xs.length) (hz : xs.length < 100000) (k : Sv tz D σ (upd H l (.lst (xs.eraseIdx i)))) : Sv (tSeq (tDelL ta ti) tz) D σ H := fun H1 e =>
  ha H1 e _ fun H2 e2 => hi H2 (e.trans e2) _ fun H3 e3 =>
    ⟨l, xs, i, i, rfl, rfl, ((e.trans e2).trans e3) _ _ hl, by omega, by omega, seq_ix (by omega) (by omega), k _ (upd_ex ((e.trans e2).trans e3))⟩
/-- {t: (u, v) for t, u, v in ms} of a wish that is given -/
def EntA (H : Hp) (kvs : List (Key × V)) (ms : List Tri) (c : Int) : Prop := (∃ t q, t ∈ ms ∧ t.c = c ∧ valV kvs (Sum.inl c) = some (.ref q) ∧ H q = some (.tup [ov t.lo, ov t.hi])) ∨ ((∀ t ∈ ms, ¬ t.c = c) ∧ valV kvs (Sum.inl c) = none)
theorem ep_dcT {ms : List Tri} {i j k : Nat} {vs : List Nat} (h : EvP te σ H fun v H2 => ∃ p acc, v = .ref p ∧ H2 p = some (.lst acc) ∧ Wt K H2 acc ms) (nd : (ms.map (·.c)).Nodup) (hz : ms.length ≤ 1000)
    (hw : ∀ x y z, wipe ((((wipe σ vs).set i (some x)).set j (some y)).set k (some z)) vs = wipe σ vs) (hi : ∀ x y z, ((((wipe σ vs).set i (some x)).set j (some y)).set k (some z))[i]? = some (some x)) (hj : ∀ x y z, ((((wipe σ vs).set i (some x)).set j (some y)).set k (some z))[j]? = some (some y))
    (hk : ∀ x y z, ((((wipe σ vs).set i (some x)).set j (some y)).set k (some z))[k]? = some (some z)) :
    EvP (tDc (iList K te) (gTup K 3 (gCons (gName i) (gCons (gName j) (gCons (gName k) gNil)))) tYes (tVar i) (tTup (tCons (tVar j) (tCons (tVar k) tNil))) vs) σ H fun v H2 => ∃ D kvs, v = .ref D ∧ H2 D = some (.dK kvs) ∧ ∀ c, EntA H2 kvs ms c := fun H0 e Q q =>
  h H0 e _ fun v H1 e1 ⟨p, acc, ev, hp, hW⟩ => by
    subst ev
    refine ⟨p, rfl, ⟨acc, sq_of hp⟩, fun D hD => ?_⟩
    have la := hW.1
    have hpD : p ≠ D := fun c => by rw [c, hD] at hp; cases hp
    refine ⟨fun n m H' => m = acc.length - n ∧ n ≤ acc.length ∧ Ex H1 H' ∧ ∃ kvs, H' D = some (.dK kvs) ∧ kvs.length ≤ n ∧ ∀ c, EntA H' kvs (ms.take n) c, ⟨acc.length, by simp, Nat.zero_le _, Ex.new hD, [], upd_same, Nat.le_refl _, fun c => .inr ⟨fun t ht => by simp at ht, rfl⟩⟩, ?_⟩
    rintro n m H' ⟨rfl, hn, ex, kvs, hd, hl, en⟩
    have hp' : SqL K H' p acc := sq_of (ex _ _ hp)
    by_cases lt : n < acc.length
    · refine .inr ⟨⟨acc, acc[n], hp', List.getElem?_eq_getElem lt⟩, fun H2 => n + 1 ≤ acc.length ∧ Ex H1 H2 ∧ ∃ kvs, H2 D = some (.dK kvs) ∧ kvs.length ≤ n + 1 ∧ ∀ c, EntA H2 kvs (ms.take (n + 1)) c, fun H2 w => ⟨acc.length - (n + 1), by omega, rfl, w⟩, fun x H2 yx => ?_⟩
      obtain ⟨rfl, yx⟩ := yx
      obtain ⟨t, q0, ht, rfl, hq⟩ := (hW.mono ex).at (yx acc hp')
      refine ⟨q0, tv t, rfl, hq, rfl, _, _, rfl, _, _, rfl, _, _, rfl, rfl, hw _ _ _, ?_⟩
      simp only [tYes, ↓reduceIte]
      refine ⟨_, hi _ _ _, ?_⟩
      refine eu_tup (H := H2) (vs := [ov t.lo, ov t.hi]) (ea_cons (ev_var (hj _ _ _)) (ea_cons (ev_var (hk _ _ _)) ea_nil)) (by simp) H2 (Ex.refl _) _ fun p2 H3 n3 e3 hp3 => ?_
      have hd3 := e3 _ _ hd
      have new : valV kvs (Sum.inl t.c) = none := by
        rcases en t.c with ⟨t', q', h1, h2, _⟩ | h2
        · exfalso
          have hn' := (List.getElem?_eq_some_iff.mp ht)
          obtain ⟨l, hl', rfl⟩ := List.mem_iff_getElem.mp h1
          rw [List.length_take] at hl'
          have g1 : (ms.map (·.c))[l]? = some t.c := by
            rw [List.getElem?_map, List.getElem?_eq_getElem (by omega)]
            rw [List.getElem_take] at h2
            exact congrArg some h2
          have g2 : (ms.map (·.c))[n]? = some t.c := by
            rw [List.getElem?_map, ht]
            rfl
          have := (List.getElem?_inj (by rw [List.length_map]; omega) nd).mp (g1.trans g2.symm)
          omega
        · exact h2.2
      refine ⟨kvs, Sum.inl t.c, rfl, hd3, sz_lt (by omega), lt, Ex.mut (ex.trans e3) hD, _, upd_same, ?_, fun c => ?_⟩
      · rw [put_new new, List.length_append]
        simp only [List.length_singleton]
        omega
      · rw [put_new new, take_snoc ht]
        have nD : ∀ {a o}, H2 a = some (.tup o) → (upd H3 D (.dK (kvs ++ [(Sum.inl t.c, .ref p2)]))) a = some (.tup o) := fun {a o} ha => by
          rw [upd_ne (fun z => by rw [z, hd] at ha; cases ha)]
          exact e3 _ _ ha
        by_cases hc : c = t.c
        · refine .inl ⟨t, p2, List.mem_append_right _ (List.mem_singleton.mpr rfl), hc.symm, ?_, ?_⟩
          · rw [valV_snoc _ _ _ _ new, if_pos (by rw [hc])]
          · rw [upd_ne (fun z => by rw [z, hd3] at hp3; cases hp3)]
            exact hp3
        · have nc : ¬ (Sum.inl c : Key) = Sum.inl t.c := fun z => hc (Sum.inl.inj z)
          rcases en c with ⟨t', q', h1, h2, h3, h4⟩ | ⟨h2, h3⟩
          · refine .inl ⟨t', q', List.mem_append_left _ h1, h2, ?_, nD h4⟩
            rw [valV_snoc _ _ _ _ new, if_neg nc]
            exact h3
          · refine .inr ⟨fun t' ht' => ?_, ?_⟩
            · rcases List.mem_append.mp ht' with g | g
              · exact h2 t' g
              · rw [List.mem_singleton.mp g]
                exact fun z => hc z.symm
            · rw [valV_snoc _ _ _ _ new, if_neg nc]
              exact h3
    · have ei : n = acc.length := by omega
      subst ei
      rw [la, List.take_length] at en
      exact .inl ⟨⟨acc, hp', Nat.le_refl _⟩, q _ _ (e1.trans ex) ⟨D, kvs, rfl, hd, en⟩⟩
/-- d.get(k, (..)) -/
theorem ep_dget2 {d : Addr} {kvs : List (Key × V)} {k : Key} {xs : List V} (hd : Ev td σ H (.ref d)) (hD : H d = some (.dK kvs)) (hy : Ev ty σ H (kV k)) (hx : EvU tx σ H xs) : EvP (tDGet2 td ty tx) σ H fun v H2 => ∃ q, H2 q = some (.tup xs) ∧ v = (valV kvs k).getD (.ref q) := fun H1 e Q q =>
  hd H1 e _ fun H2 e2 => ⟨d, rfl, .inl ⟨kvs, .inl ((e.trans e2) _ _ hD)⟩, hy H2 (e.trans e2) _ fun H3 e3 => hx H3 ((e.trans e2).trans e3) _ fun p H4 n4 e4 hp => ⟨_, DGet.k ((((e.trans e2).trans e3).trans e4) _ _ hD), q _ _ ((e2.trans e3).trans e4) ⟨p, hp, rfl⟩⟩⟩
theorem rp_eqO {a b : Option Int} : RV rEq (ov a) (ov b) H (.bl (decide (a = b))) := by
  have e : (.bl (decide (a = b)) : V) = .bl (decide (ov a = ov b)) := by
    congr 1
    exact decide_eq_decide.mpr ⟨fun k => by rw [k], ov_inj⟩
  rw [e]
  exact rv_eq (by cases a <;> cases b <;> rfl)
theorem pe_fldK {X : Cx} {e : Expr} {f : Str} {pos : Pos} (hK : X.K = K) (he : PE X e ta) (hb : attributeBase e f X.env (eval e X.env) = eval e X.env) : PE X (.Attribute e f pos) (tFld K ta f) := hK ▸ pe_fld he hb
/-- whether a list has items, as a test -/
def tTru (K : PySem.W.Frag) (ta : TE) : TT := fun σ H Q => ta σ H fun x H' => ∃ k, TruV K x H' k ∧ Q k H'
theorem pt_tru {X : Cx} {a : Expr} (ha : PE X a ta) (he : ∀ whole, isTrue a X.env whole = (do let v ← whole; standAt a.pos; holding [v] (truthy v)) := by intro _; rfl) : PT X a (tTru X.K ta) := pt_truth ha he
theorem et_lst {p : Addr} {xs : List V} (h : Ev te σ H (.ref p)) (hx : SqL K H p xs) : EvT (tTru K te) σ H (!xs.isEmpty) := fun H1 e Q q =>
  h H1 e _ fun H2 e2 => ⟨_, .inl ⟨xs, ex_l (e.trans e2) hx, rfl⟩, q H2 e2⟩
end
/-! ### x = {k: v for ..} -/
section
variable {X : Cx}
abbrev dctGen (kx vx tg iter : Expr) (ifs : List Expr) (scope : Scope) (pos : Pos) : Expr := .DictComp kx vx [⟨tg, iter, ifs, 0⟩] scope pos
theorem swd_true {kx vx tg iter : Expr} {ifs : List Expr} {scope : Scope} {pos py : Pos} {y : Str} {l : Nat} {env : Env} (hk : env.scope.kind = .function) (hy : env.scope.names.lookup y = some .local) (hl : (py.line == pos.line) = true)
    (no : (scope.names.any fun (n, k) => n == y && (k == .local || k == .cell)) = false) : swapsWith (dctGen kx vx tg iter ifs scope pos) (some (.Name y py)) l env = pure true := by
  have b1 : env.kindOf y = some .local := hy
  have b2 : env.blockKind = .function := by
    unfold Env.blockKind
    rw [hk]
    rfl
  unfold swapsWith
  simp only [b1, b2, no, Expr.pos, hl]
  rfl
theorem ps_setDc {i : Nat} {y : Str} {py pos spos : Pos} {kx vx tg iter : Expr} {ifs : List Expr} {scope : Scope} {own : List (Str × Nat)} {wi : TI} {g : TG} {tt : TT} {tk tv : TE} (calm : X.calm = true) (nd : X.N.Nodup) (hy : X.N[i]? = some y) (loc : X.env.scope.names.lookup y = some .local)
    (sw : swapsWith (dctGen kx vx tg iter ifs scope pos) (some (.Name y py)) spos.line X.env = pure true) (hi : PI X tg iter wi) (ok : BlkOk X.N X.env.scope scope own) (hg : ∀ s H C cl fp, PG (blkAt X scope s H C cl fp) tg g) (ht : ∀ s H C cl fp, PTs (blkAt X scope s H C cl fp) ifs tt)
    (hk : ∀ s H C cl fp, PE (blkAt X scope s H C cl fp) kx tk) (he : ∀ s H C cl fp, PE (blkAt X scope s H C cl fp) vx tv) (hs : ∀ x, foldedSetIterable iter X.env x = pure x := by intro _; rfl) :
    PS X (.Assign [.Name y py] (dctGen kx vx tg iter ifs scope pos) spos) (tAsg (tDc wi g tt tk tv (own.map (·.2))) (gName i)) := by
  refine ⟨fun pins s σ H D I h => ?_⟩
  rw [exec_Assign_Name_used _ _ _ _ sw]
  refine wpAny_bind (wpAny_standAt (wpAny_bind ?_))
  show wpAny _ X.A (do let _ ← comprehension (dctGen kx vx tg iter ifs scope pos) scope X.env (firstIterPos [⟨tg, iter, ifs, 0⟩] pos) newDict false (eval iter X.env) (some (assign (.Name y py) X.env))) _ _ s
  have h' : tDc wi g tt tk tv (own.map (·.2)) σ H (fun x H1 => gName i x σ H1 D.nx) := h
  refine wpAny_bind (thn (dc_core (Qf := fun _ s' => SP X pins D .next s') calm nd I hi ok hg ht hk he hs h' fun L C s' m H' I' q hn f => ?_) fun _ s' hq => wpAny_pure (wpAny_pure hq))
  show wpAny _ _ (assign (.Name y py) X.env (.ref L)) _ _ _
  refine wpAny_assign_Name (store_ok2 (v := V.ref L) I' nd hy (.inl loc) rfl (fun s2 I2 ⟨a, sb, ha⟩ => ?_) (.inr loc))
  obtain ⟨c0, c1, c2, c3, c4, c5⟩ := f
  have far : C ≠ a := ha.elim (fun z => by rw [z]; exact c1) fun z e => c4 y a z e.symm
  exact ⟨m, hn.sameBut sb far, fun h3 sb3 => ⟨_, H', I2.turned (t' := s2.toks) (fun b o hb e => (sb3.2 b hb).trans e) c0 c1 c3 c4 c5, q⟩⟩
end
/-! ### what is read alone, over a region -/
theorem ret_pure {T : RP} {F : Reg} {H : Hp} {P : V → Hp → Prop} {Q : VK} (R : Regn T) (t : T F H) (q : ∀ (v : V) (N H' : Hp) (F' : Reg), Frm F H H' → T F' H' → (∀ a, F' a → F a ∨ H a = none) → (∀ a, N a ≠ none → H a = none ∧ ¬ F' a) → Ex N H' → P v N → Q v H') : RetN P H Q := fun v N H2 d p a b =>
  q v N H2 F (Frm.of b) (R.ex t b) (fun a z => .inl z) (fun a z => ⟨d a z, fun f => by
    obtain ⟨o, ho, _⟩ := R.dom F H a t f
    rw [d a z] at ho
    cases ho⟩) a p
/-! ### a Kept's region -/
def kFs (ct pk : Addr) : List (Str × V) := [("columns", .ref ct), ("_keys", .ref pk)]
def KeyAt (F : Reg) (H : Hp) (p : Addr) (k : List Int) : Prop := H p = some (.lst (k.map V.int)) ∧ F p
structure KeptIs (C k : Addr) (c : List Int) (s : Rows) (F : Reg) (H : Hp) (dx ct pk : Addr) (ps : List Addr) (ns : List Int) : Prop where
  hk : H k = some (.ins C dx (kFs ct pk))
  fk : F k
  hc : H ct = some (.tup (c.map V.int))
  hp : H pk = some (.lst (ps.map V.ref))
  fp : F pk
  keys : Paired (KeyAt F H) ps (ns.map (ent c s))
  ord : InOrd ahead c s ns
  nd : (s.map (·.1)).Nodup
  all : ∀ n r, rowOf s n = some r → n ∈ ns
  c6 : c.length ≤ 6
  l2 : s.length ≤ 200
  dom : ∀ a, F a → ∃ o, H a = some o ∧ ¬ Tupo o
def KeptA (C k : Addr) (c : List Int) (s : Rows) : RP := fun F H => ∃ dx ct pk ps ns, KeptIs C k c s F H dx ct pk ps ns
theorem keptA_regn (C k : Addr) (c : List Int) (s : Rows) : Regn (KeptA C k c s) where
  loc := fun F H H' ⟨dx, ct, pk, ps, ns, h⟩ kp => ⟨dx, ct, pk, ps, ns, kp _ _ h.hk (.inl h.fk), h.fk, kp _ _ h.hc (.inr ⟨_, rfl⟩), kp _ _ h.hp (.inl h.fp), h.fp, paired_imp (fun p k r => ⟨kp _ _ r.1 (.inl r.2), r.2⟩) h.keys, h.ord, h.nd, h.all, h.c6, h.l2, fun a z => by
    obtain ⟨o, ho, nt⟩ := h.dom a z
    exact ⟨o, kp _ _ ho (.inl z), nt⟩⟩
  dom := fun F H a ⟨_, _, _, _, _, h⟩ z => h.dom a z
theorem keptA_rw {K : PySem.W.Frag} {F : Reg} {H : Hp} : ∀ {ps : List Addr} {ks : List (List Int)}, Paired (KeyAt F H) ps ks → Rw K H (ps.map V.ref) ks
  | _, _, .nil => Rw.nil
  | p :: ps, k :: ks, .cons a b => by
    have ih := keptA_rw (K := K) b
    refine ⟨congrArg (· + 1) ih.1, fun i rs hi => ?_⟩
    match i, hi with
    | 0, hi => exact ⟨p, rfl, by rw [← Option.some.inj hi]; exact sq_of a.1⟩
    | i + 1, hi => exact ih.2 i rs hi
theorem paired_imp' {α β : Type} {R R' : α → β → Prop} : ∀ {l : List α} {m : List β}, Paired R l m → (∀ a b, R a b → b ∈ m → R' a b) → Paired R' l m
  | _, _, .nil, _ => .nil
  | _, _, .cons a b, h => .cons (h _ _ a (List.mem_cons_self ..)) (paired_imp' b fun x y r hy => h x y r (List.mem_cons_of_mem _ hy))
section
variable {K : PySem.W.Frag} {σ : L2.St} {H H' : Hp} {ta tb te tx tl ti ty td tk : TE} {t u : TT} {x y z v : V} {r : R2} {D : Ends} {tu tw tz ts : TS} {g : TG} {P P' : V → Hp → Prop}
theorem ev_clL {sp : Sp} {E : XK} {p : Addr} {xs : List V} (ha : Ev ta σ H (.ref p)) (h : EvL te σ H xs) (hs : ∀ l H1, Ex H H1 → H1 l = some (.lst xs) → SpV sp [.ref p, .ref l] H1 z) : Ev (tCall sp [] E (tCons ta (tCons te tNil))) σ H z := fun H1 e Q q =>
  ha H1 e _ fun H2 e2 => h H2 (e.trans e2) _ fun l H3 n e3 hl => by
    show sp ([.ref p, .ref l] ++ []) H3 Q E
    rw [List.append_nil]
    exact hs l H3 ((e.trans e2).trans e3) hl H3 (Ex.refl _) Q (fun H4 e4 => q H4 ((e2.trans e3).trans e4)) E
theorem el_mt {C : Addr} {m : Str} {sp : Sp} {E : XK} {a dx : Addr} {fs : List (Str × V)} {t : TA} {vs xs : List V} (h : Ev ta σ H (.ref a)) (hi : H a = some (.ins C dx fs)) (hm : fs.lookup m = none) (ht : EvA t σ H vs) (hs : SpL sp (.ref a :: vs) H xs) : EvL (tMeth C m sp [] E ta t) σ H xs := fun H1 e Q q =>
  h H1 e _ fun H2 e2 => ⟨a, dx, fs, rfl, (e.trans e2) _ _ hi, hm, ht H2 (e.trans e2) _ fun H3 e3 => by
    rw [List.append_nil]
    exact hs H3 ((e.trans e2).trans e3) Q (fun p H4 n e4 hp => q p H4 (fresh_back (e2.trans e3) n) ((e2.trans e3).trans e4) hp) E⟩
/-- xs.append(e) -/
theorem sv_app {l : Addr} {xs : List V} (hl : H l = some (.lst xs)) (ha : Ev ta σ H (.ref l)) (h : Ev te σ H v) (hz : xs.length < 100000) (k : Sv tz D σ (upd H l (.lst (xs ++ [v])))) : Sv (tSeq (tDrop (tBM K "list" rAppend ta (tCons te tNil))) tz) D σ H := fun H1 e =>
  ha H1 e _ fun H2 e2 => ⟨Or.inl ⟨rfl, xs, sq_of (e2 _ _ (e _ _ hl))⟩, h H2 (e.trans e2) _ fun H3 e3 => ⟨l, xs, v, rfl, rfl, ((e.trans e2).trans e3) _ _ hl, sz_lt hz, k _ (upd_ex ((e.trans e2).trans e3))⟩⟩
/-- [e for x in ys], ys a new list, along its mirror -/
theorem el_lcNM {α : Type} {xs : List V} {ms : List α} {j : Nat} {vs : List Nat} (f : α → V) (h : EvL tl σ H xs) (hl : xs.length = ms.length) (hz : xs.length ≤ 40000) (hw : ∀ x, wipe ((wipe σ vs).set j (some x)) vs = wipe σ vs)
    (he : ∀ (i : Nat) x m, xs[i]? = some x → ms[i]? = some m → Ev te ((wipe σ vs).set j (some x)) H (f m)) : EvL (tLc (iList K tl) (gName j) tYes te vs) σ H (ms.map f) := by
  have g : EvL (tLc (iList K tl) (gName j) tYes te vs) σ H (given xs.length (fun _ => true) fun i => (ms.map f).getD i .non) := el_lcNL (fun _ => true) (fun i => (ms.map f).getD i .non) h hz hw (fun i x H1 e hi H2 e2 Q q => q H2 (Ex.refl H2)) fun i x H1 e hi _ => by
    have li := (List.getElem?_eq_some_iff.mp hi).1
    have hm : ms[i]? = some (ms[i]'(by omega)) := List.getElem?_eq_getElem _
    rw [List.getD_eq_getElem?_getD, List.getElem?_map, hm]
    exact (he i x _ hi hm).mono e
  have eg : given xs.length (fun _ => true) (fun i => (ms.map f).getD i .non) = ms.map f := by
    unfold given
    rw [List.filter_eq_self.mpr (fun _ _ => rfl)]
    have g := range_get V.non (ms.map f) id
    rw [List.map_id, List.length_map, ← hl] at g
    exact g
  rw [eg] at g
  exact g
end
theorem atI_end {α : Type} (xs : List α) (x : α) : atI (xs ++ [x]) (-1) = some x := by
  have e : ixN (xs ++ [x]).length (-1) = some xs.length := by
    unfold ixN
    rw [if_neg (by decide), List.length_append]
    simp only [List.length_singleton]
    rw [if_pos (by omega)]
    congr 1
    omega
  unfold atI
  rw [e]
  show (xs ++ [x])[xs.length]? = some x
  rw [List.getElem?_append_right (Nat.le_refl _), Nat.sub_self]
  rfl
theorem cut_m1 (xs : List V) : cutV xs none (some (-1)) = xs.take (xs.length - 1) := by
  unfold cutV
  rw [HT.sIx_none, List.drop_zero, Nat.sub_zero]
  have e : HT.sIx xs.length xs.length (some (-1)) = ((-1 : Int) + (xs.length : Int)).toNat := by
    show (if (-1 : Int) < 0 then ((-1 : Int) + (xs.length : Int)).toNat else min (-1 : Int).toNat xs.length) = _
    exact if_pos (by decide)
  rw [e]
  congr 1
  omega
theorem cut_ab (xs : List V) (a b : Nat) : cutV xs (some (a : Int)) (some (b : Int)) = (xs.drop (min a xs.length)).take (min b xs.length - min a xs.length) := by
  unfold cutV
  rw [HT.sIx_nat, HT.sIx_nat]
theorem ent_app (c : List Int) (s : Rows) (n : Int) : (ent c s n).map V.int = (c.map fun x => V.int (((rowOf s n).getD []).getD x.toNat 0)) ++ [V.int n] := by
  unfold ent
  rw [List.map_append, List.map_map]
  rfl
theorem key_ne {H : Hp} {pk p : Addr} {ps : List Addr} {q : List Int} (hp : H pk = some (.lst (ps.map V.ref))) (hq : H p = some (.lst (q.map V.int))) (h0 : q ≠ []) : p ≠ pk := fun z => by
  rw [z, hp] at hq
  have e := HO.lst.inj (Option.some.inj hq)
  cases q with
  | nil => exact h0 rfl
  | cons x q =>
    cases ps with
    | nil => cases e
    | cons y ps => cases e
theorem ent_ne {c : List Int} {s : Rows} {ns : List Int} {q : List Int} (h : q ∈ ns.map (ent c s)) : q ≠ [] := by
  obtain ⟨m, _, rfl⟩ := List.mem_map.mp h
  intro e
  have := ent_len c s m
  rw [e] at this
  cases this
theorem paired_ins {α β : Type} {R : α → β → Prop} {x : α} {y : β} (h : R x y) : ∀ {l : List α} {m : List β} (i : Nat), Paired R l m → Paired R (l.take i ++ [x] ++ l.drop i) (m.take i ++ [y] ++ m.drop i)
  | _, _, 0, p => .cons h p
  | _, _, _ + 1, .nil => .cons h .nil
  | _, _, i + 1, .cons a b => .cons a (paired_ins h i b)
theorem rowOf_no {s : Rows} {n : Int} (h : rowOf s n = none) : n ∉ s.map (·.1) := fun g => by
  obtain ⟨r, hr⟩ := rowOf_mem g
  rw [h] at hr
  cases hr
/-- n more comes to stand in the order -/
theorem KeptIs.put {C k : Addr} {c row : List Int} {s : Rows} {F : Reg} {H H2 : Hp} {dx ct pk l : Addr} {ps : List Addr} {ns : List Int} {n : Int} (h : KeptIs C k c s F H dx ct pk ps ns) (hn : rowOf s n = none) (hl2 : s.length < 200)
    (kp : ∀ a o, a ≠ pk → H a = some o → H2 a = some o) (hl : H2 l = some (.lst ((keyR c row n).map V.int))) (hp : H2 pk = some (.lst ((ps.take (cntA c s ns (keyR c row n)) ++ [l] ++ ps.drop (cntA c s ns (keyR c row n))).map V.ref))) :
    KeptIs C k c (s ++ [(n, row)]) (fun a => F a ∨ a = l) H2 dx ct pk (ps.take (cntA c s ns (keyR c row n)) ++ [l] ++ ps.drop (cntA c s ns (keyR c row n))) (ns.take (cntA c s ns (keyR c row n)) ++ [n] ++ ns.drop (cntA c s ns (keyR c row n))) := by
  have nt : ∀ {a o}, H a = some o → (∀ xs, o ≠ .lst xs) → H2 a = some o := fun {a o} ha no => kp a o (fun z => by
    rw [z, h.hp] at ha
    exact no _ (Option.some.inj ha).symm) ha
  have new : rowOf (s ++ [(n, row)]) n = some row := by
    rw [rowOf_snoc, hn]
    exact if_pos rfl
  have old : ∀ m ∈ ns, ent c (s ++ [(n, row)]) m = ent c s m := fun m hm => ent_congr (by
    obtain ⟨r, hr⟩ := h.ord.2.1 m hm
    rw [rowOf_snoc, hr])
  refine ⟨nt h.hk fun _ => nofun, .inl h.fk, nt h.hc fun _ => nofun, hp, .inl h.fp, ?_, inOrd_put h.ord hn, ?_, fun m r hm => ?_, h.c6, by rw [List.length_append]; exact hl2, fun a z => ?_⟩
  · rw [List.map_append, List.map_append, List.map_take, List.map_drop]
    have e1 : ns.map (ent c (s ++ [(n, row)])) = ns.map (ent c s) := List.map_congr_left old
    have e2 : [n].map (ent c (s ++ [(n, row)])) = [keyR c row n] := by
      rw [List.map_singleton, ent_key new]
    rw [e1, e2]
    refine paired_ins (R := KeyAt (fun a => F a ∨ a = l) H2) ⟨hl, .inr rfl⟩ _ (paired_imp' h.keys fun p q hp hq => ⟨kp _ _ (key_ne h.hp hp.1 (ent_ne hq)) hp.1, .inl hp.2⟩)
  · rw [List.map_append]
    exact List.nodup_append.mpr ⟨h.nd, List.nodup_cons.mpr ⟨List.not_mem_nil, List.nodup_nil⟩, fun a ha b hb e => rowOf_no hn (by
      have e2 : b = n := List.mem_singleton.mp hb
      rw [← e2, ← e]
      exact ha)⟩
  · have base : ∀ m, m ∈ ns → m ∈ ns.take (cntA c s ns (keyR c row n)) ++ [n] ++ ns.drop (cntA c s ns (keyR c row n)) := fun m hm => by
      rw [← List.take_append_drop (cntA c s ns (keyR c row n)) ns] at hm
      rcases List.mem_append.mp hm with g | g
      · exact List.mem_append_left _ (List.mem_append_left _ g)
      · exact List.mem_append_right _ g
    rw [rowOf_snoc] at hm
    cases z : rowOf s m with
    | some x => exact base m (h.all m x z)
    | none =>
      rw [z] at hm
      simp only at hm
      split at hm
      · rename_i e
        rw [← e]
        exact List.mem_append_left _ (List.mem_append_right _ (List.mem_singleton.mpr rfl))
      · cases hm
  · rcases z with z | z
    · by_cases e : a = pk
      · rw [e]
        exact ⟨_, hp, fun ⟨_, t⟩ => by cases t⟩
      · obtain ⟨o, ho, no⟩ := h.dom a z
        exact ⟨o, kp a o e ho, no⟩
    · rw [z]
      exact ⟨_, hl, fun ⟨_, t⟩ => by cases t⟩
/-- one stands there no more -/
theorem KeptIs.drop {C k : Addr} {c row : List Int} {s : Rows} {F : Reg} {H H2 : Hp} {dx ct pk : Addr} {ps : List Addr} {ns : List Int} {n : Int} (h : KeptIs C k c s F H dx ct pk ps ns) (hn : rowOf s n = some row)
    (kp : ∀ a o, a ≠ pk → H a = some o → H2 a = some o) (hp : H2 pk = some (.lst ((ps.eraseIdx (cntA c s ns (keyR c row n))).map V.ref))) :
    KeptIs C k c (s.filter fun p => decide (¬ p.1 = n)) F H2 dx ct pk (ps.eraseIdx (cntA c s ns (keyR c row n))) (ns.eraseIdx (cntA c s ns (keyR c row n))) := by
  have nt : ∀ {a o}, H a = some o → (∀ xs, o ≠ .lst xs) → H2 a = some o := fun {a o} ha no => kp a o (fun z => by
    rw [z, h.hp] at ha
    exact no _ (Option.some.inj ha).symm) ha
  obtain ⟨hi, ord⟩ := inOrd_drop h.ord h.nd hn (h.all n row hn)
  have ndn := asc_nodup h.ord.asc
  generalize cntA c s ns (keyR c row n) = i at hi ord hp
  have other : ∀ m, m ∈ ns.eraseIdx i → ¬ m = n ∧ m ∈ ns := fun m hm => by
    obtain ⟨j, hj⟩ := List.mem_iff_getElem?.mp hm
    rw [List.getElem?_eraseIdx] at hj
    have key : ∀ k', ns[k']? = some m → k' ≠ i → ¬ m = n := fun k' hk g z => by
      subst z
      exact g ((List.getElem?_inj (List.getElem?_eq_some_iff.mp hk).1 ndn).mp (hk.trans hi.symm))
    split at hj
    · exact ⟨key _ hj (by omega), List.mem_of_getElem? hj⟩
    · exact ⟨key _ hj (by omega), List.mem_of_getElem? hj⟩
  refine ⟨nt h.hk fun _ => nofun, h.fk, nt h.hc fun _ => nofun, hp, h.fp, ?_, ord, ?_, fun m r hm => ?_, h.c6, Nat.le_trans (List.length_filter_le _ _) h.l2, fun a z => ?_⟩
  · have e1 : (ns.eraseIdx i).map (ent c (s.filter fun p => decide (¬ p.1 = n))) = (ns.eraseIdx i).map (ent c s) := List.map_congr_left fun m hm => ent_congr (by
      rw [rowOf_filter, if_neg fun z => (other m hm).1 z.symm])
    have e2 : (ns.eraseIdx i).map (ent c s) = (ns.map (ent c s)).eraseIdx i := by
      refine List.ext_getElem? fun j => ?_
      rw [List.getElem?_map, List.getElem?_eraseIdx, List.getElem?_eraseIdx]
      split <;> rw [List.getElem?_map]
    rw [e1, e2]
    refine paired_erase (paired_imp' h.keys fun p q hp hq => ⟨kp _ _ (key_ne h.hp hp.1 (ent_ne hq)) hp.1, hp.2⟩) i
  · exact h.nd.sublist (List.Sublist.map _ List.filter_sublist)
  · rw [rowOf_filter] at hm
    split at hm
    · cases hm
    · rename_i g
      have hm' := h.all m r hm
      obtain ⟨j, hj⟩ := List.mem_iff_getElem?.mp hm'
      refine List.mem_iff_getElem?.mpr ?_
      have nj : j ≠ i := fun z => g (by
        rw [z, hi] at hj
        exact Option.some.inj hj)
      by_cases lt : j < i
      · exact ⟨j, by rw [List.getElem?_eraseIdx, if_pos lt]; exact hj⟩
      · exact ⟨j - 1, by rw [List.getElem?_eraseIdx, if_neg (by omega), show j - 1 + 1 = j by omega]; exact hj⟩
  · by_cases e : a = pk
    · rw [e]
      exact ⟨_, hp, fun ⟨_, t⟩ => by cases t⟩
    · obtain ⟨o, ho, no⟩ := h.dom a z
      exact ⟨o, kp a o e ho, no⟩
def keptS {K : PySem.W.Frag} {C : Addr} (cls : Cls K C) (no : NoAttr K C "columns") : KS K where
  C := C
  at_ := KeptA C
  regn := keptA_regn C
  ins := fun ⟨dx, ct, pk, ps, ns, h⟩ => ⟨dx, _, ct, h.hk, rfl, st_of h.hc, rfl, rfl, rfl, rfl, rfl⟩
  cls := cls
  noCol := no
end Wy

set_option Elab.async false
set_option linter.all false
set_option maxRecDepth 100000
set_option maxHeartbeats 4000000
/-! Wa: rules that a table's own methods ask for. -/
namespace Wy
open PySem PySem.Spec PyProof.Rows L2 Evl PySem.SeqAt
/-! ### two instances of a class without an __eq__ of its own -/
section
variable {prog : Program} {w : World} {A : Around} {s : Shared} {K : PySem.W.Frag} {x y C : Addr} {ox oy : Obj} {od od' : Option Obj}
structure PlainEq (K : PySem.W.Frag) (C : Addr) : Prop where
  mro : PySem.W.mroIn K C (.type "object") = some true
  eq : PySem.W.findIn K (.ref C) "__eq__" = some (some (.builtin "object.__eq__"))
theorem eq_declines {E : Value → Shared → Prop} (X : K.In s.heap) (P : PlainEq K C) (I : PySem.W.InstAt s.heap x ox C od) (hy : s.heap.get? y = some oy) (ne : x ≠ y) : wpAny (model prog w) A (tryCompare (.ref x) "__eq__" (.ref y)) (fun r s' => r = none ∧ s' = s) E s := by
  have nt : ox.cls ≠ .type "tuple" := by
    rw [I.cls]
    exact nofun
  have c : wpAny (model prog w) A (call (.builtin "object.__eq__") [.ref x, .ref y]) (fun v s' => v = .notImplemented ∧ s' = s) E s :=
    wpAny_call (codeAny_call_builtin F.cmp_object.eq.plain F.cmpEntry_eq (PySem.W.check_slot F.cmpKind_eq F.cmpSplit_eq (I.type.andThen (PySem.W.looks_mroIn X P.mro)) (F.cmpArgs_eq _ _) (objEq_entry_other ne I.at_ hy nt ⟨rfl, rfl⟩)))
  unfold tryCompare
  refine wpAny_bind (HN.ifBound_objEq X I P.eq (wpAny_mono c (fun v s' h => ?_) fun _ _ e => e))
  obtain ⟨rfl, rfl⟩ := h
  exact wpAny_pure ⟨rfl, rfl⟩
theorem eqAt_far (hu : A.units < cLine) (X : K.In s.heap) (P : PlainEq K C) (I : PySem.W.InstAt s.heap x ox C od) (J : PySem.W.InstAt s.heap y oy C od') (ne : x ≠ y) : EqAt A s (.ref x) (.ref y) false := fun prog w E Q h => by
  have nt : ox.cls ≠ .type "tuple" := by
    rw [I.cls]
    exact nofun
  unfold eqBool
  refine wpAny_holding ?_
  refine wpAny_ite_split (fun hab => absurd (eq_of_beq hab) fun z => ne (Value.ref.inj z)) (fun _ => ?_)
  refine wpAny_bind ?_
  simp only [richCompare, cmpInfo_Eq, oneThing_ref]
  refine wpAny_holding (wpAny_bind (wpAny_cRoomFor hu ?_))
  refine wpAny_bind (I.type.here ?_)
  refine wpAny_bind (J.type.here ?_)
  have same : (Value.ref C != Value.ref C) = false := by simp
  rw [same]
  simp only [Bool.false_eq_true, if_false, Bool.not_false, if_true]
  refine wpAny_bind (wpAny_pure ?_)
  refine wpAny_bind (m := tryCompare (.ref x) _ (.ref y)) (wpAny_mono (eq_declines X P I J.at_ ne) (fun r s1 z => ?_) fun _ _ e => e)
  obtain ⟨rfl, rfl⟩ := z
  refine wpAny_bind (m := tryCompare (.ref y) _ (.ref x)) (wpAny_mono (eq_declines X P J I.at_ ne.symm) (fun r s2 z => ?_) fun _ _ e => e)
  obtain ⟨rfl, rfl⟩ := z
  exact wpAny_bind (wpAny_rule (wpAny_bind (wpAny_isSame_ref_other ne I.at_ J.at_ nt (wpAny_pure (wpAny_truthy_bool h)))))
end
section
variable {X : Cx}
/-- xs.remove(o), instances of one class -/
def rRemO (C : Addr) : V → List V → Hp → VK → Prop := fun x vs H Q => ∃ (l k : Addr) (ks : List Addr) (j : Nat), x = .ref l ∧ vs = [.ref k] ∧ H l = some (.lst (ks.map V.ref)) ∧ ks[j]? = some k ∧ ks.Nodup ∧ ks.length ≤ 1000 ∧ (∀ a ∈ ks, ∃ dx fs, H a = some (.ins C dx fs)) ∧ Q .non (upd H l (.lst ((ks.eraseIdx j).map V.ref)))
theorem refs_at : ∀ {ks : List Addr} {us : List Value}, Vals (ks.map V.ref) us → us = ks.map Value.ref
  | [], _, r => by cases r; rfl
  | k :: ks, _, r => by
    cases r with
    | cons a b =>
      rw [refs_at b, show _ = Value.ref k from a]
      rfl
theorem erase_ref (f : Addr → V) : ∀ (l : List Addr) (i : Nat), (l.map f).eraseIdx i = (l.eraseIdx i).map f
  | [], _ => rfl
  | _ :: _, 0 => rfl
  | x :: l, i + 1 => congrArg (f x :: ·) (erase_ref f l i)
theorem m_removeO {C : Addr} (P : PlainEq X.K C) (hu : X.A.units + 64 < cLine) : MtR X "list.remove" (rRemO C) := by
  intro pins s σ H x xs v us Q I rx rxs h
  obtain ⟨l, k, ks, j, rfl, rfl, hH, hj, nd, hz, ins, q⟩ := h
  cases rx
  obtain ⟨u, rfl, ru⟩ := rxs.one
  cases (show u = Value.ref k from ru)
  obtain ⟨z, its, n, r, hl, e⟩ := I.lstM hH
  have ei := refs_at r
  subst ei
  have lj := (List.getElem?_eq_some_iff.mp hj).1
  have at' : ∀ (m : Nat) (hm : m < ((ks.map Value.ref).toArray).size), ((ks.map Value.ref).toArray)[m] = Value.ref (ks[m]'(by simpa using hm)) := fun m hm => by simp
  let ef : Value → Bool := fun y => y == Value.ref k
  have eqs : ∀ y, y ∈ (ks.map Value.ref).toArray → EqAt X.A.in1 s y (.ref k) (ef y) := fun y hy => by
    obtain ⟨a, ha, rfl⟩ := List.mem_map.mp (by simpa using hy : y ∈ ks.map Value.ref)
    by_cases c : a = k
    · subst c
      show EqAt _ _ _ _ (Value.ref a == Value.ref a)
      rw [beq_self_eq_true]
      exact EqAt.same _
    · have nb : ef (.ref a) = false := beq_eq_false_iff_ne.mpr fun z => c (Value.ref.inj z)
      rw [nb]
      obtain ⟨dx, fs, ha'⟩ := ins a ha
      obtain ⟨dx', fs', hk'⟩ := ins k (List.mem_of_getElem? hj)
      obtain ⟨mA, O, _⟩ := L2.ins_get I.hok ha'
      obtain ⟨od, J, _⟩ := O.look
      obtain ⟨mB, O', _⟩ := L2.ins_get I.hok hk'
      obtain ⟨od', J', _⟩ := O'.look
      exact eqAt_far (A := X.A.in1) (by show X.A.units + 1 < cLine; omega) I.kIn P J J' c
  refine call_meets PySem.F.slot_list_remove ⟨_, e, rfl⟩ PySem.F.entry_list_remove (PySem.F.args_list_remove_2 _ _)
    (list_removeAt l (ks.map Value.ref).toArray n none #[] (.ref k) ef j (by simpa using lj) ?_ ?_ (by rw [List.size_toArray, List.length_map, sizeLine_eq]; omega)) ⟨e, eqs, ?_⟩
  · rw [at']
    have e1 : ks[j] = k := (List.getElem?_eq_some_iff.mp hj).2
    rw [e1]
    exact beq_self_eq_true _
  · intro m hm hmj
    rw [at']
    refine beq_eq_false_iff_ne.mpr fun e2 => ?_
    have hm' : m < ks.length := by simpa using hm
    have e3 : ks[m]? = some k := by
      rw [List.getElem?_eq_getElem hm', Value.ref.inj e2]
    have := (List.getElem?_inj hm' nd).mp (e3.trans hj.symm)
    omega
  · have rr := r.eraseIdx j
    rw [erase_ref] at rr
    refine ⟨.non, _, I.lset (its' := (ks.map Value.ref).eraseIdx j) (t' := s.toks) hH e ?_ rr ?_, rfl, q⟩
    · show (ks.map Value.ref).toArray.eraseIdxIfInBounds j = ((ks.map Value.ref).eraseIdx j).toArray
      rw [List.eraseIdxIfInBounds_toArray]
    · rw [List.length_map]
      have := List.length_eraseIdx_le ks j
      exact sz_of (by omega)
/-- sorted(d), the keys ints -/
def rSortDk : List V → Hp → VK → Prop := fun xs H Q => ∃ (d : Addr) (kvs : List (Key × V)) (ks : List Int), xs = [.ref d] ∧ H d = some (.dK kvs) ∧ kvs.map (·.1) = ks.map Sum.inl ∧ ks.length ≤ 100000 ∧
  ∀ (ys : List Int) (l : Addr), ys.Perm ks → ys.Pairwise (· ≤ ·) → H l = none → Q (.ref l) (upd H l (.lst (ys.map V.int)))
theorem c_sortDk (calm : X.calm = true) : CallR X (.builtin "sorted") rSortDk := by
  intro pins s σ H xs us Q I r h
  obtain ⟨d, kvs, ks, rfl, hd, hks, hz, q⟩ := h
  obtain ⟨u, rfl, rx⟩ := vals1 r
  cases rx
  obtain ⟨_, lo, ws, rel, dd⟩ := dk_rd I.hok (.inl hd)
  obtain ⟨ep, hat⟩ := dd.dictAt
  have names : ws.map (·.1) = ks.map Sum.inl := rel.keys.symm.trans hks
  have count : ws.length = ks.length := by
    have g := congrArg List.length names
    simpa using g
  have fits : ws.length ≤ sizeLine := count ▸ sz_of hz
  refine Calls.call_function_entry PyProof.Rows.kind_sorted PyProof.Rows.plain_sorted PyProof.Rows.entry_sorted (PyProof.Rows.args_sorted1 _) ?_
  unfold Builtin.«sorted»
  refine wpAny_bind (m := checkCount "sorted" 1 1 _) (wpAny_pure ?_)
  refine wpAny_bind (PySem.W.kdu_collect (A := X.A.in1) (PySem.W.kdl_dict (knd := mixKind X.prog X.w) (d := d) (kvs := ws) (ep := ep) lo) (I.ok.hd calm) hat fits fun g tk acc old got => ?_)
  have many : acc.toList.length = ks.length := (Array.length_toList ..).trans (got.1.trans count)
  have allI : IntsAre acc.toList ks := ints_each many fun j v e => by
    obtain ⟨k, x, e1, e2⟩ := got.2 j v (Array.getElem?_toList .. ▸ e)
    have e3 : (ws.map (·.1))[j]? = some k := by
      rw [List.getElem?_map, e1]
      rfl
    rw [names, List.getElem?_map] at e3
    obtain ⟨y, e4, e5⟩ := Option.map_eq_some_iff.mp e3
    subst e5
    rcases keyIs_shape (show keyIs (Sum.inl y) v = true from e2) with ⟨i, t, ek, ev⟩ | ⟨z, t, ek, ev⟩
    · cases ek
      exact ⟨y, t, e4, ev⟩
    · cases ek
  have I1 : Inv X pins σ H { s with heap := g, toks := tk } := I.kept old
  refine wpAny_bind (wpAny_newList ?_ (many ▸ sz_of hz))
  have there : (g.push (seqObj "list" acc.toList.toArray 0)).get? g.objs.size = some (seqObj "list" acc.toList.toArray 0) := Heap.get?_push_size _ rfl
  show wpAny _ _ _ _ _ { s with heap := g.push (seqObj "list" acc.toList.toArray 0), toks := tk }
  refine wpAny_bind (wpAny_holding (wpAny_call_entry PyProof.Rows.slot_list_sort ⟨_, there, rfl⟩ PyProof.Rows.entry_list_sort
    (SrtO.list_sort_ord (s := { s with heap := g.push (seqObj "list" acc.toList.toArray 0), toks := tk }) SrtO.swo_int there (many ▸ sz_of hz) (fun two => SrtO.ints_sortable allI two) fun out o1 o2 => ⟨_, rfl, ?_⟩) (PyProof.Rows.args_list_sort _)))
  obtain ⟨k1, k2, k3⟩ := SrtO.ints_out allI o1 o2
  obtain ⟨e', at'⟩ := PyProof.Rows.sortedHeap_at (vs := acc.toList) (out := out.toArray) there
  have len : ((out.map SrtO.iv).map V.int).length ≤ sizeLine := by
    rw [List.length_map, k2.length_eq]
    exact sz_of hz
  refine wpAny_pure ⟨_, rfl, V.ref g.objs.size, upd H g.objs.size (.lst ((out.map SrtO.iv).map V.int)), I1.laid (t' := tk) (fun b u k => ?_) (Nat.le_refl _) ⟨len, out, e', vals_of_ints k1, at'⟩, rfl, q _ _ k2 k3 (I1.hok.fresh (Nat.le_refl _))⟩
  have less : b < g.objs.size := Heap.lt_size k
  rw [PyProof.Rows.sortedHeap_old (Nat.ne_of_lt less) (by rw [size_push']; exact Nat.lt_succ_of_lt less)]
  exact Heap.get?_push_of_some _ k
/-- len(set(t)), t a tuple of ints -/
def tLenSetT (K : PySem.W.Frag) (ta : TE) : TE := fun σ H Q => ta σ H fun x H1 => ∃ (l : Addr) (ns : List Int), x = .ref l ∧ SqT K H1 l (ns.map V.int) ∧ ns.Nodup ∧ ns.length ≤ 1000 ∧ Q (.int ns.length) H1
theorem pe_lenSetT {a : Expr} {ta : TE} {p p2 q pos : Pos} (hg : Gl X "len") (hm : X.mg "len" = none) (hg2 : Gl X "set") (hm2 : X.mg "set" = none) (ha : PE X a ta) (calm : X.calm = true := by rfl)
    (na : starEach [a] X.env = (false, eval a X.env) :: starEach [] X.env := by rfl) : PE X (.Call (.Name "len" p) [.Call (.Name "set" p2) [a] [] q] [] pos) (tLenSetT X.K ta) := by
  refine ⟨fun pins s σ H Q I h => ?_⟩
  refine Call_ (ld_blt I hg hm boot_len (PyProof.Rows.callWith_builtin1 (PyProof.Rows.args_cons ?_ rfl) rfl rfl))
  refine Call_ (ld_blt I hg2 hm2 boot_set (PyProof.Rows.callWith_type1 (PyProof.Rows.args_cons (thn (ha.run pins s σ H _ I h) fun v s1 ⟨x, H1, I1, r1, q1⟩ => PyProof.Rows.args_nil ?_) na) na rfl))
  obtain ⟨l, ns, rfl, hq, nd, hl, q1⟩ := q1
  cases r1
  obtain ⟨its, r, pl, hz⟩ := I1.tuple hq
  refine call_set_tupI ns (I1.ok.hd calm) pl (by simpa using ints_of_vals r) (by unfold scanBound; omega) fun h' tk c hS hc hk => PyProof.Rows.args_nil ?_
  obtain ⟨o, es, ep, t, ho, hex, hd, good, ndk, mem, hb, hf, hn, _⟩ := hS
  have ec : c = ns.length := by
    have pm : (es.toList.map L2.keyOf).Perm ns := (List.perm_ext_iff_of_nodup ndk nd).mpr fun k => by
      rw [← mem k]
      exact decide_eq_true_iff
    have := pm.length_eq
    rw [List.length_map, Array.length_toList, hn] at this
    exact this
  have I2 : Inv X pins σ H1 { s1 with heap := h', toks := tk } := I1.kept hk
  exact call_len_set ho hex hd hf (by rw [hn]; omega) ⟨.int ns.length, H1, I2.tok _, ⟨_, by rw [hn, ec]⟩, q1⟩
/-- what is never come to -/
theorem ps_never {st : Stmt} : PS X st (fun _ _ _ => False) := ⟨fun _ _ _ _ _ _ h => h.elim⟩
theorem pe_globI {x : Str} {pos : Pos} {i : Int} (hg : Gl X x) (hm : ∃ t, X.mg x = some (.int i t)) (hd : (x == ("__debug__" : Str)) = false := by decide) : PE X (.Name x pos) (tC (.int i)) := by
  obtain ⟨t, h⟩ := hm
  exact pe_glob hg h ⟨_, rfl⟩ hd
theorem c_isiT : CallR X (.builtin "isinstance") (rIsiT X.K) := call_isiT
end
section
variable {K : PySem.W.Frag} {σ : L2.St} {H H' : Hp} {ta tb te tx tl ti ty td tk : TE} {t u : TT} {x y z v : V} {r : R2} {D : Ends} {tu tw tz ts : TS} {g : TG} {P P' : V → Hp → Prop}
theorem sv_never (h : False) : Sv ts D σ H := h.elim
/-- isinstance(x, (list, tuple)) -/
theorem ev_isLT {ty : Value} (ha : Ev ta σ H x) (ht : ∀ H1, Ex H H1 → TyX K H1 x ty) {b : Bool} (hk : PySem.W.kitAny K ty [.type "list", .type "tuple"] = some b) : Ev (tCB (rIsiT K) (tCons ta (tCons (tTup (tCons (tC (.ty "list")) (tCons (tC (.ty "tuple")) tNil))) tNil))) σ H (.bl b) := fun H1 e Q q =>
  ha H1 e _ fun H2 e2 => ⟨sz_of (by simp), fun p hp => ⟨x, p, _, ty, _, b, rfl, upd_same, .cons (.ty "list") (.cons (.ty "tuple") .nil), ht _ ((e.trans e2).trans (Ex.new hp)), hk, q _ (e2.trans (Ex.new hp))⟩⟩
theorem ev_lenST {p : Addr} {ns : List Int} (ha : Ev ta σ H (.ref p)) (h : SqT K H p (ns.map V.int)) (nd : ns.Nodup) (hl : ns.length ≤ 1000) : Ev (tLenSetT K ta) σ H (.int ns.length) := fun H1 e Q q =>
  ha H1 e _ fun H2 e2 => ⟨p, ns, rfl, ex_t (e.trans e2) h, nd, hl, q H2 e2⟩
theorem en_sortDk {d : Addr} {kvs : List (Key × V)} {ks : List Int} (ha : Ev ta σ H (.ref d)) (hd : H d = some (.dK kvs)) (hk : kvs.map (·.1) = ks.map Sum.inl) (up : ks.Pairwise (· < ·)) (hz : ks.length ≤ 100000) : EvL (tCB rSortDk (tCons ta tNil)) σ H (ks.map V.int) := fun H1 e Q q =>
  ha H1 e _ fun H2 e2 => ⟨d, kvs, ks, rfl, (e.trans e2) _ _ hd, hk, hz, fun ys l p1 p2 nl => by
    have ey : ys = ks := p1.eq_of_pairwise (fun a b _ _ h1 h2 => by omega) p2 (up.imp fun h => by omega)
    rw [ey]
    exact q l _ (fresh_back e2 nl) (e2.trans (Ex.new nl)) upd_same⟩
/-- over a list or a tuple -/
def iSeq (K : PySem.W.Frag) (tl : TE) : TI := fun σ H R => iList K tl σ H R ∨ iTup K tl σ H R
theorem pi_seqLT {X : Cx} {tg l : Expr} (h : PE X l tl) : PI X tg l (iSeq X.K tl) := ⟨fun pins s σ H R I w => w.elim (fun w => (pi_list h).run pins s σ H R I w) fun w => (pi_tup h).run pins s σ H R I w⟩
/-- [e for x in t], t a tuple, along its mirror -/
theorem el_lcTM {α : Type} {a : Addr} {xs : List V} {ms : List α} {j : Nat} {vs : List Nat} (f : α → V) (h : Ev tl σ H (.ref a)) (hx : SqT K H a xs) (hl : xs.length = ms.length) (hz : xs.length ≤ 40000) (hw : ∀ x, wipe ((wipe σ vs).set j (some x)) vs = wipe σ vs)
    (he : ∀ (i : Nat) x m, xs[i]? = some x → ms[i]? = some m → Ev te ((wipe σ vs).set j (some x)) H (f m)) : EvL (tLc (iTup K tl) (gName j) tYes te vs) σ H (ms.map f) := fun H0 e Q q => h H0 e _ fun H1 e1 => ⟨a, rfl, ⟨xs, ex_t (e.trans e1) hx⟩, fun Dl hD =>
  lc_tup (K := K) (a := a) (xs := xs) (fun i H' => Ex H1 H' ∧ H' Dl = some (.lst ((ms.take i).map f))) ⟨Ex.new hD, upd_same⟩ (fun i H' _ p => ex_t ((e.trans e1).trans p.1) hx)
    (fun i x H' hi p => ⟨hw x, by
      have li := (List.getElem?_eq_some_iff.mp hi).1
      have hm : ms[i]? = some (ms[i]'(by omega)) := List.getElem?_eq_getElem _
      show te ((wipe σ vs).set j (some x)) H' _
      refine he i x _ hi hm H' ((e.trans e1).trans p.1) _ fun H4 e4 => ⟨_, e4 _ _ p.2, sz_lt (by rw [List.length_map, List.length_take]; omega), Ex.mut (p.1.trans e4) hD, ?_⟩
      rw [upd_same, take_snoc hm, List.map_append]
      rfl⟩)
    (fun H' p => q Dl H' (fresh_back e1 hD) (e1.trans p.1) (by rw [p.2, hl, List.take_length]))⟩
theorem el_lcSM {α : Type} {a : Addr} {xs : List V} {ms : List α} {j : Nat} {vs : List Nat} (f : α → V) (h : Ev tl σ H (.ref a)) (hx : SqL K H a xs ∨ SqT K H a xs) (hl : xs.length = ms.length) (hz : xs.length ≤ 40000) (hw : ∀ x, wipe ((wipe σ vs).set j (some x)) vs = wipe σ vs)
    (he : ∀ (i : Nat) x m, xs[i]? = some x → ms[i]? = some m → Ev te ((wipe σ vs).set j (some x)) H (f m)) : EvL (tLc (iSeq K tl) (gName j) tYes te vs) σ H (ms.map f) := fun H1 e Q q =>
  hx.elim (fun hx => .inl (el_lcM f h hx hl hz hw he H1 e Q q)) fun hx => .inr (el_lcTM f h hx hl hz hw he H1 e Q q)
end
end Wy

set_option Elab.async false
set_option linter.all false
set_option maxRecDepth 100000
set_option maxHeartbeats 4000000
/-! Wb: a table as it stands: its fields, its rows, its kept orders. -/
namespace Wy
open PySem PySem.Spec PyProof.Rows L2 Evl
/-! ### kept orders, one beside the other -/
abbrev KM := Addr × List Int
def KsR (C : Addr) : List (KM × Rows) → RP
  | [] => Emp
  | m :: r => Two (KeptA C m.1.1 m.1.2 m.2) (KsR C r)
theorem ksR_regn (C : Addr) : ∀ r, Regn (KsR C r)
  | [] => emp_regn
  | m :: r => (keptA_regn C m.1.1 m.1.2 m.2).two (ksR_regn C r)
theorem ks_in {C : Addr} {m : KM × Rows} {b : List (KM × Rows)} {H : Hp} : ∀ {a : List (KM × Rows)} {F : Reg}, KsR C (a ++ m :: b) F H → Two (KeptA C m.1.1 m.1.2 m.2) (KsR C (a ++ b)) F H
  | [], F, h => h
  | x :: a, F, h => two_assoc (two_imp (fun F t => two_swap t) (two_assoc' (two_impr (fun F t => ks_in t) h)))
theorem ks_out {C : Addr} {m : KM × Rows} {b : List (KM × Rows)} {H : Hp} : ∀ {a : List (KM × Rows)} {F : Reg}, Two (KeptA C m.1.1 m.1.2 m.2) (KsR C (a ++ b)) F H → KsR C (a ++ m :: b) F H
  | [], F, h => h
  | x :: a, F, h => two_impr (fun F t => ks_out t) (two_assoc (two_imp (fun F t => two_swap t) (two_assoc' h)))
theorem ks_at {C : Addr} {r : List (KM × Rows)} {F : Reg} {H : Hp} (h : KsR C r F H) {m : KM × Rows} (hm : m ∈ r) : ∃ F', KeptA C m.1.1 m.1.2 m.2 F' H ∧ ∀ a, F' a → F a := by
  obtain ⟨a, b, rfl⟩ := List.append_of_mem hm
  obtain ⟨F1, F2, t, _, _, f⟩ := ks_in h
  exact ⟨F1, t, fun a z => (f a).mpr (.inl z)⟩
theorem ks_nodup {C : Addr} {H : Hp} : ∀ {r : List (KM × Rows)} {F : Reg}, KsR C r F H → (r.map (·.1.1)).Nodup
  | [], _, _ => List.nodup_nil
  | m :: r, F, ⟨F1, F2, t, u, d, f⟩ => by
    rw [List.map_cons, List.nodup_cons]
    refine ⟨fun hm => ?_, ks_nodup u⟩
    obtain ⟨x, hx, e⟩ := List.mem_map.mp hm
    obtain ⟨F', ⟨_, _, _, _, _, h'⟩, sub⟩ := ks_at u hx
    obtain ⟨_, _, _, _, _, h⟩ := t
    exact d m.1.1 h.fk (e ▸ sub _ h'.fk)
def tag (s : Rows) (ms : List KM) : List (KM × Rows) := ms.map fun m => (m, s)
theorem tag_mid {s s' : Rows} {ms : List KM} {i : Nat} {m : KM} (h : ms[i]? = some m) : tag s' (ms.take i) ++ tag s (ms.drop i) = tag s' (ms.take i) ++ (m, s) :: tag s (ms.drop (i + 1)) := by
  have hi := (List.getElem?_eq_some_iff.mp h).1
  rw [List.drop_eq_getElem_cons hi, (List.getElem?_eq_some_iff.mp h).2]
  rfl
theorem tag_next {s s' : Rows} {ms : List KM} {i : Nat} {m : KM} (h : ms[i]? = some m) : tag s' (ms.take i) ++ (m, s') :: tag s (ms.drop (i + 1)) = tag s' (ms.take (i + 1)) ++ tag s (ms.drop (i + 1)) := by
  rw [take_snoc h]
  unfold tag
  rw [List.map_append, List.append_assoc]
  rfl
theorem tag_end {s s' : Rows} (ms : List KM) : tag s' (ms.take ms.length) ++ tag s (ms.drop ms.length) = tag s' ms := by
  rw [List.take_length, List.drop_length]
  exact List.append_nil _
/-- the same rows, put together otherwise -/
theorem keptA_same {C k : Addr} {c : List Int} {s s' : Rows} {F : Reg} {H : Hp} (h : KeptA C k c s F H) (e : ∀ n, rowOf s n = rowOf s' n) (l : s.length = s'.length) (nd : (s'.map (·.1)).Nodup) : KeptA C k c s' F H := by
  obtain ⟨dx, ct, pk, ps, ns, h⟩ := h
  have ee : ∀ n, ent c s' n = ent c s n := fun n => ent_congr (e n).symm
  have em : ns.map (ent c s') = ns.map (ent c s) := List.map_congr_left fun n _ => ee n
  refine ⟨dx, ct, pk, ps, ns, h.hk, h.fk, h.hc, h.hp, h.fp, by rw [em]; exact h.keys, ⟨by rw [h.ord.1, l], fun n hn => ?_, fun i a b ha hb => ?_⟩, nd, fun n r hr => h.all n r ((e n).trans hr), h.c6, by rw [← l]; exact h.l2, h.dom⟩
  · obtain ⟨r, hr⟩ := h.ord.2.1 n hn
    exact ⟨r, (e n).symm.trans hr⟩
  · rw [ee, ee]
    exact h.ord.2.2 i a b ha hb
theorem ks_same {C : Addr} {s s' : Rows} {H : Hp} (e : ∀ n, rowOf s n = rowOf s' n) (l : s.length = s'.length) (nd : (s'.map (·.1)).Nodup) : ∀ {ms : List KM} {F : Reg}, KsR C (tag s ms) F H → KsR C (tag s' ms) F H
  | [], _, h => h
  | m :: ms, F, h => two_imp (fun F t => keptA_same t e l nd) (two_impr (fun F t => ks_same e l nd t) h)
/-! ### fields and rows -/
def tFs (wd : Nat) (pd : Addr) (made : Int) (pk : Addr) : List (Str × V) := [("width", .int wd), ("_rows", .ref pd), ("_next", .int made), ("_kept", .ref pk)]
def TRow (H : Hp) (e : Key × V) (p : Int × List Int) : Prop := e.1 = Sum.inl p.1 ∧ ∃ q : Addr, e.2 = V.ref q ∧ H q = some (.tup (p.2.map V.int))
structure TB (C : Addr) (H : Hp) (t : Addr) (s : TabS) (dx pd pk : Addr) (ms : List KM) (kvs : List (Key × V)) : Prop where
  ht : H t = some (.ins C dx (tFs s.wd pd s.made pk))
  hd : H pd = some (.dK kvs)
  rows : Paired (TRow H) kvs s.rows
  hk : H pk = some (.lst (ms.map fun m => V.ref m.1))
  os : ms.map (·.2) = s.os
theorem TRow.mono {H H' : Hp} {e : Key × V} {p : Int × List Int} (x : ∀ a o, H a = some o → Tupo o → H' a = some o) (h : TRow H e p) : TRow H' e p := ⟨h.1, let ⟨q, a, b⟩ := h.2; ⟨q, a, x _ _ b ⟨_, rfl⟩⟩⟩
theorem TB.mono {C t dx pd pk : Addr} {H H' : Hp} {s : TabS} {ms : List KM} {kvs : List (Key × V)} (e : Ex H H') (h : TB C H t s dx pd pk ms kvs) : TB C H' t s dx pd pk ms kvs :=
  ⟨e _ _ h.ht, e _ _ h.hd, paired_imp (fun a b r => r.mono fun x o hx _ => e x o hx) h.rows, e _ _ h.hk, h.os⟩
theorem trow_val {H : Hp} : ∀ {kvs : List (Key × V)} {s : Rows} {n : Int} {r : List Int}, Paired (TRow H) kvs s → rowOf s n = some r → ∃ q : Addr, valV kvs (Sum.inl n) = some (V.ref q) ∧ H q = some (.tup (r.map V.int))
  | _, _, _, _, .nil, h => by cases h
  | e :: kvs, p :: s, n, r, .cons a b, h => by
    rw [rowOf_cons] at h
    obtain ⟨e1, q, e2, e3⟩ := a
    by_cases c : p.1 = n
    · rw [if_pos c] at h
      rw [valV_pos (by rw [e1, c])]
      exact ⟨q, by rw [e2], by rw [← Option.some.inj h]; exact e3⟩
    · rw [if_neg c] at h
      rw [valV_neg (by rw [e1]; intro z; exact c (Sum.inl.inj z))]
      exact trow_val b h
theorem trow_no {H : Hp} : ∀ {kvs : List (Key × V)} {s : Rows} {n : Int}, Paired (TRow H) kvs s → rowOf s n = none → valV kvs (Sum.inl n) = none
  | _, _, _, .nil, _ => rfl
  | e :: kvs, p :: s, n, .cons a b, h => by
    rw [rowOf_cons] at h
    obtain ⟨e1, q, e2, e3⟩ := a
    by_cases c : p.1 = n
    · rw [if_pos c] at h
      cases h
    · rw [if_neg c] at h
      rw [valV_neg (by rw [e1]; intro z; exact c (Sum.inl.inj z))]
      exact trow_no b h
theorem trow_keys {H : Hp} : ∀ {kvs : List (Key × V)} {s : Rows}, Paired (TRow H) kvs s → kvs.map (·.1) = (s.map (·.1)).map Sum.inl
  | _, _, .nil => rfl
  | e :: kvs, p :: s, .cons a b => by
    rw [List.map_cons, List.map_cons, List.map_cons, trow_keys b, a.1]
theorem trow_drop {H : Hp} (n : Int) : ∀ {kvs : List (Key × V)} {s : Rows}, Paired (TRow H) kvs s → Paired (TRow H) (dropK kvs (Sum.inl n)) (s.filter fun p => decide (¬ p.1 = n))
  | _, _, .nil => .nil
  | e :: kvs, p :: s, .cons a b => by
    have ih := trow_drop n b
    unfold dropK at ih ⊢
    rw [List.filter_cons, List.filter_cons]
    by_cases c : p.1 = n
    · rw [if_neg (by rw [a.1, c]; simp), if_neg (by rw [c]; simp)]
      exact ih
    · rw [if_pos (by rw [a.1]; simpa using c), if_pos (by simpa using c)]
      exact .cons a ih
theorem trow_any {H : Hp} (n : Int) : ∀ {kvs : List (Key × V)} {s : Rows}, Paired (TRow H) kvs s → (kvs.any fun kv => decide (kv.1 = Sum.inl n)) = s.any fun p => decide (p.1 = n)
  | _, _, .nil => rfl
  | e :: kvs, p :: s, .cons a b => by
    rw [List.any_cons, List.any_cons, trow_any n b]
    congr 1
    rw [a.1]
    exact decide_eq_decide.mpr ⟨Sum.inl.inj, fun h => by rw [h]⟩
theorem trow_map {H : Hp} {n : Int} {row : List Int} {q : Addr} (hq : H q = some (.tup (row.map V.int))) : ∀ {kvs : List (Key × V)} {s : Rows}, Paired (TRow H) kvs s → Paired (TRow H) (kvs.map fun kv => if kv.1 = Sum.inl n then (kv.1, V.ref q) else kv) (s.map fun p => if p.1 = n then (p.1, row) else p)
  | _, _, .nil => .nil
  | e :: kvs, p :: s, .cons a b => by
    refine .cons ?_ (trow_map hq b)
    show TRow H (if e.1 = Sum.inl n then (e.1, V.ref q) else e) (if p.1 = n then (p.1, row) else p)
    by_cases c : p.1 = n
    · rw [if_pos c, if_pos (by rw [a.1, c])]
      exact ⟨a.1, q, rfl, hq⟩
    · rw [if_neg c, if_neg (by rw [a.1]; exact fun z => c (Sum.inl.inj z))]
      exact a
theorem trow_put {H : Hp} {n : Int} {row : List Int} {q : Addr} {kvs : List (Key × V)} {s : Rows} (h : Paired (TRow H) kvs s) (hq : H q = some (.tup (row.map V.int))) : Paired (TRow H) (putK kvs (Sum.inl n) (.ref q)) (putRow s n row) := by
  unfold putK putRow
  rw [trow_any n h]
  split
  · exact trow_map hq h
  · exact paired_snoc ⟨rfl, q, rfl, hq⟩ h
def TBR (C t : Addr) (s : TabS) (dx pd pk : Addr) (ms : List KM) (kvs : List (Key × V)) : RP := fun F H => TB C H t s dx pd pk ms kvs ∧ F t ∧ F pd ∧ F pk ∧ ∀ a, F a → ∃ o, H a = some o ∧ ¬ Tupo o
theorem tBR_regn (C t : Addr) (s : TabS) (dx pd pk : Addr) (ms : List KM) (kvs : List (Key × V)) : Regn (TBR C t s dx pd pk ms kvs) where
  loc := fun F H H' ⟨h, f1, f2, f3, dm⟩ kp => ⟨⟨kp _ _ h.ht (.inl f1), kp _ _ h.hd (.inl f2), paired_imp (fun a b r => r.mono fun x o hx t => kp x o hx (.inr t)) h.rows, kp _ _ h.hk (.inl f3), h.os⟩, f1, f2, f3, fun a z => let ⟨o, ho, nt⟩ := dm a z; ⟨o, kp _ _ ho (.inl z), nt⟩⟩
  dom := fun F H a ⟨_, _, _, _, dm⟩ z => dm a z
def TabA (C CK t : Addr) (s : TabS) : RP := fun F H => ∃ dx pd pk ms kvs, Two (KsR CK (tag s.rows ms)) (TBR C t s dx pd pk ms kvs) F H
theorem tabA_regn (C CK t : Addr) (s : TabS) : Regn (TabA C CK t s) := regn_ex fun dx => regn_ex fun pd => regn_ex fun pk => regn_ex fun ms => regn_ex fun kvs => (ksR_regn CK _).two (tBR_regn C t s dx pd pk ms kvs)
def tabS {K : PySem.W.Frag} {C : Addr} (CK : Addr) (cls : Cls K C) (no : NoAttr K C "width") : TSp K where
  C := C
  at_ := TabA C CK
  regn := tabA_regn C CK
  ins := fun ⟨dx, pd, pk, ms, kvs, _, _, _, ⟨h, _⟩, _⟩ => ⟨dx, _, h.ht, rfl, fun m hm => by
    unfold tabNames at hm
    simp only [List.mem_cons, List.not_mem_nil, or_false] at hm
    rcases hm with rfl | rfl | rfl | rfl | rfl | rfl | rfl | rfl | rfl | rfl | rfl | rfl | rfl | rfl <;> rfl⟩
  cls := cls
  noW := no
section
variable {T T' T'' U : RP} {F F0 B0 : Reg} {L L' H H' N : Hp} {K : PySem.W.Frag} {σ : L2.St} {ta tb tc te tl ti ty td : TE} {t u : TT} {x y z v w' : V} {D : Ends} {tu tw tz ts : TS} {P P' : V → Hp → Prop} {Q : VK}
theorem vw_last (h : SvW (tSeq ts tNext) D σ T F0 B0 L) : SvW ts D σ T F0 B0 L := h
/-- o.f = e of an own object -/
theorem vw_fld {a C dx : Addr} {fs : List (Str × V)} {f : Str} (R : Regn T) (hv : Ev te σ L v) (ha : Ev ta σ L (.ref a)) (hi : L a = some (.ins C dx fs)) (hc : Cls K C) (hn : NoAttr K C f) (hl : fs.length < 1000) (k : SvW tz D σ T F0 B0 (upd L a (.ins C dx (putF f v fs)))) : SvW (tSeq (sFld K ta te f) tz) D σ T F0 B0 L := fun H w =>
  hv H w.lx _ fun H2 e2 => ha H2 (w.ext R e2).lx _ fun H3 e3 => have w3 := (w.ext R e2).ext R e3; ⟨a, C, dx, fs, rfl, w3.lx _ _ hi, hc, hn, hl, k _ (w3.put R hi (fun ⟨_, z⟩ => by cases z))⟩
/-- d[y] = e of an own dict, e with new objects -/
theorem vw_dputN {d : Addr} {kvs : List (Key × V)} {k0 : Key} (R : Regn T) (hd : L d = some (.dK kvs)) (hv : EvN te σ L P) (ha : Ev ta σ L (.ref d)) (hy : Ev ty σ L (kV k0)) (hz : kvs.length < 10000) (k : ∀ v N, (∀ a, N a ≠ none → L a = none ∧ ¬ B0 a) → P v N → SvW tz D σ T F0 B0 (upd (Unn N L) d (.dK (putK kvs k0 v)))) : SvW (tSeq (sDPut ta ty te) tz) D σ T F0 B0 L := fun H w =>
  hv H w.lx _ fun v N H2 dN p eN e2 => by
    have w2 := w.new R e2 dN eN
    refine ha H2 (unn_r.trans w2.lx) _ fun H3 e3 => hy H3 (unn_r.trans (w2.ext R e3).lx) _ fun H4 e4 => ?_
    have w4 := (w2.ext R e3).ext R e4
    exact ⟨d, _, rfl, DPut.k (w4.lx _ _ (unn_r _ _ hd)) (sz_lt (by omega)), k v N (fun x z => ⟨fresh_back w.lx (dN x z), fun y => let ⟨_, _, _, _, bb, _⟩ := w; bb x y (dN x z)⟩) p _ (w4.put R (unn_r _ _ hd) (fun ⟨_, z⟩ => by cases z))⟩
/-- del d[y] of an own dict -/
theorem vw_ddel {d : Addr} {kvs : List (Key × V)} {k0 : Key} (R : Regn T) (hd : L d = some (.dK kvs)) (ha : Ev ta σ L (.ref d)) (hy : Ev ty σ L (kV k0)) (hs : (valV kvs k0).isSome = true) (k : SvW tz D σ T F0 B0 (upd L d (.dK (dropK kvs k0)))) : SvW (tSeq (sDDel ta ty) tz) D σ T F0 B0 L := fun H w =>
  ha H w.lx _ fun H2 e2 => hy H2 (w.ext R e2).lx _ fun H3 e3 => have w3 := (w.ext R e2).ext R e3; ⟨d, kvs, k0, rfl, w3.lx _ _ hd, rfl, hs, k _ (w3.put R hd (fun ⟨_, z⟩ => by cases z))⟩
theorem Wld.snd (w : Wld (Two T U) F0 B0 L H) : Wld U F0 B0 L H := by
  obtain ⟨F, ⟨F1, F2, t, u, dj, ff⟩, x, d, b, f⟩ := w
  exact ⟨F2, u, x, fun a z => d a ((ff a).mpr (.inr z)), b, fun a z => f a ((ff a).mpr (.inr z))⟩
/-- a test over the world -/
theorem vw_whenH {p : Prop} [Decidable p] (R : Regn T) (h : ∀ H, Wld T F0 B0 L H → EvT t σ H (decide p)) (no : ¬ p) (k : SvW tz D σ T F0 B0 L) : SvW (tSeq (tIfS t tu tNext) tz) D σ T F0 B0 L := vw_whenR R h (fun c => (no c).elim) fun _ => k
/-- a method of an object read in the world -/
theorem ew_mtH {C : Addr} {m : Str} {sp : Sp} {E : XK} {a : Addr} {t : TA} {vs : List V} (R : Regn T) (h : ∀ H, Wld T F0 B0 L H → Ev ta σ H (.ref a)) (hi : ∀ H, Wld T F0 B0 L H → ∃ dx fs, H a = some (.ins C dx fs) ∧ fs.lookup m = none) (ht : ∀ H, Wld T F0 B0 L H → EvA t σ H vs) (hs : SpWP sp (.ref a :: vs) T T' F0 B0 L P) : EvW (tMeth C m sp [] E ta t) σ T T' F0 B0 L P := fun H w Q q =>
  h H w H (Ex.refl H) _ fun H2 e => by
    obtain ⟨dx, fs, h1, h2⟩ := hi H2 (w.ext R e)
    refine ⟨a, dx, fs, rfl, h1, h2, ht H2 (w.ext R e) H2 (Ex.refl _) _ fun H3 e3 => ?_⟩
    rw [List.append_nil]
    exact hs H3 ((w.ext R e).ext R e3) Q q E
/-- one of the kept orders -/
theorem spw_ks {n : Nat} {R : List V → Hp → Reg → RP → (V → Hp → Prop) → Prop} {vs : List V} {C : Addr} {a b : List (KM × Rows)} {m : KM} {s s' : Rows} (hl : vs.length = n) (h : ∀ H F, KeptA C m.1 m.2 s F H → Ex L H → (∀ x, F x → L x = none) → R vs H F (KeptA C m.1 m.2 s') P) :
    SpWP (SpW n R) vs (KsR C (a ++ (m, s) :: b)) (KsR C (a ++ (m, s') :: b)) F0 B0 L P :=
  spw_imp (A := Two (KeptA C m.1 m.2 s) (KsR C (a ++ b))) (B := Two (KeptA C m.1 m.2 s') (KsR C (a ++ b))) (fun F H t => ks_in t) (fun F H t => ks_out t) (spw_l (keptA_regn _ _ _ _) (ksR_regn _ _) hl h)
theorem ks_ins {C : Addr} {a b : List (KM × Rows)} {m : KM} {s : Rows} (w : Wld (KsR C (a ++ (m, s) :: b)) F0 B0 L H) : ∃ dx fs, H m.1 = some (.ins C dx fs) ∧ fs.lookup ("put" : Str) = none ∧ fs.lookup ("drop" : Str) = none ∧ fs.lookup ("numbers" : Str) = none ∧ fs.lookup ("stretch" : Str) = none ∧ fs.lookup ("covers" : Str) = none := by
  obtain ⟨F, t, _⟩ := w
  obtain ⟨F', ⟨dx, ct, pk, ps, ns, h⟩, _⟩ := ks_at t (m := (m, s)) (List.mem_append_right _ (List.mem_cons_self ..))
  exact ⟨dx, _, h.hk, rfl, rfl, rfl, rfl, rfl⟩
theorem sq_out {F1 : Reg} {a : Addr} {xs : List V} (h : SqL K H a xs) (n : ¬ F1 a) : SqL K (Out F1 H) a xs := by
  rcases h with (h | ⟨o, h⟩) | h
  · exact .inl (.inl ((out_at n).trans h))
  · exact .inl (.inr ⟨o, (out_at n).trans h⟩)
  · exact .inr h
/-- t[:c] + (x,) + t[c + 1:] -/
theorem eu_catA {xs ys : List V} (ha : EvU ta σ H xs) (hb : EvU tb σ H ys) (hl : xs.length + ys.length ≤ 100000) : EvU (tOp (rCatA K) ta tb) σ H (xs ++ ys) := fun H1 e Q q =>
  ha H1 e _ fun p H2 n2 e2 hp => hb H2 (e.trans e2) _ fun p' H3 n3 e3 hp' => ⟨p, p', xs, ys, rfl, rfl, st_of (e3 _ _ hp), st_of hp', sz_of hl, fun h => by
    subst h
    exact q p' H3 (fresh_back e2 n3) (e2.trans e3) hp', fun _ h => by
    subst h
    rw [List.append_nil] at q
    exact q p H3 n2 (e2.trans e3) (e3 _ _ hp), fun _ _ l hl => q l _ (fresh_back (e2.trans e3) hl) ((e2.trans e3).trans (Ex.new hl)) upd_same⟩
theorem eu_slA {tlo thi : TO} {a : Addr} {xs : List V} {lo hi : Option Int} (h : Ev te σ H (.ref a)) (h1 : EvO tlo σ H lo) (h2 : EvO thi σ H hi) (hs : SqT K H a xs) (no : ¬ (HT.sIx xs.length 0 lo = 0 ∧ HT.sIx xs.length xs.length hi = xs.length)) : EvU (tSl (rSlA K) te tlo thi) σ H (cutV xs lo hi) := fun H1 e Q q =>
  h H1 e _ fun H2 e2 => h1 H2 (e.trans e2) _ fun H3 e3 => h2 H3 ((e.trans e2).trans e3) _ fun H4 e4 =>
    have e14 := (e2.trans e3).trans e4
    ⟨a, xs, rfl, ex_t (e.trans e14) hs, fun c => (no c).elim, fun _ p hp => q p _ (fresh_back e14 hp) (e14.trans (Ex.new hp)) upd_same⟩
end
end Wy

set_option Elab.async false
set_option linter.all false
set_option maxRecDepth 100000
set_option maxHeartbeats 4000000
/-! Wc: more that a table's own methods ask for. -/
namespace Wy
open PySem PySem.Spec PyProof.Rows L2 Evl
section
variable {T T' T'' U : RP} {F F1 F2 F0 B0 : Reg} {L L' H H' N : Hp} {K : PySem.W.Frag} {σ : L2.St} {ta tb tc te tl ti ty td : TE} {t u : TT} {x y z v w' : V} {D : Ends} {tu tw tz ts : TS} {P P' : V → Hp → Prop} {Q : VK}
theorem ev_mt {C : Addr} {m : Str} {sp : Sp} {E : XK} {a dx : Addr} {fs : List (Str × V)} {t : TA} {vs : List V} (h : Ev ta σ H (.ref a)) (hi : H a = some (.ins C dx fs)) (hm : fs.lookup m = none) (ht : EvA t σ H vs) (hs : SpV sp (.ref a :: vs) H z) : Ev (tMeth C m sp [] E ta t) σ H z := fun H1 e Q q =>
  h H1 e _ fun H2 e2 => ⟨a, dx, fs, rfl, (e.trans e2) _ _ hi, hm, ht H2 (e.trans e2) _ fun H3 e3 => by
    rw [List.append_nil]
    exact hs H3 ((e.trans e2).trans e3) Q (fun H4 e4 => q H4 ((e2.trans e3).trans e4)) E⟩
theorem ev_lenD {d : Addr} {kvs : List (Key × V)} (ha : Ev ta σ H (.ref d)) (hd : H d = some (.dK kvs)) : Ev (tCB rLenD (tCons ta tNil)) σ H (.int kvs.length) := fun H1 e Q q =>
  ha H1 e _ fun H2 e2 => ⟨d, kvs, rfl, (e.trans e2) _ _ hd, q H2 e2⟩
/-- xs.remove(e), e read in the world -/
theorem vw_rem {C l k : Addr} {ks : List Addr} {j : Nat} (R : Regn T) (hl : L l = some (.lst (ks.map V.ref))) (ha : Ev ta σ L (.ref l)) (hk : ∀ H, Wld T F0 B0 L H → Ev te σ H (.ref k)) (hj : ks[j]? = some k) (hz : ks.length ≤ 1000) (hi : ∀ H, Wld T F0 B0 L H → ks.Nodup ∧ ∀ a ∈ ks, ∃ dx fs, H a = some (.ins C dx fs))
    (n : SvW tz D σ T F0 B0 (upd L l (.lst ((ks.eraseIdx j).map V.ref)))) : SvW (tSeq (tDrop (tBM K "list" (rRemO C) ta (tCons te tNil))) tz) D σ T F0 B0 L := fun H w =>
  ha H w.lx _ fun H2 e2 => ⟨Or.inl ⟨rfl, _, sq_of ((w.ext R e2).lx _ _ hl)⟩, hk H2 (w.ext R e2) H2 (Ex.refl _) _ fun H3 e3 =>
    have w3 := (w.ext R e2).ext R e3
    ⟨l, k, ks, j, rfl, rfl, w3.lx _ _ hl, hj, (hi H3 w3).1, hz, (hi H3 w3).2, n _ (w3.put R hl (fun ⟨_, z⟩ => by cases z))⟩⟩
theorem rv_inOrd {pl pt : Addr} {xs : List V} {os : List (List Int)} {c : List Int} (h1 : H pl = some (.lst xs)) (h2 : Paired (OrdIs H) xs os) (ht : SqT K H pt (c.map V.int)) : RV (rInD K) (.ref pt) (.ref pl) H (.bl (decide (c ∈ os))) := fun H1 e Q q => by
  refine ⟨_, _, dp_mono e _ (dp_intsT ht), dp_mono e _ (.lst (sq_of h1) (ord_dp h2)), (shp_tupI c).ok (by decide), (shp_ords os).ok (by decide), ?_⟩
  rw [any_ords]
  exact q H1 (Ex.refl _)
theorem rv_eqTT {p q : Addr} {a b : List Int} (h1 : SqT K H p (a.map V.int)) (h2 : SqT K H q (b.map V.int)) : RV (rEqD K) (.ref p) (.ref q) H (.bl (decide (a = b))) := by
  have g := rd_eq (dp_intsT h1) (dp_intsT h2) (shp_tupI a) (shp_tupI b) (by decide)
  rw [eqv_ints] at g
  exact g
/-- o.f = {} -/
theorem sv_fldD {a C dx : Addr} {fs : List (Str × V)} {f : Str} (ha : Ev ta σ H (.ref a)) (hi : H a = some (.ins C dx fs)) (hc : Cls K C) (hn : NoAttr K C f) (hl : fs.length < 1000)
    (k : ∀ p H2, H p = none → Ex H H2 → H2 p = some (.dK []) → Sv tz D σ (upd H2 a (.ins C dx (putF f (.ref p) fs)))) : Sv (tSeq (sFld K ta tDNewK f) tz) D σ H := fun H1 e p np =>
  have e2 : Ex H (upd H1 p (.dK [])) := e.trans (Ex.new np)
  ha _ e2 _ fun H3 e3 => ⟨a, C, dx, fs, rfl, (e2.trans e3) _ _ hi, hc, hn, hl, k p H3 (fresh_back e np) (e2.trans e3) (e3 _ _ upd_same) _ (Ex.refl _)⟩
/-- a table's base as it stands later -/
theorem tBR_to {C t dx pd pk : Addr} {s s' : TabS} {ms ms' : List KM} {kvs kvs' : List (Key × V)} (h : TBR C t s dx pd pk ms kvs F L) (tb : TB C L' t s' dx pd pk ms' kvs') (kp : ∀ a o, a ≠ t → a ≠ pd → a ≠ pk → L a = some o → L' a = some o) : TBR C t s' dx pd pk ms' kvs' F L' := by
  obtain ⟨h, f1, f2, f3, dm⟩ := h
  refine ⟨tb, f1, f2, f3, fun a z => ?_⟩
  by_cases c1 : a = t
  · rw [c1, tb.ht]
    exact ⟨_, rfl, fun ⟨_, q⟩ => by cases q⟩
  by_cases c2 : a = pd
  · rw [c2, tb.hd]
    exact ⟨_, rfl, fun ⟨_, q⟩ => by cases q⟩
  by_cases c3 : a = pk
  · rw [c3, tb.hk]
    exact ⟨_, rfl, fun ⟨_, q⟩ => by cases q⟩
  obtain ⟨o, ho, nt⟩ := dm a z
  exact ⟨o, kp a o c1 c2 c3 ho, nt⟩
/-- a table's method: its end -/
theorem close_t {C CK t dx pd pk : Addr} {s s' : TabS} {ms ms' : List KM} {kvs kvs' : List (Key × V)} (hT : KsR CK (tag s.rows ms) F1 H) (hU : TBR C t s dx pd pk ms kvs F2 H) (hd : ∀ a, F1 a → F2 a → False) (ff : ∀ a, F a ↔ F1 a ∨ F2 a)
    (q : ∀ (v : V) (N H' : Hp) (F' : Reg), Frm F H H' → TabA C CK t s' F' H' → (∀ a, F' a → F a ∨ H a = none) → (∀ a, N a ≠ none → H a = none ∧ ¬ F' a) → Ex N H' → P v N → Q v H')
    (w : Wld (KsR CK (tag s'.rows ms')) F1 (fun a => H a ≠ none) L' H') (tb : TB C L' t s' dx pd pk ms' kvs') (kp : ∀ a o, a ≠ t → a ≠ pd → a ≠ pk → Out F1 H a = some o → L' a = some o) (nN : ∀ a, N a ≠ none → H a = none) (eN : Ex N L') (p : P v N) : Q v H' := by
  have hU2 := (open_r (ksR_regn CK _) (tBR_regn C t s dx pd pk ms kvs) hT hU hd).2
  refine close_r (ksR_regn CK _) (tBR_regn C t s' dx pd pk ms' kvs') hT ff (fun v N H' F' fr tt a b c p => q v N H' F' fr ⟨dx, pd, pk, ms', kvs', tt⟩ a b c p) w (tBR_to hU2 tb kp) (fun a z => .inl z) (fun a o ho z => ?_) (fun a z => ⟨nN a z, fun y => ?_⟩) eN p
  · obtain ⟨h, f1, f2, f3, dm⟩ := hU2
    have nt : ∀ {o'}, Out F1 H a = some o' → F2 a → ∃ xs, o' = HO.tup xs := fun g y => by
      have := z y
      rw [ho] at g
      cases g
      exact this
    refine kp a o (fun c => ?_) (fun c => ?_) (fun c => ?_) ho
    · obtain ⟨_, e⟩ := nt (c ▸ h.ht) (c ▸ f1)
      cases e
    · obtain ⟨_, e⟩ := nt (c ▸ h.hd) (c ▸ f2)
      cases e
    · obtain ⟨_, e⟩ := nt (c ▸ h.hk) (c ▸ f3)
      cases e
  · obtain ⟨_, _, _, _, dm⟩ := hU
    obtain ⟨o, ho, _⟩ := dm a y
    rw [nN a z] at ho
    cases ho
/-- what a row's check asks, out of the region -/
theorem row_out {r : Addr} {row : List Int} {F1 : Reg} (R : Regn T) (t : T F1 H) (h : (SqL K H r (row.map V.int) ∧ ¬ F1 r) ∨ H r = some (.tup (row.map V.int))) : SqL K (Out F1 H) r (row.map V.int) ∨ Out F1 H r = some (.tup (row.map V.int)) := by
  rcases h with ⟨h, n⟩ | h
  · exact .inl (sq_out h n)
  · refine .inr ((out_at fun z => ?_).trans h)
    obtain ⟨o, ho, nt⟩ := R.dom F1 H r t z
    rw [h] at ho
    cases ho
    exact nt ⟨_, rfl⟩
theorem tup_out {r : Addr} {xs : List V} {F1 : Reg} (R : Regn T) (t : T F1 H) (h : H r = some (.tup xs)) : Out F1 H r = some (.tup xs) := by
  refine (out_at fun z => ?_).trans h
  obtain ⟨o, ho, nt⟩ := R.dom F1 H r t z
  rw [h] at ho
  cases ho
  exact nt ⟨_, rfl⟩
end
/-! ### what a table reads of itself -/
def KOrd (C : Addr) (H : Hp) (m : KM) : Prop := ∃ dx ct pk, H m.1 = some (.ins C dx (kFs ct pk)) ∧ H ct = some (.tup (m.2.map V.int))
theorem KOrd.mono {C : Addr} {H H' : Hp} {m : KM} (e : Ex H H') (h : KOrd C H m) : KOrd C H' m := let ⟨dx, ct, pk, a, b⟩ := h; ⟨dx, ct, pk, e _ _ a, e _ _ b⟩
theorem ks_ord {C : Addr} {s : Rows} {ms : List KM} {F : Reg} {H : Hp} (h : KsR C (tag s ms) F H) : ∀ m ∈ ms, KOrd C H m := fun m hm => by
  obtain ⟨F', ⟨dx, ct, pk, ps, ns, g⟩, _⟩ := ks_at h (m := (m, s)) (List.mem_map.mpr ⟨m, hm, rfl⟩)
  exact ⟨dx, ct, pk, g.hk, g.hc⟩
theorem ks_ndup {C : Addr} {s : Rows} {ms : List KM} {F : Reg} {H : Hp} (h : KsR C (tag s ms) F H) : (ms.map (·.1)).Nodup := by
  have := ks_nodup h
  rw [tag, List.map_map] at this
  exact this
theorem kords {C : Addr} {H : Hp} : ∀ {ms : List KM}, (∀ m ∈ ms, KOrd C H m) → ∃ cts : List Addr, Paired (OrdIs H) (cts.map V.ref) (ms.map (·.2)) ∧ Paired (fun (m : KM) ct => ∃ dx pk, H m.1 = some (.ins C dx (kFs ct pk))) ms cts
  | [], _ => ⟨[], .nil, .nil⟩
  | m :: ms, h => by
    obtain ⟨cts, p1, p2⟩ := kords fun x hx => h x (List.mem_cons_of_mem _ hx)
    obtain ⟨dx, ct, pk, a, b⟩ := h m (List.mem_cons_self ..)
    exact ⟨ct :: cts, .cons ⟨ct, rfl, b⟩ p1, .cons ⟨dx, pk, a⟩ p2⟩
section
variable {K : PySem.W.Frag} {H H' : Hp} {a t : Addr} {xs : List V}
theorem sq_ins {C dx : Addr} {fs : List (Str × V)} {o' : HO} (h : SqL K H a xs) (ht : H t = some (.ins C dx fs)) : SqL K (upd H t o') a xs := by
  rcases h with (h | ⟨o, h⟩) | h
  · exact .inl (.inl ((upd_ne fun e => by rw [e, ht] at h; cases h).trans h))
  · exact .inl (.inr ⟨o, (upd_ne fun e => by rw [e, ht] at h; cases h).trans h⟩)
  · exact .inr h
theorem tup_upd {o o' : HO} (h : H a = some (.tup xs)) (ht : H t = some o) (nt : ¬ Tupo o) : upd H t o' a = some (.tup xs) := (upd_ne fun e => by
  rw [e, ht] at h
  exact nt ⟨xs, Option.some.inj h⟩).trans h
end
/-- all but some addresses is kept -/
def KpB (L L' : Hp) (t pd pk : Addr) : Prop := ∀ a o, a ≠ t → a ≠ pd → a ≠ pk → L a = some o → L' a = some o
theorem KpB.refl {L : Hp} {t pd pk : Addr} : KpB L L t pd pk := fun a o _ _ _ h => h
theorem KpB.ex {L L' L'' : Hp} {t pd pk : Addr} (k : KpB L L' t pd pk) (e : Ex L' L'') : KpB L L'' t pd pk := fun a o h1 h2 h3 h => e a o (k a o h1 h2 h3 h)
theorem KpB.t {L L' : Hp} {t pd pk : Addr} {o : HO} (k : KpB L L' t pd pk) : KpB L (upd L' t o) t pd pk := fun a o' h1 h2 h3 h => (upd_ne h1).trans (k a o' h1 h2 h3 h)
theorem KpB.d {L L' : Hp} {t pd pk : Addr} {o : HO} (k : KpB L L' t pd pk) : KpB L (upd L' pd o) t pd pk := fun a o' h1 h2 h3 h => (upd_ne h2).trans (k a o' h1 h2 h3 h)
theorem KpB.k {L L' : Hp} {t pd pk : Addr} {o : HO} (k : KpB L L' t pd pk) : KpB L (upd L' pk o) t pd pk := fun a o' h1 h2 h3 h => (upd_ne h3).trans (k a o' h1 h2 h3 h)
section
variable {C t dx pd pk : Addr} {H : Hp} {s : TabS} {ms : List KM} {kvs : List (Key × V)}
theorem TB.td (h : TB C H t s dx pd pk ms kvs) : pd ≠ t := fun e => by
  have := h.hd
  rw [e, h.ht] at this
  cases this
theorem TB.tk (h : TB C H t s dx pd pk ms kvs) : pk ≠ t := fun e => by
  have := h.hk
  rw [e, h.ht] at this
  cases this
theorem TB.dk (h : TB C H t s dx pd pk ms kvs) : pk ≠ pd := fun e => by
  have := h.hk
  rw [e, h.hd] at this
  cases this
/-- the next number set -/
theorem TB.made (h : TB C H t s dx pd pk ms kvs) (m : Int) : TB C (upd H t (.ins C dx (tFs s.wd pd m pk))) t { s with made := m } dx pd pk ms kvs :=
  ⟨upd_same, (upd_ne h.td).trans h.hd, paired_imp (fun a b r => r.mono fun x o hx ⟨ys, e⟩ => tup_upd (e ▸ hx) h.ht (fun ⟨_, z⟩ => by cases z) ▸ e ▸ rfl) h.rows, (upd_ne h.tk).trans h.hk, h.os⟩
/-- its rows set -/
theorem TB.rset (h : TB C H t s dx pd pk ms kvs) {kvs' : List (Key × V)} {rows : Rows} (r : Paired (TRow H) kvs' rows) : TB C (upd H pd (.dK kvs')) t { s with rows := rows } dx pd pk ms kvs' :=
  ⟨(upd_ne h.td.symm).trans h.ht, upd_same, paired_imp (fun a b r => r.mono fun x o hx ⟨ys, e⟩ => tup_upd (e ▸ hx) h.hd (fun ⟨_, z⟩ => by cases z) ▸ e ▸ rfl) r, (upd_ne h.dk).trans h.hk, h.os⟩
/-- its orders set -/
theorem TB.oset (h : TB C H t s dx pd pk ms kvs) (ms' : List KM) : TB C (upd H pk (.lst (ms'.map fun m => V.ref m.1))) t { s with os := ms'.map (·.2) } dx pd pk ms' kvs :=
  ⟨(upd_ne h.tk.symm).trans h.ht, (upd_ne h.dk.symm).trans h.hd, paired_imp (fun a b r => r.mono fun x o hx ⟨ys, e⟩ => tup_upd (e ▸ hx) h.hk (fun ⟨_, z⟩ => by cases z) ▸ e ▸ rfl) h.rows, upd_same, rfl⟩
end
end Wy
namespace Wy
open PySem PySem.Spec PyProof.Rows L2 Evl
theorem EvN.impD {te : TE} {σ : L2.St} {H : Hp} {P P' : V → Hp → Prop} (h : EvN te σ H P) (i : ∀ v N, (∀ a, N a ≠ none → H a = none) → P v N → P' v N) : EvN te σ H P' := fun H1 e Q q => h H1 e Q fun v N H2 d p a b => q v N H2 d (i v N (fun a z => fresh_back e (d a z)) p) a b
end Wy
namespace Wy
open PySem PySem.Spec PyProof.Rows L2 Evl
theorem cut_to2 {xs : List V} {c : Nat} (h : c ≤ xs.length) : cutV xs none (some (c : Int)) = xs.take c := by
  unfold cutV
  rw [HT.sIx_none, HT.sIx_nat, List.drop_zero, Nat.sub_zero, Nat.min_eq_left h]
theorem cut_from2 {xs : List V} {c : Nat} (h : c + 1 ≤ xs.length) : cutV xs (some ((c : Int) + 1)) none = xs.drop (c + 1) := by
  unfold cutV
  rw [HT.sIx_none, show ((c : Int) + 1) = ((c + 1 : Nat) : Int) from rfl, HT.sIx_nat, Nat.min_eq_left h]
  exact List.take_of_length_le (by rw [List.length_drop]; exact Nat.le_refl _)
end Wy
namespace Wy
open PySem PySem.Spec PyProof.Rows L2 Evl
section
variable {H L : Hp} {σ : L2.St} {ta tb : TE} {x z : V}
theorem ev_opL2 {r : R2} {xs : List V} (ha : Ev ta σ L x) (hb : EvL tb σ L xs) (hr : ∀ p H2, Ex L H2 → H2 p = some (.lst xs) → RV r x (.ref p) H2 z) : Ev (tOp r ta tb) σ L z := fun H1 e Q q =>
  ha H1 e _ fun H2 e2 => hb H2 (e.trans e2) _ fun p H3 n e3 hp => hr p H3 ((e.trans e2).trans e3) hp H3 (Ex.refl _) Q fun H4 e4 => q H4 ((e2.trans e3).trans e4)
end
theorem rowOf_take {m : Int} {r : List Int} : ∀ {s : Rows} {i : Nat}, rowOf (s.take i) m = some r → rowOf s m = some r
  | [], i, h => by rw [List.take_nil] at h; cases h
  | p :: s, 0, h => by cases h
  | p :: s, i + 1, h => by
    rw [List.take_succ_cons, rowOf_cons] at h
    rw [rowOf_cons]
    by_cases c : p.1 = m
    · rw [if_pos c] at h ⊢
      exact h
    · rw [if_neg c] at h ⊢
      exact rowOf_take h
theorem rowOf_at {s : Rows} {i : Nat} {p : Int × List Int} (nd : (s.map (·.1)).Nodup) (h : s[i]? = some p) : rowOf s p.1 = some p.2 ∧ rowOf (s.take i) p.1 = none := by
  induction s generalizing i with
  | nil => cases h
  | cons x s ih =>
    rw [List.map_cons, List.nodup_cons] at nd
    cases i with
    | zero =>
      obtain rfl := Option.some.inj h
      exact ⟨by rw [rowOf_cons, if_pos rfl], rfl⟩
    | succ i =>
      obtain ⟨g1, g2⟩ := ih nd.2 h
      have ne : ¬ x.1 = p.1 := fun e => nd.1 (e ▸ List.mem_map.mpr ⟨p, List.mem_of_getElem? h, rfl⟩)
      exact ⟨by rw [rowOf_cons, if_neg ne]; exact g1, by rw [List.take_succ_cons, rowOf_cons, if_neg ne]; exact g2⟩
theorem erase_map {α β : Type} (f : α → β) : ∀ (l : List α) (i : Nat), (l.map f).eraseIdx i = (l.eraseIdx i).map f
  | [], _ => rfl
  | _ :: _, 0 => rfl
  | x :: l, i + 1 => congrArg (f x :: ·) (erase_map f l i)
theorem tag_at {s : Rows} {ms : List KM} {i : Nat} {m : KM} (h : ms[i]? = some m) : tag s ms = tag s (ms.take i) ++ (m, s) :: tag s (ms.drop (i + 1)) := by
  rw [← tag_mid (s := s) (s' := s) h]
  unfold tag
  rw [← List.map_append, List.take_append_drop]
theorem tag_erase {s : Rows} {ms : List KM} {i : Nat} : tag s (ms.eraseIdx i) = tag s (ms.take i) ++ tag s (ms.drop (i + 1)) := by
  unfold tag
  rw [← List.map_append, List.eraseIdx_eq_take_drop_succ]
/-- the tuples of a heap -/
def tupsOf (H : Hp) : Hp := fun a => match H a with
  | some (.tup xs) => some (.tup xs)
  | _ => none
theorem tups_ex {H : Hp} : Ex (tupsOf H) H := fun a o h => by
  unfold tupsOf at h
  split at h
  · rename_i xs e
    rw [e]
    exact h
  · cases h
theorem tups_tup {H : Hp} : ∀ a o, tupsOf H a = some o → Tupo o := fun a o h => by
  unfold tupsOf at h
  split at h
  · exact ⟨_, (Option.some.inj h).symm⟩
  · cases h
theorem tups_at {H : Hp} {a : Addr} {xs : List V} (h : H a = some (.tup xs)) : tupsOf H a = some (.tup xs) := by
  unfold tupsOf
  rw [h]
end Wy

set_option Elab.async false
set_option linter.all false
set_option maxRecDepth 100000
set_option maxHeartbeats 4000000
/-! Wn: whatever a call may be handed, and how it is refused. -/
namespace Wy
open PySem PySem.Spec PyProof.Rows L2 Evl
def veB : List Value := [.type "ValueError", .type "Exception", .type "BaseException", .type "object"]
/-- an own exception class -/
structure ExcK (K : PySem.W.Frag) (mg : Str → Option Value) (x : Str) (C : Addr) : Prop where
  g : mg x = some (.ref C)
  x : PySem.W.excIn K C veB "ValueError.__new__" = true
  k : PySem.W.keepIn K (.ref C) = true
  b : PySem.W.subIn K (.ref C) (.type "BaseException") = some true
  t : PySem.W.typeIn K (.ref C) = some (.type "type")
/-- a thing; whether it is a whole number -/
def Thg (K : PySem.W.Frag) (H : Hp) (y : V) (b : Bool) : Prop := ∃ (ty : Value) (b1 b2 : Bool), (∀ H1, Ex H H1 → TyX K H1 y ty) ∧ PySem.W.kitOne K ty (.type "int") = some b1 ∧ PySem.W.kitOne K ty (.type "bool") = some b2 ∧ b = (b1 && !b2) ∧ (b = true → ∃ n : Int, y = .int n)
section
variable {K : PySem.W.Frag} {H H' : Hp} {y : V} {b : Bool}
theorem Thg.mono (e : Ex H H') (h : Thg K H y b) : Thg K H' y b := let ⟨ty, b1, b2, h1, r⟩ := h; ⟨ty, b1, b2, fun H1 a => h1 H1 (e.trans a), r⟩
theorem Thg.int (n : Int) : Thg K H (.int n) true := ⟨.type "int", true, false, fun _ _ => .base (.int _), kit_ty (by decide +kernel), kit_ty (by decide +kernel), rfl, fun _ => ⟨n, rfl⟩⟩
theorem Thg.bl (c : Bool) : Thg K H (.bl c) false := ⟨.type "bool", true, true, fun _ _ => .base (.bl _), kit_ty (by decide +kernel), kit_ty (by decide +kernel), rfl, fun h => nomatch h⟩
theorem Thg.non : Thg K H .non false := ⟨.type "NoneType", false, false, fun _ _ => .base .non, kit_ty (by decide +kernel), kit_ty (by decide +kernel), rfl, fun h => nomatch h⟩
theorem Thg.str (s : Str) : Thg K H (.str s) false := ⟨.type "str", false, false, fun _ _ => .base (.str _), kit_ty (by decide +kernel), kit_ty (by decide +kernel), rfl, fun h => nomatch h⟩
theorem Thg.lst {p : Addr} {xs : List V} (h : SqL K H p xs) : Thg K H (.ref p) false := ⟨.type "list", false, false, fun _ e => tyx_l (ex_l e h), kit_ty (by decide +kernel), kit_ty (by decide +kernel), rfl, fun h => nomatch h⟩
theorem Thg.tup {p : Addr} {xs : List V} (h : SqT K H p xs) : Thg K H (.ref p) false := ⟨.type "tuple", false, false, fun _ e => tyx_t (ex_t e h), kit_ty (by decide +kernel), kit_ty (by decide +kernel), rfl, fun h => nomatch h⟩
theorem Thg.dct {p : Addr} {kvs : List (Key × V)} (h : H p = some (.dK kvs)) : Thg K H (.ref p) false := ⟨.type "dict", false, false, fun _ e => .base (.dK (e _ _ h)), kit_ty (by decide +kernel), kit_ty (by decide +kernel), rfl, fun h => nomatch h⟩
end
/-- what a test of a thing tells -/
def RWholeX (K : PySem.W.Frag) : List V → Hp → V → Prop := fun vs H z => ∃ (y : V) (b : Bool), vs = [y] ∧ Thg K H y b ∧ z = .bl b
/-- with a way out: the answer, or the class that is raised -/
def SpX (n : Nat) (good : List V → Hp → V → Prop) (bad : List V → Hp → Addr → Prop) : Sp := fun vs H Q E => vs.length = n ∧ ((∃ z, good vs H z ∧ RetV z H Q) ∨ ∃ C, bad vs H C ∧ ∀ H', Ex H H' → E (.ref C) none H')
/-- the same over a region -/
def SpWX (n : Nat) (R : List V → Hp → Reg → RP → (V → Hp → Prop) → Prop) (bad : List V → Hp → Addr → Prop) : Sp := fun vs H Q E => vs.length = n ∧ (SpW n R vs H Q E ∨ ∃ C, bad vs H C ∧ ∀ H', Ex H H' → E (.ref C) none H')
section
variable {n : Nat} {good : List V → Hp → V → Prop} {bad : List V → Hp → Addr → Prop} {vs : List V} {H : Hp} {z : V}
theorem spvX (hl : vs.length = n) (h : ∀ H1, Ex H H1 → good vs H1 z) : SpV (SpX n good bad) vs H z := fun H1 e Q q E => ⟨hl, .inl ⟨z, h H1 e, q⟩⟩
end
end Wy
namespace Wy
open PySem PySem.Spec PyProof.Rows L2 Evl
/-- an expression that raises what is let out -/
def Evx (te : TE) (σ : L2.St) (H : Hp) : Prop := ∀ H1, Ex H H1 → ∀ Q : VK, te σ H1 Q
section
variable {n : Nat} {good : List V → Hp → V → Prop} {bad : List V → Hp → Addr → Prop} {R : List V → Hp → Reg → RP → (V → Hp → Prop) → Prop} {vs : List V} {H : Hp} {z : V} {σ : L2.St} {ta te : TE} {t : TA} {E : XK} {C C' a dx : Addr} {m : Str} {fs : List (Str × V)} {D : Ends} {tz : TS} {g : TG}
theorem evx_mtX (h : Ev ta σ H (.ref a)) (hi : H a = some (.ins C dx fs)) (hm : fs.lookup m = none) (ht : EvA t σ H vs) (hl : (V.ref a :: vs).length = n) (hb : ∀ H1, Ex H H1 → bad (.ref a :: vs) H1 C') (k : ∀ H1, Ex H H1 → E (.ref C') none H1) : Evx (tMeth C m (SpX n good bad) [] E ta t) σ H := fun H1 e Q =>
  h H1 e _ fun H2 e2 => ⟨a, dx, fs, rfl, (e.trans e2) _ _ hi, hm, ht H2 (e.trans e2) _ fun H3 e3 => by
    rw [List.append_nil]
    exact ⟨hl, .inr ⟨C', hb H3 ((e.trans e2).trans e3), fun H4 e4 => k H4 (((e.trans e2).trans e3).trans e4)⟩⟩⟩
theorem evx_mtWX (h : Ev ta σ H (.ref a)) (hi : H a = some (.ins C dx fs)) (hm : fs.lookup m = none) (ht : EvA t σ H vs) (hl : (V.ref a :: vs).length = n) (hb : ∀ H1, Ex H H1 → bad (.ref a :: vs) H1 C') (k : ∀ H1, Ex H H1 → E (.ref C') none H1) : Evx (tMeth C m (SpWX n R bad) [] E ta t) σ H := fun H1 e Q =>
  h H1 e _ fun H2 e2 => ⟨a, dx, fs, rfl, (e.trans e2) _ _ hi, hm, ht H2 (e.trans e2) _ fun H3 e3 => by
    rw [List.append_nil]
    exact ⟨hl, .inr ⟨C', hb H3 ((e.trans e2).trans e3), fun H4 e4 => k H4 (((e.trans e2).trans e3).trans e4)⟩⟩⟩
theorem evx_clX (ht : EvA t σ H vs) (hl : vs.length = n) (hb : ∀ H1, Ex H H1 → bad vs H1 C') (k : ∀ H1, Ex H H1 → E (.ref C') none H1) : Evx (tCall (SpX n good bad) [] E t) σ H := fun H1 e Q => ht H1 e _ fun H2 e2 => by
  show (SpX n good bad) (vs ++ []) H2 Q E
  rw [List.append_nil]
  exact ⟨hl, .inr ⟨C', hb H2 (e.trans e2), fun H4 e4 => k H4 ((e.trans e2).trans e4)⟩⟩
theorem sv_asgx (h : Evx te σ H) : Sv (tSeq (tAsg te g) tz) D σ H := fun H1 e => h H1 e _
theorem sv_dropx (h : Evx te σ H) : Sv (tSeq (tDrop te) tz) D σ H := fun H1 e => h H1 e _
end
end Wy
namespace Wy
open PySem PySem.Spec PyProof.Rows L2 Evl
/-- a def that may raise, where it doesn't -/
theorem FnOk.calm {P : Program} {w : World} {K : PySem.W.Frag} {mg : Str → Option Value} {base : Heap} {k : Nat} {f : Addr} {fd : FuncData} {ps : List Str} {sp sp' : Sp} (F : FnOk P w K mg base (L2.CX P w) k f fd ps sp) (h : ∀ vs H Q E, sp' vs H Q E → sp vs H Q fun _ _ _ => False) : FnOk P w K mg base CX0 k f fd ps sp' :=
  ⟨fun vs H Q E q => F.len vs H Q _ (h _ _ _ _ q), fun A outer s H args us vs Q E hr he hb hv hs => codeAny_mono (F.run A outer s H args us vs Q _ hr he hb hv (h _ _ _ _ hs)) fun r s' hq => by
    cases r with
    | error e =>
      obtain ⟨_, _, _, _, _, _, _, _, _, _, _, _, z⟩ := hq
      exact z.elim
    | ok fl => cases fl <;> exact hq⟩
end Wy
namespace Wy
open PySem PySem.Spec PyProof.Rows L2 Evl
/-- i <= n < j -/
theorem ev_chainI {σ : L2.St} {H : Hp} {ta tb tc : TE} {i n j : Int} (ha : Ev ta σ H (.int i)) (hb : Ev tb σ H (.int n)) (hc : Ev tc σ H (.int j)) : Ev (tChain (rI0 fun i j => .bl (decide (i ≤ j))) (rI0 fun i j => .bl (decide (i < j))) ta tb tc) σ H (.bl (decide (i ≤ n ∧ n < j))) := fun H1 e Q q =>
  ha H1 e _ fun H2 e2 => hb H2 (e.trans e2) _ fun H3 e3 => by
    have g := rv_I0 (H := H) (i := i) (j := n) (g := fun i j => .bl (decide (i ≤ j)))
    refine g H3 ((e.trans e2).trans e3) _ fun H4 e4 => ⟨_, rfl, ?_⟩
    by_cases c : i ≤ n
    · rw [if_pos (decide_eq_true c)]
      have g2 := rv_I0 (H := H) (i := n) (j := j) (g := fun i j => .bl (decide (i < j)))
      refine hc H4 (((e.trans e2).trans e3).trans e4) _ fun H5 e5 => g2 H5 ((((e.trans e2).trans e3).trans e4).trans e5) _ fun H6 e6 => ?_
      have e0 : decide (i ≤ n ∧ n < j) = decide (n < j) := decide_eq_decide.mpr ⟨And.right, fun z => ⟨c, z⟩⟩
      rw [e0] at q
      exact q H6 ((((e2.trans e3).trans e4).trans e5).trans e6)
    · rw [if_neg (by rw [decide_eq_false c]; exact Bool.false_ne_true)]
      have e0 : decide (i ≤ n ∧ n < j) = false := decide_eq_false fun z => c z.1
      rw [e0] at q
      exact q H4 ((e2.trans e3).trans e4)
end Wy
namespace Wy
open PySem PySem.Spec PyProof.Rows L2 Evl
/-- isinstance(e, c), e held, its class told with the value -/
def rIsEx (K : PySem.W.Frag) (cls : Value) (d : Option Addr) (a : Addr) : List V → Hp → VK → Prop := fun xs H Q => ∃ D : Addr, cls = .ref D ∧ d = none ∧ ExcC K D ∧ rIsE K D a xs H Q
theorem call_isEx {X : Cx} {a : Addr} {oe : Obj} {cls : Value} {d : Option Addr} {pn : List (Addr × Obj)} (hz : Zc cls d oe) (hf : ∃ vs, oe.data = .fields vs) : CallR (X.suite a ((a, oe) :: pn)) (.builtin "isinstance") (rIsEx X.K cls d a) := by
  intro pins s σ H xs us Q I r h
  obtain ⟨D, rfl, rfl, C, g⟩ := h
  exact call_isE C hz hf pins s σ H xs us Q I r g
section
variable {n : Nat} {R : List V → Hp → Reg → RP → (V → Hp → Prop) → Prop} {bad : List V → Hp → Addr → Prop} {good : List V → Hp → V → Prop} {vs : List V} {H : Hp} {Q Q' : VK} {E E' : XK}
theorem SpWX.mono (h : SpWX n R bad vs H Q E) (q : ∀ v H', Q v H' → Q' v H') (e : ∀ c d H', E c d H' → E' c d H') : SpWX n R bad vs H Q' E' := by
  obtain ⟨hl, ⟨hl2, F, T', P, r, k⟩ | ⟨C, hb, k⟩⟩ := h
  · exact ⟨hl, .inl ⟨hl2, F, T', P, r, fun v N H' F' a b c d e f => q _ _ (k v N H' F' a b c d e f)⟩⟩
  · exact ⟨hl, .inr ⟨C, hb, fun H' x => e _ _ _ (k H' x)⟩⟩
theorem SpX.mono (h : SpX n good bad vs H Q E) (q : ∀ v H', Q v H' → Q' v H') (e : ∀ c d H', E c d H' → E' c d H') : SpX n good bad vs H Q' E' := by
  obtain ⟨hl, ⟨z, g, k⟩ | ⟨C, hb, k⟩⟩ := h
  · exact ⟨hl, .inl ⟨z, g, fun H' x => q _ _ (k H' x)⟩⟩
  · exact ⟨hl, .inr ⟨C, hb, fun H' x => e _ _ _ (k H' x)⟩⟩
end
theorem exm3 {K : PySem.W.Frag} {C : Addr} {cls : Value} {b : Bool} {mg : Str → Option Value} {x : Str} (e : ExcK K mg x C) (hd : PySem.W.hasDictIn K C = true) (h4 : PySem.W.subIn K cls (.ref C) = some b) : PySem.W.exmOne K cls (.ref C) = some b := PySem.W.exm_ref e.b hd e.t h4
end Wy
namespace Wy
open PySem PySem.Spec PyProof.Rows L2 Evl
/-- what a call in a try may let out -/
theorem passes_len {X : Cx} {W : L2.WX} (tk : Takes X W) (n : Nat) (hn : X.N.length = n) : Passes (L2.CX X.prog X.w) X (fun cls d H => ∀ σ : L2.St, σ.length = n → W cls d σ H) := fun _ σ _ _ e s' I c => tk e s' (XE.of_call I (fun cls d H' h => h σ (I.len.trans hn)) c)
end Wy
namespace Wy
theorem ifb_true {c : Bool} {A B : Prop} (hc : c = true) (h : A) : if c = true then A else B := by
  rw [if_pos hc]
  exact h
theorem ifb_false {c : Bool} {A B : Prop} (hc : c = false) (h : B) : if c = true then A else B := by
  rw [hc, if_neg Bool.false_ne_true]
  exact h
end Wy
namespace Wy
open PySem PySem.Spec PyProof.Rows L2 Evl
section
variable {T T' : RP} {F0 B0 : Reg} {L H : Hp} {K : PySem.W.Frag} {σ : L2.St} {te ti : TE} {ta tr : TA} {n : Nat} {v : V} {D : Ends} {i : Int}
theorem rp_eqS {a b : Str} : RV rEq (.str a) (.str b) H (.bl (decide (a = b))) := by
  have e : decide (V.str a = V.str b) = decide (a = b) := decide_eq_decide.mpr ⟨V.str.inj, fun e => by rw [e]⟩
  rw [← e]
  exact rv_eq rfl
theorem rp_neS {a b : Str} : RV rNe (.str a) (.str b) H (.bl (decide (¬ a = b))) := by
  have e : decide (V.str a = V.str b) = decide (a = b) := decide_eq_decide.mpr ⟨V.str.inj, fun e => by rw [e]⟩
  rw [decide_not, ← e]
  exact rv_ne rfl
/-- a thing -/
def OneT (K : PySem.W.Frag) : V → Hp → Prop := fun v N => ∃ b, Thg K N v b
def AllT (K : PySem.W.Frag) (n : Nat) : List V → Hp → Prop := fun vs N => vs.length = n ∧ ∀ v ∈ vs, ∃ b, Thg K N v b
theorem eat_nil : EvAN tNil σ H (AllT K 0) := fun H1 e Q q => q [] nonew H1 (fun a z => (z rfl).elim) ⟨rfl, fun v hv => (List.not_mem_nil hv).elim⟩ nonew_ex (Ex.refl _)
theorem eat_cons (h : EvN te σ H (OneT K)) (hr : EvAN tr σ H (AllT K n)) : EvAN (tCons te tr) σ H (AllT K (n + 1)) := fun H1 e Q q =>
  h H1 e _ fun v N1 H2 d1 ⟨b, p⟩ a1 x1 => hr H2 (e.trans x1) _ fun vs N2 H3 d2 ⟨l, pa⟩ a2 x2 => by
    have sep : ∀ a, N2 a ≠ none → N1 a = none := fun a z => by
      cases k : N1 a with
      | none => rfl
      | some o =>
        have g := a1 a o k
        rw [d2 a z] at g
        cases g
    refine q (v :: vs) (Unn N2 N1) H3 (fun a z => ?_) ⟨by rw [List.length_cons, l], fun w hw => ?_⟩ (unn_ex (a1.trans x2) a2) (x1.trans x2)
    · rcases unn_none z with z | z
      · exact d1 a z
      · exact fresh_back x1 (d2 a z)
    · rcases List.mem_cons.mp hw with rfl | hw
      · exact ⟨b, p.mono unn_r⟩
      · obtain ⟨b', p'⟩ := pa w hw
        exact ⟨b', p'.mono (unn_l sep)⟩
theorem en_pickT (h : EvAN ta σ H (AllT K n)) (hi : Ev ti σ H (.int i)) (h0 : 0 ≤ i) (h1 : i < n) (hz : n ≤ 100) : EvN (tOp (rIxL K) (tLst ta) ti) σ H (OneT K) := by
  obtain ⟨k, rfl⟩ : ∃ k : Nat, i = k := ⟨i.toNat, by omega⟩
  exact fun H1 e Q q => h H1 e _ fun vs N H2 d ⟨l, pa⟩ a x => ⟨sz_of (by omega), fun p np => hi _ (e.trans (x.trans (Ex.new np))) _ fun H3 e3 => by
    have hi' : k < vs.length := by omega
    have g : RV (rIxL K) (.ref p) (.int (k : Int)) H3 (vs[k]'hi') := rv_ixL (sq_of (e3 p _ upd_same)) (atI_nat (List.getElem?_eq_getElem hi'))
    have kx : Ex H2 H3 := (Ex.new np).trans e3
    exact g H3 (Ex.refl _) Q fun H4 e4 => q _ N H4 d (pa _ (List.getElem_mem hi')) ((a.trans kx).trans e4) ((x.trans kx).trans e4)⟩
theorem et_thg {b : Bool} (h : Ev te σ H v) (t : ∀ N, Thg K N v b) : EvN te σ H (OneT K) := EvN.imp (Ev.n h) fun v' N e => ⟨b, by rw [e]; exact t N⟩
theorem et_lstT {xs : List V} (h : EvL te σ H xs) : EvN te σ H (OneT K) := EvN.imp (EvL.n h) fun v' N ⟨p, e, hp⟩ => ⟨false, by rw [e]; exact Thg.lst (sq_of hp)⟩
theorem et_tupT {xs : List V} (h : EvU te σ H xs) : EvN te σ H (OneT K) := EvN.imp (EvU.n h) fun v' N ⟨p, e, hp⟩ => ⟨false, by rw [e]; exact Thg.tup (st_of hp)⟩
theorem et_dnewT : EvN tDNewK σ H (OneT K) := fun H1 e Q q p np => q (.ref p) (one p (.dK [])) _ (fun a z => by rw [one_ne z]; exact np) ⟨false, Thg.dct one_at⟩ (one_ex upd_same) (Ex.new np)
theorem vw_retH (R : Regn T) (h : ∀ H, Wld T F0 B0 L H → Ev te σ H v) (k : ∀ H, Wld T F0 B0 L H → D.rt v H) : SvW (tRet te) D σ T F0 B0 L := fun H w => h H w H (Ex.refl H) _ fun H2 e => k H2 (w.ext R e)
end
end Wy
namespace Wy
open PySem PySem.Spec PyProof.Rows L2 Evl
section
variable {T T' : RP} {F0 B0 : Reg} {L H : Hp} {K : PySem.W.Frag} {σ : L2.St} {ta te ty : TE} {v : V} {D : Ends} {tz : TS} {P' : V → Hp → Prop}
/-- a method called with a new tuple -/
theorem ew_mtU {C : Addr} {m : Str} {sp : Sp} {E : XK} {a : Addr} {xs : List V} (R : Regn T) (h : Ev ta σ L (.ref a)) (hi : ∀ H, Wld T F0 B0 L H → ∃ dx fs, H a = some (.ins C dx fs) ∧ fs.lookup m = none) (ht : EvU te σ L xs)
    (hs : ∀ p, L p = none → SpWP sp [.ref a, .ref p] T T' F0 B0 (Unn (one p (.tup xs)) L) P') : EvW (tMeth C m sp [] E ta (tCons te tNil)) σ T T' F0 B0 L fun v _ => ∃ N, P' v N := fun H w Q q =>
  h H w.lx _ fun H2 e => by
    have w2 := w.ext R e
    obtain ⟨dx, fs, h1, h2⟩ := hi H2 w2
    refine ⟨a, dx, fs, rfl, h1, h2, ht H2 w2.lx _ fun p H3 np e3 hp => ?_⟩
    show sp [.ref a, .ref p] H3 Q E
    have fr : ∀ a, one p (.tup xs) a ≠ none → H2 a = none := fun a z => by
      rw [one_ne z]
      exact np
    have w3 := w2.new R e3 fr (one_ex hp)
    refine hs p (fresh_back w2.lx np) H3 w3 Q (fun v N H' d p' w' => q v (Unn N (one p (.tup xs))) H' (fun a z => ?_) ⟨N, p'⟩ (w'.weak fun a o g => ?_)) E
    · rcases unn_none z with z | z
      · exact ⟨fresh_back w2.lx (fr a z), fun y => let ⟨_, _, _, _, bb, _⟩ := w2; bb a y (fr a z)⟩
      · have := (d a z).1
        refine ⟨?_, (d a z).2⟩
        cases k : L a with
        | none => rfl
        | some o =>
          have g := (unn_r (N := one p (.tup xs)) (H := L)) a o k
          rw [this] at g
          cases g
    · show (match Unn (one p (.tup xs)) L a with | some o => some o | none => N a) = some o
      have g' : (match L a with | some o => some o | none => Unn N (one p (.tup xs)) a) = some o := g
      cases k : L a with
      | some u =>
        rw [k] at g'
        have g2 := (unn_r (N := one p (.tup xs)) (H := L)) a u k
        rw [g2]
        exact g'
      | none =>
        rw [k] at g'
        have g3 : (match one p (.tup xs) a with | some o => some o | none => N a) = some o := g'
        have g4 : Unn (one p (.tup xs)) L a = one p (.tup xs) a := by
          show (match L a with | some o => some o | none => one p (.tup xs) a) = _
          rw [k]
        rw [g4]
        exact g3
/-- d[n] = row, a list that stands in d already -/
theorem vw_dtPutX {d pr : Addr} {s : Rows} {n : Int} {row : List Int} (R : Regn T) (hv : Ev te σ L (.ref pr)) (ha : Ev ta σ L (.ref d)) (hy : Ev ty σ L (.int n)) (hz : s.length < 1000)
    (k : SvW tz D σ (Two T (DtX d (putRow s n row) pr row)) F0 B0 L) : SvW (tSeq (sDPut ta ty te) tz) D σ (Two T (DtX d s pr row)) F0 B0 L := fun H w => by
  have R2 := R.two (dtX_regn d s pr row)
  refine hv H w.lx _ fun H2 e2 => ha H2 (w.ext R2 e2).lx _ fun H3 e3 => hy H3 ((w.ext R2 e2).ext R2 e3).lx _ fun H4 e4 => ?_
  have w4 := ((w.ext R2 e2).ext R2 e3).ext R2 e4
  have hd : ∃ kvs, H4 d = some (.dK kvs) ∧ kvs.length = s.length := by
    obtain ⟨_, ⟨_, F2, _, ⟨⟨kvs, h1, h2, _⟩, _⟩, _⟩, _⟩ := w4
    exact ⟨kvs, h1, paired_len h2⟩
  obtain ⟨kvs, h1, hl⟩ := hd
  refine ⟨d, _, rfl, DPut.k (k := Sum.inl n) h1 (sz_lt (by omega)), k _ (w4.upd1 R fun F2 ⟨⟨kvs', h1', h2, fd, h5⟩, fr, hr⟩ => ?_)⟩
  have e : kvs' = kvs := by
    rw [h1] at h1'
    injection h1' with h1'
    injection h1' with h1'
    exact h1'.symm
  subst e
  have npd : pr ≠ d := fun e => by
    rw [e, h1] at hr
    cases hr
  have hq : (upd H4 d (.dK (putK kvs' (Sum.inl n) (.ref pr)))) pr = some (.lst (row.map V.int)) := by
    rw [upd_ne npd]
    exact hr
  refine ⟨fd, fun o ho ⟨_, t⟩ => (by rw [h1, t] at ho; cases ho), ⟨_, upd_same, paired_put (paired_imp (fun e p r => ?_) h2) hq fr, fd, dom_upd h5 fun ⟨_, t⟩ => (by cases t)⟩, fr, hq⟩
  obtain ⟨e1, q, e2, e3, e4⟩ := r
  refine ⟨e1, q, e2, ?_, e4⟩
  rw [upd_ne fun z => by rw [z, h1] at e3; cases e3]
  exact e3
end
end Wy
namespace Wy
open PySem PySem.Spec PyProof.Rows L2 Evl
section
variable {L H : Hp} {K : PySem.W.Frag} {σ : L2.St} {ta te : TE} {t : TA} {P : V → Hp → Prop}
theorem en_mt {C : Addr} {m : Str} {sp : Sp} {E : XK} {a dx : Addr} {fs : List (Str × V)} {vs : List V} (h : Ev ta σ H (.ref a)) (hi : H a = some (.ins C dx fs)) (hm : fs.lookup m = none) (ht : EvA t σ H vs) (hs : SpNP sp (.ref a :: vs) H P) : EvN (tMeth C m sp [] E ta t) σ H P := fun H1 e Q q =>
  h H1 e _ fun H2 e2 => ⟨a, dx, fs, rfl, (e.trans e2) _ _ hi, hm, ht H2 (e.trans e2) _ fun H3 e3 => by
    rw [List.append_nil]
    exact hs H3 ((e.trans e2).trans e3) Q (fun v N H4 d p a b => q v N H4 (fun x z => fresh_back (e2.trans e3) (d x z)) p a ((e2.trans e3).trans b)) E⟩
/-- len(e), e a new list of a told length -/
theorem ev_lenG {n : Nat} {G : List Int → Prop} (h : EvN te σ H fun v N => ∃ (p : Addr) (ns : List Int), v = .ref p ∧ N p = some (.lst (ns.map V.int)) ∧ G ns) (g : ∀ ns, G ns → ns.length = n) : Ev (tCB (rLenS K) (tCons te tNil)) σ H (.int n) := fun H1 e Q q =>
  h H1 e _ fun v N H2 d ⟨p, ns, ev, hp, hg⟩ a x => by
    subst ev
    have k := ev_lenL (K := K) (ta := tC (.ref p)) (σ := σ) ev_c (sq_of (a _ _ hp)) H2 (Ex.refl _) Q
    rw [List.length_map, g ns hg] at k
    exact k fun H3 e3 => q H3 (x.trans e3)
end
end Wy
namespace Wy
open PySem PySem.Spec PyProof.Rows L2 Evl
section
variable {L H : Hp} {K : PySem.W.Frag} {σ : L2.St} {ta tb te tl : TE} {t : TT} {P : V → Hp → Prop} {v : V}
theorem ev_ifx {b : Bool} (h : EvT t σ H b) (h1 : b = true → Ev ta σ H v) (h2 : b = false → Ev tb σ H v) : Ev (tIf t ta tb) σ H v := fun H1 e Q q => h H1 e _ fun H2 e2 => by
  cases b with
  | true => exact h1 rfl H2 (e.trans e2) Q fun H3 e3 => q H3 (e2.trans e3)
  | false => exact h2 rfl H2 (e.trans e2) Q fun H3 e3 => q H3 (e2.trans e3)
/-- [n for n in e if t], e a new list of ints -/
theorem en_lcFG {G : List Int → Prop} {j : Nat} {vs : List Nat} (p : Int → Bool) (h : EvN tl σ H fun v N => ∃ (l : Addr) (ns : List Int), v = .ref l ∧ N l = some (.lst (ns.map V.int)) ∧ G ns) (hz : ∀ ns, G ns → ns.length ≤ 40000) (hw : ∀ x, wipe ((wipe σ vs).set j (some x)) vs = wipe σ vs)
    (ht : ∀ ns, G ns → ∀ n ∈ ns, EvT t ((wipe σ vs).set j (some (.int n))) H (p n)) (hj : ∀ x, ((wipe σ vs).set j (some x))[j]? = some (some x)) :
    EvN (tLc (iList K tl) (gName j) t (tVar j) vs) σ H fun v N => ∃ (l : Addr) (ns : List Int), v = .ref l ∧ N l = some (.lst ((ns.filter p).map V.int)) ∧ G ns := fun H1 e Q q =>
  h H1 e _ fun v N H2 d ⟨l, ns, ev, hl, g⟩ a x => by
    subst ev
    have g2 := en_lcL (K := K) (tl := tC (.ref l)) (t := t) (te := tVar j) (j := j) (vs := vs) (σ := σ) (H := H2) (a := l) (xs := ns.map V.int) ev_c (sq_of (a _ _ hl)) (by rw [List.length_map]; exact hz ns g) hw (fun i => p (ns.getD i 0)) (fun i acc _ => acc = (((ns.take i).filter p).map V.int)) rfl (fun i y hy => ?_) (fun i y acc N0 hy hp hi => ?_) (fun i acc N0 hp hi => ?_)
    · exact g2 H2 (Ex.refl _) Q fun v N' H3 d' ⟨Dl, acc, e1, e2, N0, _, e3⟩ a' x' => q v N' H3 (fun b z => fresh_back x (d' b z)) ⟨Dl, ns, e1, by rw [e2, e3, List.length_map, List.take_length], g⟩ a' (x.trans x')
    · rw [List.getElem?_map] at hy
      obtain ⟨n, hn, rfl⟩ := Option.map_eq_some_iff.mp hy
      have en : ns.getD i 0 = n := by rw [List.getD_eq_getElem?_getD, hn]; rfl
      show EvT t _ H2 (p (ns.getD i 0))
      rw [en]
      exact fun H3 e3 => ht ns g n (List.mem_of_getElem? hn) H3 ((e.trans x).trans e3)
    · rw [List.getElem?_map] at hy
      obtain ⟨n, hn, rfl⟩ := Option.map_eq_some_iff.mp hy
      have en : ns.getD i 0 = n := by rw [List.getD_eq_getElem?_getD, hn]; rfl
      have hp : p n = true := by rw [← en]; exact hp
      refine EvN.imp (Ev.n (ev_var (hj _))) fun v' N' ev N'' _ _ => ?_
      rw [ev, hi, take_snoc hn, List.filter_append, List.filter_cons_of_pos hp, List.map_append]
      rfl
    · have hp : p (ns.getD i 0) = false := hp
      show acc = _
      rw [hi]
      cases hn : ns[i]? with
      | none =>
        have hle := List.getElem?_eq_none_iff.mp hn
        rw [List.take_of_length_le hle, List.take_of_length_le (Nat.le_succ_of_le hle)]
      | some n =>
        have en : ns.getD i 0 = n := by rw [List.getD_eq_getElem?_getD, hn]; rfl
        rw [en] at hp
        rw [take_snoc hn, List.filter_append, List.filter_cons_of_neg (by rw [hp]; exact Bool.false_ne_true)]
        simp
/-- sorted(e), e a new list of ints -/
theorem en_sortG {G : List Int → Prop} (h : EvN te σ H fun v N => ∃ (l : Addr) (ns : List Int), v = .ref l ∧ N l = some (.lst (ns.map V.int)) ∧ G ns) {due : List Int} (g : ∀ ns ys, G ns → ys.Perm ns → ys.Pairwise (· ≤ ·) → ys = due) : EvL (tCB (rSortedI K) (tCons te tNil)) σ H (due.map V.int) := fun H1 e Q q =>
  h H1 e _ fun v N H2 d ⟨l, ns, ev, hl, hg⟩ a x => by
    subst ev
    exact ⟨l, ns, rfl, sq_of (a _ _ hl), fun ys p h1 h2 hp => by
      have ey := g ns ys hg h1 h2
      rw [ey]
      exact q p _ (fresh_back x hp) (x.trans (Ex.new hp)) upd_same⟩
end
theorem rowOf_pair {n : Int} {r : List Int} : ∀ {s : Rows}, rowOf s n = some r → (n, r) ∈ s
  | [], h => by cases h
  | p :: s, h => by
    rw [rowOf_cons] at h
    by_cases c : p.1 = n
    · rw [if_pos c] at h
      refine List.mem_cons.mpr (.inl ?_)
      rw [← c, ← Option.some.inj h]
    · rw [if_neg c] at h
      exact List.mem_cons_of_mem _ (rowOf_pair h)
/-- the rows of a test, by number -/
theorem rows_iff {s : Rows} (nd : (s.map (·.1)).Nodup) (p : List Int → Bool) (n : Int) : n ∈ (s.filter fun x => p x.2).map (·.1) ↔ ∃ r, rowOf s n = some r ∧ p r = true := by
  constructor
  · intro h
    obtain ⟨x, hx, rfl⟩ := List.mem_map.mp h
    obtain ⟨h1, h2⟩ := List.mem_filter.mp hx
    obtain ⟨i, hi⟩ := List.mem_iff_getElem?.mp h1
    exact ⟨x.2, (rowOf_at nd hi).1, h2⟩
  · rintro ⟨r, h1, h2⟩
    exact List.mem_map.mpr ⟨(n, r), List.mem_filter.mpr ⟨rowOf_pair h1, h2⟩, rfl⟩
theorem rows_nd {s : Rows} (nd : (s.map (·.1)).Nodup) (p : List Int → Bool) : ((s.filter fun x => p x.2).map (·.1)).Nodup := List.Nodup.sublist (List.Sublist.map _ List.filter_sublist) nd
theorem asc_len {c : List Int} {s : Rows} {ns : List Int} {ts : List Tri} (nd : (s.map (·.1)).Nodup) (h : Asc c s ns) (hm : ∀ n, n ∈ ns ↔ ∃ r, rowOf s n = some r ∧ inS c r ts = true) : ns.length = (s.filter fun x => inS c x.2 ts).length := by
  have p : ns.Perm ((s.filter fun x => inS c x.2 ts).map (·.1)) := (List.perm_ext_iff_of_nodup (asc_nodup h) (rows_nd nd fun r => inS c r ts)).mpr fun n => (hm n).trans (rows_iff nd (fun r => inS c r ts) n).symm
  rw [p.length_eq, List.length_map]
/-- the cost of an order -/
def costM (c : List Int) (s : Rows) (ts : List Tri) : Nat := if (ts.all fun t => decide (t.c ∈ c)) = true then (s.filter fun x => inS c x.2 ts).length else 2 * (s.filter fun x => inS c x.2 ts).length
end Wy
namespace Wy
open PySem PySem.Spec PyProof.Rows L2 Evl
theorem lo_mem : ∀ {l : List Int}, 0 < l.length → maxL l ∈ l
  | [x], _ => List.mem_singleton.mpr rfl
  | x :: y :: r, _ => by
    have ih := lo_mem (l := y :: r) (by simp)
    show max x (maxL (y :: r)) ∈ _
    by_cases c : x ≤ maxL (y :: r)
    · rw [Int.max_eq_right c]
      exact List.mem_cons_of_mem _ ih
    · rw [Int.max_eq_left (by omega)]
      exact List.mem_cons_self ..
theorem hi_mem : ∀ {l : List Int}, 0 < l.length → minL l ∈ l
  | [x], _ => List.mem_singleton.mpr rfl
  | x :: y :: r, _ => by
    have ih := hi_mem (l := y :: r) (by simp)
    show min x (minL (y :: r)) ∈ _
    by_cases c : x ≤ minL (y :: r)
    · rw [Int.min_eq_left c]
      exact List.mem_cons_self ..
    · rw [Int.min_eq_right (by omega)]
      exact List.mem_cons_of_mem _ ih
/-- what fits lies between the ends -/
theorem fits_betw {row : List Int} {ts : List Tri} (h : fitsM row ts = true) (c : Int) : betw (row.getD c.toNat 0) (endLo c ts) (endHi c ts) = true := by
  have each : ∀ t ∈ ts, ¬ (¬ t.lo = none ∧ row.getD t.c.toNat 0 < t.lo.getD 0) ∧ ¬ (¬ t.hi = none ∧ t.hi.getD 0 < row.getD t.c.toNat 0) := fun t ht => by
    have g := List.all_eq_true.mp h t ht
    rw [fit1_eq] at g
    exact of_decide_eq_true g
  refine decide_eq_true ⟨fun ⟨h1, h2⟩ => ?_, ?_⟩
  · unfold endLo at h1 h2
    split at h1
    · rename_i hp
      rw [if_pos hp] at h2
      obtain ⟨t, ht, e⟩ := List.mem_map.mp (lo_mem hp)
      obtain ⟨ht1, ht2⟩ := List.mem_filter.mp ht
      obtain ⟨ec, el⟩ := of_decide_eq_true ht2
      refine (each t ht1).1 ⟨el, ?_⟩
      rw [ec, e]
      exact h2
    · exact h1 rfl
  · unfold endHi
    split
    · rename_i hp
      refine .inr ?_
      obtain ⟨t, ht, e⟩ := List.mem_map.mp (hi_mem hp)
      obtain ⟨ht1, ht2⟩ := List.mem_filter.mp ht
      obtain ⟨ec, el⟩ := of_decide_eq_true ht2
      have g := (each t ht1).2
      rw [ec, e] at g
      show row.getD c.toNat 0 ≤ minL (highsM c ts)
      exact Int.not_lt.mp fun z => g ⟨el, z⟩
    · exact .inl rfl
end Wy
namespace Wy
open PySem PySem.Spec PyProof.Rows L2 Evl
theorem fits_inS {row : List Int} {ts : List Tri} (h : fitsM row ts = true) : ∀ cs : List Int, inS cs row ts = true
  | [] => rfl
  | c :: cs => by
    have b := fits_betw h c
    unfold inS
    split
    · exact b
    · rename_i g
      have g1 : ¬ endLo c ts = none := fun z => g (.inl z)
      have g2 : endLo c ts = endHi c ts := Decidable.of_not_not fun z => g (.inr z)
      have b := of_decide_eq_true b
      have e : row.getD c.toNat 0 = (endLo c ts).getD 0 := by
        rcases b.2 with z | z
        · exact (g1 (g2.trans z)).elim
        · rw [← g2] at z
          have := b.1
          have lo : ¬ row.getD c.toNat 0 < (endLo c ts).getD 0 := fun q => this ⟨g1, q⟩
          omega
      rw [if_pos e]
      exact fits_inS h cs
/-- what a way looks at: numbers of rows, all that fit among them -/
def Gway (s : Rows) (ts : List Tri) (ns : List Int) : Prop := ns.Nodup ∧ ns.length ≤ 200 ∧ (∀ n ∈ ns, ∃ r, rowOf s n = some r) ∧ ∀ n r, rowOf s n = some r → fitsM r ts = true → n ∈ ns
def fitN (s : Rows) (ts : List Tri) (n : Int) : Bool := match rowOf s n with
  | some r => fitsM r ts
  | none => false
theorem fitN_some {s : Rows} {ts : List Tri} {n : Int} {r : List Int} (h : rowOf s n = some r) : fitN s ts n = fitsM r ts := by
  unfold fitN
  rw [h]
def dueA (s : Rows) (ts : List Tri) : List Int := (s.filter fun x => fitsM x.2 ts).map (·.1)
theorem dueA_up {s : Rows} {ts : List Tri} (h : (s.map (·.1)).Pairwise (· < ·)) : (dueA s ts).Pairwise (· < ·) := List.Pairwise.sublist (List.Sublist.map _ List.filter_sublist) h
theorem gway_due {s : Rows} {ts : List Tri} {ns ys : List Int} (up : (s.map (·.1)).Pairwise (· < ·)) (g : Gway s ts ns) (p : ys.Perm (ns.filter (fitN s ts))) (o : ys.Pairwise (· ≤ ·)) : ys = dueA s ts := by
  have nd : (s.map (·.1)).Nodup := up.imp fun h e => by omega
  refine sorted_due (List.Nodup.sublist List.filter_sublist g.1) p o (dueA_up up) fun n => ?_
  rw [List.mem_filter]
  refine Iff.trans ⟨fun ⟨h1, h2⟩ => ?_, fun ⟨r, h1, h2⟩ => ⟨g.2.2.2 n r h1 h2, by rw [fitN_some h1]; exact h2⟩⟩ (rows_iff nd (fun r => fitsM r ts) n).symm
  obtain ⟨r, hr⟩ := g.2.2.1 n h1
  rw [fitN_some hr] at h2
  exact ⟨r, hr, h2⟩
theorem gway_all {s : Rows} {ts : List Tri} (nd : (s.map (·.1)).Nodup) (l : s.length ≤ 200) : Gway s ts (s.map (·.1)) := ⟨nd, by rw [List.length_map]; exact l, fun n h => rowOf_mem h, fun n r h _ => mem_rowOf h⟩
theorem gway_ord {c : List Int} {s : Rows} {ts : List Tri} {ns : List Int} (nd : (s.map (·.1)).Nodup) (l : s.length ≤ 200) (h : Asc c s ns) (hm : ∀ n, n ∈ ns ↔ ∃ r, rowOf s n = some r ∧ inS c r ts = true) : Gway s ts ns :=
  ⟨asc_nodup h, by rw [asc_len nd h hm]; exact Nat.le_trans (List.length_filter_le _ _) l, h.1, fun n r h1 h2 => (hm n).mpr ⟨r, h1, fits_inS h2 c⟩⟩
end Wy
namespace Wy
open PySem PySem.Spec PyProof.Rows L2 Evl
section
variable {H : Hp} {K : PySem.W.Frag} {σ : L2.St} {ta tb te : TE} {G1 G2 : List V → Hp → Prop}
/-- a new list, what it holds told -/
def NewL (G : List V → Hp → Prop) : V → Hp → Prop := fun v N => ∃ (p : Addr) (xs : List V) (N0 : Hp), v = .ref p ∧ N p = some (.lst xs) ∧ G xs N0 ∧ Ex N0 N
/-- two new lists, one behind the other -/
theorem en_catN (ha : EvN ta σ H (NewL G1)) (hb : EvN tb σ H (NewL G2)) (hl : ∀ xs ys N1 N2, G1 xs N1 → G2 ys N2 → xs.length + ys.length ≤ 100000) : EvN (tOp rCat ta tb) σ H (NewL fun zs N => ∃ xs ys N1 N2, zs = xs ++ ys ∧ G1 xs N1 ∧ Ex N1 N ∧ G2 ys N2 ∧ Ex N2 N) := fun H1 e Q q =>
  ha H1 e _ fun v N1 H2 d1 ⟨p, xs, M1, ev, hp, g1, f1⟩ a1 x1 => hb H2 (e.trans x1) _ fun w N2 H3 d2 ⟨p', ys, M2, ew, hp', g2, f2⟩ a2 x2 => by
    subst ev
    subst ew
    refine ⟨p, p', xs, ys, rfl, rfl, x2 _ _ (a1 _ _ hp), a2 _ _ hp', sz_of (hl xs ys M1 M2 g1 g2), fun l hn => ?_⟩
    have sep : ∀ a, N2 a ≠ none → N1 a = none := fun a z => by
      cases k : N1 a with
      | none => rfl
      | some o =>
        have g := a1 a o k
        rw [d2 a z] at g
        cases g
    have n12 : Ex (Unn N2 N1) H3 := unn_ex (a1.trans x2) a2
    have nl : Unn N2 N1 l = none := fresh_back n12 hn
    refine q (.ref l) (Unn (one l (.lst (xs ++ ys))) (Unn N2 N1)) _ (fun a z => ?_) ⟨l, xs ++ ys, Unn N2 N1, rfl, ?_, ⟨xs, ys, M1, M2, rfl, g1, f1.trans unn_r, g2, f2.trans (unn_l sep)⟩, unn_r⟩ (unn_ex (n12.trans (Ex.new hn)) (one_ex upd_same)) ((x1.trans x2).trans (Ex.new hn))
    · rcases unn_none z with z | z
      · rcases unn_none z with z | z
        · exact d1 a z
        · exact fresh_back x1 (d2 a z)
      · rw [one_ne z]
        exact fresh_back (x1.trans x2) hn
    · exact unn_l (fun a z => by rw [one_ne z]; exact nl) _ _ one_at
/-- [e], e a new tuple -/
theorem en_lstU {xs : List V} (h : EvU te σ H xs) : EvN (tLst (tCons te tNil)) σ H (NewL fun zs N => ∃ q : Addr, zs = [.ref q] ∧ N q = some (.tup xs)) := EvN.imp (en_lst (ean_one (EvU.n h)) fun vs N ⟨v, e, _⟩ => by rw [e]; simp) fun v N ⟨p, vs, N0, e1, e2, ⟨x, e3, q, e4, e5⟩, e6⟩ => ⟨p, vs, N0, e1, e2, ⟨q, by rw [e3, e4], e5⟩, e6⟩
end
/-- a tuple of two -/
def TupAt (N : Hp) (q : Addr) (x : V × Int) : Prop := N q = some (.tup [x.1, .int x.2])
/-- a def, its code object told -/
structure FunC (K : PySem.W.Frag) (x qual : Str) (st : Stmt) (f : Addr) (fd : FuncData) (c : Addr) : Prop where
  ex : ∃ (oc : Value) (od : Option Addr) (kV doc pm : Value) (an : Option Addr) (ct : Value) (osl : Array (Option Value)),
    fd = PySem.W.fnOf x qual (defArgs st) (defBody st) (defScope st) .none kV doc pm an (.ref c) ct ∧ K.lookup f = some ⟨oc, od, .func fd, osl⟩ ∧ PySem.W.codeIn K (.ref c) qual = true
theorem FunC.ok {P : Program} {w : World} {K : PySem.W.Frag} {mg : Str → Option Value} {base : Heap} {x qual : Str} {st : Stmt} {f c : Addr} {fd : FuncData} {N ps : List Str} {k : Nat} {sp : Sp} (F : FunC K x qual st f fd c) (S : FnScope N ps (defScope st)) (len : ∀ vs H Q E, sp vs H Q E → vs.length = ps.length)
    (hbody : ∀ (A : Around) (outer : List Env) (s : Shared) (H : Hp) (vs : List V) (Q : VK) (E : XK), Room k (A.deeper (envOfC qual (defScope st) s.heap.objs.size f (.ref c))) → sp vs H Q E →
      ∃ t, PSs (cxOf CX0 P w K mg base N qual (defScope st) f (.ref c) A outer s H E).nox (defBody st) t ∧ t { nx := fun _ H' => Q .non H', rt := Q } (L2.start N vs) H) : FnOk P w K mg base CX0 (k + 1) f fd ps sp := by
  obtain ⟨oc, od, kV, doc, pm, an, ct, osl, rfl, lk, hcd⟩ := F.ex
  refine fn_of lk hcd S len fun A outer s H vs Q E hr hsp => ?_
  obtain ⟨t, h, q⟩ := hbody A outer s H vs Q E hr hsp
  exact ⟨t, h.nox, q⟩
end Wy

set_option Elab.async false
set_option linter.all false
set_option maxRecDepth 100000
set_option maxHeartbeats 4000000
/-! We: min(xs, key=lambda p: p[1]). -/
namespace Wy
open PySem PySem.Spec PyProof.Rows
/-- all objects stay -/
def Kp (g h : Heap) : Prop := ∀ b o, g.get? b = some o → h.get? b = some o
theorem Kp.refl {g : Heap} : Kp g g := fun _ _ e => e
theorem Kp.trans {a b c : Heap} (h : Kp a b) (k : Kp b c) : Kp a c := fun x o e => k x o (h x o e)
theorem Kp.but {g h h' : Heap} {x : Addr} (K : Kp g h) (k : ∀ b o, b ∉ [x] → h.get? b = some o → h'.get? b = some o) (n : g.get? x = none) : Kp g h' := fun b o e => k b o (fun z => by
  rw [List.mem_singleton.mp z, n] at e
  cases e) (K b o e)
theorem Kp.same {g h h' : Heap} {x : Addr} (K : Kp g h) (hs : Heap.SameBut x h h') (n : g.get? x = none) : Kp g h' := fun b o e => (hs.2 b (fun z => by
  rw [z, n] at e
  cases e)).trans (K b o e)
section
variable {prog : Program} {w : World} {A : Around} {E : Value → Shared → Prop} {s : Shared} {g : Heap} {l q I S : Addr} {vs : List Value} {R : Result → Shared → Prop} {Q : Value → Shared → Prop}
theorem mk_loop (kf : Nat → Int) (hh : A.handled = none) (hl : ∀ h, Kp g h → h.IsList l vs.toArray) (nI : g.get? I = none) (nS : g.get? S = none) (hlI : l ≠ I) (hSI : S ≠ I)
    (turn : ∀ (i : Nat) (v : Value), vs[i]? = some v → ∀ (h : Heap) (tk : Nat), Kp g h → wpAny (model prog w) A.in1 (call (.ref q) [v]) (fun x s' => ∃ h2 tk2 t2, x = .int (kf i) t2 ∧ s' = { s with heap := h2, toks := tk2 } ∧ Kp h h2) (fun _ _ => False) { s with heap := h, toks := tk })
    (hR : ∀ i v h' tk', vs[i]? = some v → (∀ j, j < vs.length → kf i ≤ kf j ∧ (j < i → kf i < kf j)) → Kp g h' → R (.ok (.ret v)) { s with heap := h', toks := tk' }) :
    ∀ (r j i : Nat) (h : Heap) (tk : Nat) (vb : Value) (tb : Tok) (c : Nat), vs.length - (j + 1) = r → j + 1 ≤ vs.length → Kp g h → h.get? S = some (seqObj "list" #[vb, .int (kf i) tb] c) → h.IsListIter I l (j + 1) → vs[i]? = some vb → i ≤ j → (∀ j', j' ≤ j → kf i ≤ kf j' ∧ (j' < i → kf i < kf j')) →
      codeAny (model prog w) A (.builtin "min.loop" ⟨[.ref I, .ref q, .ref S], []⟩) R { s with heap := h, toks := tk } := by
  have hname : (toString "min" ++ toString ".loop" : String) = "min.loop" := by decide
  have W := Walks.list (prog := prog) (w := w) (A := A.in1) hh I l hlI vs.toArray
  have hsz : vs.toArray.size = vs.length := List.size_toArray ..
  intro r
  induction r with
  | zero =>
    intro j i h tk vb tb c hr hj K hS hit hvb hij hbest
    have hin : j + 1 = vs.length := by omega
    refine codeAny_builtin PySem.F.entry_min_loop ?_
    rw [Around.under_plainId PySem.F.plain_min_loop _]
    show wpAny _ A.in1 (seqItems? (.ref S) >>= _) _ _ _
    refine wpAny_bind (wpAny_seqItems hS rfl ?_)
    show wpAny _ A.in1 (tryCatch (pyNext (.ref I)) _ >>= _) _ _ _
    refine wpAny_bind (wpAny_tryCatch (W.done _ _ _ ⟨by rw [hsz, ← hin]; exact hit, hl h K⟩ fun h' tk' hk' => ?_))
    have K1 := K.but hk' nI
    have hS' := hk' S _ (by simpa using hSI) hS
    have s1 := Heap.SameBut.update h' S (Obj.mapSeq fun _ => (#[] : Array Value))
    show wpAny _ A.in1 (updateSeq S (fun _ => #[]) >>= _) _ _ _
    refine wpAny_bind ?_
    refine wpAny_updateSeq hS' rfl (wpAny_bind (wpAny_letGo (wpAny_pure ?_)))
    exact hR i vb _ _ hvb (fun j' hj' => hbest j' (by omega)) (K1.same s1 nS)
  | succ r ih =>
    intro j i h tk vb tb c hr hj K hS hit hvb hij hbest
    have hlt : j + 1 < vs.length := by omega
    refine codeAny_builtin PySem.F.entry_min_loop ?_
    rw [Around.under_plainId PySem.F.plain_min_loop _]
    show wpAny _ A.in1 (seqItems? (.ref S) >>= _) _ _ _
    refine wpAny_bind (wpAny_seqItems hS rfl ?_)
    show wpAny _ A.in1 (tryCatch (pyNext (.ref I)) _ >>= _) _ _ _
    refine wpAny_bind (wpAny_tryCatch (W.item (j + 1) _ _ _ (by rw [hsz]; exact hlt) ⟨hit, hl h K⟩ fun v h' tk' hP hst' hk' => ?_))
    have hv : vs[j + 1]? = some v := by simpa using hP
    obtain ⟨oI', hoI', hoc, hod⟩ := id hst'.1
    have K1 := K.but hk' nI
    have hS1 := hk' S _ (by simpa using hSI) hS
    show wpAny _ A.in1 (tryCatch (holding [v] (call (.ref q) [v])) _ >>= _) _ _ _
    refine wpAny_bind (wpAny_tryCatch (wpAny_holding (wpAny_mono (turn (j + 1) v hv h' tk' K1) (fun x s'' he => ?_) fun _ _ hF => hF.elim)))
    obtain ⟨h2, tk2, t2, rfl, rfl, K2⟩ := he
    have hS2 := K2 _ _ hS1
    have hI2 := K2 _ _ hoI'
    show wpAny _ A.in1 (tryCatch (holding [v, .int (kf (j + 1)) t2] (richCompare .Lt (.int (kf (j + 1)) t2) (.int (kf i) tb) >>= _)) _ >>= _) _ _ _
    refine wpAny_bind (wpAny_tryCatch (wpAny_holding (wpAny_bind (CmpOf.ints_lt (prog := prog) (w := w) (A := A.in1) (P := fun i v => ∃ t, v = .int (kf i) t) kf (fun i v h => h) (j + 1) i _ _ _ _ _ ⟨t2, rfl⟩ ⟨tb, rfl⟩ ?_))))
    refine wpAny_bind (wpAny_holding (wpAny_truthy_bool ?_))
    refine wpAny_bind (wpAny_letGo (wpAny_pure ?_))
    by_cases hb' : kf (j + 1) < kf i
    · have s1 := Heap.SameBut.update h2 S (Obj.mapSeq fun _ => #[v, .int (kf (j + 1)) t2])
      obtain ⟨c2, hc2⟩ : ∃ c2, (h2.update S (Obj.mapSeq fun _ => #[v, .int (kf (j + 1)) t2])).get? S = some (seqObj "list" #[v, .int (kf (j + 1)) t2] c2) := ⟨_, get?_update_seq hS2 fun _ => #[v, .int (kf (j + 1)) t2]⟩
      simp only [hb', decide_true, if_true]
      refine wpAny_bind ?_
      refine wpAny_updateSeq hS2 rfl (wpAny_bind (wpAny_letGo ?_))
      rw [hname]
      refine wpAny_pure ⟨plainId_quiet PySem.F.plain_min_loop _, ih (j + 1) (j + 1) _ _ v t2 c2 (by omega) hlt ((K1.trans K2).same s1 nS) hc2 ⟨oI', (s1.2 I hSI.symm).trans hI2, hoc, hod⟩ hv (Nat.le_refl _) fun j' hj' => ?_⟩
      by_cases e : j' = j + 1
      · subst e
        exact ⟨by omega, fun _ => by omega⟩
      · have hb1 := hbest j' (by omega)
        have hb2 := hb1.1
        exact ⟨by omega, fun _ => by omega⟩
    · simp only [hb', decide_false, Bool.false_eq_true, if_false]
      refine wpAny_bind (wpAny_letGo ?_)
      rw [hname]
      refine wpAny_pure ⟨plainId_quiet PySem.F.plain_min_loop _, ih (j + 1) i _ _ vb tb c (by omega) hlt (K1.trans K2) hS2 ⟨oI', hI2, hoc, hod⟩ hvb (by omega) fun j' hj' => ?_⟩
      by_cases e : j' = j + 1
      · subst e
        exact ⟨by omega, fun _ => by omega⟩
      · exact hbest j' (by omega)
theorem mk_min (kf : Nat → Int) (hh : A.handled = none) (hl : ∀ h, Kp s.heap h → h.IsList l vs.toArray) (hne : 0 < vs.length)
    (turn : ∀ (i : Nat) (v : Value), vs[i]? = some v → ∀ (h : Heap) (tk : Nat), Kp s.heap h → wpAny (model prog w) A.in1 (call (.ref q) [v]) (fun x s' => ∃ h2 tk2 t2, x = .int (kf i) t2 ∧ s' = { s with heap := h2, toks := tk2 } ∧ Kp h h2) (fun _ _ => False) { s with heap := h, toks := tk })
    (hQ : ∀ i v h' tk', vs[i]? = some v → (∀ j, j < vs.length → kf i ≤ kf j ∧ (j < i → kf i < kf j)) → Kp s.heap h' → Q v { s with heap := h', toks := tk' }) :
    wpAny (model prog w) A (call (.builtin "min") [.ref l] [(Str.ofString "key", .ref q)]) Q E s := by
  have hname : (toString "min" ++ toString ".loop" : String) = "min.loop" := by decide
  have hls := hl _ Kp.refl
  obtain ⟨ol, hol, _⟩ := id hls
  have hll : l < s.heap.objs.size := Heap.lt_size hol
  refine kmk_tree PySem.F.kind_min PySem.F.plain_min PySem.F.entry_min (kmk_min_key _ _) ?_
  show wpAny _ A.in1 (Builtin.Builtins.bindParams "min" ["key", "default"] 0 ⟨[], [(Str.ofString "key", .ref q)]⟩ >>= _) _ _ s
  refine wpAny_bind (wpAny_of_eq (show Builtin.Builtins.bindParams "min" ["key", "default"] 0 ⟨[], [(Str.ofString "key", .ref q)]⟩ = pure [some (.ref q), none] from rfl) ?_)
  refine wpAny_bind (wpAny_pure ?_)
  refine wpAny_bind (wpAny_pyIter_list hls ?_)
  refine wpAny_bind (wpAny_newList ?_ (Nat.zero_le _))
  rw [hname]
  have hS : (s.heap.push { cls := .type "list_iterator", data := .fields #[.ref l, .int 0 0] }).objs.size = s.heap.objs.size + 1 := size_push' ..
  have hlI : l ≠ s.heap.objs.size := Nat.ne_of_lt hll
  have hSI : (s.heap.push { cls := .type "list_iterator", data := .fields #[.ref l, .int 0 0] }).objs.size ≠ s.heap.objs.size := by rw [hS]; exact Nat.ne_of_gt (Nat.lt_succ_self _)
  refine wpAny_pure ⟨plainId_quiet PySem.F.plain_min_loop _, ?_⟩
  have nI : s.heap.get? s.heap.objs.size = none := Heap.get?_none_of_le (Nat.le_refl _)
  have nS : s.heap.get? (s.heap.push { cls := .type "list_iterator", data := .fields #[.ref l, .int 0 0] }).objs.size = none := Heap.get?_none_of_le (by rw [hS]; exact Nat.le_succ _)
  have KH : Kp s.heap ((s.heap.push { cls := .type "list_iterator", data := .fields #[.ref l, .int 0 0] }).push (seqObj "list" #[] 0)) := fun b x e => Heap.get?_push_of_some _ (Heap.get?_push_of_some _ e)
  have gI : ((s.heap.push { cls := .type "list_iterator", data := .fields #[.ref l, .int 0 0] }).push (seqObj "list" #[] 0)).get? s.heap.objs.size = some { cls := .type "list_iterator", data := .fields #[.ref l, .int 0 0] } :=
    Heap.get?_push_of_some _ (Heap.get?_push_size _ rfl)
  have gS : ((s.heap.push { cls := .type "list_iterator", data := .fields #[.ref l, .int 0 0] }).push (seqObj "list" #[] 0)).get? (s.heap.push { cls := .type "list_iterator", data := .fields #[.ref l, .int 0 0] }).objs.size = some (seqObj "list" #[] 0) := Heap.get?_push_size _ rfl
  have W := Walks.list (prog := prog) (w := w) (A := A.in1) hh s.heap.objs.size l hlI vs.toArray
  have hsz : vs.toArray.size = vs.length := List.size_toArray ..
  refine codeAny_builtin PySem.F.entry_min_loop ?_
  rw [Around.under_plainId PySem.F.plain_min_loop _]
  show wpAny _ A.in1 (seqItems? (.ref _) >>= _) _ _ _
  refine wpAny_bind (wpAny_seqItems gS rfl ?_)
  show wpAny _ A.in1 (tryCatch (pyNext (.ref s.heap.objs.size)) _ >>= _) _ _ _
  refine wpAny_bind (wpAny_tryCatch (W.item 0 _ _ _ (by rw [hsz]; exact hne) ⟨⟨_, gI, rfl, rfl⟩, hl _ KH⟩ fun v h' tk' hP hst' hk' => ?_))
  have hv : vs[0]? = some v := by simpa using hP
  obtain ⟨oI', hoI', hoc, hod⟩ := id hst'.1
  have K1 := KH.but hk' nI
  have hS1 := hk' _ _ (by simpa using hSI) gS
  show wpAny _ A.in1 (tryCatch (holding [v] (call (.ref q) [v])) _ >>= _) _ _ _
  refine wpAny_bind (wpAny_tryCatch (wpAny_holding (wpAny_mono (turn 0 v hv h' tk' K1) (fun x s'' he => ?_) fun _ _ hF => hF.elim)))
  obtain ⟨h2, tk2, t2, rfl, rfl, K2⟩ := he
  have hS2 := K2 _ _ hS1
  have hI2 := K2 _ _ hoI'
  have s1 := Heap.SameBut.update h2 (s.heap.push { cls := .type "list_iterator", data := .fields #[.ref l, .int 0 0] }).objs.size (Obj.mapSeq fun _ => #[v, .int (kf 0) t2])
  obtain ⟨c2, hc2⟩ : ∃ c2, (h2.update (s.heap.push { cls := .type "list_iterator", data := .fields #[.ref l, .int 0 0] }).objs.size (Obj.mapSeq fun _ => #[v, .int (kf 0) t2])).get? (s.heap.push { cls := .type "list_iterator", data := .fields #[.ref l, .int 0 0] }).objs.size = some (seqObj "list" #[v, .int (kf 0) t2] c2) := ⟨_, get?_update_seq hS2 fun _ => #[v, .int (kf 0) t2]⟩
  show wpAny _ A.in1 (updateSeq (s.heap.push { cls := .type "list_iterator", data := .fields #[.ref l, .int 0 0] }).objs.size (fun _ => #[v, .int (kf 0) t2]) >>= _) _ _ _
  refine wpAny_bind ?_
  refine wpAny_updateSeq hS2 rfl ?_
  rw [hname]
  refine wpAny_pure ⟨plainId_quiet PySem.F.plain_min_loop _, mk_loop (g := s.heap) kf hh hl nI nS hlI hSI turn hQ _ 0 0 _ _ v t2 c2 rfl hne ((K1.trans K2).same s1 nS) hc2 ⟨oI', (s1.2 _ hSI.symm).trans hI2, hoc, hod⟩ hv (Nat.le_refl _) fun j' hj' => ?_⟩
  obtain rfl : j' = 0 := Nat.le_zero.mp hj'
  exact ⟨Int.le_refl _, fun h => absurd h (Nat.lt_irrefl _)⟩
end
end Wy

namespace Wy
open PySem PySem.Spec PyProof.Rows
section
variable {prog : Program} {w : World} {A : Around} {s : Shared}
/-- the lambda p: p[1], called with a tuple -/
theorem lam_call {f p c' : Addr} {qual : Str} {params : Arguments} {scope : Scope} {pm ctv : Value} {items : Array Value} {k : Int} {t : Tok} {p1 p2 p3 : Pos} {j : Nat} {x : Str}
    (hf : s.heap.get? f = some (PySem.W.kla_obj "<lambda>" qual params (.Subscript (.Name x p1) (.Constant (.int 1) j p2) p3) scope [] pm c' ctv)) (hco : ∃ (oc : Obj) (vs : Array Value) (t : Tok), s.heap.get? c' = some oc ∧ oc.data = .fields vs ∧ vs[1]? = some (.str qual t))
    (ht : IsTup s.heap p items) (h1 : items[1]? = some (.int k t)) (hz : items.size ≤ sizeLine) (lim : s.heap.NoLimit) (room : A.depth < recursionLimit) (hbind : ∀ v, bindArgs (PySem.W.kla_fn "<lambda>" qual params (.Subscript (.Name x p1) (.Constant (.int 1) j p2) p3) scope [] pm (.ref c') ctv) ⟨[v], []⟩ = pure [(x, v)])
    (kd : scope.kind = .function) (co : scope.isCoroutine = false) (gen : scope.isGenerator = false) (hc : ∀ y ∈ scope.names, y.2 ≠ .cell) (hl : scope.names.lookup x = some .local) (hk : ∀ (L : Addr), (PySem.W.envX qual scope L f (.ref c') []).kindOf x = some .local) (hd : (x == ("__debug__" : Str)) = false) :
    wpAny (model prog w) A (call (.ref f) [.ref p]) (fun y s' => ∃ h2 tk2 t2, y = .int k t2 ∧ s' = { s with heap := h2, toks := tk2 } ∧ Kp s.heap h2) (fun _ _ => False) s := by
  obtain ⟨oc, cvs, tq, e1, e2, e3⟩ := hco
  refine wpAny_call (PySem.W.kla_callFunE room hf rfl co gen rfl ⟨c', oc, cvs, tq, rfl, e1, e2, e3⟩ ?_)
  rw [hbind]
  refine wpAny_pure (wpAny_newFunctionEnv hc (fun y hy => ?_) (fun h₁ hns hsb => ⟨lim.fresh _ hsb, ?_⟩) kd)
  · rw [List.mem_singleton.mp hy]
    exact hl
  have kp : Kp s.heap h₁ := fun b o e => hsb.extBut b o (Nat.ne_of_lt (Heap.lt_size e)) (Heap.get?_push_of_some _ e)
  show codeAny _ _ (.expr _ (PySem.W.envX qual scope s.heap.objs.size f (.ref c') [])) _ _
  refine PySem.W.kla_codeExpr (Subscript_ (wpAny_Name (wpAny_loadName_local (m := fun y => [(x, Value.ref p)].reverse.lookup y) (v := .ref p) kd (hk _) hns (by show List.lookup x [(x, Value.ref p)] = _; simp) ?_) hd))
  refine wpAny_Constant_int ?_
  obtain ⟨ot, ht1, ht2⟩ := id ht
  have ht' : IsTup h₁ p items := ⟨ot, kp _ _ ht1, ht2⟩
  have i1 : 1 < items.size := (Array.getElem?_eq_some_iff.mp h1).1
  have hs63 := L2.line63
  exact subscriptTail_builtinR (x := .int k t) ht'.typeIs PySem.F.slot_tuple_getitem.lookup (getItem_tuple (j := 1) ht' (by decide) (by decide) (by
    show seqIndex? 1 items.size = some 1
    unfold seqIndex?
    simp
    omega) h1 ⟨rfl, ⟨h₁, _, t, rfl, rfl, kp⟩⟩) (by with_unfolding_all rfl)
end
end Wy

namespace Wy
open PySem PySem.Spec PyProof.Rows L2 LamX Evl
/-- a table of code objects, as it was or one object longer -/
def TStep (P : Addr) (q : Str) (H H1 : Hp) : Prop := H1 = H ∨ ∃ (ps row : Array Value) (c : Addr), H P = some (.tbl ps) ∧ H c = none ∧ H1 = upd (upd H P (.tbl (ps ++ row))) c (CodeO c q) ∧ TriplesOk (ps ++ row).toList ∧ ∀ (p' : Pos) (cv : Value), codeAmong p' (ps ++ row).toList = some cv → codeAmong p' ps.toList = some cv ∨ cv = .ref c
theorem TStep.extN {P : Addr} {q : Str} {H H1 : Hp} (h : TStep P q H H1) : ExtN H H1 := by
  rcases h with rfl | ⟨ps, row, c, hP, nc, rfl, _, _⟩
  · exact ExtN.refl _
  · intro b o e n
    rw [upd_ne (ne_of_none e nc), upd_ne (fun z => n ps (Option.some.inj (e.symm.trans (by rw [z]; exact hP))))]
    exact e
theorem lam_make3 {X : Cx} {pins : List (Addr × Obj)} {σ : L2.St} {H : Hp} {s : Shared} {c P : Addr} {params : Arguments} {body : Expr} {scope : Scope} {pos : Pos} {E : Value → Shared → Prop} {Q : Value → Shared → Prop} (I : Inv X pins σ H s) (TB : TabB X.base X.mg c P) (hcode : X.env.code = .ref c)
    (hT : LamX.TabS H P (X.env.qual ++ "<lambda>")) (hdef : defaultsOf params X.env = ([], [])) (hfree : ∀ y ∈ scope.names, y.2 = .free → ∃ c, X.env.cells.lookup y.1 = some c)
    (h : ∀ (f c' : Addr) (pm ctv : Value) (H1 : Hp) (s' : Shared), Inv X pins σ H1 s' → TStep P (X.env.qual ++ "<lambda>") H H1 →
      s'.heap.get? f = some (PySem.W.kla_obj "<lambda>" (X.env.qual ++ "<lambda>") params body scope (cloFrom X.env.cells scope.names []) pm c' ctv) → H1 c' = some (CodeO c' (X.env.qual ++ "<lambda>")) → Q (.ref f) s') :
    wpAny (model X.prog X.w) X.A (eval (.Lambda params body scope pos) X.env) Q E s := by
  obtain ⟨ps, hP, ht, ha⟩ := hT
  refine PySem.W.kla_eval hdef ?_
  have bP : s.heap.BuiltinsAt X.mg P := TB.bm.keeps I.bk
  have hP' : s.heap.get? P = some { cls := .none, data := .fields ps } := I.hok P _ hP
  cases hc : codeAmong pos ps.toList with
  | none =>
    refine PySem.W.kla_makeFunction (mg := X.mg) (c := c) (P := P) (ps := ps) (closure_ok hfree) I.ok.glob (I.mod.glob.keeps I.bk) hcode (TB.code.keeps I.bk) hP' ht hc TB.gP bP fun c' ctv h' tk hx hge hlt hrec htb => ?_
    obtain ⟨c2, oc, vs, t, e2, hoc, hd, hv⟩ := hrec
    cases e2
    have nC : H c' = none := I.hok.fresh hge
    have I1 := inv_table (t' := tk) (more := #[rawInt pos.line, rawInt pos.col, .ref c']) (h' := h'.push (PySem.W.kla_obj "<lambda>" (X.env.qual ++ "<lambda>") params body scope (cloFrom X.env.cells scope.names []) ((X.mg "__name__").getD .none) c' ctv)) I hP
      (fun b o hb e => Heap.get?_push_of_some _ (hx b o hb e)) (Heap.get?_push_of_some _ htb) hge ⟨oc, vs, t, Heap.get?_push_of_some _ hoc, hd, hv⟩
    have eL : (ps ++ #[rawInt pos.line, rawInt pos.col, .ref c']).toList = ps.toList ++ [rawInt pos.line, rawInt pos.col, .ref c'] := by simp
    exact h h'.objs.size c' ((X.mg "__name__").getD .none) ctv _ _ I1 (.inr ⟨ps, _, c', hP, nC, rfl, by rw [eL]; exact PySem.TriplesOk_snoc _ _ _ _ ht, fun p' cv hcv => by rw [eL] at hcv; exact among_app _ ht hcv⟩) (Heap.get?_push_size _ rfl) upd_same
  | some cv =>
    obtain ⟨c', e, hco⟩ := ha pos cv hc
    subst e
    refine PySem.W.kla_makeFunctionHit (mg := X.mg) (c := c) (P := P) (ps := ps) (closure_ok hfree) I.ok.glob (I.mod.glob.keeps I.bk) hcode (TB.code.keeps I.bk) hP' ht hc bP fun ctv h' tk hx hsz => ?_
    have I1 : Inv X pins σ H { s with heap := h'.push (PySem.W.kla_obj "<lambda>" (X.env.qual ++ "<lambda>") params body scope (cloFrom X.env.cells scope.names []) ((X.mg "__name__").getD .none) c' ctv), toks := tk } := I.kept fun b o e => Heap.get?_push_of_some _ (hx b o e)
    exact h h'.objs.size c' ((X.mg "__name__").getD .none) ctv H _ I1 (.inl rfl) (Heap.get?_push_size _ rfl) hco
end Wy
namespace Wy
open PySem PySem.Spec PyProof.Rows L2 LamX Evl
/-- what min asks of its list, and what it then tells -/
def gMinLam (P : Addr) (qn : Str) (Q : VK) : V → Hp → Prop := fun x H1 => LamX.TabS H1 P qn ∧ ∃ (l : Addr) (ps : List Addr) (ks : List Int), x = .ref l ∧ H1 l = some (.lst (ps.map V.ref)) ∧ ps.length = ks.length ∧ 0 < ps.length ∧ (∀ (i : Nat) p k, ps[i]? = some p → ks[i]? = some k → ∃ y, H1 p = some (.tup [y, .int k])) ∧
  ∀ H2, TStep P qn H1 H2 → ∀ (i : Nat) p, ps[i]? = some p → (∀ j, j < ps.length → ks.getD i 0 ≤ ks.getD j 0 ∧ (j < i → ks.getD i 0 < ks.getD j 0)) → Q (.ref p) H2
def gOne (G : V → Hp → Prop) : List V → Hp → Prop := fun vs H1 => match vs with
  | [v] => G v H1
  | _ => False
/-- min(e, key=lambda p: p[1]), e a list of tuples of two, the second an int -/
def tMinLam (P : Addr) (qn : Str) (te : TE) : TE := fun σ H Q => te σ H (gMinLam P qn Q)
theorem pe_minlam {X : Cx} {qn : Str} {c P : Addr} {e : Expr} {te : TE} {x : Str} {params : Arguments} {scope : Scope} {p0 p1 p2 p3 lpos kpos pos : Pos} {j k : Nat} (ha : PA X [e] (tCons te tNil)) (hg : Gl X "min") (hm : X.mg "min" = none) (calm : X.calm = true) (hr : Room (k + 1) X.A)
    (TB : TabB X.base X.mg c P) (hcode : X.env.code = .ref c) (hqn : qn = X.env.qual ++ "<lambda>") (hdef : defaultsOf params X.env = ([], [])) (hclo : cloFrom X.env.cells scope.names [] = [])
    (hbind : ∀ (q : Str) (pm cv ctv v : Value), bindArgs (PySem.W.kla_fn "<lambda>" q params (.Subscript (.Name x p1) (.Constant (.int 1) j p2) p3) scope [] pm cv ctv) ⟨[v], []⟩ = pure [(x, v)])
    (kd : scope.kind = .function) (co : scope.isCoroutine = false) (gen : scope.isGenerator = false) (hc : ∀ y ∈ scope.names, y.2 ≠ .cell) (hf : ∀ y ∈ scope.names, y.2 ≠ .free) (hl : scope.names.lookup x = some .local) (hk : ∀ (q : Str) (L f c' : Addr), (PySem.W.envX q scope L f (.ref c') []).kindOf x = some .local) (hd : (x == ("__debug__" : Str)) = false)
    (hst : backTo pos (starEach [e] X.env) = (false, eval e X.env) :: backTo pos (starEach [] X.env) := by rfl) (hpl : (backTo pos (starEach [e] X.env)).any (·.1) = false := by rfl) :
    PE X (.Call (.Name "min" p0) [e] [⟨some "key", .Lambda params (.Subscript (.Name x p1) (.Constant (.int 1) j p2) p3) scope lpos, kpos⟩] pos) (tMinLam P qn te) := by
  refine ⟨fun pins s σ H Q I h => ?_⟩
  refine wpAny_Call_Name_kw (ld_blt I hg hm (u := .builtin "min") (by decide +kernel) ?_ (by decide) (by decide))
  refine PyProof.Rows.callWith_kw (thn (ha.run pos pins s σ H (gOne (gMinLam P qn Q)) I h) fun us s1 ⟨vs, H1, I1, r1, q1⟩ => ?_) hst hpl (by rfl) (by rfl)
  obtain ⟨v, rfl, hT, l, ps, ks, rfl, hl1, len, pos0, hp, q1⟩ : ∃ v, vs = [v] ∧ gMinLam P qn Q v H1 := by
    match vs, q1 with
    | [v], q1 => exact ⟨v, rfl, q1⟩
  obtain ⟨u, rfl, ru⟩ := vals1 r1
  cases (show u = Value.ref l from ru)
  show wpAny _ _ (evalAll ((do let v ← eval (.Lambda params (.Subscript (.Name x p1) (.Constant (.int 1) j p2) p3) scope lpos) X.env; standAt _; pure v) :: [])) _ _ s1
  refine wpAny_evalAll_cons (wpAny_bind (lam_make3 I1 TB hcode (hqn ▸ hT) hdef (fun y hy e => absurd e (hf y hy)) fun f c' pm ctv H2 s2 I2 st hfo hco => wpAny_bind (wpAny_standAt (wpAny_pure (wpAny_evalAll_nil ?_)))))
  have eN := st.extN
  rw [hclo] at hfo
  have hl2 : H2 l = some (.lst (ps.map V.ref)) := eN _ _ hl1 fun _ z => nomatch z
  obtain ⟨its, r, pl, hz⟩ := I2.list (sq_of hl2)
  have ei := refs_at r
  subst ei
  show wpAny _ _ (call (.builtin "min") [.ref l] [(Str.ofString "key", .ref f)]) _ _ s2
  obtain ⟨ol, n0, el, e1, e2, e3⟩ := pl
  refine mk_min (s := s2) (vs := ps.map Value.ref) (fun i => ks.getD i 0) (I2.ok.hd calm) (fun h K => ⟨ol, K _ _ el, e1, n0, e3⟩) (by rw [List.length_map]; exact pos0) (fun i v hv h tk K => ?_) (fun i v h' tk' hv best K => ?_)
  · rw [List.getElem?_map] at hv
    obtain ⟨p, hpi, rfl⟩ := Option.map_eq_some_iff.mp hv
    have li := (List.getElem?_eq_some_iff.mp hpi).1
    obtain ⟨y, hy⟩ := hp i p (ks.getD i 0) hpi (by rw [List.getD_eq_getElem?_getD, List.getElem?_eq_getElem (by omega)]; rfl)
    have hy2 : H2 p = some (.tup [y, .int (ks.getD i 0)]) := eN _ _ hy fun _ z => nomatch z
    have I3 : Inv X pins σ H2 { s2 with heap := h, toks := tk } := I2.kept (t' := tk) K
    obtain ⟨tits, tr, tpl, tz⟩ := I3.tuple (st_of hy2)
    obtain ⟨u0, u1, rfl, r0, t1, rfl⟩ : ∃ u0 u1, tits = [u0, u1] ∧ RelV y u0 ∧ ∃ t, u1 = .int (ks.getD i 0) t := by
      cases tr with
      | cons a b =>
        obtain ⟨u1, e, rb⟩ := vals1 b
        exact ⟨_, u1, by rw [e], a, rb⟩
    obtain ⟨oc, cvs, tq, g1, g2, g3⟩ := (I3.hok c' _ hco).1
    refine wpAny_mono (lam_call (s := { s2 with heap := h, toks := tk }) (A := X.A.in1) (K _ _ hfo) ⟨oc, cvs, tq, g1, g2, g3⟩ tpl (k := ks.getD i 0) (t := t1) rfl (by show 2 ≤ sizeLine; decide) I3.nolimit (by have := hr.dp; show X.A.depth < recursionLimit; omega) (fun v => hbind _ _ _ _ v) kd co gen hc hl (fun L => hk _ L _ _) hd) (fun x s' h => h) fun _ _ h => h
  · rw [List.getElem?_map] at hv
    obtain ⟨p, hpi, rfl⟩ := Option.map_eq_some_iff.mp hv
    exact ⟨.ref p, H2, I2.kept (t' := tk') K, rfl, q1 H2 (hqn ▸ st) i p hpi fun j hj => best j (by rw [List.length_map]; exact hj)⟩
end Wy
namespace Wy
open PySem PySem.Spec PyProof.Rows L2 LamX Evl
/-- the table of code objects, and these -/
def TblR (P : Addr) (q : Str) : RP := fun F H => (∃ ps, H P = some (.tbl ps) ∧ TriplesOk ps.toList ∧ ∀ (pos : Pos) (cv : Value), codeAmong pos ps.toList = some cv → ∃ c, cv = .ref c ∧ H c = some (CodeO c q) ∧ F c) ∧ F P ∧ ∀ a, F a → ∃ o, H a = some o ∧ ¬ Tupo o
theorem tblR_regn (P : Addr) (q : Str) : Regn (TblR P q) where
  loc := fun F H H' ⟨⟨ps, h1, h2, h3⟩, f1, dm⟩ k => ⟨⟨ps, k _ _ h1 (.inl f1), h2, fun pos cv hc => let ⟨c, e, g, fc⟩ := h3 pos cv hc; ⟨c, e, k _ _ g (.inl fc), fc⟩⟩, f1, fun a z => let ⟨o, ho, nt⟩ := dm a z; ⟨o, k _ _ ho (.inl z), nt⟩⟩
  dom := fun F H a ⟨_, _, dm⟩ z => dm a z
theorem TblR.tabs {P : Addr} {q : Str} {F : Reg} {H : Hp} (h : TblR P q F H) : LamX.TabS H P q := let ⟨⟨ps, h1, h2, h3⟩, _⟩ := h; ⟨ps, h1, h2, fun pos cv hc => let ⟨c, e, g, _⟩ := h3 pos cv hc; ⟨c, e, g⟩⟩
theorem TblR.step {P : Addr} {q : Str} {F : Reg} {H H2 : Hp} (h : TblR P q F H) (st : TStep P q H H2) : ∃ F' : Reg, TblR P q F' H2 ∧ (∀ a, F' a → F a ∨ H a = none) ∧ (∀ a o, H a = some o → a ≠ P → H2 a = some o) ∧ ∀ a, H a ≠ none → H2 a ≠ none := by
  rcases st with rfl | ⟨ps, row, c, hP, nc, rfl, t2, am⟩
  · exact ⟨F, h, fun a z => .inl z, fun a o e _ => e, fun a z => z⟩
  · obtain ⟨⟨ps', h1, h2, h3⟩, f1, dm⟩ := h
    have e : ps' = ps := by
      rw [hP] at h1
      injection h1 with h1
      injection h1 with h1
      exact h1.symm
    subst e
    have nPc : P ≠ c := ne_of_none hP nc
    have old : ∀ a o, H a = some o → a ≠ P → (upd (upd H P (.tbl (ps' ++ row))) c (CodeO c q)) a = some o := fun a o e n => by
      rw [upd_ne (ne_of_none e nc), upd_ne n]
      exact e
    have atP : (upd (upd H P (.tbl (ps' ++ row))) c (CodeO c q)) P = some (.tbl (ps' ++ row)) := by rw [upd_ne nPc, upd_same]
    have ntb : ∀ c', H c' = some (CodeO c' q) → c' ≠ P := fun c' e z => by
      rw [z, hP] at e
      exact codeO_ne ps' (Option.some.inj e).symm
    refine ⟨fun a => F a ∨ a = c, ⟨⟨ps' ++ row, atP, t2, fun pos cv hc => ?_⟩, .inl f1, fun a z => ?_⟩, fun a z => z.imp id fun z => by rw [z]; exact nc, old, fun a z => ?_⟩
    · rcases am pos cv hc with z | z
      · obtain ⟨c', e1, e2, e3⟩ := h3 pos cv z
        exact ⟨c', e1, old _ _ e2 (ntb c' e2), .inl e3⟩
      · exact ⟨c, z, upd_same, .inr rfl⟩
    · rcases z with z | z
      · by_cases n : a = P
        · rw [n, atP]
          exact ⟨_, rfl, fun ⟨_, t⟩ => by cases t⟩
        · obtain ⟨o, ho, nt⟩ := dm a z
          exact ⟨o, old _ _ ho n, nt⟩
      · rw [z, upd_same]
        exact ⟨_, rfl, fun ⟨_, t⟩ => by unfold CodeO at t; cases t⟩
    · by_cases n : a = P
      · rw [n, atP]
        exact fun z => by cases z
      · cases k : H a with
        | none => exact (z k).elim
        | some o =>
          rw [old a o k n]
          exact fun z => by cases z
end Wy
namespace Wy
open PySem PySem.Spec PyProof.Rows L2 Evl
section
variable {T T' : RP} {F0 B0 : Reg} {L H : Hp} {K : PySem.W.Frag} {σ : L2.St} {te : TE} {D : Ends} {tz : TS} {P : V → Hp → Hp → Prop}
/-- x, y = e, e over the region, tuples told -/
theorem vw_un2M {i j : Nat} (R : Regn T') (h : EvWM te σ T T' F0 B0 L P) (k : ∀ v N M L', (∀ a o, M a = some o → Tupo o) → Ex L L' → Ex N L' → Ex M L' → P v N M → ∃ a x y, v = .ref a ∧ SqT K L' a [x, y] ∧ SvW tz D ((σ.set i (some x)).set j (some y)) T' F0 B0 L') : SvW (tSeq (tAsg te (gTup K 2 (gCons (gName i) (gCons (gName j) gNil)))) tz) D σ T F0 B0 L := fun H w =>
  h H w _ fun v N M H2 L' d tM e1 e2 e3 p w2 => by
    obtain ⟨a, x, y, rfl, hq, s⟩ := k v N M L' tM e1 e2 e3 p
    exact ⟨a, _, rfl, ex_t w2.lx hq, rfl, x, _, rfl, y, _, rfl, rfl, s H2 w2⟩
/-- a new list, read where the region stands -/
theorem ew_HL {xs : List V} (R : Regn T) (h : ∀ H, Wld T F0 B0 L H → EvL te σ H xs) : EvW te σ T T F0 B0 L (IsL xs) := fun H w Q q => h H w H (Ex.refl H) Q fun p H2 np e hp => by
  have fr : ∀ a, one p (.lst xs) a ≠ none → H a = none := fun a z => by
    rw [one_ne z]
    exact np
  exact q (.ref p) (one p (.lst xs)) H2 (fun a z => ⟨fresh_back w.lx (fr a z), fun y => let ⟨_, _, _, _, bb, _⟩ := w; bb a y (fr a z)⟩) ⟨p, rfl, one_at⟩ (w.new R e fr (one_ex hp))
/-- a method, its tuples told, where the whole region is its own -/
theorem spwm {n : Nat} {vs : List V} {R : List V → Hp → Reg → RP → (V → Hp → Hp → Prop) → Prop} (RT : Regn T') (hl : vs.length = n) (h : ∀ H F, T F H → Ex L H → (∀ a, F a → L a = none) → R vs H F T' P) : SpWMP (SpWM n R) vs T T' F0 B0 L P := fun H ⟨F, t, x, d, b, f⟩ Q q E => by
  refine ⟨hl, F, T', P, h H F t x d, fun v N M H' F' fr t' gr dN eN eM tM p => ?_⟩
  have wN : Wld T' F0 B0 (Unn N L) H' := by
    refine ⟨F', t', unn_ex (fun a o ha => fr.keep a o (x a o ha) fun fa => by rw [d a fa] at ha; cases ha) eN, fun a fa => ?_, fun a z => fr.dm a (b a z), fun a fa => (gr a fa).elim (f a) fun z => .inr fun y => b a y z⟩
    cases k : Unn N L a with
    | none => rfl
    | some uu =>
      rcases unn_none (a := a) (N := N) (H := L) (by rw [k]; exact fun z => by cases z) with y | y
      · rcases gr a fa with z | z
        · exact (y (d a z)).elim
        · exact (y (fresh_back x z)).elim
      · exact ((dN a y).2 fa).elim
  obtain ⟨wM, eM2⟩ := wN.tup RT eM tM
  exact q v N M H' _ (fun a z => ⟨fresh_back x (dN a z).1, fun y => b a y (dN a z).1⟩) tM (unn_r.trans unn_r) ((unn_l fun a z => fresh_back x (dN a z).1).trans unn_r) eM2 p wM
end
end Wy
namespace Wy
open PySem PySem.Spec PyProof.Rows L2 Evl
/-- the end of a method, with new objects -/
theorem close_1N {T T' : RP} {F : Reg} {H H' L' N : Hp} {P : V → Hp → Prop} {Q : VK} {v : V} (R : Regn T) (t : T F H) (q : ∀ (v : V) (N H' : Hp) (F' : Reg), Frm F H H' → T' F' H' → (∀ a, F' a → F a ∨ H a = none) → (∀ a, N a ≠ none → H a = none ∧ ¬ F' a) → Ex N H' → P v N → Q v H')
    (w : Wld T' F (fun a => H a ≠ none) (Unn N L') H') (dN : ∀ a, N a ≠ none → L' a = none ∧ ¬ H a ≠ none) (keep : Ex (Out F H) L') (p : P v N) : Q v H' := by
  obtain ⟨F', t', x, d, b, f⟩ := w
  refine q v N H' F' ⟨fun a o h z => ?_, b⟩ t' (fun a z => (f a z).imp id Classical.not_not.mp) (fun a z => ⟨Classical.not_not.mp (dN a z).2, fun fa => ?_⟩) ((unn_l fun a z => (dN a z).1).trans x) p
  · have nf : ¬ F a := fun f1 => by
      obtain ⟨o', ho, nt⟩ := R.dom F H a t f1
      rw [h] at ho
      rw [← Option.some.inj ho] at nt
      exact nt (z f1)
    exact x a o (unn_r _ _ (keep a o (by rw [out_at nf]; exact h)))
  · have g := d a fa
    cases k : N a with
    | none => exact z k
    | some o =>
      have g2 := unn_l (N := N) (H := L') (fun a z => (dN a z).1) a o k
      rw [g] at g2
      cases g2
end Wy

set_option Elab.async false
set_option linter.all false
set_option maxRecDepth 100000
set_option maxHeartbeats 4000000
/-! Wf: a law over a table that is asked: a list handed in, the table of code objects beside. -/
namespace Wy
open PySem PySem.Spec PyProof.Rows L2 Evl
/-- a list, whatever it holds -/
def LstA (p : Addr) : RP := fun F H => (∃ ws, H p = some (.lst ws)) ∧ F p ∧ ∀ a, F a → ∃ o, H a = some o ∧ ¬ Tupo o
theorem lstA_regn (p : Addr) : Regn (LstA p) where
  loc := fun F H H' ⟨⟨ws, h1⟩, f1, h3⟩ k => ⟨⟨ws, k _ _ h1 (.inl f1)⟩, f1, fun a z => let ⟨o, ho, nt⟩ := h3 a z; ⟨o, k _ _ ho (.inl z), nt⟩⟩
  dom := fun F H a ⟨_, _, h3⟩ z => h3 a z
section
variable {T T' T'' U A B C : RP} {F F0 B0 : Reg} {L L' H H' N : Hp} {K : PySem.W.Frag} {σ : L2.St} {ta tb tc te tl ty : TE} {t u : TT} {x y z v w' : V} {D : Ends} {tu tw tz ts : TS} {P P1 P' : V → Hp → Prop} {Q : VK}
/-- x = [], the region's own -/
theorem vw_newLst {i : Nat} (R : Regn T) (k : ∀ d, L d = none → SvW tz D (σ.set i (some (.ref d))) (Two T (LstA d)) F0 B0 L) : SvW (tSeq (tAsg (tLst tNil) (gName i)) tz) D σ T F0 B0 L := fun H w => ⟨Nat.zero_le _, fun d nd => by
  refine k d (fresh_back w.lx nd) _ ?_
  have e : Ex H (upd H d (.lst [])) := Ex.new nd
  obtain ⟨F, t, x, dd, b, f⟩ := w
  refine ⟨fun a => F a ∨ a = d, ⟨F, fun a => a = d, R.ex t e, ⟨⟨[], upd_same⟩, rfl, fun a z => ⟨.lst [], by rw [show a = d from z]; exact upd_same, fun ⟨_, q⟩ => by cases q⟩⟩, fun a z1 z2 => ?_, fun a => Iff.rfl⟩, x.trans e, fun a z => ?_, fun a z => ex_dm e a (b a z), fun a z => z.elim (f a) fun z => .inr fun y => b a y (by rw [z]; exact nd)⟩
  · obtain ⟨o, ho, _⟩ := R.dom F H a t z1
    rw [z2, nd] at ho
    cases ho
  · rcases z with z | z
    · exact dd a z
    · rw [z]
      exact fresh_back x nd⟩
/-- a call with new arguments that gives new objects -/
theorem en_clN {sp : Sp} {E : XK} {t : TA} {PA : List V → Hp → Prop} (ht : EvAN t σ H PA) (hs : ∀ vs N H2, PA vs N → Ex N H2 → Ex H H2 → SpNP sp vs H2 P) : EvN (tCall sp [] E t) σ H P := fun H1 e Q q =>
  ht H1 e _ fun vs N H2 d pa a x => by
    rw [List.append_nil]
    exact hs vs N H2 pa a (e.trans x) H2 (Ex.refl _) Q (fun v N' H3 d' p a' b => q v N' H3 (fun c z => fresh_back x (d' c z)) p a' (x.trans b)) E
/-- xs.reverse() of an own list -/
theorem vw_reverse' {l : Addr} {xs : List V} (R : Regn T) (hl : L l = some (.lst xs)) (ha : Ev ta σ L (.ref l)) (k : SvW tNext D σ T F0 B0 (upd L l (.lst xs.reverse))) : SvW (tDrop (tBM0 K "list" rReverse ta)) D σ T F0 B0 L := fun H w =>
  ha H w.lx _ fun H2 e2 => have w2 := w.ext R e2
    ⟨Or.inl ⟨rfl, xs, sq_of (w2.lx _ _ hl)⟩, l, xs, rfl, rfl, w2.lx _ _ hl, k _ (w2.put R hl (fun ⟨_, z⟩ => by cases z))⟩
/-- a test of two parts, both read in the region -/
theorem etw_andR {p : Prop} [Decidable p] (R : Regn T) (h1 : ∀ H, Wld T F0 B0 L H → EvT t σ H (decide p)) (h2 : p → EtW u σ T T F0 B0 L false) : EtW (tAnd t u) σ T T F0 B0 L false := fun H w Q q => h1 H w H (Ex.refl _) _ fun H2 e2 => by
  by_cases c : p
  · rw [decide_eq_true c]
    show u σ H2 Q
    exact h2 c H2 (w.ext R e2) Q q
  · rw [decide_eq_false c]
    show Q false H2
    exact q nonew H2 (fun a z => (z rfl).elim) ((w.ext R e2).weak unn_no)
/-- a call, the first argument over the region, the second read in it -/
theorem ew_cl2R {sp : Sp} {E : XK} {P2 : V → Hp → Prop} (R : Regn T') (ha : EvW te σ T T' F0 B0 L P1) (hb : ∀ N H', Wld T' F0 B0 (Unn N L) H' → EvP tb σ H' P2) (hs : ∀ x N y H2, (∀ a, N a ≠ none → L a = none ∧ ¬ B0 a) → P1 x N → P2 y H2 → Ex (Unn N L) H2 → SpV sp [x, y] H2 z) : EvW (tCall sp [] E (tCons te (tCons tb tNil))) σ T T' F0 B0 L fun v _ => v = z := fun H w Q q =>
  ha H w _ fun x N H2 d p w2 => hb N H2 w2 H2 (Ex.refl _) _ fun y H3 e3 p2 => by
    show sp [x, y] H3 Q E
    exact hs x N y H3 d p p2 (w2.lx.trans e3) H3 (Ex.refl _) Q (fun H4 e4 => q z N H4 d rfl ((w2.ext R e3).ext R e4)) E
/-- own = {..}, another region beside -/
theorem vw_newOwnT {i : Nat} {wd : Int} {t1 : TE} (R : Regn T) (hw : Ev t1 σ L (.int wd)) (k : ∀ o : OwnA, SvW tz D (σ.set i (some (.ref o.po))) (Two T (Two (PoR o.po (ownK0 wd o.pt o.pl o.ph)) (Two (DtR o.pt []) (Two (OrdR o.pl []) (HeldE o.ph []))))) F0 B0 L) :
    SvW (tSeq (tAsg (tDisp [(tC (.str "width"), t1), (tC (.str "there"), tDNewK), (tC (.str "orders"), tLst tNil), (tC (.str "made"), tC (.int 0)), (tC (.str "held"), tLst tNil)]) (gName i)) tz) D σ T F0 B0 L := fun H w p np => by
  have x1 : Ex H (upd H p (.dK [])) := Ex.new np
  have hp1 : (upd H p (.dK [])) p = some (.dK []) := upd_same
  refine hw _ (w.lx.trans x1) _ fun H2 e2 => ?_
  have hp2 := e2 _ _ hp1
  have x2 := x1.trans e2
  refine fun pt npt => ?_
  have x3 : Ex H (upd H2 pt (.dK [])) := x2.trans (Ex.new npt)
  have hp3 := (Ex.new (o := .dK []) npt) _ _ hp2
  have ht3 : (upd H2 pt (.dK [])) pt = some (.dK []) := upd_same
  have nt0 : H pt = none := fresh_back x2 npt
  generalize upd H2 pt (.dK []) = H3 at x3 hp3 ht3
  refine ⟨Nat.zero_le _, fun pl npl => ?_⟩
  have x4 : Ex H (upd H3 pl (.lst [])) := x3.trans (Ex.new npl)
  have hp4 := (Ex.new (o := .lst []) npl) _ _ hp3
  have ht4 := (Ex.new (o := .lst []) npl) _ _ ht3
  have hl4 : (upd H3 pl (.lst [])) pl = some (.lst []) := upd_same
  have nl0 : H pl = none := fresh_back x3 npl
  generalize upd H3 pl (.lst []) = H4 at x4 hp4 ht4 hl4
  refine ⟨Nat.zero_le _, fun ph nph => ?_⟩
  have x5 : Ex H (upd H4 ph (.lst [])) := x4.trans (Ex.new nph)
  have hp5 := (Ex.new (o := .lst []) nph) _ _ hp4
  have ht5 := (Ex.new (o := .lst []) nph) _ _ ht4
  have hl5 := (Ex.new (o := .lst []) nph) _ _ hl4
  have hh5 : (upd H4 ph (.lst [])) ph = some (.lst []) := upd_same
  have nh0 : H ph = none := fresh_back x4 nph
  have d1 : pt ≠ p := fun e => by rw [e, hp2] at npt; cases npt
  have d2 : pl ≠ p := fun e => by rw [e, hp3] at npl; cases npl
  have d3 : pl ≠ pt := fun e => by rw [e, ht3] at npl; cases npl
  have d4 : ph ≠ p := fun e => by rw [e, hp4] at nph; cases nph
  have d5 : ph ≠ pt := fun e => by rw [e, ht4] at nph; cases nph
  have d6 : ph ≠ pl := fun e => by rw [e, hl4] at nph; cases nph
  generalize upd H4 ph (.lst []) = H5 at x5 hp5 ht5 hl5 hh5
  refine ⟨hp5, ownK0 wd pt pl ph, rfl, by show 5 ≤ 15; decide, ?_⟩
  have em : mergeK [] (ownK0 wd pt pl ph) = ownK0 wd pt pl ph := rfl
  rw [em]
  refine k ⟨p, pt, pl, ph⟩ _ ?_
  have ne : ∀ {a}, a ≠ p → (upd H5 p (.dK (ownK0 wd pt pl ph))) a = H5 a := fun n => upd_ne n
  have xN : Ex H (upd H5 p (.dK (ownK0 wd pt pl ph))) := fun a o h => by
    rw [ne (ne_of_none h np)]
    exact x5 _ _ h
  obtain ⟨F, tt, xx, dd, bb, ff⟩ := w
  refine ⟨fun a => F a ∨ (a = p ∨ (a = pt ∨ (a = pl ∨ a = ph))), ⟨F, fun a => a = p ∨ (a = pt ∨ (a = pl ∨ a = ph)), R.ex tt xN, ⟨fun a => a = p, fun a => a = pt ∨ (a = pl ∨ a = ph), ⟨upd_same, rfl, fun a z => ?_⟩, ⟨fun a => a = pt, fun a => a = pl ∨ a = ph, ⟨[], by rw [ne d1]; exact ht5, .nil, rfl, fun a z => ?_⟩, ⟨fun a => a = pl, fun a => a = ph, ⟨[], by rw [ne d2]; exact hl5, .nil, rfl, fun a z => ?_⟩, ⟨by rw [ne d4]; exact hh5, rfl, ⟨fun q hq => (List.not_mem_nil hq).elim, fun a z => ?_⟩⟩, fun a z1 z2 => ?_, fun a => Iff.rfl⟩, fun a z1 z2 => ?_, fun a => Iff.rfl⟩, fun a z1 z2 => ?_, fun a => Iff.rfl⟩, fun a z1 z2 => ?_, fun a => Iff.rfl⟩, fun a o h => xN _ _ (xx _ _ h), fun a z => ?_, fun a z => ex_dm xN a (bb a z), fun a z => ?_⟩
  · have e : a = p := z
    rw [e, upd_same]
    exact ⟨_, rfl, fun ⟨_, t⟩ => by cases t⟩
  · have e : a = pt := z
    rw [e, ne d1]
    exact ⟨_, ht5, fun ⟨_, t⟩ => by cases t⟩
  · have e : a = pl := z
    rw [e, ne d2]
    exact ⟨_, hl5, fun ⟨_, t⟩ => by cases t⟩
  · have e : a = ph := z
    rw [e, ne d4]
    exact ⟨_, hh5, fun ⟨_, t⟩ => by cases t⟩
  · exact d6 ((show a = ph from z2).symm.trans z1)
  · rcases z2 with z2 | z2
    · exact d3 (z2.symm.trans z1)
    · exact d5 (z2.symm.trans z1)
  · rcases z2 with z2 | z2 | z2
    · exact d1 (z2.symm.trans z1)
    · exact d2 (z2.symm.trans z1)
    · exact d4 (z2.symm.trans z1)
  · obtain ⟨o, ho, _⟩ := R.dom F H a tt z1
    rcases z2 with z | z | z | z
    · rw [z, np] at ho
      cases ho
    · rw [z, nt0] at ho
      cases ho
    · rw [z, nl0] at ho
      cases ho
    · rw [z, nh0] at ho
      cases ho
  · rcases z with z | z | z | z | z
    · exact dd a z
    · rw [z]
      exact fresh_back xx np
    · rw [z]
      exact fresh_back xx nt0
    · rw [z]
      exact fresh_back xx nl0
    · rw [z]
      exact fresh_back xx nh0
  · rcases z with z | z | z | z | z
    · exact ff a z
    · rw [z]
      exact .inr fun y => bb p y np
    · rw [z]
      exact .inr fun y => bb pt y nt0
    · rw [z]
      exact .inr fun y => bb pl y nl0
    · rw [z]
      exact .inr fun y => bb ph y nh0
end
/-! ### a table, what a law holds of it, the table of code objects -/
section
variable {K : PySem.W.Frag} (S : TSp K)
def WP (PT : Addr) (qn : Str) (t : Addr) (o : OwnA) (s : TabS) (turn : Int) (ps : List HeldP) : RP := Two (WT S t o s turn ps) (TblR PT qn)
def WXP (PT : Addr) (qn : Str) (t : Addr) (o : OwnA) (s : TabS) (xs : List V) (turn : Int) (ps : List HeldP) : RP := Two (WX S t o s xs turn ps) (TblR PT qn)
theorem wP_regn (PT : Addr) (qn : Str) (t : Addr) (o : OwnA) (s : TabS) (turn : Int) (ps : List HeldP) : Regn (WP S PT qn t o s turn ps) := (wT_regn S _ _ _ _ _).two (tblR_regn _ _)
theorem wXP_regn (PT : Addr) (qn : Str) (t : Addr) (o : OwnA) (s : TabS) (xs : List V) (turn : Int) (ps : List HeldP) : Regn (WXP S PT qn t o s xs turn ps) := (wX_regn S _ _ _ _ _ _).two (tblR_regn _ _)
variable {S} {PT : Addr} {qn : Str} {t : Addr} {o : OwnA} {s : TabS} {xs : List V} {turn : Int} {ps : List HeldP} {F : Reg} {H : Hp}
theorem wp_x (h : WP S PT qn t o s turn ps F H) : ∃ xs, WXP S PT qn t o s xs turn ps F H := by
  obtain ⟨F1, F2, a, b, d, f⟩ := h
  obtain ⟨xs, a⟩ := wt_x a
  exact ⟨xs, F1, F2, a, b, d, f⟩
theorem x_wp (h : WXP S PT qn t o s xs turn ps F H) : WP S PT qn t o s turn ps F H := two_imp (fun F t => x_wt t) h
theorem wXP_got (h : WXP S PT qn t o s xs turn ps F H) : H o.po = some (.dK (ownK s.wd o.pt o.pl s.made o.ph turn)) ∧ Dc K H o.pt s.rows ∧ (H o.pl = some (.lst xs) ∧ Paired (OrdIs H) xs s.os) ∧ (∃ F2, HeldE o.ph ps F2 H) ∧
    ∃ dx fs, H t = some (.ins S.C dx fs) ∧ ∀ m ∈ tabNames, fs.lookup m = none := by
  obtain ⟨_, _, a, _⟩ := h
  exact wX_got a
theorem wP_got (h : WP S PT qn t o s turn ps F H) : H o.po = some (.dK (ownK s.wd o.pt o.pl s.made o.ph turn)) ∧ Dc K H o.pt s.rows ∧ (∃ F2, OrdR o.pl s.os F2 H) ∧ (∃ F2, HeldE o.ph ps F2 H) ∧
    ∃ dx fs, H t = some (.ins S.C dx fs) ∧ ∀ m ∈ tabNames, fs.lookup m = none := by
  obtain ⟨_, _, a, _⟩ := h
  exact wT_got a
end
section
variable {A P D O E Y G : RP} {F : Reg} {H : Hp}
/-- held aside, another region beside -/
theorem fEB (h : Two (Two A (Two P (Two D (Two O E)))) Y F H) : Two (Two (Two A (Two P (Two D O))) Y) E F H := two_assoc' (fP' (two_imp (fun F t => fE t) h))
theorem fEB' (h : Two (Two (Two A (Two P (Two D O))) Y) E F H) : Two (Two A (Two P (Two D (Two O E)))) Y F H := two_imp (fun F t => fE' t) (fP (two_assoc h))
/-- the table and the table of code objects aside -/
theorem fTB (h : Two (Two A O) Y F H) : Two (Two A Y) O F H := two_assoc' (fP' h)
theorem fTB' (h : Two (Two A Y) O F H) : Two (Two A O) Y F H := two_assoc' (fP' h)
end
/-- the numbers that fit, by going through all -/
theorem due_filter {s : Rows} {ts : List Tri} (up : (s.map (·.1)).Pairwise (· < ·)) (l : s.length ≤ 200) : (s.map (·.1)).filter (fitN s ts) = dueA s ts :=
  gway_due up (gway_all (up.imp fun h e => by omega) l) (List.Perm.refl _) (List.Pairwise.sublist List.filter_sublist (up.imp fun h => by omega))
/-- the lists of the rows, as they stand -/
theorem rw_vals {K : PySem.W.Frag} {F : Reg} {H : Hp} : ∀ {kvs : List (Key × V)} {s : Rows}, Paired (RowIs F H) kvs s → Rw K H (kvs.map (·.2)) (s.map (·.2))
  | _, _, .nil => Rw.nil
  | e :: kvs, p :: s, .cons a b => by
    have ih := rw_vals (K := K) b
    obtain ⟨e1, q, e2, e3, _⟩ := a
    refine ⟨by rw [List.length_map, List.length_map, List.length_cons, List.length_cons, paired_len b], fun i rs hi => ?_⟩
    cases i with
    | zero =>
      have hr : p.2 = rs := Option.some.inj hi
      rw [← hr]
      exact ⟨q, by show some e.2 = _; rw [e2], sq_of e3⟩
    | succ i => exact ih.2 i rs hi
theorem wide_rows {s : TabS} (ok : s.Ok) : ∀ r ∈ s.rows.map (·.2), r.length = s.wd := fun r hr => by
  obtain ⟨p, hp, rfl⟩ := List.mem_map.mp hr
  obtain ⟨i, hi⟩ := List.mem_iff_getElem?.mp hp
  exact ok.wide p.1 p.2 (rowOf_at (ok.nd.imp fun h e => by omega) hi).1
/-- the end of a law with a table of code objects -/
theorem law_atS {l : PySem.W.OpenLaw} {w : World} {K : PySem.W.Frag} {CX : CXT} {k n : Nat} {x : Str} {mg : Str → Option Value} {fa : Addr} {h : Heap} {cc PT : Addr} {sp : Sp} (KX : K.In h) (hT : ∀ P ∈ [PT], h.get? P = some (PySem.W.tabObj #[])) (nT : K.lookup PT = none) (hC : PySem.W.codeHdIn K cc PT = true)
    (hsp : ∀ (H : Hp) (a : Addr) (ns : List Int), ns.length ≤ n → (∀ z ∈ ns, Builtin.Int.intBits z ≤ 1048576) → H PT = some (.tbl #[]) → SqL K H a (ns.map V.int) → sp [.ref a] H (fun v _ => v = .bl true) fun _ _ _ => False)
    (hF : ∃ fd : FuncData, (∀ (s : Shared) (v : Value), BindsTo s fd ⟨[v], []⟩ [(x, v)]) ∧ ∀ base : Heap, K.In base → base.Ns mainGlobals mg → LamX.TabB base mg cc PT → FnOk l.prog w K mg base CX k fa fd [x] sp) : LamX.LawAtS l w K CX k n x mg fa h := by
  obtain ⟨fd, hb, hF⟩ := hF
  have one : ∀ p ∈ [(cc, PT)], p = (cc, PT) := fun p hp => List.mem_singleton.mp hp
  refine ⟨fd, [(cc, PT)], sp, fun p hp => ?_, fun p hp => ?_, fun p hp => ?_, hb, fun H a ns hl hbit hH hS => hsp H a ns hl hbit (hH (cc, PT) (List.mem_singleton.mpr rfl)) hS, fun base hK hN hB => hF base hK hN (hB (cc, PT) (List.mem_singleton.mpr rfl))⟩
  · rw [one p hp]
    exact hT PT (List.mem_singleton.mpr rfl)
  · rw [one p hp]
    exact nT
  · rw [one p hp]
    exact PySem.W.codeHd_of_K KX hC
/-- a table of code objects, nothing in it yet -/
theorem start_tbl {PT : Addr} {qn : Str} {H : Hp} (h : H PT = some (.tbl #[])) : Wld (TblR PT qn) (fun a => a = PT) (fun _ => False) (Out (fun a => a = PT) H) H :=
  ⟨fun a => a = PT, ⟨⟨#[], h, True.intro, fun pos cv hc => by cases hc⟩, rfl, fun a z => ⟨.tbl #[], by rw [show a = PT from z]; exact h, fun ⟨_, t⟩ => by cases t⟩⟩, out_ex, fun a z => out_no z, fun a z => z.elim, fun a z => .inl z⟩
end Wy
namespace Wy
open PySem PySem.Spec PyProof.Rows L2 Evl
section
variable {T T' : RP} {F0 B0 : Reg} {L L' H H0 M : Hp} {K : PySem.W.Frag} {σ : L2.St} {te : TE} {D : Ends} {ts : TS} {P : V → Hp → Prop}
/-- a new value given back, what was made before it among it -/
theorem sv_rqB {nx bk ct : L2.St → Hp → Prop} {Q : VK} (d : ∀ a, M a ≠ none → H0 a = none) (eM : Ex M H) (e0 : Ex H0 H) (k : RetN P H0 Q) (h : EvN te σ H fun v N => ∀ N', Ex N N' → Ex M N' → P v N') : Sv (tRet te) { nx := nx, rt := Q, bk := bk, ct := ct } σ H := fun H1 e => h H1 e _ fun v N H2 d2 p a b => by
  have sep : ∀ x, N x ≠ none → M x = none := fun x z => by
    cases k : M x with
    | none => rfl
    | some o =>
      have g := (eM.trans e) x o k
      rw [d2 x z] at g
      cases g
  exact k v (Unn N M) H2 (fun x z => (unn_none z).elim (d x) fun z => fresh_back (e0.trans e) (d2 x z)) (p _ (unn_l sep) unn_r) (unn_ex ((eM.trans e).trans b) a) ((e0.trans e).trans b)
/-- a way: none, or an order's tuple that the region holds -/
theorem vw_way {y : V} {os : List (List Int)} (R : Regn T) (h : y = .non ∨ ∃ (q : Addr) (c : List Int), y = .ref q ∧ c ∈ os ∧ ∀ H, Wld T F0 B0 L H → H q = some (.tup (c.map V.int))) (k : ∀ L', Ex L L' → (y = .non ∨ ∃ (q : Addr) (c : List Int), y = .ref q ∧ L' q = some (.tup (c.map V.int)) ∧ c ∈ os) → SvW ts D σ T F0 B0 L') : SvW ts D σ T F0 B0 L := by
  rcases h with h | ⟨q, c, e, hc, hq⟩
  · exact k L (Ex.refl _) (.inl h)
  · exact vw_tup R hq fun L' e' h' => k L' e' (.inr ⟨q, c, e, h', hc⟩)
end
end Wy

set_option Elab.async false
set_option linter.all false
set_option maxRecDepth 100000
set_option maxHeartbeats 4000000
/-! Wg: more rules for laws that count: tuples walked, pure statements in a region, pairs. -/
namespace Wy
open PySem PySem.Spec PyProof.Rows L2 Evl
section
variable {T T' A B : RP} {F0 B0 : Reg} {L L' H H' H0 M : Hp} {K : PySem.W.Frag} {σ : L2.St} {te tl ta tb : TE} {t : TT} {D : Ends} {ts tz : TS} {P : V → Hp → Prop} {PM : V → Hp → Hp → Prop}
/-- pure statements, read where the region stands -/
theorem vw_sv (h : ∀ H, Wld T F0 B0 L H → Sv ts D σ H) : SvW ts D σ T F0 B0 L := fun H w => (h H w).at
/-- back to the region, with what was made -/
theorem sv_back (R : Regn T) (w : Wld T F0 B0 L H) (d : ∀ a, M a ≠ none → H a = none) (eM : Ex M H') (e : Ex H H') (k : SvW ts D σ T F0 B0 (Unn M L)) : Sv ts D σ H' := fun H1 e1 => k H1 (w.new R (e.trans e1) d (eM.trans e1))
theorem vw_asgM' {i : Nat} (h : EvWM te σ T T' F0 B0 L PM) (k : ∀ v N M L', (∀ a, N a ≠ none → L a = none ∧ ¬ B0 a) → (∀ a o, M a = some o → Tupo o) → Ex L L' → Ex N L' → Ex M L' → PM v N M → SvW tNext D (σ.set i (some v)) T' F0 B0 L') : SvW (tAsg te (gName i)) D σ T F0 B0 L := fun H w =>
  h H w _ fun v N M H' L' d tM e1 e2 e3 p w' => k v N M L' d tM e1 e2 e3 p H' w'
theorem spwm_imp {sp : Sp} {vs : List V} (i : ∀ F H, T F H → A F H) (j : ∀ F H, B F H → T' F H) (h : SpWMP sp vs A B F0 B0 L PM) : SpWMP sp vs T T' F0 B0 L PM := fun H w Q q E =>
  h H (w.imp fun F t => i F H t) Q (fun v N M H' L' d tM e1 e2 e3 p w' => q v N M H' L' d tM e1 e2 e3 p (w'.imp fun F t => j F H' t)) E
theorem EvN.u {xs : List V} (h : EvN te σ H fun v N => ∃ p, v = .ref p ∧ N p = some (.tup xs)) : EvU te σ H xs := fun H1 e Q q => h H1 e Q fun v N H2 d ⟨p, ev, hp⟩ a b => by
  subst ev
  exact q p H2 (d p (by rw [hp]; exact fun z => by cases z)) b (a _ _ hp)
/-- [e for x in t], t a tuple that stands, e with new objects -/
theorem en_lcT {a : Addr} {xs : List V} {j : Nat} {vs : List Nat} (h : Ev tl σ H (.ref a)) (hx : SqT K H a xs) (hz : xs.length ≤ 40000) (hw : ∀ x, wipe ((wipe σ vs).set j (some x)) vs = wipe σ vs) (I : Nat → List V → Hp → Prop) (h0 : I 0 [] nonew)
    (he : ∀ (i : Nat) x acc N, xs[i]? = some x → I i acc N → EvN te ((wipe σ vs).set j (some x)) H fun v N' => ∀ N'', Ex N N'' → Ex N' N'' → I (i + 1) (acc ++ [v]) N'') :
    EvN (tLc (iTup K tl) (gName j) tYes te vs) σ H fun v N => ∃ Dl acc, v = .ref Dl ∧ N Dl = some (.lst acc) ∧ ∃ N0, Ex N0 N ∧ I xs.length acc N0 := fun H0 e Q q => h H0 e _ fun H1 e1 => ⟨a, rfl, ⟨xs, ex_t (e.trans e1) hx⟩, fun Dl hD => by
  refine lc_tup (K := K) (a := a) (xs := xs) (fun i H' => ∃ acc N, Ex H1 H' ∧ H' Dl = some (.lst acc) ∧ (∀ a, N a ≠ none → H1 a = none ∧ a ≠ Dl) ∧ Ex N H' ∧ I i acc N ∧ acc.length ≤ i) ⟨[], nonew, Ex.new hD, upd_same, fun a z => (z rfl).elim, nonew_ex, h0, Nat.le_refl _⟩ (fun i H' _ ⟨_, _, p1, _⟩ => ex_t ((e.trans e1).trans p1) hx) ?_ ?_
  · rintro i x H' hi ⟨acc, N, p1, p2, p3, p4, p5, p6⟩
    refine ⟨hw x, ?_⟩
    have hl := (List.getElem?_eq_some_iff.mp hi).1
    refine he i x acc N hi p5 H' ((e.trans e1).trans p1) _ fun v N' H4 d p a b => ⟨acc, b _ _ p2, sz_lt (by omega), acc ++ [v], Unn N' N, Ex.mut (p1.trans b) hD, upd_same, fun x z => ?_, ?_, p (Unn N' N) unn_r (unn_l fun x z => ?_), by rw [List.length_append]; simp only [List.length_singleton]; omega⟩
    · rcases unn_none z with z | z
      · exact p3 x z
      · refine ⟨fresh_back p1 (d x z), fun q => ?_⟩
        have w := d x z
        rw [q, p2] at w
        cases w
    · refine unn_ex (fun x o z => ?_) (fun x o z => ?_)
      · rw [upd_ne (p3 x (by rw [z]; exact fun w => by cases w)).2]
        exact b _ _ (p4 _ _ z)
      · have w := d x (by rw [z]; exact fun w => by cases w)
        rw [upd_ne (fun q => by rw [q, p2] at w; cases w)]
        exact a _ _ z
    · have w := d x z
      cases k : N x with
      | none => rfl
      | some o => rw [p4 _ _ k] at w; cases w
  · rintro H' ⟨acc, N, p1, p2, p3, p4, p5, p6⟩
    refine q (.ref Dl) (Unn (one Dl (.lst acc)) N) H' (fun a z => ?_) ⟨Dl, acc, rfl, ?_, N, unn_r, p5⟩ (unn_ex p4 (one_ex p2)) (e1.trans p1)
    · rcases unn_none z with z | z
      · exact fresh_back e1 (p3 a z).1
      · rw [one_ne z]
        exact fresh_back e1 hD
    · refine unn_l (fun a z => ?_) _ _ one_at
      have w := one_ne z
      subst w
      cases k : N a with
      | none => rfl
      | some o => exact ((p3 a (by rw [k]; exact fun w => by cases w)).2 rfl).elim⟩
end
theorem paired_of {α β : Type} {R : α → β → Prop} : ∀ {l : List α} {m : List β}, l.length = m.length → (∀ (i : Nat) x y, l[i]? = some x → m[i]? = some y → R x y) → Paired R l m
  | [], [], _, _ => .nil
  | [], _ :: _, h, _ => nomatch h
  | _ :: _, [], h, _ => nomatch h
  | x :: l, y :: m, h, k => .cons (k 0 x y rfl rfl) (paired_of (Nat.succ.inj h) fun i x y hx hy => k (i + 1) x y hx hy)
theorem count_given {α : Type} (l : List α) (d : α) (p : α → Bool) (v : Nat → V) : (given l.length (fun i => p (l.getD i d)) v).length = (l.filter p).length := by
  unfold given
  have e := range_get d l id
  rw [List.map_id] at e
  have e2 : l.filter p = ((List.range l.length).map fun i => id (l.getD i d)).filter p := congrArg (List.filter p) e.symm
  rw [List.length_map, e2, List.filter_map, List.length_map]
  rfl
/-- the pairs by which a law looks at a stretch -/
def pairsM (cs : List Int) (ts : List Tri) : List Tri := cs.map fun c => ⟨c, endLo c ts, endHi c ts⟩
theorem pairs_snoc {cs : List Int} {ts : List Tri} {i : Nat} {c : Int} (h : cs[i]? = some c) : pairsM (cs.take (i + 1)) ts = pairsM (cs.take i) ts ++ [⟨c, endLo c ts, endHi c ts⟩] := by
  unfold pairsM
  rw [take_snoc h, List.map_append]
  rfl
/-- what an order costs, by lists of rows -/
def costL (c : List Int) (rss : List (List Int)) (ts : List Tri) : Nat := if (ts.all fun t => decide (t.c ∈ c)) = true then (rss.filter fun r => inS c r ts).length else 2 * (rss.filter fun r => inS c r ts).length
theorem costL_rows (c : List Int) (s : Rows) (ts : List Tri) : costL c (s.map (·.2)) ts = costM c s ts := by
  unfold costL costM
  rw [List.filter_map, List.length_map]
  rfl
/-! ### ways and costs told -/
def waysM (s : TabS) (ts : List Tri) : List (Option (List Int) × Int) := (none, (s.rows.length : Int)) :: s.os.map fun c => (some c, ((costM c s.rows ts : Nat) : Int))
def WayIs (M : Hp) (x : V) : Option (List Int) → Prop
  | none => x = .non
  | some c => ∃ ct : Addr, x = .ref ct ∧ M ct = some (.tup (c.map V.int))
/-- the first of the least -/
def FirstLeast (ks : List Int) (i : Nat) : Prop := ∀ j, j < ks.length → ks.getD i 0 ≤ ks.getD j 0 ∧ (j < i → ks.getD i 0 < ks.getD j 0)
theorem firstLeast_one {ks : List Int} {i j : Nat} (hi : i < ks.length) (hj : j < ks.length) (h : FirstLeast ks i) (g : FirstLeast ks j) : i = j := by
  have a := h j hj
  have b := g i hi
  rcases Nat.lt_trichotomy i j with c | c | c
  · have := b.2 c
    omega
  · exact c
  · have := a.2 c
    omega
def CostIs (M : Hp) (q : Addr) (wn : Option (List Int) × Int) : Prop := ∃ x, M q = some (.tup [x, .int wn.2]) ∧ WayIs M x wn.1
theorem WayIs.keep {M M' : Hp} {x : V} {w : Option (List Int)} (h : WayIs M x w) (k : ∀ a o, M a = some o → Tupo o → M' a = some o) : WayIs M' x w := by
  cases w with
  | none => exact h
  | some c =>
    obtain ⟨ct, e, hc⟩ := h
    exact ⟨ct, e, k _ _ hc ⟨_, rfl⟩⟩
theorem CostIs.keep {M M' : Hp} {q : Addr} {wn : Option (List Int) × Int} (h : CostIs M q wn) (k : ∀ a o, M a = some o → Tupo o → M' a = some o) : CostIs M' q wn := let ⟨x, a, b⟩ := h; ⟨x, k _ _ a ⟨_, rfl⟩, b.keep k⟩
theorem costs_fl {M : Hp} {qs : List Addr} {ws : List (Option (List Int) × Int)} (h : Paired (CostIs M) qs ws) : Fl M (qs.map V.ref) := fun x hx => by
  obtain ⟨q, hq, rfl⟩ := List.mem_map.mp hx
  obtain ⟨i, hi⟩ := List.mem_iff_getElem?.mp hq
  obtain ⟨wn, _, y, hy, hw⟩ := paired_getL h hi
  refine .inl (.inr ⟨q, y, wn.2, rfl, hy, ?_⟩)
  cases e : wn.1 with
  | none =>
    rw [e] at hw
    exact .inl hw
  | some c =>
    rw [e] at hw
    obtain ⟨ct, e1, e2⟩ := hw
    exact .inr ⟨ct, c, e1, e2⟩
end Wy
namespace Wy
open PySem PySem.Spec PyProof.Rows L2 Evl
section
variable {T : RP} {F0 B0 : Reg} {L H : Hp} {K : PySem.W.Frag} {σ : L2.St} {td : TE} {D : Ends} {tu tz : TS}
/-- for k in d.keys(), d a dict of the region; the body writes nothing and gives nothing back -/
theorem vw_forKeys {d : Addr} {j : Nat} (R : Regn T) (h : ∀ H, Wld T F0 B0 L H → ∃ kvs : List (Key × V), H d = some (.dK kvs) ∧ ∀ od : Obj, Ev td σ (upd H d (.frz od (.dK kvs))) (.ref d) ∧ ∃ I : Nat → L2.St → Prop, I 0 σ ∧
      (∀ i k v σ', kvs[i]? = some (k, v) → I i σ' → ∀ D' : Ends, (∀ σ2 H2, Ex (upd H d (.frz od (.dK kvs))) H2 → I (i + 1) σ2 → D'.nx σ2 H2) → Sv tu D' (σ'.set j (some (kV k))) (upd H d (.frz od (.dK kvs)))) ∧ ∀ σ', I kvs.length σ' → SvW tz D σ' T F0 B0 L) :
    SvW (tSeq (tLock (tFor (iKeysM td) (gName j) tu)) tz) D σ T F0 B0 L := fun H w => by
  obtain ⟨kvs, hd, hk⟩ := h H w
  refine ⟨d, .dK kvs, hd, trivial, fun od => ?_⟩
  obtain ⟨ev, I, i0, hs, hdn⟩ := hk od
  refine ev _ (Ex.refl _) _ fun H2 e2 => ⟨d, od, kvs, rfl, e2 _ _ upd_same, fun i m σ' H' => m = kvs.length - i ∧ i ≤ kvs.length ∧ I i σ' ∧ Ex (upd H d (.frz od (.dK kvs))) H', ⟨kvs.length, rfl, Nat.zero_le _, i0, e2⟩, ?_⟩
  rintro i m σ' H3 ⟨rfl, hi, p, e3⟩
  by_cases c : i < kvs.length
  · refine .inr ⟨⟨e3 _ _ upd_same, c⟩, fun σ2 H4 => I (i + 1) σ2 ∧ Ex (upd H d (.frz od (.dK kvs))) H4, fun σ2 H4 ⟨a, b⟩ => ⟨kvs.length - (i + 1), by omega, rfl, c, a, b⟩, ?_⟩
    rintro x H' ⟨rfl, k, v, hkv, rfl⟩
    exact hs i k v σ' hkv p ⟨fun σ2 H4 => I (i + 1) σ2 ∧ Ex (upd H d (.frz od (.dK kvs))) H4, _, _, fun σ2 H4 => I (i + 1) σ2 ∧ Ex (upd H d (.frz od (.dK kvs))) H4⟩ (fun σ2 H2 e a => ⟨a, e⟩) H' e3
  · have ei : i = kvs.length := by omega
    subst ei
    refine .inl ⟨⟨e3 _ _ upd_same, Nat.le_refl _⟩, e3 _ _ upd_same, hdn σ' p _ (w.ext R fun a o ha => ?_)⟩
    by_cases z : a = d
    · subst z
      rw [upd_same]
      rw [hd] at ha
      exact ha
    · rw [upd_ne z]
      exact e3 a o (by rw [upd_ne z]; exact ha)
/-- the last statement -/
theorem sv_when' {t : TT} {p : Prop} [Decidable p] (h : EvT t σ H (decide p)) (h1 : p → Sv tu D σ H) (h2 : ¬ p → Sv tNext D σ H) : Sv (tIfS t tu tNext) D σ H := sv_if' h h1 h2
end
theorem asc_nil {s : Rows} {ns : List Int} (h : ns.Pairwise (· < ·)) (hm : ∀ n ∈ ns, ∃ r, rowOf s n = some r) : Asc [] s ns := ⟨hm, fun i a b ha hb => by
  have hi := (List.getElem?_eq_some_iff.mp hb).1
  have g := List.pairwise_iff_getElem.mp h i (i + 1) (by omega) hi (Nat.lt_succ_self _)
  have ha' := ha
  have hb' := hb
  rw [List.getElem?_eq_getElem (by omega)] at ha'
  rw [List.getElem?_eq_getElem hi] at hb'
  rw [Option.some.inj ha', Option.some.inj hb'] at g
  show ahead (ent [] s a) (ent [] s b) = true
  have e : ∀ n, (∃ r, rowOf s n = some r) → ent [] s n = [n] := fun n ⟨r, hr⟩ => by
    unfold ent
    rw [hr]
    rfl
  rw [e a (hm a (List.mem_of_getElem? ha)), e b (hm b (List.mem_of_getElem? hb))]
  show (if a = b then _ else decide (a < b)) = true
  rw [if_neg (by omega)]
  exact decide_eq_true g⟩
theorem costM_none (s : TabS) (ts : List Tri) : (s.rows.filter fun x => inS [] x.2 ts).length = s.rows.length := by
  rw [List.filter_eq_self.mpr (show ∀ x ∈ s.rows, inS [] x.2 ts = true from fun x _ => rfl)]
end Wy
namespace Wy
open PySem PySem.Spec PyProof.Rows L2 Evl
/-- len of what the region gives -/
theorem ew_lenG {T T' : RP} {F0 B0 : Reg} {L : Hp} {K : PySem.W.Frag} {σ : L2.St} {te : TE} {n : Nat} {G : List Int → Prop} (R : Regn T') (h : EvW te σ T T' F0 B0 L fun v N => ∃ (p : Addr) (ns : List Int), v = .ref p ∧ N p = some (.lst (ns.map V.int)) ∧ G ns) (g : ∀ ns, G ns → ns.length = n) : EvW (tCB (rLenS K) (tCons te tNil)) σ T T' F0 B0 L fun v _ => v = .int n := fun H w Q q =>
  h H w _ fun v N H2 d ⟨p, ns, ev, hp, hg⟩ w2 => by
    subst ev
    have hp2 := w2.lx _ _ (unn_l (fun a z => (d a z).1) _ _ hp)
    have k := ev_lenL (K := K) (ta := tC (.ref p)) (σ := σ) ev_c (sq_of hp2) H2 (Ex.refl _) Q
    rw [List.length_map, g ns hg] at k
    exact k fun H3 e3 => q _ N H3 d rfl (w2.ext R e3)
end Wy
namespace Wy
open PySem PySem.Spec PyProof.Rows L2 Evl
section
variable {T T' : RP} {F0 B0 : Reg} {L H : Hp} {K : PySem.W.Frag} {σ : L2.St} {D : Ends} {ts : TS}
/-- a way that the region holds, told of -/
theorem vw_wayIs {y : V} {wy : Option (List Int)} (R : Regn T) (h : ∀ H, Wld T F0 B0 L H → WayIs H y wy) (k : ∀ L', Ex L L' → WayIs L' y wy → SvW ts D σ T F0 B0 L') : SvW ts D σ T F0 B0 L := fun H w => by
  cases wy with
  | none => exact k L (Ex.refl _) (h H w) H w
  | some c =>
    obtain ⟨ct, e, hc⟩ := h H w
    obtain ⟨w7, eM⟩ := w.tup (M := one ct (.tup (c.map V.int))) R (one_ex hc) fun b o hb => by
      have e := one_ne (p := ct) (a := b) (o := .tup (c.map V.int)) (by rw [hb]; exact fun z => by cases z)
      subst e
      rw [one_at] at hb
      exact ⟨_, (Option.some.inj hb).symm⟩
    exact k _ unn_r ⟨ct, e, eM _ _ one_at⟩ H w7
def wayD : Option (List Int) → PyData
  | none => .none
  | some c => .tuple (c.map PyData.int)
def pairD (wn : Option (List Int) × Int) : PyData := .tuple [wayD wn.1, .int wn.2]
theorem dp_way {x : V} {w : Option (List Int)} (h : WayIs H x w) : Dp K H x (wayD w) := by
  cases w with
  | none =>
    have e : x = .non := h
    rw [e]
    exact .non
  | some c =>
    obtain ⟨ct, rfl, hc⟩ := h
    exact dp_intsT (st_of hc)
theorem dp_pair {q : Addr} {wn : Option (List Int) × Int} (h : CostIs H q wn) : Dp K H (.ref q) (pairD wn) := let ⟨x, h1, h2⟩ := h; .tup (st_of h1) (.cons (dp_way h2) (.cons (.int _) .nil))
theorem dp_pairs : ∀ {qs : List Addr} {wns : List (Option (List Int) × Int)}, Paired (CostIs H) qs wns → DpAll K H (qs.map V.ref) (wns.map pairD)
  | _, _, .nil => .nil
  | _, _, .cons a b => .cons (dp_pair a) (dp_pairs b)
theorem shp_way (w : Option (List Int)) : Shp 1 (wayD w) := by
  cases w with
  | none => exact shp_none
  | some c => exact shp_tupI c
theorem shp_pair (wn : Option (List Int) × Int) : Shp 2 (pairD wn) := shp_tuple fun d hd => by
  rcases List.mem_cons.mp hd with h | hd
  · rw [h]
    exact shp_way _
  · rw [List.mem_singleton.mp hd]
    exact shp_int _
theorem shp_pairs (wns : List (Option (List Int) × Int)) : Shp 3 (.list (wns.map pairD)) := shp_list fun d hd => by
  obtain ⟨wn, _, rfl⟩ := List.mem_map.mp hd
  exact shp_pair wn
/-- a pair not in the pairs: it is -/
theorem rv_ninPairs {q pl : Addr} {qs : List Addr} {wns : List (Option (List Int) × Int)} {wn : Option (List Int) × Int} {i : Nat} (h : CostIs H q wn) (hl : H pl = some (.lst (qs.map V.ref))) (hq : Paired (CostIs H) qs wns) (hi : wns[i]? = some wn) : RV (rNotInD K) (.ref q) (.ref pl) H (.bl false) := fun H1 e Q q1 => by
  refine ⟨_, _, dp_mono e _ (dp_pair h), dp_mono e _ (.lst (sq_of hl) (dp_pairs hq)), (shp_pair wn).ok (by decide), (shp_pairs wns).ok (by decide), ?_⟩
  have g : ((wns.map pairD).any fun z => PyData.eqv z (pairD wn)) = true := List.any_eq_true.mpr ⟨pairD wn, List.mem_map.mpr ⟨wn, List.mem_of_getElem? hi, rfl⟩, SeqAt.eqv_refl _ (shp_pair wn).1⟩
  show Q (.bl (!((wns.map pairD).any fun z => PyData.eqv z (pairD wn)))) H1
  rw [g]
  exact q1 H1 (Ex.refl _)
end
end Wy

set_option Elab.async false
set_option linter.all false
set_option maxRecDepth 100000
set_option maxHeartbeats 4000000
/-! Wj: two tables side by side. -/
namespace Wy
open PySem PySem.Spec PyProof.Rows L2 Evl
section
variable {T T' T'' U : RP} {F0 B0 : Reg} {L L' H H' N : Hp} {K : PySem.W.Frag} {σ : L2.St} {ta tb tl te : TE} {t u : TT} {x y z : V} {r : R2} {D : Ends} {tu tw tz ts : TS} {P1 P2 : V → Hp → Prop} {M1 M2 : V → Hp → Hp → Prop}
/-- two sides, both over the region -/
theorem ew_op2W (R : Regn T'') (ha : EvW ta σ T T' F0 B0 L P1) (hb : ∀ N, (∀ a, N a ≠ none → L a = none ∧ ¬ B0 a) → EvW tb σ T' T'' F0 B0 (Unn N L) P2) (hr : ∀ x N y N' H', P1 x N → P2 y N' → Ex N H' → Ex N' H' → Wld T'' F0 B0 (Unn N' (Unn N L)) H' → RV r x y H' z) : EvW (tOp r ta tb) σ T T'' F0 B0 L fun v _ => v = z := fun H w Q q =>
  ha H w _ fun x N H2 d p w2 => hb N d H2 w2 _ fun y N' H3 d' p' w3 => hr x N y N' H3 p p' (((unn_l fun a z => (d a z).1).trans unn_r).trans w3.lx) ((unn_l fun a z => (d' a z).1).trans w3.lx) w3 H3 (Ex.refl _) Q fun H4 e4 => q z nonew H4 (fun a g => (g rfl).elim) rfl ((w3.ext R e4).weak (unn_no.trans (unn_r.trans unn_r)))
/-- the same, tuples told -/
theorem ew_op2M (R : Regn T'') (ha : EvWM ta σ T T' F0 B0 L M1) (hb : ∀ L', Ex L L' → EvWM tb σ T' T'' F0 B0 L' M2) (hr : ∀ x N M y N' M' H', M1 x N M → M2 y N' M' → Ex N H' → Ex M H' → Ex N' H' → Ex M' H' → RV r x y H' z) : EvW (tOp r ta tb) σ T T'' F0 B0 L fun v _ => v = z := fun H w Q q =>
  ha H w _ fun x N M H2 L2a d tM e1 e2 e3 p w2 => hb L2a e1 H2 w2 _ fun y N' M' H3 L3 d' tM' e1' e2' e3' p' w3 => hr x N M y N' M' H3 p p' ((e2.trans e1').trans w3.lx) ((e3.trans e1').trans w3.lx) (e2'.trans w3.lx) (e3'.trans w3.lx) H3 (Ex.refl _) Q fun H4 e4 => q z nonew H4 (fun a g => (g rfl).elim) rfl ((w3.ext R e4).weak (unn_no.trans (e1.trans e1')))
/-- two new lists -/
theorem ev_opLL {xs ys : List V} (ha : EvL ta σ H xs) (hb : EvL tb σ H ys) (hr : ∀ p q H2, Ex H H2 → H2 p = some (.lst xs) → H2 q = some (.lst ys) → RV r (.ref p) (.ref q) H2 z) : Ev (tOp r ta tb) σ H z := fun H1 e Q q =>
  ha H1 e _ fun p H2 n e2 hp => hb H2 (e.trans e2) _ fun p' H3 n' e3 hp' => hr p p' H3 ((e.trans e2).trans e3) (e3 _ _ hp) hp' H3 (Ex.refl _) Q fun H4 e4 => q H4 ((e2.trans e3).trans e4)
/-- two new values -/
theorem ev_opNN (ha : EvN ta σ H P1) (hb : EvN tb σ H P2) (hr : ∀ x y N N' H2, Ex H H2 → P1 x N → P2 y N' → Ex N H2 → Ex N' H2 → RV r x y H2 z) : Ev (tOp r ta tb) σ H z := fun H1 e Q q =>
  ha H1 e _ fun x N H2 d p a b => hb H2 (e.trans b) _ fun y N' H3 d' p' a' b' => hr x y N N' H3 ((e.trans b).trans b') p p' (a.trans b') a' H3 (Ex.refl _) Q fun H4 e4 => q H4 ((b.trans b').trans e4)
/-- for x in a new list, read where the region stands -/
theorem vw_forLNR {xs : List V} {j : Nat} (R : Regn T) (h : ∀ H, Wld T F0 B0 L H → EvL tl σ H xs) (I : Addr → Nat → L2.St → RP → Hp → Prop) (h0 : ∀ a L', L a = none → Ex L L' → L' a = some (.lst xs) → I a 0 σ T L') (hl : ∀ a i σ' T' L', I a i σ' T' L' → SqL K L' a xs)
    (hs : ∀ a i x σ' T' L', xs[i]? = some x → I a i σ' T' L' → SvW tu { D with nx := KnW F0 B0 (I a (i + 1)), ct := KnW F0 B0 (I a (i + 1)), bk := tz D } (σ'.set j (some x)) T' F0 B0 L') (hd : ∀ a σ' T' L', I a xs.length σ' T' L' → SvW tz D σ' T' F0 B0 L') : SvW (tSeq (tFor (iList K tl) (gName j) tu) tz) D σ T F0 B0 L :=
  fun H w => h H w H (Ex.refl _) _ fun a H2 na e2 ha => by
    have w2 : Wld T F0 B0 (Unn (one a (.lst xs)) L) H2 := w.new R e2 (fun b z => by rw [one_ne z]; exact na) (one_ex ha)
    have haL : (Unn (one a (.lst xs)) L) a = some (.lst xs) := unn_l (fun b z => by rw [one_ne z]; exact fresh_back w.lx na) _ _ one_at
    exact ⟨a, rfl, ⟨xs, sq_of ha⟩, for_list (D := { D with nx := tz D }) (xs := xs) (fun i => KnW F0 B0 (I a i)) ⟨T, _, h0 a _ (fresh_back w.lx na) unn_r haL, w2⟩ (fun i σ' H3 _ ⟨T', L', p, w'⟩ => ex_l w'.lx (hl a i σ' T' L' p))
      (fun i x σ' H3 hi ⟨T', L', p, w'⟩ => hs a i x σ' T' L' hi p H3 w') (fun σ' H3 ⟨T', L', p, w'⟩ => hd a σ' T' L' p H3 w')⟩
/-- a value of the region's kind: a call of the region's, then the second read in it, both parts of an and -/
theorem vw_asgWv {i : Nat} {v : V} (R : Regn T') (h : EvW te σ T T' F0 B0 L fun v' _ => v' = v) (k : ∀ N, SvW tz D (σ.set i (some v)) T' F0 B0 (Unn N L)) : SvW (tSeq (tAsg te (gName i)) tz) D σ T F0 B0 L := vw_asgW h fun v' N d e => by
  subst e
  exact k N
end
section
variable {A B C D : RP} {F : Reg} {H : Hp}
theorem gB (h : Two (Two A B) C F H) : Two B (Two A C) F H := two_assoc (two_imp (fun F t => two_swap t) h)
theorem gB' (h : Two B (Two A C) F H) : Two (Two A B) C F H := two_imp (fun F t => two_swap t) (two_assoc' h)
theorem gBD (h : Two (Two A B) D F H) : Two (Two B D) A F H := fTB (two_imp (fun F t => two_swap t) h)
theorem gBD' (h : Two (Two B D) A F H) : Two (Two A B) D F H := two_imp (fun F t => two_swap t) (fTB' h)
end
/-! ### numbers by an order: there is one such list -/
theorem ahead_asym {a b : List Int} (h1 : ahead a b = true) (h2 : ahead b a = true) : False := by
  have g := ahead_tr h1 h2
  rw [ahead_irr] at g
  cases g
theorem asc_pair {c : List Int} {s : Rows} {ns : List Int} (h : Asc c s ns) : ns.Pairwise fun a b => ahead (ent c s a) (ent c s b) = true := List.pairwise_iff_getElem.mpr fun i j hi hj hij => by
  obtain ⟨k, rfl⟩ : ∃ k, j = i + k + 1 := ⟨j - i - 1, by omega⟩
  exact asc_far h k i _ _ (List.getElem?_eq_getElem hi) (List.getElem?_eq_getElem hj)
theorem asc_one {c : List Int} {s : Rows} {ns ms : List Int} (h1 : Asc c s ns) (h2 : Asc c s ms) (hm : ∀ n, n ∈ ns ↔ n ∈ ms) : ns = ms :=
  List.Perm.eq_of_pairwise (fun a b _ _ g1 g2 => (ahead_asym g1 g2).elim) (asc_pair h1) (asc_pair h2) ((List.perm_ext_iff_of_nodup (asc_nodup h1) (asc_nodup h2)).mpr hm)
theorem inord_mem {c : List Int} {s : Rows} {ns : List Int} (nd : (s.map (·.1)).Nodup) (h : InOrd ahead c s ns) (n : Int) : n ∈ ns ↔ n ∈ s.map (·.1) := by
  have sub : ∀ m ∈ ns, m ∈ s.map (·.1) := fun m hm => let ⟨_, hr⟩ := h.2.1 m hm; mem_rowOf hr
  refine ⟨sub n, fun hn => Classical.byContradiction fun z => ?_⟩
  have g := List.Nodup.length_le_of_subset (l₁ := n :: ns) (l₂ := s.map (·.1)) (List.nodup_cons.mpr ⟨z, asc_nodup h.asc⟩) fun m hm => by
    rcases List.mem_cons.mp hm with e | e
    · rw [e]
      exact hn
    · exact sub m e
  rw [List.length_cons, List.length_map, h.1] at g
  omega
theorem inord_one {c : List Int} {s : Rows} {ns ms : List Int} (nd : (s.map (·.1)).Nodup) (h1 : InOrd ahead c s ns) (h2 : InOrd ahead c s ms) : ns = ms := asc_one h1.asc h2.asc fun n => (inord_mem nd h1 n).trans (inord_mem nd h2 n).symm
/-! ### lists of tuples of ints -/
def RwT (K : PySem.W.Frag) (H : Hp) (vs : List V) (rss : List (List Int)) : Prop := vs.length = rss.length ∧ ∀ (i : Nat) (rs : List Int), rss[i]? = some rs → ∃ q : Addr, vs[i]? = some (V.ref q) ∧ SqT K H q (rs.map V.int)
theorem RwT.mono {K : PySem.W.Frag} {H H' : Hp} {vs : List V} {rss : List (List Int)} (e : Ex H H') (h : RwT K H vs rss) : RwT K H' vs rss := ⟨h.1, fun i rs hi => by
  obtain ⟨q, a, b⟩ := h.2 i rs hi
  exact ⟨q, a, ex_t e b⟩⟩
theorem rv_ixTI {K : PySem.W.Frag} {H : Hp} {p : Addr} {ns : List Int} {i : Int} (h : SqT K H p (ns.map V.int)) (h0 : 0 ≤ i) (h1 : i < ns.length) : RV (rIxT K) (.ref p) (.int i) H (.int (ns.getD i.toNat 0)) := rv_ixT h (ix_int h0 h1)
/-- a table's state by its orders -/
def st (s : TabS) (os : List (List Int)) : TabS := { s with os := os }
end Wy

set_option Elab.async false
set_option linter.all false
set_option maxRecDepth 100000
set_option maxHeartbeats 4000000
namespace K13
open PySem PySem.Spec PyProof.Rows L2 Evl Wy
local macro_rules | `(tactic| walk_at "s") => `(tactic| first
  | (with_reducible exact ev_c)
  | ((with_reducible apply ev_var); rfl)
  | (with_reducible exact rv_I0)
  | (with_reducible exact rp_eqI)
  | (with_reducible exact rp_neI)
  | ((with_reducible apply rv_mod); (first | decide | omega))
  | ((with_reducible apply rv_div); decide; decide)
  | ((with_reducible apply rv_mulL); (first | decide | omega); (first | decide | omega))
  | ((with_reducible apply rv_mulR); (first | decide | omega); (first | decide | omega))
  | ((with_reducible apply rv_powS); exact ⟨by decide, by decide, by decide⟩)
  | (with_reducible apply ev_op)
  | (with_reducible apply ev_cl)
  | (with_reducible apply ea_cons)
  | (with_reducible exact ea_nil)
  | (with_reducible apply tp_cmp)
  | (with_reducible apply tp_val)
  | (with_reducible apply tp_and)
  | (with_reducible apply tp_or)
  | (with_reducible apply tp_not)
  | ((with_reducible apply ev_lenI); (walk_at "s"); (walk_at "s"))
  | (with_reducible apply ev_len)
  | (with_reducible apply ev_min2)
  | (with_reducible assumption)
  | (intro hq; (with_reducible show EvT _ _ _ _)))

def topS (i : Nat) : Stmt := PySem.Challenge.pw_waybook_k13_whole_two_tables.main.body.getD i (.Pass ⟨0, 0, 0, 0⟩)
abbrev s_whole : Stmt := topS 12
theorem sc_whole : FnScope ["thing"] ["thing"] (defScope s_whole) := ⟨rfl, rfl, rfl, by decide +kernel, rfl, by decide +kernel, by decide +kernel⟩
abbrev s_is_column : Stmt := topS 13
theorem sc_is_column : FnScope ["thing", "width"] ["thing", "width"] (defScope s_is_column) := ⟨rfl, rfl, rfl, by decide +kernel, rfl, by decide +kernel, by decide +kernel⟩
abbrev s_is_end : Stmt := topS 14
theorem sc_is_end : FnScope ["thing"] ["thing"] (defScope s_is_end) := ⟨rfl, rfl, rfl, by decide +kernel, rfl, by decide +kernel, by decide +kernel⟩
abbrev s_is_triple : Stmt := topS 15
theorem sc_is_triple : FnScope ["thing", "width", "column", "low", "high"] ["thing", "width"] (defScope s_is_triple) := ⟨rfl, rfl, rfl, by decide +kernel, rfl, by decide +kernel, by decide +kernel⟩
abbrev s_is_order : Stmt := topS 16
theorem sc_is_order : FnScope ["thing", "width", "item"] ["thing", "width"] (defScope s_is_order) := ⟨rfl, rfl, rfl, by decide +kernel, rfl, by decide +kernel, by decide +kernel⟩
abbrev s_check_width : Stmt := topS 17
theorem sc_check_width : FnScope ["width"] ["width"] (defScope s_check_width) := ⟨rfl, rfl, rfl, by decide +kernel, rfl, by decide +kernel, by decide +kernel⟩
abbrev s_check_row : Stmt := topS 18
theorem sc_check_row : FnScope ["row", "width", "item"] ["row", "width"] (defScope s_check_row) := ⟨rfl, rfl, rfl, by decide +kernel, rfl, by decide +kernel, by decide +kernel⟩
abbrev s_check_column : Stmt := topS 19
theorem sc_check_column : FnScope ["column", "width"] ["column", "width"] (defScope s_check_column) := ⟨rfl, rfl, rfl, by decide +kernel, rfl, by decide +kernel, by decide +kernel⟩
abbrev s_check_value : Stmt := topS 20
theorem sc_check_value : FnScope ["value"] ["value"] (defScope s_check_value) := ⟨rfl, rfl, rfl, by decide +kernel, rfl, by decide +kernel, by decide +kernel⟩
abbrev s_check_wish : Stmt := topS 21
theorem sc_check_wish : FnScope ["wish", "width", "item"] ["wish", "width"] (defScope s_check_wish) := ⟨rfl, rfl, rfl, by decide +kernel, rfl, by decide +kernel, by decide +kernel⟩
abbrev s_check_order : Stmt := topS 22
theorem sc_check_order : FnScope ["order", "width"] ["order", "width"] (defScope s_check_order) := ⟨rfl, rfl, rfl, by decide +kernel, rfl, by decide +kernel, by decide +kernel⟩
abbrev s_less : Stmt := topS 24
theorem sc_less : FnScope ["one", "other", "left", "right"] ["one", "other"] (defScope s_less) := ⟨rfl, rfl, rfl, by decide +kernel, rfl, by decide +kernel, by decide +kernel⟩
abbrev s_below : Stmt := topS 25
theorem sc_below : FnScope ["rows", "key", "low", "high", "middle"] ["rows", "key"] (defScope s_below) := ⟨rfl, rfl, rfl, by decide +kernel, rfl, by decide +kernel, by decide +kernel⟩
abbrev s_fits : Stmt := topS 27
theorem sc_fits : FnScope ["row", "wish", "triple"] ["row", "wish"] (defScope s_fits) := ⟨rfl, rfl, rfl, by decide +kernel, rfl, by decide +kernel, by decide +kernel⟩
abbrev s_fits_triple : Stmt := topS 28
theorem sc_fits_triple : FnScope ["row", "triple", "column", "low", "high"] ["row", "triple"] (defScope s_fits_triple) := ⟨rfl, rfl, rfl, by decide +kernel, rfl, by decide +kernel, by decide +kernel⟩
abbrev s_merged : Stmt := topS 29
theorem sc_merged : FnScope ["wish", "columns", "triple", "column"] ["wish"] (defScope s_merged) := ⟨rfl, rfl, rfl, by decide +kernel, rfl, by decide +kernel, by decide +kernel⟩
abbrev s_merged_triple : Stmt := topS 30
theorem sc_merged_triple : FnScope ["column", "wish", "spoken", "lows", "highs", "triple"] ["column", "wish"] (defScope s_merged_triple) := ⟨rfl, rfl, rfl, by decide +kernel, rfl, by decide +kernel, by decide +kernel⟩
abbrev s_first_and_last : Stmt := topS 32
theorem sc_first_and_last : FnScope ["columns", "wish", "ends", "first", "last", "column", "low", "high", "pinned"] ["columns", "wish"] (defScope s_first_and_last) := ⟨rfl, rfl, rfl, by decide +kernel, rfl, by decide +kernel, by decide +kernel⟩
abbrev s_through : Stmt := topS 33
theorem sc_through : FnScope ["keys", "last"] ["keys", "last"] (defScope s_through) := ⟨rfl, rfl, rfl, by decide +kernel, rfl, by decide +kernel, by decide +kernel⟩
abbrev s_Kept_init : Stmt := inClass (topS 34) 0
theorem sc_Kept_init : FnScope ["self", "columns"] ["self", "columns"] (defScope s_Kept_init) := ⟨rfl, rfl, rfl, by decide +kernel, rfl, by decide +kernel, by decide +kernel⟩
abbrev s_Kept_put : Stmt := inClass (topS 34) 1
theorem sc_Kept_put : FnScope ["self", "number", "row", "key"] ["self", "number", "row"] (defScope s_Kept_put) := ⟨rfl, rfl, rfl, by decide +kernel, rfl, by decide +kernel, by decide +kernel⟩
abbrev s_Kept_drop : Stmt := inClass (topS 34) 2
theorem sc_Kept_drop : FnScope ["self", "number", "row"] ["self", "number", "row"] (defScope s_Kept_drop) := ⟨rfl, rfl, rfl, by decide +kernel, rfl, by decide +kernel, by decide +kernel⟩
abbrev s_Kept_numbers : Stmt := inClass (topS 34) 3
theorem sc_Kept_numbers : FnScope ["self", "key"] ["self"] (defScope s_Kept_numbers) := ⟨rfl, rfl, rfl, by decide +kernel, rfl, by decide +kernel, by decide +kernel⟩
abbrev s_Kept_stretch : Stmt := inClass (topS 34) 4
theorem sc_Kept_stretch : FnScope ["self", "wish", "first", "last", "start", "end", "key"] ["self", "wish"] (defScope s_Kept_stretch) := ⟨rfl, rfl, rfl, by decide +kernel, rfl, by decide +kernel, by decide +kernel⟩
abbrev s_Kept_covers : Stmt := inClass (topS 34) 5
theorem sc_Kept_covers : FnScope ["self", "wish", "triple"] ["self", "wish"] (defScope s_Kept_covers) := ⟨rfl, rfl, rfl, by decide +kernel, rfl, by decide +kernel, by decide +kernel⟩
abbrev s_Kept__key : Stmt := inClass (topS 34) 6
theorem sc_Kept__key : FnScope ["self", "number", "row", "column"] ["self", "number", "row"] (defScope s_Kept__key) := ⟨rfl, rfl, rfl, by decide +kernel, rfl, by decide +kernel, by decide +kernel⟩
abbrev s_cost : Stmt := topS 38
theorem sc_cost : FnScope ["kept", "wish", "looked"] ["kept", "wish"] (defScope s_cost) := ⟨rfl, rfl, rfl, by decide +kernel, rfl, by decide +kernel, by decide +kernel⟩
abbrev s_Table_init : Stmt := inClass (topS 39) 0
theorem sc_Table_init : FnScope ["self", "width"] ["self", "width"] (defScope s_Table_init) := ⟨rfl, rfl, rfl, by decide +kernel, rfl, by decide +kernel, by decide +kernel⟩
abbrev s_Table_put : Stmt := inClass (topS 39) 1
theorem sc_Table_put : FnScope ["self", "row", "number", "kept"] ["self", "row"] (defScope s_Table_put) := ⟨rfl, rfl, rfl, by decide +kernel, rfl, by decide +kernel, by decide +kernel⟩
abbrev s_Table_drop : Stmt := inClass (topS 39) 2
theorem sc_Table_drop : FnScope ["self", "number", "row", "kept"] ["self", "number"] (defScope s_Table_drop) := ⟨rfl, rfl, rfl, by decide +kernel, rfl, by decide +kernel, by decide +kernel⟩
abbrev s_Table_change : Stmt := inClass (topS 39) 3
theorem sc_Table_change : FnScope ["self", "number", "column", "value", "old", "new", "kept"] ["self", "number", "column", "value"] (defScope s_Table_change) := ⟨rfl, rfl, rfl, by decide +kernel, rfl, by decide +kernel, by decide +kernel⟩
abbrev s_Table_row : Stmt := inClass (topS 39) 4
theorem sc_Table_row : FnScope ["self", "number"] ["self", "number"] (defScope s_Table_row) := ⟨rfl, rfl, rfl, by decide +kernel, rfl, by decide +kernel, by decide +kernel⟩
abbrev s_Table_numbers : Stmt := inClass (topS 39) 5
theorem sc_Table_numbers : FnScope ["self"] ["self"] (defScope s_Table_numbers) := ⟨rfl, rfl, rfl, by decide +kernel, rfl, by decide +kernel, by decide +kernel⟩
abbrev s_Table_tell : Stmt := inClass (topS 39) 6
theorem sc_Table_tell : FnScope ["self", "order", "kept", "number"] ["self", "order"] (defScope s_Table_tell) := ⟨rfl, rfl, rfl, by decide +kernel, rfl, by decide +kernel, by decide +kernel⟩
abbrev s_Table_forget : Stmt := inClass (topS 39) 7
theorem sc_Table_forget : FnScope ["self", "order"] ["self", "order"] (defScope s_Table_forget) := ⟨rfl, rfl, rfl, by decide +kernel, rfl, by decide +kernel, by decide +kernel⟩
abbrev s_Table_orders : Stmt := inClass (topS 39) 8
theorem sc_Table_orders : FnScope ["self", "kept"] ["self"] (defScope s_Table_orders) := ⟨rfl, rfl, rfl, by decide +kernel, rfl, by decide +kernel, by decide +kernel⟩
abbrev s_Table_listed : Stmt := inClass (topS 39) 9
theorem sc_Table_listed : FnScope ["self", "order"] ["self", "order"] (defScope s_Table_listed) := ⟨rfl, rfl, rfl, by decide +kernel, rfl, by decide +kernel, by decide +kernel⟩
abbrev s_Table_costs : Stmt := inClass (topS 39) 10
theorem sc_Table_costs : FnScope ["self", "wish", "kept"] ["self", "wish"] (defScope s_Table_costs) := ⟨rfl, rfl, rfl, by decide +kernel, rfl, by decide +kernel, by decide +kernel⟩
abbrev s_Table_plan : Stmt := inClass (topS 39) 11
theorem sc_Table_plan : FnScope ["self", "wish"] ["self", "wish"] (defScope s_Table_plan) := ⟨rfl, rfl, rfl, by decide +kernel, rfl, by decide +kernel, by decide +kernel⟩
abbrev s_Table_walked : Stmt := inClass (topS 39) 12
theorem sc_Table_walked : FnScope ["self", "way", "wish", "kept"] ["self", "way", "wish"] (defScope s_Table_walked) := ⟨rfl, rfl, rfl, by decide +kernel, rfl, by decide +kernel, by decide +kernel⟩
abbrev s_Table_ask_by : Stmt := inClass (topS 39) 13
theorem sc_Table_ask_by : FnScope ["self", "way", "wish", "number"] ["self", "way", "wish"] (defScope s_Table_ask_by) := ⟨rfl, rfl, rfl, by decide +kernel, rfl, by decide +kernel, by decide +kernel⟩
abbrev s_Table_ask : Stmt := inClass (topS 39) 14
theorem sc_Table_ask : FnScope ["self", "wish", "way", "_"] ["self", "wish"] (defScope s_Table_ask) := ⟨rfl, rfl, rfl, by decide +kernel, rfl, by decide +kernel, by decide +kernel⟩
abbrev s_Table__find : Stmt := inClass (topS 39) 15
theorem sc_Table__find : FnScope ["self", "order", "kept"] ["self", "order"] (defScope s_Table__find) := ⟨rfl, rfl, rfl, by decide +kernel, rfl, by decide +kernel, by decide +kernel⟩
abbrev s_l_at : Stmt := topS 41
theorem sc_l_at : FnScope ["_law_script", "_law_k"] ["_law_script", "_law_k"] (defScope s_l_at) := ⟨rfl, rfl, rfl, by decide +kernel, rfl, by decide +kernel, by decide +kernel⟩
abbrev s_l_value : Stmt := topS 42
theorem sc_l_value : FnScope ["_law_cell"] ["_law_cell"] (defScope s_l_value) := ⟨rfl, rfl, rfl, by decide +kernel, rfl, by decide +kernel, by decide +kernel⟩
abbrev s_l_row : Stmt := topS 43
theorem sc_l_row : FnScope ["_law_cell", "_law_width", "_law_k"] ["_law_cell", "_law_width"] (defScope s_l_row) := ⟨rfl, rfl, rfl, by decide +kernel, rfl, by decide +kernel, by decide +kernel⟩
abbrev s_l_order : Stmt := topS 44
theorem sc_l_order : FnScope ["_law_cell", "_law_width", "_law_more", "_law_left", "_law_order_here", "_law_k"] ["_law_cell", "_law_width"] (defScope s_l_order) := ⟨rfl, rfl, rfl, by decide +kernel, rfl, by decide +kernel, by decide +kernel⟩
abbrev s_l_triple : Stmt := topS 45
theorem sc_l_triple : FnScope ["_law_cell", "_law_width", "_law_rows", "_law_column", "_law_low", "_law_high", "_law_near", "_law_way"] ["_law_cell", "_law_width", "_law_rows"] (defScope s_l_triple) := ⟨rfl, rfl, rfl, by decide +kernel, rfl, by decide +kernel, by decide +kernel⟩
abbrev s_l_deed : Stmt := topS 46
theorem sc_l_deed : FnScope ["_law_one", "_law_other", "_law_cell", "_law_width", "_law_numbers", "_law_more", "_law_number", "_law_value_here"] ["_law_one", "_law_other", "_law_cell", "_law_width"] (defScope s_l_deed) := ⟨rfl, rfl, rfl, by decide +kernel, rfl, by decide +kernel, by decide +kernel⟩
abbrev s_l_orders : Stmt := topS 47
theorem sc_l_orders : FnScope ["_law_script", "_law_width", "_law_orders_here", "_law_k", "_law_order_here"] ["_law_script", "_law_width"] (defScope s_l_orders) := ⟨rfl, rfl, rfl, by decide +kernel, rfl, by decide +kernel, by decide +kernel⟩
abbrev s_l_same : Stmt := topS 48
theorem sc_l_same : FnScope ["_law_one", "_law_other", "_law_wish", "_law_orders_here", "_law_number", "_law_order_here", "_law_same_here"] ["_law_one", "_law_other", "_law_wish", "_law_orders_here"] (defScope s_l_same) := ⟨rfl, rfl, rfl, by decide +kernel, rfl, by decide +kernel, by decide +kernel⟩
abbrev s_law : Stmt := topS 49
theorem sc_law : FnScope ["_law_script", "_law_width", "_law_orders_here", "_law_one", "_law_other", "_law_third", "_law_extra", "_law_order_here", "_law_deeds", "_law_cut", "_law_deed_here", "_law_rows", "_law_wish", "_law_k", "_law_number"] ["_law_script"] (defScope s_law) := ⟨rfl, rfl, rfl, by decide +kernel, rfl, by decide +kernel, by decide +kernel⟩

/-! ### the mathematics -/
theorem take_more {xs ys : List Int} {i : Nat} {x y : Int} (h : xs.take i = ys.take i) (hx : xs[i]? = some x) (hy : ys[i]? = some y) (e : x = y) : xs.take (i + 1) = ys.take (i + 1) := by
  rw [List.take_add_one, List.take_add_one, hx, hy, h, e]
theorem int_at {ns : List Int} {i : Nat} {x : V} (h : (ns.map V.int)[i]? = some x) : ∃ n, ns[i]? = some n ∧ x = .int n := by
  rw [List.getElem?_map] at h
  cases e : ns[i]? with
  | none => rw [e] at h; cases h
  | some n => rw [e] at h; exact ⟨n, rfl, (Option.some.inj h).symm⟩
def cell (ns : List Int) (k : Int) : Int := if k < ns.length then ns.getD k.toNat 0 else 0
def value (c : Int) : Int :=
  if c % 16 = 0 then 10 ^ 30 - c / 16 % 3 else if c % 16 = 1 then c / 16 % 3 - 10 ^ 30 else if c % 16 < 4 then c / 16 % 2003 - 1001 else if c % 16 < 6 then c / 16 % (2 * 10 ^ 30) - 10 ^ 30 else if c % 16 = 6 then c / 16 % 10 ^ 40 else if c % 16 < 10 then c / 16 % 60 - 20 else c / 16 % 3

theorem ahead_at : ∀ {xs ys : List Int} {i : Nat} {x y : Int}, xs.take i = ys.take i → xs[i]? = some x → ys[i]? = some y → ¬ x = y → ahead xs ys = decide (x < y)
  | [], _, i, x, y, _, h, _, _ => by simp at h
  | _ :: _, [], i, x, y, _, _, h, _ => by simp at h
  | a :: xs, b :: ys, 0, x, y, _, hx, hy, hn => by
    have e1 : a = x := Option.some.inj hx
    have e2 : b = y := Option.some.inj hy
    subst e1 e2
    show (if a = b then ahead xs ys else decide (a < b)) = _
    rw [if_neg hn]
  | a :: xs, b :: ys, i + 1, x, y, ht, hx, hy, hn => by
    rw [List.take_succ_cons, List.take_succ_cons] at ht
    obtain ⟨e1, e2⟩ := List.cons.inj ht
    show (if a = b then ahead xs ys else decide (a < b)) = _
    rw [if_pos e1]
    exact ahead_at e2 hx hy hn
theorem ahead_end : ∀ {xs ys : List Int} {i : Nat}, xs.take i = ys.take i → i ≤ xs.length → i ≤ ys.length → (xs.length ≤ i ∨ ys.length ≤ i) → ahead xs ys = decide ((xs.length : Int) < (ys.length : Int))
  | [], [], i, _, _, _, _ => rfl
  | [], b :: ys, i, _, _, _, _ => by
    show true = _
    rw [decide_eq_true]
    simp only [List.length_nil, List.length_cons]
    omega
  | a :: xs, [], i, _, _, _, _ => by
    show false = _
    rw [decide_eq_false]
    simp only [List.length_nil, List.length_cons]
    omega
  | a :: xs, b :: ys, 0, _, _, _, h => by simp at h
  | a :: xs, b :: ys, i + 1, ht, h1, h2, h3 => by
    rw [List.take_succ_cons, List.take_succ_cons] at ht
    obtain ⟨e1, e2⟩ := List.cons.inj ht
    simp only [List.length_cons] at h1 h2 h3
    show (if a = b then ahead xs ys else decide (a < b)) = _
    rw [if_pos e1, ahead_end e2 (by omega) (by omega) (by omega)]
    simp only [List.length_cons]
    exact decide_eq_decide.mpr (by omega)


/-! ### the promises -/
section
variable {P : Program} {w : World} {K : PySem.W.Frag} {mg : Str → Option Value} {base : Heap}
def RAt (K : PySem.W.Frag) : List V → Hp → V → Prop := fun vs H z => ∃ (a : Addr) (ns : List Int) (k : Int), vs = [.ref a, .int k] ∧ SqL K H a (ns.map V.int) ∧ 0 ≤ k ∧ z = .int (cell ns k)
def RValue : List V → Hp → V → Prop := fun vs _ z => ∃ c : Int, vs = [.int c] ∧ z = .int (value c)
def RAhead (K : PySem.W.Frag) : List V → Hp → V → Prop := fun vs H z => ∃ (a b : Addr) (xs ys : List Int), vs = [.ref a, .ref b] ∧ SqL K H a (xs.map V.int) ∧ SqL K H b (ys.map V.int) ∧ xs.length ≤ 1000 ∧ ys.length ≤ 1000 ∧ z = .bl (ahead xs ys)
structure Zs (mg : Str → Option Value) : Prop where
  ValueError : mg "ValueError" = none
  zip : mg "zip" = none
  len : mg "len" = none
  all : mg "all" = none
  sorted : mg "sorted" = none
  list : mg "list" = none
  range : mg "range" = none
  tuple : mg "tuple" = none
  isinstance : mg "isinstance" = none
  int : mg "int" = none
  max : mg "max" = none
  min : mg "min" = none
  bool : mg "bool" = none
  set : mg "set" = none
  g_WIDEST : ∃ t, mg "WIDEST" = some (.int 6 t)
  g_MOST_TRIPLES : ∃ t, mg "MOST_TRIPLES" = some (.int 20 t)
  g_MOST_ROWS : ∃ t, mg "MOST_ROWS" = some (.int 200 t)
  g_MOST_ORDERS : ∃ t, mg "MOST_ORDERS" = some (.int 8 t)

theorem ok_at {f : Addr} {fd : FuncData} {k : Nat} (F : Fun K "_law_at" "_law_at" s_l_at f fd) (Z : Zs mg) : FnOk P w K mg base CX0 (k + 1) f fd ["_law_script", "_law_k"] (SpR 2 (RAt K)) := by
  refine F.ok sc_l_at (fun vs H Q E h => h.1) (fun cdv A outer s H vs Q E hr h => ?_)
  obtain ⟨_, z, ⟨a, ns, k, rfl, hS, h0, rfl⟩, q⟩ := h
  refine ⟨_, (pss_cons (ps_if (pt_cmpR op_lt (pv 1) (pe_callB (id := "len") (r := rLenS K) c_len (by rfl) Z.len PySem.boot_len (pa_cons (pv 0) pa_nil)) (nomark _)) (pss_one (ps_ret (pe_ix (r := rIxL K) ix_list (pv 0) (pv 1) (fun _ _ => rfl)))) pss_nil)
      (pss_one (ps_ret pe_int))), ?_⟩
  try dsimp only [cx_K]
  refine Sv.at (sv_when (p := k < (ns.length : Int)) ?_ (fun hk => ?_) (fun hk => ?_))
  · repeat' walk_at "s"
  · refine sv_rq q ?_
    have e : cell ns k = ns.getD k.toNat 0 := if_pos hk
    rw [e]
    refine ev_op (ev_var rfl) (ev_var rfl) (rv_ixI hS h0 hk)
  · refine sv_rq q ?_
    have e : cell ns k = 0 := if_neg hk
    rw [e]
    exact ev_c
theorem ok_value {f : Addr} {fd : FuncData} {k : Nat} (F : Fun K "_law_value" "_law_value" s_l_value f fd) : FnOk P w K mg base CX0 (k + 1) f fd ["_law_cell"] (SpR 1 RValue) := by
  refine F.ok sc_l_value (fun vs H Q E h => h.1) (fun cdv A outer s H vs Q E hr h => ?_)
  obtain ⟨_, z, ⟨c, rfl, rfl⟩, q⟩ := h
  refine ⟨_, (pss_cons (ps_if (pt_cmpR op_eq (pe_op op_mod (pv 0) pe_int) pe_int (nomark _)) (pss_one (ps_ret (pe_op op_sub (pe_op op_pow pe_int pe_int) (pe_op op_mod (pe_op op_fdiv (pv 0) pe_int) pe_int)))) pss_nil)
      (pss_cons (ps_if (pt_cmpR op_eq (pe_op op_mod (pv 0) pe_int) pe_int (nomark _)) (pss_one (ps_ret (pe_op op_sub (pe_op op_mod (pe_op op_fdiv (pv 0) pe_int) pe_int) (pe_op op_pow pe_int pe_int)))) pss_nil)
      (pss_cons (ps_if (pt_cmpR op_lt (pe_op op_mod (pv 0) pe_int) pe_int (nomark _)) (pss_one (ps_ret (pe_op op_sub (pe_op op_mod (pe_op op_fdiv (pv 0) pe_int) pe_int) pe_int))) pss_nil)
      (pss_cons (ps_if (pt_cmpR op_lt (pe_op op_mod (pv 0) pe_int) pe_int (nomark _)) (pss_one (ps_ret (pe_op op_sub (pe_op op_mod (pe_op op_fdiv (pv 0) pe_int) (pe_op op_mul pe_int (pe_op op_pow pe_int pe_int))) (pe_op op_pow pe_int pe_int)))) pss_nil)
      (pss_cons (ps_if (pt_cmpR op_eq (pe_op op_mod (pv 0) pe_int) pe_int (nomark _)) (pss_one (ps_ret (pe_op op_mod (pe_op op_fdiv (pv 0) pe_int) (pe_op op_pow pe_int pe_int)))) pss_nil)
      (pss_cons (ps_if (pt_cmpR op_lt (pe_op op_mod (pv 0) pe_int) pe_int (nomark _)) (pss_one (ps_ret (pe_op op_sub (pe_op op_mod (pe_op op_fdiv (pv 0) pe_int) pe_int) pe_int))) pss_nil)
      (pss_one (ps_ret (pe_op op_mod (pe_op op_fdiv (pv 0) pe_int) pe_int))))))))), ?_⟩
  try dsimp only [cx_K]
  unfold value at q
  have t30 : (10 : Int) ^ (30 : Int).toNat = 10 ^ 30 := rfl
  have t40 : (10 : Int) ^ (40 : Int).toNat = 10 ^ 40 := rfl
  refine Sv.at (sv_when (p := c % 16 = 0) (by repeat' walk_at "s") (fun h => ?_) (fun h => ?_))
  · rw [if_pos h] at q
    exact sv_rq q (ev_eq (v := .int (10 ^ (30 : Int).toNat - c / 16 % 3)) (by repeat' walk_at "s") (by rw [t30]))
  rw [if_neg h] at q
  refine sv_when (p := c % 16 = 1) (by repeat' walk_at "s") (fun h => ?_) (fun h => ?_)
  · rw [if_pos h] at q
    exact sv_rq q (ev_eq (v := .int (c / 16 % 3 - 10 ^ (30 : Int).toNat)) (by repeat' walk_at "s") (by rw [t30]))
  rw [if_neg h] at q
  refine sv_when (p := c % 16 < 4) (by repeat' walk_at "s") (fun h => ?_) (fun h => ?_)
  · rw [if_pos h] at q
    exact sv_rq q (by repeat' walk_at "s")
  rw [if_neg h] at q
  refine sv_when (p := c % 16 < 6) (by repeat' walk_at "s") (fun h => ?_) (fun h => ?_)
  · rw [if_pos h] at q
    exact sv_rq q (ev_eq (v := .int (c / 16 % (2 * 10 ^ (30 : Int).toNat) - 10 ^ (30 : Int).toNat)) (by repeat' walk_at "s") (by rw [t30]))
  rw [if_neg h] at q
  refine sv_when (p := c % 16 = 6) (by repeat' walk_at "s") (fun h => ?_) (fun h => ?_)
  · rw [if_pos h] at q
    exact sv_rq q (ev_eq (v := .int (c / 16 % 10 ^ (40 : Int).toNat)) (by repeat' walk_at "s") (by rw [t40]))
  rw [if_neg h] at q
  refine sv_when (p := c % 16 < 10) (by repeat' walk_at "s") (fun h => ?_) (fun h => ?_)
  · rw [if_pos h] at q
    exact sv_rq q (by repeat' walk_at "s")
  rw [if_neg h] at q
  exact sv_rq q (by repeat' walk_at "s")
theorem spv_at {H : Hp} {a : Addr} {ns : List Int} {k : Int} (h : SqL K H a (ns.map V.int)) (h0 : 0 ≤ k) : SpV (SpR 2 (RAt K)) [.ref a, .int k] H (.int (cell ns k)) := spv rfl fun H1 e => ⟨a, ns, k, rfl, ex_l e h, h0, rfl⟩
theorem spv_value {H : Hp} {c : Int} : SpV (SpR 1 RValue) [.int c] H (.int (value c)) := spv rfl fun H1 e => ⟨c, rfl, rfl⟩
theorem spv_ahead {H : Hp} {a b : Addr} {xs ys : List Int} (h : SqL K H a (xs.map V.int)) (h2 : SqL K H b (ys.map V.int)) (l1 : xs.length ≤ 1000) (l2 : ys.length ≤ 1000) : SpV (SpR 2 (RAhead K)) [.ref a, .ref b] H (.bl (ahead xs ys)) :=
  spv rfl fun H1 e => ⟨a, b, xs, ys, rfl, ex_l e h, ex_l e h2, l1, l2, rfl⟩
def RWhole : List V → Hp → V → Prop := fun vs _ z => ∃ n : Int, vs = [.int n] ∧ z = .bl true
theorem spv_whole {H : Hp} {n : Int} : SpV (SpR 1 RWhole) [.int n] H (.bl true) := spv rfl fun H1 e => ⟨n, rfl, rfl⟩

local macro_rules | `(tactic| walk_at "s") => `(tactic| first
  | ((with_reducible apply spv_at); (walk_at "s"); (first | decide | omega))
  | (with_reducible exact spv_value)
  | (with_reducible exact spv_whole))
def rowM (c w : Int) : List Int := (List.range w.toNat).map fun k : Nat => value ((c * 48271 + 7919 * k) ^ 3 / 11)
theorem rowM_len (c w : Int) : (rowM c w).length = w.toNat := by
  unfold rowM
  rw [List.length_map, List.length_range]
def RRow : List V → Hp → List V → Prop := fun vs _ xs => ∃ c w : Int, vs = [.int c, .int w] ∧ Bits 1048700 c ∧ 0 ≤ w ∧ w ≤ 6 ∧ xs = (rowM c w).map V.int
theorem spl_row {H : Hp} {c w : Int} (h : Bits 1048700 c) (h0 : 0 ≤ w) (h1 : w ≤ 6) : SpL (SpN 2 RRow) [.int c, .int w] H ((rowM c w).map V.int) := spl rfl fun H1 e => ⟨c, w, rfl, h, h0, h1, rfl⟩
theorem ok_row {f : Addr} {fd : FuncData} (F : Fun K "_law_row" "_law_row" s_l_row f fd) (Z : Zs mg) (c_l_value : Cl P w K mg base CX0 1 "_law_value" (SpR 1 RValue)) : FnOk P w K mg base CX0 2 f fd ["_law_cell", "_law_width"] (SpN 2 RRow) := by
  refine F.ok sc_l_row (fun vs H Q E h => h.1) (fun cdv A outer s H vs Q E hr h => ?_)
  obtain ⟨_, z, ⟨c, wd, rfl, hb, h0, h1, rfl⟩, q⟩ := h
  refine ⟨_, (pss_one (ps_ret (pe_lc (own := [("_law_k", 2)]) (g := gName 2) (tt := tYes) (by rfl) sc_l_row.nd (pi_range1 (by rfl) Z.range (pa_cons (pv 1) pa_nil)) (blkOk_by (own := [("_law_k", 2)]) (N := ["_law_cell", "_law_width", "_law_k"]) (sc := defScope s_l_row) (by decide +kernel)) (fun _ _ _ _ _ => (pg_name (i := 2) sc_l_row.nd rfl (Or.inl rfl))) (fun _ _ _ _ _ => pts_nil) (fun _ _ _ _ _ => (pe_cl c_l_value hr (by decide) pass0 (by rfl) (pa_cons (pe_op op_fdiv (pe_op op_powB (pe_op op_add (pe_op op_mul (pv 0) pe_int) (pe_op op_mul pe_int (pv 2))) pe_int) pe_int) pa_nil)))))), ?_⟩
  try dsimp only [cx_K]
  refine Sv.at (sv_rqL q (el_lcI (n := wd) (fun k : Nat => value ((c * 48271 + 7919 * k) ^ 3 / 11)) (by repeat' walk_at "s") (by omega) (fun _ => rfl) (fun i hi => ?_)))
  have b1 : Bits 1048717 (c * 48271 + 7919 * (i : Int)) := by
    have x1 : Bits 1048716 (c * 48271) := hb.mul (m := 16) (Bits.nat (k := 48271) (by decide))
    have x2 : Bits 1048716 (7919 * (i : Int)) := by
      have x3 : Bits 16 (((7919 * i : Nat)) : Int) := Bits.nat (by
        have : i < 6 := by omega
        have e : (2 : Nat) ^ 16 = 65536 := by decide
        rw [e]
        omega)
      rw [Int.natCast_mul] at x3
      exact x3.mono (by decide)
    exact x1.add x2
  have hp := rv_powB (H := H) b1 (by decide)
  refine ev_cl (vs := [.int ((c * 48271 + 7919 * (i : Int)) ^ 3 / 11)]) (ea_cons (ev_op (ev_op ?_ ev_c hp) ev_c (rv_div (by decide) (by decide))) ea_nil) spv_value
  repeat' walk_at "s"

/-- the columns picked one by one -/
def pick : Nat → Int → List Int → List Int
  | 0, _, _ => []
  | n + 1, m, left => left.getD (m % (left.length : Int)).toNat 0 :: pick n (m / 3) (left.eraseIdx (m % (left.length : Int)).toNat)
def leftAt : Nat → Int → List Int → List Int
  | 0, _, left => left
  | n + 1, m, left => leftAt n (m / 3) (left.eraseIdx (m % (left.length : Int)).toNat)
def moreAt : Nat → Int → Int
  | 0, m => m
  | n + 1, m => moreAt n (m / 3)
theorem moreAt_succ : ∀ (n : Nat) (m : Int), moreAt (n + 1) m = moreAt n m / 3
  | 0, m => rfl
  | n + 1, m => moreAt_succ n (m / 3)
theorem leftAt_succ : ∀ (n : Nat) (m : Int) (left : List Int), leftAt (n + 1) m left = (leftAt n m left).eraseIdx (moreAt n m % ((leftAt n m left).length : Int)).toNat
  | 0, m, left => rfl
  | n + 1, m, left => leftAt_succ n (m / 3) _
theorem pick_succ : ∀ (n : Nat) (m : Int) (left : List Int), pick (n + 1) m left = pick n m left ++ [(leftAt n m left).getD (moreAt n m % ((leftAt n m left).length : Int)).toNat 0]
  | 0, m, left => rfl
  | n + 1, m, left => by
    show _ :: pick (n + 1) (m / 3) _ = _ :: pick n (m / 3) _ ++ _
    rw [pick_succ n (m / 3), List.cons_append]
    rfl
theorem leftAt_len : ∀ (n : Nat) (m : Int) (left : List Int), n ≤ left.length → (leftAt n m left).length = left.length - n
  | 0, m, left, _ => rfl
  | n + 1, m, left, h => by
    have hp : 0 < (left.length : Int) := by omega
    have m0 : 0 ≤ m % (left.length : Int) := Int.emod_nonneg _ (by omega)
    have m1 : m % (left.length : Int) < left.length := Int.emod_lt_of_pos _ hp
    have e : (left.eraseIdx (m % (left.length : Int)).toNat).length = left.length - 1 := List.length_eraseIdx_of_lt (by omega)
    show (leftAt n (m / 3) _).length = _
    rw [leftAt_len n (m / 3) _ (by omega), e]
    omega
theorem pick_mem : ∀ (n : Nat) (m : Int) (left : List Int), n ≤ left.length → ∀ x ∈ pick n m left, x ∈ left
  | 0, m, left, _, x, h => by cases h
  | n + 1, m, left, h, x, hx => by
    have hp : 0 < (left.length : Int) := by omega
    have m0 : 0 ≤ m % (left.length : Int) := Int.emod_nonneg _ (by omega)
    have m1 : m % (left.length : Int) < left.length := Int.emod_lt_of_pos _ hp
    have e : (left.eraseIdx (m % (left.length : Int)).toNat).length = left.length - 1 := List.length_eraseIdx_of_lt (by omega)
    rcases List.mem_cons.mp hx with e1 | hx
    · rw [e1, List.getD_eq_getElem?_getD, List.getElem?_eq_getElem (by omega)]
      exact List.getElem_mem _
    · exact List.eraseIdx_subset (pick_mem n (m / 3) _ (by omega) x hx)
theorem pick_nodup : ∀ (n : Nat) (m : Int) (left : List Int), n ≤ left.length → left.Nodup → (pick n m left).Nodup
  | 0, m, left, _, _ => List.nodup_nil
  | n + 1, m, left, h, nd => by
    have hp : 0 < (left.length : Int) := by omega
    have m0 : 0 ≤ m % (left.length : Int) := Int.emod_nonneg _ (by omega)
    have m1 : m % (left.length : Int) < left.length := Int.emod_lt_of_pos _ hp
    have e : (left.eraseIdx (m % (left.length : Int)).toNat).length = left.length - 1 := List.length_eraseIdx_of_lt (by omega)
    show List.Nodup (_ :: pick n (m / 3) _)
    refine List.nodup_cons.mpr ⟨fun hx => ?_, pick_nodup n (m / 3) _ (by omega) (nd.sublist (List.eraseIdx_sublist ..))⟩
    have hy := pick_mem n (m / 3) _ (by omega) _ hx
    have hi : (m % (left.length : Int)).toNat < left.length := by omega
    rw [List.getD_eq_getElem?_getD, List.getElem?_eq_getElem hi] at hy
    have hy2 : left[(m % (left.length : Int)).toNat] ∈ left.eraseIdx (m % (left.length : Int)).toNat := hy
    obtain ⟨j, hj, hij⟩ := List.mem_eraseIdx_iff_getElem.mp hy2
    exact hij.1 ((List.getElem_inj nd).mp hij.2)
def colsOf (w : Int) : List Int := (List.range w.toNat).map fun i : Nat => (i : Int)
def orderM (c w : Int) : List Int := pick (1 + c % w).toNat (c * 48271 % 10007) (colsOf w)
theorem cols_len (w : Int) : (colsOf w).length = w.toNat := by
  unfold colsOf
  rw [List.length_map, List.length_range]
theorem order_ok {c w : Int} (h : 1 ≤ w) : (1 + c % w).toNat ≤ (colsOf w).length := by
  rw [cols_len]
  have := Int.emod_lt_of_pos c (show 0 < w by omega)
  omega
theorem pick_len : ∀ (n : Nat) (m : Int) (left : List Int), (pick n m left).length = n
  | 0, _, _ => rfl
  | n + 1, m, left => by
    show (pick n (m / 3) _).length + 1 = n + 1
    rw [pick_len n]
theorem order_len {c w : Int} (h : 1 ≤ w) : 0 < (orderM c w).length ∧ (orderM c w).length ≤ w.toNat := by
  have e : (orderM c w).length = (1 + c % w).toNat := pick_len _ _ _
  have h1 := order_ok (c := c) h
  rw [cols_len] at h1
  have := Int.emod_nonneg c (show w ≠ 0 by omega)
  rw [e]
  omega
theorem order_in {c w : Int} (h : 1 ≤ w) : ∀ x ∈ orderM c w, 0 ≤ x ∧ x < w := fun x hx => by
  have hm := pick_mem _ _ _ (order_ok h) x hx
  obtain ⟨i, hi, rfl⟩ := List.mem_map.mp hm
  have := List.mem_range.mp hi
  omega
theorem order_nodup {c w : Int} (h : 1 ≤ w) : (orderM c w).Nodup := pick_nodup _ _ _ (order_ok h) (by
  unfold colsOf
  exact List.Pairwise.map _ (fun a b hab h => hab (Int.ofNat.inj h)) List.nodup_range)
def ROrder : List V → Hp → (V → Hp → Prop) → Prop := fun vs _ P => ∃ c w : Int, vs = [.int c, .int w] ∧ 1 ≤ w ∧ w ≤ 6 ∧ P = fun v N => ∃ p, v = .ref p ∧ N p = some (.tup ((orderM c w).map V.int))
theorem spn_order {H : Hp} {c w : Int} (h0 : 1 ≤ w) (h1 : w ≤ 6) : SpNP (SpNn 2 ROrder) [.int c, .int w] H fun v N => ∃ p, v = .ref p ∧ N p = some (.tup ((orderM c w).map V.int)) := spn rfl fun H1 e => ⟨c, w, rfl, h0, h1, rfl⟩
theorem ok_order {f : Addr} {fd : FuncData} {k : Nat} (F : Fun K "_law_order" "_law_order" s_l_order f fd) (Z : Zs mg) : FnOk P w K mg base CX0 (k + 1) f fd ["_law_cell", "_law_width"] (SpNn 2 ROrder) := by
  refine F.ok sc_l_order (fun vs H Q E h => h.1) (fun cdv A outer s H vs Q E hr h => ?_)
  obtain ⟨_, z, ⟨c, wd, rfl, h0, h1, rfl⟩, q⟩ := h
  refine ⟨_, (pss_cons (ps_set (i := 2) sc_l_order.nd rfl (Or.inl rfl) (pe_op op_mod (pe_op op_mul (pv 0) pe_int) pe_int))
      (pss_cons (ps_set (i := 3) sc_l_order.nd rfl (Or.inl rfl) (pe_listRg rfl (by rfl) Z.list (prg_1 (by rfl) Z.range (pv 1))))
      (pss_cons (ps_set (i := 4) sc_l_order.nd rfl (Or.inl rfl) (pe_lst pa_nil))
      (pss_cons (ps_for PassesOwn.never rfl (pi_range1 (by rfl) Z.range (pa_cons (pe_op op_add pe_int (pe_op op_mod (pv 0) (pv 1))) pa_nil)) (pg_name (i := 5) sc_l_order.nd rfl (Or.inl rfl)) (pss_cons (ps_expr (pe_bm PySem.F.plainAttrs_list PySem.F.slot_list_append PySem.F.type_list_append mt_append (pv 4) (pa_cons (pe_bm PySem.F.plainAttrs_list PySem.F.slot_list_pop PySem.F.type_list_pop mt_popAt (pv 3) (pa_cons (pe_op op_mod (pv 2) (pe_callB (id := "len") (r := rLenS K) c_len (by rfl) Z.len PySem.boot_len (pa_cons (pv 3) pa_nil))) pa_nil)) pa_nil))) (pss_one (ps_set (i := 2) sc_l_order.nd rfl (Or.inl rfl) (pe_op op_fdiv (pv 2) pe_int)))))
      (pss_one (ps_ret (pe_callTy (T := "tuple") (r := rTupS K) c_tuple (by rfl) Z.tuple (by decide +kernel) (pa_cons (pv 4) pa_nil)))))))), ?_⟩
  try dsimp only [cx_K]
  refine Sv.at (sv_asg (v := .int (c * 48271 % 10007)) (by repeat' walk_at "s") ?_)
  refine sv_asgL (el_rg (n := wd) (ev_var rfl) (by omega) (by omega)) fun pl H1 n1 e1 hl1 => ?_
  refine sv_asgL (xs := []) (el_lst ea_nil (Nat.zero_le _)) fun ph H2 n2 e2 hh2 => ?_
  have nph : ph ≠ pl := fun z => by
    rw [z, hl1] at n2
    cases n2
  have m0 := Int.emod_nonneg c (show wd ≠ 0 by omega)
  have m1 := Int.emod_lt_of_pos c (show 0 < wd by omega)
  refine sv_forR1 (n := 1 + c % wd) ?_ (by omega) (fun i σ' H' => ∃ y, σ' = [some (.int c), some (.int wd), some (.int (moreAt i (c * 48271 % 10007))), some (.ref pl), some (.ref ph), y] ∧ Ex H H' ∧ H' pl = some (.lst ((leftAt i (c * 48271 % 10007) (colsOf wd)).map V.int)) ∧ H' ph = some (.lst ((pick i (c * 48271 % 10007) (colsOf wd)).map V.int))) ⟨none, rfl, e1.trans e2, e2 _ _ hl1, hh2⟩ ?_ ?_
  · exact ea_cons (ev_op ev_c (ev_op (ev_var rfl) (ev_var rfl) (rv_mod (by omega))) rv_I0) ea_nil
  · rintro i σ' H' hi ⟨y, rfl, e, hl, hh⟩
    have hll : (leftAt i (c * 48271 % 10007) (colsOf wd)).length = wd.toNat - i := by
      rw [leftAt_len _ _ _ (by rw [cols_len]; omega), cols_len]
    have hpl := pick_len i (c * 48271 % 10007) (colsOf wd)
    have ql : SqL K H' pl ((leftAt i (c * 48271 % 10007) (colsOf wd)).map V.int) := sq_of hl
    have es := leftAt_succ i (c * 48271 % 10007) (colsOf wd)
    have ep := pick_succ i (c * 48271 % 10007) (colsOf wd)
    have em := moreAt_succ i (c * 48271 % 10007)
    generalize leftAt i (c * 48271 % 10007) (colsOf wd) = lf at hl hll ql es ep
    generalize pick i (c * 48271 % 10007) (colsOf wd) = pk at hh hpl ep
    generalize moreAt i (c * 48271 % 10007) = mo at es ep em
    have k0 : 0 ≤ mo % (lf.length : Int) := Int.emod_nonneg _ (by omega)
    have k1 : mo % (lf.length : Int) < lf.length := Int.emod_lt_of_pos _ (by omega)
    refine sv_appPop (i := mo % (lf.length : Int)) (y := .int (lf.getD (mo % (lf.length : Int)).toNat 0)) hh hl nph (ev_var rfl) (ev_var rfl) (ev_op (ev_var rfl) (ev_lenI (ev_var rfl) ql) (rv_mod (by omega))) k0 (by rw [List.length_map]; exact k1) ?_ (by rw [List.length_map]; omega) (by rw [List.length_map]; omega) ?_
    · rw [List.getElem?_map, List.getElem?_eq_getElem (by omega), List.getD_eq_getElem?_getD, List.getElem?_eq_getElem (by omega)]
      rfl
    · intro H3 e3 hh3 hl3
      refine sv_asg' (v := .int (mo / 3)) (by repeat' walk_at "s") (sv_kn ⟨some (.int (i : Int)), ?_, fun a o ha => e3 a o ?_ ?_ (e a o ha), ?_, ?_⟩)
      · rw [em]
        rfl
      · exact ne_of_none ha (fresh_back e1 n2)
      · exact ne_of_none ha n1
      · rw [hl3, es, map_erase]
      · rw [hh3, ep, List.map_append]
        rfl
  · rintro σ' H' ⟨y, rfl, e, hl, hh⟩
    have qh : SqL K H' ph ((orderM c wd).map V.int) := sq_of hh
    exact sv_rqN (retN_mono e q) (EvU.n (eu_tuple (ev_var rfl) qh))

def RTripleW (K : PySem.W.Frag) : List V → Hp → (V → Hp → Prop) → Prop := fun vs H P => ∃ (c w : Int) (a : Addr) (ws : List V) (rss : List (List Int)), vs = [.int c, .int w, .ref a] ∧ Bits 1048700 c ∧ 1 ≤ w ∧ w ≤ 6 ∧ SqL K H a ws ∧ RwT K H ws rss ∧ rss.length ≤ 200 ∧ (∀ r ∈ rss, r.length = w.toNat) ∧ P = fun v N => ∃ p t, v = .ref p ∧ N p = some (.tup (tv t)) ∧ 0 ≤ t.c ∧ t.c < w
theorem spn_triple {H : Hp} {c w : Int} {a : Addr} {ws : List V} {rss : List (List Int)} (hb : Bits 1048700 c) (h0 : 1 ≤ w) (h1 : w ≤ 6) (ha : SqL K H a ws) (hr : RwT K H ws rss) (hl : rss.length ≤ 200) (hw : ∀ r ∈ rss, r.length = w.toNat) :
    SpNP (SpNn 3 (RTripleW K)) [.int c, .int w, .ref a] H fun v N => ∃ p t, v = .ref p ∧ N p = some (.tup (tv t)) ∧ 0 ≤ t.c ∧ t.c < w := spn rfl fun H1 e => ⟨c, w, a, ws, rss, rfl, hb, h0, h1, ex_l e ha, hr.mono e, hl, hw, rfl⟩
theorem ok_triple {f : Addr} {fd : FuncData} (F : Fun K "_law_triple" "_law_triple" s_l_triple f fd) (Z : Zs mg) (c_l_value : Cl P w K mg base CX0 1 "_law_value" (SpR 1 RValue)) : FnOk P w K mg base CX0 2 f fd ["_law_cell", "_law_width", "_law_rows"] (SpNn 3 (RTripleW K)) := by
  refine F.ok sc_l_triple (fun vs H Q E h => h.1) (fun cdv A outer s H vs Q E hr h => ?_)
  obtain ⟨_, z, ⟨c, wd, a, ws, rss, rfl, hb, h0, h1, ha, hR, hl, hw, rfl⟩, q⟩ := h
  refine ⟨_, (pss_cons (ps_set (i := 3) sc_l_triple.nd rfl (Or.inl rfl) (pe_op op_mod (pe_op op_fdiv (pv 0) pe_int) (pv 1)))
      (pss_cons (ps_set (i := 4) sc_l_triple.nd rfl (Or.inl rfl) (pe_cl c_l_value hr (by decide) pass0 (by rfl) (pa_cons (pe_op op_fdiv (pe_op op_powB (pe_op op_add (pe_op op_mul (pv 0) pe_int) pe_int) pe_int) pe_int) pa_nil)))
      (pss_cons (ps_set (i := 5) sc_l_triple.nd rfl (Or.inl rfl) (pe_cl c_l_value hr (by decide) pass0 (by rfl) (pa_cons (pe_op op_fdiv (pe_op op_powB (pe_op op_add (pe_op op_mul (pv 0) pe_int) pe_int) pe_int) pe_int) pa_nil)))
      (pss_cons (ps_set (i := 6) sc_l_triple.nd rfl (Or.inl rfl) (pe_op op_mod (pe_op op_mul (pv 0) pe_int) pe_int))
      (pss_cons (ps_if (PW.pt (pw_and (pt_cmpR op_gt (pe_op op_mod (pv 6) pe_int) pe_int (nomark _)) (pw_and1 (pt_cmpR op_gt (pe_callB (id := "len") (r := rLenS K) c_len (by rfl) Z.len PySem.boot_len (pa_cons (pv 2) pa_nil)) pe_int (nomark _))))) (pss_one (ps_set (i := 4) sc_l_triple.nd rfl (Or.inl rfl) (pe_op op_sub (pe_op op_add (pe_ix (r := rIxT K) ix_tup (pe_ix (r := rIxL K) ix_list (pv 2) (pe_op op_mod (pe_op op_fdiv (pv 6) pe_int) (pe_callB (id := "len") (r := rLenS K) c_len (by rfl) Z.len PySem.boot_len (pa_cons (pv 2) pa_nil))) (fun _ _ => rfl)) (pv 3) (fun _ _ => rfl)) (pe_op op_mod (pe_op op_fdiv (pv 6) pe_int) pe_int)) pe_int))) pss_nil)
      (pss_cons (ps_set (i := 7) sc_l_triple.nd rfl (Or.inl rfl) (pe_ix (r := rIxL K) ix_list (pe_lst (pa_cons pe_int (pa_cons pe_int (pa_cons pe_int (pa_cons pe_int (pa_cons pe_int (pa_cons pe_int (pa_cons pe_int (pa_cons pe_int pa_nil))))))))) (pe_op op_mod (pv 0) pe_int) (fun _ _ => rfl)))
      (pss_cons (ps_if (pt_cmpR op_eq (pv 7) pe_int (nomark _)) (pss_one (ps_ret (pe_tup (pa_cons (pv 3) (pa_cons (pv 4) (pa_cons pe_non pa_nil)))))) pss_nil)
      (pss_cons (ps_if (pt_cmpR op_eq (pv 7) pe_int (nomark _)) (pss_one (ps_ret (pe_tup (pa_cons (pv 3) (pa_cons pe_non (pa_cons (pv 4) pa_nil)))))) pss_nil)
      (pss_cons (ps_if (pt_cmpR op_eq (pv 7) pe_int (nomark _)) (pss_one (ps_ret (pe_tup (pa_cons (pv 3) (pa_cons pe_non (pa_cons pe_non pa_nil)))))) pss_nil)
      (pss_cons (ps_if (PW.pt (pw_and (pt_cmpR op_eq (pv 7) pe_int (nomark _)) (pw_and1 (pt_cmpR op_gt (pe_op op_mod (pe_op op_fdiv (pv 6) pe_int) pe_int) pe_int (nomark _))))) (pss_one (ps_ret (pe_tup (pa_cons (pv 3) (pa_cons (pv 4) (pa_cons (pe_op op_add (pv 4) (pe_op op_mod (pe_op op_fdiv (pv 6) pe_int) pe_int)) pa_nil)))))) pss_nil)
      (pss_cons (ps_if (pt_cmpR op_eq (pv 7) pe_int (nomark _)) (pss_one (ps_ret (pe_tup (pa_cons (pv 3) (pa_cons (pv 4) (pa_cons (pv 5) pa_nil)))))) pss_nil)
      (pss_one (ps_ret (pe_tup (pa_cons (pv 3) (pa_cons (pv 4) (pa_cons (pv 4) pa_nil))))))))))))))))), ?_⟩
  try dsimp only [cx_K]
  have m0 : 0 ≤ c / 8 % wd := Int.emod_nonneg _ (by omega)
  have m1 : c / 8 % wd < wd := Int.emod_lt_of_pos _ (by omega)
  have b1 : Bits 1048717 (c * 48271) := (hb.mul (m := 16) (Bits.nat (k := 48271) (by decide))).mono (by decide)
  have p1 : RV (rI CPowB fun i j => .int (i ^ j.toNat)) (.int (c * 48271 + 1)) (.int 3) H (.int ((c * 48271 + 1) ^ 3)) := rv_powB (H := H) (b1.add ((Bits.nat (n := 1) (k := 1) (by decide)).mono (by decide))) (by decide)
  have p2 : RV (rI CPowB fun i j => .int (i ^ j.toNat)) (.int (c * 48271 + 2)) (.int 3) H (.int ((c * 48271 + 2) ^ 3)) := rv_powB (H := H) (b1.add ((Bits.nat (n := 2) (k := 2) (by decide)).mono (by decide))) (by decide)
  have hln : ws.length = rss.length := hR.1
  refine Sv.at (sv_asg (v := .int (c / 8 % wd)) (ev_op (ev_op (ev_var rfl) ev_c (rv_div (by decide) (by decide))) (ev_var rfl) (rv_mod (by omega))) ?_)
  generalize c / 8 % wd = col at m0 m1
  refine sv_asg (ev_cl (vs := [.int ((c * 48271 + 1) ^ 3 / 11)]) (ea_cons (ev_op (ev_op ?_ ev_c p1) ev_c (rv_div (by decide) (by decide))) ea_nil) spv_value) ?_
  · repeat' walk_at "s"
  generalize value ((c * 48271 + 1) ^ 3 / 11) = lo0
  refine sv_asg (ev_cl (vs := [.int ((c * 48271 + 2) ^ 3 / 11)]) (ea_cons (ev_op (ev_op ?_ ev_c p2) ev_c (rv_div (by decide) (by decide))) ea_nil) spv_value) ?_
  · repeat' walk_at "s"
  generalize value ((c * 48271 + 2) ^ 3 / 11) = hi0
  refine sv_asg (v := .int (c * 48271 % 90001)) (by repeat' walk_at "s") ?_
  generalize c * 48271 % 90001 = near
  refine sv_ifsetI (p := near % 3 > 0 ∧ (rss.length : Int) > 0) (m := lo0) ?_ (fun hp => ?_) rfl fun lo => ?_
  · have g := ev_lenL (K := K) (σ := [some (.int c), some (.int wd), some (.ref a), some (.int col), some (.int lo0), some (.int hi0), some (.int near), none]) (ev_var (i := 2) rfl) ha
    rw [hln] at g
    exact tp_and (by repeat' walk_at "s") fun _ => tp_cmp (ev_op g ev_c rv_I0)
  · have k0 : 0 ≤ near / 3 % (rss.length : Int) := Int.emod_nonneg _ (by omega)
    have k1 : near / 3 % (rss.length : Int) < rss.length := Int.emod_lt_of_pos _ hp.2
    obtain ⟨i, hi⟩ := Int.eq_ofNat_of_zero_le k0
    have hi2 : i < rss.length := by omega
    obtain ⟨q1, hq, hs⟩ := hR.2 i _ (List.getElem?_eq_getElem hi2)
    have hlr := hw _ (List.getElem_mem hi2)
    have g := ev_lenL (K := K) (σ := [some (.int c), some (.int wd), some (.ref a), some (.int col), some (.int lo0), some (.int hi0), some (.int near), none]) (ev_var (i := 2) rfl) ha
    rw [hln] at g
    exact ⟨_, ev_op (ev_op (ev_op (ev_op (ev_var rfl) (ev_op (ev_op (ev_var rfl) ev_c (rv_div (by decide) (by decide))) g (rv_mod (by omega))) (rv_ixL ha (by rw [hi]; exact atI_nat hq))) (ev_var rfl) (rv_ixTI hs m0 (by omega))) (ev_op (ev_op (ev_var rfl) ev_c (rv_div (by decide) (by decide))) ev_c (rv_mod (by decide))) rv_I0) ev_c rv_I0⟩
  have hway : ∃ way : Int, Ev (tOp (rIxL K) (tLst (tCons (tC (.int 0)) (tCons (tC (.int 0)) (tCons (tC (.int 0)) (tCons (tC (.int 1)) (tCons (tC (.int 2)) (tCons (tC (.int 3)) (tCons (tC (.int 4)) (tCons (tC (.int 0)) tNil))))))))) (tOp (rI (fun _ j => 0 < j) fun i j => .int (i % j)) (tVar 0) (tC (.int 8)))) [some (.int c), some (.int wd), some (.ref a), some (.int col), some (.int lo), some (.int hi0), some (.int near), none] H (.int way) := by
    refine ⟨_, ev_opL (xs := [0, 0, 0, 1, 2, 3, 4, 0].map V.int) (el_lst ?_ (by simp)) (ev_op (ev_var rfl) ev_c (rv_mod (by decide))) fun p H2 e2 hp => rv_ixI (sq_of hp) (by omega) (by simp only [List.length_cons, List.length_nil]; omega)⟩
    exact ea_cons ev_c (ea_cons ev_c (ea_cons ev_c (ea_cons ev_c (ea_cons ev_c (ea_cons ev_c (ea_cons ev_c (ea_cons ev_c ea_nil)))))))
  obtain ⟨way, hway⟩ := hway
  refine sv_asg hway ?_
  have fin : ∀ (l h : Option Int) (te : TE) (σ : L2.St), EvU te σ H (tv ⟨col, l, h⟩) → EvN te σ H fun v N => ∃ p t, v = .ref p ∧ N p = some (.tup (tv t)) ∧ 0 ≤ t.c ∧ t.c < wd := fun l h te σ u => (EvU.n u).imp fun v N ⟨p, e1, e2⟩ => ⟨p, ⟨col, l, h⟩, e1, e2, m0, m1⟩
  refine sv_when (p := way = 1) (by repeat' walk_at "s") (fun _ => sv_rqN q (fin (some lo) none _ _ (eu_tup (vs := tv ⟨col, some lo, none⟩) (ea_cons (ev_var rfl) (ea_cons (ev_var rfl) (ea_cons ev_c ea_nil))) (by simp [tv])))) (fun _ => ?_)
  refine sv_when (p := way = 2) (by repeat' walk_at "s") (fun _ => sv_rqN q (fin none (some lo) _ _ (eu_tup (vs := tv ⟨col, none, some lo⟩) (ea_cons (ev_var rfl) (ea_cons ev_c (ea_cons (ev_var rfl) ea_nil))) (by simp [tv])))) (fun _ => ?_)
  refine sv_when (p := way = 3) (by repeat' walk_at "s") (fun _ => sv_rqN q (fin none none _ _ (eu_tup (vs := tv ⟨col, none, none⟩) (ea_cons (ev_var rfl) (ea_cons ev_c (ea_cons ev_c ea_nil))) (by simp [tv])))) (fun _ => ?_)
  refine sv_when (p := way = 4 ∧ near / 27 % 3 > 0) (by repeat' walk_at "s") (fun _ => sv_rqN q (fin (some lo) (some (lo + near / 81 % 4)) _ _ (eu_tup (vs := tv ⟨col, some lo, some (lo + near / 81 % 4)⟩) (ea_cons (ev_var rfl) (ea_cons (ev_var rfl) (ea_cons ?_ ea_nil))) (by simp [tv])))) (fun _ => ?_)
  · show Ev _ _ _ (.int (lo + near / 81 % 4))
    repeat' walk_at "s"
  refine sv_when (p := way = 4) (by repeat' walk_at "s") (fun _ => sv_rqN q (fin (some lo) (some hi0) _ _ (eu_tup (vs := tv ⟨col, some lo, some hi0⟩) (ea_cons (ev_var rfl) (ea_cons (ev_var rfl) (ea_cons (ev_var rfl) ea_nil))) (by simp [tv])))) (fun _ => ?_)
  exact sv_rqN q (fin (some lo) (some lo) _ _ (eu_tup (vs := tv ⟨col, some lo, some lo⟩) (ea_cons (ev_var rfl) (ea_cons (ev_var rfl) (ea_cons (ev_var rfl) ea_nil))) (by simp [tv])))


def RBelow (K : PySem.W.Frag) : List V → Hp → V → Prop := fun args H z => ∃ (a b : Addr) (vs : List V) (rss : List (List Int)) (ys : List Int), args = [.ref a, .ref b] ∧ SqL K H a vs ∧ Rw K H vs rss ∧ SqL K H b (ys.map V.int) ∧ rss.length ≤ 100000 ∧ (∀ r ∈ rss, r.length ≤ 1000) ∧ ys.length ≤ 1000 ∧
  (∀ (i j : Nat) ri rj, rss[i]? = some ri → rss[j]? = some rj → i ≤ j → ahead rj ys = true → ahead ri ys = true) ∧ z = .int ((rss.filter fun r => ahead r ys).length : Int)
theorem ok_less {f : Addr} {fd : FuncData} {k : Nat} (F : Fun K "less" "less" s_less f fd) (Z : Zs mg) : FnOk P w K mg base CX0 (k + 1) f fd ["one", "other"] (SpR 2 (RAhead K)) := by
  refine F.ok sc_less (fun vs H Q E h => h.1) (fun cdv A outer s H vs Q E hr h => ?_)
  obtain ⟨_, z, ⟨a, b, xs, ys, rfl, hx, hy, _, _, rfl⟩, q⟩ := h
  refine ⟨_, (pss_cons (ps_for PassesOwn.never rfl (pi_zip (by rfl) Z.zip (pa_cons (pv 0) (pa_cons (pv 1) pa_nil))) (pg_tup (by rfl) (pgs_cons (pg_name (i := 2) sc_less.nd rfl (Or.inl rfl)) (pgs_cons (pg_name (i := 3) sc_less.nd rfl (Or.inl rfl)) pgs_nil))) (pss_one (ps_if (pt_cmpR op_ne (pv 2) (pv 3) (nomark _)) (pss_one (ps_ret (pe_cmpR op_lt (pv 2) (pv 3) (nomark _)))) pss_nil)))
      (pss_one (ps_ret (pe_cmpR op_lt (pe_callB (id := "len") (r := rLenS K) c_len (by rfl) Z.len PySem.boot_len (pa_cons (pv 0) pa_nil)) (pe_callB (id := "len") (r := rLenS K) c_len (by rfl) Z.len PySem.boot_len (pa_cons (pv 1) pa_nil)) (nomark _))))), ?_⟩
  try dsimp only [cx_K]
  refine Sv.at (sv_forZ (by repeat' walk_at "s") hx hy (fun i σ' H' => H' = H ∧ (∃ y2 y3, σ' = [some (.ref a), some (.ref b), y2, y3]) ∧ xs.take i = ys.take i) ⟨rfl, ⟨none, none, rfl⟩, rfl⟩ (fun i σ' H' h => by rw [h.1]; exact ⟨hx, hy⟩) ?_ ?_)
  · rintro i x y σ' H' h1 h2 ⟨rfl, ⟨y2, y3, rfl⟩, ht⟩
    obtain ⟨n, hn, rfl⟩ := int_at h1
    obtain ⟨m, hm, rfl⟩ := int_at h2
    refine sv_if' (p := ¬ n = m) (by repeat' walk_at "s") (fun hne => ?_) (fun he => sv_kn ⟨rfl, ⟨_, _, rfl⟩, take_more ht hn hm (Decidable.of_not_not he)⟩)
    rw [ahead_at ht hn hm hne] at q
    refine sv_rq q ?_
    repeat' walk_at "s"
  · rintro i σ' H' l1 l2 l3 ⟨rfl, ⟨y2, y3, rfl⟩, ht⟩
    rw [List.length_map] at l1 l2 l3
    rw [List.length_map] at l3
    rw [ahead_end ht l1 l2 l3] at q
    refine sv_rq q ?_
    repeat' walk_at "s"

theorem ok_below {f : Addr} {fd : FuncData} (F : Fun K "below" "below" s_below f fd) (Z : Zs mg) (c_less : Cl P w K mg base CX0 1 "less" (SpR 2 (RAhead K))) : FnOk P w K mg base CX0 2 f fd ["rows", "key"] (SpR 2 (RBelow K)) := by
  refine F.ok sc_below (fun vs H Q E h => h.1) (fun cdv A outer s H vs Q E hr h => ?_)
  obtain ⟨_, z, ⟨a, b, vs, rss, ys, rfl, hA, hR, hB, l1, l2, l3, anti, rfl⟩, q⟩ := h
  refine ⟨_, (pss_cons (ps_set (i := 2) sc_below.nd rfl (Or.inl rfl) pe_int)
      (pss_cons (ps_set (i := 3) sc_below.nd rfl (Or.inl rfl) (pe_callB (id := "len") (r := rLenS K) c_len (by rfl) Z.len PySem.boot_len (pa_cons (pv 0) pa_nil)))
      (pss_cons (ps_while PassesOwn.never (pt_cmpR op_lt (pv 2) (pv 3) (nomark _)) (pss_cons (ps_set (i := 4) sc_below.nd rfl (Or.inl rfl) (pe_op op_fdiv (pe_op op_add (pv 2) (pv 3)) pe_int)) (pss_one (ps_if (pt_val (pe_cl c_less hr (by decide) pass0 (by rfl) (pa_cons (pe_ix (r := rIxL K) ix_list (pv 0) (pv 4) (fun _ _ => rfl)) (pa_cons (pv 1) pa_nil)))) (pss_one (ps_set (i := 2) sc_below.nd rfl (Or.inl rfl) (pe_op op_add (pv 4) pe_int))) (pss_one (ps_set (i := 3) sc_below.nd rfl (Or.inl rfl) (pv 4)))))))
      (pss_one (ps_ret (pv 2)))))), ?_⟩
  try dsimp only [cx_K]
  refine Sv.at (sv_asg ev_c (sv_asg (ev_lenL (ev_var rfl) hA) ?_))
  refine sv_while (fun m σ' H' => H' = H ∧ ∃ (lo hi : Nat) (mid : Option V), σ' = [some (.ref a), some (.ref b), some (.int lo), some (.int hi), mid] ∧ m = hi - lo ∧ lo ≤ hi ∧ hi ≤ rss.length ∧ (∀ (i : Nat) r, rss[i]? = some r → i < lo → ahead r ys = true) ∧ (∀ (i : Nat) r, rss[i]? = some r → hi ≤ i → ahead r ys = false)) vs.length ?_ ?_
  · refine ⟨rfl, 0, vs.length, none, rfl, rfl, Nat.zero_le _, by rw [hR.1]; exact Nat.le_refl _, fun i r _ hi => absurd hi (Nat.not_lt_zero _), fun i r hr hi => ?_⟩
    have := (List.getElem?_eq_some_iff.mp hr).1
    have := hR.1
    omega
  rintro m σ' H' ⟨rfl, lo, hi, mid, rfl, rfl, h1, h2, h3, h4⟩
  refine ⟨decide ((lo : Int) < hi), by repeat' walk_at "s", fun hb => ?_, fun hb => ?_⟩
  · have hlt : lo < hi := by
      have := of_decide_eq_true hb
      omega
    have em : ((lo : Int) + (hi : Int)) / 2 = (((lo + hi) / 2 : Nat) : Int) := by omega
    have hm : (lo + hi) / 2 < rss.length := by omega
    obtain ⟨q0, hv, hq⟩ := hR.2 ((lo + hi) / 2) _ (List.getElem?_eq_getElem hm)
    have hr := List.getElem?_eq_getElem hm
    generalize rss[(lo + hi) / 2] = r at hv hq hr
    have i0 : RV (rIxL K) (.ref a) (.int (((lo + hi) / 2 : Nat) : Int)) H' (.ref q0) := rv_ixL hA (atI_nat hv)
    have s0 : SpV (SpR 2 (RAhead K)) [.ref q0, .ref b] H' (.bl (ahead r ys)) := spv_ahead hq hB (l2 r (List.mem_of_getElem? hr)) l3
    refine sv_asg (v := .int (((lo + hi) / 2 : Nat) : Int)) (ev_eq (v := .int (((lo : Int) + (hi : Int)) / 2)) (by repeat' walk_at "s") (by rw [em])) (sv_ifB' (b := ahead r ys) (et_B (by repeat' walk_at "s")) (fun ha => ?_) (fun ha => ?_))
    · refine sv_asg' (v := .int ((((lo + hi) / 2 + 1 : Nat)) : Int)) (ev_eq (v := .int ((((lo + hi) / 2 : Nat) : Int) + 1)) (by repeat' walk_at "s") rfl) (sv_kn ⟨hi - ((lo + hi) / 2 + 1), by omega, rfl, (lo + hi) / 2 + 1, hi, _, rfl, rfl, by omega, h2, fun i r' hr' hi' => ?_, h4⟩)
      exact anti i _ r' r hr' hr (by omega) ha
    · refine sv_asg' (ev_var rfl) (sv_kn ⟨(lo + hi) / 2 - lo, by omega, rfl, lo, (lo + hi) / 2, _, rfl, rfl, by omega, by omega, h3, fun i r' hr' hi' => ?_⟩)
      cases e : ahead r' ys with
      | false => rfl
      | true =>
        have := anti _ i r r' hr hr' hi' e
        rw [ha] at this
        cases this
  · have hle : hi ≤ lo := by
      have := of_decide_eq_false hb
      omega
    have e : ((rss.filter fun r => ahead r ys).length : Int) = (lo : Int) := by
      rw [cnt_split (n := lo) (by omega) h3 (fun i r hr hi' => h4 i r hr (by omega))]
    rw [e] at q
    exact sv_rq q (ev_var rfl)
theorem spv_below {H : Hp} {a b : Addr} {vs : List V} {rss : List (List Int)} {ys : List Int} (h1 : SqL K H a vs) (h2 : Rw K H vs rss) (h3 : SqL K H b (ys.map V.int)) (l1 : rss.length ≤ 100000) (l2 : ∀ r ∈ rss, r.length ≤ 1000) (l3 : ys.length ≤ 1000)
    (anti : ∀ (i j : Nat) ri rj, rss[i]? = some ri → rss[j]? = some rj → i ≤ j → ahead rj ys = true → ahead ri ys = true) : SpV (SpR 2 (RBelow K)) [.ref a, .ref b] H (.int ((rss.filter fun r => ahead r ys).length : Int)) :=
  spv rfl fun H1 e => ⟨a, b, vs, rss, ys, rfl, ex_l e h1, h2.mono e, ex_l e h3, l1, l2, l3, anti, rfl⟩
def RMerged (K : PySem.W.Frag) : List V → Hp → (V → Hp → Prop) → Prop := fun vs H P => ∃ (a : Addr) (ws : List V) (ts : List Tri), vs = [.ref a] ∧ SqL K H a ws ∧ Wt K H ws ts ∧ ts.length ≤ 20 ∧ (∀ t ∈ ts, 0 ≤ t.c ∧ t.c < 6) ∧ P = fun v H2 => ∃ p acc, v = .ref p ∧ H p = none ∧ H2 p = some (.lst acc) ∧ Wt K H2 acc (mergedM ts)
theorem spq_merged {H : Hp} {a : Addr} {ws : List V} {ts : List Tri} (h1 : SqL K H a ws) (h2 : Wt K H ws ts) (h3 : ts.length ≤ 20) (h4 : ∀ t ∈ ts, 0 ≤ t.c ∧ t.c < 6) : SpP (SpQ 1 (RMerged K)) [.ref a] H fun v H2 => ∃ p acc, v = .ref p ∧ H p = none ∧ H2 p = some (.lst acc) ∧ Wt K H2 acc (mergedM ts) :=
  spq rfl fun H1 e => ⟨_, ⟨a, ws, ts, rfl, ex_l e h1, h2.mono e, h3, h4, rfl⟩, fun v H2 ⟨p, acc, x1, x2, x3, x4⟩ => ⟨p, acc, x1, fresh_back e x2, x3, x4⟩⟩
def RMergedT (K : PySem.W.Frag) : List V → Hp → (V → Hp → Prop) → Prop := fun vs H P => ∃ (c : Int) (a : Addr) (ws : List V) (ts : List Tri), vs = [.int c, .ref a] ∧ SqL K H a ws ∧ Wt K H ws ts ∧ ts.length ≤ 20 ∧ P = IsTri (triOf ts c)
theorem spn_mergedT {H : Hp} {c : Int} {a : Addr} {ws : List V} {ts : List Tri} (h1 : SqL K H a ws) (h2 : Wt K H ws ts) (h3 : ts.length ≤ 20) : SpNP (SpNn 2 (RMergedT K)) [.int c, .ref a] H (IsTri (triOf ts c)) := spn rfl fun H1 e => ⟨c, a, ws, ts, rfl, ex_l e h1, h2.mono e, h3, rfl⟩
theorem ok_merged_triple {f : Addr} {fd : FuncData} (F : Fun K "merged_triple" "merged_triple" s_merged_triple f fd) (Z : Zs mg) : FnOk P w K mg base CX0 1 f fd ["column", "wish"] (SpNn 2 (RMergedT K)) := by
  refine F.ok sc_merged_triple (fun vs H Q E h => h.1) (fun cdv A outer s H vs Q E hr h => ?_)
  obtain ⟨_, P0, ⟨c, a, ws, ts, rfl, ha, hw, hl, rfl⟩, q⟩ := h
  refine ⟨_, (pss_cons (ps_setLc (i := 2) rfl sc_merged_triple.nd rfl rfl (sw_true rfl rfl rfl (by decide +kernel)) (pi_list (pv 1)) (blkOk_by (own := [("triple", 5)]) (N := ["column", "wish", "spoken", "lows", "highs", "triple"]) (sc := defScope s_merged_triple) (by decide +kernel)) (fun _ _ _ _ _ => (pg_name (i := 5) sc_merged_triple.nd rfl (Or.inl rfl))) (fun _ _ _ _ _ => (pts_one (pt_cmpR op_eq (pe_ix (r := rIxT K) ix_tup (pv 5) pe_int (fun _ _ => rfl)) (pv 0) (nomark _)))) (fun _ _ _ _ _ => (pv 5)))
      (pss_cons (ps_setLc (i := 3) rfl sc_merged_triple.nd rfl rfl (sw_true rfl rfl rfl (by decide +kernel)) (pi_list (pv 2)) (blkOk_by (own := [("triple", 5)]) (N := ["column", "wish", "spoken", "lows", "highs", "triple"]) (sc := defScope s_merged_triple) (by decide +kernel)) (fun _ _ _ _ _ => (pg_name (i := 5) sc_merged_triple.nd rfl (Or.inl rfl))) (fun _ _ _ _ _ => (pts_one (pt_cmpR o_notN (pe_ix (r := rIxT K) ix_tup (pv 5) pe_int (fun _ _ => rfl)) pe_non (nomark _)))) (fun _ _ _ _ _ => (pe_ix (r := rIxT K) ix_tup (pv 5) pe_int (fun _ _ => rfl))))
      (pss_cons (ps_setLc (i := 4) rfl sc_merged_triple.nd rfl rfl (sw_true rfl rfl rfl (by decide +kernel)) (pi_list (pv 2)) (blkOk_by (own := [("triple", 5)]) (N := ["column", "wish", "spoken", "lows", "highs", "triple"]) (sc := defScope s_merged_triple) (by decide +kernel)) (fun _ _ _ _ _ => (pg_name (i := 5) sc_merged_triple.nd rfl (Or.inl rfl))) (fun _ _ _ _ _ => (pts_one (pt_cmpR o_notN (pe_ix (r := rIxT K) ix_tup (pv 5) pe_int (fun _ _ => rfl)) pe_non (nomark _)))) (fun _ _ _ _ _ => (pe_ix (r := rIxT K) ix_tup (pv 5) pe_int (fun _ _ => rfl))))
      (pss_one (ps_ret (pe_tup (pa_cons (pv 0) (pa_cons (pe_callBK (id := "max") (ks := ["default"]) (cr_maxDef (by rfl)) (by rfl) Z.max (by decide +kernel) (pa_cons (pv 3) pa_nil) (pk_cons pe_non pk_nil)) (pa_cons (pe_callBK (id := "min") (ks := ["default"]) (cr_minDef (by rfl)) (by rfl) Z.min (by decide +kernel) (pa_cons (pv 4) pa_nil) (pk_cons pe_non pk_nil)) pa_nil))))))))), ?_⟩
  try dsimp only [cx_K]
  have lw := hw.1
  refine Sv.at (sv_asgL (xs := given ts.length (fun i => decide ((ts.getD i t0).c = c)) fun i => ws.getD i .non) ?_ fun p1 H1 n1 e1 hp1 => ?_)
  · rw [← lw]
    refine el_lcL (fun i => decide ((ts.getD i t0).c = c)) (fun i => ws.getD i .non) (ev_var rfl) ha (by omega) (fun _ => rfl) (fun i x H3 e3 hx => ?_) (fun i x H3 e3 hx _ => ?_)
    · obtain ⟨t, p, htt, rfl, hp⟩ := (hw.mono e3).at hx
      rw [getD_at htt]
      exact tp_cmp (ev_op (ev_op (ev_var rfl) ev_c (rv_ixT hp (tv0 t))) (ev_var rfl) rp_eqI)
    · rw [List.getD_eq_getElem?_getD, hx]
      exact ev_var rfl
  have hw1 := wt_filter (fun t => decide (t.c = c)) (hw.mono e1)
  have hl1 : (ts.filter fun t => decide (t.c = c)).length ≤ 20 := Nat.le_trans (List.length_filter_le _ _) hl
  have el := lows_at c ts
  have eh := highs_at c ts
  generalize (ts.filter fun t => decide (t.c = c)) = fs at hw1 hl1 el eh
  generalize given ts.length (fun i => decide ((ts.getD i t0).c = c)) (fun i => ws.getD i .non) = vs at hp1 hw1
  have hq1 : SqL K H1 p1 vs := sq_of hp1
  have lv := hw1.1
  refine sv_asgL (xs := (lowsM c ts).map V.int) ?_ fun p2 H2 n2 e2 hp2 => ?_
  · rw [← el, ← given_ints fs (fun t => decide (¬ t.lo = none)) fun t => t.lo.getD 0, ← lv]
    refine el_lcL (fun i => decide (¬ (fs.getD i t0).lo = none)) (fun i => V.int ((fs.getD i t0).lo.getD 0)) (ev_var rfl) hq1 (by omega) (fun _ => rfl) (fun i x H3 e3 hx => ?_) (fun i x H3 e3 hx hf => ?_)
    · obtain ⟨t, p, htt, rfl, hp⟩ := (hw1.mono e3).at hx
      rw [getD_at htt]
      exact tp_cmp (ev_op (ev_op (ev_var rfl) ev_c (rv_ixT hp (tv1 t))) ev_c rs_ov)
    · obtain ⟨t, p, htt, rfl, hp⟩ := (hw1.mono e3).at hx
      rw [getD_at htt] at hf ⊢
      rw [← ov_get (of_decide_eq_true hf)]
      exact ev_op (ev_var rfl) ev_c (rv_ixT hp (tv1 t))
  have hq2 := ex_l e2 hq1
  have hw2 := hw1.mono e2
  refine sv_asgL (xs := (highsM c ts).map V.int) ?_ fun p3 H3 n3 e3 hp3 => ?_
  · rw [← eh, ← given_ints fs (fun t => decide (¬ t.hi = none)) fun t => t.hi.getD 0, ← lv]
    refine el_lcL (fun i => decide (¬ (fs.getD i t0).hi = none)) (fun i => V.int ((fs.getD i t0).hi.getD 0)) (ev_var rfl) hq2 (by omega) (fun _ => rfl) (fun i x H3 e3 hx => ?_) (fun i x H3 e3 hx hf => ?_)
    · obtain ⟨t, p, htt, rfl, hp⟩ := (hw2.mono e3).at hx
      rw [getD_at htt]
      exact tp_cmp (ev_op (ev_op (ev_var rfl) ev_c (rv_ixT hp (tv2 t))) ev_c rs_ov)
    · obtain ⟨t, p, htt, rfl, hp⟩ := (hw2.mono e3).at hx
      rw [getD_at htt] at hf ⊢
      rw [← ov_get (of_decide_eq_true hf)]
      exact ev_op (ev_var rfl) ev_c (rv_ixT hp (tv2 t))
  have l2 : SqL K H3 p2 ((lowsM c ts).map V.int) := sq_of (e3 _ _ hp2)
  have l3 : SqL K H3 p3 ((highsM c ts).map V.int) := sq_of hp3
  refine sv_rqN (retN_mono ((e1.trans e2).trans e3) q) (EvU.n (xs := tv (triOf ts c)) (eu_tup (vs := tv (triOf ts c)) (ea_cons (ev_var rfl) (ea_cons (ev_maxDef (ev_var rfl) l2) (ea_cons (ev_minDef (ev_var rfl) l3) ea_nil))) (by simp [tv])))
theorem ok_merged {f : Addr} {fd : FuncData} (F : Fun K "merged" "merged" s_merged f fd) (Z : Zs mg) (c_merged_triple : Cl P w K mg base CX0 1 "merged_triple" (SpNn 2 (RMergedT K))) : FnOk P w K mg base CX0 2 f fd ["wish"] (SpQ 1 (RMerged K)) := by
  refine F.ok sc_merged (fun vs H Q E h => h.1) (fun cdv A outer s H vs Q E hr h => ?_)
  obtain ⟨_, z, ⟨a, ws, ts, rfl, ha, hw, hl, hc, rfl⟩, q⟩ := h
  refine ⟨_, (pss_cons (ps_set (i := 1) sc_merged.nd rfl (Or.inl rfl) (pe_callB (id := "sorted") (r := rSortedSet w) (cr_sortedSet rfl) (by rfl) Z.sorted (by decide +kernel) (pa_cons (pe_sci (own := [("triple", 2)]) (g := gName 2) (by rfl) sc_merged.nd (pi_list (pv 0)) (blkOk_by (own := [("triple", 2)]) (N := ["wish", "columns", "triple", "column"]) (sc := defScope s_merged) (by decide +kernel)) (fun _ _ _ _ _ => (pg_name (i := 2) sc_merged.nd rfl (Or.inl rfl))) (fun _ _ _ _ _ => (pe_ix (r := rIxT K) ix_tup (pv 2) pe_int (fun _ _ => rfl)))) pa_nil)))
      (pss_one (ps_ret (pe_lc (own := [("column", 3)]) (g := gName 3) (tt := tYes) (by rfl) sc_merged.nd (pi_list (pv 1)) (blkOk_by (own := [("column", 3)]) (N := ["wish", "columns", "triple", "column"]) (sc := defScope s_merged) (by decide +kernel)) (fun _ _ _ _ _ => (pg_name (i := 3) sc_merged.nd rfl (Or.inl rfl))) (fun _ _ _ _ _ => pts_nil) (fun _ _ _ _ _ => (pe_cl c_merged_triple hr (by decide) pass0 (by rfl) (pa_cons (pv 3) (pa_cons (pv 0) pa_nil)))))))), ?_⟩
  try dsimp only [cx_K]
  have lw := hw.1
  refine Sv.at (sv_asgN (en_sortSc (fun i => (ts.getD i t0).c) (ev_var rfl) ha (by omega) (fun _ => rfl) (fun i x hx => ?_)) ?_)
  · obtain ⟨t, p, htt, rfl, hp⟩ := hw.at hx
    rw [getD_at htt]
    exact ev_op (ev_var rfl) ev_c (rv_ixT hp (tv0 t))
  rintro v N H1 d ⟨p, ns, rfl, hp, up, mem⟩ eN e1
  have em : mergedM ts = ns.map (triOf ts) := cols_merged up (fun k => (mem k).trans ⟨fun ⟨i, hi, e⟩ => by
    have hti : ts[i]? = some (ts[i]'(by omega)) := List.getElem?_eq_getElem _
    exact ⟨_, List.mem_of_getElem? hti, by rw [← getD_at hti]; exact e⟩, fun ⟨t, ht, e⟩ => by
    obtain ⟨i, hi, rfl⟩ := List.mem_iff_getElem.mp ht
    exact ⟨i, by omega, by rw [getD_at (List.getElem?_eq_getElem hi)]; exact e⟩⟩) hc
  have ln : ns.length ≤ 6 := by
    have := mergedTo_len ts 6
    have e := congrArg List.length em
    rw [List.length_map] at e
    rw [← e]
    exact this
  have hq : SqL K H1 p (ns.map V.int) := sq_of (eN _ _ hp)
  have ha1 := ex_l e1 ha
  have hw1 := hw.mono e1
  refine sv_rqN (P := fun v N => ∃ Dl acc, v = .ref Dl ∧ N Dl = some (.lst acc) ∧ ∃ N0, Ex N0 N ∧ Wt K N0 acc ((ns.take (ns.map V.int).length).map (triOf ts))) ?_ (en_lcL (ev_var rfl) hq (by rw [List.length_map]; omega) (fun _ => rfl) (fun _ => true) (fun i acc N => Wt K N acc ((ns.take i).map (triOf ts))) Wt.nil (fun i x _ H2 _ Q q => q H2 (Ex.refl H2)) (fun i x acc N hx _ hI => ?_) (fun i acc N hf => by cases hf))
  · rintro v N2 H2 d2 ⟨Dl, acc, rfl, hD, N0, e0, hW⟩ eN2 e2
    rw [List.length_map, List.take_length, ← em] at hW
    exact q _ _ (e1.trans e2) ⟨Dl, acc, rfl, fresh_back e1 (d2 Dl (by rw [hD]; exact fun z => by cases z)), eN2 _ _ hD, hW.mono (e0.trans eN2)⟩
  · obtain ⟨n, hn, rfl⟩ := int_at hx
    refine (en_cl (vs := [.int n, .ref a]) (ea_cons (ev_var rfl) (ea_cons (ev_var rfl) ea_nil)) (spn_mergedT ha1 hw1 hl)).imp ?_
    rintro v N' ⟨p, rfl, hp⟩ N'' x1 x2
    rw [take_snoc hn, List.map_append]
    exact (hI.mono x1).snoc (st_of (x2 _ _ hp))
def RFits (K : PySem.W.Frag) : List V → Hp → V → Prop := fun vs H z => ∃ (a b : Addr) (rs : List Int) (ws : List V) (ts : List Tri), vs = [.ref a, .ref b] ∧ (SqL K H a (rs.map V.int) ∨ SqT K H a (rs.map V.int)) ∧ SqL K H b ws ∧ Wt K H ws ts ∧ ts.length ≤ 20 ∧ (∀ t ∈ ts, 0 ≤ t.c ∧ t.c < rs.length) ∧ z = .bl (fitsM rs ts)
def RFitsT (K : PySem.W.Frag) : List V → Hp → V → Prop := fun vs H z => ∃ (a p : Addr) (rs : List Int) (t : Tri), vs = [.ref a, .ref p] ∧ (SqL K H a (rs.map V.int) ∨ SqT K H a (rs.map V.int)) ∧ SqT K H p (tv t) ∧ 0 ≤ t.c ∧ t.c < rs.length ∧ z = .bl (fit1 rs t)
theorem spv_fitsT {H : Hp} {a p : Addr} {rs : List Int} {t : Tri} (h1 : SqL K H a (rs.map V.int) ∨ SqT K H a (rs.map V.int)) (h2 : SqT K H p (tv t)) (h3 : 0 ≤ t.c ∧ t.c < rs.length) : SpV (SpR 2 (RFitsT K)) [.ref a, .ref p] H (.bl (fit1 rs t)) :=
  spv rfl fun H1 e => ⟨a, p, rs, t, rfl, h1.imp (ex_l e) (ex_t e), ex_t e h2, h3.1, h3.2, rfl⟩
theorem ok_fits_triple {f : Addr} {fd : FuncData} {k : Nat} (F : Fun K "fits_triple" "fits_triple" s_fits_triple f fd) (Z : Zs mg) : FnOk P w K mg base CX0 (k + 1) f fd ["row", "triple"] (SpR 2 (RFitsT K)) := by
  refine F.ok sc_fits_triple (fun vs H Q E h => h.1) (fun cdv A outer s H vs Q E hr h => ?_)
  obtain ⟨_, z, ⟨a, p, rs, t, rfl, ha, hp, h0, h1, rfl⟩, q⟩ := h
  refine ⟨_, (pss_cons (ps_asg (pv 1) (pg_tup (by rfl) (pgs_cons (pg_name (i := 2) sc_fits_triple.nd rfl (Or.inl rfl)) (pgs_cons (pg_name (i := 3) sc_fits_triple.nd rfl (Or.inl rfl)) (pgs_cons (pg_name (i := 4) sc_fits_triple.nd rfl (Or.inl rfl)) pgs_nil)))))
      (pss_cons (ps_if (PW.pt (pw_and (pt_cmpR o_notN (pv 3) pe_non (nomark _)) (pw_and1 (pt_cmpR op_lt (pe_ix (r := rIx K) ix_seq (pv 0) (pv 2) (fun _ _ => rfl)) (pv 3) (nomark _))))) (pss_one (ps_ret pe_bl)) pss_nil)
      (pss_one (ps_ret (pe_or (pe_cmpR o_isN (pv 4) pe_non (nomark _)) (pe_one (pe_cmpR op_le (pe_ix (r := rIx K) ix_seq (pv 0) (pv 2) (fun _ _ => rfl)) (pv 4) (nomark _)))))))), ?_⟩
  try dsimp only [cx_K]
  have ir : RV (rIx K) (.ref a) (.int t.c) H (.int (rs.getD t.c.toNat 0)) := rv_ixE ha (ix_int h0 h1)
  refine Sv.at (sv_un3 (x := .int t.c) (y := ov t.lo) (z := ov t.hi) (ev_var rfl) hp ?_)
  refine sv_when (p := ¬ t.lo = none ∧ rs.getD t.c.toNat 0 < t.lo.getD 0) (tp_and (tp_cmp (ev_op (ev_var rfl) ev_c rs_ov)) fun hn => tp_cmp (ev_op (ev_op (ev_var rfl) (ev_var rfl) ir) (ev_var (by rw [← ov_get hn] <;> rfl)) rv_I0)) (fun h => ?_) (fun h => ?_)
  · have e : fit1 rs t = false := by
      rw [fit1_eq]
      exact decide_eq_false fun g => g.1 h
    rw [e] at q
    exact sv_rq q ev_c
  · have e : fit1 rs t = decide (t.hi = none ∨ rs.getD t.c.toNat 0 ≤ t.hi.getD 0) := by
      rw [fit1_eq]
      refine decide_eq_decide.mpr ⟨fun g => ?_, fun g => ⟨h, fun c => ?_⟩⟩
      · by_cases c : t.hi = none
        · exact .inl c
        · exact .inr (Int.not_lt.mp fun z => g.2 ⟨c, z⟩)
      · rcases g with g | g
        · exact c.1 g
        · omega
    rw [e] at q
    exact sv_rq q (ep_or (ev_op (ev_var rfl) ev_c rn_ov) fun hn => ev_op (ev_op (ev_var rfl) (ev_var rfl) ir) (ev_var (by rw [← ov_get hn] <;> rfl)) rv_I0)
theorem ok_fits {f : Addr} {fd : FuncData} (F : Fun K "fits" "fits" s_fits f fd) (Z : Zs mg) (c_fits_triple : Cl P w K mg base CX0 1 "fits_triple" (SpR 2 (RFitsT K))) : FnOk P w K mg base CX0 2 f fd ["row", "wish"] (SpR 2 (RFits K)) := by
  refine F.ok sc_fits (fun vs H Q E h => h.1) (fun cdv A outer s H vs Q E hr h => ?_)
  obtain ⟨_, z, ⟨a, b, rs, ws, ts, rfl, ha, hb, hw, hz, hc, rfl⟩, q⟩ := h
  refine ⟨_, (pss_one (ps_ret (pe_callB (id := "all") (r := rAll K) (cr_all rfl) (by rfl) Z.all (by decide +kernel) (pa_cons (pe_lc (own := [("triple", 2)]) (g := gName 2) (tt := tYes) (by rfl) sc_fits.nd (pi_list (pv 1)) (blkOk_by (own := [("triple", 2)]) (N := ["row", "wish", "triple"]) (sc := defScope s_fits) (by decide +kernel)) (fun _ _ _ _ _ => (pg_name (i := 2) sc_fits.nd rfl (Or.inl rfl))) (fun _ _ _ _ _ => pts_nil) (fun _ _ _ _ _ => (pe_cl c_fits_triple hr (by decide) pass0 (by rfl) (pa_cons (pv 0) (pa_cons (pv 2) pa_nil))))) pa_nil)))), ?_⟩
  try dsimp only [cx_K]
  have e : fitsM rs ts = ((ts.map (fit1 rs)).all id) := (all_id _ _).symm
  rw [e] at q
  refine Sv.at (sv_rq q (ev_allB ?_))
  rw [List.map_map]
  refine el_lcM (V.bl ∘ fit1 rs) (ev_var rfl) hb hw.1 (by have := hw.1; omega) (fun _ => rfl) fun i x m hx hm => ?_
  obtain ⟨p, e, hp⟩ := hw.2 i m hm
  rw [hx] at e
  obtain rfl := Option.some.inj e
  exact ev_cl (vs := [.ref a, .ref p]) (ea_cons (ev_var rfl) (ea_cons (ev_var rfl) ea_nil)) (spv_fitsT ha hp (hc m (List.mem_of_getElem? hm)))
/-! ### an order that is kept: the program's own -/
section
variable {C : Addr}
def RKey (K : PySem.W.Frag) (C : Addr) : List V → Hp → List V → Prop := fun vs H xs => ∃ (k r dx ct pk : Addr) (n : Int) (c row : List Int), vs = [.ref k, .int n, .ref r] ∧ H k = some (.ins C dx (kFs ct pk)) ∧ H ct = some (.tup (c.map V.int)) ∧ (SqL K H r (row.map V.int) ∨ SqT K H r (row.map V.int)) ∧ (∀ x ∈ c, 0 ≤ x ∧ x < row.length) ∧ c.length ≤ 6 ∧ xs = (keyR c row n).map V.int
theorem spl_key {H : Hp} {k r dx ct pk : Addr} {n : Int} {c row : List Int} (h1 : H k = some (.ins C dx (kFs ct pk))) (h2 : H ct = some (.tup (c.map V.int))) (h3 : SqL K H r (row.map V.int) ∨ SqT K H r (row.map V.int)) (h4 : ∀ x ∈ c, 0 ≤ x ∧ x < row.length) (h5 : c.length ≤ 6) : SpL (SpN 3 (RKey K C)) [.ref k, .int n, .ref r] H ((keyR c row n).map V.int) :=
  spl rfl fun H1 e => ⟨k, r, dx, ct, pk, n, c, row, rfl, e _ _ h1, e _ _ h2, h3.imp (ex_l e) (ex_t e), h4, h5, rfl⟩
theorem ok_key {f : Addr} {fd : FuncData} (F : Fun K "_key" "Kept._key" s_Kept__key f fd) (cls : Cls K C) (noC : NoAttr K C "columns") : FnOk P w K mg base CX0 1 f fd ["self", "number", "row"] (SpN 3 (RKey K C)) := by
  refine F.ok sc_Kept__key (fun vs H Q E h => h.1) (fun cdv A outer s H vs Q E hr h => ?_)
  obtain ⟨_, z, ⟨k, r, dx, ct, pk, n, c, row, rfl, hk, hct, hro, hc, l6, rfl⟩, q⟩ := h
  refine ⟨_, (pss_one (ps_ret (pe_op op_cat (pe_lc (own := [("column", 3)]) (g := gName 3) (tt := tYes) (by rfl) sc_Kept__key.nd (pi_tup (pe_fldK (K := K) rfl (pv 0) rfl)) (blkOk_by (own := [("column", 3)]) (N := ["self", "number", "row", "column"]) (sc := defScope s_Kept__key) (by decide +kernel)) (fun _ _ _ _ _ => (pg_name (i := 3) sc_Kept__key.nd rfl (Or.inl rfl))) (fun _ _ _ _ _ => pts_nil) (fun _ _ _ _ _ => (pe_ix (r := rIx K) ix_seq (pv 2) (pv 3) (fun _ _ => rfl)))) (pe_lst (pa_cons (pv 1) pa_nil))))), ?_⟩
  try dsimp only [cx_K]
  have e : (keyR c row n).map V.int = (c.map fun x => row.getD x.toNat 0).map V.int ++ [V.int n] := by
    unfold keyR
    rw [List.map_append]
    rfl
  rw [e] at q
  refine Sv.at (sv_rqL q (el_cat (EvL.l (el_lcTI (fun x => row.getD x.toNat 0) (ev_fld (ev_var rfl) hk cls noC rfl) (st_of hct) (by omega) (fun _ => rfl) fun x hx => ev_op (ev_var rfl) (ev_var rfl) (rv_ixE hro (ix_int (hc x hx).1 (hc x hx).2)))) (EvL.l (el_lst (vs := [.int n]) (ea_cons (ev_var rfl) ea_nil) (by simp))) ?_))
  rw [List.length_map, List.length_map]
  simp only [List.length_singleton]
  omega
theorem ok_kinit {f : Addr} {fd : FuncData} {lv : Nat} (F : Fun K "__init__" "Kept.__init__" s_Kept_init f fd) (Z : Zs mg) (cls : Cls K C) (noC : NoAttr K C "columns") (noK : NoAttr K C "_keys") : FnOk P w K mg base CX0 (lv + 1) f fd ["self", "columns"] (spKInit (keptS cls noC)) := by
  refine F.ok sc_Kept_init (fun vs H Q E h => by obtain ⟨x, dx, ct, c, rfl, _⟩ := h; rfl) (fun cdv A outer s H vs Q E hr h => ?_)
  obtain ⟨x, dx, ct, c, rfl, hx, hdx, ne, hct, h0, h6, q⟩ := h
  refine ⟨_, (pss_cons (ps_fld (pv 0) (pe_callTy (T := "tuple") (r := rTupS K) c_tuple (by rfl) Z.tuple (by decide +kernel) (pa_cons (pv 1) pa_nil)) rfl)
      (pss_one (ps_fld (pv 0) (pe_lst pa_nil) rfl))), ?_⟩
  try dsimp only [cx_K]
  have hx' : H x = some (.ins C dx []) := hx
  have nct : ct ≠ x := fun z => by rw [z, hx'] at hct; cases hct
  refine Sv.at (sv_fld (v := .ref ct) (ev_tupT (ev_var rfl) (st_of hct)) (ev_var rfl) hx' cls noC (by decide) (sv_last (sv_fldL (xs := []) (el_lst ea_nil (Nat.zero_le _)) (ev_var rfl) upd_same cls noK (by show (1 : Nat) < 1000; decide) fun p H2 np e2 hp => sv_next fun H3 e3 => ?_)))
  have npx : p ≠ x := fun z => by rw [z, upd_same] at np; cases np
  have npd : p ≠ dx := fun z => by rw [z, upd_ne ne, hdx] at np; cases np
  have npH : H p = none := by rw [upd_ne npx] at np; exact np
  have old : ∀ a o, H a = some o → a ≠ x → H3 a = some o := fun a o ha n => e3 _ _ (by
    rw [upd_ne n]
    exact e2 _ _ (by rw [upd_ne n]; exact ha))
  have hp3 : H3 p = some (.lst (([] : List Addr).map V.ref)) := e3 _ _ (by rw [upd_ne npx]; exact hp)
  have hx3 : H3 x = some (.ins C dx (kFs ct p)) := e3 _ _ upd_same
  have hd3 := old dx _ hdx ne
  refine q H3 (fun a => a = x ∨ a = dx ∨ a = p) (fun a o ha n1 n2 => old a o ha n1) (fun a ha => ?_) ⟨dx, ct, p, [], [], hx3, .inl rfl, old ct _ hct nct, hp3, .inr (.inr rfl), .nil, ⟨rfl, fun n h => (List.not_mem_nil h).elim, fun i a b h => by simp at h⟩, List.nodup_nil, fun n r h => (nomatch (show (none : Option (List Int)) = some r from h)), h6, Nat.zero_le _, fun a z => ?_⟩ (fun a z => z.imp id fun z => z.imp id fun z => by rw [z]; exact npH)
  · by_cases n : a = x
    · rw [n, hx3]
      exact fun z => by cases z
    · cases z : H a with
      | none => exact (ha z).elim
      | some o =>
        rw [old a o z n]
        exact fun z => by cases z
  · rcases z with z | z | z
    · rw [z]
      exact ⟨_, hx3, fun ⟨_, t⟩ => by cases t⟩
    · rw [z]
      exact ⟨_, hd3, fun ⟨_, t⟩ => by cases t⟩
    · rw [z]
      exact ⟨_, hp3, fun ⟨_, t⟩ => by cases t⟩
theorem rw_len {rss : List (List Int)} {c : List Int} {s : Rows} {ns : List Int} (h : rss = ns.map (ent c s)) (h6 : c.length ≤ 6) : ∀ r ∈ rss, r.length ≤ 1000 := fun r hr => by
  rw [h] at hr
  obtain ⟨m, _, rfl⟩ := List.mem_map.mp hr
  rw [ent_len]
  omega
theorem keyR_len (c row : List Int) (n : Int) : (keyR c row n).length = c.length + 1 := by
  unfold keyR
  rw [List.length_append, List.length_map]
  rfl
theorem ok_kput {f : Addr} {fd : FuncData} (F : Fun K "put" "Kept.put" s_Kept_put f fd) (cls : Cls K C) (noC : NoAttr K C "columns") (noK : NoAttr K C "_keys") (c__key : Mt P w K mg base CX0 1 C "_key" (SpN 3 (RKey K C))) (c_below : Cl P w K mg base CX0 2 "below" (SpR 2 (RBelow K))) :
    FnOk P w K mg base CX0 3 f fd ["self", "number", "row"] (SpW 3 (RKPut (keptS cls noC))) := by
  refine F.ok sc_Kept_put (fun vs H Q E h => h.1) (fun cdv A outer s H vs Q E hr h => ?_)
  obtain ⟨_, F0, T', P', ⟨k, r, n, row, c, s, rfl, at_, hro, hn, hc, l6, wide, l200, rfl, rfl⟩, q⟩ := h
  refine ⟨_, (pss_cons (ps_set (i := 3) sc_Kept_put.nd rfl (Or.inl rfl) (pe_m c__key hr (by decide) pass0 (pv 0) (pa_cons (pv 1) (pa_cons (pv 2) pa_nil))))
      (pss_one (ps_expr (pe_bm PySem.F.plainAttrs_list PySem.F.slot_list_insert PySem.F.type_list_insert m_insert (pe_fldK (K := K) rfl (pv 0) rfl) (pa_cons (pe_cl c_below hr (by decide) pass0 (by rfl) (pa_cons (pe_fldK (K := K) rfl (pv 0) rfl) (pa_cons (pv 3) pa_nil))) (pa_cons (pv 3) pa_nil)))))), ?_⟩
  try dsimp only [cx_K]
  obtain ⟨dx, ct, pk, ps, ns, h⟩ := (id at_ : KeptA C k c s F0 H)
  have ln : ns.length < 200 := by rw [h.ord.1]; exact l200
  have lp : ps.length = ns.length := by
    have := paired_len h.keys
    rw [List.length_map] at this
    exact this
  have hro' : SqL K H r (row.map V.int) ∨ SqT K H r (row.map V.int) := hro.imp (fun z => z.1) id
  refine Sv.at (sv_asgL (xs := (keyR c row n).map V.int) (el_mt (ev_var rfl) h.hk rfl (ea_cons (ev_var rfl) (ea_cons (ev_var rfl) ea_nil)) (spl_key h.hk h.hc hro' hc h.c6)) fun l H1 n1 e1 hl => ?_)
  have nl : l ≠ pk := fun z => by rw [z, h.hp] at n1; cases n1
  have hp1 := e1 _ _ h.hp
  have rw1 : Rw K H1 (ps.map V.ref) (ns.map (ent c s)) := (keptA_rw h.keys).mono e1
  have hq1 : SqL K H1 pk (ps.map V.ref) := sq_of hp1
  have hl1 : SqL K H1 l ((keyR c row n).map V.int) := sq_of hl
  have fk := ev_fld (ta := tVar 0) (σ := [some (.ref k), some (.int n), some (.ref r), some (.ref l)]) (ev_var rfl) (e1 _ _ h.hk) cls noK (v := .ref pk) rfl
  have kl := keyR_len c row n
  have c6 := h.c6
  refine sv_last (sv_insert (i := ((cntA c s ns (keyR c row n) : Nat) : Int)) hp1 fk (ev_cl (vs := [.ref pk, .ref l]) (ea_cons fk (ea_cons (ev_var rfl) ea_nil)) (spv rfl fun H2 e => ⟨pk, l, _, _, _, rfl, ex_l e hq1, rw1.mono e, ex_l e hl1, by rw [List.length_map]; omega, rw_len rfl h.c6, by omega, asc_anti h.ord.asc _, rfl⟩)) (ev_var rfl) (by omega) ?_ (by rw [List.length_map]; omega) (sv_next fun H3 e3 => ?_))
  · have := cntA_le c s ns (keyR c row n)
    omega
  rw [Int.toNat_natCast, ← List.map_take, ← List.map_drop, show [V.ref l] = [l].map V.ref from rfl, ← List.map_append, ← List.map_append] at e3
  have kp : ∀ a o, a ≠ pk → H a = some o → H3 a = some o := fun a o ne ha => e3 _ _ (by
    rw [upd_ne ne]
    exact e1 _ _ ha)
  have hp3 := e3 _ _ upd_same
  have at3 := h.put hn l200 kp (e3 _ _ (by rw [upd_ne nl]; exact hl)) hp3
  refine q .non nonew H3 (fun a => F0 a ∨ a = l) ⟨fun a o ha nt => kp a o (fun z => ?_) ha, fun a ha => ?_⟩ ⟨dx, ct, pk, _, _, at3⟩ (fun a z => z.imp id fun z => by rw [z]; exact n1) (fun a z => (z rfl).elim) nonew_ex rfl
  · rw [z, h.hp] at ha
    obtain ⟨xs, t⟩ := nt (z ▸ h.fp)
    rw [← Option.some.inj ha] at t
    cases t
  · by_cases z : a = pk
    · rw [z, hp3]
      exact fun z => by cases z
    · cases y : H a with
      | none => exact (ha y).elim
      | some o =>
        rw [kp a o z y]
        exact fun z => by cases z
theorem last_key {F0 : Reg} {H H1 : Hp} {c : List Int} {s : Rows} {ps : List Addr} {ns : List Int} {i : Nat} {x : V} {m : Int} (h : Paired (KeyAt F0 H) ps (ns.map (ent c s))) (e : Ex H H1) (hx : (ps.map V.ref)[i]? = some x) (hm : ns[i]? = some m) : ∃ p, x = .ref p ∧ RV (rIxL K) (.ref p) (.int (-1)) H1 (.int m) := by
  obtain ⟨p, hp, ⟨g, _⟩⟩ := paired_get h (i := i) (y := ent c s m) (by rw [List.getElem?_map, hm]; rfl)
  rw [List.getElem?_map, hp] at hx
  refine ⟨p, (Option.some.inj hx).symm, rv_ixL (sq_of (e _ _ g)) ?_⟩
  rw [ent_app]
  exact atI_end _ _
theorem ok_knumbers {f : Addr} {fd : FuncData} {lv : Nat} (F : Fun K "numbers" "Kept.numbers" s_Kept_numbers f fd) (cls : Cls K C) (noC : NoAttr K C "columns") (noK : NoAttr K C "_keys") :
    FnOk P w K mg base CX0 (lv + 1) f fd ["self"] (SpW 1 (RKNumbers (keptS cls noC))) := by
  refine F.ok sc_Kept_numbers (fun vs H Q E h => h.1) (fun cdv A outer s H vs Q E hr h => ?_)
  obtain ⟨_, F0, T', P', ⟨k, c, s, rfl, at_, rfl, rfl⟩, q⟩ := h
  refine ⟨_, (pss_one (ps_ret (pe_lc (own := [("key", 1)]) (g := gName 1) (tt := tYes) (by rfl) sc_Kept_numbers.nd (pi_list (pe_fldK (K := K) rfl (pv 0) rfl)) (blkOk_by (own := [("key", 1)]) (N := ["self", "key"]) (sc := defScope s_Kept_numbers) (by decide +kernel)) (fun _ _ _ _ _ => (pg_name (i := 1) sc_Kept_numbers.nd rfl (Or.inl rfl))) (fun _ _ _ _ _ => pts_nil) (fun _ _ _ _ _ => (pe_ix (r := rIxL K) ix_list (pv 1) (pe_un un_neg pe_int) (fun _ _ => rfl)))))), ?_⟩
  try dsimp only [cx_K]
  obtain ⟨dx, ct, pk, ps, ns, h⟩ := (id at_ : KeptA C k c s F0 H)
  have lp : ps.length = ns.length := by
    have := paired_len h.keys
    rw [List.length_map] at this
    exact this
  have ln : ns.length ≤ 200 := by rw [h.ord.1]; exact h.l2
  refine Sv.at (sv_rqN (ret_pure ((keptS cls noC).regn _ _ _) at_ q) ((EvL.n (xs := ns.map V.int) (el_lcM V.int (ev_fld (ev_var rfl) h.hk cls noK rfl) (sq_of h.hp) ((List.length_map _).trans lp) (by rw [List.length_map]; omega) (fun _ => rfl) fun i x m hx hm => ?_)).imp ?_))
  · obtain ⟨p, rfl, rx⟩ := last_key (K := K) h.keys (Ex.refl H) hx hm
    exact ev_op (ev_var rfl) (ev_neg ev_c) rx
  · rintro v N ⟨p, rfl, hp⟩
    exact ⟨p, ns, rfl, hp, h.ord⟩
end
/-! ### the program's stretches -/
def RFirst (K : PySem.W.Frag) : List V → Hp → (V → Hp → Prop) → Prop := fun vs H P => ∃ (ct b : Addr) (c : List Int) (ws : List V) (ts : List Tri), vs = [.ref ct, .ref b] ∧ H ct = some (.tup (c.map V.int)) ∧ SqL K H b ws ∧ Wt K H ws ts ∧ ts.length ≤ 20 ∧ (∀ t ∈ ts, 0 ≤ t.c ∧ t.c < 6) ∧ c.length ≤ 6 ∧
  P = fun v H2 => ∃ p pf pl, v = .ref p ∧ H2 p = some (.tup [.ref pf, .ref pl]) ∧ H2 pf = some (.lst ((faF c ts).map V.int)) ∧ H2 pl = some (.lst ((faT c ts).map V.int))
theorem ok_first {f : Addr} {fd : FuncData} (F : Fun K "first_and_last" "first_and_last" s_first_and_last f fd) (Z : Zs mg) (c_merged : Cl P w K mg base CX0 2 "merged" (SpQ 1 (RMerged K))) : FnOk P w K mg base CX0 3 f fd ["columns", "wish"] (SpQ 2 (RFirst K)) := by
  refine F.ok sc_first_and_last (fun vs H Q E h => h.1) (fun cdv A outer s H vs Q E hr h => ?_)
  obtain ⟨_, z, ⟨ct, b, c, ws, ts, rfl, hct, hb, hW, lt, htc, lc, rfl⟩, q⟩ := h
  refine ⟨_, (pss_cons (ps_setDc (i := 2) (own := [("column", 5), ("low", 6), ("high", 7)]) (g := gTup K 3 (gCons (gName 5) (gCons (gName 6) (gCons (gName 7) gNil)))) (tt := tYes) rfl sc_first_and_last.nd rfl rfl (swd_true rfl rfl rfl (by decide +kernel)) (pi_list (pe_cl c_merged hr (by decide) pass0 (by rfl) (pa_cons (pv 1) pa_nil))) (blkOk_by (own := [("column", 5), ("low", 6), ("high", 7)]) (N := ["columns", "wish", "ends", "first", "last", "column", "low", "high", "pinned"]) (sc := defScope s_first_and_last) (by decide +kernel)) (fun _ _ _ _ _ => (pg_tup (by rfl) (pgs_cons (pg_name (i := 5) sc_first_and_last.nd rfl (Or.inl rfl)) (pgs_cons (pg_name (i := 6) sc_first_and_last.nd rfl (Or.inl rfl)) (pgs_cons (pg_name (i := 7) sc_first_and_last.nd rfl (Or.inl rfl)) pgs_nil))))) (fun _ _ _ _ _ => pts_nil) (fun _ _ _ _ _ => (pv 5)) (fun _ _ _ _ _ => (pe_tup (pa_cons (pv 6) (pa_cons (pv 7) pa_nil)))))
      (pss_cons (ps_set (i := 3) sc_first_and_last.nd rfl (Or.inl rfl) (pe_lst pa_nil))
      (pss_cons (ps_set (i := 4) sc_first_and_last.nd rfl (Or.inl rfl) (pe_lst pa_nil))
      (pss_cons (ps_for PassesOwn.never rfl (pi_tup (pv 0)) (pg_name (i := 5) sc_first_and_last.nd rfl (Or.inl rfl)) (pss_cons (ps_asg (pe_dget2 (hu_of hr) (pv 2) (pv 5) (pe_tup (pa_cons pe_non (pa_cons pe_non pa_nil))) ⟨by rfl, by rfl, by rfl, by rfl⟩) (pg_tup (by rfl) (pgs_cons (pg_name (i := 6) sc_first_and_last.nd rfl (Or.inl rfl)) (pgs_cons (pg_name (i := 7) sc_first_and_last.nd rfl (Or.inl rfl)) pgs_nil)))) (pss_cut (ps_if (pt_cmpR o_notN (pv 6) pe_non (nomark _)) (pss_one (ps_expr (pe_bm PySem.F.plainAttrs_list PySem.F.slot_list_append PySem.F.type_list_append mt_append (pv 3) (pa_cons (pv 6) pa_nil)))) pss_nil) (pss_cut (ps_if (pt_cmpR o_notN (pv 7) pe_non (nomark _)) (pss_one (ps_expr (pe_bm PySem.F.plainAttrs_list PySem.F.slot_list_append PySem.F.type_list_append mt_append (pv 4) (pa_cons (pv 7) pa_nil)))) pss_nil) (pss_cons (ps_set (i := 8) sc_first_and_last.nd rfl (Or.inl rfl) (pe_and (pe_cmpR o_notN (pv 6) pe_non (nomark _)) (pe_one (pe_cmpR op_eq (pv 6) (pv 7) (nomark _))))) (pss_one (ps_if (pt_not (pt_val (pv 8))) (pss_one ps_break) pss_nil)))))))
      (pss_one (ps_ret (pe_tup (pa_cons (pv 3) (pa_cons (pv 4) pa_nil))))))))), ?_⟩
  try dsimp only [cx_K]
  have em : mergedM ts = (colsTo ts 6).map (triOf ts) := mergedTo_cols ts 6
  have ndm : ((mergedM ts).map (·.c)).Nodup := by
    rw [em, List.map_map]
    have e : ((fun t : Tri => t.c) ∘ triOf ts) = id := rfl
    rw [e, List.map_id]
    exact (colsTo_up ts 6).imp fun h e => by omega
  have lm : (mergedM ts).length ≤ 6 := mergedTo_len ts 6
  refine Sv.at (sv_asgP (ep_dcT (ms := mergedM ts) ((ep_cl (vs := [.ref b]) (ea_cons (ev_var rfl) ea_nil) (spq_merged hb hW lt htc)).imp fun v H2 _ ⟨p, acc, h1, _, h3, h4⟩ => ⟨p, acc, h1, h3, h4⟩) ndm (by omega) (fun _ _ _ => rfl) (fun _ _ _ => rfl) (fun _ _ _ => rfl) (fun _ _ _ => rfl)) ?_)
  rintro v H1 e1 ⟨D, kvs, rfl, hD, en⟩
  -- what the dict gives for a column
  have get : ∀ (x : Int) (o : V) (H2 : Hp), Ex H1 H2 → (∃ q, H2 q = some (.tup [.non, .non]) ∧ o = (valV kvs (Sum.inl x)).getD (.ref q)) → ∃ q, o = .ref q ∧ H2 q = some (.tup [ov (endLo x ts), ov (endHi x ts)]) := fun x o H2 e ⟨q0, h0, ho⟩ => by
    rcases en x with ⟨t, q1, h1, h2, h3, h4⟩ | ⟨h1, h2⟩
    · rw [em] at h1
      obtain ⟨y, hy, rfl⟩ := List.mem_map.mp h1
      have ey : y = x := h2
      subst ey
      rw [h3] at ho
      exact ⟨q1, ho, e _ _ h4⟩
    · rw [h2] at ho
      have ns : ¬ spoken x ts := fun g => by
        obtain ⟨t, t1, t2⟩ := spoken_iff.mp g
        have b6 := htc t t1
        refine h1 (triOf ts x) ?_ rfl
        rw [em]
        exact List.mem_map.mpr ⟨x, (colsTo_mem ts x 6).mpr ⟨g, by omega, by omega⟩, rfl⟩
      rw [endLo_un ns, endHi_un ns]
      exact ⟨q0, ho, h0⟩
  refine sv_asgL (xs := []) (el_lst ea_nil (Nat.zero_le _)) fun pf H2 nf e2 hf => sv_asgL (xs := []) (el_lst ea_nil (Nat.zero_le _)) fun pl H3 nl e3 hl => ?_
  have hf3 := e3 _ _ hf
  have nfl : pf ≠ pl := fun z => by rw [z, nl] at hf; cases hf
  have nH1 : ∀ {a o}, H1 a = some o → a ≠ pf ∧ a ≠ pl := fun {a o} ha => by
    refine ⟨fun z => ?_, fun z => ?_⟩
    · rw [z, nf] at ha
      cases ha
    · have g := e2 _ _ ha
      rw [z, nl] at g
      cases g
  -- the end of both ways
  have fin : ∀ (σ' : L2.St) (H' : Hp), σ'[3]? = some (some (.ref pf)) → σ'[4]? = some (some (.ref pl)) → Ex H1 H' → H' pf = some (.lst ((faF c ts).map V.int)) → H' pl = some (.lst ((faT c ts).map V.int)) → ∀ {nx bk ct}, Sv (tRet (tTup (tCons (tVar 3) (tCons (tVar 4) tNil)))) { nx := nx, rt := Q, bk := bk, ct := ct } σ' H' := fun σ' H' h3 h4 e hf hl nx bk ct =>
    sv_retU (eu_tup (vs := [.ref pf, .ref pl]) (ea_cons (ev_var h3) (ea_cons (ev_var h4) ea_nil)) (by simp)) fun p H4 n4 e4 hp => q _ _ (e1.trans (e.trans e4)) ⟨p, pf, pl, rfl, hp, e4 _ _ hf, e4 _ _ hl⟩
  refine sv_forT (ev_var rfl) (st_of ((e1.trans (e2.trans e3)) _ _ hct)) (fun i σ' H' => ∃ pre y5 y6 y7 y8, σ' = [some (.ref ct), some (.ref b), some (.ref D), some (.ref pf), some (.ref pl), y5, y6, y7, y8] ∧ Ex H1 H' ∧ H' pf = some (.lst (pre.map V.int)) ∧ H' pl = some (.lst (pre.map V.int)) ∧ pre.length ≤ i ∧ faF c ts = pre ++ faF (c.drop i) ts ∧ faT c ts = pre ++ faT (c.drop i) ts)
    ⟨[], _, _, _, _, rfl, e2.trans e3, hf3, hl, Nat.le_refl _, rfl, rfl⟩ (fun i σ' H' ⟨_, _, _, _, _, _, e, _⟩ => st_of ((e1.trans e) _ _ hct)) ?_ ?_
  · rintro i y σ' H' hy ⟨pre, y5, y6, y7, y8, rfl, e, h1, h2, lp, hF, hT⟩
    obtain ⟨x, hx, rfl⟩ := int_at hy
    have hi := (List.getElem?_eq_some_iff.mp hx).1
    have ed : c.drop i = x :: c.drop (i + 1) := by
      rw [List.drop_eq_getElem_cons hi]
      congr 1
      exact (List.getElem?_eq_some_iff.mp hx).2
    rw [ed] at hF hT
    refine sv_un2 (ep_dget2 (kvs := kvs) (k := Sum.inl x) (ev_var rfl) (e _ _ hD) (ev_var rfl) (eu_tup (vs := [.non, .non]) (ea_cons ev_c (ea_cons ev_c ea_nil)) (by simp))) fun o H4 e4 ho => ?_
    obtain ⟨q1, rfl, hq1⟩ := get x o H4 (e.trans e4) ho
    refine ⟨q1, _, _, rfl, st_of hq1, ?_⟩
    have e14 := e.trans e4
    have f4 := e4 _ _ h1
    have l4 := e4 _ _ h2
    have eF : faF (x :: c.drop (i + 1)) ts = if endLo x ts = none ∨ ¬ endLo x ts = endHi x ts then (endLo x ts).toList else (endLo x ts).getD 0 :: faF (c.drop (i + 1)) ts := rfl
    have eT : faT (x :: c.drop (i + 1)) ts = if endLo x ts = none ∨ ¬ endLo x ts = endHi x ts then (endHi x ts).toList else (endLo x ts).getD 0 :: faT (c.drop (i + 1)) ts := rfl
    rw [eF] at hF
    rw [eT] at hT
    generalize endLo x ts = lo at hF hT
    generalize endHi x ts = hi' at hF hT
    clear hq1 eF eT
    refine sv_cut (fun σ' H5 => σ' = [some (.ref ct), some (.ref b), some (.ref D), some (.ref pf), some (.ref pl), some (.int x), some (ov lo), some (ov hi'), y8] ∧ Ex H1 H5 ∧ H5 pf = some (.lst ((pre ++ lo.toList).map V.int)) ∧ H5 pl = some (.lst (pre.map V.int))) ?_ ?_
    · refine sv_if' (p := ¬ lo = none) (tp_cmp (ev_op (ev_var rfl) ev_c rs_ov)) (fun hlo => ?_) (fun hlo => sv_kn ⟨rfl, e14, ?_, l4⟩)
      · refine sv_last (sv_app f4 (ev_var rfl) (ev_var rfl) (by rw [List.length_map]; omega) (sv_kn ⟨rfl, fun a o ha => ?_, ?_, ?_⟩))
        · rw [upd_ne (nH1 ha).1]
          exact e14 _ _ ha
        · rw [upd_same, List.map_append]
          cases lo with
          | none => exact (hlo rfl).elim
          | some l => rfl
        · rw [upd_ne nfl.symm]
          exact l4
      · have hlo' : lo = none := Decidable.of_not_not hlo
        subst hlo'
        rw [show (none : Option Int).toList = [] from rfl, List.append_nil]
        exact f4
    rintro σ' H5 ⟨rfl, e5, f5, l5⟩
    refine sv_cut (fun σ' H6 => σ' = [some (.ref ct), some (.ref b), some (.ref D), some (.ref pf), some (.ref pl), some (.int x), some (ov lo), some (ov hi'), y8] ∧ Ex H1 H6 ∧ H6 pf = some (.lst ((pre ++ lo.toList).map V.int)) ∧ H6 pl = some (.lst ((pre ++ hi'.toList).map V.int))) ?_ ?_
    · refine sv_if' (p := ¬ hi' = none) (tp_cmp (ev_op (ev_var rfl) ev_c rs_ov)) (fun hhi => ?_) (fun hhi => sv_kn ⟨rfl, e5, f5, ?_⟩)
      · refine sv_last (sv_app l5 (ev_var rfl) (ev_var rfl) (by rw [List.length_map]; omega) (sv_kn ⟨rfl, fun a o ha => ?_, ?_, ?_⟩))
        · rw [upd_ne (nH1 ha).2]
          exact e5 _ _ ha
        · rw [upd_ne nfl]
          exact f5
        · rw [upd_same, List.map_append]
          cases hi' with
          | none => exact (hhi rfl).elim
          | some l => rfl
      · have hhi' : hi' = none := Decidable.of_not_not hhi
        subst hhi'
        rw [show (none : Option Int).toList = [] from rfl, List.append_nil]
        exact l5
    rintro σ' H6 ⟨rfl, e6, f6, l6⟩
    refine sv_asg (v := .bl (decide (¬ lo = none ∧ lo = hi'))) (ep_and (ev_op (ev_var rfl) ev_c rs_ov) fun _ => ev_op (ev_var rfl) (ev_var rfl) rp_eqO) ?_
    refine sv_if' (p := ¬ (¬ lo = none ∧ lo = hi')) (tp_not (tp_val (ev_var rfl))) (fun h => ?_) (fun h => ?_)
    · have hp : lo = none ∨ ¬ lo = hi' := by
        by_cases g : lo = none
        · exact .inl g
        · exact .inr fun z => h ⟨g, z⟩
      rw [if_pos hp] at hF hT
      refine sv_break fun H7 e7 => fin _ _ rfl rfl e6 ?_ ?_ H7 e7
      · rw [hF]
        exact f6
      · rw [hT]
        exact l6
    · have hh := Decidable.of_not_not h
      have hp : ¬ (lo = none ∨ ¬ lo = hi') := fun g => g.elim hh.1 fun z => z hh.2
      rw [if_neg hp] at hF hT
      cases lo with
      | none => exact absurd (.inl rfl) hp
      | some l =>
        have eh : hi' = some l := hh.2.symm
        subst eh
        refine sv_kn ⟨pre ++ [l], _, _, _, _, rfl, e6, f6, l6, ?_, ?_, ?_⟩
        · rw [List.length_append]
          simp only [List.length_singleton]
          omega
        · rw [hF, List.append_assoc]
          rfl
        · rw [hT, List.append_assoc]
          rfl
  · rintro σ' H' ⟨pre, y5, y6, y7, y8, rfl, e, h1, h2, lp, hF, hT⟩
    rw [List.length_map, List.drop_length] at hF hT
    rw [show faF [] ts = [] from rfl, List.append_nil] at hF
    rw [show faT [] ts = [] from rfl, List.append_nil] at hT
    refine fin _ _ rfl rfl e ?_ ?_
    · rw [hF]
      exact h1
    · rw [hT]
      exact h2
def RThrough (K : PySem.W.Frag) : List V → Hp → V → Prop := fun args H z => ∃ (a b : Addr) (vs : List V) (rss : List (List Int)) (l : List Int), args = [.ref a, .ref b] ∧ SqL K H a vs ∧ Rw K H vs rss ∧ SqL K H b (l.map V.int) ∧ rss.length ≤ 100000 ∧ (∀ r ∈ rss, r.length ≤ 1000) ∧ l.length ≤ 900 ∧
  (∀ key : List Int, ∀ (i j : Nat) ri rj, rss[i]? = some ri → rss[j]? = some rj → i ≤ j → ahead rj key = true → ahead ri key = true) ∧ z = .int ((if l = [] then rss.length else (rss.filter fun r => ahead r (incL l)).length : Nat) : Int)
theorem ok_through {f : Addr} {fd : FuncData} (F : Fun K "through" "through" s_through f fd) (Z : Zs mg) (c_below : Cl P w K mg base CX0 2 "below" (SpR 2 (RBelow K))) : FnOk P w K mg base CX0 3 f fd ["keys", "last"] (SpR 2 (RThrough K)) := by
  refine F.ok sc_through (fun vs H Q E h => h.1) (fun cdv A outer s H vs Q E hr h => ?_)
  obtain ⟨_, z, ⟨a, b, vs, rss, l, rfl, hA, hR, hB, l1, l2, l3, anti, rfl⟩, q⟩ := h
  refine ⟨_, (pss_cons (ps_if (pt_not (pt_tru (pv 1))) (pss_one (ps_ret (pe_callB (id := "len") (r := rLenS K) c_len (by rfl) Z.len PySem.boot_len (pa_cons (pv 0) pa_nil)))) pss_nil)
      (pss_one (ps_ret (pe_cl c_below hr (by decide) pass0 (by rfl) (pa_cons (pv 0) (pa_cons (pe_op op_cat (pe_slice (r := rSlL K) sl_list (pv 1) po_none (po_some (pe_un un_neg pe_int))) (pe_lst (pa_cons (pe_op op_add (pe_ix (r := rIxL K) ix_list (pv 1) (pe_un un_neg pe_int) (fun _ _ => rfl)) pe_int) pa_nil))) pa_nil)))))), ?_⟩
  try dsimp only [cx_K]
  refine Sv.at (sv_ifB (et_not (et_lst (ev_var rfl) hB)) (fun h => ?_) (fun h => ?_))
  · have e : l = [] := by
      cases l with
      | nil => rfl
      | cons x l => cases h
    rw [if_pos e, ← hR.1] at q
    exact sv_rq q (ev_lenL (ev_var rfl) hA)
  · have e : ¬ l = [] := fun z => by
      rw [z] at h
      cases h
    rw [if_neg e] at q
    have hl : 0 < l.length := List.length_pos_iff.mpr e
    have hla : atI (l.map V.int) (-1) = some (.int (l.getD (l.length - 1) 0)) := by
      have g := atI_end ((l.take (l.length - 1)).map V.int) (V.int (l.getD (l.length - 1) 0))
      have e2 : (l.take (l.length - 1)).map V.int ++ [V.int (l.getD (l.length - 1) 0)] = l.map V.int := by
        rw [show [V.int (l.getD (l.length - 1) 0)] = [l.getD (l.length - 1) 0].map V.int from rfl, ← List.map_append]
        congr 1
        rw [List.getD_eq_getElem?_getD, List.getElem?_eq_getElem (by omega)]
        show l.take (l.length - 1) ++ [l[l.length - 1]] = l
        rw [List.take_append_getElem, List.take_of_length_le (by omega)]
      rw [e2] at g
      exact g
    have xl : EvL (tOp rCat (tSl (rSlL K) (tVar 1) tNoPart (tPart (tUn (rU fun i => .int (-i)) (tC (.int 1))))) (tLst (tCons (tOp (rI0 fun i j => .int (i + j)) (tOp (rIxL K) (tVar 1) (tUn (rU fun i => .int (-i)) (tC (.int 1)))) (tC (.int 1))) tNil))) [some (.ref a), some (.ref b)] H ((incL l).map V.int) := by
      have g := el_cat (EvL.l (el_sl (K := K) (te := tVar 1) (σ := [some (.ref a), some (.ref b)]) (ev_var rfl) eo_none (eo_some (ev_neg ev_c)) hB)) (EvL.l (el_lst (vs := [.int (l.getD (l.length - 1) 0 + 1)]) (ea_cons (ev_op (ev_op (ev_var (i := 1) rfl) (ev_neg ev_c) (rv_ixL hB hla)) ev_c (rv_I0 (g := fun i j => .int (i + j)))) ea_nil) (by simp))) (by
        rw [cut_m1, List.length_take, List.length_map]
        simp only [List.length_singleton]
        omega)
      have e2 : cutV (l.map V.int) none (some (-1)) ++ [V.int (l.getD (l.length - 1) 0 + 1)] = (incL l).map V.int := by
        rw [cut_m1, List.length_map]
        unfold incL
        rw [List.map_append, List.map_take]
        rfl
      rw [e2] at g
      exact g
    have li : (incL l).length ≤ 1000 := by
      unfold incL
      rw [List.length_append, List.length_take]
      simp only [List.length_singleton]
      omega
    exact sv_rq q (ev_clL (ev_var rfl) xl fun p H1 e hp => spv rfl fun H2 e2 => ⟨a, p, vs, rss, incL l, rfl, ex_l (e.trans e2) hA, hR.mono (e.trans e2), ex_l e2 (sq_of hp), l1, l2, li, anti (incL l), rfl⟩)
section
variable {C : Addr}
theorem ok_kcovers {f : Addr} {fd : FuncData} {lv : Nat} (F : Fun K "covers" "Kept.covers" s_Kept_covers f fd) (Z : Zs mg) (cls : Cls K C) (noC : NoAttr K C "columns") (noK : NoAttr K C "_keys") :
    FnOk P w K mg base CX0 (lv + 1) f fd ["self", "wish"] (SpW 2 (RKCovers (keptS cls noC))) := by
  refine F.ok sc_Kept_covers (fun vs H Q E h => h.1) (fun cdv A outer s H vs Q E hr h => ?_)
  obtain ⟨_, F0, T', P', ⟨k, b, c, s, ws, ts, rfl, at_, hb, hW, lt, rfl, rfl⟩, q⟩ := h
  refine ⟨_, (pss_one (ps_ret (pe_callB (id := "all") (r := rAll K) (cr_all rfl) (by rfl) Z.all (by decide +kernel) (pa_cons (pe_lc (own := [("triple", 2)]) (g := gName 2) (tt := tYes) (by rfl) sc_Kept_covers.nd (pi_list (pv 1)) (blkOk_by (own := [("triple", 2)]) (N := ["self", "wish", "triple"]) (sc := defScope s_Kept_covers) (by decide +kernel)) (fun _ _ _ _ _ => (pg_name (i := 2) sc_Kept_covers.nd rfl (Or.inl rfl))) (fun _ _ _ _ _ => pts_nil) (fun _ _ _ _ _ => (pe_cmpR (r := rIn K false) op_in_seq (pe_ix (r := rIxT K) ix_tup (pv 2) pe_int (fun _ _ => rfl)) (pe_fldK (K := K) rfl (pv 0) rfl) (by rfl)))) pa_nil)))), ?_⟩
  try dsimp only [cx_K]
  obtain ⟨dx, ct, pk, ps, ns, h⟩ := (id at_ : KeptA C k c s F0 H)
  have e : (ts.all fun t => decide (t.c ∈ c)) = ((ts.map fun t => decide (t.c ∈ c)).all id) := (all_id _ _).symm
  rw [e] at q
  refine Sv.at (sv_rqN (ret_pure ((keptS cls noC).regn _ _ _) at_ q) ((Ev.n (ev_allB (bs := ts.map fun t => decide (t.c ∈ c)) ?_))))
  rw [List.map_map]
  refine el_lcM (V.bl ∘ fun t : Tri => decide (t.c ∈ c)) (ev_var rfl) hb hW.1 (by have := hW.1; omega) (fun _ => rfl) fun i x m hx hm => ?_
  obtain ⟨p, e, hp⟩ := hW.2 i m hm
  rw [hx] at e
  obtain rfl := Option.some.inj e
  refine ev_op (ev_op (ev_var rfl) ev_c (rv_ixT hp (tv0 m))) (ev_fld (ev_var rfl) h.hk cls noC rfl) ?_
  show RV _ _ _ _ (.bl (decide (m.c ∈ c)))
  rw [← inV_ints]
  exact rv_isT (st_of h.hc) rfl (flat_ints c)
theorem ok_kstretch {f : Addr} {fd : FuncData} (F : Fun K "stretch" "Kept.stretch" s_Kept_stretch f fd) (cls : Cls K C) (noC : NoAttr K C "columns") (noK : NoAttr K C "_keys") (c_first_and_last : Cl P w K mg base CX0 3 "first_and_last" (SpQ 2 (RFirst K)))
    (c_below : Cl P w K mg base CX0 2 "below" (SpR 2 (RBelow K))) (c_through : Cl P w K mg base CX0 3 "through" (SpR 2 (RThrough K))) : FnOk P w K mg base CX0 4 f fd ["self", "wish"] (SpW 2 (RKStretch (keptS cls noC))) := by
  refine F.ok sc_Kept_stretch (fun vs H Q E h => h.1) (fun cdv A outer s H vs Q E hr h => ?_)
  obtain ⟨_, F0, T', P', ⟨k, b, c, s, ws, ts, wd, rfl, at_, hb, hW, lt, l6, wide, htc, hcc, l200, rfl, rfl⟩, q⟩ := h
  refine ⟨_, (pss_cons (ps_asg (pe_cl c_first_and_last hr (by decide) pass0 (by rfl) (pa_cons (pe_fldK (K := K) rfl (pv 0) rfl) (pa_cons (pv 1) pa_nil))) (pg_tup (by rfl) (pgs_cons (pg_name (i := 2) sc_Kept_stretch.nd rfl (Or.inl rfl)) (pgs_cons (pg_name (i := 3) sc_Kept_stretch.nd rfl (Or.inl rfl)) pgs_nil))))
      (pss_cons (ps_set (i := 4) sc_Kept_stretch.nd rfl (Or.inl rfl) (pe_cl c_below hr (by decide) pass0 (by rfl) (pa_cons (pe_fldK (K := K) rfl (pv 0) rfl) (pa_cons (pv 2) pa_nil))))
      (pss_cons (ps_set (i := 5) sc_Kept_stretch.nd rfl (Or.inl rfl) (pe_cl c_through hr (by decide) pass0 (by rfl) (pa_cons (pe_fldK (K := K) rfl (pv 0) rfl) (pa_cons (pv 3) pa_nil))))
      (pss_one (ps_ret (pe_lc (own := [("key", 6)]) (g := gName 6) (tt := tYes) (by rfl) sc_Kept_stretch.nd (pi_list (pe_slice (r := rSlL K) sl_list (pe_fldK (K := K) rfl (pv 0) rfl) (po_some (pv 4)) (po_some (pv 5)))) (blkOk_by (own := [("key", 6)]) (N := ["self", "wish", "first", "last", "start", "end", "key"]) (sc := defScope s_Kept_stretch) (by decide +kernel)) (fun _ _ _ _ _ => (pg_name (i := 6) sc_Kept_stretch.nd rfl (Or.inl rfl))) (fun _ _ _ _ _ => pts_nil) (fun _ _ _ _ _ => (pe_ix (r := rIxL K) ix_list (pv 6) (pe_un un_neg pe_int) (fun _ _ => rfl))))))))), ?_⟩
  try dsimp only [cx_K]
  obtain ⟨dx, ct, pk, ps, ns, h⟩ := (id at_ : KeptA C k c s F0 H)
  have ln : ns.length ≤ 200 := by rw [h.ord.1]; exact h.l2
  have lp : ps.length = ns.length := by
    have := paired_len h.keys
    rw [List.length_map] at this
    exact this
  have c6 := h.c6
  have lF := faF_len c ts
  have lT := faT_len c ts
  have rw0 : Rw K H (ps.map V.ref) (ns.map (ent c s)) := keptA_rw h.keys
  have hq0 : SqL K H pk (ps.map V.ref) := sq_of h.hp
  refine Sv.at (sv_un2 (ep_cl (vs := [.ref ct, .ref b]) (ea_cons (ev_fld (ev_var rfl) h.hk cls noC rfl) (ea_cons (ev_var rfl) ea_nil)) (spq (P := fun v H2 => ∃ p pf pl, v = .ref p ∧ H2 p = some (.tup [.ref pf, .ref pl]) ∧ H2 pf = some (.lst ((faF c ts).map V.int)) ∧ H2 pl = some (.lst ((faT c ts).map V.int))) rfl fun H1 e => ⟨_, ⟨ct, b, c, ws, ts, rfl, e _ _ h.hc, ex_l e hb, hW.mono e, lt, fun t ht => by have := htc t ht; omega, c6, rfl⟩, fun v H2 h => h⟩)) fun v H1 e1 ⟨p, pf, pl, ev, hp, hf, hl⟩ => ?_)
  refine ⟨p, _, _, ev, st_of hp, ?_⟩
  have fk : ∀ (σ' : L2.St) (H' : Hp), Ex H H' → σ'[0]? = some (some (.ref k)) → Ev (tFld K (tVar 0) "_keys") σ' H' (.ref pk) := fun σ' H' e h0 => ev_fld (ev_var h0) (e _ _ h.hk) cls noK rfl
  refine sv_asg (v := .int ((cntA c s ns (faF c ts) : Nat) : Int)) (ev_cl (vs := [.ref pk, .ref pf]) (ea_cons (fk _ _ e1 rfl) (ea_cons (ev_var rfl) ea_nil)) (spv rfl fun H2 e => ⟨pk, pf, _, _, _, rfl, ex_l (e1.trans e) hq0, rw0.mono (e1.trans e), ex_l e (sq_of hf), by rw [List.length_map]; omega, rw_len rfl h.c6, by omega, asc_anti h.ord.asc _, rfl⟩)) ?_
  refine sv_asg (v := .int ((if faT c ts = [] then ns.length else cntA c s ns (incL (faT c ts)) : Nat) : Int)) (ev_cl (vs := [.ref pk, .ref pl]) (ea_cons (fk _ _ e1 rfl) (ea_cons (ev_var rfl) ea_nil)) (spv rfl fun H2 e => ⟨pk, pl, _, _, _, rfl, ex_l (e1.trans e) hq0, rw0.mono (e1.trans e), ex_l e (sq_of hl), by rw [List.length_map]; omega, rw_len rfl h.c6, by omega, fun key => asc_anti h.ord.asc key, by rw [List.length_map]; rfl⟩)) ?_
  have hst := cntA_le c s ns (faF c ts)
  have hen : (if faT c ts = [] then ns.length else cntA c s ns (incL (faT c ts))) ≤ ns.length := by
    split
    · exact Nat.le_refl _
    · exact cntA_le _ _ _ _
  have iS := fun j n hj => cntA_iff (key := faF c ts) h.ord.asc (j := j) (n := n) hj
  have iE : ∀ (j : Nat) (n : Int), ns[j]? = some n → ((faT c ts = [] ∨ ahead (ent c s n) (incL (faT c ts)) = true) ↔ j < (if faT c ts = [] then ns.length else cntA c s ns (incL (faT c ts)))) := fun j n hj => by
    by_cases g : faT c ts = []
    · rw [if_pos g]
      exact ⟨fun _ => (List.getElem?_eq_some_iff.mp hj).1, fun _ => .inl g⟩
    · rw [if_neg g, ← cntA_iff h.ord.asc hj]
      exact ⟨fun z => z.elim (fun y => (g y).elim) id, .inr⟩
  generalize cntA c s ns (faF c ts) = st at hst iS
  generalize (if faT c ts = [] then ns.length else cntA c s ns (incL (faT c ts))) = en at hen iE
  have sl := el_sl (K := K) (te := tFld K (tVar 0) "_keys") (fk [some (.ref k), some (.ref b), some (.ref pf), some (.ref pl), some (.int (st : Int)), some (.int (en : Int)), none] H1 e1 rfl) (eo_some (ev_var (i := 4) rfl)) (eo_some (ev_var (i := 5) rfl)) (ex_l e1 hq0)
  rw [cut_ab, List.length_map, lp, Nat.min_eq_left hst, Nat.min_eq_left hen, ← List.map_drop, ← List.map_take] at sl
  refine sv_rqN (retN_mono e1 (ret_pure ((keptS cls noC).regn _ _ _) at_ q)) ((EvL.n (xs := ((ns.drop st).take (en - st)).map V.int) (el_lcNM V.int sl ?_ ?_ (fun _ => rfl) fun i x m hx hm => ?_)).imp ?_)
  · rw [List.length_map, List.length_take, List.length_take, List.length_drop, List.length_drop, lp]
  · rw [List.length_map, List.length_take, List.length_drop, lp]
    omega
  · have h1 : ns[st + i]? = some m := by
      rw [List.getElem?_take] at hm
      split at hm
      · rw [List.getElem?_drop] at hm
        exact hm
      · cases hm
    have h2 : (ps.map V.ref)[st + i]? = some x := by
      rw [List.getElem?_map] at hx ⊢
      rw [List.getElem?_take] at hx
      split at hx
      · rw [List.getElem?_drop] at hx
        exact hx
      · cases hx
    obtain ⟨p, rfl, rx⟩ := last_key (K := K) h.keys e1 h2 h1
    exact ev_op (ev_var rfl) (ev_neg ev_c) rx
  · rintro v N ⟨p, rfl, hp⟩
    have get : ∀ (i : Nat) m, ((ns.drop st).take (en - st))[i]? = some m ↔ ns[st + i]? = some m ∧ st + i < en := fun i m => by
      rw [List.getElem?_take]
      split
      · rw [List.getElem?_drop]
        exact ⟨fun z => ⟨z, by omega⟩, fun z => z.1⟩
      · exact ⟨fun z => (nomatch z), fun z => (by omega)⟩
    refine ⟨p, _, rfl, hp, ⟨fun n hn => ?_, fun i a b ha hb => ?_⟩, fun n => ?_⟩
    · obtain ⟨i, hi⟩ := List.mem_iff_getElem?.mp hn
      exact h.ord.2.1 n (List.mem_of_getElem? ((get i n).mp hi).1)
    · exact h.ord.2.2 (st + i) a b ((get i a).mp ha).1 ((get _ b).mp hb).1
    · have key : ∀ r, rowOf s n = some r → inS c r ts = (!ahead (ent c s n) (faF c ts) && (decide (faT c ts = []) || ahead (ent c s n) (incL (faT c ts)))) := fun r hr => by
        rw [ent_key hr]
        exact in_keys c r n ts
      constructor
      · intro hn
        obtain ⟨i, hi⟩ := List.mem_iff_getElem?.mp hn
        obtain ⟨h1, h2⟩ := (get i n).mp hi
        obtain ⟨r, hr⟩ := h.ord.2.1 n (List.mem_of_getElem? h1)
        refine ⟨r, hr, ?_⟩
        rw [key r hr, Bool.and_eq_true, Bool.or_eq_true, decide_eq_true_eq, Bool.not_eq_true']
        refine ⟨?_, (iE _ n h1).mpr h2⟩
        cases g : ahead (ent c s n) (faF c ts) with
        | false => rfl
        | true =>
          have := (iS _ n h1).mp g
          omega
      · rintro ⟨r, hr, hin⟩
        rw [key r hr, Bool.and_eq_true, Bool.or_eq_true, decide_eq_true_eq, Bool.not_eq_true'] at hin
        obtain ⟨j, hj⟩ := List.mem_iff_getElem?.mp (h.all n r hr)
        have g1 : st ≤ j := Nat.le_of_not_lt fun z => by
          have := (iS j n hj).mpr z
          rw [hin.1] at this
          cases this
        have g2 := (iE j n hj).mp hin.2
        exact List.mem_iff_getElem?.mpr ⟨j - st, (get _ n).mpr ⟨by rw [show st + (j - st) = j by omega]; exact hj, by omega⟩⟩
end
section
variable {C : Addr}
theorem ok_kdrop {f : Addr} {fd : FuncData} (F : Fun K "drop" "Kept.drop" s_Kept_drop f fd) (cls : Cls K C) (noC : NoAttr K C "columns") (noK : NoAttr K C "_keys") (c__key : Mt P w K mg base CX0 1 C "_key" (SpN 3 (RKey K C))) (c_below : Cl P w K mg base CX0 2 "below" (SpR 2 (RBelow K))) :
    FnOk P w K mg base CX0 3 f fd ["self", "number", "row"] (SpW 3 (RKDrop (keptS cls noC))) := by
  refine F.ok sc_Kept_drop (fun vs H Q E h => h.1) (fun cdv A outer s H vs Q E hr h => ?_)
  obtain ⟨_, F0, T', P', ⟨k, r, n, row, c, s, rfl, at_, hro, hn, hc, l6, wide, rfl, rfl⟩, q⟩ := h
  refine ⟨_, (pss_one (ps_delL (pe_fldK (K := K) rfl (pv 0) rfl) (pe_cl c_below hr (by decide) pass0 (by rfl) (pa_cons (pe_fldK (K := K) rfl (pv 0) rfl) (pa_cons (pe_m c__key hr (by decide) pass0 (pv 0) (pa_cons (pv 1) (pa_cons (pv 2) pa_nil))) pa_nil))))), ?_⟩
  try dsimp only [cx_K]
  obtain ⟨dx, ct, pk, ps, ns, h⟩ := (id at_ : KeptA C k c s F0 H)
  have ln : ns.length ≤ 200 := by rw [h.ord.1]; exact h.l2
  have lp : ps.length = ns.length := by
    have := paired_len h.keys
    rw [List.length_map] at this
    exact this
  have hro' : SqL K H r (row.map V.int) ∨ SqT K H r (row.map V.int) := hro.imp (fun z => z.1) id
  have hi := (inOrd_drop h.ord h.nd hn (h.all n row hn)).1
  have li := (List.getElem?_eq_some_iff.mp hi).1
  have rw1 : Rw K H (ps.map V.ref) (ns.map (ent c s)) := keptA_rw h.keys
  have hq1 : SqL K H pk (ps.map V.ref) := sq_of h.hp
  have fk := ev_fld (ta := tVar 0) (σ := [some (.ref k), some (.int n), some (.ref r)]) (ev_var rfl) h.hk cls noK (v := .ref pk) rfl
  have kl := keyR_len c row n
  have c6 := h.c6
  refine Sv.at (sv_last (sv_del (i := cntA c s ns (keyR c row n)) h.hp fk ?_ (by rw [List.length_map]; omega) (by rw [List.length_map]; omega) (sv_next fun H3 e3 => ?_)))
  · exact ev_clL fk (el_mt (xs := (keyR c row n).map V.int) (ev_var rfl) h.hk rfl (ea_cons (ev_var rfl) (ea_cons (ev_var rfl) ea_nil)) (spl_key h.hk h.hc hro' hc h.c6)) fun l H1 e hl => spv rfl fun H2 e2 => ⟨pk, l, _, _, _, rfl, ex_l (e.trans e2) hq1, rw1.mono (e.trans e2), ex_l e2 (sq_of hl), by rw [List.length_map]; omega, rw_len rfl h.c6, by omega, asc_anti h.ord.asc _, rfl⟩
  have em : (ps.map V.ref).eraseIdx (cntA c s ns (keyR c row n)) = (ps.eraseIdx (cntA c s ns (keyR c row n))).map V.ref := by
    refine List.ext_getElem? fun j => ?_
    rw [List.getElem?_map, List.getElem?_eraseIdx, List.getElem?_eraseIdx]
    split <;> rw [List.getElem?_map]
  rw [em] at e3
  have kp : ∀ a o, a ≠ pk → H a = some o → H3 a = some o := fun a o ne ha => e3 _ _ (by
    rw [upd_ne ne]
    exact ha)
  have hp3 := e3 _ _ upd_same
  have at3 := h.drop hn kp hp3
  refine q .non nonew H3 F0 ⟨fun a o ha nt => kp a o (fun z => ?_) ha, fun a ha => ?_⟩ ⟨dx, ct, pk, _, _, at3⟩ (fun a z => .inl z) (fun a z => (z rfl).elim) nonew_ex rfl
  · rw [z, h.hp] at ha
    obtain ⟨xs, t⟩ := nt (z ▸ h.fp)
    rw [← Option.some.inj ha] at t
    cases t
  · by_cases z : a = pk
    · rw [z, hp3]
      exact fun z => by cases z
    · cases y : H a with
      | none => exact (ha y).elim
      | some o =>
        rw [kp a o z y]
        exact fun z => by cases z
end
/-! ### the program's checks of what is right -/
theorem ok_pwhole {f : Addr} {fd : FuncData} {k : Nat} (F : Fun K "whole" "whole" s_whole f fd) (Z : Zs mg) : FnOk P w K mg base CX0 (k + 1) f fd ["thing"] (SpR 1 RWhole) := by
  refine F.ok sc_whole (fun vs H Q E h => h.1) (fun cdv A outer s H vs Q E hr h => ?_)
  obtain ⟨_, z, ⟨n, rfl, rfl⟩, q⟩ := h
  refine ⟨_, (pss_one (ps_ret (pe_and (pe_callB (id := "isinstance") (r := rIsi K) call_isi (by rfl) Z.isinstance (by decide +kernel) (pa_cons (pv 0) (pa_cons (pe_bltn (v := .ty "int") (by rfl) Z.int (by decide +kernel) rfl) pa_nil))) (pe_one (pe_not (pe_callB (id := "isinstance") (r := rIsi K) call_isi (by rfl) Z.isinstance (by decide +kernel) (pa_cons (pv 0) (pa_cons (pe_bltn (v := .ty "bool") (by rfl) Z.bool (by decide +kernel) rfl) pa_nil)))))))), ?_⟩
  try dsimp only [cx_K]
  refine Sv.at (sv_rq q ?_)
  exact ep_and (p := True) (q := ¬ False) (ev_isi (ev_var rfl) (fun _ _ => .base (.int _)) (kit_ty (by decide +kernel))) fun _ => ep_not (p := False) (ev_isi (ev_var rfl) (fun _ _ => .base (.int _)) (kit_ty (by decide +kernel)))
def RIsCol : List V → Hp → V → Prop := fun vs _ z => ∃ (x wd : Int), vs = [.int x, .int wd] ∧ 0 ≤ x ∧ x < wd ∧ z = .bl true
theorem spv_isCol {H : Hp} {x wd : Int} (h0 : 0 ≤ x) (h1 : x < wd) : SpV (SpR 2 RIsCol) [.int x, .int wd] H (.bl true) := spv rfl fun H1 e => ⟨x, wd, rfl, h0, h1, rfl⟩
theorem ok_is_column {f : Addr} {fd : FuncData} (F : Fun K "is_column" "is_column" s_is_column f fd) (Z : Zs mg) (c_whole : Cl P w K mg base CX0 1 "whole" (SpR 1 RWhole)) : FnOk P w K mg base CX0 2 f fd ["thing", "width"] (SpR 2 RIsCol) := by
  refine F.ok sc_is_column (fun vs H Q E h => h.1) (fun cdv A outer s H vs Q E hr h => ?_)
  obtain ⟨_, z, ⟨x, wd, rfl, h0, h1, rfl⟩, q⟩ := h
  refine ⟨_, (pss_one (ps_ret (pe_and (pe_cl c_whole hr (by decide) pass0 (by rfl) (pa_cons (pv 0) pa_nil)) (pe_one (pe_chain op_le op_lt pe_int (pv 0) (pv 1)))))), ?_⟩
  try dsimp only [cx_K]
  have lt : RV (rI0 fun i j => .bl (decide (i < j))) (.int x) (.int wd) H (.bl true) := by
    have g := rv_I0 (H := H) (i := x) (j := wd) (g := fun i j => .bl (decide (i < j)))
    rw [decide_eq_true h1] at g
    exact g
  exact Sv.at (sv_rq q (ev_andV (a := true) (b := true) (ev_cl (vs := [.int x]) (ea_cons (ev_var rfl) ea_nil) spv_whole) fun _ => ev_chain ev_c (ev_var rfl) (rv_leT h0) (ev_var rfl) lt))
def RIsOrd : List V → Hp → V → Prop := fun vs H z => ∃ (o : Addr) (c : List Int) (wd : Int), vs = [.ref o, .int wd] ∧ H o = some (.tup (c.map V.int)) ∧ c ≠ [] ∧ c.Nodup ∧ (∀ x ∈ c, 0 ≤ x ∧ x < wd) ∧ c.length ≤ 6 ∧ z = .bl true
theorem spv_isOrd {H : Hp} {o : Addr} {c : List Int} {wd : Int} (h1 : H o = some (.tup (c.map V.int))) (h2 : c ≠ []) (h3 : c.Nodup) (h4 : ∀ x ∈ c, 0 ≤ x ∧ x < wd) (h5 : c.length ≤ 6) : SpV (SpR 2 RIsOrd) [.ref o, .int wd] H (.bl true) := spv rfl fun H1 e => ⟨o, c, wd, rfl, e _ _ h1, h2, h3, h4, h5, rfl⟩
theorem ok_is_order {f : Addr} {fd : FuncData} (F : Fun K "is_order" "is_order" s_is_order f fd) (Z : Zs mg) (c_is_column : Cl P w K mg base CX0 2 "is_column" (SpR 2 RIsCol)) : FnOk P w K mg base CX0 3 f fd ["thing", "width"] (SpR 2 RIsOrd) := by
  refine F.ok sc_is_order (fun vs H Q E h => h.1) (fun cdv A outer s H vs Q E hr h => ?_)
  obtain ⟨_, z, ⟨o, c, wd, rfl, ho, h0, nd, hin, l6, rfl⟩, q⟩ := h
  refine ⟨_, (pss_cons (ps_if (PW.pt (pw_or (pt_not (pt_val (pe_callB (id := "isinstance") (r := rIsi K) call_isi (by rfl) Z.isinstance (by decide +kernel) (pa_cons (pv 0) (pa_cons (pe_bltn (v := .ty "tuple") (by rfl) Z.tuple (by decide +kernel) rfl) pa_nil))))) (pw_or1 (pt_cmpR op_eq (pe_callB (id := "len") (r := rLenS K) c_len (by rfl) Z.len PySem.boot_len (pa_cons (pv 0) pa_nil)) pe_int (nomark _))))) (pss_one (ps_ret pe_bl)) pss_nil)
      (pss_one (ps_ret (pe_and (pe_callB (id := "all") (r := rAll K) (cr_all rfl) (by rfl) Z.all (by decide +kernel) (pa_cons (pe_lc (own := [("item", 2)]) (g := gName 2) (tt := tYes) (by rfl) sc_is_order.nd (pi_tup (pv 0)) (blkOk_by (own := [("item", 2)]) (N := ["thing", "width", "item"]) (sc := defScope s_is_order) (by decide +kernel)) (fun _ _ _ _ _ => (pg_name (i := 2) sc_is_order.nd rfl (Or.inl rfl))) (fun _ _ _ _ _ => pts_nil) (fun _ _ _ _ _ => (pe_cl c_is_column hr (by decide) pass0 (by rfl) (pa_cons (pv 2) (pa_cons (pv 1) pa_nil))))) pa_nil)) (pe_one (pe_cmpR op_eq (pe_lenSetT (by rfl) Z.len (by rfl) Z.set (pv 0)) (pe_callB (id := "len") (r := rLenS K) c_len (by rfl) Z.len PySem.boot_len (pa_cons (pv 0) pa_nil)) (nomark _))))))), ?_⟩
  try dsimp only [cx_K]
  have so : SqT K H o (c.map V.int) := st_of ho
  have hl : 0 < c.length := List.length_pos_iff.mpr h0
  refine Sv.at (sv_when (p := ¬ True ∨ (c.length : Int) = 0) (tp_or (tp_not (tp_valT (ev_isi (ev_var rfl) (fun _ e => tyx_t (ex_t e so)) (kit_ty (by decide +kernel))))) fun _ => ?_) (fun h => ?_) (fun _ => ?_))
  · have g := ev_lenT (K := K) (ta := tVar 0) (σ := [some (.ref o), some (.int wd), none]) (ev_var rfl) so
    rw [List.length_map] at g
    exact tp_cmp (ev_op g ev_c rp_eqI)
  · exfalso
    rcases h with h | h
    · exact h trivial
    · omega
  · refine sv_rq q (ev_andV (a := true) (b := true) ?_ fun _ => ?_)
    · have all : EvL (tLc (iTup K (tVar 0)) (gName 2) tYes (tCall (SpR 2 RIsCol) [] E0 (tCons (tVar 2) (tCons (tVar 1) tNil))) [2]) [some (.ref o), some (.int wd), none] H ((c.map fun _ => true).map V.bl) := by
        rw [List.map_map]
        exact el_lcTM (V.bl ∘ fun _ => true) (ev_var rfl) so (by rw [List.length_map]) (by rw [List.length_map]; omega) (fun _ => rfl) fun i x m hx hm => by
          rw [List.getElem?_map, hm] at hx
          obtain rfl := Option.some.inj hx
          have b := hin m (List.mem_of_getElem? hm)
          exact ev_cl (vs := [.int m, .int wd]) (ea_cons (ev_var rfl) (ea_cons (ev_var rfl) ea_nil)) (spv_isCol b.1 b.2)
      have g := ev_allB (K := K) all
      have e : ((c.map fun _ => true).all id) = true := by
        rw [all_id]
        exact List.all_eq_true.mpr fun _ _ => rfl
      rw [e] at g
      exact g
    · have g := ev_lenT (K := K) (ta := tVar 0) (σ := [some (.ref o), some (.int wd), none]) (ev_var rfl) so
      rw [List.length_map] at g
      have r : RV rEq (.int (c.length : Int)) (.int (c.length : Int)) H (.bl true) := by
        have g := rp_eqI (H := H) (i := (c.length : Int)) (j := (c.length : Int))
        rw [decide_eq_true rfl] at g
        exact g
      exact ev_op (ev_lenST (ev_var rfl) so nd (by omega)) g r
def RChk (p : V → V → Hp → Prop) : List V → Hp → V → Prop := fun vs H z => ∃ x y, vs = [x, y] ∧ p x y H ∧ z = .non
def POrd : V → V → Hp → Prop := fun x y H => ∃ (o : Addr) (c : List Int) (wd : Int), x = .ref o ∧ y = .int wd ∧ H o = some (.tup (c.map V.int)) ∧ c ≠ [] ∧ c.Nodup ∧ (∀ x ∈ c, 0 ≤ x ∧ x < wd) ∧ c.length ≤ 6
theorem ok_check_order {f : Addr} {fd : FuncData} (F : Fun K "check_order" "check_order" s_check_order f fd) (Z : Zs mg) (c_is_order : Cl P w K mg base CX0 3 "is_order" (SpR 2 RIsOrd)) : FnOk P w K mg base CX0 4 f fd ["order", "width"] (SpR 2 (RChk POrd)) := by
  refine F.ok sc_check_order (fun vs H Q E h => h.1) (fun cdv A outer s H vs Q E hr h => ?_)
  obtain ⟨_, z, ⟨x, y, rfl, ⟨o, c, wd, rfl, rfl, h1, h2, h3, h4, h5⟩, rfl⟩, q⟩ := h
  refine ⟨_, (pss_one (ps_if (pt_not (pt_val (pe_cl c_is_order hr (by decide) pass0 (by rfl) (pa_cons (pv 0) (pa_cons (pv 1) pa_nil))))) (pss_one Wy.ps_never) pss_nil)), ?_⟩
  try dsimp only [cx_K]
  refine Sv.at (sv_if' (p := ¬ True) (tp_not (tp_valT (ev_cl (vs := [.ref o, .int wd]) (ea_cons (ev_var rfl) (ea_cons (ev_var rfl) ea_nil)) (spv_isOrd h1 h2 h3 h4 h5)))) (fun h => (h trivial).elim) (fun _ => sv_next fun H1 e => q H1 e))
def PCol : V → V → Hp → Prop := fun x y H => ∃ c wd : Int, x = .int c ∧ y = .int wd ∧ 0 ≤ c ∧ c < wd
theorem ok_check_column {f : Addr} {fd : FuncData} (F : Fun K "check_column" "check_column" s_check_column f fd) (Z : Zs mg) (c_is_column : Cl P w K mg base CX0 2 "is_column" (SpR 2 RIsCol)) : FnOk P w K mg base CX0 3 f fd ["column", "width"] (SpR 2 (RChk PCol)) := by
  refine F.ok sc_check_column (fun vs H Q E h => h.1) (fun cdv A outer s H vs Q E hr h => ?_)
  obtain ⟨_, z, ⟨x, y, rfl, ⟨c, wd, rfl, rfl, h1, h2⟩, rfl⟩, q⟩ := h
  refine ⟨_, (pss_one (ps_if (pt_not (pt_val (pe_cl c_is_column hr (by decide) pass0 (by rfl) (pa_cons (pv 0) (pa_cons (pv 1) pa_nil))))) (pss_one Wy.ps_never) pss_nil)), ?_⟩
  try dsimp only [cx_K]
  refine Sv.at (sv_if' (p := ¬ True) (tp_not (tp_valT (ev_cl (vs := [.int c, .int wd]) (ea_cons (ev_var rfl) (ea_cons (ev_var rfl) ea_nil)) (spv_isCol h1 h2)))) (fun h => (h trivial).elim) (fun _ => sv_next fun H1 e => q H1 e))
def RChk1 : List V → Hp → V → Prop := fun vs H z => ∃ x : Int, vs = [.int x] ∧ z = .non
theorem ok_check_value {f : Addr} {fd : FuncData} (F : Fun K "check_value" "check_value" s_check_value f fd) (Z : Zs mg) (c_whole : Cl P w K mg base CX0 1 "whole" (SpR 1 RWhole)) : FnOk P w K mg base CX0 2 f fd ["value"] (SpR 1 RChk1) := by
  refine F.ok sc_check_value (fun vs H Q E h => h.1) (fun cdv A outer s H vs Q E hr h => ?_)
  obtain ⟨_, z, ⟨x, rfl, rfl⟩, q⟩ := h
  refine ⟨_, (pss_one (ps_if (pt_not (pt_val (pe_cl c_whole hr (by decide) pass0 (by rfl) (pa_cons (pv 0) pa_nil)))) (pss_one Wy.ps_never) pss_nil)), ?_⟩
  try dsimp only [cx_K]
  refine Sv.at (sv_if' (p := ¬ True) (tp_not (tp_valT (ev_cl (vs := [.int x]) (ea_cons (ev_var rfl) ea_nil) spv_whole))) (fun h => (h trivial).elim) (fun _ => sv_next fun H1 e => q H1 e))
def RChkW : List V → Hp → V → Prop := fun vs H z => ∃ x : Int, vs = [.int x] ∧ 1 ≤ x ∧ x ≤ 6 ∧ z = .non
theorem ok_check_width {f : Addr} {fd : FuncData} (F : Fun K "check_width" "check_width" s_check_width f fd) (Z : Zs mg) (c_whole : Cl P w K mg base CX0 1 "whole" (SpR 1 RWhole)) : FnOk P w K mg base CX0 2 f fd ["width"] (SpR 1 RChkW) := by
  refine F.ok sc_check_width (fun vs H Q E h => h.1) (fun cdv A outer s H vs Q E hr h => ?_)
  obtain ⟨_, z, ⟨x, rfl, h1, h6, rfl⟩, q⟩ := h
  refine ⟨_, (pss_one (ps_if (PW.pt (pw_or (pt_not (pt_val (pe_cl c_whole hr (by decide) pass0 (by rfl) (pa_cons (pv 0) pa_nil)))) (pw_or (pt_cmpR op_lt (pv 0) pe_int (nomark _)) (pw_or1 (pt_cmpR op_gt (pv 0) (pe_globI (by rfl) Z.g_WIDEST) (nomark _)))))) (pss_one Wy.ps_never) pss_nil)), ?_⟩
  try dsimp only [cx_K]
  refine Sv.at (sv_if' (p := ¬ True ∨ x < 1 ∨ 6 < x) (tp_or (tp_not (tp_valT (ev_cl (vs := [.int x]) (ea_cons (ev_var rfl) ea_nil) spv_whole))) fun _ => tp_or (tp_cmp (ev_op (ev_var rfl) ev_c rv_I0)) fun _ => tp_cmp (ev_op (ev_var rfl) ev_c rv_I0)) (fun h => ?_) (fun _ => sv_next fun H1 e => q H1 e))
  exfalso
  rcases h with h | h | h
  · exact h trivial
  · omega
  · omega
def PRow (K : PySem.W.Frag) : V → V → Hp → Prop := fun x y H => ∃ (r : Addr) (row : List Int), x = .ref r ∧ y = .int row.length ∧ row.length ≤ 6 ∧ (SqL K H r (row.map V.int) ∨ SqT K H r (row.map V.int))
theorem ok_check_row {f : Addr} {fd : FuncData} (F : Fun K "check_row" "check_row" s_check_row f fd) (Z : Zs mg) (c_whole : Cl P w K mg base CX0 1 "whole" (SpR 1 RWhole)) : FnOk P w K mg base CX0 2 f fd ["row", "width"] (SpR 2 (RChk (PRow K))) := by
  refine F.ok sc_check_row (fun vs H Q E h => h.1) (fun cdv A outer s H vs Q E hr h => ?_)
  obtain ⟨_, z, ⟨x, y, rfl, ⟨r, row, rfl, rfl, l6, hq⟩, rfl⟩, q⟩ := h
  refine ⟨_, (pss_cons (ps_if (PW.pt (pw_or (pt_not (pt_val (pe_callB (id := "isinstance") (r := rIsiT K) c_isiT (by rfl) Z.isinstance (by decide +kernel) (pa_cons (pv 0) (pa_cons (pe_tup (pa_cons (pe_bltn (v := .ty "list") (by rfl) Z.list (by decide +kernel) rfl) (pa_cons (pe_bltn (v := .ty "tuple") (by rfl) Z.tuple (by decide +kernel) rfl) pa_nil))) pa_nil))))) (pw_or1 (pt_cmpR op_ne (pe_callB (id := "len") (r := rLenS K) c_len (by rfl) Z.len PySem.boot_len (pa_cons (pv 0) pa_nil)) (pv 1) (nomark _))))) (pss_one Wy.ps_never) pss_nil)
      (pss_one (ps_if (pt_not (pt_val (pe_callB (id := "all") (r := rAll K) (cr_all rfl) (by rfl) Z.all (by decide +kernel) (pa_cons (pe_lc (own := [("item", 2)]) (g := gName 2) (tt := tYes) (by rfl) sc_check_row.nd (pi_seqLT (pv 0)) (blkOk_by (own := [("item", 2)]) (N := ["row", "width", "item"]) (sc := defScope s_check_row) (by decide +kernel)) (fun _ _ _ _ _ => (pg_name (i := 2) sc_check_row.nd rfl (Or.inl rfl))) (fun _ _ _ _ _ => pts_nil) (fun _ _ _ _ _ => (pe_cl c_whole hr (by decide) pass0 (by rfl) (pa_cons (pv 2) pa_nil)))) pa_nil)))) (pss_one Wy.ps_never) pss_nil))), ?_⟩
  try dsimp only [cx_K]
  have len : Ev (tCB (rLenS K) (tCons (tVar 0) tNil)) [some (.ref r), some (.int row.length), none] H (.int row.length) := by
    rcases hq with g | g
    · have k := ev_lenL (K := K) (ta := tVar 0) (σ := [some (.ref r), some (.int row.length), none]) (ev_var rfl) g
      rw [List.length_map] at k
      exact k
    · have k := ev_lenT (K := K) (ta := tVar 0) (σ := [some (.ref r), some (.int row.length), none]) (ev_var rfl) g
      rw [List.length_map] at k
      exact k
  have isi : Ev (tCB (rIsiT K) (tCons (tVar 0) (tCons (tTup (tCons (tC (.ty "list")) (tCons (tC (.ty "tuple")) tNil))) tNil))) [some (.ref r), some (.int row.length), none] H (.bl true) := by
    rcases hq with g | g
    · exact ev_isLT (ty := .type "list") (ev_var rfl) (fun _ e => tyx_l (ex_l e g)) (kitAny_cons (b := true) (kit_ty (by decide +kernel)) (fun h => nomatch h) fun _ => rfl)
    · exact ev_isLT (ty := .type "tuple") (ev_var rfl) (fun _ e => tyx_t (ex_t e g)) (kitAny_cons (b := false) (r := true) (kit_ty (by decide +kernel)) (fun _ => kitAny_cons (b := true) (kit_ty (by decide +kernel)) (fun h => nomatch h) fun _ => rfl) fun h => nomatch h)
  refine Sv.at (sv_when (p := ¬ True ∨ ¬ (row.length : Int) = row.length) (tp_or (tp_not (tp_valT isi)) fun _ => tp_cmp (ev_op len (ev_var rfl) rp_neI)) (fun h => (h.elim (fun h => h trivial) fun h => h rfl).elim) (fun _ => ?_))
  have all : EvL (tLc (iSeq K (tVar 0)) (gName 2) tYes (tCall (SpR 1 RWhole) [] E0 (tCons (tVar 2) tNil)) [2]) [some (.ref r), some (.int row.length), none] H ((row.map fun _ => true).map V.bl) := by
    rw [List.map_map]
    exact el_lcSM (V.bl ∘ fun _ => true) (ev_var rfl) hq (by rw [List.length_map]) (by rw [List.length_map]; omega) (fun _ => rfl) fun i x m hx hm => by
      rw [List.getElem?_map, hm] at hx
      obtain rfl := Option.some.inj hx
      exact ev_cl (vs := [.int m]) (ea_cons (ev_var rfl) ea_nil) spv_whole
  have g := ev_allB (K := K) all
  have e : ((row.map fun _ => true).all id) = true := by
    rw [all_id]
    exact List.all_eq_true.mpr fun _ _ => rfl
  rw [e] at g
  exact sv_if' (p := ¬ True) (tp_not (tp_valT g)) (fun h => (h trivial).elim) (fun _ => sv_next fun H1 e => q H1 e)
/-! ### the program's own tables -/
section
variable {C CK : Addr}
def RRowT (C : Addr) : List V → Hp → V → Prop := fun vs H z => ∃ (t dx pd pk q : Addr) (s : TabS) (ms : List KM) (kvs : List (Key × V)) (n : Int), vs = [.ref t, .int n] ∧ TB C H t s dx pd pk ms kvs ∧ valV kvs (Sum.inl n) = some (.ref q) ∧ z = .ref q
theorem spv_row {H : Hp} {t dx pd pk q : Addr} {s : TabS} {ms : List KM} {kvs : List (Key × V)} {n : Int} (h : TB C H t s dx pd pk ms kvs) (g : valV kvs (Sum.inl n) = some (.ref q)) : SpV (SpR 2 (RRowT C)) [.ref t, .int n] H (.ref q) := spv rfl fun H1 e => ⟨t, dx, pd, pk, q, s, ms, kvs, n, rfl, h.mono e, g, rfl⟩
theorem ok_trow {f : Addr} {fd : FuncData} (F : Fun K "row" "Table.row" s_Table_row f fd) (Z : Zs mg) (cls : Cls K C) (noR : NoAttr K C "_rows") (c_whole : Cl P w K mg base CX0 1 "whole" (SpR 1 RWhole)) : FnOk P w K mg base CX0 2 f fd ["self", "number"] (SpR 2 (RRowT C)) := by
  refine F.ok sc_Table_row (fun vs H Q E h => h.1) (fun cdv A outer s H vs Q E hr h => ?_)
  obtain ⟨_, z, ⟨t, dx, pd, pk, q1, s, ms, kvs, n, rfl, h, g, rfl⟩, q⟩ := h
  refine ⟨_, (pss_cons (ps_if (PW.pt (pw_or (pt_not (pt_val (pe_cl c_whole hr (by decide) pass0 (by rfl) (pa_cons (pv 1) pa_nil)))) (pw_or1 (pt_cmp (pc_dnotin (hu_of hr) (pv 1) (pe_fldK (K := K) rfl (pv 0) rfl)))))) (pss_one Wy.ps_never) pss_nil)
      (pss_one (ps_ret (pe_dget (hu_of hr) (pe_fldK (K := K) rfl (pv 0) rfl) (pv 1) (fun _ _ => rfl))))), ?_⟩
  try dsimp only [cx_K]
  have fr : Ev (tFld K (tVar 0) "_rows") [some (.ref t), some (.int n)] H (.ref pd) := ev_fld (ev_var rfl) h.ht cls noR rfl
  have dg : DGet H pd (.int n) (some (.ref q1)) := .inl ⟨kvs, Sum.inl n, .inl h.hd, rfl, g.symm⟩
  refine Sv.at (sv_when (p := ¬ True ∨ ¬ True) (tp_or (tp_not (tp_valT (ev_cl (vs := [.int n]) (ea_cons (ev_var rfl) ea_nil) spv_whole))) fun _ => ?_) (fun h => (h.elim (fun h => h trivial) fun h => h trivial).elim) (fun _ => sv_rq q (ev_dget fr (ev_var rfl) dg)))
  exact tp_val (ev_dnotin (ev_var rfl) fr dg)
def RNumT (C : Addr) : List V → Hp → List V → Prop := fun vs H xs => ∃ (t dx pd pk : Addr) (s : TabS) (ms : List KM) (kvs : List (Key × V)), vs = [.ref t] ∧ TB C H t s dx pd pk ms kvs ∧ s.Ok ∧ xs = (s.rows.map (·.1)).map V.int
theorem spl_num {H : Hp} {t dx pd pk : Addr} {s : TabS} {ms : List KM} {kvs : List (Key × V)} (h : TB C H t s dx pd pk ms kvs) (ok : s.Ok) : SpL (SpN 1 (RNumT C)) [.ref t] H ((s.rows.map (·.1)).map V.int) := spl rfl fun H1 e => ⟨t, dx, pd, pk, s, ms, kvs, rfl, h.mono e, ok, rfl⟩
theorem ok_tnumbers {f : Addr} {fd : FuncData} {lv : Nat} (F : Fun K "numbers" "Table.numbers" s_Table_numbers f fd) (Z : Zs mg) (cls : Cls K C) (noR : NoAttr K C "_rows") : FnOk P w K mg base CX0 (lv + 1) f fd ["self"] (SpN 1 (RNumT C)) := by
  refine F.ok sc_Table_numbers (fun vs H Q E h => h.1) (fun cdv A outer s H vs Q E hr h => ?_)
  obtain ⟨_, z, ⟨t, dx, pd, pk, s, ms, kvs, rfl, h, ok, rfl⟩, q⟩ := h
  refine ⟨_, (pss_one (ps_ret (pe_callB (id := "sorted") (r := rSortDk) (c_sortDk rfl) (by rfl) Z.sorted (by decide +kernel) (pa_cons (pe_fldK (K := K) rfl (pv 0) rfl) pa_nil)))), ?_⟩
  try dsimp only [cx_K]
  have l := ok.l200
  exact Sv.at (sv_rqL q (en_sortDk (ev_fld (ev_var rfl) h.ht cls noR rfl) h.hd (trow_keys h.rows) ok.nd (by rw [List.length_map]; omega)))
def ROrdT (C CK : Addr) : List V → Hp → List V → Prop := fun vs H xs => ∃ (t dx pd pk : Addr) (s : TabS) (ms : List KM) (kvs : List (Key × V)) (cts : List Addr), vs = [.ref t] ∧ TB C H t s dx pd pk ms kvs ∧ ms.length ≤ 8 ∧ Paired (fun (m : KM) ct => ∃ dx pk, H m.1 = some (.ins CK dx (kFs ct pk))) ms cts ∧ xs = cts.map V.ref
theorem ok_torders {f : Addr} {fd : FuncData} {lv : Nat} (F : Fun K "orders" "Table.orders" s_Table_orders f fd) (Z : Zs mg) (cls : Cls K C) (noK : NoAttr K C "_kept") (clsK : Cls K CK) (noC : NoAttr K CK "columns") : FnOk P w K mg base CX0 (lv + 1) f fd ["self"] (SpN 1 (ROrdT C CK)) := by
  refine F.ok sc_Table_orders (fun vs H Q E h => h.1) (fun cdv A outer s H vs Q E hr h => ?_)
  obtain ⟨_, z, ⟨t, dx, pd, pk, s, ms, kvs, cts, rfl, h, l8, hp, rfl⟩, q⟩ := h
  refine ⟨_, (pss_one (ps_ret (pe_lc (own := [("kept", 1)]) (g := gName 1) (tt := tYes) (by rfl) sc_Table_orders.nd (pi_list (pe_fldK (K := K) rfl (pv 0) rfl)) (blkOk_by (own := [("kept", 1)]) (N := ["self", "kept"]) (sc := defScope s_Table_orders) (by decide +kernel)) (fun _ _ _ _ _ => (pg_name (i := 1) sc_Table_orders.nd rfl (Or.inl rfl))) (fun _ _ _ _ _ => pts_nil) (fun _ _ _ _ _ => (pe_fldK (K := K) rfl (pv 1) rfl))))), ?_⟩
  try dsimp only [cx_K]
  have lp := paired_len hp
  refine Sv.at (sv_rqL q (el_lcM V.ref (ev_fld (ev_var rfl) h.ht cls noK rfl) (sq_of h.hk) ((List.length_map _).trans lp) (by rw [List.length_map]; omega) (fun _ => rfl) fun i x ct hx hc => ?_))
  obtain ⟨m, hm, dx', pk', hi⟩ := paired_get hp hc
  rw [List.getElem?_map, hm] at hx
  obtain rfl := Option.some.inj hx
  exact ev_fld (ev_var rfl) hi clsK noC rfl
def RFind (C CK : Addr) : List V → Hp → V → Prop := fun vs H z => ∃ (t dx pd pk o : Addr) (s : TabS) (ms : List KM) (kvs : List (Key × V)) (c : List Int) (j : Nat) (k : Addr), vs = [.ref t, .ref o] ∧ TB C H t s dx pd pk ms kvs ∧ s.Ok ∧ (∀ m ∈ ms, KOrd CK H m) ∧ H o = some (.tup (c.map V.int)) ∧ ms[j]? = some (k, c) ∧ z = .ref k
theorem spv_find {H : Hp} {t dx pd pk o k : Addr} {s : TabS} {ms : List KM} {kvs : List (Key × V)} {c : List Int} {j : Nat} (h : TB C H t s dx pd pk ms kvs) (ok : s.Ok) (hk : ∀ m ∈ ms, KOrd CK H m) (ho : H o = some (.tup (c.map V.int))) (hj : ms[j]? = some (k, c)) : SpV (SpR 2 (RFind C CK)) [.ref t, .ref o] H (.ref k) := spv rfl fun H1 e => ⟨t, dx, pd, pk, o, s, ms, kvs, c, j, k, rfl, h.mono e, ok, fun m hm => (hk m hm).mono e, e _ _ ho, hj, rfl⟩
theorem ok_tfind {f : Addr} {fd : FuncData} (F : Fun K "_find" "Table._find" s_Table__find f fd) (Z : Zs mg) (cls : Cls K C) (noW : NoAttr K C "width") (noK : NoAttr K C "_kept") (clsK : Cls K CK) (noC : NoAttr K CK "columns") (c_check_order : Cl P w K mg base CX0 4 "check_order" (SpR 2 (RChk POrd))) :
    FnOk P w K mg base CX0 5 f fd ["self", "order"] (SpR 2 (RFind C CK)) := by
  refine F.ok sc_Table__find (fun vs H Q E h => h.1) (fun cdv A outer s H vs Q E hr h => ?_)
  obtain ⟨_, z, ⟨t, dx, pd, pk, o, s, ms, kvs, c, j, k, rfl, h, ok, hk, ho, hj, rfl⟩, q⟩ := h
  refine ⟨_, (pss_cons (ps_expr (pe_cl c_check_order hr (by decide) pass0 (by rfl) (pa_cons (pv 1) (pa_cons (pe_fldK (K := K) rfl (pv 0) rfl) pa_nil))))
      (pss_cons (ps_for PassesOwn.never rfl (pi_list (pe_fldK (K := K) rfl (pv 0) rfl)) (pg_name (i := 2) sc_Table__find.nd rfl (Or.inl rfl)) (pss_one (ps_if (pt_cmpR (r := rEqD K) (op_eqD hr.units) (pe_fldK (K := K) rfl (pv 2) rfl) (pv 1) (nomark _)) (pss_one (ps_ret (pv 2))) pss_nil)))
      (pss_one Wy.ps_never))), ?_⟩
  try dsimp only [cx_K]
  have hc : c ∈ s.os := by
    rw [← h.os]
    exact List.mem_map.mpr ⟨_, List.mem_of_getElem? hj, rfl⟩
  obtain ⟨c1, c2, c3, c4⟩ := ok.oc c hc
  have nd : (ms.map (·.2)).Nodup := by rw [h.os]; exact ok.od
  refine Sv.at (sv_drop (ev_cl (vs := [.ref o, .int s.wd]) (ea_cons (ev_var rfl) (ea_cons (ev_fld (ev_var rfl) h.ht cls noW rfl) ea_nil)) (spv rfl fun H1 e => ⟨_, _, rfl, ⟨o, c, s.wd, rfl, rfl, e _ _ ho, c1, c2, c3, c4⟩, rfl⟩)) ?_)
  refine sv_forL (ev_fld (ev_var rfl) h.ht cls noK rfl) (sq_of h.hk) (fun i σ' H' => H' = H ∧ (∃ y, σ' = [some (.ref t), some (.ref o), y]) ∧ i ≤ j) ⟨rfl, ⟨_, rfl⟩, Nat.zero_le _⟩ (fun i σ' H' ⟨e, _⟩ => by rw [e]; exact sq_of h.hk) ?_ ?_
  · rintro i x σ' H' hx ⟨rfl, ⟨y, rfl⟩, hi⟩
    rw [List.getElem?_map] at hx
    obtain ⟨m, hm, rfl⟩ := Option.map_eq_some_iff.mp hx
    obtain ⟨dx', ct, pk', h1, h2⟩ := hk m (List.mem_of_getElem? hm)
    refine sv_if' (p := m.2 = c) (tp_val (ev_op (ev_fld (ev_var rfl) h1 clsK noC rfl) (ev_var rfl) (rv_eqTT (st_of h2) (st_of ho)))) (fun e => ?_) (fun e => ?_)
    · have ei : i = j := by
        have g1 : (ms.map (·.2))[i]? = some c := by rw [List.getElem?_map, hm, ← e]; rfl
        have g2 : (ms.map (·.2))[j]? = some c := by rw [List.getElem?_map, hj]; rfl
        exact (List.getElem?_inj (List.getElem?_eq_some_iff.mp g1).1 nd).mp (g1.trans g2.symm)
      subst ei
      rw [hm] at hj
      obtain rfl := Option.some.inj hj
      exact sv_rq q (ev_var rfl)
    · refine sv_kn ⟨rfl, ⟨_, rfl⟩, ?_⟩
      have : ¬ i = j := fun z => by
        rw [z, hj] at hm
        exact e (Option.some.inj hm ▸ rfl)
      omega
  · rintro σ' H' ⟨rfl, ⟨y, rfl⟩, hi⟩
    have := (List.getElem?_eq_some_iff.mp hj).1
    rw [List.length_map] at hi
    omega
end
section
variable {C CK : Addr}
theorem ev_self {σ : L2.St} {i : Nat} {t dx pd pk : Addr} {s : TabS} {ms : List KM} {kvs : List (Key × V)} {H : Hp} {f : Str} {v : V} (cls : Cls K C) (no : NoAttr K C f) (h : TB C H t s dx pd pk ms kvs) (hi : σ[i]? = some (some (.ref t))) (hv : (tFs s.wd pd s.made pk).lookup f = some v) : Ev (tFld K (tVar i) f) σ H v := ev_fld (ev_var hi) h.ht cls no hv
/-- the region opened -/
theorem open_t {t dx pd pk : Addr} {s : TabS} {ms : List KM} {kvs : List (Key × V)} {F1 F2 : Reg} {H : Hp} (hT : KsR CK (tag s.rows ms) F1 H) (hU : TBR C t s dx pd pk ms kvs F2 H) (hd : ∀ a, F1 a → F2 a → False) : TB C (Out F1 H) t s dx pd pk ms kvs := (open_r (ksR_regn CK _) (tBR_regn C t s dx pd pk ms kvs) hT hU hd).2.1
theorem kvs_len {s : TabS} {t dx pd pk : Addr} {ms : List KM} {kvs : List (Key × V)} {H : Hp} (h : TB C H t s dx pd pk ms kvs) : kvs.length = s.rows.length := paired_len h.rows
theorem ms_len {s : TabS} {t dx pd pk : Addr} {ms : List KM} {kvs : List (Key × V)} {H : Hp} (h : TB C H t s dx pd pk ms kvs) (ok : s.Ok) : ms.length ≤ 8 := by
  have := ok.o8
  rw [← h.os, List.length_map] at this
  exact this
theorem ms_col {s : TabS} {t dx pd pk : Addr} {ms : List KM} {kvs : List (Key × V)} {H : Hp} (h : TB C H t s dx pd pk ms kvs) (ok : s.Ok) {m : KM} (hm : m ∈ ms) : m.2 ≠ [] ∧ m.2.Nodup ∧ (∀ x ∈ m.2, 0 ≤ x ∧ x < s.wd) ∧ m.2.length ≤ 6 := ok.oc m.2 (by
  rw [← h.os]
  exact List.mem_map.mpr ⟨m, hm, rfl⟩)
theorem ok_tput {f : Addr} {fd : FuncData} (F : Fun K "put" "Table.put" s_Table_put f fd) (Z : Zs mg) (cls : Cls K C) (noW : NoAttr K C "width") (noR : NoAttr K C "_rows") (noN : NoAttr K C "_next") (noK : NoAttr K C "_kept") (clsK : Cls K CK) (noC : NoAttr K CK "columns")
    (c_check_row : Cl P w K mg base CX0 2 "check_row" (SpR 2 (RChk (PRow K)))) (c_put : Mt P w K mg base CX0 3 CK "put" (SpW 3 (RKPut (keptS clsK noC)))) : FnOk P w K mg base CX0 4 f fd ["self", "row"] (SpW 2 (RTPut (tabS CK cls noW))) := by
  refine F.ok sc_Table_put (fun vs H Q E h => h.1) (fun cdv A outer s H vs Q E hr h => ?_)
  obtain ⟨_, F, T', P', ⟨t, r, s, row, rfl, ⟨dx, pd, pk, ms, kvs, F1, F2, hT, hU, hd, ff⟩, ok, hro, hw, hl, rfl, rfl⟩, q⟩ := h
  refine ⟨_, (pss_cons (ps_expr (pe_cl c_check_row hr (by decide) pass0 (by rfl) (pa_cons (pv 1) (pa_cons (pe_fldK (K := K) rfl (pv 0) rfl) pa_nil))))
      (pss_cons (ps_if (pt_cmpR op_eq (pe_callB (id := "len") (r := rLenD) c_lenD (by rfl) Z.len PySem.boot_len (pa_cons (pe_fldK (K := K) rfl (pv 0) rfl) pa_nil)) (pe_globI (by rfl) Z.g_MOST_ROWS) (nomark _)) (pss_one Wy.ps_never) pss_nil)
      (pss_cons (ps_set (i := 2) sc_Table_put.nd rfl (Or.inl rfl) (pe_fldK (K := K) rfl (pv 0) rfl))
      (pss_cons (ps_fld (pv 0) (pe_op op_add (pv 2) pe_int) rfl)
      (pss_cons (ps_dput (hu_of hr) (pe_fldK (K := K) rfl (pv 0) rfl) (pv 2) (pe_callTy (T := "tuple") (r := rTupS K) c_tuple (by rfl) Z.tuple (by decide +kernel) (pa_cons (pv 1) pa_nil)) rfl)
      (pss_cons (ps_for PassesOwn.never rfl (pi_list (pe_fldK (K := K) rfl (pv 0) rfl)) (pg_name (i := 3) sc_Table_put.nd rfl (Or.inl rfl)) (pss_one (ps_expr (pe_m c_put hr (by decide) pass0 (pv 3) (pa_cons (pv 2) (pa_cons (pe_dget (hu_of hr) (pe_fldK (K := K) rfl (pv 0) rfl) (pv 2) (fun _ _ => rfl)) pa_nil))))))
      (pss_one (ps_ret (pv 2))))))))), ?_⟩
  try dsimp only [cx_K]
  have R0 : Regn (KsR CK (tag s.rows ms)) := ksR_regn CK _
  have w0 := (open_r R0 (tBR_regn C t s dx pd pk ms kvs) hT hU hd).1
  have h := open_t hT hU hd
  have hro := row_out R0 hT (hro.imp (fun z => ⟨z.1, fun f => z.2 ((ff r).mpr (.inl f))⟩) id)
  refine (?_ : SvW _ _ _ (KsR CK (tag s.rows ms)) F1 (fun a => H a ≠ none) (Out F1 H)) H w0
  clear w0
  have w1 := ok.w1
  have w6 := ok.w6
  have mm := ok.m0
  have lk := kvs_len h
  have l8 := ms_len h ok
  have nrow : rowOf s.rows s.made = none := ok.new
  obtain ⟨L0, hL0⟩ : ∃ x, x = Out F1 H := ⟨_, rfl⟩
  rw [← hL0] at h hro ⊢
  refine vw_drop (ew_of R0 (ev_cl (vs := [.ref r, .int s.wd]) (ea_cons (ev_var rfl) (ea_cons (ev_self cls noW h rfl rfl) ea_nil)) (spv rfl fun H1 e => ⟨_, _, rfl, ⟨r, row, rfl, by rw [hw], by omega, hro.imp (ex_l e) fun g => st_of (e _ _ g)⟩, rfl⟩))) fun v N dN _ => SvW.weak ?_ unn_r
  refine vw_when (p := (s.rows.length : Int) = 200) R0 (tp_cmp (ev_op (by rw [← lk]; exact ev_lenD (ev_self cls noR h rfl rfl) h.hd) ev_c rp_eqI)) (fun g => ?_) (fun _ => ?_)
  · exfalso
    omega
  refine vw_asg R0 (ev_self (v := .int s.made) cls noN h rfl rfl) ?_
  refine vw_fld (v := .int (s.made + 1)) R0 (ev_op (ev_var rfl) ev_c rv_I0) (ev_var rfl) h.ht cls noN (by show (4 : Nat) < 1000; decide) ?_
  have h1 : TB C (upd L0 t (.ins C dx (putF "_next" (.int (s.made + 1)) (tFs s.wd pd s.made pk)))) t { s with made := s.made + 1 } dx pd pk ms kvs := h.made (s.made + 1)
  have hro1 : SqL K (upd L0 t (.ins C dx (putF "_next" (.int (s.made + 1)) (tFs s.wd pd s.made pk)))) r (row.map V.int) ∨ (upd L0 t (.ins C dx (putF "_next" (.int (s.made + 1)) (tFs s.wd pd s.made pk)))) r = some (.tup (row.map V.int)) := hro.imp (fun g => sq_ins g h.ht) fun g => tup_upd g h.ht fun ⟨_, z⟩ => by cases z
  have kp1 : KpB L0 (upd L0 t (.ins C dx (putF "_next" (.int (s.made + 1)) (tFs s.wd pd s.made pk)))) t pd pk := KpB.refl.t
  generalize upd L0 t (.ins C dx (putF "_next" (.int (s.made + 1)) (tFs s.wd pd s.made pk))) = L1 at h1 hro1 kp1
  have en : ∀ σ : L2.St, σ[1]? = some (some (.ref r)) → EvN (tCB (rTupS K) (tCons (tVar 1) tNil)) σ L1 fun v N => ∃ q, v = .ref q ∧ (Unn N L1) q = some (.tup (row.map V.int)) := fun σ hσ => by
    rcases hro1 with g | g
    · exact EvN.impD (EvU.n (eu_tuple (ev_var hσ) g)) fun v N dN ⟨p, e, hp⟩ => ⟨p, e, unn_l (fun a z => dN a z) _ _ hp⟩
    · exact EvN.imp (Ev.n (ev_tupT (ev_var hσ) (st_of g))) fun v N e => ⟨r, e, unn_r _ _ g⟩
  refine vw_dputN (k0 := Sum.inl s.made) R0 h1.hd (en _ rfl) (ev_self (s := { s with made := s.made + 1 }) cls noR h1 rfl rfl) (ev_var rfl) (by omega) ?_
  rintro v N dN ⟨q1, rfl, hq⟩
  have hm := h1.mono (unn_r (N := N))
  have kp2 := kp1.ex (unn_r (N := N))
  generalize Unn N L1 = L1b at hm kp2 hq
  have h2 : TB C (upd L1b pd (.dK (putK kvs (Sum.inl s.made) (.ref q1)))) t { s with rows := s.rows ++ [(s.made, row)], made := s.made + 1 } dx pd pk ms (putK kvs (Sum.inl s.made) (.ref q1)) := hm.rset (by
    have g := trow_put hm.rows hq (n := s.made)
    rw [show putRow s.rows s.made row = s.rows ++ [(s.made, row)] from putRow_new nrow] at g
    exact g)
  have hq2 : (upd L1b pd (.dK (putK kvs (Sum.inl s.made) (.ref q1)))) q1 = some (.tup (row.map V.int)) := tup_upd hq hm.hd fun ⟨_, z⟩ => by cases z
  have kp2 : KpB L0 (upd L1b pd (.dK (putK kvs (Sum.inl s.made) (.ref q1)))) t pd pk := kp2.d
  have hg : valV (putK kvs (Sum.inl s.made) (.ref q1)) (Sum.inl s.made) = some (.ref q1) := (valV_put _ _ _ _).trans (if_pos rfl)
  generalize putK kvs (Sum.inl s.made) (.ref q1) = kvs2 at h2 hq2 kp2 hg
  generalize upd L1b pd (.dK kvs2) = Lc at h2 hq2 kp2
  have fk : ∀ (σ : L2.St) {L' : Hp}, Ex Lc L' → σ[0]? = some (some (.ref t)) → Ev (tFld K (tVar 0) "_kept") σ L' (.ref pk) := fun σ L' e hσ => ev_self cls noK (h2.mono e) hσ rfl
  refine vw_forL R0 (fk _ (Ex.refl _) rfl) (sq_of h2.hk) (fun i σ' T' L' => (∃ y, σ' = [some (.ref t), some (.ref r), some (.int s.made), y]) ∧ T' = KsR CK (tag (s.rows ++ [(s.made, row)]) (ms.take i) ++ tag s.rows (ms.drop i)) ∧ Ex Lc L') ⟨⟨_, rfl⟩, rfl, Ex.refl _⟩ (fun i σ' T' L' ⟨_, _, e⟩ => sq_of (e _ _ h2.hk)) ?_ ?_
  · rintro i x σ' T' L' hx ⟨⟨y, rfl⟩, rfl, e⟩
    rw [List.getElem?_map] at hx
    obtain ⟨m, hm, rfl⟩ := Option.map_eq_some_iff.mp hx
    obtain ⟨_, _, mc, m6⟩ := ms_col h ok (List.mem_of_getElem? hm)
    rw [tag_mid hm]
    refine vw_drop' (ew_mt (ksR_regn CK _) (ev_var rfl) (fun H w => ?_) (vs := [.int s.made, .ref q1]) (ea_cons (ev_var rfl) (ea_cons (ev_dget (ev_self cls noR (h2.mono e) rfl rfl) (ev_var rfl) (.inl ⟨kvs2, Sum.inl s.made, .inl (e _ _ h2.hd), rfl, hg.symm⟩)) ea_nil)) (spw_ks (s' := s.rows ++ [(s.made, row)]) rfl fun H F tt e2 dj => ⟨m.1, q1, s.made, row, m.2, s.rows, rfl, tt, .inr (st_of (e2 _ _ (e _ _ hq2))), nrow, fun x hx => by have := mc x hx; omega, by omega, by rw [hw]; exact ok.wide, hl, rfl, rfl⟩)) ?_
    · obtain ⟨dx', fs, i1, i2, _⟩ := ks_ins w
      exact ⟨dx', fs, i1, i2⟩
    · rintro v N2 d2 _
      rw [tag_next hm]
      exact vw_kn ⟨⟨_, rfl⟩, rfl, e.trans unn_r⟩
  · rintro σ' T' L' ⟨⟨y, rfl⟩, rfl, e⟩
    rw [List.length_map, tag_end]
    refine vw_ret (ksR_regn CK _) (ev_var rfl) fun H' w' => ?_
    exact close_t (s' := { s with rows := s.rows ++ [(s.made, row)], made := s.made + 1 }) hT hU hd ff q w' (h2.mono e) (fun a o a1 a2 a3 ha => e _ _ (kp2 a o a1 a2 a3 (hL0 ▸ ha))) (fun a z => (z rfl).elim) nonew_ex rfl
theorem ok_tdrop {f : Addr} {fd : FuncData} (F : Fun K "drop" "Table.drop" s_Table_drop f fd) (Z : Zs mg) (cls : Cls K C) (noW : NoAttr K C "width") (noR : NoAttr K C "_rows") (noN : NoAttr K C "_next") (noK : NoAttr K C "_kept") (clsK : Cls K CK) (noC : NoAttr K CK "columns")
    (c_row : Mt P w K mg base CX0 2 C "row" (SpR 2 (RRowT C))) (c_drop : Mt P w K mg base CX0 3 CK "drop" (SpW 3 (RKDrop (keptS clsK noC)))) : FnOk P w K mg base CX0 4 f fd ["self", "number"] (SpW 2 (RTDrop (tabS CK cls noW))) := by
  refine F.ok sc_Table_drop (fun vs H Q E h => h.1) (fun cdv A outer s H vs Q E hr h => ?_)
  obtain ⟨_, F, T', P', ⟨t, s, n, row, rfl, ⟨dx, pd, pk, ms, kvs, F1, F2, hT, hU, hd, ff⟩, ok, hn, rfl, rfl⟩, q⟩ := h
  refine ⟨_, (pss_cons (ps_set (i := 2) sc_Table_drop.nd rfl (Or.inl rfl) (pe_m c_row hr (by decide) pass0 (pv 0) (pa_cons (pv 1) pa_nil)))
      (pss_cons (ps_for PassesOwn.never rfl (pi_list (pe_fldK (K := K) rfl (pv 0) rfl)) (pg_name (i := 3) sc_Table_drop.nd rfl (Or.inl rfl)) (pss_one (ps_expr (pe_m c_drop hr (by decide) pass0 (pv 3) (pa_cons (pv 1) (pa_cons (pv 2) pa_nil))))))
      (pss_one (ps_ddel (pe_fldK (K := K) rfl (pv 0) rfl) (pv 1))))), ?_⟩
  try dsimp only [cx_K]
  have R0 : Regn (KsR CK (tag s.rows ms)) := ksR_regn CK _
  have w0 := (open_r R0 (tBR_regn C t s dx pd pk ms kvs) hT hU hd).1
  have h := open_t hT hU hd
  refine (?_ : SvW _ _ _ (KsR CK (tag s.rows ms)) F1 (fun a => H a ≠ none) (Out F1 H)) H w0
  clear w0
  have w1 := ok.w1
  have w6 := ok.w6
  have hw := ok.wide n row hn
  have lk := kvs_len h
  obtain ⟨L0, hL0⟩ : ∃ x, x = Out F1 H := ⟨_, rfl⟩
  rw [← hL0] at h ⊢
  obtain ⟨q1, hg, hq⟩ := trow_val h.rows hn
  refine vw_asg R0 (ev_mt (vs := [.int n]) (ev_var rfl) h.ht rfl (ea_cons (ev_var rfl) ea_nil) (spv_row h hg)) ?_
  refine vw_forL R0 (ev_self cls noK h rfl rfl) (sq_of h.hk) (fun i σ' T' L' => (∃ y, σ' = [some (.ref t), some (.int n), some (.ref q1), y]) ∧ T' = KsR CK (tag (s.rows.filter fun p => decide (¬ p.1 = n)) (ms.take i) ++ tag s.rows (ms.drop i)) ∧ Ex L0 L') ⟨⟨_, rfl⟩, rfl, Ex.refl _⟩ (fun i σ' T' L' ⟨_, _, e⟩ => sq_of (e _ _ h.hk)) ?_ ?_
  · rintro i x σ' T' L' hx ⟨⟨y, rfl⟩, rfl, e⟩
    rw [List.getElem?_map] at hx
    obtain ⟨m, hm, rfl⟩ := Option.map_eq_some_iff.mp hx
    obtain ⟨_, _, mc, m6⟩ := ms_col h ok (List.mem_of_getElem? hm)
    rw [tag_mid hm]
    refine vw_drop' (ew_mt (ksR_regn CK _) (ev_var rfl) (fun H w => ?_) (vs := [.int n, .ref q1]) (ea_cons (ev_var rfl) (ea_cons (ev_var rfl) ea_nil)) (spw_ks (s' := s.rows.filter fun p => decide (¬ p.1 = n)) rfl fun H F tt e2 dj => ⟨m.1, q1, n, row, m.2, s.rows, rfl, tt, .inr (st_of (e2 _ _ (e _ _ hq))), hn, fun x hx => by have := mc x hx; omega, by omega, by rw [hw]; exact ok.wide, rfl, rfl⟩)) ?_
    · obtain ⟨dx', fs, i1, _, i2, _⟩ := ks_ins w
      exact ⟨dx', fs, i1, i2⟩
    · rintro v N2 d2 _
      rw [tag_next hm]
      exact vw_kn ⟨⟨_, rfl⟩, rfl, e.trans unn_r⟩
  · rintro σ' T' L' ⟨⟨y, rfl⟩, rfl, e⟩
    rw [List.length_map, tag_end]
    have h' := h.mono e
    refine vw_last (vw_ddel (k0 := Sum.inl n) (ksR_regn CK _) h'.hd (ev_self cls noR h' rfl rfl) (ev_var rfl) (by rw [hg]; rfl) (vw_next fun H' w' => ?_))
    have h2 : TB C (upd L' pd (.dK (dropK kvs (Sum.inl n)))) t { s with rows := s.rows.filter fun p => decide (¬ p.1 = n) } dx pd pk ms (dropK kvs (Sum.inl n)) := h'.rset (trow_drop n h'.rows)
    have kp : KpB L0 (upd L' pd (.dK (dropK kvs (Sum.inl n)))) t pd pk := (KpB.refl.ex e).d
    exact close_t (P := fun v _ => v = .non) (s' := { s with rows := s.rows.filter fun p => decide (¬ p.1 = n) }) hT hU hd ff q w' h2 (fun a o a1 a2 a3 ha => kp a o a1 a2 a3 (hL0 ▸ ha)) (fun a z => (z rfl).elim) nonew_ex rfl
theorem row_cut {row : List Int} {c : Nat} (x : Int) (hc : c < row.length) : cutV (row.map V.int) none (some (c : Int)) ++ [V.int x] ++ cutV (row.map V.int) (some ((c : Int) + 1)) none = (row.set c x).map V.int := by
  rw [cut_to2 (by rw [List.length_map]; omega), cut_from2 (by rw [List.length_map]; omega), List.set_eq_take_append_cons_drop, if_pos hc, List.map_append, List.map_cons, List.map_take, List.map_drop, List.append_assoc]
  rfl
theorem ok_tchange {f : Addr} {fd : FuncData} (F : Fun K "change" "Table.change" s_Table_change f fd) (Z : Zs mg) (cls : Cls K C) (noW : NoAttr K C "width") (noR : NoAttr K C "_rows") (noN : NoAttr K C "_next") (noK : NoAttr K C "_kept") (clsK : Cls K CK) (noC : NoAttr K CK "columns")
    (c_row : Mt P w K mg base CX0 2 C "row" (SpR 2 (RRowT C))) (c_check_column : Cl P w K mg base CX0 3 "check_column" (SpR 2 (RChk PCol))) (c_check_value : Cl P w K mg base CX0 2 "check_value" (SpR 1 RChk1)) (c_drop : Mt P w K mg base CX0 3 CK "drop" (SpW 3 (RKDrop (keptS clsK noC)))) (c_put : Mt P w K mg base CX0 3 CK "put" (SpW 3 (RKPut (keptS clsK noC)))) :
    FnOk P w K mg base CX0 4 f fd ["self", "number", "column", "value"] (SpW 4 (RTChange (tabS CK cls noW))) := by
  refine F.ok sc_Table_change (fun vs H Q E h => h.1) (fun cdv A outer s H vs Q E hr h => ?_)
  obtain ⟨_, F, T', P', ⟨t, s, n, c, x, row, rfl, ⟨dx, pd, pk, ms, kvs, F1, F2, hT, hU, hd, ff⟩, ok, hn, c0, c1, rfl, rfl⟩, q⟩ := h
  refine ⟨_, (pss_cons (ps_set (i := 4) sc_Table_change.nd rfl (Or.inl rfl) (pe_m c_row hr (by decide) pass0 (pv 0) (pa_cons (pv 1) pa_nil)))
      (pss_cons (ps_expr (pe_cl c_check_column hr (by decide) pass0 (by rfl) (pa_cons (pv 2) (pa_cons (pe_fldK (K := K) rfl (pv 0) rfl) pa_nil))))
      (pss_cons (ps_expr (pe_cl c_check_value hr (by decide) pass0 (by rfl) (pa_cons (pv 3) pa_nil)))
      (pss_cons (ps_set (i := 5) sc_Table_change.nd rfl (Or.inl rfl) (pe_op (r := rCatA K) op_catA (pe_op (r := rCatA K) op_catA (pe_slice (r := rSlA K) sl_tupA (pv 4) po_none (po_some (pv 2))) (pe_tup (pa_cons (pv 3) pa_nil))) (pe_slice (r := rSlA K) sl_tupA (pv 4) (po_some (pe_op op_add (pv 2) pe_int)) po_none)))
      (pss_cons (ps_for PassesOwn.never rfl (pi_list (pe_fldK (K := K) rfl (pv 0) rfl)) (pg_name (i := 6) sc_Table_change.nd rfl (Or.inl rfl)) (pss_cons (ps_expr (pe_m c_drop hr (by decide) pass0 (pv 6) (pa_cons (pv 1) (pa_cons (pv 4) pa_nil)))) (pss_one (ps_expr (pe_m c_put hr (by decide) pass0 (pv 6) (pa_cons (pv 1) (pa_cons (pv 5) pa_nil)))))))
      (pss_one (ps_dput (hu_of hr) (pe_fldK (K := K) rfl (pv 0) rfl) (pv 1) (pv 5) rfl))))))), ?_⟩
  try dsimp only [cx_K]
  have R0 : Regn (KsR CK (tag s.rows ms)) := ksR_regn CK _
  have w0 := (open_r R0 (tBR_regn C t s dx pd pk ms kvs) hT hU hd).1
  have h := open_t hT hU hd
  refine (?_ : SvW _ _ _ (KsR CK (tag s.rows ms)) F1 (fun a => H a ≠ none) (Out F1 H)) H w0
  clear w0
  have w1 := ok.w1
  have w6 := ok.w6
  have hw := ok.wide n row hn
  have lk := kvs_len h
  obtain ⟨L0, hL0⟩ : ∃ x, x = Out F1 H := ⟨_, rfl⟩
  rw [← hL0] at h ⊢
  obtain ⟨q1, hg, hq⟩ := trow_val h.rows hn
  obtain ⟨c', rfl⟩ : ∃ k : Nat, c = k := ⟨c.toNat, by omega⟩
  rw [Int.toNat_natCast] at q
  have hc' : c' < row.length := by omega
  refine vw_asg R0 (ev_mt (vs := [.int n]) (ev_var rfl) h.ht rfl (ea_cons (ev_var rfl) ea_nil) (spv_row h hg)) ?_
  refine vw_drop (ew_of R0 (ev_cl (vs := [.int c', .int s.wd]) (ea_cons (ev_var rfl) (ea_cons (ev_self cls noW h rfl rfl) ea_nil)) (spv rfl fun H1 e => ⟨_, _, rfl, ⟨c', s.wd, rfl, rfl, c0, c1⟩, rfl⟩))) fun v N dN _ => SvW.weak ?_ unn_r
  refine vw_drop (ew_of R0 (ev_cl (vs := [.int x]) (ea_cons (ev_var rfl) ea_nil) (spv rfl fun H1 e => ⟨_, rfl, rfl⟩))) fun v N dN _ => SvW.weak ?_ unn_r
  have lr : row.length ≤ 6 := by omega
  have en : EvU (tOp (rCatA K) (tOp (rCatA K) (tSl (rSlA K) (tVar 4) tNoPart (tPart (tVar 2))) (tTup (tCons (tVar 3) tNil))) (tSl (rSlA K) (tVar 4) (tPart (tOp (rI0 fun i j => .int (i + j)) (tVar 2) (tC (.int 1)))) tNoPart)) [some (.ref t), some (.int n), some (.int c'), some (.int x), some (.ref q1), none, none] L0 ((row.set c' x).map V.int) := by
    rw [← row_cut x hc']
    have lm : (row.map V.int).length = row.length := List.length_map _
    have so := st_of (K := K) hq
    refine eu_catA (eu_catA (eu_slA (ev_var rfl) eo_none (eo_some (ev_var rfl)) so ?_) (eu_tup (vs := [.int x]) (ea_cons (ev_var rfl) ea_nil) (by simp)) ?_) (eu_slA (ev_var rfl) (eo_some (ev_op (ev_var rfl) ev_c rv_I0)) eo_none so ?_) ?_
    · rw [HT.sIx_nat, lm]
      omega
    · have := cutV_length (row.map V.int) none (some (c' : Int))
      simp only [List.length_singleton]
      omega
    · rw [show ((c' : Int) + 1) = ((c' + 1 : Nat) : Int) from rfl, HT.sIx_nat, lm]
      omega
    · have g1 := cutV_length (row.map V.int) none (some (c' : Int))
      have g2 := cutV_length (row.map V.int) (some ((c' : Int) + 1)) none
      rw [List.length_append]
      simp only [List.length_singleton]
      omega
  refine vw_asgN R0 (EvU.n en) ?_
  rintro v N dN ⟨q2, rfl, hq2⟩
  have hq2 : (Unn N L0) q2 = some (.tup ((row.set c' x).map V.int)) := unn_l (fun a z => (dN a z).1) _ _ hq2
  have h1 := h.mono (unn_r (N := N))
  have hq1 := (unn_r (N := N)) _ _ hq
  have kp1 : KpB L0 (Unn N L0) t pd pk := KpB.refl.ex unn_r
  generalize Unn N L0 = L1 at h1 hq1 hq2 kp1
  have hf : rowOf (s.rows.filter fun p => decide (¬ p.1 = n)) n = none := by
    rw [rowOf_filter, if_pos rfl]
  have lf : (s.rows.filter fun p => decide (¬ p.1 = n)).length + 1 = s.rows.length := filter_one (ok.nd.imp fun h e => by omega) hn
  have l200 := ok.l200
  have okd := ok.drop (n := n)
  refine vw_forL R0 (ev_self cls noK h1 rfl rfl) (sq_of h1.hk) (fun i σ' T' L' => (∃ y, σ' = [some (.ref t), some (.int n), some (.int c'), some (.int x), some (.ref q1), some (.ref q2), y]) ∧ T' = KsR CK (tag ((s.rows.filter fun p => decide (¬ p.1 = n)) ++ [(n, row.set c' x)]) (ms.take i) ++ tag s.rows (ms.drop i)) ∧ Ex L1 L') ⟨⟨_, rfl⟩, rfl, Ex.refl _⟩ (fun i σ' T' L' ⟨_, _, e⟩ => sq_of (e _ _ h1.hk)) ?_ ?_
  · rintro i y0 σ' T' L' hx ⟨⟨y, rfl⟩, rfl, e⟩
    rw [List.getElem?_map] at hx
    obtain ⟨m, hm, rfl⟩ := Option.map_eq_some_iff.mp hx
    obtain ⟨_, _, mc, m6⟩ := ms_col h ok (List.mem_of_getElem? hm)
    rw [tag_mid hm]
    refine vw_drop (ew_mt (ksR_regn CK _) (ev_var rfl) (fun H w => ?_) (vs := [.int n, .ref q1]) (ea_cons (ev_var rfl) (ea_cons (ev_var rfl) ea_nil)) (spw_ks (s' := s.rows.filter fun p => decide (¬ p.1 = n)) rfl fun H F tt e2 dj => ⟨m.1, q1, n, row, m.2, s.rows, rfl, tt, .inr (st_of (e2 _ _ (e _ _ hq1))), hn, fun x hx => by have := mc x hx; omega, by omega, by rw [hw]; exact ok.wide, rfl, rfl⟩)) ?_
    · obtain ⟨dx', fs, i1, _, i2, _⟩ := ks_ins w
      exact ⟨dx', fs, i1, i2⟩
    rintro v N2 d2 _
    have e3 := e.trans (unn_r (N := N2))
    refine vw_drop' (ew_mt (ksR_regn CK _) (ev_var rfl) (fun H w => ?_) (vs := [.int n, .ref q2]) (ea_cons (ev_var rfl) (ea_cons (ev_var rfl) ea_nil)) (spw_ks (s' := (s.rows.filter fun p => decide (¬ p.1 = n)) ++ [(n, row.set c' x)]) rfl fun H F tt e2 dj => ⟨m.1, q2, n, row.set c' x, m.2, s.rows.filter fun p => decide (¬ p.1 = n), rfl, tt, .inr (st_of (e2 _ _ (e3 _ _ hq2))), hf, fun x hx => by rw [List.length_set]; have := mc x hx; omega, by rw [List.length_set]; omega, by rw [List.length_set, hw]; exact okd.wide, by omega, rfl, rfl⟩)) ?_
    · obtain ⟨dx', fs, i1, i2, _⟩ := ks_ins w
      exact ⟨dx', fs, i1, i2⟩
    · rintro v N3 d3 _
      rw [tag_next hm]
      exact vw_kn ⟨⟨_, rfl⟩, rfl, e3.trans unn_r⟩
  · rintro σ' T' L' ⟨⟨y, rfl⟩, rfl, e⟩
    rw [List.length_map, tag_end]
    have h' := h1.mono e
    have ho := rowOf_putRow (row := row.set c' x) (m := n) hn
    refine vw_imp (T' := KsR CK (tag (putRow s.rows n (row.set c' x)) ms)) (fun F H t => ks_same (fun m => ?_) ?_ ?_ t) ?_
    · rw [rowOf_snoc, rowOf_filter, rowOf_putRow hn]
      by_cases g : n = m
      · rw [if_pos g, if_pos g, if_pos g]
      · rw [if_neg g]
        have e2 : (if n = m then some (row.set c' x) else rowOf s.rows m) = rowOf s.rows m := if_neg g
        rw [e2]
        cases rowOf s.rows m with
        | none => exact if_neg g
        | some r => rfl
    · rw [putRow_len hn, List.length_append]
      exact lf
    · rw [putRow_keys hn]
      exact ok.nd.imp fun h e => by omega
    refine vw_last (vw_dput (k0 := Sum.inl n) (ksR_regn CK _) h'.hd (ev_var rfl) (ev_self cls noR h' rfl rfl) (ev_var rfl) (by omega) (vw_next fun H' w' => ?_))
    have h2 : TB C (upd L' pd (.dK (putK kvs (Sum.inl n) (.ref q2)))) t { s with rows := putRow s.rows n (row.set c' x) } dx pd pk ms (putK kvs (Sum.inl n) (.ref q2)) := h'.rset (trow_put h'.rows (e _ _ hq2))
    have kp : KpB L0 (upd L' pd (.dK (putK kvs (Sum.inl n) (.ref q2)))) t pd pk := (kp1.ex e).d
    exact close_t (P := fun v _ => v = .non) (s' := { s with rows := putRow s.rows n (row.set c' x) }) hT hU hd ff q w' h2 (fun a o a1 a2 a3 ha => kp a o a1 a2 a3 (hL0 ▸ ha)) (fun a z => (z rfl).elim) nonew_ex rfl
end
section
variable {C CK : Addr}
theorem wks_ord {s : Rows} {ms : List KM} {F0 B0 : Reg} {L H : Hp} (w : Wld (KsR CK (tag s ms)) F0 B0 L H) : ∀ m ∈ ms, KOrd CK H m := by
  obtain ⟨_, tt, _⟩ := w
  exact ks_ord tt
theorem spl_ord {H : Hp} {t dx pd pk : Addr} {s : TabS} {ms : List KM} {kvs : List (Key × V)} {cts : List Addr} (h : TB C H t s dx pd pk ms kvs) (l8 : ms.length ≤ 8) (p : Paired (fun (m : KM) ct => ∃ dx pk, H m.1 = some (.ins CK dx (kFs ct pk))) ms cts) : SpL (SpN 1 (ROrdT C CK)) [.ref t] H (cts.map V.ref) :=
  spl rfl fun H1 e => ⟨t, dx, pd, pk, s, ms, kvs, cts, rfl, h.mono e, l8, paired_imp (fun a b ⟨dx, pk, r⟩ => ⟨dx, pk, e _ _ r⟩) p, rfl⟩
theorem ok_ttell {f : Addr} {fd : FuncData} (F : Fun K "tell" "Table.tell" s_Table_tell f fd) (Z : Zs mg) (cls : Cls K C) (noW : NoAttr K C "width") (noR : NoAttr K C "_rows") (noN : NoAttr K C "_next") (noK : NoAttr K C "_kept") (clsK : Cls K CK) (noC : NoAttr K CK "columns")
    (c_check_order : Cl P w K mg base CX0 4 "check_order" (SpR 2 (RChk POrd))) (c_orders : Mt P w K mg base CX0 1 C "orders" (SpN 1 (ROrdT C CK))) (c_numbers : Mt P w K mg base CX0 1 C "numbers" (SpN 1 (RNumT C)))
    (c_Kept : Mc P w K mg base CX0 1 "Kept" CK (spKInit (keptS clsK noC))) (c_put : Mt P w K mg base CX0 3 CK "put" (SpW 3 (RKPut (keptS clsK noC)))) : FnOk P w K mg base CX0 5 f fd ["self", "order"] (SpW 2 (RTTell (tabS CK cls noW))) := by
  refine F.ok sc_Table_tell (fun vs H Q E h => h.1) (fun cdv A outer s H vs Q E hr h => ?_)
  obtain ⟨_, F, T', P', ⟨t, o, s, c, rfl, ⟨dx, pd, pk, ms, kvs, F1, F2, hT, hU, hd, ff⟩, ok, ho, c0, c1, c2, c6, cn, l8, rfl, rfl⟩, q⟩ := h
  refine ⟨_, (pss_cons (ps_expr (pe_cl c_check_order hr (by decide) pass0 (by rfl) (pa_cons (pv 1) (pa_cons (pe_fldK (K := K) rfl (pv 0) rfl) pa_nil))))
      (pss_cons (ps_if (pt_cmpR (r := rInD K) (op_inD (units65 hr)) (pv 1) (pe_m0 c_orders hr (by decide) pass0 (pv 0)) (by rfl)) (pss_one Wy.ps_never) pss_nil)
      (pss_cons (ps_if (pt_cmpR op_eq (pe_callB (id := "len") (r := rLenS K) c_len (by rfl) Z.len PySem.boot_len (pa_cons (pe_fldK (K := K) rfl (pv 0) rfl) pa_nil)) (pe_globI (by rfl) Z.g_MOST_ORDERS) (nomark _)) (pss_one Wy.ps_never) pss_nil)
      (pss_cons (ps_set (i := 2) sc_Table_tell.nd rfl (Or.inl rfl) (pe_k c_Kept hr (by decide) pass0 (by rfl) (pa_cons (pv 1) pa_nil)))
      (pss_cons (ps_for PassesOwn.never rfl (pi_list (pe_m0 c_numbers hr (by decide) pass0 (pv 0))) (pg_name (i := 3) sc_Table_tell.nd rfl (Or.inl rfl)) (pss_one (ps_expr (pe_m c_put hr (by decide) pass0 (pv 2) (pa_cons (pv 3) (pa_cons (pe_dget (hu_of hr) (pe_fldK (K := K) rfl (pv 0) rfl) (pv 3) (fun _ _ => rfl)) pa_nil))))))
      (pss_one (ps_expr (pe_bm PySem.F.plainAttrs_list PySem.F.slot_list_append PySem.F.type_list_append mt_append (pe_fldK (K := K) rfl (pv 0) rfl) (pa_cons (pv 2) pa_nil))))))))), ?_⟩
  try dsimp only [cx_K]
  have R0 : Regn (KsR CK (tag s.rows ms)) := ksR_regn CK _
  have w0 := (open_r R0 (tBR_regn C t s dx pd pk ms kvs) hT hU hd).1
  have h := open_t hT hU hd
  have ho := tup_out R0 hT ho
  refine (?_ : SvW _ _ _ (KsR CK (tag s.rows ms)) F1 (fun a => H a ≠ none) (Out F1 H)) H w0
  clear w0
  have w1 := ok.w1
  have w6 := ok.w6
  have l200 := ok.l200
  have nd : (s.rows.map (·.1)).Nodup := ok.nd.imp fun h e => by omega
  have lk := kvs_len h
  have lo : ms.length = s.os.length := by rw [← h.os, List.length_map]
  obtain ⟨L0, hL0⟩ : ∃ x, x = Out F1 H := ⟨_, rfl⟩
  rw [← hL0] at h ho ⊢
  refine vw_drop (ew_of R0 (ev_cl (vs := [.ref o, .int s.wd]) (ea_cons (ev_var rfl) (ea_cons (ev_self cls noW h rfl rfl) ea_nil)) (spv rfl fun H1 e => ⟨_, _, rfl, ⟨o, c, s.wd, rfl, rfl, e _ _ ho, c0, c1, c2, c6⟩, rfl⟩))) fun v N dN _ => SvW.weak ?_ unn_r
  refine vw_whenH (p := c ∈ s.os) R0 (fun H' w => ?_) cn ?_
  · have hk := wks_ord w
    have h' := h.mono w.lx
    obtain ⟨cts, p1, p2⟩ := kords hk
    refine tp_val (ev_opL2 (ev_var rfl) (el_mt (vs := []) (ev_var rfl) h'.ht rfl ea_nil (spl_ord h' (by omega) p2)) fun p H2 e hp => ?_)
    rw [← h'.os]
    exact rv_inOrd hp (paired_imp (fun a b r => ordIs_loc r fun x u hx _ => e x u hx) p1) (st_of (e _ _ (w.lx _ _ ho)))
  refine vw_when (p := (ms.length : Int) = 8) R0 (tp_cmp (ev_op (by rw [← List.length_map (f := fun m : KM => V.ref m.1)]; exact ev_lenL (ev_self cls noK h rfl rfl) (sq_of h.hk)) ev_c rp_eqI)) (fun g => by exfalso; omega) (fun _ => ?_)
  refine vw_make R0 ho (ea_cons (ev_var rfl) ea_nil) c0 c6 rfl fun x nx => ?_
  refine vw_forLN (R0.two ((keptS clsK noC).regn _ _ _)) (el_mt (vs := []) (ev_var rfl) h.ht rfl ea_nil (spl_num h ok)) (fun a i σ' T' L' => (∃ y, σ' = [some (.ref t), some (.ref o), some (.ref x), y]) ∧ T' = Two (KsR CK (tag s.rows ms)) (KeptA CK x c (s.rows.take i)) ∧ Ex L0 L' ∧ L' a = some (.lst ((s.rows.map (·.1)).map V.int))) (fun a L' na e ha => ⟨⟨_, rfl⟩, rfl, e, ha⟩) (fun a i σ' T' L' ⟨_, _, _, ha⟩ => sq_of ha) ?_ ?_
  · rintro a i x0 σ' T' L' hx ⟨⟨y, rfl⟩, rfl, e, ha⟩
    rw [List.getElem?_map, List.getElem?_map] at hx
    obtain ⟨n, hn, rfl⟩ := Option.map_eq_some_iff.mp hx
    obtain ⟨p, hp, rfl⟩ := Option.map_eq_some_iff.mp hn
    obtain ⟨g1, g2⟩ := rowOf_at nd hp
    obtain ⟨q1, hg, hq⟩ := trow_val h.rows g1
    have hw := ok.wide _ _ g1
    have li := (List.getElem?_eq_some_iff.mp hp).1
    refine vw_drop' (ew_mt (R0.two (keptA_regn CK x c (s.rows.take i))) (ev_var rfl) (fun H w => ?_) (vs := [.int p.1, .ref q1]) (ea_cons (ev_var rfl) (ea_cons (ev_dget (ev_self cls noR (h.mono e) rfl rfl) (ev_var rfl) (.inl ⟨kvs, Sum.inl p.1, .inl (e _ _ h.hd), rfl, hg.symm⟩)) ea_nil)) (spw_r (T' := KeptA CK x c (s.rows.take i ++ [(p.1, p.2)])) (keptA_regn CK x c _) R0 rfl fun H F tt e2 dj => ⟨x, q1, p.1, p.2, c, s.rows.take i, rfl, tt, .inr (st_of (e2 _ _ (e _ _ hq))), g2, fun y hy => by have := c2 y hy; omega, by omega, fun m r hm => by rw [ok.wide m r (rowOf_take hm), hw], by rw [List.length_take]; omega, rfl, rfl⟩)) ?_
    · obtain ⟨_, ⟨_, _, _, ⟨dx', ct, pk', ps, ns, g⟩, _⟩, _⟩ := w
      exact ⟨dx', _, g.hk, rfl⟩
    · rintro v N2 d2 _
      rw [← take_snoc hp]
      exact vw_kn ⟨⟨_, rfl⟩, rfl, e.trans unn_r, unn_r _ _ ha⟩
  · rintro a σ' T' L' ⟨⟨y, rfl⟩, rfl, e, ha⟩
    rw [List.length_map, List.length_map, List.take_length]
    have h' := h.mono e
    have et : tag s.rows (ms ++ [(x, c)]) = tag s.rows ms ++ [((x, c), s.rows)] := by
      unfold tag
      rw [List.map_append]
      rfl
    refine vw_imp (T' := KsR CK (tag s.rows (ms ++ [(x, c)]))) (fun F H t => ?_) (vw_last (vw_app (ksR_regn CK _) h'.hk (ev_self cls noK h' rfl rfl) (ev_var rfl) (by rw [List.length_map]; omega) (vw_next fun H' w' => ?_)))
    · rw [et]
      refine ks_out (two_swap ?_)
      rw [List.append_nil]
      exact t
    · have em : (ms.map fun m => V.ref m.1) ++ [V.ref x] = (ms ++ [(x, c)]).map fun m => V.ref m.1 := by
        rw [List.map_append]
        rfl
      rw [em] at w'
      have h2 := h'.oset (ms ++ [(x, c)])
      have eo : (ms ++ [(x, c)]).map (·.2) = s.os ++ [c] := by
        rw [List.map_append, h.os]
        rfl
      rw [eo] at h2
      have kp := ((KpB.refl (L := L0) (t := t) (pd := pd) (pk := pk)).ex e).k (o := .lst ((ms ++ [(x, c)]).map fun m => V.ref m.1))
      exact close_t (P := fun v _ => v = .non) (s' := { s with os := s.os ++ [c] }) hT hU hd ff q w' h2 (fun a o a1 a2 a3 ha => kp a o a1 a2 a3 (hL0 ▸ ha)) (fun a z => (z rfl).elim) nonew_ex rfl
theorem find_at {t dx pd pk o k : Addr} {s : TabS} {ms : List KM} {kvs : List (Key × V)} {c : List Int} {j : Nat} {H : Hp} {σ : L2.St} {E : XK} (h : TB C H t s dx pd pk ms kvs) (ok : s.Ok) (hk : ∀ m ∈ ms, KOrd CK H m) (ho : H o = some (.tup (c.map V.int))) (hj : ms[j]? = some (k, c)) (h0 : σ[0]? = some (some (.ref t))) (h1 : σ[1]? = some (some (.ref o))) :
    Ev (tMeth C "_find" (SpR 2 (RFind C CK)) [] E (tVar 0) (tCons (tVar 1) tNil)) σ H (.ref k) := ev_mt (vs := [.ref o]) (ev_var h0) h.ht rfl (ea_cons (ev_var h1) ea_nil) (spv_find h ok hk ho hj)
theorem ok_tforget {f : Addr} {fd : FuncData} (F : Fun K "forget" "Table.forget" s_Table_forget f fd) (Z : Zs mg) (pe : PlainEq K CK) (cls : Cls K C) (noW : NoAttr K C "width") (noK : NoAttr K C "_kept")
    (c__find : Mt P w K mg base CX0 5 C "_find" (SpR 2 (RFind C CK))) : FnOk P w K mg base CX0 6 f fd ["self", "order"] (SpW 2 (RTForget (tabS CK cls noW))) := by
  refine F.ok sc_Table_forget (fun vs H Q E h => h.1) (fun cdv A outer s H vs Q E hr h => ?_)
  obtain ⟨_, F, T', P', ⟨t, o, s, c, j, rfl, ⟨dx, pd, pk, ms, kvs, F1, F2, hT, hU, hd, ff⟩, ok, ho, hj, rfl, rfl⟩, q⟩ := h
  refine ⟨_, (pss_one (ps_expr (pe_bm PySem.F.plainAttrs_list PySem.F.slot_list_remove PySem.F.type_list_remove (m_removeO (C := CK) pe (Nat.lt_of_succ_lt (units65 hr))) (pe_fldK (K := K) rfl (pv 0) rfl) (pa_cons (pe_m c__find hr (by decide) pass0 (pv 0) (pa_cons (pv 1) pa_nil)) pa_nil)))), ?_⟩
  try dsimp only [cx_K]
  have R0 : Regn (KsR CK (tag s.rows ms)) := ksR_regn CK _
  have w0 := (open_r R0 (tBR_regn C t s dx pd pk ms kvs) hT hU hd).1
  have h := open_t hT hU hd
  have ho := tup_out R0 hT ho
  refine (?_ : SvW _ _ _ (KsR CK (tag s.rows ms)) F1 (fun a => H a ≠ none) (Out F1 H)) H w0
  clear w0
  have l8 := ms_len h ok
  obtain ⟨L0, hL0⟩ : ∃ x, x = Out F1 H := ⟨_, rfl⟩
  rw [← hL0] at h ho ⊢
  rw [← h.os, List.getElem?_map] at hj
  obtain ⟨⟨k, c'⟩, hm, e⟩ := Option.map_eq_some_iff.mp hj
  obtain rfl : c' = c := e
  have em : (ms.map fun m => V.ref m.1) = (ms.map (·.1)).map V.ref := by rw [List.map_map]; rfl
  refine vw_last (vw_rem (ks := ms.map (·.1)) (j := j) (k := k) R0 (em ▸ h.hk) (ev_self cls noK h rfl rfl) (fun H' w => find_at (h.mono w.lx) ok (wks_ord w) (w.lx _ _ ho) hm rfl rfl) (by rw [List.getElem?_map, hm]; rfl) (by rw [List.length_map]; omega) (fun H' w => ?_) ?_)
  · obtain ⟨_, tt, _⟩ := w
    refine ⟨ks_ndup tt, fun a ha => ?_⟩
    obtain ⟨m, hm, rfl⟩ := List.mem_map.mp ha
    obtain ⟨dx', ct, pk', g, _⟩ := ks_ord tt m hm
    exact ⟨dx', _, g⟩
  · rw [erase_map, List.map_map]
    refine vw_next fun H' w' => ?_
    rw [tag_at hm] at w'
    have w2 := (w'.imp (fun F t => ks_in t)).snd
    rw [← tag_erase] at w2
    have h2 := h.oset (ms.eraseIdx j)
    rw [← erase_map (fun m : KM => m.2), h.os] at h2
    have kp := (KpB.refl (L := L0) (t := t) (pd := pd) (pk := pk)).k (o := .lst ((ms.eraseIdx j).map fun m => V.ref m.1))
    exact close_t (P := fun v _ => v = .non) (s' := { s with os := s.os.eraseIdx j }) hT hU hd ff q w2 h2 (fun a o a1 a2 a3 ha => kp a o a1 a2 a3 (hL0 ▸ ha)) (fun a z => (z rfl).elim) nonew_ex rfl
theorem ok_tlisted {f : Addr} {fd : FuncData} (F : Fun K "listed" "Table.listed" s_Table_listed f fd) (Z : Zs mg) (cls : Cls K C) (noW : NoAttr K C "width") (clsK : Cls K CK) (noC : NoAttr K CK "columns")
    (c__find : Mt P w K mg base CX0 5 C "_find" (SpR 2 (RFind C CK))) (c_numbers : Mt P w K mg base CX0 1 CK "numbers" (SpW 1 (RKNumbers (keptS clsK noC)))) : FnOk P w K mg base CX0 6 f fd ["self", "order"] (SpW 2 (RTListed (tabS CK cls noW))) := by
  refine F.ok sc_Table_listed (fun vs H Q E h => h.1) (fun cdv A outer s H vs Q E hr h => ?_)
  obtain ⟨_, F, T', P', ⟨t, o, s, c, rfl, ⟨dx, pd, pk, ms, kvs, F1, F2, hT, hU, hd, ff⟩, ok, ho, hc, rfl, rfl⟩, q⟩ := h
  refine ⟨_, (pss_one (ps_ret (pe_m0 c_numbers hr (by decide) pass0 (pe_m c__find hr (by decide) pass0 (pv 0) (pa_cons (pv 1) pa_nil))))), ?_⟩
  try dsimp only [cx_K]
  have R0 : Regn (KsR CK (tag s.rows ms)) := ksR_regn CK _
  have w0 := (open_r R0 (tBR_regn C t s dx pd pk ms kvs) hT hU hd).1
  have h := open_t hT hU hd
  have ho := tup_out R0 hT ho
  refine (?_ : SvW _ _ _ (KsR CK (tag s.rows ms)) F1 (fun a => H a ≠ none) (Out F1 H)) H w0
  clear w0
  obtain ⟨L0, hL0⟩ : ∃ x, x = Out F1 H := ⟨_, rfl⟩
  rw [← hL0] at h ho ⊢
  rw [← h.os] at hc
  obtain ⟨j, hj⟩ := List.getElem?_of_mem hc
  rw [List.getElem?_map] at hj
  obtain ⟨⟨k, c'⟩, hm, e⟩ := Option.map_eq_some_iff.mp hj
  obtain rfl : c' = c := e
  have et := tag_at (s := s.rows) hm
  rw [et]
  refine vw_retW (ew_mtH (a := k) (vs := []) (ksR_regn CK _) (fun H' w => ?_) (fun H' w => ?_) (fun _ _ => ea_nil) (spw_ks (m := (k, c')) (s' := s.rows) rfl fun H F tt e2 dj => ⟨k, c', s.rows, rfl, tt, rfl, rfl⟩)) fun v N H' dN p w' => ?_
  · rw [← et] at w
    exact find_at (h.mono w.lx) ok (wks_ord w) (w.lx _ _ ho) hm rfl rfl
  · obtain ⟨dx', fs, i1, _, _, i2, _⟩ := ks_ins w
    exact ⟨dx', fs, i1, i2⟩
  · rw [← et] at w'
    exact close_t (s' := s) hT hU hd ff q w' (h.mono unn_r) (fun a o a1 a2 a3 ha => unn_r _ _ (hL0 ▸ ha)) (fun a z => Classical.not_not.mp (dN a z).2) (unn_l fun a z => (dN a z).1) p
theorem ok_tnumbersW {f : Addr} {fd : FuncData} {ps : List Str} {lv : Nat} (cls : Cls K C) (noW : NoAttr K C "width") (G : FnOk P w K mg base CX0 lv f fd ps (SpN 1 (RNumT C))) : FnOk P w K mg base CX0 lv f fd ps (SpW 1 (RTNumbers (tabS CK cls noW))) := G.imp fun vs H Q E h => by
  obtain ⟨hl, F, T', P', ⟨t, s, rfl, at_, ok, rfl, rfl⟩, q⟩ := h
  obtain ⟨dx, pd, pk, ms, kvs, F1, F2, hT, hU, hd, ff⟩ := id at_
  exact ⟨hl, _, ⟨t, dx, pd, pk, s, ms, kvs, rfl, hU.1, ok, rfl⟩, fun p H2 hp e2 h2 => ret_pure ((tabS CK cls noW).regn _ _) at_ q (.ref p) (one p (.lst _)) H2 (fun a z => by rw [one_ne z]; exact hp) ⟨p, rfl, one_at⟩ (one_ex h2) e2⟩
theorem ok_tordersW {f : Addr} {fd : FuncData} {ps : List Str} {lv : Nat} (cls : Cls K C) (noW : NoAttr K C "width") (G : FnOk P w K mg base CX0 lv f fd ps (SpN 1 (ROrdT C CK))) : FnOk P w K mg base CX0 lv f fd ps (SpWM 1 (RTOrders (tabS CK cls noW))) := G.imp fun vs H Q E h => by
  obtain ⟨hl, F, T', P', ⟨t, s, rfl, at_, ok, rfl, rfl⟩, q⟩ := h
  obtain ⟨dx, pd, pk, ms, kvs, F1, F2, hT, hU, hd, ff⟩ := id at_
  obtain ⟨cts, p1, p2⟩ := kords (ks_ord hT)
  refine ⟨hl, _, ⟨t, dx, pd, pk, s, ms, kvs, cts, rfl, hU.1, ms_len hU.1 ok, p2, rfl⟩, fun p H2 hp e2 h2 => ?_⟩
  refine q (.ref p) (one p (.lst (cts.map V.ref))) (tupsOf H2) H2 F (Frm.of e2) (((tabS CK cls noW).regn _ _).ex at_ e2) (fun a z => .inl z) (fun a z => ?_) (one_ex h2) tups_ex tups_tup ⟨p, _, rfl, one_at, ?_⟩
  · rw [one_ne z]
    refine ⟨hp, fun z => ?_⟩
    obtain ⟨o, ho, _⟩ := ((tabS CK cls noW).regn _ _).dom F H p at_ z
    rw [hp] at ho
    cases ho
  · have p3 := paired_imp (R' := OrdIs (tupsOf H2)) (fun a b (r : OrdIs H a b) => ordIs_loc r fun x o hx ⟨ys, ht⟩ => by
      subst ht
      exact tups_at (e2 _ _ hx)) p1
    rw [hU.1.os] at p3
    exact p3
theorem ok_tinit {f : Addr} {fd : FuncData} (F : Fun K "__init__" "Table.__init__" s_Table_init f fd) (Z : Zs mg) (cls : Cls K C) (noW : NoAttr K C "width") (noR : NoAttr K C "_rows") (noN : NoAttr K C "_next") (noK : NoAttr K C "_kept")
    (c_check_width : Cl P w K mg base CX0 2 "check_width" (SpR 1 RChkW)) : FnOk P w K mg base CX0 3 f fd ["self", "width"] (spTInit (tabS CK cls noW)) := by
  refine F.ok sc_Table_init (fun vs H Q E h => by obtain ⟨x, dx, wd, rfl, _⟩ := h; rfl) (fun cdv A outer s H vs Q E hr h => ?_)
  obtain ⟨x, dx, wd, rfl, hx, hdx, ne, h1, h6, q⟩ := h
  refine ⟨_, (pss_cons (ps_expr (pe_cl c_check_width hr (by decide) pass0 (by rfl) (pa_cons (pv 1) pa_nil)))
      (pss_cons (ps_fld (pv 0) (pv 1) rfl)
      (pss_cons (ps_fld (pv 0) pe_dnewK rfl)
      (pss_cons (ps_fld (pv 0) pe_int rfl)
      (pss_one (ps_fld (pv 0) (pe_lst pa_nil) rfl)))))), ?_⟩
  try dsimp only [cx_K]
  have hx' : H x = some (.ins C dx []) := hx
  refine Sv.at (sv_drop (ev_cl (vs := [.int wd]) (ea_cons (ev_var rfl) ea_nil) (spv rfl fun H1 e => ⟨wd, rfl, by omega, by omega, rfl⟩)) ?_)
  refine sv_fld (v := .int wd) (ev_var rfl) (ev_var rfl) hx' cls noW (by decide) ?_
  refine sv_fldD (ev_var rfl) upd_same cls noR (by show (1 : Nat) < 1000; decide) fun pd H2 nd e2 hd => ?_
  refine sv_fld (v := .int 0) ev_c (ev_var rfl) upd_same cls noN (by show (2 : Nat) < 1000; decide) ?_
  refine sv_last (sv_fldL (xs := []) (el_lst ea_nil (Nat.zero_le _)) (ev_var rfl) upd_same cls noK (by show (3 : Nat) < 1000; decide) fun pk H3 nk e3 hk => sv_next fun H4 e4 => ?_)
  have ndx : pd ≠ x := fun z => by rw [z, upd_same] at nd; cases nd
  have ndd : pd ≠ dx := fun z => by rw [z, upd_ne ne, hdx] at nd; cases nd
  have ndH : H pd = none := by rw [upd_ne ndx] at nd; exact nd
  have nkx : pk ≠ x := fun z => by rw [z, upd_same] at nk; cases nk
  have nk2 : H2 pk = none := by rw [upd_ne nkx, upd_ne nkx] at nk; exact nk
  have old : ∀ a o, H a = some o → a ≠ x → H2 a = some o := fun a o ha n => e2 _ _ (by
    rw [upd_ne n]
    exact ha)
  have nkH : H pk = none := fresh_back (H := upd H x _) e2 nk2 |> fun g => by rw [upd_ne nkx] at g; exact g
  have to4 : ∀ a o, H2 a = some o → a ≠ x → H4 a = some o := fun a o ha n => e4 _ _ (by
    rw [upd_ne n]
    exact e3 _ _ (by rw [upd_ne n, upd_ne n]; exact ha))
  have hx4 : H4 x = some (.ins C dx (tFs wd pd 0 pk)) := e4 _ _ upd_same
  have hd4 : H4 pd = some (.dK []) := to4 _ _ hd ndx
  have hk4 : H4 pk = some (.lst (([] : List KM).map fun m => V.ref m.1)) := e4 _ _ (by rw [upd_ne nkx]; exact hk)
  have hdx4 : H4 dx = some (.own x) := to4 _ _ (old _ _ hdx ne) ne
  refine q H4 (fun a => a = x ∨ a = dx ∨ a = pd ∨ a = pk) (fun a o ha n1 n2 => to4 _ _ (old a o ha n1) n1) (fun a ha => ?_) ⟨dx, pd, pk, [], [], fun _ => False, _, fun _ z => z, ⟨⟨hx4, hd4, .nil, hk4, rfl⟩, .inl rfl, .inr (.inr (.inl rfl)), .inr (.inr (.inr rfl)), fun a z => ?_⟩, fun a z => z.elim, fun a => ⟨.inr, fun z => z.elim (fun z => z.elim) id⟩⟩ (fun a z => z.imp id fun z => z.imp id fun z => z.elim (fun z => by rw [z]; exact ndH) fun z => by rw [z]; exact nkH)
  · by_cases n : a = x
    · rw [n, hx4]
      exact fun z => by cases z
    · cases z : H a with
      | none => exact (ha z).elim
      | some o =>
        rw [to4 _ _ (old a o z n) n]
        exact fun z => by cases z
  · rcases z with z | z | z | z
    · rw [z]
      exact ⟨_, hx4, fun ⟨_, t⟩ => by cases t⟩
    · rw [z]
      exact ⟨_, hdx4, fun ⟨_, t⟩ => by cases t⟩
    · rw [z]
      exact ⟨_, hd4, fun ⟨_, t⟩ => by cases t⟩
    · rw [z]
      exact ⟨_, hk4, fun ⟨_, t⟩ => by cases t⟩
end
/-! ### the program's own answers -/
def RIsEnd : List V → Hp → V → Prop := fun vs _ z => ∃ o : Option Int, vs = [ov o] ∧ z = .bl true
theorem ok_is_end {f : Addr} {fd : FuncData} (F : Fun K "is_end" "is_end" s_is_end f fd) (Z : Zs mg) (c_whole : Cl P w K mg base CX0 1 "whole" (SpR 1 RWhole)) : FnOk P w K mg base CX0 2 f fd ["thing"] (SpR 1 RIsEnd) := by
  refine F.ok sc_is_end (fun vs H Q E h => h.1) (fun cdv A outer s H vs Q E hr h => ?_)
  obtain ⟨_, z, ⟨o, rfl, rfl⟩, q⟩ := h
  refine ⟨_, (pss_one (ps_ret (pe_or (pe_cmpR o_isN (pv 0) pe_non (nomark _)) (pe_one (pe_cl c_whole hr (by decide) pass0 (by rfl) (pa_cons (pv 0) pa_nil)))))), ?_⟩
  try dsimp only [cx_K]
  have g : Ev (tOrV (tOp rNone (tVar 0) (tC .non)) (tCall (SpR 1 RWhole) [] E0 (tCons (tVar 0) tNil))) (L2.start ["thing"] [ov o]) H (.bl (decide (o = none ∨ True))) := ep_or (ev_op (ev_var rfl) ev_c rn_ov) fun hn => by
    cases o with
    | none => exact (hn rfl).elim
    | some i => exact ev_cl (vs := [.int i]) (ea_cons (ev_var rfl) ea_nil) spv_whole
  rw [decide_eq_true (Or.inr trivial)] at g
  exact Sv.at (sv_rq q g)
def RIsTri (K : PySem.W.Frag) : List V → Hp → V → Prop := fun vs H z => ∃ (q : Addr) (t : Tri) (wd : Int), vs = [.ref q, .int wd] ∧ SqT K H q (tv t) ∧ 0 ≤ t.c ∧ t.c < wd ∧ z = .bl true
theorem spv_isTri {H : Hp} {q : Addr} {t : Tri} {wd : Int} (h : SqT K H q (tv t)) (h0 : 0 ≤ t.c) (h1 : t.c < wd) : SpV (SpR 2 (RIsTri K)) [.ref q, .int wd] H (.bl true) := spv rfl fun H1 e => ⟨q, t, wd, rfl, ex_t e h, h0, h1, rfl⟩
theorem ok_is_triple {f : Addr} {fd : FuncData} (F : Fun K "is_triple" "is_triple" s_is_triple f fd) (Z : Zs mg) (c_is_column : Cl P w K mg base CX0 2 "is_column" (SpR 2 RIsCol)) (c_is_end : Cl P w K mg base CX0 2 "is_end" (SpR 1 RIsEnd)) : FnOk P w K mg base CX0 3 f fd ["thing", "width"] (SpR 2 (RIsTri K)) := by
  refine F.ok sc_is_triple (fun vs H Q E h => h.1) (fun cdv A outer s H vs Q E hr h => ?_)
  obtain ⟨_, z, ⟨p, t, wd, rfl, hp, h0, h1, rfl⟩, q⟩ := h
  refine ⟨_, (pss_cons (ps_if (PW.pt (pw_or (pt_not (pt_val (pe_callB (id := "isinstance") (r := rIsi K) call_isi (by rfl) Z.isinstance (by decide +kernel) (pa_cons (pv 0) (pa_cons (pe_bltn (v := .ty "tuple") (by rfl) Z.tuple (by decide +kernel) rfl) pa_nil))))) (pw_or1 (pt_cmpR op_ne (pe_callB (id := "len") (r := rLenS K) c_len (by rfl) Z.len PySem.boot_len (pa_cons (pv 0) pa_nil)) pe_int (nomark _))))) (pss_one (ps_ret pe_bl)) pss_nil)
      (pss_cons (ps_asg (pv 0) (pg_tup (by rfl) (pgs_cons (pg_name (i := 2) sc_is_triple.nd rfl (Or.inl rfl)) (pgs_cons (pg_name (i := 3) sc_is_triple.nd rfl (Or.inl rfl)) (pgs_cons (pg_name (i := 4) sc_is_triple.nd rfl (Or.inl rfl)) pgs_nil)))))
      (pss_one (ps_ret (pe_and (pe_cl c_is_column hr (by decide) pass0 (by rfl) (pa_cons (pv 2) (pa_cons (pv 1) pa_nil))) (pe_and (pe_cl c_is_end hr (by decide) pass0 (by rfl) (pa_cons (pv 3) pa_nil)) (pe_one (pe_cl c_is_end hr (by decide) pass0 (by rfl) (pa_cons (pv 4) pa_nil))))))))), ?_⟩
  try dsimp only [cx_K]
  have len := ev_lenT (K := K) (ta := tVar 0) (σ := [some (.ref p), some (.int wd), none, none, none]) (ev_var rfl) hp
  refine Sv.at (sv_when (p := ¬ True ∨ ¬ (3 : Int) = 3) (tp_or (tp_not (tp_valT (ev_isi (ev_var rfl) (fun _ e => tyx_t (ex_t e hp)) (kit_ty (by decide +kernel))))) fun _ => tp_cmp (ev_op len ev_c rp_neI)) (fun h => (h.elim (fun h => h trivial) fun h => h rfl).elim) (fun _ => ?_))
  refine sv_un3 (x := .int t.c) (y := ov t.lo) (z := ov t.hi) (ev_var rfl) hp ?_
  refine sv_rq q (ev_andV (a := true) (b := true) (ev_cl (vs := [.int t.c, .int wd]) (ea_cons (ev_var rfl) (ea_cons (ev_var rfl) ea_nil)) (spv_isCol h0 h1)) fun _ => ev_andV (a := true) (b := true) (ev_cl (vs := [ov t.lo]) (ea_cons (ev_var rfl) ea_nil) (spv rfl fun H1 e => ⟨t.lo, rfl, rfl⟩)) fun _ => ev_cl (vs := [ov t.hi]) (ea_cons (ev_var rfl) ea_nil) (spv rfl fun H1 e => ⟨t.hi, rfl, rfl⟩))
def PWish (K : PySem.W.Frag) : V → V → Hp → Prop := fun x y H => ∃ (b : Addr) (ws : List V) (ts : List Tri) (wd : Int), x = .ref b ∧ y = .int wd ∧ SqL K H b ws ∧ Wt K H ws ts ∧ ts.length ≤ 20 ∧ ∀ t ∈ ts, 0 ≤ t.c ∧ t.c < wd
theorem ok_check_wish {f : Addr} {fd : FuncData} (F : Fun K "check_wish" "check_wish" s_check_wish f fd) (Z : Zs mg) (c_is_triple : Cl P w K mg base CX0 3 "is_triple" (SpR 2 (RIsTri K))) : FnOk P w K mg base CX0 4 f fd ["wish", "width"] (SpR 2 (RChk (PWish K))) := by
  refine F.ok sc_check_wish (fun vs H Q E h => h.1) (fun cdv A outer s H vs Q E hr h => ?_)
  obtain ⟨_, z, ⟨x, y, rfl, ⟨b, ws, ts, wd, rfl, rfl, hb, hW, lt, htc⟩, rfl⟩, q⟩ := h
  refine ⟨_, (pss_cons (ps_if (PW.pt (pw_or (pt_not (pt_val (pe_callB (id := "isinstance") (r := rIsi K) call_isi (by rfl) Z.isinstance (by decide +kernel) (pa_cons (pv 0) (pa_cons (pe_bltn (v := .ty "list") (by rfl) Z.list (by decide +kernel) rfl) pa_nil))))) (pw_or1 (pt_cmpR op_gt (pe_callB (id := "len") (r := rLenS K) c_len (by rfl) Z.len PySem.boot_len (pa_cons (pv 0) pa_nil)) (pe_globI (by rfl) Z.g_MOST_TRIPLES) (nomark _))))) (pss_one Wy.ps_never) pss_nil)
      (pss_one (ps_if (pt_not (pt_val (pe_callB (id := "all") (r := rAll K) (cr_all rfl) (by rfl) Z.all (by decide +kernel) (pa_cons (pe_lc (own := [("item", 2)]) (g := gName 2) (tt := tYes) (by rfl) sc_check_wish.nd (pi_list (pv 0)) (blkOk_by (own := [("item", 2)]) (N := ["wish", "width", "item"]) (sc := defScope s_check_wish) (by decide +kernel)) (fun _ _ _ _ _ => (pg_name (i := 2) sc_check_wish.nd rfl (Or.inl rfl))) (fun _ _ _ _ _ => pts_nil) (fun _ _ _ _ _ => (pe_cl c_is_triple hr (by decide) pass0 (by rfl) (pa_cons (pv 2) (pa_cons (pv 1) pa_nil))))) pa_nil)))) (pss_one Wy.ps_never) pss_nil))), ?_⟩
  try dsimp only [cx_K]
  have lw := hW.1
  refine Sv.at (sv_when (p := ¬ True ∨ (ws.length : Int) > 20) (tp_or (tp_not (tp_valT (ev_isi (ev_var rfl) (fun _ e => tyx_l (ex_l e hb)) (kit_ty (by decide +kernel))))) fun _ => tp_cmp (ev_op (ev_lenL (ev_var rfl) hb) ev_c rv_I0)) (fun h => (show False from h.elim (fun h => h trivial) fun h => by omega).elim) (fun _ => ?_))
  have g := ev_allB (K := K) (bs := ts.map fun _ => true) (te := tLc (iList K (tVar 0)) (gName 2) tYes (tCall (SpR 2 (RIsTri K)) [] E0 (tCons (tVar 2) (tCons (tVar 1) tNil))) [2]) (σ := [some (.ref b), some (.int wd), none]) (H := H) (by
    rw [List.map_map]
    refine el_lcM (V.bl ∘ fun _ : Tri => true) (ev_var rfl) hb hW.1 (by omega) (fun _ => rfl) fun i x m hx hm => ?_
    obtain ⟨p, e, hp⟩ := hW.2 i m hm
    rw [hx] at e
    obtain rfl := Option.some.inj e
    have b := htc m (List.mem_of_getElem? hm)
    exact ev_cl (vs := [.ref p, .int wd]) (ea_cons (ev_var rfl) (ea_cons (ev_var rfl) ea_nil)) (spv_isTri hp b.1 b.2))
  have e : ((ts.map fun _ => true).all id) = true := by
    rw [all_id]
    exact List.all_eq_true.mpr fun _ _ => rfl
  rw [e] at g
  exact sv_if' (p := ¬ True) (tp_not (tp_valT g)) (fun h => (h trivial).elim) (fun _ => sv_next fun H1 e => q H1 e)
/-! ### a stretch, as what is known tells it -/
section
variable {C CK : Addr}
def KSt (CK : Addr) (H : Hp) (m : KM) (s : Rows) : Prop := ∃ F, KeptA CK m.1 m.2 s F H
theorem KSt.mono {H H' : Hp} {m : KM} {s : Rows} (e : Ex H H') (h : KSt CK H m s) : KSt CK H' m s := let ⟨F, t⟩ := h; ⟨F, (keptA_regn CK m.1 m.2 s).ex t e⟩
theorem ks_st {s : Rows} {ms : List KM} {F : Reg} {H : Hp} (h : KsR CK (tag s ms) F H) : ∀ m ∈ ms, KSt CK H m s := fun m hm => by
  obtain ⟨F', t, _⟩ := ks_at h (m := (m, s)) (List.mem_map.mpr ⟨m, hm, rfl⟩)
  exact ⟨F', t⟩
def RKStretchN (K : PySem.W.Frag) (CK : Addr) : List V → Hp → (V → Hp → Prop) → Prop := fun vs H P => ∃ (k b : Addr) (c : List Int) (s : Rows) (ws : List V) (ts : List Tri) (wd : Nat), vs = [.ref k, .ref b] ∧ KSt CK H (k, c) s ∧ SqL K H b ws ∧ Wt K H ws ts ∧ ts.length ≤ 20 ∧ wd ≤ 6 ∧ Wide s wd ∧ (∀ t ∈ ts, 0 ≤ t.c ∧ t.c < wd) ∧ (∀ x ∈ c, 0 ≤ x ∧ x < wd) ∧ s.length ≤ 200 ∧
  P = fun v N => ∃ (p : Addr) (ns : List Int), v = .ref p ∧ N p = some (.lst (ns.map V.int)) ∧ Asc c s ns ∧ ∀ n, n ∈ ns ↔ ∃ r, rowOf s n = some r ∧ inS c r ts = true
def RKCoversN (K : PySem.W.Frag) (CK : Addr) : List V → Hp → V → Prop := fun vs H z => ∃ (k b : Addr) (c : List Int) (s : Rows) (ws : List V) (ts : List Tri), vs = [.ref k, .ref b] ∧ KSt CK H (k, c) s ∧ SqL K H b ws ∧ Wt K H ws ts ∧ ts.length ≤ 20 ∧ z = .bl (ts.all fun t => decide (t.c ∈ c))
end
section
variable {C : Addr}
theorem ok_kstretchN {f : Addr} {fd : FuncData} (F : Fun K "stretch" "Kept.stretch" s_Kept_stretch f fd) (cls : Cls K C) (noC : NoAttr K C "columns") (noK : NoAttr K C "_keys") (c_first_and_last : Cl P w K mg base CX0 3 "first_and_last" (SpQ 2 (RFirst K)))
    (c_below : Cl P w K mg base CX0 2 "below" (SpR 2 (RBelow K))) (c_through : Cl P w K mg base CX0 3 "through" (SpR 2 (RThrough K))) : FnOk P w K mg base CX0 4 f fd ["self", "wish"] (SpNn 2 (RKStretchN K C)) := by
  refine F.ok sc_Kept_stretch (fun vs H Q E h => h.1) (fun cdv A outer s H vs Q E hr h => ?_)
  obtain ⟨_, P', ⟨k, b, c, s, ws, ts, wd, rfl, ⟨F0, at_⟩, hb, hW, lt, l6, wide, htc, hcc, l200, rfl⟩, q⟩ := h
  refine ⟨_, (pss_cons (ps_asg (pe_cl c_first_and_last hr (by decide) pass0 (by rfl) (pa_cons (pe_fldK (K := K) rfl (pv 0) rfl) (pa_cons (pv 1) pa_nil))) (pg_tup (by rfl) (pgs_cons (pg_name (i := 2) sc_Kept_stretch.nd rfl (Or.inl rfl)) (pgs_cons (pg_name (i := 3) sc_Kept_stretch.nd rfl (Or.inl rfl)) pgs_nil))))
      (pss_cons (ps_set (i := 4) sc_Kept_stretch.nd rfl (Or.inl rfl) (pe_cl c_below hr (by decide) pass0 (by rfl) (pa_cons (pe_fldK (K := K) rfl (pv 0) rfl) (pa_cons (pv 2) pa_nil))))
      (pss_cons (ps_set (i := 5) sc_Kept_stretch.nd rfl (Or.inl rfl) (pe_cl c_through hr (by decide) pass0 (by rfl) (pa_cons (pe_fldK (K := K) rfl (pv 0) rfl) (pa_cons (pv 3) pa_nil))))
      (pss_one (ps_ret (pe_lc (own := [("key", 6)]) (g := gName 6) (tt := tYes) (by rfl) sc_Kept_stretch.nd (pi_list (pe_slice (r := rSlL K) sl_list (pe_fldK (K := K) rfl (pv 0) rfl) (po_some (pv 4)) (po_some (pv 5)))) (blkOk_by (own := [("key", 6)]) (N := ["self", "wish", "first", "last", "start", "end", "key"]) (sc := defScope s_Kept_stretch) (by decide +kernel)) (fun _ _ _ _ _ => (pg_name (i := 6) sc_Kept_stretch.nd rfl (Or.inl rfl))) (fun _ _ _ _ _ => pts_nil) (fun _ _ _ _ _ => (pe_ix (r := rIxL K) ix_list (pv 6) (pe_un un_neg pe_int) (fun _ _ => rfl))))))))), ?_⟩
  try dsimp only [cx_K]
  obtain ⟨dx, ct, pk, ps, ns, h⟩ := (id at_ : KeptA C k c s F0 H)
  have ln : ns.length ≤ 200 := by rw [h.ord.1]; exact h.l2
  have lp : ps.length = ns.length := by
    have := paired_len h.keys
    rw [List.length_map] at this
    exact this
  have c6 := h.c6
  have lF := faF_len c ts
  have lT := faT_len c ts
  have rw0 : Rw K H (ps.map V.ref) (ns.map (ent c s)) := keptA_rw h.keys
  have hq0 : SqL K H pk (ps.map V.ref) := sq_of h.hp
  refine Sv.at (sv_un2 (ep_cl (vs := [.ref ct, .ref b]) (ea_cons (ev_fld (ev_var rfl) h.hk cls noC rfl) (ea_cons (ev_var rfl) ea_nil)) (spq (P := fun v H2 => ∃ p pf pl, v = .ref p ∧ H2 p = some (.tup [.ref pf, .ref pl]) ∧ H2 pf = some (.lst ((faF c ts).map V.int)) ∧ H2 pl = some (.lst ((faT c ts).map V.int))) rfl fun H1 e => ⟨_, ⟨ct, b, c, ws, ts, rfl, e _ _ h.hc, ex_l e hb, hW.mono e, lt, fun t ht => by have := htc t ht; omega, c6, rfl⟩, fun v H2 h => h⟩)) fun v H1 e1 ⟨p, pf, pl, ev, hp, hf, hl⟩ => ?_)
  refine ⟨p, _, _, ev, st_of hp, ?_⟩
  have fk : ∀ (σ' : L2.St) (H' : Hp), Ex H H' → σ'[0]? = some (some (.ref k)) → Ev (tFld K (tVar 0) "_keys") σ' H' (.ref pk) := fun σ' H' e h0 => ev_fld (ev_var h0) (e _ _ h.hk) cls noK rfl
  refine sv_asg (v := .int ((cntA c s ns (faF c ts) : Nat) : Int)) (ev_cl (vs := [.ref pk, .ref pf]) (ea_cons (fk _ _ e1 rfl) (ea_cons (ev_var rfl) ea_nil)) (spv rfl fun H2 e => ⟨pk, pf, _, _, _, rfl, ex_l (e1.trans e) hq0, rw0.mono (e1.trans e), ex_l e (sq_of hf), by rw [List.length_map]; omega, rw_len rfl h.c6, by omega, asc_anti h.ord.asc _, rfl⟩)) ?_
  refine sv_asg (v := .int ((if faT c ts = [] then ns.length else cntA c s ns (incL (faT c ts)) : Nat) : Int)) (ev_cl (vs := [.ref pk, .ref pl]) (ea_cons (fk _ _ e1 rfl) (ea_cons (ev_var rfl) ea_nil)) (spv rfl fun H2 e => ⟨pk, pl, _, _, _, rfl, ex_l (e1.trans e) hq0, rw0.mono (e1.trans e), ex_l e (sq_of hl), by rw [List.length_map]; omega, rw_len rfl h.c6, by omega, fun key => asc_anti h.ord.asc key, by rw [List.length_map]; rfl⟩)) ?_
  have hst := cntA_le c s ns (faF c ts)
  have hen : (if faT c ts = [] then ns.length else cntA c s ns (incL (faT c ts))) ≤ ns.length := by
    split
    · exact Nat.le_refl _
    · exact cntA_le _ _ _ _
  have iS := fun j n hj => cntA_iff (key := faF c ts) h.ord.asc (j := j) (n := n) hj
  have iE : ∀ (j : Nat) (n : Int), ns[j]? = some n → ((faT c ts = [] ∨ ahead (ent c s n) (incL (faT c ts)) = true) ↔ j < (if faT c ts = [] then ns.length else cntA c s ns (incL (faT c ts)))) := fun j n hj => by
    by_cases g : faT c ts = []
    · rw [if_pos g]
      exact ⟨fun _ => (List.getElem?_eq_some_iff.mp hj).1, fun _ => .inl g⟩
    · rw [if_neg g, ← cntA_iff h.ord.asc hj]
      exact ⟨fun z => z.elim (fun y => (g y).elim) id, .inr⟩
  generalize cntA c s ns (faF c ts) = st at hst iS
  generalize (if faT c ts = [] then ns.length else cntA c s ns (incL (faT c ts))) = en at hen iE
  have sl := el_sl (K := K) (te := tFld K (tVar 0) "_keys") (fk [some (.ref k), some (.ref b), some (.ref pf), some (.ref pl), some (.int (st : Int)), some (.int (en : Int)), none] H1 e1 rfl) (eo_some (ev_var (i := 4) rfl)) (eo_some (ev_var (i := 5) rfl)) (ex_l e1 hq0)
  rw [cut_ab, List.length_map, lp, Nat.min_eq_left hst, Nat.min_eq_left hen, ← List.map_drop, ← List.map_take] at sl
  refine sv_rqN (retN_mono e1 q) ((EvL.n (xs := ((ns.drop st).take (en - st)).map V.int) (el_lcNM V.int sl ?_ ?_ (fun _ => rfl) fun i x m hx hm => ?_)).imp ?_)
  · rw [List.length_map, List.length_take, List.length_take, List.length_drop, List.length_drop, lp]
  · rw [List.length_map, List.length_take, List.length_drop, lp]
    omega
  · have h1 : ns[st + i]? = some m := by
      rw [List.getElem?_take] at hm
      split at hm
      · rw [List.getElem?_drop] at hm
        exact hm
      · cases hm
    have h2 : (ps.map V.ref)[st + i]? = some x := by
      rw [List.getElem?_map] at hx ⊢
      rw [List.getElem?_take] at hx
      split at hx
      · rw [List.getElem?_drop] at hx
        exact hx
      · cases hx
    obtain ⟨p, rfl, rx⟩ := last_key (K := K) h.keys e1 h2 h1
    exact ev_op (ev_var rfl) (ev_neg ev_c) rx
  · rintro v N ⟨p, rfl, hp⟩
    have get : ∀ (i : Nat) m, ((ns.drop st).take (en - st))[i]? = some m ↔ ns[st + i]? = some m ∧ st + i < en := fun i m => by
      rw [List.getElem?_take]
      split
      · rw [List.getElem?_drop]
        exact ⟨fun z => ⟨z, by omega⟩, fun z => z.1⟩
      · exact ⟨fun z => (nomatch z), fun z => (by omega)⟩
    refine ⟨p, _, rfl, hp, ⟨fun n hn => ?_, fun i a b ha hb => ?_⟩, fun n => ?_⟩
    · obtain ⟨i, hi⟩ := List.mem_iff_getElem?.mp hn
      exact h.ord.2.1 n (List.mem_of_getElem? ((get i n).mp hi).1)
    · exact h.ord.2.2 (st + i) a b ((get i a).mp ha).1 ((get _ b).mp hb).1
    · have key : ∀ r, rowOf s n = some r → inS c r ts = (!ahead (ent c s n) (faF c ts) && (decide (faT c ts = []) || ahead (ent c s n) (incL (faT c ts)))) := fun r hr => by
        rw [ent_key hr]
        exact in_keys c r n ts
      constructor
      · intro hn
        obtain ⟨i, hi⟩ := List.mem_iff_getElem?.mp hn
        obtain ⟨h1, h2⟩ := (get i n).mp hi
        obtain ⟨r, hr⟩ := h.ord.2.1 n (List.mem_of_getElem? h1)
        refine ⟨r, hr, ?_⟩
        rw [key r hr, Bool.and_eq_true, Bool.or_eq_true, decide_eq_true_eq, Bool.not_eq_true']
        refine ⟨?_, (iE _ n h1).mpr h2⟩
        cases g : ahead (ent c s n) (faF c ts) with
        | false => rfl
        | true =>
          have := (iS _ n h1).mp g
          omega
      · rintro ⟨r, hr, hin⟩
        rw [key r hr, Bool.and_eq_true, Bool.or_eq_true, decide_eq_true_eq, Bool.not_eq_true'] at hin
        obtain ⟨j, hj⟩ := List.mem_iff_getElem?.mp (h.all n r hr)
        have g1 : st ≤ j := Nat.le_of_not_lt fun z => by
          have := (iS j n hj).mpr z
          rw [hin.1] at this
          cases this
        have g2 := (iE j n hj).mp hin.2
        exact List.mem_iff_getElem?.mpr ⟨j - st, (get _ n).mpr ⟨by rw [show st + (j - st) = j by omega]; exact hj, by omega⟩⟩
theorem ok_kcoversN {f : Addr} {fd : FuncData} {lv : Nat} (F : Fun K "covers" "Kept.covers" s_Kept_covers f fd) (Z : Zs mg) (cls : Cls K C) (noC : NoAttr K C "columns") (noK : NoAttr K C "_keys") :
    FnOk P w K mg base CX0 (lv + 1) f fd ["self", "wish"] (SpR 2 (RKCoversN K C)) := by
  refine F.ok sc_Kept_covers (fun vs H Q E h => h.1) (fun cdv A outer s H vs Q E hr h => ?_)
  obtain ⟨_, z, ⟨k, b, c, s, ws, ts, rfl, ⟨F0, at_⟩, hb, hW, lt, rfl⟩, q⟩ := h
  refine ⟨_, (pss_one (ps_ret (pe_callB (id := "all") (r := rAll K) (cr_all rfl) (by rfl) Z.all (by decide +kernel) (pa_cons (pe_lc (own := [("triple", 2)]) (g := gName 2) (tt := tYes) (by rfl) sc_Kept_covers.nd (pi_list (pv 1)) (blkOk_by (own := [("triple", 2)]) (N := ["self", "wish", "triple"]) (sc := defScope s_Kept_covers) (by decide +kernel)) (fun _ _ _ _ _ => (pg_name (i := 2) sc_Kept_covers.nd rfl (Or.inl rfl))) (fun _ _ _ _ _ => pts_nil) (fun _ _ _ _ _ => (pe_cmpR (r := rIn K false) op_in_seq (pe_ix (r := rIxT K) ix_tup (pv 2) pe_int (fun _ _ => rfl)) (pe_fldK (K := K) rfl (pv 0) rfl) (by rfl)))) pa_nil)))), ?_⟩
  try dsimp only [cx_K]
  obtain ⟨dx, ct, pk, ps, ns, h⟩ := (id at_ : KeptA C k c s F0 H)
  have e : (ts.all fun t => decide (t.c ∈ c)) = ((ts.map fun t => decide (t.c ∈ c)).all id) := (all_id _ _).symm
  rw [e] at q
  refine Sv.at (sv_rq q (ev_allB (bs := ts.map fun t => decide (t.c ∈ c)) ?_))
  rw [List.map_map]
  refine el_lcM (V.bl ∘ fun t : Tri => decide (t.c ∈ c)) (ev_var rfl) hb hW.1 (by have := hW.1; omega) (fun _ => rfl) fun i x m hx hm => ?_
  obtain ⟨p, e, hp⟩ := hW.2 i m hm
  rw [hx] at e
  obtain rfl := Option.some.inj e
  refine ev_op (ev_op (ev_var rfl) ev_c (rv_ixT hp (tv0 m))) (ev_fld (ev_var rfl) h.hk cls noC rfl) ?_
  show RV _ _ _ _ (.bl (decide (m.c ∈ c)))
  rw [← inV_ints]
  exact rv_isT (st_of h.hc) rfl (flat_ints c)
end
section
variable {C CK : Addr}
def RCost (K : PySem.W.Frag) (CK : Addr) : List V → Hp → V → Prop := fun vs H z => ∃ (k b : Addr) (c : List Int) (s : Rows) (ws : List V) (ts : List Tri) (wd : Nat), vs = [.ref k, .ref b] ∧ KSt CK H (k, c) s ∧ SqL K H b ws ∧ Wt K H ws ts ∧ ts.length ≤ 20 ∧ wd ≤ 6 ∧ Wide s wd ∧ (∀ t ∈ ts, 0 ≤ t.c ∧ t.c < wd) ∧ (∀ x ∈ c, 0 ≤ x ∧ x < wd) ∧ s.length ≤ 200 ∧ (s.map (·.1)).Nodup ∧ z = .int (costM c s ts)
theorem ok_cost {f : Addr} {fd : FuncData} (F : Fun K "cost" "cost" s_cost f fd) (Z : Zs mg) (c_stretch : Mt P w K mg base CX0 4 CK "stretch" (SpNn 2 (RKStretchN K CK))) (c_covers : Mt P w K mg base CX0 1 CK "covers" (SpR 2 (RKCoversN K CK))) : FnOk P w K mg base CX0 5 f fd ["kept", "wish"] (SpR 2 (RCost K CK)) := by
  refine F.ok sc_cost (fun vs H Q E h => h.1) (fun cdv A outer s H vs Q E hr h => ?_)
  obtain ⟨_, z, ⟨k, b, c, s, ws, ts, wd, rfl, hk, hb, hW, lt, l6, wide, htc, hcc, l200, nd, rfl⟩, q⟩ := h
  refine ⟨_, (pss_cons (ps_set (i := 2) sc_cost.nd rfl (Or.inl rfl) (pe_callB (id := "len") (r := rLenS K) c_len (by rfl) Z.len PySem.boot_len (pa_cons (pe_m c_stretch hr (by decide) pass0 (pv 0) (pa_cons (pv 1) pa_nil)) pa_nil)))
      (pss_cons (ps_if (pt_val (pe_m c_covers hr (by decide) pass0 (pv 0) (pa_cons (pv 1) pa_nil))) (pss_one (ps_ret (pv 2))) pss_nil)
      (pss_one (ps_ret (pe_op op_mul pe_int (pv 2)))))), ?_⟩
  try dsimp only [cx_K]
  obtain ⟨F0, dx, ct, pk, ps, ns0, hi⟩ := id hk
  refine Sv.at (sv_asg (v := .int ((s.filter fun x => inS c x.2 ts).length : Nat)) (ev_lenG (G := fun ns => Asc c s ns ∧ ∀ n, n ∈ ns ↔ ∃ r, rowOf s n = some r ∧ inS c r ts = true) (en_mt (vs := [.ref b]) (ev_var rfl) hi.hk rfl (ea_cons (ev_var rfl) ea_nil) (spn rfl fun H1 e => ⟨k, b, c, s, ws, ts, wd, rfl, hk.mono e, ex_l e hb, hW.mono e, lt, l6, wide, htc, hcc, l200, rfl⟩)) fun ns g => asc_len nd g.1 g.2) ?_)
  refine sv_ifB (b := ts.all fun t => decide (t.c ∈ c)) (et_B (ev_mt (vs := [.ref b]) (ev_var rfl) hi.hk rfl (ea_cons (ev_var rfl) ea_nil) (spv rfl fun H1 e => ⟨k, b, c, s, ws, ts, rfl, hk.mono e, ex_l e hb, hW.mono e, lt, rfl⟩))) (fun h => ?_) (fun h => sv_next ?_)
  · unfold costM at q
    rw [if_pos h] at q
    exact sv_rq q (ev_var rfl)
  · unfold costM at q
    rw [if_neg (by rw [h]; exact Bool.false_ne_true)] at q
    have q2 : RetV (.int (2 * (((s.filter fun x => inS c x.2 ts).length : Nat) : Int))) H Q := q
    exact sv_rq q2 (ev_op ev_c (ev_var rfl) (rv_mulL (by decide) (by decide)))
def RWalkN (K : PySem.W.Frag) (C CK : Addr) : List V → Hp → (V → Hp → Prop) → Prop := fun vs H P => ∃ (t dx pd pk b : Addr) (s : TabS) (ms : List KM) (kvs : List (Key × V)) (y : V) (ws : List V) (ts : List Tri), vs = [.ref t, y, .ref b] ∧ TB C H t s dx pd pk ms kvs ∧ s.Ok ∧ (∀ m ∈ ms, KSt CK H m s.rows) ∧ SqL K H b ws ∧ Wt K H ws ts ∧ ts.length ≤ 20 ∧ (∀ t ∈ ts, 0 ≤ t.c ∧ t.c < s.wd) ∧
  ((y = .non ∧ P = fun v N => ∃ (p : Addr) (ns : List Int), v = .ref p ∧ N p = some (.lst (ns.map V.int)) ∧ ns = s.rows.map (·.1)) ∨ ∃ (o k : Addr) (c : List Int) (j : Nat), y = .ref o ∧ H o = some (.tup (c.map V.int)) ∧ ms[j]? = some (k, c) ∧
    P = fun v N => ∃ (p : Addr) (ns : List Int), v = .ref p ∧ N p = some (.lst (ns.map V.int)) ∧ Asc c s.rows ns ∧ ∀ n, n ∈ ns ↔ ∃ r, rowOf s.rows n = some r ∧ inS c r ts = true)
theorem kst_ord {H : Hp} {m : KM} {s : Rows} (h : KSt CK H m s) : KOrd CK H m := by
  obtain ⟨F0, dx, ct, pk, ps, ns0, hi⟩ := h
  exact ⟨dx, ct, pk, hi.hk, hi.hc⟩
theorem ok_walked {f : Addr} {fd : FuncData} (F : Fun K "walked" "Table.walked" s_Table_walked f fd) (Z : Zs mg) (cls : Cls K C) (noW : NoAttr K C "width") (c__find : Mt P w K mg base CX0 5 C "_find" (SpR 2 (RFind C CK))) (c_check_wish : Cl P w K mg base CX0 4 "check_wish" (SpR 2 (RChk (PWish K)))) (c_numbers : Mt P w K mg base CX0 1 C "numbers" (SpN 1 (RNumT C)))
    (c_stretch : Mt P w K mg base CX0 4 CK "stretch" (SpNn 2 (RKStretchN K CK))) : FnOk P w K mg base CX0 6 f fd ["self", "way", "wish"] (SpNn 3 (RWalkN K C CK)) := by
  refine F.ok sc_Table_walked (fun vs H Q E h => h.1) (fun cdv A outer s H vs Q E hr h => ?_)
  obtain ⟨_, P', ⟨t, dx, pd, pk, b, s, ms, kvs, y, ws, ts, rfl, h, ok, hk, hb, hW, lt, htc, hy⟩, q⟩ := h
  refine ⟨_, (pss_cons (ps_set (i := 3) sc_Table_walked.nd rfl (Or.inl rfl) (pe_ifExp (pt_cmpR o_isN (pv 1) pe_non (nomark _)) pe_non (pe_m c__find hr (by decide) pass0 (pv 0) (pa_cons (pv 1) pa_nil))))
      (pss_cons (ps_expr (pe_cl c_check_wish hr (by decide) pass0 (by rfl) (pa_cons (pv 2) (pa_cons (pe_fldK (K := K) rfl (pv 0) rfl) pa_nil))))
      (pss_cons (ps_if (pt_cmpR o_isN (pv 3) pe_non (nomark _)) (pss_one (ps_ret (pe_m0 c_numbers hr (by decide) pass0 (pv 0)))) pss_nil)
      (pss_one (ps_ret (pe_m c_stretch hr (by decide) pass0 (pv 3) (pa_cons (pv 2) pa_nil))))))), ?_⟩
  try dsimp only [cx_K]
  have ckw : ∀ σ : L2.St, σ[0]? = some (some (.ref t)) → σ[2]? = some (some (.ref b)) → Ev (tCall (SpR 2 (RChk (PWish K))) [] E0 (tCons (tVar 2) (tCons (tFld K (tVar 0) "width") tNil))) σ H .non := fun σ h0 h2 => ev_cl (vs := [.ref b, .int s.wd]) (ea_cons (ev_var h2) (ea_cons (ev_self cls noW h h0 rfl) ea_nil)) (spv rfl fun H1 e => ⟨_, _, rfl, ⟨b, ws, ts, s.wd, rfl, rfl, ex_l e hb, hW.mono e, lt, htc⟩, rfl⟩)
  have l200 := ok.l200
  rcases hy with ⟨rfl, rfl⟩ | ⟨o, k, c, j, rfl, ho, hj, rfl⟩
  · refine Sv.at (sv_asg (v := .non) (ev_ifx (b := true) (et_b (tp_cmp (ev_op (ev_var rfl) ev_c rn_yes)) rfl) (fun _ => ev_c) fun z => nomatch z) ?_)
    refine sv_drop (ckw _ rfl rfl) ?_
    refine sv_if (p := True) (tp_cmp (ev_op (ev_var rfl) ev_c rn_yes)) (fun _ => ?_) (fun z => (z trivial).elim)
    exact sv_rqN q (EvN.imp (EvL.n (el_mt (vs := []) (ev_var rfl) h.ht rfl ea_nil (spl_num h ok))) fun v N ⟨p, e, hp⟩ => ⟨p, _, e, hp, rfl⟩)
  · obtain ⟨F0, dx', ct', pk', ps', ns0, hi⟩ := id (hk _ (List.mem_of_getElem? hj))
    obtain ⟨c1, c2, c3, c4⟩ := ms_col h ok (List.mem_of_getElem? hj)
    refine Sv.at (sv_asg (v := .ref k) (ev_ifx (b := false) (et_b (tp_cmp (ev_op (ev_var rfl) ev_c (rn_no (by intro z; cases z)))) rfl) (fun z => nomatch z) fun _ => find_at h ok (fun m hm => kst_ord (hk m hm)) ho hj rfl rfl) ?_)
    refine sv_drop (ckw _ rfl rfl) ?_
    refine sv_if (p := False) (tp_cmp (ev_op (ev_var rfl) ev_c (rn_no (by intro z; cases z)))) (fun z => z.elim) (fun _ => sv_next ?_)
    exact sv_rqN q (en_mt (vs := [.ref b]) (ev_var rfl) hi.hk rfl (ea_cons (ev_var rfl) ea_nil) (spn rfl fun H1 e => ⟨k, b, c, s.rows, ws, ts, s.wd, rfl, (hk _ (List.mem_of_getElem? hj)).mono e, ex_l e hb, hW.mono e, lt, ok.w6, ok.wide, htc, c3, l200, rfl⟩))
def RAskBy (K : PySem.W.Frag) (C CK : Addr) : List V → Hp → List V → Prop := fun vs H xs => ∃ (t dx pd pk b : Addr) (s : TabS) (ms : List KM) (kvs : List (Key × V)) (y : V) (ws : List V) (ts : List Tri), vs = [.ref t, y, .ref b] ∧ TB C H t s dx pd pk ms kvs ∧ s.Ok ∧ (∀ m ∈ ms, KSt CK H m s.rows) ∧ SqL K H b ws ∧ Wt K H ws ts ∧ ts.length ≤ 20 ∧ (∀ t ∈ ts, 0 ≤ t.c ∧ t.c < s.wd) ∧
  (y = .non ∨ ∃ (o : Addr) (c : List Int), y = .ref o ∧ H o = some (.tup (c.map V.int)) ∧ c ∈ s.os) ∧ xs = (dueA s.rows ts).map V.int
theorem ok_ask_by {f : Addr} {fd : FuncData} (F : Fun K "ask_by" "Table.ask_by" s_Table_ask_by f fd) (Z : Zs mg) (cls : Cls K C) (noR : NoAttr K C "_rows") (c_walked : Mt P w K mg base CX0 6 C "walked" (SpNn 3 (RWalkN K C CK))) (c_fits : Cl P w K mg base CX0 2 "fits" (SpR 2 (RFits K))) : FnOk P w K mg base CX0 7 f fd ["self", "way", "wish"] (SpN 3 (RAskBy K C CK)) := by
  refine F.ok sc_Table_ask_by (fun vs H Q E h => h.1) (fun cdv A outer s H vs Q E hr h => ?_)
  obtain ⟨_, z, ⟨t, dx, pd, pk, b, s, ms, kvs, y, ws, ts, rfl, h, ok, hk, hb, hW, lt, htc, hy, rfl⟩, q⟩ := h
  refine ⟨_, (pss_one (ps_ret (pe_callB (id := "sorted") cr_sortedI (by rfl) Z.sorted (by decide +kernel) (pa_cons (pe_lc (own := [("number", 3)]) (g := gName 3)  (by rfl) sc_Table_ask_by.nd (pi_list (pe_m c_walked hr (by decide) pass0 (pv 0) (pa_cons (pv 1) (pa_cons (pv 2) pa_nil)))) (blkOk_by (own := [("number", 3)]) (N := ["self", "way", "wish", "number"]) (sc := defScope s_Table_ask_by) (by decide +kernel)) (fun _ _ _ _ _ => (pg_name (i := 3) sc_Table_ask_by.nd rfl (Or.inl rfl))) (fun _ _ _ _ _ => (pts_one (pt_val (pe_cl c_fits hr (by decide) pass0 (by rfl) (pa_cons (pe_dget (hu_of hr) (pe_fldK (K := K) rfl (pv 0) rfl) (pv 3) (fun _ _ => rfl)) (pa_cons (pv 2) pa_nil)))))) (fun _ _ _ _ _ => (pv 3))) pa_nil)))), ?_⟩
  try dsimp only [cx_K]
  have l200 := ok.l200
  have nd : (s.rows.map (·.1)).Nodup := ok.nd.imp fun h e => by omega
  have wk : EvN (tMeth C "walked" (SpNn 3 (RWalkN K C CK)) [] E0 (tVar 0) (tCons (tVar 1) (tCons (tVar 2) tNil))) [some (.ref t), some y, some (.ref b), none] H fun v N => ∃ (p : Addr) (ns : List Int), v = .ref p ∧ N p = some (.lst (ns.map V.int)) ∧ Gway s.rows ts ns := by
    rcases hy with rfl | ⟨o, c, rfl, ho, hc⟩
    · refine EvN.imp (en_mt (vs := [.non, .ref b]) (ev_var rfl) h.ht rfl (ea_cons (ev_var rfl) (ea_cons (ev_var rfl) ea_nil)) (spn rfl fun H1 e => ⟨t, dx, pd, pk, b, s, ms, kvs, .non, ws, ts, rfl, h.mono e, ok, fun m hm => (hk m hm).mono e, ex_l e hb, hW.mono e, lt, htc, .inl ⟨rfl, rfl⟩⟩)) fun v N ⟨p, ns, e1, e2, e3⟩ => ⟨p, ns, e1, e2, by rw [e3]; exact gway_all nd l200⟩
    · rw [← h.os] at hc
      obtain ⟨j, hj⟩ := List.getElem?_of_mem hc
      rw [List.getElem?_map] at hj
      obtain ⟨⟨k, c'⟩, hm, e⟩ := Option.map_eq_some_iff.mp hj
      obtain rfl : c' = c := e
      refine EvN.imp (en_mt (vs := [.ref o, .ref b]) (ev_var rfl) h.ht rfl (ea_cons (ev_var rfl) (ea_cons (ev_var rfl) ea_nil)) (spn rfl fun H1 e => ⟨t, dx, pd, pk, b, s, ms, kvs, .ref o, ws, ts, rfl, h.mono e, ok, fun m hm => (hk m hm).mono e, ex_l e hb, hW.mono e, lt, htc, .inr ⟨o, k, c', j, rfl, e _ _ ho, hm, rfl⟩⟩)) fun v N ⟨p, ns, e1, e2, e3, e4⟩ => ⟨p, ns, e1, e2, gway_ord nd l200 e3 e4⟩
  refine Sv.at (sv_rqL q (en_sortG (G := fun ns' => ∃ ns, ns' = ns.filter (fitN s.rows ts) ∧ Gway s.rows ts ns) (EvN.imp (en_lcFG (G := Gway s.rows ts) (fitN s.rows ts) wk (fun ns g => Nat.le_trans g.2.1 (by decide)) (fun _ => rfl) (fun ns g n hn => ?_) fun _ => rfl) fun v N ⟨l, ns, e1, e2, e3⟩ => ⟨l, _, e1, e2, ns, rfl, e3⟩) fun ns' ys ⟨ns, e, g⟩ h1 h2 => gway_due ok.nd g (e ▸ h1) h2))
  obtain ⟨r, hr⟩ := g.2.2.1 n hn
  obtain ⟨q1, hg, hq⟩ := trow_val h.rows hr
  have hwr := ok.wide n r hr
  rw [fitN_some hr]
  exact et_B (ev_cl (vs := [.ref q1, .ref b]) (ea_cons (ev_dget (ev_self cls noR h rfl rfl) (ev_var rfl) (.inl ⟨kvs, Sum.inl n, .inl h.hd, rfl, hg.symm⟩)) (ea_cons (ev_var rfl) ea_nil)) (spv rfl fun H1 e => ⟨q1, b, r, ws, ts, rfl, .inr (st_of (e _ _ hq)), ex_l e hb, hW.mono e, lt, fun t ht => by have := htc t ht; omega, rfl⟩))
end
section
variable {C CK : Addr}
/-- the ways and their costs -/
def waysV (s : Rows) (ts : List Tri) (ms : List KM) (cts : List Addr) : List (V × Int) := (V.non, (s.length : Int)) :: List.zipWith (fun (m : KM) ct => (V.ref ct, ((costM m.2 s ts : Nat) : Int))) ms cts
def RCosts (K : PySem.W.Frag) (C CK : Addr) : List V → Hp → (V → Hp → Prop) → Prop := fun vs H P => ∃ (t dx pd pk b : Addr) (s : TabS) (ms : List KM) (kvs : List (Key × V)) (ws : List V) (ts : List Tri) (cts : List Addr), vs = [.ref t, .ref b] ∧ TB C H t s dx pd pk ms kvs ∧ s.Ok ∧ (∀ m ∈ ms, KSt CK H m s.rows) ∧ SqL K H b ws ∧ Wt K H ws ts ∧ ts.length ≤ 20 ∧ (∀ t ∈ ts, 0 ≤ t.c ∧ t.c < s.wd) ∧
  Paired (fun (m : KM) ct => ∃ dx pk, H m.1 = some (.ins CK dx (kFs ct pk))) ms cts ∧ P = NewL fun zs N => ∃ qs : List Addr, zs = qs.map V.ref ∧ Paired (TupAt N) qs (waysV s.rows ts ms cts)
theorem ok_costs {f : Addr} {fd : FuncData} (F : Fun K "costs" "Table.costs" s_Table_costs f fd) (Z : Zs mg) (cls : Cls K C) (noW : NoAttr K C "width") (noR : NoAttr K C "_rows") (noK : NoAttr K C "_kept") (clsK : Cls K CK) (noC : NoAttr K CK "columns") (c_check_wish : Cl P w K mg base CX0 4 "check_wish" (SpR 2 (RChk (PWish K)))) (c_cost : Cl P w K mg base CX0 5 "cost" (SpR 2 (RCost K CK))) :
    FnOk P w K mg base CX0 6 f fd ["self", "wish"] (SpNn 2 (RCosts K C CK)) := by
  refine F.ok sc_Table_costs (fun vs H Q E h => h.1) (fun cdv A outer s H vs Q E hr h => ?_)
  obtain ⟨_, P', ⟨t, dx, pd, pk, b, s, ms, kvs, ws, ts, cts, rfl, h, ok, hk, hb, hW, lt, htc, hp, rfl⟩, q⟩ := h
  refine ⟨_, (pss_cons (ps_expr (pe_cl c_check_wish hr (by decide) pass0 (by rfl) (pa_cons (pv 1) (pa_cons (pe_fldK (K := K) rfl (pv 0) rfl) pa_nil))))
      (pss_one (ps_ret (pe_op op_cat (pe_lst (pa_cons (pe_tup (pa_cons pe_non (pa_cons (pe_callB (id := "len") (r := rLenD) c_lenD (by rfl) Z.len PySem.boot_len (pa_cons (pe_fldK (K := K) rfl (pv 0) rfl) pa_nil)) pa_nil))) pa_nil)) (pe_lc (own := [("kept", 2)]) (g := gName 2) (tt := tYes) (by rfl) sc_Table_costs.nd (pi_list (pe_fldK (K := K) rfl (pv 0) rfl)) (blkOk_by (own := [("kept", 2)]) (N := ["self", "wish", "kept"]) (sc := defScope s_Table_costs) (by decide +kernel)) (fun _ _ _ _ _ => (pg_name (i := 2) sc_Table_costs.nd rfl (Or.inl rfl))) (fun _ _ _ _ _ => pts_nil) (fun _ _ _ _ _ => (pe_tup (pa_cons (pe_fldK (K := K) rfl (pv 2) rfl) (pa_cons (pe_cl c_cost hr (by decide) pass0 (by rfl) (pa_cons (pv 2) (pa_cons (pv 1) pa_nil))) pa_nil))))))))), ?_⟩
  try dsimp only [cx_K]
  have l8 := ms_len h ok
  have l200 := ok.l200
  have lk := kvs_len h
  have lc := paired_len hp
  have nd : (s.rows.map (·.1)).Nodup := ok.nd.imp fun h e => by omega
  refine Sv.at (sv_drop (ev_cl (vs := [.ref b, .int s.wd]) (ea_cons (ev_var rfl) (ea_cons (ev_self cls noW h rfl rfl) ea_nil)) (spv rfl fun H1 e => ⟨_, _, rfl, ⟨b, ws, ts, s.wd, rfl, rfl, ex_l e hb, hW.mono e, lt, htc⟩, rfl⟩)) ?_)
  have e1 : EvU (tTup (tCons (tC .non) (tCons (tCB rLenD (tCons (tFld K (tVar 0) "_rows") tNil)) tNil))) [some (.ref t), some (.ref b), none] H [.non, .int (s.rows.length : Int)] := eu_tup (vs := [.non, .int (s.rows.length : Int)]) (ea_cons ev_c (ea_cons (by rw [← lk]; exact ev_lenD (ev_self cls noR h rfl rfl) h.hd) ea_nil)) (by simp)
  refine sv_rqN q (EvN.imp (en_catN (G2 := fun zs N => ∃ qs : List Addr, zs = qs.map V.ref ∧ Paired (TupAt N) qs (List.zipWith (fun (m : KM) ct => (V.ref ct, ((costM m.2 s.rows ts : Nat) : Int))) ms cts)) (en_lstU e1) ?_ ?_) ?_)
  · refine EvN.imp (en_lcL (ev_self cls noK h rfl rfl) (sq_of h.hk) (by rw [List.length_map]; omega) (fun _ => rfl) (fun _ => true) (fun i acc N => ∃ qs : List Addr, acc = qs.map V.ref ∧ Paired (TupAt N) qs ((List.zipWith (fun (m : KM) ct => (V.ref ct, ((costM m.2 s.rows ts : Nat) : Int))) ms cts).take i)) ⟨[], rfl, .nil⟩ (fun i x hx => fun H1 e Q q => q H1 (Ex.refl H1)) ?_ (fun i acc N hf => nomatch hf)) ?_
    · rintro i x acc N hx _ ⟨qs, rfl, g⟩
      rw [List.getElem?_map] at hx
      obtain ⟨m, hm, rfl⟩ := Option.map_eq_some_iff.mp hx
      obtain ⟨ct, hc, dx', pk', hi⟩ := paired_getL hp hm
      have km := hk m (List.mem_of_getElem? hm)
      obtain ⟨_, _, mc, m6⟩ := ms_col h ok (List.mem_of_getElem? hm)
      have hz : (List.zipWith (fun (m : KM) ct => (V.ref ct, ((costM m.2 s.rows ts : Nat) : Int))) ms cts)[i]? = some (V.ref ct, ((costM m.2 s.rows ts : Nat) : Int)) := by
        rw [List.getElem?_zipWith, hm, hc]
      refine EvN.imp (EvU.n (eu_tup (vs := [.ref ct, .int ((costM m.2 s.rows ts : Nat) : Int)]) (ea_cons (ev_fld (ev_var rfl) hi clsK noC rfl) (ea_cons (ev_cl (vs := [.ref m.1, .ref b]) (ea_cons (ev_var rfl) (ea_cons (ev_var rfl) ea_nil)) (spv rfl fun H1 e => ⟨m.1, b, m.2, s.rows, ws, ts, s.wd, rfl, km.mono e, ex_l e hb, hW.mono e, lt, ok.w6, ok.wide, htc, mc, l200, nd, rfl⟩)) ea_nil)) (by simp))) ?_
      rintro v N' ⟨q1, rfl, hq⟩ N'' x1 x2
      refine ⟨qs ++ [q1], by rw [List.map_append]; rfl, ?_⟩
      rw [take_snoc hz]
      exact paired_snoc (R := TupAt N'') (x2 _ _ hq) (paired_imp (fun a b r => x1 _ _ r) g)
    · rintro v N ⟨Dl, acc, rfl, e2, N0, x0, qs, rfl, g⟩
      refine ⟨Dl, _, N0, rfl, e2, ⟨qs, rfl, ?_⟩, x0⟩
      rw [List.take_of_length_le (by rw [List.length_zipWith, List.length_map]; omega)] at g
      exact g
  · rintro xs ys N1 N2 ⟨q1, rfl, _⟩ ⟨qs, rfl, g⟩
    have := paired_len g
    rw [List.length_map, this, List.length_zipWith]
    simp only [List.length_singleton]
    omega
  · rintro v N ⟨p, zs, N0, rfl, hp1, ⟨xs, ys, N1, N2, rfl, ⟨q1, rfl, g1⟩, x1, ⟨qs, rfl, g2⟩, x2⟩, x0⟩
    exact ⟨p, _, N0, rfl, hp1, ⟨q1 :: qs, rfl, .cons (x1 _ _ g1) (paired_imp (fun a b r => x2 _ _ r) g2)⟩, x0⟩
end
section
variable {C CK PT cc : Addr}
theorem ways_at {H : Hp} {s : TabS} {ts : List Tri} {ms : List KM} {cts : List Addr} (os : ms.map (·.2) = s.os) (hp : Paired (OrdIs H) (cts.map V.ref) (ms.map (·.2))) {i : Nat} {x : V} {n : Int} (h : (waysV s.rows ts ms cts)[i]? = some (x, n)) : ∃ w, (waysM s ts)[i]? = some (w, n) ∧ WayIs H x w := by
  cases i with
  | zero =>
    have e := Option.some.inj h
    injection e with e1 e2
    exact ⟨none, by rw [← e2]; rfl, e1.symm⟩
  | succ i =>
    have h' : (List.zipWith (fun (m : KM) ct => (V.ref ct, ((costM m.2 s.rows ts : Nat) : Int))) ms cts)[i]? = some (x, n) := h
    rw [List.getElem?_zipWith] at h'
    cases hm : ms[i]? with
    | none => rw [hm] at h'; cases h'
    | some m =>
      cases hc : cts[i]? with
      | none => rw [hm, hc] at h'; cases h'
      | some ct =>
        rw [hm, hc] at h'
        have e := Option.some.inj h'
        injection e with e1 e2
        obtain ⟨c, hc2, p, ep, hpp⟩ := paired_getL hp (i := i) (x := V.ref ct) (by rw [List.getElem?_map, hc]; rfl)
        rw [List.getElem?_map, hm] at hc2
        have ec : m.2 = c := Option.some.inj hc2
        refine ⟨some m.2, ?_, ct, e1.symm, ?_⟩
        · show (s.os.map fun c => (some c, ((costM c s.rows ts : Nat) : Int)))[i]? = _
          rw [← os, List.getElem?_map, List.getElem?_map, hm, ← e2]
          rfl
        · rw [ec, V.ref.inj ep]
          exact hpp
theorem ways_map {s : TabS} {ts : List Tri} {ms : List KM} {cts : List Addr} (os : ms.map (·.2) = s.os) (l : ms.length = cts.length) : (waysV s.rows ts ms cts).map (·.2) = (waysM s ts).map (·.2) := by
  show _ :: _ = _ :: _
  congr 1
  rw [List.map_zipWith, List.map_map, ← os, List.map_map]
  refine List.ext_getElem? fun i => ?_
  rw [List.getElem?_zipWith, List.getElem?_map]
  cases hm : ms[i]? with
  | none => rfl
  | some m =>
    have li := (List.getElem?_eq_some_iff.mp hm).1
    have hc : cts[i]? = some (cts[i]'(by omega)) := List.getElem?_eq_getElem _
    rw [hc]
    rfl
def RPlan (cls : Cls K C) (noW : NoAttr K C "width") (CK PT : Addr) (qn : Str) : List V → Hp → Reg → RP → (V → Hp → Hp → Prop) → Prop := fun vs H F T' P => ∃ (t b : Addr) (s : TabS) (ws : List V) (ts : List Tri), vs = [.ref t, .ref b] ∧ Two ((tabS CK cls noW).at_ t s) (TblR PT qn) F H ∧ s.Ok ∧ SqL K H b ws ∧ Wt K H ws ts ∧ ts.length ≤ 20 ∧ (∀ t ∈ ts, 0 ≤ t.c ∧ t.c < s.wd) ∧
  T' = Two ((tabS CK cls noW).at_ t s) (TblR PT qn) ∧ P = fun v _ M => ∃ (q1 : Addr) (x : V) (n : Int) (i : Nat) (w : Option (List Int)), v = .ref q1 ∧ M q1 = some (.tup [x, .int n]) ∧ (waysM s ts)[i]? = some (w, n) ∧ FirstLeast ((waysM s ts).map (·.2)) i ∧ WayIs M x w
theorem ok_plan {f : Addr} {fd : FuncData} (F : FunC K "plan" "Table.plan" s_Table_plan f fd cc) (Z : Zs mg) (TB : LamX.TabB base mg cc PT) (cls : Cls K C) (noW : NoAttr K C "width") (c_costs : Mt P w K mg base CX0 6 C "costs" (SpNn 2 (RCosts K C CK))) :
    FnOk P w K mg base CX0 7 f fd ["self", "wish"] (SpWM 2 (RPlan cls noW CK PT "Table.plan.<locals>.<lambda>")) := by
  refine F.ok sc_Table_plan (fun vs H Q E h => h.1) (fun A outer s H vs Q E hr h => ?_)
  obtain ⟨_, F0, T', P', ⟨t, b, s, ws, ts, rfl, tt, ok, hb, hW, lt, htc, rfl, rfl⟩, q⟩ := h
  refine ⟨_, (pss_one (ps_ret (pe_minlam (pa_cons (pe_m c_costs hr (by decide) pass0 (pv 0) (pa_cons (pv 1) pa_nil)) pa_nil) (by rfl) Z.min rfl hr TB rfl rfl (by rfl) (by rfl) (fun _ _ _ _ _ => rfl) rfl rfl rfl (by decide +kernel) (by decide +kernel) (by decide +kernel) (fun _ _ _ _ => rfl) (by decide)))), ?_⟩
  try dsimp only [cx_K]
  obtain ⟨F1, F2, ⟨dx, pd, pk, ms, kvs, G1, G2, hT, hU, hd, ff⟩, ht, dj, fF⟩ := id tt
  obtain ⟨_, _, at_, _, _, _⟩ := id tt
  have h := hU.1
  obtain ⟨cts, p1, p2⟩ := kords (ks_ord hT)
  have lc := paired_len p2
  have R1 : Regn ((tabS CK cls noW).at_ t s) := (tabS CK cls noW).regn _ _
  have at1 : (tabS CK cls noW).at_ t s F1 H := ⟨dx, pd, pk, ms, kvs, G1, G2, hT, hU, hd, ff⟩
  have g := en_mt (C := C) (m := "costs") (sp := SpNn 2 (RCosts K C CK)) (E := E0) (ta := tVar 0) (t := tCons (tVar 1) tNil) (σ := [some (.ref t), some (.ref b)]) (vs := [.ref b]) (P := NewL fun zs N => ∃ qs : List Addr, zs = qs.map V.ref ∧ Paired (TupAt N) qs (waysV s.rows ts ms cts)) (ev_var rfl) h.ht rfl (ea_cons (ev_var rfl) ea_nil)
    (spn rfl fun H1 e => ⟨t, dx, pd, pk, b, s, ms, kvs, ws, ts, cts, rfl, h.mono e, ok, fun m hm => (ks_st hT m hm).mono e, ex_l e hb, hW.mono e, lt, htc, paired_imp (fun a b ⟨dx, pk, r⟩ => ⟨dx, pk, e _ _ r⟩) p2, rfl⟩)
  refine g H (Ex.refl _) _ fun v N H2 d ⟨p, zs, N0, ev, hp, ⟨qs, ez, pr⟩, x0⟩ a x => ?_
  subst ev
  subst ez
  have ht2 : TblR PT "Table.plan.<locals>.<lambda>" F2 H2 := (tblR_regn _ _).ex ht x
  have at2 := R1.ex at1 x
  have pr2 : Paired (TupAt H2) qs (waysV s.rows ts ms cts) := paired_imp (fun y z r => a _ _ (x0 _ _ r)) pr
  have lq := paired_len pr2
  refine ⟨ht2.tabs, p, qs, (waysV s.rows ts ms cts).map (·.2), rfl, a _ _ hp, by rw [List.length_map]; exact lq, by rw [lq]; exact Nat.succ_pos _, fun i q1 k hq hk => ?_, fun H3 st i q1 hq best => ?_⟩
  · rw [List.getElem?_map] at hk
    obtain ⟨x1, hx, rfl⟩ := Option.map_eq_some_iff.mp hk
    obtain ⟨x2, hx2, r⟩ := paired_getL pr2 hq
    rw [hx] at hx2
    obtain rfl := Option.some.inj hx2
    exact ⟨x1.1, r⟩
  · obtain ⟨⟨x1, n1⟩, hx1, r⟩ := paired_getL pr2 hq
    obtain ⟨F2', ht3, sub, old, dm⟩ := ht2.step st
    have fP : F2 PT := ht.2.1
    obtain ⟨⟨ps0, hP2, _, _⟩, _, _⟩ := id ht2
    obtain ⟨⟨ps1, hP1, _, _⟩, _, _⟩ := id ht
    have tupOld : ∀ a ys, H2 a = some (.tup ys) → H3 a = some (.tup ys) := fun a ys ha => old a _ ha fun e => by
      rw [e, hP2] at ha
      cases ha
    have at3 := R1.loc F1 H2 H3 at2 fun a o ha z => by
      rcases z with z | ⟨ys, z⟩
      · exact old a o ha fun e => dj a z (e ▸ fP)
      · subst z
        exact tupOld a ys ha
    obtain ⟨w1, hw1, hw2⟩ := ways_at h.os p1 hx1
    refine q (.ref q1) nonew (tupsOf H3) H3 (fun a => F1 a ∨ F2' a) ⟨fun a o ha z => old a o (x _ _ ha) fun e => ?_, fun a z => dm a (ex_dm x a z)⟩ ⟨F1, F2', at3, ht3, fun a z1 z2 => ?_, fun a => Iff.rfl⟩ (fun a z => ?_) (fun a z => (z rfl).elim) nonew_ex tups_ex tups_tup ⟨q1, x1, n1, i, w1, rfl, tups_at (tupOld _ _ r), hw1, ?_, ?_⟩
    · subst e
      obtain ⟨ys, e2⟩ := z ((fF _).mpr (.inr fP))
      rw [hP1] at ha
      rw [← Option.some.inj ha] at e2
      cases e2
    · rcases sub a z2 with y | y
      · exact dj a z1 y
      · obtain ⟨o, ho, _⟩ := R1.dom F1 H2 a at2 z1
        rw [y] at ho
        cases ho
    · rcases z with z | z
      · exact .inl ((fF a).mpr (.inl z))
      · exact (sub a z).imp (fun y => (fF a).mpr (.inr y)) fun y => fresh_back x y
    · rw [← ways_map h.os lc]
      intro j hj
      rw [List.length_map] at hj
      exact best j (by rw [lq]; exact hj)
    · cases w1 with
      | none => exact hw2
      | some c =>
        obtain ⟨ct, e1, e2⟩ := hw2
        exact ⟨ct, e1, tups_at (tupOld _ _ (x _ _ e2))⟩
end
section
variable {C CK PT : Addr}
/-- what is asked of the whole table -/
def AskFit (K : PySem.W.Frag) (H : Hp) (F : Reg) (b : Addr) (s : TabS) (ts : List Tri) : Prop := ∃ (L : Hp) (ws : List V), Ex L H ∧ (∀ a, F a → L a = none) ∧ SqL K L b ws ∧ Wt K L ws ts ∧ ts.length ≤ 20 ∧ ∀ t ∈ ts, 0 ≤ t.c ∧ t.c < s.wd
def RAsk (cls : Cls K C) (noW : NoAttr K C "width") (CK PT : Addr) (qn : Str) : List V → Hp → Reg → RP → (V → Hp → Prop) → Prop := fun vs H F T' P => ∃ (t b : Addr) (s : TabS) (ts : List Tri), vs = [.ref t, .ref b] ∧ Two ((tabS CK cls noW).at_ t s) (TblR PT qn) F H ∧ s.Ok ∧ AskFit K H F b s ts ∧
  T' = Two ((tabS CK cls noW).at_ t s) (TblR PT qn) ∧ P = fun v N => ∃ p : Addr, v = .ref p ∧ N p = some (.lst ((dueA s.rows ts).map V.int))
theorem ok_ask {f : Addr} {fd : FuncData} (F : Fun K "ask" "Table.ask" s_Table_ask f fd) (Z : Zs mg) (cls : Cls K C) (noW : NoAttr K C "width") (c_plan : Mt P w K mg base CX0 7 C "plan" (SpWM 2 (RPlan cls noW CK PT "Table.plan.<locals>.<lambda>"))) (c_ask_by : Mt P w K mg base CX0 7 C "ask_by" (SpN 3 (RAskBy K C CK))) :
    FnOk P w K mg base CX0 8 f fd ["self", "wish"] (SpW 2 (RAsk cls noW CK PT "Table.plan.<locals>.<lambda>")) := by
  refine F.ok sc_Table_ask (fun vs H Q E h => h.1) (fun cdv A outer s H vs Q E hr h => ?_)
  obtain ⟨_, F0, T', P', ⟨t, b, s, ts, rfl, tt, ok, ⟨L, ws, eL, dL, hb, hW, lt, htc⟩, rfl, rfl⟩, q⟩ := h
  refine ⟨_, (pss_cons (ps_asg (pe_m c_plan hr (by decide) pass0 (pv 0) (pa_cons (pv 1) pa_nil)) (pg_tup (by rfl) (pgs_cons (pg_name (i := 2) sc_Table_ask.nd rfl (Or.inl rfl)) (pgs_cons (pg_name (i := 3) sc_Table_ask.nd rfl (Or.inl rfl)) pgs_nil))))
      (pss_one (ps_ret (pe_m c_ask_by hr (by decide) pass0 (pv 0) (pa_cons (pv 2) (pa_cons (pv 1) pa_nil)))))), ?_⟩
  try dsimp only [cx_K]
  have R0 : Regn (Two ((tabS CK cls noW).at_ t s) (TblR PT "Table.plan.<locals>.<lambda>")) := ((tabS CK cls noW).regn _ _).two (tblR_regn _ _)
  refine (?_ : SvW _ _ _ (Two ((tabS CK cls noW).at_ t s) (TblR PT "Table.plan.<locals>.<lambda>")) F0 (fun a => H a ≠ none) (Out F0 H)) H (start_1 tt)
  have e0 := out_of eL dL
  obtain ⟨L0, hL0⟩ : ∃ x, x = Out F0 H := ⟨_, rfl⟩
  rw [← hL0] at e0 ⊢
  have kp0 : Ex (Out F0 H) L0 := by
    rw [hL0]
    exact Ex.refl _
  have hb := ex_l e0 hb
  have hW := hW.mono e0
  refine vw_un2M (R := R0) (ew_mtM R0 (ev_var rfl) (fun H w => ?_) (ea_cons (ev_var rfl) ea_nil) (spwm (vs := [.ref t, .ref b]) R0 rfl fun H F tt e dj => ⟨t, b, s, ws, ts, rfl, tt, ok, ex_l e hb, hW.mono e, lt, htc, rfl, rfl⟩)) fun v N M L1 tM e1 eN eM hv => ?_
  · obtain ⟨_, ⟨_, _, a, _⟩, _⟩ := w
    obtain ⟨dx, fs, i1, _, i2⟩ := (tabS CK cls noW).ins a
    exact ⟨dx, fs, i1, i2 "plan" (by decide)⟩
  obtain ⟨q1, x, n, i, w1, rfl, hq, hw1, _, hw2⟩ := hv
  refine ⟨q1, x, .int n, rfl, st_of (eM _ _ hq), ?_⟩
  have hb := ex_l e1 hb
  have hW := hW.mono e1
  have way : x = .non ∨ ∃ (o : Addr) (c : List Int), x = .ref o ∧ L1 o = some (.tup (c.map V.int)) ∧ c ∈ s.os := by
    cases w1 with
    | none => exact .inl hw2
    | some c =>
      obtain ⟨ct, e2, e3⟩ := hw2
      refine .inr ⟨ct, c, e2, eM _ _ e3, ?_⟩
      cases i with
      | zero => cases hw1
      | succ i =>
        have h' : (s.os.map fun c => (some c, ((costM c s.rows ts : Nat) : Int)))[i]? = some (some c, n) := hw1
        rw [List.getElem?_map] at h'
        obtain ⟨c', hc', e4⟩ := Option.map_eq_some_iff.mp h'
        injection e4 with e4 _
        injection e4 with e4
        rw [← e4]
        exact List.mem_of_getElem? hc'
  refine vw_retW (ew_HL (xs := (dueA s.rows ts).map V.int) R0 fun H' w => ?_) fun v N H' dN p w' => ?_
  · obtain ⟨_, ⟨_, _, ⟨dx, pd, pk, ms, kvs, _, _, hT, hU, _, _⟩, _⟩, x1, _⟩ := w
    exact el_mt (vs := [x, .ref b]) (ev_var rfl) hU.1.ht rfl (ea_cons (ev_var rfl) (ea_cons (ev_var rfl) ea_nil)) (spl rfl fun H1 e => ⟨t, dx, pd, pk, b, s, ms, kvs, x, ws, ts, rfl, hU.1.mono e, ok, fun m hm => (ks_st hT m hm).mono e, ex_l (x1.trans e) hb, hW.mono (x1.trans e), lt, htc, way.imp id fun ⟨o, c, a1, a2, a3⟩ => ⟨o, c, a1, e _ _ (x1 _ _ a2), a3⟩, rfl⟩)
  · exact close_1N R0 tt q w' dN (kp0.trans e1) p
end

end
end K13

set_option Elab.async false
set_option linter.all false
set_option maxRecDepth 100000
set_option maxHeartbeats 4000000
namespace K13
open PySem PySem.Spec PyProof.Rows L2 Evl Wy
local macro_rules | `(tactic| walk_at "s") => `(tactic| first
  | (with_reducible exact ev_c)
  | ((with_reducible apply ev_var); rfl)
  | (with_reducible exact rv_I0)
  | (with_reducible exact rp_eqI)
  | (with_reducible exact rp_neI)
  | ((with_reducible apply rv_mod); (first | decide | omega))
  | ((with_reducible apply rv_div); decide; decide)
  | ((with_reducible apply rv_mulL); (first | decide | omega); (first | decide | omega))
  | ((with_reducible apply rv_mulR); (first | decide | omega); (first | decide | omega))
  | ((with_reducible apply rv_powS); exact ⟨by decide, by decide, by decide⟩)
  | (with_reducible apply ev_op)
  | (with_reducible apply ev_cl)
  | (with_reducible apply ea_cons)
  | (with_reducible exact ea_nil)
  | (with_reducible apply tp_cmp)
  | (with_reducible apply tp_val)
  | (with_reducible apply tp_and)
  | (with_reducible apply tp_or)
  | (with_reducible apply tp_not)
  | ((with_reducible apply ev_lenI); (walk_at "s"); (walk_at "s"))
  | (with_reducible apply ev_len)
  | (with_reducible apply ev_min2)
  | (with_reducible assumption)
  | (intro hq; (with_reducible show EvT _ _ _ _)))

section
variable {P : Program} {w : World} {K : PySem.W.Frag} {mg : Str → Option Value} {base : Heap}
local macro_rules | `(tactic| walk_at "s") => `(tactic| first
  | ((with_reducible apply spv_at); (walk_at "s"); (first | decide | omega))
  | (with_reducible exact spv_value)
  | (with_reducible exact spv_whole))

section
variable {S : TSp K}
/-! ### a table read where it stands -/
section
variable {C CK : Addr} {cls : Cls K C} {noW : NoAttr K C "width"}
theorem p_got {t : Addr} {s : TabS} {F : Reg} {H : Hp} (h : (tabS CK cls noW).at_ t s F H) : ∃ dx pd pk ms kvs, TB C H t s dx pd pk ms kvs ∧ (∀ m ∈ ms, KSt CK H m s.rows) ∧ ∀ m ∈ ms, KOrd CK H m := by
  obtain ⟨dx, pd, pk, ms, kvs, F1, F2, hT, hU, hd, ff⟩ := id h
  exact ⟨dx, pd, pk, ms, kvs, hU.1, ks_st hT, ks_ord hT⟩
theorem p_num {t : Addr} {s : TabS} {F : Reg} {H : Hp} {σ : L2.St} {ta : TE} (h : (tabS CK cls noW).at_ t s F H) (ok : s.Ok) (ha : Ev ta σ H (.ref t)) : EvL (tMeth C "numbers" (SpN 1 (RNumT C)) [] E0 ta tNil) σ H ((s.rows.map (·.1)).map V.int) := by
  obtain ⟨dx, pd, pk, ms, kvs, hU, _⟩ := p_got h
  exact el_mt (vs := []) ha hU.ht rfl ea_nil (spl_num hU ok)
theorem p_row {t : Addr} {s : TabS} {F : Reg} {H : Hp} {n : Int} {row : List Int} (h : (tabS CK cls noW).at_ t s F H) (hn : rowOf s.rows n = some row) : ∃ q : Addr, H q = some (.tup (row.map V.int)) ∧ ∀ {σ : L2.St} {ta tb : TE} {H1 : Hp}, Ex H H1 → Ev ta σ H1 (.ref t) → Ev tb σ H1 (.int n) → Ev (tMeth C "row" (SpR 2 (RRowT C)) [] E0 ta (tCons tb tNil)) σ H1 (.ref q) := by
  obtain ⟨dx, pd, pk, ms, kvs, hU, _⟩ := p_got h
  obtain ⟨q, hg, hq⟩ := trow_val hU.rows hn
  exact ⟨q, hq, fun {σ ta tb H1} e ha hb => ev_mt (vs := [.int n]) ha (e _ _ hU.ht) rfl (ea_cons hb ea_nil) (spv_row (hU.mono e) hg)⟩
theorem p_ord {t : Addr} {s : TabS} {F : Reg} {H : Hp} {σ : L2.St} {ta : TE} (h : (tabS CK cls noW).at_ t s F H) (ok : s.Ok) (ha : Ev ta σ H (.ref t)) : ∃ cts : List Addr, Paired (OrdIs H) (cts.map V.ref) s.os ∧ EvL (tMeth C "orders" (SpN 1 (ROrdT C CK)) [] E0 ta tNil) σ H (cts.map V.ref) := by
  obtain ⟨dx, pd, pk, ms, kvs, hU, _, ho⟩ := p_got h
  obtain ⟨cts, p1, p2⟩ := kords ho
  refine ⟨cts, by rw [← hU.os]; exact p1, el_mt (vs := []) ha hU.ht rfl ea_nil (spl rfl fun H1 e => ⟨t, dx, pd, pk, s, ms, kvs, cts, rfl, hU.mono e, ms_len hU ok, paired_imp (fun a b ⟨dx, pk, r⟩ => ⟨dx, pk, e _ _ r⟩) p2, rfl⟩)⟩
theorem p_costs {t b : Addr} {s : TabS} {ts : List Tri} {ws : List V} {F : Reg} {H : Hp} {σ : L2.St} {ta tb : TE} (h : (tabS CK cls noW).at_ t s F H) (ok : s.Ok) (hb : SqL K H b ws) (hW : Wt K H ws ts) (lt : ts.length ≤ 20) (htc : ∀ t ∈ ts, 0 ≤ t.c ∧ t.c < s.wd) (ha : Ev ta σ H (.ref t)) (hc : Ev tb σ H (.ref b)) :
    EvN (tMeth C "costs" (SpNn 2 (RCosts K C CK)) [] E0 ta (tCons tb tNil)) σ H fun v N => ∃ (p : Addr) (qs : List Addr), v = .ref p ∧ N p = some (.lst (qs.map V.ref)) ∧ ∀ H2, Ex N H2 → Ex H H2 → Paired (CostIs H2) qs (waysM s ts) := by
  obtain ⟨dx, pd, pk, ms, kvs, hU, hk, ho⟩ := p_got h
  obtain ⟨cts, p1, p2⟩ := kords ho
  refine EvN.imp (en_mt (vs := [.ref b]) (P := NewL fun zs N => ∃ qs : List Addr, zs = qs.map V.ref ∧ Paired (TupAt N) qs (waysV s.rows ts ms cts)) ha hU.ht rfl (ea_cons hc ea_nil) (spn rfl fun H1 e => ⟨t, dx, pd, pk, b, s, ms, kvs, ws, ts, cts, rfl, hU.mono e, ok, fun m hm => (hk m hm).mono e, ex_l e hb, hW.mono e, lt, htc, paired_imp (fun a b ⟨dx, pk, r⟩ => ⟨dx, pk, e _ _ r⟩) p2, rfl⟩)) ?_
  rintro v N ⟨p, zs, N0, rfl, hp, ⟨qs, rfl, pr⟩, x0⟩
  have lw : (waysV s.rows ts ms cts).length = (waysM s ts).length := by
    have g := congrArg List.length (ways_map (s := s) (ts := ts) (cts := cts) hU.os (paired_len p2))
    rw [List.length_map, List.length_map] at g
    exact g
  refine ⟨p, qs, rfl, hp, fun H2 eN eH => paired_of ((paired_len pr).trans lw) fun i q1 wn hq hwn => ?_⟩
  obtain ⟨⟨x, n⟩, hx, r⟩ := paired_getL pr hq
  obtain ⟨w1, hw1, hw2⟩ := ways_at hU.os p1 hx
  rw [hwn] at hw1
  obtain rfl := Option.some.inj hw1
  exact ⟨x, eN _ _ (x0 _ _ r), hw2.keep fun a o ho _ => eH _ _ ho⟩
theorem p_walk {t b o : Addr} {s : TabS} {ts : List Tri} {ws : List V} {c : List Int} {F : Reg} {H : Hp} {σ : L2.St} {ta ty tb : TE} (h : (tabS CK cls noW).at_ t s F H) (ok : s.Ok) (hb : SqL K H b ws) (hW : Wt K H ws ts) (lt : ts.length ≤ 20) (htc : ∀ t ∈ ts, 0 ≤ t.c ∧ t.c < s.wd) (ho : H o = some (.tup (c.map V.int))) (hc : c ∈ s.os) (ha : Ev ta σ H (.ref t)) (hy : Ev ty σ H (.ref o)) (hb2 : Ev tb σ H (.ref b)) :
    EvN (tMeth C "walked" (SpNn 3 (RWalkN K C CK)) [] E0 ta (tCons ty (tCons tb tNil))) σ H fun v N => ∃ (p : Addr) (ns : List Int), v = .ref p ∧ N p = some (.lst (ns.map V.int)) ∧ Asc c s.rows ns ∧ ∀ n, n ∈ ns ↔ ∃ r, rowOf s.rows n = some r ∧ inS c r ts = true := by
  obtain ⟨dx, pd, pk, ms, kvs, hU, hk, _⟩ := p_got h
  rw [← hU.os] at hc
  obtain ⟨j, hj⟩ := List.getElem?_of_mem hc
  rw [List.getElem?_map] at hj
  obtain ⟨⟨k, c'⟩, hmj, e⟩ := Option.map_eq_some_iff.mp hj
  obtain rfl : c' = c := e
  exact en_mt (vs := [.ref o, .ref b]) ha hU.ht rfl (ea_cons hy (ea_cons hb2 ea_nil)) (spn rfl fun H1 e => ⟨t, dx, pd, pk, b, s, ms, kvs, .ref o, ws, ts, rfl, hU.mono e, ok, fun m hm => (hk m hm).mono e, ex_l e hb, hW.mono e, lt, htc, .inr ⟨o, k, c', j, rfl, e _ _ ho, hmj, rfl⟩⟩)
end
/-! ### orders that a law makes -/
structure GoodOs (wd : Nat) (os : List (List Int)) : Prop where
  nd : os.Nodup
  oc : ∀ c ∈ os, c ≠ [] ∧ c.Nodup ∧ (∀ x ∈ c, 0 ≤ x ∧ x < wd) ∧ c.length ≤ 6
def OrdsIs (wd : Nat) : V → Hp → Prop := fun v N => ∃ (p : Addr) (xs : List V) (os : List (List Int)), v = .ref p ∧ N p = some (.lst xs) ∧ Paired (OrdIs N) xs os ∧ GoodOs wd os ∧ os.length ≤ 3
def ROrdsL (K : PySem.W.Frag) : List V → Hp → (V → Hp → Prop) → Prop := fun vs H P => ∃ (a : Addr) (ns : List Int) (wd : Nat), vs = [.ref a, .int wd] ∧ SqL K H a (ns.map V.int) ∧ 1 ≤ wd ∧ wd ≤ 6 ∧ P = OrdsIs wd
theorem rv_ninOrdL {H : Hp} {pl pt : Addr} {xs : List V} {os : List (List Int)} {c : List Int} (h1 : H pl = some (.lst xs)) (h2 : Paired (OrdIs H) xs os) (ht : SqT K H pt (c.map V.int)) : RV (rNotInD K) (.ref pt) (.ref pl) H (.bl (decide (¬ c ∈ os))) :=
  rv_ninOrd (F := fun a => a = pl) ⟨xs, h1, h2, rfl, fun a z => ⟨.lst xs, by rw [show a = pl from z]; exact h1, fun ⟨_, t⟩ => by cases t⟩⟩ ht
theorem ok_orders13 {f : Addr} {fd : FuncData} (F : Fun K "_law_orders" "_law_orders" s_l_orders f fd) (Z : Zs mg) (c_l_at : Cl P w K mg base CX0 1 "_law_at" (SpR 2 (RAt K))) (c_l_order : Cl P w K mg base CX0 1 "_law_order" (SpNn 2 ROrder)) : FnOk P w K mg base CX0 2 f fd ["_law_script", "_law_width"] (SpNn 2 (ROrdsL K)) := by
  refine F.ok sc_l_orders (fun vs H Q E h => h.1) (fun cdv A outer s H vs Q E hr h => ?_)
  obtain ⟨_, P', ⟨a, ns, wd, rfl, hS, w1, w6, rfl⟩, q⟩ := h
  refine ⟨_, (pss_cons (ps_set (i := 2) sc_l_orders.nd rfl (Or.inl rfl) (pe_lst pa_nil))
      (pss_cons (ps_for PassesOwn.never rfl (pi_range1 (by rfl) Z.range (pa_cons (pe_op op_mod (pe_cl c_l_at hr (by decide) pass0 (by rfl) (pa_cons (pv 0) (pa_cons pe_int pa_nil))) pe_int) pa_nil)) (pg_name (i := 3) sc_l_orders.nd rfl (Or.inl rfl)) (pss_cons (ps_set (i := 4) sc_l_orders.nd rfl (Or.inl rfl) (pe_cl c_l_order hr (by decide) pass0 (by rfl) (pa_cons (pe_op op_add (pe_cl c_l_at hr (by decide) pass0 (by rfl) (pa_cons (pv 0) (pa_cons pe_int pa_nil))) (pe_op op_mul pe_int (pv 3))) (pa_cons (pv 1) pa_nil)))) (pss_one (ps_if (pt_cmpR (op_notInD (units65 hr)) (pv 4) (pv 2) (by rfl)) (pss_one (ps_expr (pe_bm PySem.F.plainAttrs_list PySem.F.slot_list_append PySem.F.type_list_append mt_append (pv 2) (pa_cons (pv 4) pa_nil)))) pss_nil))))
      (pss_one (ps_ret (pv 2))))), ?_⟩
  try dsimp only [cx_K]
  refine Sv.at (sv_asgL (xs := []) (el_lst (vs := []) ea_nil (Nat.zero_le _)) fun p H1 np e1 hp => ?_)
  have hS1 := ex_l e1 hS
  refine sv_forR1 (n := cell ns 2 % 4) (ea_cons (by repeat' walk_at "s") ea_nil) (by omega) (fun i σ' H' => ∃ (y3 y4 : Option V) (xs : List V) (os : List (List Int)) (N : Hp), σ' = [some (.ref a), some (.int wd), some (.ref p), y3, y4] ∧ Ex H H' ∧ H' p = some (.lst xs) ∧ (∀ x, N x ≠ none → H x = none ∧ x ≠ p) ∧ Ex N H' ∧ Paired (OrdIs N) xs os ∧ GoodOs wd os ∧ os.length ≤ i)
    ⟨none, none, [], [], nonew, rfl, e1, hp, fun x z => (z rfl).elim, nonew_ex, .nil, ⟨List.nodup_nil, fun c hc => (List.not_mem_nil hc).elim⟩, Nat.le_refl _⟩ ?_ ?_
  · rintro i σ' H' hi ⟨y3, y4, xs, os, N, rfl, e, hpx, dN, eN, hos, good, lo⟩
    have hSH := ex_l e hS
    refine sv_asgN (en_cl (vs := [.int (cell ns 3 + 5 * (i : Int)), .int wd]) (by repeat' walk_at "s") (spn_order (by omega) (by omega))) ?_
    rintro v N2 H2 d2 ⟨pc, rfl, hpc⟩ eN2 e2
    have w1' : (1 : Int) ≤ wd := by omega
    have hol := order_len (c := cell ns 3 + 5 * (i : Int)) w1'
    have hoi := order_in (c := cell ns 3 + 5 * (i : Int)) w1'
    have hon := order_nodup (c := cell ns 3 + 5 * (i : Int)) w1'
    generalize orderM (cell ns 3 + 5 * (i : Int)) wd = od at hpc hol hoi hon
    have hpx2 := e2 _ _ hpx
    have hos2 : Paired (OrdIs H2) xs os := paired_imp (fun x c r => ordIs_loc r fun a o h _ => e2 _ _ (eN _ _ h)) hos
    have lp := paired_len hos
    refine sv_when' (p := ¬ od ∈ os) (tp_cmp (ev_op (ev_var rfl) (ev_var rfl) (rv_ninOrdL hpx2 hos2 (st_of (eN2 _ _ hpc))))) (fun hno => ?_) (fun _ => sv_kn ⟨_, _, xs, os, N, rfl, e.trans e2, hpx2, dN, eN.trans e2, hos, good, by omega⟩)
    refine sv_appN' hpx2 (ev_var rfl) (Ev.n (ev_var rfl)) (by omega) ?_
    rintro v N3 H3 _ rfl _ xb hp3
    have sep : ∀ x, N2 x ≠ none → N x = none := fun x z => by
      cases k : N x with
      | none => rfl
      | some u =>
        have g := eN x u k
        rw [d2 x z] at g
        cases g
    have np2 : ∀ x, N2 x ≠ none → x ≠ p := fun x z g => by
      have h := d2 x z
      rw [g, hpx] at h
      cases h
    refine sv_kn ⟨_, _, xs ++ [.ref pc], os ++ [od], Unn N2 N, rfl, fun x u h => xb x u (fun g => ?_) (e2 _ _ (e _ _ h)), hp3, fun x z => ?_, ?_, ?_, ⟨?_, ?_⟩, by rw [List.length_append]; simp only [List.length_singleton]; omega⟩
    · rw [g] at h
      rw [np] at h
      cases h
    · rcases unn_none z with z | z
      · exact dN x z
      · exact ⟨fresh_back e (d2 x z), np2 x z⟩
    · refine unn_ex (fun x u h => xb x u (dN x (by rw [h]; exact fun z => by cases z)).2 (e2 _ _ (eN _ _ h))) fun x u h => xb x u (np2 x (by rw [h]; exact fun z => by cases z)) (eN2 _ _ h)
    · exact paired_snoc (R := OrdIs (Unn N2 N)) ⟨pc, rfl, unn_l sep _ _ hpc⟩ (paired_imp (fun x c r => ordIs_loc r fun a o h _ => unn_r _ _ h) hos)
    · exact List.nodup_append.mpr ⟨good.nd, List.nodup_cons.mpr ⟨List.not_mem_nil, List.nodup_nil⟩, fun x hx y hy e => hno (by rw [← List.mem_singleton.mp hy, ← e]; exact hx)⟩
    · intro c hc
      rcases List.mem_append.mp hc with h | h
      · exact good.oc c h
      · rw [List.mem_singleton.mp h]
        exact ⟨fun z => by rw [z] at hol; exact Nat.lt_irrefl _ hol.1, hon, hoi, by omega⟩
  · rintro σ' H' ⟨y3, y4, xs, os, N, rfl, e, hpx, dN, eN, hos, good, lo⟩
    refine sv_ret (v := .ref p) (ev_var rfl) fun H2 e2 => q (.ref p) (Unn (one p (.lst xs)) N) H2 (fun x z => ?_) ⟨p, xs, os, rfl, ?_, paired_imp (fun x c r => ordIs_loc r fun a o h _ => unn_r _ _ h) hos, good, by omega⟩ (unn_ex (eN.trans e2) (one_ex (e2 _ _ hpx))) (e.trans e2)
    · rcases unn_none z with z | z
      · exact (dN x z).1
      · rw [one_ne z]
        exact np
    · refine unn_l (fun x z => ?_) _ _ one_at
      rw [one_ne z]
      exact Classical.not_not.mp fun g => (dN p g).2 rfl

section
variable {C CK : Addr} {cls : Cls K C} {noW : NoAttr K C "width"}
/-! ### a deed done to both -/
def PairT (S : TSp K) (a b : Addr) (s : TabS) (oa ob : List (List Int)) : RP := Two (S.at_ a (st s oa)) (S.at_ b (st s ob))
theorem pairT_regn {S : TSp K} (a b : Addr) (s : TabS) (oa ob : List (List Int)) : Regn (PairT S a b s oa ob) := (S.regn _ _).two (S.regn _ _)
def PairE (S : TSp K) (a b : Addr) (wd : Nat) (oa ob : List (List Int)) : RP := fun F H => ∃ s : TabS, ((st s oa).Ok ∧ (st s ob).Ok ∧ s.wd = wd) ∧ PairT S a b s oa ob F H
theorem pairE_regn {S : TSp K} (a b : Addr) (wd : Nat) (oa ob : List (List Int)) : Regn (PairE S a b wd oa ob) := regn_ex fun s => regn_and (pairT_regn _ _ _ _ _)
def RDeed13 (S : TSp K) : List V → Hp → Reg → RP → (V → Hp → Prop) → Prop := fun vs H F T' P => ∃ (a b : Addr) (s : TabS) (oa ob : List (List Int)) (c : Int), vs = [.ref a, .ref b, .int c, .int s.wd] ∧ PairT S a b s oa ob F H ∧ (st s oa).Ok ∧ (st s ob).Ok ∧ Bits 1048700 c ∧
  T' = PairE S a b s.wd oa ob ∧ P = fun v _ => v = .non
theorem ok_deed13 {f : Addr} {fd : FuncData} (F : Fun K "_law_deed" "_law_deed" s_l_deed f fd) (Z : Zs mg) (c_l_value : Cl P w K mg base CX0 1 "_law_value" (SpR 1 RValue)) (c_l_row : Cl P w K mg base CX0 2 "_law_row" (SpN 2 RRow)) (c_numbers : Mt P w K mg base CX0 1 C "numbers" (SpN 1 (RNumT C))) (c_put : Mt P w K mg base CX0 6 C "put" (SpW 2 (RTPut (tabS CK cls noW))))
    (c_drop : Mt P w K mg base CX0 6 C "drop" (SpW 2 (RTDrop (tabS CK cls noW)))) (c_change : Mt P w K mg base CX0 6 C "change" (SpW 4 (RTChange (tabS CK cls noW)))) : FnOk P w K mg base CX0 7 f fd ["_law_one", "_law_other", "_law_cell", "_law_width"] (SpW 4 (RDeed13 (tabS CK cls noW))) := by
  refine F.ok sc_l_deed (fun vs H Q E h => h.1) (fun cdv A outer s0 H vs Q E hr h => ?_)
  obtain ⟨_, F, T', P', ⟨a, b, s, oa, ob, c, rfl, tt, oka, okb, hb, rfl, rfl⟩, q⟩ := h
  refine ⟨_, (pss_cons (ps_set (i := 4) sc_l_deed.nd rfl (Or.inl rfl) (pe_m0 c_numbers hr (by decide) pass0 (pv 0)))
      (pss_cons (ps_set (i := 5) sc_l_deed.nd rfl (Or.inl rfl) (pe_op op_fdiv (pv 2) pe_int))
      (pss_one (ps_if (PW.pt (pw_and (pt_cmpR op_eq (pe_op op_mod (pv 2) pe_int) pe_int (nomark _)) (pw_and1 (pt_cmpR op_gt (pe_callB (id := "len") (r := rLenS K) c_len (by rfl) Z.len PySem.boot_len (pa_cons (pv 4) pa_nil)) pe_int (nomark _))))) (pss_cons (ps_set (i := 6) sc_l_deed.nd rfl (Or.inl rfl) (pe_ix (r := rIxL K) ix_list (pv 4) (pe_op op_mod (pv 5) (pe_callB (id := "len") (r := rLenS K) c_len (by rfl) Z.len PySem.boot_len (pa_cons (pv 4) pa_nil))) (fun _ _ => rfl))) (pss_cons (ps_expr (pe_m c_drop hr (by decide) pass0 (pv 0) (pa_cons (pv 6) pa_nil))) (pss_one (ps_expr (pe_m c_drop hr (by decide) pass0 (pv 1) (pa_cons (pv 6) pa_nil)))))) (pss_one (ps_if (PW.pt (pw_and (pt_cmpR op_eq (pe_op op_mod (pv 2) pe_int) pe_int (nomark _)) (pw_and1 (pt_cmpR op_gt (pe_callB (id := "len") (r := rLenS K) c_len (by rfl) Z.len PySem.boot_len (pa_cons (pv 4) pa_nil)) pe_int (nomark _))))) (pss_cons (ps_set (i := 6) sc_l_deed.nd rfl (Or.inl rfl) (pe_ix (r := rIxL K) ix_list (pv 4) (pe_op op_mod (pv 5) (pe_callB (id := "len") (r := rLenS K) c_len (by rfl) Z.len PySem.boot_len (pa_cons (pv 4) pa_nil))) (fun _ _ => rfl))) (pss_cons (ps_set (i := 7) sc_l_deed.nd rfl (Or.inl rfl) (pe_cl c_l_value hr (by decide) pass0 (by rfl) (pa_cons (pe_op op_fdiv (pe_op op_powB (pe_op op_add (pe_op op_mul (pv 5) pe_int) pe_int) pe_int) pe_int) pa_nil))) (pss_cons (ps_expr (pe_m c_change hr (by decide) pass0 (pv 0) (pa_cons (pv 6) (pa_cons (pe_op op_mod (pe_op op_fdiv (pv 5) pe_int) (pv 3)) (pa_cons (pv 7) pa_nil))))) (pss_one (ps_expr (pe_m c_change hr (by decide) pass0 (pv 1) (pa_cons (pv 6) (pa_cons (pe_op op_mod (pe_op op_fdiv (pv 5) pe_int) (pv 3)) (pa_cons (pv 7) pa_nil))))))))) (pss_one (ps_if (pt_cmpR op_lt (pe_callB (id := "len") (r := rLenS K) c_len (by rfl) Z.len PySem.boot_len (pa_cons (pv 4) pa_nil)) pe_int (nomark _)) (pss_cons (ps_expr (pe_m c_put hr (by decide) pass0 (pv 0) (pa_cons (pe_callTy (T := "tuple") (r := rTupS K) c_tuple (by rfl) Z.tuple (by decide +kernel) (pa_cons (pe_cl c_l_row hr (by decide) pass0 (by rfl) (pa_cons (pv 5) (pa_cons (pv 3) pa_nil))) pa_nil)) pa_nil))) (pss_one (ps_expr (pe_m c_put hr (by decide) pass0 (pv 1) (pa_cons (pe_cl c_l_row hr (by decide) pass0 (by rfl) (pa_cons (pv 5) (pa_cons (pv 3) pa_nil))) pa_nil))))) pss_nil)))))))), ?_⟩
  try dsimp only [cx_K]
  have RA : ∀ (a : Addr) (s : TabS), Regn ((tabS CK cls noW).at_ a s) := fun a s => (tabS CK cls noW).regn a s
  have RP0 : ∀ s' : TabS, Regn (PairT (tabS CK cls noW) a b s' oa ob) := fun s' => pairT_regn _ _ _ _ _
  refine (?_ : SvW _ _ _ (PairT (tabS CK cls noW) a b s oa ob) F (fun a => H a ≠ none) (Out F H)) H (start_1 tt)
  obtain ⟨L0, hL0⟩ : ∃ x, x = Out F H := ⟨_, rfl⟩
  rw [← hL0]
  have kp0 : Ex (Out F H) L0 := by
    rw [hL0]
    exact Ex.refl _
  have l200 := oka.l200
  have wd1 := oka.w1
  have wd6 := oka.w6
  have fin : ∀ {L' H' : Hp} {s' : TabS}, Ex L0 L' → (st s' oa).Ok → (st s' ob).Ok → s'.wd = s.wd → Wld (PairT (tabS CK cls noW) a b s' oa ob) F (fun a => H a ≠ none) L' H' → Q .non H' := fun {L' H' s'} e h1 h2 h3 w' => close_1 (P := fun v _ => v = .non) (RP0 s) tt q (w'.imp fun F' tt => ⟨s', ⟨h1, h2, h3⟩, tt⟩) (kp0.trans e) rfl
  have insA : ∀ {s1 : TabS} {U : RP} {F0 B : Reg} {L H : Hp} (m : Str), m ∈ tabNames → Wld (Two ((tabS CK cls noW).at_ a s1) U) F0 B L H → ∃ dx fs, H a = some (.ins C dx fs) ∧ fs.lookup m = none := fun m hm w => by
    obtain ⟨_, ⟨_, _, x, _⟩, _⟩ := w
    obtain ⟨dx, fs, i1, _, i2⟩ := (tabS CK cls noW).ins x
    exact ⟨dx, fs, i1, i2 m hm⟩
  have insB : ∀ {s1 : TabS} {U : RP} {F0 B : Reg} {L H : Hp} (m : Str), m ∈ tabNames → Wld (Two U ((tabS CK cls noW).at_ b s1)) F0 B L H → ∃ dx fs, H b = some (.ins C dx fs) ∧ fs.lookup m = none := fun m hm w => by
    obtain ⟨_, ⟨_, _, _, x, _⟩, _⟩ := w
    obtain ⟨dx, fs, i1, _, i2⟩ := (tabS CK cls noW).ins x
    exact ⟨dx, fs, i1, i2 m hm⟩
  refine vw_asgRN (RP0 s) (P := IsL ((s.rows.map (·.1)).map V.int)) (fun H w => ?_) ?_
  · obtain ⟨_, ⟨_, _, x, _⟩, _⟩ := w
    have g := p_num (s := st s oa) (ta := tVar 0) (σ := [some (.ref a), some (.ref b), some (.int c), some (.int s.wd), none, none, none, none]) x oka (ev_var rfl)
    exact EvL.n g
  rintro v N1 d1 ⟨pn, rfl, hpn⟩
  have hn1 : (Unn N1 L0) pn = some (.lst ((s.rows.map (·.1)).map V.int)) := unn_l (fun a z => (d1 a z).1) _ _ hpn
  have e1 : Ex L0 (Unn N1 L0) := unn_r
  generalize Unn N1 L0 = L1 at hn1 e1
  have hq : SqL K L1 pn ((s.rows.map (·.1)).map V.int) := sq_of hn1
  obtain ⟨ys, hys⟩ : ∃ ys, ys = s.rows.map (·.1) := ⟨_, rfl⟩
  rw [← hys] at hq
  have ly : ys.length = s.rows.length := by rw [hys, List.length_map]
  refine vw_asg (RP0 s) (v := .int (c / 4)) (by repeat' walk_at "s") ?_
  have hb4 : Bits 1048700 (c / 4) := hb.div
  have pick : (0 : Int) < ys.length → 0 ≤ c / 4 % (ys.length : Int) ∧ c / 4 % (ys.length : Int) < ys.length ∧ ∃ row, rowOf s.rows (ys.getD (c / 4 % (ys.length : Int)).toNat 0) = some row := fun h => by
    have m0 : 0 ≤ c / 4 % (ys.length : Int) := Int.emod_nonneg _ (by omega)
    have m1 : c / 4 % (ys.length : Int) < ys.length := Int.emod_lt_of_pos _ (by omega)
    refine ⟨m0, m1, rowOf_mem ?_⟩
    have hi : (c / 4 % (ys.length : Int)).toNat < ys.length := by omega
    rw [List.getD_eq_getElem?_getD, List.getElem?_eq_getElem hi, ← hys]
    exact List.getElem_mem hi
  refine vw_if' (p := c % 4 = 2 ∧ (ys.length : Int) > 0) (RP0 s) (by repeat' walk_at "s") (fun hp => ?_) (fun _ => ?_)
  · obtain ⟨m0, m1, row, hrow⟩ := pick hp.2
    refine vw_asg (RP0 s) (v := .int (ys.getD (c / 4 % (ys.length : Int)).toNat 0)) (ev_op (ev_var rfl) (ev_op (ev_var rfl) (ev_lenI (ev_var rfl) hq) (rv_mod (by omega))) (rv_ixI hq m0 m1)) ?_
    generalize ys.getD (c / 4 % (ys.length : Int)).toNat 0 = n at hrow
    refine vw_drop (ew_mt (RP0 s) (ev_var rfl) (fun H w => insA "drop" (by decide) w) (vs := [.int n]) (by repeat' walk_at "s") (spw_l (T' := (tabS CK cls noW).at_ a { st s oa with rows := s.rows.filter fun p => decide (¬ p.1 = n) }) (RA _ _) (RA _ _) rfl fun H F tt e dj => ⟨a, st s oa, n, row, rfl, tt, oka, hrow, rfl, rfl⟩)) ?_
    rintro v N2 d2 _
    refine vw_drop' (ew_mt ((RA _ _).two (RA _ _)) (ev_var rfl) (fun H w => insB "drop" (by decide) w) (vs := [.int n]) (by repeat' walk_at "s") (spw_r (T' := (tabS CK cls noW).at_ b { st s ob with rows := s.rows.filter fun p => decide (¬ p.1 = n) }) (RA _ _) (RA _ _) rfl fun H F tt e dj => ⟨b, st s ob, n, row, rfl, tt, okb, hrow, rfl, rfl⟩)) ?_
    rintro v N3 d3 _
    exact vw_next fun H' w' => fin (s' := { s with rows := s.rows.filter fun p => decide (¬ p.1 = n) }) ((e1.trans unn_r).trans unn_r) oka.drop okb.drop rfl w'
  refine vw_if' (p := c % 4 = 3 ∧ (ys.length : Int) > 0) (RP0 s) (by repeat' walk_at "s") (fun hp => ?_) (fun _ => ?_)
  · obtain ⟨m0, m1, row, hrow⟩ := pick hp.2
    refine vw_asg (RP0 s) (v := .int (ys.getD (c / 4 % (ys.length : Int)).toNat 0)) (ev_op (ev_var rfl) (ev_op (ev_var rfl) (ev_lenI (ev_var rfl) hq) (rv_mod (by omega))) (rv_ixI hq m0 m1)) ?_
    generalize ys.getD (c / 4 % (ys.length : Int)).toNat 0 = n at hrow
    have hwr : row.length = s.wd := oka.wide n row hrow
    have p1 : RV (rI CPowB fun i j => .int (i ^ j.toNat)) (.int (c / 4 * 48271 + 7)) (.int 3) L1 (.int ((c / 4 * 48271 + 7) ^ 3)) := rv_powB (((hb4.mul (m := 16) (Bits.nat (k := 48271) (by decide))).mono (m := 1048717) (by decide)).add ((Bits.nat (n := 3) (k := 7) (by decide)).mono (by decide))) (by decide)
    refine vw_asg (RP0 s) (ev_cl (vs := [.int ((c / 4 * 48271 + 7) ^ 3 / 11)]) (ea_cons (ev_op (ev_op (ev_op (ev_op (ev_var rfl) ev_c (rv_mulR (by decide) (by decide))) ev_c rv_I0) ev_c p1) ev_c (rv_div (by decide) (by decide))) ea_nil) spv_value) ?_
    generalize value ((c / 4 * 48271 + 7) ^ 3 / 11) = x
    have k0 : 0 ≤ c / 4 / 5 % (s.wd : Int) := Int.emod_nonneg _ (by have : 1 ≤ s.wd := wd1; omega)
    have k1 : c / 4 / 5 % (s.wd : Int) < s.wd := Int.emod_lt_of_pos _ (by have : 1 ≤ s.wd := wd1; omega)
    have hwd : 0 < (s.wd : Int) := by have : 1 ≤ s.wd := wd1; omega
    refine vw_drop (ew_mt (RP0 s) (ev_var rfl) (fun H w => insA "change" (by decide) w) (vs := [.int n, .int (c / 4 / 5 % (s.wd : Int)), .int x]) (ea_cons (ev_var rfl) (ea_cons (ev_op (ev_op (ev_var rfl) ev_c (rv_div (by decide) (by decide))) (ev_var rfl) (rv_mod hwd)) (ea_cons (ev_var rfl) ea_nil))) (spw_l (T' := (tabS CK cls noW).at_ a { st s oa with rows := putRow s.rows n (row.set (c / 4 / 5 % (s.wd : Int)).toNat x) }) (RA _ _) (RA _ _) rfl fun H F tt e dj => ⟨a, st s oa, n, c / 4 / 5 % (s.wd : Int), x, row, rfl, tt, oka, hrow, k0, k1, rfl, rfl⟩)) ?_
    rintro v N2 d2 _
    refine vw_drop' (ew_mt ((RA _ _).two (RA _ _)) (ev_var rfl) (fun H w => insB "change" (by decide) w) (vs := [.int n, .int (c / 4 / 5 % (s.wd : Int)), .int x]) (ea_cons (ev_var rfl) (ea_cons (ev_op (ev_op (ev_var rfl) ev_c (rv_div (by decide) (by decide))) (ev_var rfl) (rv_mod hwd)) (ea_cons (ev_var rfl) ea_nil))) (spw_r (T' := (tabS CK cls noW).at_ b { st s ob with rows := putRow s.rows n (row.set (c / 4 / 5 % (s.wd : Int)).toNat x) }) (RA _ _) (RA _ _) rfl fun H F tt e dj => ⟨b, st s ob, n, c / 4 / 5 % (s.wd : Int), x, row, rfl, tt, okb, hrow, k0, k1, rfl, rfl⟩)) ?_
    rintro v N3 d3 _
    exact vw_next fun H' w' => fin (s' := { s with rows := putRow s.rows n (row.set (c / 4 / 5 % (s.wd : Int)).toNat x) }) ((e1.trans unn_r).trans unn_r) (oka.change hrow (by rw [List.length_set]; exact hwr)) (okb.change hrow (by rw [List.length_set]; exact hwr)) rfl w'
  refine vw_if' (p := (ys.length : Int) < 200) (RP0 s) (by repeat' walk_at "s") (fun hlt => ?_) (fun _ => vw_next fun H' w' => fin e1 oka okb rfl w')
  have hlt' : s.rows.length < 200 := by omega
  have wdi : (1 : Int) ≤ s.wd ∧ (s.wd : Int) ≤ 6 := by have : 1 ≤ s.wd := wd1; have : s.wd ≤ 6 := wd6; omega
  have lrow : (rowM (c / 4) s.wd).length = s.wd := by
    rw [rowM_len]
    rfl
  have ho : ∀ {L' : Hp}, EvL (tCall (SpN 2 RRow) [] E0 (tCons (tVar 5) (tCons (tVar 3) tNil))) [some (.ref a), some (.ref b), some (.int c), some (.int s.wd), some (.ref pn), some (.int (c / 4)), none, none] L' ((rowM (c / 4) s.wd).map V.int) := fun {L'} => el_cl (vs := [.int (c / 4), .int s.wd]) (by repeat' walk_at "s") (spl_row hb4 (by omega) (by omega))
  generalize rowM (c / 4) s.wd = row at lrow ho
  refine vw_drop (ew_mtU (xs := row.map V.int) (P' := fun v _ => v = .non ∨ True) (T' := Two ((tabS CK cls noW).at_ a { st s oa with rows := s.rows ++ [(s.made, row)], made := s.made + 1 }) ((tabS CK cls noW).at_ b (st s ob))) (RP0 s) (ev_var rfl) (fun H w => insA "put" (by decide) w) ?_ fun p np => ?_) ?_
  · exact fun H1 e Q q => ho (L' := L1) H1 e _ fun l H2 n e2 hl => ⟨l, _, rfl, .inl ⟨sq_of hl, fun p hp => q p _ (fresh_back e2 hp) (e2.trans (Ex.new hp)) upd_same⟩⟩
  · have g := spw_l (F0 := F) (B := fun a => H a ≠ none) (L := Unn (one p (.tup (row.map V.int))) L1) (R := RTPut (tabS CK cls noW)) (T := (tabS CK cls noW).at_ a (st s oa)) (T' := (tabS CK cls noW).at_ a { st s oa with rows := s.rows ++ [(s.made, row)], made := s.made + 1 }) (U := (tabS CK cls noW).at_ b (st s ob)) (n := 2) (vs := [.ref a, .ref p]) (P := fun v _ => v = .int s.made) (RA _ _) (RA _ _) rfl fun H F tt e dj => ⟨a, p, st s oa, row, rfl, tt, oka, .inr (e _ _ (unn_l (N := one p (.tup (row.map V.int))) (H := L1) (fun a z => by rw [one_ne z]; exact np) _ _ one_at)), lrow, hlt', rfl, rfl⟩
    exact fun H w Q q E => g H w Q (fun v N H' d _ w' => q v N H' d (.inr trivial) w') E
  rintro v N2 d2 _
  refine vw_drop' (ew_mtN (PA := fun vs N => ∃ v, vs = [v] ∧ IsL (row.map V.int) v N) (p := fun _ => True) (T' := Two ((tabS CK cls noW).at_ a { st s oa with rows := s.rows ++ [(s.made, row)], made := s.made + 1 }) ((tabS CK cls noW).at_ b { st s ob with rows := s.rows ++ [(s.made, row)], made := s.made + 1 })) ((RA _ _).two (RA _ _)) (ev_var rfl) (fun H w => insB "put" (by decide) w) (ean_one (EvL.n ho)) ?_) ?_
  · rintro vs N d ⟨v, rfl, p, rfl, hp⟩
    have hpL : (Unn N (Unn N2 L1)) p = some (.lst (row.map V.int)) := unn_l (fun a z => (d a z).1) _ _ hp
    have g := spw_r (F0 := F) (B := fun a => H a ≠ none) (L := Unn N (Unn N2 L1)) (R := RTPut (tabS CK cls noW)) (T := (tabS CK cls noW).at_ b (st s ob)) (T' := (tabS CK cls noW).at_ b { st s ob with rows := s.rows ++ [(s.made, row)], made := s.made + 1 }) (U := (tabS CK cls noW).at_ a { st s oa with rows := s.rows ++ [(s.made, row)], made := s.made + 1 }) (n := 2) (vs := [.ref b, .ref p]) (P := fun v _ => v = .int s.made) (RA _ _) (RA _ _) rfl fun H F tt e dj => ⟨b, p, st s ob, row, rfl, tt, okb, .inl ⟨sq_of (e _ _ hpL), fun z => by rw [dj p z] at hpL; cases hpL⟩, lrow, hlt', rfl, rfl⟩
    exact fun H w Q q E => g H w Q (fun v N H' d _ w' => q v N H' d trivial w') E
  rintro v N3 d3 _
  exact vw_next fun H' w' => fin (s' := { s with rows := s.rows ++ [(s.made, row)], made := s.made + 1 }) ((e1.trans unn_r).trans unn_r) (oka.put lrow hlt') (okb.put lrow hlt') rfl w'

/-! ### both alike -/
def RAskS (S : TSp K) (PT : Addr) (qn : Str) : List V → Hp → Reg → RP → (V → Hp → Prop) → Prop := fun vs H F T' P => ∃ (t b : Addr) (s : TabS) (ts : List Tri), vs = [.ref t, .ref b] ∧ Two (S.at_ t s) (TblR PT qn) F H ∧ s.Ok ∧ AskFit K H F b s ts ∧
  T' = Two (S.at_ t s) (TblR PT qn) ∧ P = fun v N => ∃ p : Addr, v = .ref p ∧ N p = some (.lst ((dueA s.rows ts).map V.int))
def RPlanS (S : TSp K) (PT : Addr) (qn : Str) : List V → Hp → Reg → RP → (V → Hp → Hp → Prop) → Prop := fun vs H F T' P => ∃ (t b : Addr) (s : TabS) (ws : List V) (ts : List Tri), vs = [.ref t, .ref b] ∧ Two (S.at_ t s) (TblR PT qn) F H ∧ s.Ok ∧ SqL K H b ws ∧ Wt K H ws ts ∧ ts.length ≤ 20 ∧ (∀ t ∈ ts, 0 ≤ t.c ∧ t.c < s.wd) ∧
  T' = Two (S.at_ t s) (TblR PT qn) ∧ P = fun v _ M => ∃ (q1 : Addr) (x : V) (n : Int) (i : Nat) (w : Option (List Int)), v = .ref q1 ∧ M q1 = some (.tup [x, .int n]) ∧ (waysM s ts)[i]? = some (w, n) ∧ FirstLeast ((waysM s ts).map (·.2)) i ∧ WayIs M x w
def RSame13 (S : TSp K) (PT : Addr) (qn : Str) : List V → Hp → Reg → RP → (V → Hp → Prop) → Prop := fun vs H F T' P => ∃ (a b pw po : Addr) (s : TabS) (ws xs : List V) (ts : List Tri) (L : Hp), vs = [.ref a, .ref b, .ref pw, .ref po] ∧ Two (Two (S.at_ a s) (S.at_ b s)) (TblR PT qn) F H ∧ s.Ok ∧ Ex L H ∧ (∀ x, F x → L x = none) ∧ SqL K L pw ws ∧ Wt K L ws ts ∧ ts.length ≤ 20 ∧ (∀ t ∈ ts, 0 ≤ t.c ∧ t.c < s.wd) ∧ L po = some (.lst xs) ∧ Paired (OrdIs L) xs s.os ∧
  T' = Two (Two (S.at_ a s) (S.at_ b s)) (TblR PT qn) ∧ P = fun v _ => v = .bl true
theorem ok_same13 {PT : Addr} {qn : Str} {f : Addr} {fd : FuncData} (F : Fun K "_law_same" "_law_same" s_l_same f fd) (Z : Zs mg) (c_numbers : Mt P w K mg base CX0 1 C "numbers" (SpN 1 (RNumT C))) (c_orders : Mt P w K mg base CX0 1 C "orders" (SpN 1 (ROrdT C CK))) (c_row : Mt P w K mg base CX0 2 C "row" (SpR 2 (RRowT C)))
    (c_listed : Mt P w K mg base CX0 6 C "listed" (SpW 2 (RTListed (tabS CK cls noW)))) (c_walked : Mt P w K mg base CX0 6 C "walked" (SpNn 3 (RWalkN K C CK))) (c_costs : Mt P w K mg base CX0 6 C "costs" (SpNn 2 (RCosts K C CK))) (c_plan : Mt P w K mg base CX0 7 C "plan" (SpWM 2 (RPlanS (tabS CK cls noW) PT qn)))
    (c_ask : Mt P w K mg base CX0 8 C "ask" (SpW 2 (RAskS (tabS CK cls noW) PT qn))) : FnOk P w K mg base CX0 9 f fd ["_law_one", "_law_other", "_law_wish", "_law_orders_here"] (SpW 4 (RSame13 (tabS CK cls noW) PT qn)) := by
  refine F.ok sc_l_same (fun vs H Q E h => h.1) (fun cdv A outer s0 H vs Q E hr h => ?_)
  obtain ⟨_, F, T', P', ⟨a, b, pw, po, s, ws, xs, ts, L, rfl, tt, ok, eLH, dF, hpw, hW, lt, htc, hpo, hos, rfl, rfl⟩, q⟩ := h
  refine ⟨_, (pss_cons (ps_if (PW.pt (pw_or (pt_cmpR (r := rNeD K) (op_neD hr.units) (pe_m0 c_numbers hr (by decide) pass0 (pv 0)) (pe_m0 c_numbers hr (by decide) pass0 (pv 1)) (nomark _)) (pw_or (pt_cmpR (r := rNeD K) (op_neD hr.units) (pe_m0 c_orders hr (by decide) pass0 (pv 0)) (pv 3) (nomark _)) (pw_or1 (pt_cmpR (r := rNeD K) (op_neD hr.units) (pe_m0 c_orders hr (by decide) pass0 (pv 1)) (pv 3) (nomark _)))))) (pss_one (ps_ret pe_bl)) pss_nil)
      (pss_cons (ps_for PassesOwn.never rfl (pi_list (pe_m0 c_numbers hr (by decide) pass0 (pv 0))) (pg_name (i := 4) sc_l_same.nd rfl (Or.inl rfl)) (pss_one (ps_if (pt_cmpR (r := rNeD K) (op_neD hr.units) (pe_m c_row hr (by decide) pass0 (pv 0) (pa_cons (pv 4) pa_nil)) (pe_m c_row hr (by decide) pass0 (pv 1) (pa_cons (pv 4) pa_nil)) (nomark _)) (pss_one (ps_ret pe_bl)) pss_nil)))
      (pss_cons (ps_for PassesOwn.never rfl (pi_list (pv 3)) (pg_name (i := 5) sc_l_same.nd rfl (Or.inl rfl)) (pss_one (ps_if (PW.pt (pw_or (pt_cmpR (r := rNeD K) (op_neD hr.units) (pe_m c_listed hr (by decide) pass0 (pv 0) (pa_cons (pv 5) pa_nil)) (pe_m c_listed hr (by decide) pass0 (pv 1) (pa_cons (pv 5) pa_nil)) (nomark _)) (pw_or1 (pt_cmpR (r := rNeD K) (op_neD hr.units) (pe_m c_walked hr (by decide) pass0 (pv 0) (pa_cons (pv 5) (pa_cons (pv 2) pa_nil))) (pe_m c_walked hr (by decide) pass0 (pv 1) (pa_cons (pv 5) (pa_cons (pv 2) pa_nil))) (nomark _))))) (pss_one (ps_ret pe_bl)) pss_nil)))
      (pss_cons (ps_set (i := 6) sc_l_same.nd rfl (Or.inl rfl) (pe_and (pe_cmpR (r := rEqD K) (op_eqD hr.units) (pe_m c_costs hr (by decide) pass0 (pv 0) (pa_cons (pv 2) pa_nil)) (pe_m c_costs hr (by decide) pass0 (pv 1) (pa_cons (pv 2) pa_nil)) (nomark _)) (pe_one (pe_cmpR (r := rEqD K) (op_eqD hr.units) (pe_m c_plan hr (by decide) pass0 (pv 0) (pa_cons (pv 2) pa_nil)) (pe_m c_plan hr (by decide) pass0 (pv 1) (pa_cons (pv 2) pa_nil)) (nomark _)))))
      (pss_one (ps_ret (pe_and (pv 6) (pe_one (pe_cmpR (r := rEqD K) (op_eqD hr.units) (pe_m c_ask hr (by decide) pass0 (pv 0) (pa_cons (pv 2) pa_nil)) (pe_m c_ask hr (by decide) pass0 (pv 1) (pa_cons (pv 2) pa_nil)) (nomark _)))))))))), ?_⟩
  try dsimp only [cx_K]
  have RA : ∀ (a : Addr) (s : TabS), Regn ((tabS CK cls noW).at_ a s) := fun a s => (tabS CK cls noW).regn a s
  have RB : Regn (TblR PT qn) := tblR_regn _ _
  have RQ : Regn (Two (Two ((tabS CK cls noW).at_ a s) ((tabS CK cls noW).at_ b s)) (TblR PT qn)) := ((RA _ _).two (RA _ _)).two RB
  have e0 := out_of eLH dF
  refine (?_ : SvW _ _ _ (Two (Two ((tabS CK cls noW).at_ a s) ((tabS CK cls noW).at_ b s)) (TblR PT qn)) F (fun a => H a ≠ none) (Out F H)) H (start_1 tt)
  have hpw := ex_l e0 hpw
  have hW := hW.mono e0
  have hpo := e0 _ _ hpo
  have hos : Paired (OrdIs (Out F H)) xs s.os := paired_imp (fun x c r => ordIs_loc r fun a o h _ => e0 _ _ h) hos
  obtain ⟨L0, hL0⟩ : ∃ x, x = Out F H := ⟨_, rfl⟩
  rw [← hL0] at hpw hW hpo hos ⊢
  have kp0 : Ex (Out F H) L0 := by
    rw [hL0]
    exact Ex.refl _
  have nd : (s.rows.map (·.1)).Nodup := ok.nd.imp fun h e => by omega
  have l200 := ok.l200
  have atA : ∀ {F0 B : Reg} {L H : Hp}, Wld (Two (Two ((tabS CK cls noW).at_ a s) ((tabS CK cls noW).at_ b s)) (TblR PT qn)) F0 B L H → ∃ F1, (tabS CK cls noW).at_ a s F1 H := fun w => by
    obtain ⟨_, ⟨_, _, ⟨_, _, x, _⟩, _⟩, _⟩ := w
    exact ⟨_, x⟩
  have atB : ∀ {F0 B : Reg} {L H : Hp}, Wld (Two (Two ((tabS CK cls noW).at_ a s) ((tabS CK cls noW).at_ b s)) (TblR PT qn)) F0 B L H → ∃ F1, (tabS CK cls noW).at_ b s F1 H := fun w => by
    obtain ⟨_, ⟨_, _, ⟨_, _, _, x, _⟩, _⟩, _⟩ := w
    exact ⟨_, x⟩
  have insA : ∀ {F0 B : Reg} {L H : Hp} (m : Str), m ∈ tabNames → Wld (Two (Two ((tabS CK cls noW).at_ a s) ((tabS CK cls noW).at_ b s)) (TblR PT qn)) F0 B L H → ∃ dx fs, H a = some (.ins C dx fs) ∧ fs.lookup m = none := fun m hm w => by
    obtain ⟨_, x⟩ := atA w
    obtain ⟨dx, fs, i1, _, i2⟩ := (tabS CK cls noW).ins x
    exact ⟨dx, fs, i1, i2 m hm⟩
  have insB : ∀ {F0 B : Reg} {L H : Hp} (m : Str), m ∈ tabNames → Wld (Two (Two ((tabS CK cls noW).at_ a s) ((tabS CK cls noW).at_ b s)) (TblR PT qn)) F0 B L H → ∃ dx fs, H b = some (.ins C dx fs) ∧ fs.lookup m = none := fun m hm w => by
    obtain ⟨_, x⟩ := atB w
    obtain ⟨dx, fs, i1, _, i2⟩ := (tabS CK cls noW).ins x
    exact ⟨dx, fs, i1, i2 m hm⟩
  -- numbers, orders
  refine vw_whenR (p := False ∨ False ∨ False) RQ (fun H w => ?_) (fun h => by simp at h) (fun _ => ?_)
  · have lx := w.lx
    obtain ⟨_, xa⟩ := atA w
    obtain ⟨_, xb⟩ := atB w
    obtain ⟨c1, p1, v1⟩ := p_ord (σ := [some (.ref a), some (.ref b), some (.ref pw), some (.ref po), none, none, none]) (ta := tVar 0) xa ok (ev_var rfl)
    obtain ⟨c2, p2, v2⟩ := p_ord (σ := [some (.ref a), some (.ref b), some (.ref pw), some (.ref po), none, none, none]) (ta := tVar 1) xb ok (ev_var rfl)
    have oH : ∀ {H2 : Hp}, Ex H H2 → Dp K H2 (.ref po) (.list (s.os.map fun c => PyData.tuple (c.map PyData.int))) := fun e => .lst (sq_of (e _ _ (lx _ _ hpo))) (ord_dp (paired_imp (fun x c r => ordIs_loc r fun a o h _ => e _ _ (lx _ _ h)) hos))
    refine tp_or (tp_cmp (ev_opLL (p_num xa ok (ev_var rfl)) (p_num xb ok (ev_var rfl)) fun p q H2 e h1 h2 => rd_neSame (dp_ints (sq_of h1)) (dp_ints (sq_of h2)) (shp_listI _) (by decide))) fun _ => tp_or (tp_cmp (ev_opL v1 (ev_var rfl) fun p H2 e hp => ?_)) fun _ => tp_cmp (ev_opL v2 (ev_var rfl) fun p H2 e hp => ?_)
    · exact rd_neSame (.lst (sq_of hp) (ord_dp (paired_imp (fun x c r => ordIs_loc r fun a o h _ => e _ _ h) p1))) (oH e) (shp_ords s.os) (by decide)
    · exact rd_neSame (.lst (sq_of hp) (ord_dp (paired_imp (fun x c r => ordIs_loc r fun a o h _ => e _ _ h) p2))) (oH e) (shp_ords s.os) (by decide)
  -- rows
  refine vw_forLNR (xs := (s.rows.map (·.1)).map V.int) RQ (fun H w => ?_) (fun a' i σ' T' L' => ∃ y4 : Option V, σ' = [some (.ref a), some (.ref b), some (.ref pw), some (.ref po), y4, none, none] ∧ T' = Two (Two ((tabS CK cls noW).at_ a s) ((tabS CK cls noW).at_ b s)) (TblR PT qn) ∧ Ex L0 L' ∧ SqL K L' a' ((s.rows.map (·.1)).map V.int))
    (fun a' L' _ e h => ⟨_, rfl, rfl, e, sq_of h⟩) (fun a' i σ' T' L' h => by obtain ⟨_, _, _, _, h⟩ := h; exact h) ?_ ?_
  · obtain ⟨_, xa⟩ := atA w
    exact p_num xa ok (ev_var rfl)
  · rintro a' i x σ' T' L' hx ⟨y4, rfl, rfl, e, hq⟩
    obtain ⟨n, hn, rfl⟩ := int_at hx
    obtain ⟨row, hrow⟩ := rowOf_mem (List.mem_of_getElem? hn)
    refine vw_ifR' (p := False) RQ (fun H w => ?_) (fun h => h.elim) (fun _ => vw_kn ⟨_, rfl, rfl, e, hq⟩)
    obtain ⟨_, xa⟩ := atA w
    obtain ⟨_, xb⟩ := atB w
    obtain ⟨q1, h1, r1⟩ := p_row xa hrow
    obtain ⟨q2, h2, r2⟩ := p_row xb hrow
    exact tp_cmp (ev_op (r1 (Ex.refl _) (ev_var rfl) (ev_var rfl)) (r2 (Ex.refl _) (ev_var rfl) (ev_var rfl)) (rd_neSame (dp_intsT (st_of h1)) (dp_intsT (st_of h2)) (shp_tupI row) (by decide)))
  rintro a' σ' T' L1 ⟨y4, rfl, rfl, e1, _⟩
  -- listed, walked
  have lst : ∀ {F0 B : Reg} {L : Hp} {q1 : Addr} {c : List Int}, L q1 = some (.tup (c.map V.int)) → c ∈ s.os → SpWP (SpW 2 (RTListed (tabS CK cls noW))) [.ref a, .ref q1] (Two (Two ((tabS CK cls noW).at_ a s) ((tabS CK cls noW).at_ b s)) (TblR PT qn)) (Two (Two ((tabS CK cls noW).at_ a s) ((tabS CK cls noW).at_ b s)) (TblR PT qn)) F0 B L fun v N => ∃ (p : Addr) (ns : List Int), v = .ref p ∧ N p = some (.lst (ns.map V.int)) ∧ InOrd ahead c s.rows ns := fun {F0 B L q1 c} h1 h2 =>
    spw_imp (fun F H t => two_assoc t) (fun F H t => two_assoc' t) (spw_l (RA _ _) ((RA _ _).two RB) rfl fun H' F' tt e dj => ⟨a, q1, s, c, rfl, tt, ok, e _ _ h1, h2, rfl, rfl⟩)
  have lstB : ∀ {F0 B : Reg} {L : Hp} {q1 : Addr} {c : List Int}, L q1 = some (.tup (c.map V.int)) → c ∈ s.os → SpWP (SpW 2 (RTListed (tabS CK cls noW))) [.ref b, .ref q1] (Two (Two ((tabS CK cls noW).at_ a s) ((tabS CK cls noW).at_ b s)) (TblR PT qn)) (Two (Two ((tabS CK cls noW).at_ a s) ((tabS CK cls noW).at_ b s)) (TblR PT qn)) F0 B L fun v N => ∃ (p : Addr) (ns : List Int), v = .ref p ∧ N p = some (.lst (ns.map V.int)) ∧ InOrd ahead c s.rows ns := fun {F0 B L q1 c} h1 h2 =>
    spw_imp (fun F H t => gB t) (fun F H t => gB' t) (spw_l (RA _ _) ((RA _ _).two RB) rfl fun H' F' tt e dj => ⟨b, q1, s, c, rfl, tt, ok, e _ _ h1, h2, rfl, rfl⟩)
  refine vw_forL (a := po) (xs := xs) RQ (ev_var rfl) (sq_of (e1 _ _ hpo)) (fun i σ' T' L' => ∃ y5 : Option V, σ' = [some (.ref a), some (.ref b), some (.ref pw), some (.ref po), y4, y5, none] ∧ T' = Two (Two ((tabS CK cls noW).at_ a s) ((tabS CK cls noW).at_ b s)) (TblR PT qn) ∧ Ex L0 L') ⟨_, rfl, rfl, e1⟩ (fun i σ' T' L' h => by obtain ⟨_, _, _, h⟩ := h; exact sq_of (h _ _ hpo)) ?_ ?_
  · rintro i x σ' T' L' hx ⟨y5, rfl, rfl, e⟩
    obtain ⟨c, hc, q1, rfl, hq1⟩ := paired_getL hos hx
    have hcm := List.mem_of_getElem? hc
    have hqL := e _ _ hq1
    refine vw_ifW' (T' := Two (Two ((tabS CK cls noW).at_ a s) ((tabS CK cls noW).at_ b s)) (TblR PT qn)) (b := false) (etw_or (T' := Two (Two ((tabS CK cls noW).at_ a s) ((tabS CK cls noW).at_ b s)) (TblR PT qn)) (b1 := false) (etw_test (ew_op2W (z := .bl (decide False)) RQ (ew_mt RQ (ev_var rfl) (fun H w => insA "listed" (by decide) w) (vs := [.ref q1]) (by repeat' walk_at "s") (lst hqL hcm)) (fun N d => ew_mt RQ (ev_var rfl) (fun H w => insB "listed" (by decide) w) (vs := [.ref q1]) (by repeat' walk_at "s") (lstB (unn_r _ _ hqL) hcm)) ?_)) rfl fun N d => et_at RQ fun H w => ?_) (fun N d e => nomatch e) (fun N5 d5 _ => vw_kn ⟨_, rfl, rfl, e.trans unn_r⟩)
    · rintro x N y N' H' ⟨p, ns, rfl, hp, h1⟩ ⟨p2, ms, rfl, hp2, h2⟩ eN eN' w'
      obtain rfl := inord_one nd h1 h2
      exact rd_neSame (dp_ints (sq_of (eN _ _ hp))) (dp_ints (sq_of (eN' _ _ hp2))) (shp_listI _) (by decide)
    · have lx := (e.trans unn_r).trans w.lx
      obtain ⟨_, xa⟩ := atA w
      obtain ⟨_, xb⟩ := atB w
      refine et_b (b := decide False) (tp_cmp (ev_opNN (p_walk xa ok (ex_l lx hpw) (hW.mono lx) lt htc (lx _ _ hq1) hcm (ev_var rfl) (ev_var rfl) (ev_var rfl)) (p_walk xb ok (ex_l lx hpw) (hW.mono lx) lt htc (lx _ _ hq1) hcm (ev_var rfl) (ev_var rfl) (ev_var rfl)) ?_)) rfl
      rintro x y N N' H2 e2 ⟨p, ns, rfl, hp, h1, h1'⟩ ⟨p2, ms, rfl, hp2, h2, h2'⟩ eN eN'
      obtain rfl := asc_one h1 h2 fun n => (h1' n).trans (h2' n).symm
      exact rd_neSame (dp_ints (sq_of (eN _ _ hp))) (dp_ints (sq_of (eN' _ _ hp2))) (shp_listI _) (by decide)
  rintro σ' T' L2a ⟨y5, rfl, rfl, e2⟩
  have hpw2 := ex_l e2 hpw
  have hW2 := hW.mono e2
  have plan : ∀ {F0 B : Reg} {L : Hp}, Ex L2a L → SpWMP (SpWM 2 (RPlanS (tabS CK cls noW) PT qn)) [.ref a, .ref pw] (Two (Two ((tabS CK cls noW).at_ a s) ((tabS CK cls noW).at_ b s)) (TblR PT qn)) (Two (Two ((tabS CK cls noW).at_ a s) ((tabS CK cls noW).at_ b s)) (TblR PT qn)) F0 B L fun v _ M => ∃ (q1 : Addr) (x : V) (n : Int) (i : Nat) (w : Option (List Int)), v = .ref q1 ∧ M q1 = some (.tup [x, .int n]) ∧ (waysM s ts)[i]? = some (w, n) ∧ FirstLeast ((waysM s ts).map (·.2)) i ∧ WayIs M x w := fun {F0 B L} eL =>
    spwm_imp (fun F H t => fTB t) (fun F H t => fTB' t) (spwm_l ((RA _ _).two RB) (RA _ _) ((RA _ _).two RB) rfl fun H' F' tt e dj => ⟨a, pw, s, ws, ts, rfl, tt, ok, ex_l (eL.trans e) hpw2, hW2.mono (eL.trans e), lt, htc, rfl, rfl⟩)
  have planB : ∀ {F0 B : Reg} {L : Hp}, Ex L2a L → SpWMP (SpWM 2 (RPlanS (tabS CK cls noW) PT qn)) [.ref b, .ref pw] (Two (Two ((tabS CK cls noW).at_ a s) ((tabS CK cls noW).at_ b s)) (TblR PT qn)) (Two (Two ((tabS CK cls noW).at_ a s) ((tabS CK cls noW).at_ b s)) (TblR PT qn)) F0 B L fun v _ M => ∃ (q1 : Addr) (x : V) (n : Int) (i : Nat) (w : Option (List Int)), v = .ref q1 ∧ M q1 = some (.tup [x, .int n]) ∧ (waysM s ts)[i]? = some (w, n) ∧ FirstLeast ((waysM s ts).map (·.2)) i ∧ WayIs M x w := fun {F0 B L} eL =>
    spwm_imp (fun F H t => gBD t) (fun F H t => gBD' t) (spwm_l ((RA _ _).two RB) (RA _ _) ((RA _ _).two RB) rfl fun H' F' tt e dj => ⟨b, pw, s, ws, ts, rfl, tt, ok, ex_l (eL.trans e) hpw2, hW2.mono (eL.trans e), lt, htc, rfl, rfl⟩)
  have ask : ∀ {F0 B : Reg} {L : Hp}, Ex L2a L → SpWP (SpW 2 (RAskS (tabS CK cls noW) PT qn)) [.ref a, .ref pw] (Two (Two ((tabS CK cls noW).at_ a s) ((tabS CK cls noW).at_ b s)) (TblR PT qn)) (Two (Two ((tabS CK cls noW).at_ a s) ((tabS CK cls noW).at_ b s)) (TblR PT qn)) F0 B L fun v N => ∃ p : Addr, v = .ref p ∧ N p = some (.lst ((dueA s.rows ts).map V.int)) := fun {F0 B L} eL =>
    spw_imp (fun F H t => fTB t) (fun F H t => fTB' t) (spw_l ((RA _ _).two RB) (RA _ _) rfl fun H' F' tt e dj => ⟨a, pw, s, ts, rfl, tt, ok, ⟨L, ws, e, dj, ex_l eL hpw2, hW2.mono eL, lt, htc⟩, rfl, rfl⟩)
  have askB : ∀ {F0 B : Reg} {L : Hp}, Ex L2a L → SpWP (SpW 2 (RAskS (tabS CK cls noW) PT qn)) [.ref b, .ref pw] (Two (Two ((tabS CK cls noW).at_ a s) ((tabS CK cls noW).at_ b s)) (TblR PT qn)) (Two (Two ((tabS CK cls noW).at_ a s) ((tabS CK cls noW).at_ b s)) (TblR PT qn)) F0 B L fun v N => ∃ p : Addr, v = .ref p ∧ N p = some (.lst ((dueA s.rows ts).map V.int)) := fun {F0 B L} eL =>
    spw_imp (fun F H t => gBD t) (fun F H t => gBD' t) (spw_l ((RA _ _).two RB) (RA _ _) rfl fun H' F' tt e dj => ⟨b, pw, s, ts, rfl, tt, ok, ⟨L, ws, e, dj, ex_l eL hpw2, hW2.mono eL, lt, htc⟩, rfl, rfl⟩)
  refine vw_asgWv (v := .bl true) RQ (ew_and' (T' := Two (Two ((tabS CK cls noW).at_ a s) ((tabS CK cls noW).at_ b s)) (TblR PT qn)) (ew_at (v := .bl (decide True)) RQ fun H w => ?_) fun N d => ew_op2M (z := .bl (decide True)) RQ (ew_mtM RQ (ev_var rfl) (fun H w => insA "plan" (by decide) w) (vs := [.ref pw]) (by repeat' walk_at "s") (plan unn_r)) (fun L' e => ew_mtM RQ (ev_var rfl) (fun H w => insB "plan" (by decide) w) (vs := [.ref pw]) (by repeat' walk_at "s") (planB (unn_r.trans e))) ?_) fun N3 => ?_
  · have lx := w.lx
    obtain ⟨_, xa⟩ := atA w
    obtain ⟨_, xb⟩ := atB w
    refine ev_opNN (p_costs xa ok (ex_l lx hpw2) (hW2.mono lx) lt htc (ev_var rfl) (ev_var rfl)) (p_costs xb ok (ex_l lx hpw2) (hW2.mono lx) lt htc (ev_var rfl) (ev_var rfl)) ?_
    rintro x y N N' H2 e ⟨p, qs, rfl, hp, h1⟩ ⟨p2, qs2, rfl, hp2, h2⟩ eN eN'
    exact rd_eqSame (.lst (sq_of (eN _ _ hp)) (dp_pairs (h1 H2 eN e))) (.lst (sq_of (eN' _ _ hp2)) (dp_pairs (h2 H2 eN' e))) (shp_pairs _) (by decide)
  · rintro x N M y N' M' H' ⟨q1, x1, n1, i1, w1, rfl, a1, b1, c1, d1⟩ ⟨q2, x2, n2, i2, w2, rfl, a2, b2, c2, d2⟩ eN eM eN' eM'
    have h1 : i1 < ((waysM s ts).map (·.2)).length := by
      rw [List.length_map]
      exact (List.getElem?_eq_some_iff.mp b1).1
    have h2 : i2 < ((waysM s ts).map (·.2)).length := by
      rw [List.length_map]
      exact (List.getElem?_eq_some_iff.mp b2).1
    obtain rfl := firstLeast_one h1 h2 c1 c2
    rw [b1] at b2
    injection b2 with b2
    injection b2 with b3 b4
    subst b3
    subst b4
    exact rd_eqSame (dp_pair (wn := (w1, n1)) ⟨x1, eM _ _ a1, d1.keep fun a o h _ => eM _ _ h⟩) (dp_pair (wn := (w1, n1)) ⟨x2, eM' _ _ a2, d2.keep fun a o h _ => eM' _ _ h⟩) (shp_pair _) (by decide)
  refine vw_retW (ew_and' (v := .bl (decide True)) (T' := Two (Two ((tabS CK cls noW).at_ a s) ((tabS CK cls noW).at_ b s)) (TblR PT qn)) (ew_of RQ (ev_var rfl)) fun N d => ew_op2W (z := .bl (decide True)) RQ (ew_mt RQ (ev_var rfl) (fun H w => insA "ask" (by decide) w) (vs := [.ref pw]) (by repeat' walk_at "s") (ask (unn_r.trans unn_r))) (fun N' d => ew_mt RQ (ev_var rfl) (fun H w => insB "ask" (by decide) w) (vs := [.ref pw]) (by repeat' walk_at "s") (askB ((unn_r.trans unn_r).trans unn_r))) ?_) ?_
  · rintro x N y N' H' ⟨p, rfl, hp⟩ ⟨p2, rfl, hp2⟩ eN eN' w'
    exact rd_eqSame (dp_ints (sq_of (eN _ _ hp))) (dp_ints (sq_of (eN' _ _ hp2))) (shp_listI _) (by decide)
  · rintro v N9 H' d9 rfl w'
    exact close_1 (P := fun v _ => v = .bl true) RQ tt q w' ((kp0.trans e2).trans (unn_r.trans unn_r)) rfl

/-! ### the law -/
def spLawP (K : PySem.W.Frag) (PT : Addr) : Sp := fun vs H Q _ => ∃ (a : Addr) (ns : List Int), vs = [.ref a] ∧ SqL K H a (ns.map V.int) ∧ ns.length ≤ 63 ∧ (∀ z ∈ ns, Bits 1048576 z) ∧ H PT = some (.tbl #[]) ∧ ∀ H', Q (.bl true) H'
theorem sql_out {PT a : Addr} {H : Hp} {xs : List V} (hP : H PT = some (.tbl #[])) (h : SqL K H a xs) : SqL K (Out (fun a => a = PT) H) a xs := by
  rcases h with (h | ⟨o, h⟩) | h
  · refine .inl (.inl ?_)
    rw [out_at (F := fun a => a = PT) (fun z : a = PT => by rw [z, hP] at h; cases h)]
    exact h
  · refine .inl (.inr ⟨o, ?_⟩)
    rw [out_at (F := fun a => a = PT) (fun z : a = PT => by rw [z, hP] at h; cases h)]
    exact h
  · exact .inr h
theorem cell_bits {ns : List Int} (h : ∀ z ∈ ns, Bits 1048576 z) (k : Int) : Bits 1048576 (cell ns k) := by
  unfold cell
  split
  · rw [List.getD_eq_getElem?_getD]
    cases e : ns[k.toNat]? with
    | none => exact Bits.zero
    | some z => exact h z (List.mem_of_getElem? e)
  · exact Bits.zero
theorem cut_mem {xs : List V} {lo hi : Option Int} {x : V} (h : x ∈ cutV xs lo hi) : x ∈ xs := by
  unfold cutV at h
  exact List.mem_of_mem_drop (List.mem_of_mem_take h)
theorem cut_len {xs : List V} {lo hi : Option Int} : (cutV xs lo hi).length ≤ xs.length := by
  unfold cutV
  rw [List.length_take, List.length_drop]
  omega
def PU (S : TSp K) (PT : Addr) (qn : Str) (a b c : Addr) (wd : Nat) (oa ob : List (List Int)) : RP := fun F H => ∃ s : TabS, ((st s oa).Ok ∧ (st s ob).Ok ∧ s.wd = wd) ∧ Two (PairT S a b s oa ob) (Two (S.at_ c ⟨wd, [], 0, []⟩) (TblR PT qn)) F H
theorem pU_regn {S : TSp K} (PT : Addr) (qn : Str) (a b c : Addr) (wd : Nat) (oa ob : List (List Int)) : Regn (PU S PT qn a b c wd oa ob) := regn_ex fun s => regn_and ((pairT_regn _ _ _ _ _).two ((S.regn _ _).two (tblR_regn _ _)))
theorem take_fresh {α : Type} {l : List α} {i : Nat} {x : α} (nd : l.Nodup) (h : l[i]? = some x) : x ∉ l.take i := fun hx => by
  have g : (l.take (i + 1)).Nodup := nd.sublist (List.take_sublist _ _)
  rw [take_snoc h] at g
  exact (List.nodup_append.mp g).2.2 x hx x (List.mem_singleton.mpr rfl) rfl
theorem ok_law13 {PT : Addr} {qn : Str} {f : Addr} {fd : FuncData} (F : Fun K "law" "law" s_law f fd) (Z : Zs mg) (c_l_at : Cl P w K mg base CX0 1 "_law_at" (SpR 2 (RAt K))) (c_l_order : Cl P w K mg base CX0 1 "_law_order" (SpNn 2 ROrder)) (c_l_orders : Cl P w K mg base CX0 2 "_law_orders" (SpNn 2 (ROrdsL K))) (c_l_triple : Cl P w K mg base CX0 2 "_law_triple" (SpNn 3 (RTripleW K)))
    (c_Table : Mc P w K mg base CX0 7 "Table" C (spTInit (tabS CK cls noW))) (c_tell : Mt P w K mg base CX0 6 C "tell" (SpW 2 (RTTell (tabS CK cls noW)))) (c_forget : Mt P w K mg base CX0 6 C "forget" (SpW 2 (RTForget (tabS CK cls noW)))) (c_put : Mt P w K mg base CX0 6 C "put" (SpW 2 (RTPut (tabS CK cls noW)))) (c_numbers : Mt P w K mg base CX0 1 C "numbers" (SpN 1 (RNumT C))) (c_orders : Mt P w K mg base CX0 1 C "orders" (SpN 1 (ROrdT C CK)))
    (c_row : Mt P w K mg base CX0 2 C "row" (SpR 2 (RRowT C))) (c_costs : Mt P w K mg base CX0 6 C "costs" (SpNn 2 (RCosts K C CK))) (c_ask : Mt P w K mg base CX0 8 C "ask" (SpW 2 (RAskS (tabS CK cls noW) PT qn))) (c_l_deed : Cl P w K mg base CX0 7 "_law_deed" (SpW 4 (RDeed13 (tabS CK cls noW)))) (c_l_same : Cl P w K mg base CX0 9 "_law_same" (SpW 4 (RSame13 (tabS CK cls noW) PT qn))) :
    FnOk P w K mg base CX0 10 f fd ["_law_script"] (spLawP K PT) := by
  refine F.ok sc_law (fun vs H Q E h => by obtain ⟨a, ns, rfl, _⟩ := h; rfl) (fun cdv A outer s0 H vs Q E hr h => ?_)
  obtain ⟨a, ns, rfl, hS, hn, hb, hPT, q⟩ := h
  refine ⟨_, (pss_cons (ps_set (i := 1) sc_law.nd rfl (Or.inr rfl) (pe_op op_add pe_int (pe_op op_mod (pe_cl c_l_at hr (by decide) pass0 (by rfl) (pa_cons (pv 0) (pa_cons pe_int pa_nil))) pe_int)))
      (pss_cons (ps_set (i := 2) sc_law.nd rfl (Or.inl rfl) (pe_cl c_l_orders hr (by decide) pass0 (by rfl) (pa_cons (pv 0) (pa_cons (pv 1) pa_nil))))
      (pss_cons (ps_set (i := 3) sc_law.nd rfl (Or.inr rfl) (pe_k c_Table hr (by decide) pass0 (by rfl) (pa_cons (pv 1) pa_nil)))
      (pss_cons (ps_set (i := 4) sc_law.nd rfl (Or.inl rfl) (pe_k c_Table hr (by decide) pass0 (by rfl) (pa_cons (pv 1) pa_nil)))
      (pss_cons (ps_set (i := 5) sc_law.nd rfl (Or.inl rfl) (pe_k c_Table hr (by decide) pass0 (by rfl) (pa_cons (pv 1) pa_nil)))
      (pss_cons (ps_set (i := 6) sc_law.nd rfl (Or.inl rfl) (pe_cl c_l_order hr (by decide) pass0 (by rfl) (pa_cons (pe_op op_fdiv (pe_cl c_l_at hr (by decide) pass0 (by rfl) (pa_cons (pv 0) (pa_cons pe_int pa_nil))) pe_int) (pa_cons (pv 1) pa_nil))))
      (pss_cons (ps_for PassesOwn.never rfl (pi_list (pv 2)) (pg_name (i := 7) sc_law.nd rfl (Or.inl rfl)) (pss_one (ps_expr (pe_m c_tell hr (by decide) pass0 (pv 3) (pa_cons (pv 7) pa_nil)))))
      (pss_cut (ps_if (pt_cmpR (op_notInD (units65 hr)) (pv 6) (pv 2) (by rfl)) (pss_one (ps_expr (pe_m c_tell hr (by decide) pass0 (pv 3) (pa_cons (pv 6) pa_nil)))) pss_nil)
      (pss_cons (ps_set (i := 8) sc_law.nd rfl (Or.inl rfl) (pe_slice (r := rSlL K) sl_list (pv 0) (po_some pe_int) po_none))
      (pss_cut (ps_if (pt_cmpR op_eq (pe_op op_mod (pe_op op_fdiv (pe_cl c_l_at hr (by decide) pass0 (by rfl) (pa_cons (pv 0) (pa_cons pe_int pa_nil))) pe_int) pe_int) pe_int (nomark _)) (pss_one (ps_set (i := 8) sc_law.nd rfl (Or.inl rfl) (pe_op op_cat (pe_lc (own := [("_law_k", 13)]) (g := gName 13) (tt := tYes) (by rfl) sc_law.nd (pi_range1 (by rfl) Z.range (pa_cons (pe_op op_add pe_int (pe_op op_mod (pe_cl c_l_at hr (by decide) pass0 (by rfl) (pa_cons (pv 0) (pa_cons pe_int pa_nil))) pe_int)) pa_nil)) (blkOk_by (own := [("_law_k", 13)]) (N := ["_law_script", "_law_width", "_law_orders_here", "_law_one", "_law_other", "_law_third", "_law_extra", "_law_order_here", "_law_deeds", "_law_cut", "_law_deed_here", "_law_rows", "_law_wish", "_law_k", "_law_number"]) (sc := defScope s_law) (by decide +kernel)) (fun _ _ _ _ _ => (pg_name (i := 13) sc_law.nd rfl (Or.inl rfl))) (fun _ _ _ _ _ => pts_nil) (fun _ _ _ _ _ => (pe_op op_mul pe_int (pe_op op_add (pe_cl c_l_at hr (by decide) pass0 (by rfl) (pa_cons (pv 0) (pa_cons pe_int pa_nil))) (pe_op op_mul pe_int (pv 13)))))) (pv 8)))) pss_nil)
      (pss_cons (ps_set (i := 9) sc_law.nd rfl (Or.inl rfl) (pe_op op_mod (pe_cl c_l_at hr (by decide) pass0 (by rfl) (pa_cons (pv 0) (pa_cons pe_int pa_nil))) (pe_op op_add (pe_callB (id := "len") (r := rLenS K) c_len (by rfl) Z.len PySem.boot_len (pa_cons (pv 8) pa_nil)) pe_int)))
      (pss_cons (ps_for PassesOwn.never rfl (pi_list (pe_slice (r := rSlL K) sl_list (pv 8) po_none (po_some (pv 9)))) (pg_name (i := 10) sc_law.nd rfl (Or.inl rfl)) (pss_one (ps_expr (pe_cl c_l_deed hr (by decide) pass0 (by rfl) (pa_cons (pv 3) (pa_cons (pv 4) (pa_cons (pv 10) (pa_cons (pv 1) pa_nil))))))))
      (pss_cons (ps_for PassesOwn.never rfl (pi_list (pv 2)) (pg_name (i := 7) sc_law.nd rfl (Or.inl rfl)) (pss_one (ps_expr (pe_m c_tell hr (by decide) pass0 (pv 4) (pa_cons (pv 7) pa_nil)))))
      (pss_cons (ps_for PassesOwn.never rfl (pi_list (pe_slice (r := rSlL K) sl_list (pv 8) (po_some (pv 9)) po_none)) (pg_name (i := 10) sc_law.nd rfl (Or.inl rfl)) (pss_one (ps_expr (pe_cl c_l_deed hr (by decide) pass0 (by rfl) (pa_cons (pv 3) (pa_cons (pv 4) (pa_cons (pv 10) (pa_cons (pv 1) pa_nil))))))))
      (pss_cut (ps_if (pt_cmpR (op_notInD (units65 hr)) (pv 6) (pv 2) (by rfl)) (pss_one (ps_expr (pe_m c_forget hr (by decide) pass0 (pv 3) (pa_cons (pv 6) pa_nil)))) pss_nil)
      (pss_cons (ps_set (i := 11) sc_law.nd rfl (Or.inr rfl) (pe_lc (own := [("_law_number", 14)]) (g := gName 14) (tt := tYes) (by rfl) sc_law.nd (pi_list (pe_m0 c_numbers hr (by decide) pass0 (pv 3))) (blkOk_by (own := [("_law_number", 14)]) (N := ["_law_script", "_law_width", "_law_orders_here", "_law_one", "_law_other", "_law_third", "_law_extra", "_law_order_here", "_law_deeds", "_law_cut", "_law_deed_here", "_law_rows", "_law_wish", "_law_k", "_law_number"]) (sc := defScope s_law) (by decide +kernel)) (fun _ _ _ _ _ => (pg_name (i := 14) sc_law.nd rfl (Or.inl rfl))) (fun _ _ _ _ _ => pts_nil) (fun _ _ _ _ _ => (pe_m c_row hr (by decide) pass0 (pv 3) (pa_cons (pv 14) pa_nil)))))
      (pss_cons (ps_setLc (i := 12) rfl sc_law.nd rfl rfl (sw_true rfl rfl rfl (by decide +kernel)) (pi_range1 (by rfl) Z.range (pa_cons (pe_op op_mod (pe_op op_fdiv (pe_cl c_l_at hr (by decide) pass0 (by rfl) (pa_cons (pv 0) (pa_cons pe_int pa_nil))) pe_int) pe_int) pa_nil)) (blkOk_by (own := [("_law_k", 13)]) (N := ["_law_script", "_law_width", "_law_orders_here", "_law_one", "_law_other", "_law_third", "_law_extra", "_law_order_here", "_law_deeds", "_law_cut", "_law_deed_here", "_law_rows", "_law_wish", "_law_k", "_law_number"]) (sc := defScope s_law) (by decide +kernel)) (fun _ _ _ _ _ => (pg_name (i := 13) sc_law.nd rfl (Or.inl rfl))) (fun _ _ _ _ _ => pts_nil) (fun _ _ _ _ _ => (pe_cl c_l_triple hr (by decide) pass0 (by rfl) (pa_cons (pe_cl c_l_at hr (by decide) pass0 (by rfl) (pa_cons (pv 0) (pa_cons (pe_op op_add pe_int (pv 13)) pa_nil))) (pa_cons (pv 1) (pa_cons (pv 11) pa_nil))))))
      (pss_cons (ps_if (PW.pt (pw_or (pt_cmpR (r := rNeD K) (op_neD hr.units) (pe_m0 c_numbers hr (by decide) pass0 (pv 5)) (pe_lst pa_nil) (nomark _)) (pw_or (pt_cmpR (r := rNeD K) (op_neD hr.units) (pe_m0 c_orders hr (by decide) pass0 (pv 5)) (pe_lst pa_nil) (nomark _)) (pw_or (pt_cmpR (r := rNeD K) (op_neD hr.units) (pe_m c_costs hr (by decide) pass0 (pv 5) (pa_cons (pv 12) pa_nil)) (pe_lst (pa_cons (pe_tup (pa_cons pe_non (pa_cons pe_int pa_nil))) pa_nil)) (nomark _)) (pw_or1 (pt_cmpR (r := rNeD K) (op_neD hr.units) (pe_m c_ask hr (by decide) pass0 (pv 5) (pa_cons (pv 12) pa_nil)) (pe_lst pa_nil) (nomark _))))))) (pss_one (ps_ret pe_bl)) pss_nil)
      (pss_one (ps_ret (pe_and (pe_cmpR op_eq (pe_m c_put hr (by decide) pass0 (pv 5) (pa_cons (pe_op op_rep (pe_lst (pa_cons pe_int pa_nil)) (pv 1)) pa_nil)) pe_int (nomark _)) (pe_one (pe_cl c_l_same hr (by decide) pass0 (by rfl) (pa_cons (pv 3) (pa_cons (pv 4) (pa_cons (pv 12) (pa_cons (pv 2) pa_nil))))))))))))))))))))))))))), ?_⟩
  try dsimp only [cx_K]
  have RA : ∀ (a : Addr) (s : TabS), Regn ((tabS CK cls noW).at_ a s) := fun a s => (tabS CK cls noW).regn a s
  have RB : Regn (TblR PT qn) := tblR_regn _ _
  refine (?_ : SvW _ _ _ (TblR PT qn) (fun a => a = PT) (fun _ => False) (Out (fun a => a = PT) H)) H (start_tbl hPT)
  have hS := sql_out hPT hS
  generalize Out (fun a => a = PT) H = L0 at hS
  refine vw_asg RB (v := .int (1 + cell ns 0 % 6)) (by repeat' walk_at "s") ?_
  obtain ⟨wd, ewd⟩ := Int.eq_ofNat_of_zero_le (show 0 ≤ 1 + cell ns 0 % 6 by omega)
  have w1 : 1 ≤ wd := by omega
  have w6 : wd ≤ 6 := by omega
  rw [ewd]
  refine vw_asgN RB (en_cl (vs := [.ref a, .int wd]) (by repeat' walk_at "s") (P := OrdsIs wd) (spn rfl fun H1 e => ⟨a, ns, wd, rfl, ex_l e hS, w1, w6, rfl⟩)) ?_
  rintro v N1 d1 ⟨po, xs, os, rfl, hpo, hos, good, lo3⟩
  have hN1 := unn_l (N := N1) (H := L0) fun a z => (d1 a z).1
  have hpo1 := hN1 _ _ hpo
  have hos1 : Paired (OrdIs (Unn N1 L0)) xs os := paired_imp (fun x c r => ordIs_loc r fun a o h _ => hN1 _ _ h) hos
  have e1 : Ex L0 (Unn N1 L0) := unn_r
  generalize Unn N1 L0 = L1 at hpo1 hos1 e1
  have hS1 := ex_l e1 hS
  have lx := paired_len hos1
  refine vw_makeT (S := tabS CK cls noW) RB (ea_cons (ev_var rfl) ea_nil) w1 w6 rfl fun x1 nx1 => ?_
  refine vw_makeT (S := tabS CK cls noW) (RB.two (RA _ _)) (ea_cons (ev_var rfl) ea_nil) w1 w6 rfl fun x2 nx2 => ?_
  refine vw_makeT (S := tabS CK cls noW) ((RB.two (RA _ _)).two (RA _ _)) (ea_cons (ev_var rfl) ea_nil) w1 w6 rfl fun x3 nx3 => ?_
  have ok0 : TabS.Ok ⟨wd, [], 0, []⟩ := TabS.Ok.empty w1 w6
  have RU : Regn (Two ((tabS CK cls noW).at_ x3 ⟨wd, [], 0, []⟩) (TblR PT qn)) := (RA _ _).two RB
  have RG : ∀ oa ob, Regn (PU (tabS CK cls noW) PT qn x1 x2 x3 wd oa ob) := fun oa ob => pU_regn _ _ _ _ _ _ _ _
  refine vw_imp (T' := PU (tabS CK cls noW) PT qn x1 x2 x3 wd (os.take 0) []) (fun F H t => ⟨⟨wd, [], 0, []⟩, ⟨ok0, ok0, rfl⟩, two_impr (fun F t => two_swap t) (two_assoc (two_imp (fun F t => two_swap (two_assoc t)) t))⟩) ?_
  refine vw_asgN (RG _ _) (en_cl (vs := [.int (cell ns 1 / 3), .int wd]) (by repeat' walk_at "s") (spn_order (by omega) (by omega))) ?_
  rintro v N2 d2 ⟨pe, rfl, hpe⟩
  have w1' : (1 : Int) ≤ wd := by omega
  have hol := order_len (c := cell ns 1 / 3) w1'
  have hoi := order_in (c := cell ns 1 / 3) w1'
  have hon := order_nodup (c := cell ns 1 / 3) w1'
  generalize orderM (cell ns 1 / 3) wd = extra at hpe hol hoi hon
  have hpe2 : (Unn N2 L1) pe = some (.tup (extra.map V.int)) := unn_l (fun a z => (d2 a z).1) _ _ hpe
  have hpo2 := (unn_r (N := N2)) _ _ hpo1
  have hos2 : Paired (OrdIs (Unn N2 L1)) xs os := paired_imp (fun x c r => ordIs_loc r fun a o h _ => unn_r _ _ h) hos1
  have e2 := e1.trans (unn_r (N := N2))
  generalize Unn N2 L1 = La at hpe2 hpo2 hos2 e2
  have hS2 := ex_l e2 hS
  have he0 : extra ≠ [] := fun z => by rw [z] at hol; exact Nat.lt_irrefl _ hol.1
  have he6 : extra.length ≤ 6 := by omega
  have tellA : ∀ {oa ob : List (List Int)} {σ' : L2.St} {L' : Hp} {D : Ends} {c : List Int} {q1 : Addr} {j : Nat}, σ'[3]? = some (some (.ref x1)) → σ'[j]? = some (some (.ref q1)) → L' q1 = some (.tup (c.map V.int)) → c ≠ [] → c.Nodup → (∀ x ∈ c, 0 ≤ x ∧ x < wd) → c.length ≤ 6 → c ∉ oa → oa.length < 8 → (∀ N, SvW tNext D σ' (PU (tabS CK cls noW) PT qn x1 x2 x3 wd (oa ++ [c]) ob) (fun a => a = PT) (fun _ => False) (Unn N L')) →
      SvW (tDrop (tMeth C "tell" (SpW 2 (RTTell (tabS CK cls noW))) [] E0 (tVar 3) (tCons (tVar j) tNil))) D σ' (PU (tabS CK cls noW) PT qn x1 x2 x3 wd oa ob) (fun a => a = PT) (fun _ => False) L' := fun {oa ob σ' L' D c q1 j} h3 hj hq c0 cn ci c6 hno l8 k => by
    refine vw_ex fun s => vw_and fun hs => ?_
    refine vw_drop' (ew_mt ((pairT_regn _ _ _ _ _).two RU) (ev_var h3) (fun H w => ?_) (vs := [.ref q1]) (ea_cons (ev_var hj) ea_nil) (spw_imp (fun F H t => two_assoc t) (fun F H t => two_assoc' t) (spw_l (T' := (tabS CK cls noW).at_ x1 (st s (oa ++ [c]))) (RA _ _) ((RA _ _).two RU) rfl fun H F tt e dj => ⟨x1, q1, st s oa, c, rfl, tt, hs.1, e _ _ hq, c0, cn, fun x hx => by show 0 ≤ x ∧ x < (s.wd : Int); rw [hs.2.2]; exact ci x hx, c6, hno, l8, rfl, rfl⟩))) ?_
    · obtain ⟨_, ⟨_, _, ⟨_, _, x, _⟩, _⟩, _⟩ := w
      obtain ⟨dx, fs, i1, _, i2⟩ := (tabS CK cls noW).ins x
      exact ⟨dx, fs, i1, i2 "tell" (by decide)⟩
    · rintro v N d _
      exact vw_imp (T' := PU (tabS CK cls noW) PT qn x1 x2 x3 wd (oa ++ [c]) ob) (fun F H t => ⟨s, ⟨hs.1.tell c0 cn (fun x hx => by show 0 ≤ x ∧ x < (s.wd : Int); rw [hs.2.2]; exact ci x hx) c6 hno l8, hs.2.1, hs.2.2⟩, t⟩) (k N)
  have tellB : ∀ {oa ob : List (List Int)} {σ' : L2.St} {L' : Hp} {D : Ends} {c : List Int} {q1 : Addr} {j : Nat}, σ'[4]? = some (some (.ref x2)) → σ'[j]? = some (some (.ref q1)) → L' q1 = some (.tup (c.map V.int)) → c ≠ [] → c.Nodup → (∀ x ∈ c, 0 ≤ x ∧ x < wd) → c.length ≤ 6 → c ∉ ob → ob.length < 8 → (∀ N, SvW tNext D σ' (PU (tabS CK cls noW) PT qn x1 x2 x3 wd oa (ob ++ [c])) (fun a => a = PT) (fun _ => False) (Unn N L')) →
      SvW (tDrop (tMeth C "tell" (SpW 2 (RTTell (tabS CK cls noW))) [] E0 (tVar 4) (tCons (tVar j) tNil))) D σ' (PU (tabS CK cls noW) PT qn x1 x2 x3 wd oa ob) (fun a => a = PT) (fun _ => False) L' := fun {oa ob σ' L' D c q1 j} h3 hj hq c0 cn ci c6 hno l8 k => by
    refine vw_ex fun s => vw_and fun hs => ?_
    refine vw_drop' (ew_mt ((pairT_regn _ _ _ _ _).two RU) (ev_var h3) (fun H w => ?_) (vs := [.ref q1]) (ea_cons (ev_var hj) ea_nil) (spw_imp (fun F H t => gB t) (fun F H t => gB' t) (spw_l (T' := (tabS CK cls noW).at_ x2 (st s (ob ++ [c]))) (RA _ _) ((RA _ _).two RU) rfl fun H F tt e dj => ⟨x2, q1, st s ob, c, rfl, tt, hs.2.1, e _ _ hq, c0, cn, fun x hx => by show 0 ≤ x ∧ x < (s.wd : Int); rw [hs.2.2]; exact ci x hx, c6, hno, l8, rfl, rfl⟩))) ?_
    · obtain ⟨_, ⟨_, _, ⟨_, _, _, x, _⟩, _⟩, _⟩ := w
      obtain ⟨dx, fs, i1, _, i2⟩ := (tabS CK cls noW).ins x
      exact ⟨dx, fs, i1, i2 "tell" (by decide)⟩
    · rintro v N d _
      exact vw_imp (T' := PU (tabS CK cls noW) PT qn x1 x2 x3 wd oa (ob ++ [c])) (fun F H t => ⟨s, ⟨hs.1, hs.2.1.tell c0 cn (fun x hx => by show 0 ≤ x ∧ x < (s.wd : Int); rw [hs.2.2]; exact ci x hx) c6 hno l8, hs.2.2⟩, t⟩) (k N)
  -- the first one is told the orders
  refine vw_forL (a := po) (xs := xs) (RG _ _) (ev_var rfl) (sq_of hpo2) (fun i σ' T' L' => ∃ y7 : Option V, σ' = [some (.ref a), some (.int wd), some (.ref po), some (.ref x1), some (.ref x2), some (.ref x3), some (.ref pe), y7, none, none, none, none, none, none, none] ∧ T' = PU (tabS CK cls noW) PT qn x1 x2 x3 wd (os.take i) [] ∧ Ex La L') ⟨_, rfl, rfl, Ex.refl _⟩ (fun i σ' T' L' h => by obtain ⟨_, _, _, h⟩ := h; exact sq_of (h _ _ hpo2)) ?_ ?_
  · rintro i x σ' T' L' hx ⟨y7, rfl, rfl, e⟩
    obtain ⟨c, hc, q1, rfl, hq1⟩ := paired_getL hos2 hx
    obtain ⟨c0, cn, ci, c6⟩ := good.oc c (List.mem_of_getElem? hc)
    refine tellA rfl rfl (e _ _ hq1) c0 cn ci c6 (take_fresh good.nd hc) (by rw [List.length_take]; omega) fun N => ?_
    rw [← take_snoc hc]
    exact vw_kn ⟨_, rfl, rfl, e.trans unn_r⟩
  rintro σ' T' Lb ⟨y7, rfl, rfl, eb⟩
  rw [lx, List.take_length]
  have hpeb := eb _ _ hpe2
  have hpob := eb _ _ hpo2
  have hosb : Paired (OrdIs Lb) xs os := paired_imp (fun x c r => ordIs_loc r fun a o h _ => eb _ _ h) hos2
  -- an order more
  obtain ⟨ex, hex⟩ : ∃ ex, ex = if extra ∈ os then [] else [extra] := ⟨_, rfl⟩
  refine vw_cut (fun σ' T' L' => σ' = [some (.ref a), some (.int wd), some (.ref po), some (.ref x1), some (.ref x2), some (.ref x3), some (.ref pe), y7, none, none, none, none, none, none, none] ∧ T' = PU (tabS CK cls noW) PT qn x1 x2 x3 wd (os ++ ex) [] ∧ Ex La L') ?_ ?_
  · refine vw_if' (p := ¬ extra ∈ os) (RG _ _) (tp_cmp (ev_op (ev_var rfl) (ev_var rfl) (rv_ninOrdL hpob hosb (st_of hpeb)))) (fun h => ?_) (fun h => ?_)
    · rw [hex, if_neg h]
      exact tellA rfl rfl hpeb he0 hon hoi he6 h (by omega) fun N => vw_kn ⟨rfl, rfl, eb.trans unn_r⟩
    · rw [hex, if_pos (Classical.not_not.mp h), List.append_nil]
      exact vw_kn ⟨rfl, rfl, eb⟩
  rintro σ' T' Lc ⟨rfl, rfl, ec⟩
  -- the deeds
  have hSc := ex_l (e2.trans ec) hS
  refine vw_asgN (RG _ _) (P := IsL (cutV (ns.map V.int) (some 8) none)) (EvL.n (el_sl (ev_var rfl) (eo_some ev_c) eo_none hSc)) ?_
  rintro v N4 d4 ⟨pd0, rfl, hpd0⟩
  have hpd4 : (Unn N4 Lc) pd0 = some (.lst (cutV (ns.map V.int) (some 8) none)) := unn_l (fun a z => (d4 a z).1) _ _ hpd0
  have e4 := ec.trans (unn_r (N := N4))
  generalize Unn N4 Lc = Ld at hpd4 e4
  have cbit : ∀ {lo hi : Option Int} {v : V}, v ∈ cutV (ns.map V.int) lo hi → ∃ c, v = .int c ∧ Bits 1048700 c := fun h => by
    obtain ⟨c, hc, e⟩ := List.mem_map.mp (cut_mem h)
    exact ⟨c, e.symm, (hb c hc).mono (by decide)⟩
  refine vw_cut (fun σ' T' L' => ∃ (pd : Addr) (ds : List V), σ' = [some (.ref a), some (.int wd), some (.ref po), some (.ref x1), some (.ref x2), some (.ref x3), some (.ref pe), y7, some (.ref pd), none, none, none, none, none, none] ∧ T' = PU (tabS CK cls noW) PT qn x1 x2 x3 wd (os ++ ex) [] ∧ Ex La L' ∧ L' pd = some (.lst ds) ∧ (∀ v ∈ ds, ∃ c, v = .int c ∧ Bits 1048700 c) ∧ ds.length ≤ 1000) ?_ ?_
  · have l63 : (cutV (ns.map V.int) (some 8) none).length ≤ 63 := Nat.le_trans cut_len (by rw [List.length_map]; exact hn)
    have hSd := ex_l (e2.trans e4) hS
    refine vw_if' (p := cell ns 0 / 6 % 4 = 1) (RG _ _) (by repeat' walk_at "s") (fun _ => ?_) (fun _ => vw_kn ⟨pd0, _, rfl, rfl, e4, hpd4, fun v hv => cbit hv, by omega⟩)
    refine vw_asgN' (RG _ _) (EvL.n (el_cat (EvL.l (el_lcI (n := 20 + cell ns 1 % 30) (fun i => 4 * (cell ns 1 + 7 * (i : Int))) ?_ (by omega) (fun _ => rfl) fun i hi => ?_)) (ev_l (ev_var rfl) hpd4) ?_)) ?_
    · refine ea_cons ?_ ea_nil
      show Ev _ _ _ (.int (20 + cell ns 1 % 30))
      repeat' walk_at "s"
    · repeat' walk_at "s"
    · rw [List.length_map, List.length_map, List.length_range]
      omega
    · rintro v N5 d5 ⟨pd, rfl, hpd⟩
      refine vw_kn ⟨pd, _, rfl, rfl, e4.trans unn_r, unn_l (fun a z => (d5 a z).1) _ _ hpd, fun v hv => ?_, ?_⟩
      · rcases List.mem_append.mp hv with h | h
        · obtain ⟨c, hc, rfl⟩ := List.mem_map.mp h
          obtain ⟨i, hi, rfl⟩ := List.mem_map.mp hc
          have hi := List.mem_range.mp hi
          refine ⟨_, rfl, ?_⟩
          have x1 : Bits 14 (((7 * i : Nat)) : Int) := Bits.nat (by
            have e : (2 : Nat) ^ 14 = 16384 := by decide
            rw [e]
            omega)
          rw [Int.natCast_mul] at x1
          exact (((Bits.nat (n := 3) (k := 4) (by decide)).mul (((cell_bits hb 1).add (x1.mono (by decide))))).mono (by decide))
        · exact cbit h
      · rw [List.length_append, List.length_map, List.length_map, List.length_range]
        omega
  rintro σ' T' Le ⟨pd, ds, rfl, rfl, ee, hpd, hds, ld⟩
  have hSe := ex_l (e2.trans ee) hS
  have sqd : SqL K Le pd ds := sq_of hpd
  have cutb : 0 < (ds.length : Int) + 1 := by omega
  refine vw_asg (RG _ _) (v := .int (cell ns 1 % ((ds.length : Int) + 1))) (ev_op (by repeat' walk_at "s") (ev_op (ev_lenL (ev_var rfl) sqd) ev_c rv_I0) (rv_mod cutb)) ?_
  generalize cell ns 1 % ((ds.length : Int) + 1) = cut
  have deed : ∀ {oa ob : List (List Int)} {σ' : L2.St} {L' : Hp} {D : Ends} {c : Int}, σ'[3]? = some (some (.ref x1)) → σ'[4]? = some (some (.ref x2)) → σ'[10]? = some (some (.int c)) → σ'[1]? = some (some (.int wd)) → Bits 1048700 c → (∀ N, SvW tNext D σ' (PU (tabS CK cls noW) PT qn x1 x2 x3 wd oa ob) (fun a => a = PT) (fun _ => False) (Unn N L')) →
      SvW (tDrop (tCall (SpW 4 (RDeed13 (tabS CK cls noW))) [] E0 (tCons (tVar 3) (tCons (tVar 4) (tCons (tVar 10) (tCons (tVar 1) tNil)))))) D σ' (PU (tabS CK cls noW) PT qn x1 x2 x3 wd oa ob) (fun a => a = PT) (fun _ => False) L' := fun {oa ob σ' L' D c} h3 h4 h10 h1 hc k => by
    refine vw_ex fun s => vw_and fun hs => ?_
    refine vw_drop' (ew_cl ((pairT_regn _ _ _ _ _).two RU) (vs := [.ref x1, .ref x2, .int c, .int wd]) (ea_cons (ev_var h3) (ea_cons (ev_var h4) (ea_cons (ev_var h10) (ea_cons (ev_var h1) ea_nil)))) (spw_l (T' := PairE (tabS CK cls noW) x1 x2 wd oa ob) (pairT_regn _ _ _ _ _) RU rfl fun H F tt e dj => ⟨x1, x2, s, oa, ob, c, by rw [hs.2.2], tt, hs.1, hs.2.1, hc, by rw [hs.2.2], rfl⟩)) ?_
    rintro v N d _
    exact vw_imp (T' := PU (tabS CK cls noW) PT qn x1 x2 x3 wd oa ob) (fun F H ⟨F1, F2, ⟨s', h, t⟩, t2, dd, f⟩ => ⟨s', h, F1, F2, t, t2, dd, f⟩) (k N)
  have dbit : ∀ {lo hi : Option Int} {i : Nat} {v : V}, (cutV ds lo hi)[i]? = some v → ∃ c, v = .int c ∧ Bits 1048700 c := fun h => hds _ (cut_mem (List.mem_of_getElem? h))
  refine vw_forLN (RG _ _) (el_sl (ev_var rfl) eo_none (eo_some (ev_var rfl)) sqd) (fun a' i σ' T' L' => ∃ y10, σ' = [some (.ref a), some (.int wd), some (.ref po), some (.ref x1), some (.ref x2), some (.ref x3), some (.ref pe), y7, some (.ref pd), some (.int cut), y10, none, none, none, none] ∧ T' = PU (tabS CK cls noW) PT qn x1 x2 x3 wd (os ++ ex) [] ∧ Ex Le L' ∧ SqL K L' a' (cutV ds none (some cut)))
    (fun a' L' _ e h => ⟨_, rfl, rfl, e, sq_of h⟩) (fun a' i σ' T' L' h => by obtain ⟨_, _, _, _, h⟩ := h; exact h) ?_ ?_
  · rintro a' i v σ' T' L' hv ⟨y10, rfl, rfl, e, hq⟩
    obtain ⟨c, rfl, hc⟩ := dbit hv
    exact deed rfl rfl rfl rfl hc fun N => vw_kn ⟨_, rfl, rfl, e.trans unn_r, ex_l unn_r hq⟩
  rintro a' σ' T' Lf ⟨y10, rfl, rfl, ef, _⟩
  have elf := ee.trans ef
  have hosf : Paired (OrdIs Lf) xs os := paired_imp (fun x c r => ordIs_loc r fun a o h _ => elf _ _ h) hos2
  refine vw_imp (T' := PU (tabS CK cls noW) PT qn x1 x2 x3 wd (os ++ ex) (os.take 0)) (fun F H t => t) ?_
  refine vw_forL (a := po) (xs := xs) (RG _ _) (ev_var rfl) (sq_of (elf _ _ hpo2)) (fun i σ' T' L' => ∃ y7 : Option V, σ' = [some (.ref a), some (.int wd), some (.ref po), some (.ref x1), some (.ref x2), some (.ref x3), some (.ref pe), y7, some (.ref pd), some (.int cut), y10, none, none, none, none] ∧ T' = PU (tabS CK cls noW) PT qn x1 x2 x3 wd (os ++ ex) (os.take i) ∧ Ex Lf L') ⟨_, rfl, rfl, Ex.refl _⟩ (fun i σ' T' L' h => by obtain ⟨_, _, _, h⟩ := h; exact sq_of ((elf.trans h) _ _ hpo2)) ?_ ?_
  · rintro i x σ' T' L' hx ⟨y7, rfl, rfl, e⟩
    obtain ⟨c, hc, q1, rfl, hq1⟩ := paired_getL hosf hx
    obtain ⟨c0, cn, ci, c6⟩ := good.oc c (List.mem_of_getElem? hc)
    refine tellB rfl rfl (e _ _ hq1) c0 cn ci c6 (take_fresh good.nd hc) (by rw [List.length_take]; omega) fun N => ?_
    rw [← take_snoc hc]
    exact vw_kn ⟨_, rfl, rfl, e.trans unn_r⟩
  rintro σ' T' Lg ⟨y7b, rfl, rfl, eg⟩
  rw [lx, List.take_length]
  have elg := elf.trans eg
  have sqg : SqL K Lg pd ds := ex_l (ef.trans eg) sqd
  refine vw_forLN (RG _ _) (el_sl (ev_var rfl) (eo_some (ev_var rfl)) eo_none sqg) (fun a' i σ' T' L' => ∃ y10, σ' = [some (.ref a), some (.int wd), some (.ref po), some (.ref x1), some (.ref x2), some (.ref x3), some (.ref pe), y7b, some (.ref pd), some (.int cut), y10, none, none, none, none] ∧ T' = PU (tabS CK cls noW) PT qn x1 x2 x3 wd (os ++ ex) os ∧ Ex Lg L' ∧ SqL K L' a' (cutV ds (some cut) none))
    (fun a' L' _ e h => ⟨_, rfl, rfl, e, sq_of h⟩) (fun a' i σ' T' L' h => by obtain ⟨_, _, _, _, h⟩ := h; exact h) ?_ ?_
  · rintro a' i v σ' T' L' hv ⟨y10, rfl, rfl, e, hq⟩
    obtain ⟨c, rfl, hc⟩ := dbit hv
    exact deed rfl rfl rfl rfl hc fun N => vw_kn ⟨_, rfl, rfl, e.trans unn_r, ex_l unn_r hq⟩
  rintro a'' σ' T' Lh ⟨y10b, rfl, rfl, eh, _⟩
  have elh := elg.trans eh
  have hpeh := elh _ _ hpe2
  have hosh : Paired (OrdIs Lh) xs os := paired_imp (fun x c r => ordIs_loc r fun a o h _ => elh _ _ h) hos2
  -- the order more is forgotten
  refine vw_cut (fun σ' T' L' => σ' = [some (.ref a), some (.int wd), some (.ref po), some (.ref x1), some (.ref x2), some (.ref x3), some (.ref pe), y7b, some (.ref pd), some (.int cut), y10b, none, none, none, none] ∧ T' = PU (tabS CK cls noW) PT qn x1 x2 x3 wd os os ∧ Ex La L') ?_ ?_
  · refine vw_if' (p := ¬ extra ∈ os) (RG _ _) (tp_cmp (ev_op (ev_var rfl) (ev_var rfl) (rv_ninOrdL (elh _ _ hpo2) hosh (st_of hpeh)))) (fun h => ?_) (fun h => ?_)
    · rw [hex, if_neg h]
      refine vw_ex fun s => vw_and fun hs => ?_
      have er : (os ++ [extra]).eraseIdx os.length = os := by
        rw [List.eraseIdx_append_of_length_le (Nat.le_refl _), Nat.sub_self]
        exact List.append_nil _
      have hf := hs.1.forget (k := os.length)
      have ho : { st s (os ++ [extra]) with os := (os ++ [extra]).eraseIdx os.length } = st s os := by
        show st s ((os ++ [extra]).eraseIdx os.length) = st s os
        rw [er]
      have hf' : (st s os).Ok := by
        rw [← ho]
        exact hf
      refine vw_drop' (ew_mt ((pairT_regn _ _ _ _ _).two RU) (ev_var rfl) (fun H w => ?_) (vs := [.ref pe]) (ea_cons (ev_var rfl) ea_nil) (spw_imp (fun F H t => two_assoc t) (fun F H t => two_assoc' t) (spw_l (T' := (tabS CK cls noW).at_ x1 (st s os)) (RA _ _) ((RA _ _).two RU) rfl fun H F tt e dj => ⟨x1, pe, st s (os ++ [extra]), extra, os.length, rfl, tt, hs.1, e _ _ hpeh, ?_, ?_, rfl⟩))) ?_
      · obtain ⟨_, ⟨_, _, ⟨_, _, x, _⟩, _⟩, _⟩ := w
        obtain ⟨dx, fs, i1, _, i2⟩ := (tabS CK cls noW).ins x
        exact ⟨dx, fs, i1, i2 "forget" (by decide)⟩
      · show (os ++ [extra])[os.length]? = some extra
        rw [List.getElem?_append_right (Nat.le_refl _), Nat.sub_self]
        rfl
      · exact (congrArg ((tabS CK cls noW).at_ x1) ho).symm
      · rintro v N d _
        exact vw_imp (T' := PU (tabS CK cls noW) PT qn x1 x2 x3 wd os os) (fun F H t => ⟨s, ⟨hf', hs.2.1, hs.2.2⟩, t⟩) (vw_kn ⟨rfl, rfl, elh.trans unn_r⟩)
    · rw [hex, if_pos (Classical.not_not.mp h), List.append_nil]
      exact vw_kn ⟨rfl, rfl, elh⟩
  rintro σ' T' Li ⟨rfl, rfl, ei⟩
  refine vw_ex fun s => vw_and fun hs => ?_
  have hSi := ex_l (e2.trans ei) hS
  have RT : Regn (Two (PairT (tabS CK cls noW) x1 x2 s os os) (Two ((tabS CK cls noW).at_ x3 ⟨wd, [], 0, []⟩) (TblR PT qn))) := (pairT_regn _ _ _ _ _).two RU
  have ok := hs.1
  have l200 : s.rows.length ≤ 200 := ok.l200
  have up : (s.rows.map (·.1)).Pairwise (· < ·) := ok.nd
  have nd : (s.rows.map (·.1)).Nodup := up.imp fun h e => by omega
  -- rows, a wish
  refine vw_sv fun Hw w0 => ?_
  have lxw := w0.lx
  obtain ⟨F1, xa⟩ : ∃ F1, (tabS CK cls noW).at_ x1 (st s os) F1 Hw := by
    obtain ⟨_, ⟨_, _, ⟨_, _, x, _⟩, _⟩, _⟩ := w0
    exact ⟨_, x⟩
  obtain ⟨qs, hqs⟩ : ∃ qs : List Addr, Paired (fun (q : Addr) (p : Int × List Int) => Hw q = some (.tup (p.2.map V.int)) ∧ ∀ {σ : L2.St} {ta tb : TE} {H1 : Hp}, Ex Hw H1 → Ev ta σ H1 (.ref x1) → Ev tb σ H1 (.int p.1) → Ev (tMeth C "row" (SpR 2 (RRowT C)) [] E0 ta (tCons tb tNil)) σ H1 (.ref q)) qs s.rows := by
    have key : ∀ l : Rows, (∀ p ∈ l, ∃ q : Addr, Hw q = some (.tup (p.2.map V.int)) ∧ ∀ {σ : L2.St} {ta tb : TE} {H1 : Hp}, Ex Hw H1 → Ev ta σ H1 (.ref x1) → Ev tb σ H1 (.int p.1) → Ev (tMeth C "row" (SpR 2 (RRowT C)) [] E0 ta (tCons tb tNil)) σ H1 (.ref q)) → ∃ qs : List Addr, Paired (fun (q : Addr) (p : Int × List Int) => Hw q = some (.tup (p.2.map V.int)) ∧ ∀ {σ : L2.St} {ta tb : TE} {H1 : Hp}, Ex Hw H1 → Ev ta σ H1 (.ref x1) → Ev tb σ H1 (.int p.1) → Ev (tMeth C "row" (SpR 2 (RRowT C)) [] E0 ta (tCons tb tNil)) σ H1 (.ref q)) qs l := fun l => by
      induction l with
      | nil => exact fun _ => ⟨[], .nil⟩
      | cons p l ih =>
        intro h
        obtain ⟨q1, h1⟩ := h p (List.mem_cons_self ..)
        obtain ⟨qs, h2⟩ := ih fun p hp => h p (List.mem_cons_of_mem _ hp)
        exact ⟨q1 :: qs, .cons h1 h2⟩
    refine key s.rows fun p hp => ?_
    obtain ⟨i, hi⟩ := List.mem_iff_getElem?.mp hp
    obtain ⟨q1, h1, r1⟩ := p_row (s := st s os) xa (rowOf_at nd hi).1
    exact ⟨q1, h1, r1⟩
  have lqs := paired_len hqs
  have sl := p_num (s := st s os) (ta := tVar 3) (σ := [some (.ref a), some (.int wd), some (.ref po), some (.ref x1), some (.ref x2), some (.ref x3), some (.ref pe), y7b, some (.ref pd), some (.int cut), y10b, none, none, none, none]) xa ok (ev_var rfl)
  refine sv_asgN (EvL.n (xs := qs.map V.ref) (el_lcNM V.ref sl (by rw [List.length_map, List.length_map, lqs]; rfl) (by rw [List.length_map, List.length_map]; show s.rows.length ≤ _; omega) (fun _ => rfl) fun i x m hx hm => ?_)) ?_
  · obtain ⟨p, hp, h1, r1⟩ := paired_getL hqs hm
    have hx' : ((s.rows.map (·.1)).map V.int)[i]? = some x := hx
    rw [List.getElem?_map, List.getElem?_map, hp] at hx'
    obtain rfl := Option.some.inj hx'
    exact r1 (Ex.refl _) (ev_var rfl) (ev_var rfl)
  rintro v N6 H6 d6 ⟨pr, rfl, hpr⟩ eN6 e6
  have hpr6 : SqL K H6 pr (qs.map V.ref) := sq_of (eN6 _ _ hpr)
  have hR6 : RwT K H6 (qs.map V.ref) (s.rows.map (·.2)) := by
    refine ⟨by rw [List.length_map, List.length_map, lqs], fun i rs hi => ?_⟩
    rw [List.getElem?_map] at hi
    obtain ⟨p, hp, rfl⟩ := Option.map_eq_some_iff.mp hi
    obtain ⟨q1, hq, h1, _⟩ := paired_get hqs hp
    exact ⟨q1, by rw [List.getElem?_map, hq]; rfl, st_of (e6 _ _ h1)⟩
  have hS6 := ex_l (lxw.trans e6) hSi
  refine sv_asgN (en_lcR1 (n := cell ns 2 / 4 % 5) (by repeat' walk_at "s") (by omega) (fun _ => rfl) (fun i acc N => ∃ ts, Wt K N acc ts ∧ ts.length = i ∧ ∀ t ∈ ts, 0 ≤ t.c ∧ t.c < wd) ⟨[], Wt.nil, rfl, fun r h => (List.not_mem_nil h).elim⟩ (fun i acc N hi hI => ?_)) ?_
  · refine (en_cl (vs := [.int (cell ns (4 + (i : Int))), .int wd, .ref pr]) ?_ (spn_triple ((cell_bits hb _).mono (by decide)) (by omega) (by omega) hpr6 hR6 (by rw [List.length_map]; exact l200) fun r hr => by rw [Int.toNat_natCast, ← hs.2.2]; exact wide_rows (s := st s os) ok r hr)).imp ?_
    · repeat' walk_at "s"
    · rintro v N' ⟨p, t, rfl, hp, ht⟩ N'' e1 e2
      obtain ⟨ts, hW, hl, hw⟩ := hI
      refine ⟨_, (hW.mono e1).snoc (st_of (e2 _ _ hp)), by rw [List.length_append, hl]; rfl, fun r hr => ?_⟩
      rcases List.mem_append.mp hr with h | h
      · exact hw r h
      · rw [List.mem_singleton.mp h]
        exact ht
  rintro v N7 H7 d7 ⟨pw, ws, rfl, hpw, N0, eN0, ts, hW, lts, htc⟩ eN7 e7
  refine sv_back (M := N7) RT w0 (fun x z => fresh_back e6 (d7 x z)) eN7 (e6.trans e7) ?_
  have hM : Ex N7 (Unn N7 Li) := unn_l fun x z => fresh_back lxw (fresh_back e6 (d7 x z))
  have hpw8 := hM _ _ hpw
  have hW8 := hW.mono (eN0.trans hM)
  have e8 := ei.trans (unn_r (N := N7) (H := Li))
  clear hqs sl hpr6 hR6 eN6 eN7 hM xa
  generalize Unn N7 Li = L8 at hpw8 hW8 e8
  have lt : ts.length ≤ 20 := by omega
  have htw : ∀ t ∈ ts, 0 ≤ t.c ∧ t.c < (s.wd : Int) := fun t ht => by rw [hs.2.2]; exact htc t ht
  -- the third one has none of this
  have at3 : ∀ {F0 B : Reg} {L H : Hp}, Wld (Two (PairT (tabS CK cls noW) x1 x2 s os os) (Two ((tabS CK cls noW).at_ x3 ⟨wd, [], 0, []⟩) (TblR PT qn))) F0 B L H → ∃ F1, (tabS CK cls noW).at_ x3 ⟨wd, [], 0, []⟩ F1 H := fun w => by
    obtain ⟨_, ⟨_, _, _, ⟨_, _, x, _⟩, _⟩, _⟩ := w
    exact ⟨_, x⟩
  have ins3 : ∀ {F0 B : Reg} {L H : Hp} (m : Str), m ∈ tabNames → Wld (Two (PairT (tabS CK cls noW) x1 x2 s os os) (Two ((tabS CK cls noW).at_ x3 ⟨wd, [], 0, []⟩) (TblR PT qn))) F0 B L H → ∃ dx fs, H x3 = some (.ins C dx fs) ∧ fs.lookup m = none := fun m hm w => by
    obtain ⟨_, x⟩ := at3 w
    obtain ⟨dx, fs, i1, _, i2⟩ := (tabS CK cls noW).ins x
    exact ⟨dx, fs, i1, i2 m hm⟩
  have nilE : ∀ {σ : L2.St} {H : Hp}, EvL (tLst tNil) σ H [] := fun {σ H} => el_lst (vs := []) ea_nil (Nat.zero_le _)
  have nilD : ∀ {H2 : Hp} {p : Addr}, H2 p = some (.lst []) → Dp K H2 (.ref p) (.list []) := fun h => .lst (sq_of h) .nil
  have nilS : Shp 1 (.list []) := shp_list fun d hd => (List.not_mem_nil hd).elim
  refine vw_whenW (T' := Two (PairT (tabS CK cls noW) x1 x2 s os os) (Two ((tabS CK cls noW).at_ x3 ⟨wd, [], 0, []⟩) (TblR PT qn))) (b := false) (etw_or (T' := Two (PairT (tabS CK cls noW) x1 x2 s os os) (Two ((tabS CK cls noW).at_ x3 ⟨wd, [], 0, []⟩) (TblR PT qn))) (b1 := false) (et_at RT fun H w => ?_) rfl fun Na da => etw_or (T' := Two (PairT (tabS CK cls noW) x1 x2 s os os) (Two ((tabS CK cls noW).at_ x3 ⟨wd, [], 0, []⟩) (TblR PT qn))) (b1 := false) (et_at RT fun H w => ?_) rfl fun Nb db => etw_or (T' := Two (PairT (tabS CK cls noW) x1 x2 s os os) (Two ((tabS CK cls noW).at_ x3 ⟨wd, [], 0, []⟩) (TblR PT qn))) (b1 := false) (et_at RT fun H w => ?_) rfl fun Nc dc => etw_test (ew_op2R (z := .bl (decide False)) (P2 := fun v N => ∃ p : Addr, v = .ref p ∧ N p = some (.lst [])) RT (ew_mt RT (ev_var rfl) (fun H w => ins3 "ask" (by decide) w) (vs := [.ref pw]) (by repeat' walk_at "s") (spw_imp (fun F H t => two_swap t) (fun F H t => two_swap t) (spw_l ((RA _ _).two RB) (pairT_regn _ _ _ _ _) rfl fun H' F' tt e dj => ⟨x3, pw, ⟨wd, [], 0, []⟩, ts, rfl, tt, ok0, ⟨_, ws, e, dj, ex_l ((unn_r.trans unn_r).trans unn_r) (sq_of hpw8), hW8.mono ((unn_r.trans unn_r).trans unn_r), lt, htc⟩, rfl, rfl⟩))) (fun N H' w' => ?_) ?_)) rfl fun N9 d9 => ?_
  · obtain ⟨_, x⟩ := at3 w
    exact et_b (b := decide False) (tp_cmp (ev_opLL (p_num x ok0 (ev_var rfl)) nilE fun p q H2 e h1 h2 => rd_neSame (nilD h1) (nilD h2) nilS (by decide))) rfl
  · obtain ⟨_, x⟩ := at3 w
    obtain ⟨cts, p1, v1⟩ := p_ord (σ := [some (.ref a), some (.int wd), some (.ref po), some (.ref x1), some (.ref x2), some (.ref x3), some (.ref pe), y7b, some (.ref pd), some (.int cut), y10b, some (.ref pr), some (.ref pw), none, none]) (ta := tVar 5) x ok0 (ev_var rfl)
    have e0 : cts.map V.ref = [] := List.eq_nil_of_length_eq_zero (paired_len p1)
    rw [e0] at v1
    exact et_b (b := decide False) (tp_cmp (ev_opLL v1 nilE fun p q H2 e h1 h2 => rd_neSame (nilD h1) (nilD h2) nilS (by decide))) rfl
  · have lx8 : Ex L8 H := (unn_r.trans unn_r).trans w.lx
    obtain ⟨_, x⟩ := at3 w
    refine et_b (b := decide False) (tp_cmp (ev_opNN (p_costs x ok0 (ex_l lx8 (sq_of hpw8)) (hW8.mono lx8) lt htc (ev_var rfl) (ev_var rfl)) (en_lstU (eu_tup (vs := [.non, .int 0]) (ea_cons ev_c (ea_cons ev_c ea_nil)) (by simp))) ?_)) rfl
    rintro xx y N N' H2 e ⟨p, qs, rfl, hp, h1⟩ ⟨p2, zs, Nz, rfl, hp2, ⟨q2, rfl, hq2⟩, xz⟩ eN eN'
    exact rd_neSame (d := .list ((waysM ⟨wd, [], 0, []⟩ ts).map Wy.pairD)) (.lst (sq_of (eN _ _ hp)) (dp_pairs (h1 H2 eN e))) (.lst (sq_of (eN' _ _ hp2)) (.cons (.tup (st_of (eN' _ _ (xz _ _ hq2))) (.cons .non (.cons (.int 0) .nil))) .nil)) (shp_pairs _) (by decide)
  · exact (EvL.n nilE).p fun v N N' e ⟨p, e1, h⟩ => ⟨p, e1, e _ _ h⟩
  · rintro xx N y H2 d ⟨p, rfl, hp⟩ ⟨p2, rfl, hp2⟩ e
    exact rd_neSame (nilD (e _ _ (unn_l (fun a z => (d a z).1) _ _ hp))) (nilD hp2) nilS (by decide)
  have e9 := e8.trans (unn_r (N := N9))
  have hpw9 := (unn_r (N := N9)) _ _ hpw8
  have hW9 := hW8.mono (unn_r (N := N9))
  generalize Unn N9 L8 = L9 at hpw9 hW9 e9
  have hpo9 := e9 _ _ hpo2
  have hos9 : Paired (OrdIs L9) xs os := paired_imp (fun x c r => ordIs_loc r fun a o h _ => e9 _ _ h) hos2
  have lrow : (List.replicate wd (0 : Int)).length = wd := List.length_replicate
  refine vw_retW (ew_and' (v := .bl true) (T' := Two ((tabS CK cls noW).at_ x3 { (⟨wd, [], 0, []⟩ : TabS) with rows := [] ++ [((0 : Int), List.replicate wd (0 : Int))], made := 0 + 1 }) (Two (TblR PT qn) (PairT (tabS CK cls noW) x1 x2 s os os)))
    (T'' := Two (Two (PairT (tabS CK cls noW) x1 x2 s os os) (TblR PT qn)) ((tabS CK cls noW).at_ x3 { (⟨wd, [], 0, []⟩ : TabS) with rows := [] ++ [((0 : Int), List.replicate wd (0 : Int))], made := 0 + 1 }))
    (ew_opR (P := fun v _ => v = .int 0) (y := .int 0) (z := .bl true) ((RA _ _).two (RB.two (pairT_regn _ _ _ _ _))) (ew_mtN (PA := fun vs N => ∃ v, vs = [v] ∧ IsL ((List.replicate wd (0 : Int)).map V.int) v N) (p := fun v => v = .int 0) RT (ev_var rfl) (fun H w => ins3 "put" (by decide) w) (ean_one (EvL.n ?_)) ?_) ev_c ?_) fun Nq dq => ?_) ?_
  · have g := el_rep (σ := [some (.ref a), some (.int wd), some (.ref po), some (.ref x1), some (.ref x2), some (.ref x3), some (.ref pe), y7b, some (.ref pd), some (.int cut), y10b, some (.ref pr), some (.ref pw), none, none]) (ta := tLst (tCons (tC (.int 0)) tNil)) (tb := tVar 1) (H := L9) (xs := [V.int 0]) (n := (wd : Int)) (EvL.l (el_lst (vs := [.int 0]) (ea_cons ev_c ea_nil) (by simp))) (ev_var rfl) (by omega) (by omega) (by simp)
    rw [Int.toNat_natCast, flat_rep, map_rep] at g
    exact g
  · rintro vs N d ⟨v, rfl, p, rfl, hp⟩
    have hpL : (Unn N L9) p = some (.lst ((List.replicate wd (0 : Int)).map V.int)) := unn_l (fun a z => (d a z).1) _ _ hp
    exact spw_imp (fun F H t => two_assoc (two_swap t)) (fun F H t => t) (spw_l (RA _ _) (RB.two (pairT_regn _ _ _ _ _)) rfl fun H F tt e dj => ⟨x3, p, ⟨wd, [], 0, []⟩, List.replicate wd 0, rfl, tt, ok0, .inl ⟨sq_of (e _ _ hpL), fun z => by rw [dj p z] at hpL; cases hpL⟩, lrow, by show 0 < 200; decide, rfl, rfl⟩)
  · rintro xx N d rfl
    have g := rp_eqI (H := Unn N L9) (i := 0) (j := 0)
    rw [decide_eq_true rfl] at g
    exact g
  · refine ew_cl ((RA _ _).two (RB.two (pairT_regn _ _ _ _ _))) (vs := [.ref x1, .ref x2, .ref pw, .ref po]) (by repeat' walk_at "s") (spw_imp (fun F H t => two_imp (fun F t => two_swap t) (two_swap t)) (fun F H t => t) (spw_l ((pairT_regn _ _ _ _ _).two RB) (RA _ _) rfl fun H' F' tt e dj => ⟨x1, x2, pw, po, st s os, ws, xs, ts, _, rfl, tt, ok, e, dj, ex_l unn_r (sq_of hpw9), hW9.mono unn_r, lt, htw, unn_r _ _ hpo9, paired_imp (fun x c r => ordIs_loc r fun a o h _ => unn_r _ _ h) hos9, rfl, rfl⟩))
  · rintro v N H' d rfl w'
    exact q H'

end
end
end
theorem all_mk {l : PySem.W.OpenLaw} {w : World} {K : PySem.W.Frag} {h : Heap} {mg : Str → Option Value} {fa : Addr} (X : K.In h) (G : h.Ns mainGlobals mg) (hfa : mg "law" = some (.ref fa))
    {C_Kept : Addr}
    {C_Table : Addr}
    {f_whole : Addr} {od_whole an_whole : Option Addr} {sl_whole : Array (Option Value)} {oc_whole kV_whole dc_whole pm_whole cd_whole ct_whole : Value}
    {f_is_column : Addr} {od_is_column an_is_column : Option Addr} {sl_is_column : Array (Option Value)} {oc_is_column kV_is_column dc_is_column pm_is_column cd_is_column ct_is_column : Value}
    {f_is_end : Addr} {od_is_end an_is_end : Option Addr} {sl_is_end : Array (Option Value)} {oc_is_end kV_is_end dc_is_end pm_is_end cd_is_end ct_is_end : Value}
    {f_is_triple : Addr} {od_is_triple an_is_triple : Option Addr} {sl_is_triple : Array (Option Value)} {oc_is_triple kV_is_triple dc_is_triple pm_is_triple cd_is_triple ct_is_triple : Value}
    {f_is_order : Addr} {od_is_order an_is_order : Option Addr} {sl_is_order : Array (Option Value)} {oc_is_order kV_is_order dc_is_order pm_is_order cd_is_order ct_is_order : Value}
    {f_check_width : Addr} {od_check_width an_check_width : Option Addr} {sl_check_width : Array (Option Value)} {oc_check_width kV_check_width dc_check_width pm_check_width cd_check_width ct_check_width : Value}
    {f_check_row : Addr} {od_check_row an_check_row : Option Addr} {sl_check_row : Array (Option Value)} {oc_check_row kV_check_row dc_check_row pm_check_row cd_check_row ct_check_row : Value}
    {f_check_column : Addr} {od_check_column an_check_column : Option Addr} {sl_check_column : Array (Option Value)} {oc_check_column kV_check_column dc_check_column pm_check_column cd_check_column ct_check_column : Value}
    {f_check_value : Addr} {od_check_value an_check_value : Option Addr} {sl_check_value : Array (Option Value)} {oc_check_value kV_check_value dc_check_value pm_check_value cd_check_value ct_check_value : Value}
    {f_check_wish : Addr} {od_check_wish an_check_wish : Option Addr} {sl_check_wish : Array (Option Value)} {oc_check_wish kV_check_wish dc_check_wish pm_check_wish cd_check_wish ct_check_wish : Value}
    {f_check_order : Addr} {od_check_order an_check_order : Option Addr} {sl_check_order : Array (Option Value)} {oc_check_order kV_check_order dc_check_order pm_check_order cd_check_order ct_check_order : Value}
    {f_less : Addr} {od_less an_less : Option Addr} {sl_less : Array (Option Value)} {oc_less kV_less dc_less pm_less cd_less ct_less : Value}
    {f_below : Addr} {od_below an_below : Option Addr} {sl_below : Array (Option Value)} {oc_below kV_below dc_below pm_below cd_below ct_below : Value}
    {f_fits : Addr} {od_fits an_fits : Option Addr} {sl_fits : Array (Option Value)} {oc_fits kV_fits dc_fits pm_fits cd_fits ct_fits : Value}
    {f_fits_triple : Addr} {od_fits_triple an_fits_triple : Option Addr} {sl_fits_triple : Array (Option Value)} {oc_fits_triple kV_fits_triple dc_fits_triple pm_fits_triple cd_fits_triple ct_fits_triple : Value}
    {f_merged : Addr} {od_merged an_merged : Option Addr} {sl_merged : Array (Option Value)} {oc_merged kV_merged dc_merged pm_merged cd_merged ct_merged : Value}
    {f_merged_triple : Addr} {od_merged_triple an_merged_triple : Option Addr} {sl_merged_triple : Array (Option Value)} {oc_merged_triple kV_merged_triple dc_merged_triple pm_merged_triple cd_merged_triple ct_merged_triple : Value}
    {f_first_and_last : Addr} {od_first_and_last an_first_and_last : Option Addr} {sl_first_and_last : Array (Option Value)} {oc_first_and_last kV_first_and_last dc_first_and_last pm_first_and_last cd_first_and_last ct_first_and_last : Value}
    {f_through : Addr} {od_through an_through : Option Addr} {sl_through : Array (Option Value)} {oc_through kV_through dc_through pm_through cd_through ct_through : Value}
    {f_Kept_init : Addr} {od_Kept_init an_Kept_init : Option Addr} {sl_Kept_init : Array (Option Value)} {oc_Kept_init kV_Kept_init dc_Kept_init pm_Kept_init cd_Kept_init ct_Kept_init : Value}
    {f_Kept_put : Addr} {od_Kept_put an_Kept_put : Option Addr} {sl_Kept_put : Array (Option Value)} {oc_Kept_put kV_Kept_put dc_Kept_put pm_Kept_put cd_Kept_put ct_Kept_put : Value}
    {f_Kept_drop : Addr} {od_Kept_drop an_Kept_drop : Option Addr} {sl_Kept_drop : Array (Option Value)} {oc_Kept_drop kV_Kept_drop dc_Kept_drop pm_Kept_drop cd_Kept_drop ct_Kept_drop : Value}
    {f_Kept_numbers : Addr} {od_Kept_numbers an_Kept_numbers : Option Addr} {sl_Kept_numbers : Array (Option Value)} {oc_Kept_numbers kV_Kept_numbers dc_Kept_numbers pm_Kept_numbers cd_Kept_numbers ct_Kept_numbers : Value}
    {f_Kept_stretch : Addr} {od_Kept_stretch an_Kept_stretch : Option Addr} {sl_Kept_stretch : Array (Option Value)} {oc_Kept_stretch kV_Kept_stretch dc_Kept_stretch pm_Kept_stretch cd_Kept_stretch ct_Kept_stretch : Value}
    {f_Kept_covers : Addr} {od_Kept_covers an_Kept_covers : Option Addr} {sl_Kept_covers : Array (Option Value)} {oc_Kept_covers kV_Kept_covers dc_Kept_covers pm_Kept_covers cd_Kept_covers ct_Kept_covers : Value}
    {f_Kept__key : Addr} {od_Kept__key an_Kept__key : Option Addr} {sl_Kept__key : Array (Option Value)} {oc_Kept__key kV_Kept__key dc_Kept__key pm_Kept__key cd_Kept__key ct_Kept__key : Value}
    {f_cost : Addr} {od_cost an_cost : Option Addr} {sl_cost : Array (Option Value)} {oc_cost kV_cost dc_cost pm_cost cd_cost ct_cost : Value}
    {f_Table_init : Addr} {od_Table_init an_Table_init : Option Addr} {sl_Table_init : Array (Option Value)} {oc_Table_init kV_Table_init dc_Table_init pm_Table_init cd_Table_init ct_Table_init : Value}
    {f_Table_put : Addr} {od_Table_put an_Table_put : Option Addr} {sl_Table_put : Array (Option Value)} {oc_Table_put kV_Table_put dc_Table_put pm_Table_put cd_Table_put ct_Table_put : Value}
    {f_Table_drop : Addr} {od_Table_drop an_Table_drop : Option Addr} {sl_Table_drop : Array (Option Value)} {oc_Table_drop kV_Table_drop dc_Table_drop pm_Table_drop cd_Table_drop ct_Table_drop : Value}
    {f_Table_change : Addr} {od_Table_change an_Table_change : Option Addr} {sl_Table_change : Array (Option Value)} {oc_Table_change kV_Table_change dc_Table_change pm_Table_change cd_Table_change ct_Table_change : Value}
    {f_Table_row : Addr} {od_Table_row an_Table_row : Option Addr} {sl_Table_row : Array (Option Value)} {oc_Table_row kV_Table_row dc_Table_row pm_Table_row cd_Table_row ct_Table_row : Value}
    {f_Table_numbers : Addr} {od_Table_numbers an_Table_numbers : Option Addr} {sl_Table_numbers : Array (Option Value)} {oc_Table_numbers kV_Table_numbers dc_Table_numbers pm_Table_numbers cd_Table_numbers ct_Table_numbers : Value}
    {f_Table_tell : Addr} {od_Table_tell an_Table_tell : Option Addr} {sl_Table_tell : Array (Option Value)} {oc_Table_tell kV_Table_tell dc_Table_tell pm_Table_tell cd_Table_tell ct_Table_tell : Value}
    {f_Table_forget : Addr} {od_Table_forget an_Table_forget : Option Addr} {sl_Table_forget : Array (Option Value)} {oc_Table_forget kV_Table_forget dc_Table_forget pm_Table_forget cd_Table_forget ct_Table_forget : Value}
    {f_Table_orders : Addr} {od_Table_orders an_Table_orders : Option Addr} {sl_Table_orders : Array (Option Value)} {oc_Table_orders kV_Table_orders dc_Table_orders pm_Table_orders cd_Table_orders ct_Table_orders : Value}
    {f_Table_listed : Addr} {od_Table_listed an_Table_listed : Option Addr} {sl_Table_listed : Array (Option Value)} {oc_Table_listed kV_Table_listed dc_Table_listed pm_Table_listed cd_Table_listed ct_Table_listed : Value}
    {f_Table_costs : Addr} {od_Table_costs an_Table_costs : Option Addr} {sl_Table_costs : Array (Option Value)} {oc_Table_costs kV_Table_costs dc_Table_costs pm_Table_costs cd_Table_costs ct_Table_costs : Value}
    {f_Table_plan : Addr} {od_Table_plan an_Table_plan : Option Addr} {sl_Table_plan : Array (Option Value)} {oc_Table_plan kV_Table_plan dc_Table_plan pm_Table_plan ct_Table_plan : Value}
    {f_Table_walked : Addr} {od_Table_walked an_Table_walked : Option Addr} {sl_Table_walked : Array (Option Value)} {oc_Table_walked kV_Table_walked dc_Table_walked pm_Table_walked cd_Table_walked ct_Table_walked : Value}
    {f_Table_ask_by : Addr} {od_Table_ask_by an_Table_ask_by : Option Addr} {sl_Table_ask_by : Array (Option Value)} {oc_Table_ask_by kV_Table_ask_by dc_Table_ask_by pm_Table_ask_by cd_Table_ask_by ct_Table_ask_by : Value}
    {f_Table_ask : Addr} {od_Table_ask an_Table_ask : Option Addr} {sl_Table_ask : Array (Option Value)} {oc_Table_ask kV_Table_ask dc_Table_ask pm_Table_ask cd_Table_ask ct_Table_ask : Value}
    {f_Table__find : Addr} {od_Table__find an_Table__find : Option Addr} {sl_Table__find : Array (Option Value)} {oc_Table__find kV_Table__find dc_Table__find pm_Table__find cd_Table__find ct_Table__find : Value}
    {f_l_at : Addr} {od_l_at an_l_at : Option Addr} {sl_l_at : Array (Option Value)} {oc_l_at kV_l_at dc_l_at pm_l_at cd_l_at ct_l_at : Value}
    {f_l_value : Addr} {od_l_value an_l_value : Option Addr} {sl_l_value : Array (Option Value)} {oc_l_value kV_l_value dc_l_value pm_l_value cd_l_value ct_l_value : Value}
    {f_l_row : Addr} {od_l_row an_l_row : Option Addr} {sl_l_row : Array (Option Value)} {oc_l_row kV_l_row dc_l_row pm_l_row cd_l_row ct_l_row : Value}
    {f_l_order : Addr} {od_l_order an_l_order : Option Addr} {sl_l_order : Array (Option Value)} {oc_l_order kV_l_order dc_l_order pm_l_order cd_l_order ct_l_order : Value}
    {f_l_triple : Addr} {od_l_triple an_l_triple : Option Addr} {sl_l_triple : Array (Option Value)} {oc_l_triple kV_l_triple dc_l_triple pm_l_triple cd_l_triple ct_l_triple : Value}
    {f_l_deed : Addr} {od_l_deed an_l_deed : Option Addr} {sl_l_deed : Array (Option Value)} {oc_l_deed kV_l_deed dc_l_deed pm_l_deed cd_l_deed ct_l_deed : Value}
    {f_l_orders : Addr} {od_l_orders an_l_orders : Option Addr} {sl_l_orders : Array (Option Value)} {oc_l_orders kV_l_orders dc_l_orders pm_l_orders cd_l_orders ct_l_orders : Value}
    {f_l_same : Addr} {od_l_same an_l_same : Option Addr} {sl_l_same : Array (Option Value)} {oc_l_same kV_l_same dc_l_same pm_l_same cd_l_same ct_l_same : Value}
    {f_law : Addr} {od_law an_law : Option Addr} {sl_law : Array (Option Value)} {oc_law kV_law dc_law pm_law cd_law ct_law : Value}
    {t_WIDEST : Tok}
    {t_MOST_TRIPLES : Tok}
    {t_MOST_ROWS : Tok}
    {t_MOST_ORDERS : Tok}
    {cc PT : Addr}
    (aC_Kept : PySem.W.nsIn K mainGlobals "Kept" = some (some (.ref C_Kept)))
    (pg_Kept : PySem.W.plainGet K C_Kept Str.empty = true)
    (hd_Kept : PySem.W.hasDictIn K C_Kept = true)
    (po_Kept : PySem.W.plainOver K C_Kept = true)
    (sa_Kept : PySem.W.findIn K (.ref C_Kept) "__setattr__" = some (some (.builtin "object.__setattr__")))
    (mk_Kept : PySem.W.makesIn K C_Kept = true)
    (kc_Kept : PySem.W.keepIn K (.ref C_Kept) = true)
    (N_Kept_columns : PySem.W.findIn K (.ref C_Kept) "columns" = some none)
    (N_Kept__keys : PySem.W.findIn K (.ref C_Kept) "_keys" = some none)
    (eq_Kept : PySem.W.findIn K (.ref C_Kept) "__eq__" = some (some (.builtin "object.__eq__")))
    (aC_Table : PySem.W.nsIn K mainGlobals "Table" = some (some (.ref C_Table)))
    (pg_Table : PySem.W.plainGet K C_Table Str.empty = true)
    (hd_Table : PySem.W.hasDictIn K C_Table = true)
    (po_Table : PySem.W.plainOver K C_Table = true)
    (sa_Table : PySem.W.findIn K (.ref C_Table) "__setattr__" = some (some (.builtin "object.__setattr__")))
    (mk_Table : PySem.W.makesIn K C_Table = true)
    (kc_Table : PySem.W.keepIn K (.ref C_Table) = true)
    (N_Table_width : PySem.W.findIn K (.ref C_Table) "width" = some none)
    (N_Table__rows : PySem.W.findIn K (.ref C_Table) "_rows" = some none)
    (N_Table__next : PySem.W.findIn K (.ref C_Table) "_next" = some none)
    (N_Table__kept : PySem.W.findIn K (.ref C_Table) "_kept" = some none)
    (a_whole : PySem.W.nsIn K mainGlobals "whole" = some (some (.ref f_whole)))
    (l_whole : K.lookup f_whole = some ⟨oc_whole, od_whole, .func (PySem.W.fnOf "whole" "whole" (defArgs s_whole) (defBody s_whole) (defScope s_whole) .none kV_whole dc_whole pm_whole an_whole cd_whole ct_whole), sl_whole⟩)
    (c_whole : PySem.W.codeIn K cd_whole "whole" = true)
    (k_whole : PySem.W.keepIn K (.ref f_whole) = true)
    (a_is_column : PySem.W.nsIn K mainGlobals "is_column" = some (some (.ref f_is_column)))
    (l_is_column : K.lookup f_is_column = some ⟨oc_is_column, od_is_column, .func (PySem.W.fnOf "is_column" "is_column" (defArgs s_is_column) (defBody s_is_column) (defScope s_is_column) .none kV_is_column dc_is_column pm_is_column an_is_column cd_is_column ct_is_column), sl_is_column⟩)
    (c_is_column : PySem.W.codeIn K cd_is_column "is_column" = true)
    (k_is_column : PySem.W.keepIn K (.ref f_is_column) = true)
    (a_is_end : PySem.W.nsIn K mainGlobals "is_end" = some (some (.ref f_is_end)))
    (l_is_end : K.lookup f_is_end = some ⟨oc_is_end, od_is_end, .func (PySem.W.fnOf "is_end" "is_end" (defArgs s_is_end) (defBody s_is_end) (defScope s_is_end) .none kV_is_end dc_is_end pm_is_end an_is_end cd_is_end ct_is_end), sl_is_end⟩)
    (c_is_end : PySem.W.codeIn K cd_is_end "is_end" = true)
    (k_is_end : PySem.W.keepIn K (.ref f_is_end) = true)
    (a_is_triple : PySem.W.nsIn K mainGlobals "is_triple" = some (some (.ref f_is_triple)))
    (l_is_triple : K.lookup f_is_triple = some ⟨oc_is_triple, od_is_triple, .func (PySem.W.fnOf "is_triple" "is_triple" (defArgs s_is_triple) (defBody s_is_triple) (defScope s_is_triple) .none kV_is_triple dc_is_triple pm_is_triple an_is_triple cd_is_triple ct_is_triple), sl_is_triple⟩)
    (c_is_triple : PySem.W.codeIn K cd_is_triple "is_triple" = true)
    (k_is_triple : PySem.W.keepIn K (.ref f_is_triple) = true)
    (a_is_order : PySem.W.nsIn K mainGlobals "is_order" = some (some (.ref f_is_order)))
    (l_is_order : K.lookup f_is_order = some ⟨oc_is_order, od_is_order, .func (PySem.W.fnOf "is_order" "is_order" (defArgs s_is_order) (defBody s_is_order) (defScope s_is_order) .none kV_is_order dc_is_order pm_is_order an_is_order cd_is_order ct_is_order), sl_is_order⟩)
    (c_is_order : PySem.W.codeIn K cd_is_order "is_order" = true)
    (k_is_order : PySem.W.keepIn K (.ref f_is_order) = true)
    (a_check_width : PySem.W.nsIn K mainGlobals "check_width" = some (some (.ref f_check_width)))
    (l_check_width : K.lookup f_check_width = some ⟨oc_check_width, od_check_width, .func (PySem.W.fnOf "check_width" "check_width" (defArgs s_check_width) (defBody s_check_width) (defScope s_check_width) .none kV_check_width dc_check_width pm_check_width an_check_width cd_check_width ct_check_width), sl_check_width⟩)
    (c_check_width : PySem.W.codeIn K cd_check_width "check_width" = true)
    (k_check_width : PySem.W.keepIn K (.ref f_check_width) = true)
    (a_check_row : PySem.W.nsIn K mainGlobals "check_row" = some (some (.ref f_check_row)))
    (l_check_row : K.lookup f_check_row = some ⟨oc_check_row, od_check_row, .func (PySem.W.fnOf "check_row" "check_row" (defArgs s_check_row) (defBody s_check_row) (defScope s_check_row) .none kV_check_row dc_check_row pm_check_row an_check_row cd_check_row ct_check_row), sl_check_row⟩)
    (c_check_row : PySem.W.codeIn K cd_check_row "check_row" = true)
    (k_check_row : PySem.W.keepIn K (.ref f_check_row) = true)
    (a_check_column : PySem.W.nsIn K mainGlobals "check_column" = some (some (.ref f_check_column)))
    (l_check_column : K.lookup f_check_column = some ⟨oc_check_column, od_check_column, .func (PySem.W.fnOf "check_column" "check_column" (defArgs s_check_column) (defBody s_check_column) (defScope s_check_column) .none kV_check_column dc_check_column pm_check_column an_check_column cd_check_column ct_check_column), sl_check_column⟩)
    (c_check_column : PySem.W.codeIn K cd_check_column "check_column" = true)
    (k_check_column : PySem.W.keepIn K (.ref f_check_column) = true)
    (a_check_value : PySem.W.nsIn K mainGlobals "check_value" = some (some (.ref f_check_value)))
    (l_check_value : K.lookup f_check_value = some ⟨oc_check_value, od_check_value, .func (PySem.W.fnOf "check_value" "check_value" (defArgs s_check_value) (defBody s_check_value) (defScope s_check_value) .none kV_check_value dc_check_value pm_check_value an_check_value cd_check_value ct_check_value), sl_check_value⟩)
    (c_check_value : PySem.W.codeIn K cd_check_value "check_value" = true)
    (k_check_value : PySem.W.keepIn K (.ref f_check_value) = true)
    (a_check_wish : PySem.W.nsIn K mainGlobals "check_wish" = some (some (.ref f_check_wish)))
    (l_check_wish : K.lookup f_check_wish = some ⟨oc_check_wish, od_check_wish, .func (PySem.W.fnOf "check_wish" "check_wish" (defArgs s_check_wish) (defBody s_check_wish) (defScope s_check_wish) .none kV_check_wish dc_check_wish pm_check_wish an_check_wish cd_check_wish ct_check_wish), sl_check_wish⟩)
    (c_check_wish : PySem.W.codeIn K cd_check_wish "check_wish" = true)
    (k_check_wish : PySem.W.keepIn K (.ref f_check_wish) = true)
    (a_check_order : PySem.W.nsIn K mainGlobals "check_order" = some (some (.ref f_check_order)))
    (l_check_order : K.lookup f_check_order = some ⟨oc_check_order, od_check_order, .func (PySem.W.fnOf "check_order" "check_order" (defArgs s_check_order) (defBody s_check_order) (defScope s_check_order) .none kV_check_order dc_check_order pm_check_order an_check_order cd_check_order ct_check_order), sl_check_order⟩)
    (c_check_order : PySem.W.codeIn K cd_check_order "check_order" = true)
    (k_check_order : PySem.W.keepIn K (.ref f_check_order) = true)
    (a_less : PySem.W.nsIn K mainGlobals "less" = some (some (.ref f_less)))
    (l_less : K.lookup f_less = some ⟨oc_less, od_less, .func (PySem.W.fnOf "less" "less" (defArgs s_less) (defBody s_less) (defScope s_less) .none kV_less dc_less pm_less an_less cd_less ct_less), sl_less⟩)
    (c_less : PySem.W.codeIn K cd_less "less" = true)
    (k_less : PySem.W.keepIn K (.ref f_less) = true)
    (a_below : PySem.W.nsIn K mainGlobals "below" = some (some (.ref f_below)))
    (l_below : K.lookup f_below = some ⟨oc_below, od_below, .func (PySem.W.fnOf "below" "below" (defArgs s_below) (defBody s_below) (defScope s_below) .none kV_below dc_below pm_below an_below cd_below ct_below), sl_below⟩)
    (c_below : PySem.W.codeIn K cd_below "below" = true)
    (k_below : PySem.W.keepIn K (.ref f_below) = true)
    (a_fits : PySem.W.nsIn K mainGlobals "fits" = some (some (.ref f_fits)))
    (l_fits : K.lookup f_fits = some ⟨oc_fits, od_fits, .func (PySem.W.fnOf "fits" "fits" (defArgs s_fits) (defBody s_fits) (defScope s_fits) .none kV_fits dc_fits pm_fits an_fits cd_fits ct_fits), sl_fits⟩)
    (c_fits : PySem.W.codeIn K cd_fits "fits" = true)
    (k_fits : PySem.W.keepIn K (.ref f_fits) = true)
    (a_fits_triple : PySem.W.nsIn K mainGlobals "fits_triple" = some (some (.ref f_fits_triple)))
    (l_fits_triple : K.lookup f_fits_triple = some ⟨oc_fits_triple, od_fits_triple, .func (PySem.W.fnOf "fits_triple" "fits_triple" (defArgs s_fits_triple) (defBody s_fits_triple) (defScope s_fits_triple) .none kV_fits_triple dc_fits_triple pm_fits_triple an_fits_triple cd_fits_triple ct_fits_triple), sl_fits_triple⟩)
    (c_fits_triple : PySem.W.codeIn K cd_fits_triple "fits_triple" = true)
    (k_fits_triple : PySem.W.keepIn K (.ref f_fits_triple) = true)
    (a_merged : PySem.W.nsIn K mainGlobals "merged" = some (some (.ref f_merged)))
    (l_merged : K.lookup f_merged = some ⟨oc_merged, od_merged, .func (PySem.W.fnOf "merged" "merged" (defArgs s_merged) (defBody s_merged) (defScope s_merged) .none kV_merged dc_merged pm_merged an_merged cd_merged ct_merged), sl_merged⟩)
    (c_merged : PySem.W.codeIn K cd_merged "merged" = true)
    (k_merged : PySem.W.keepIn K (.ref f_merged) = true)
    (a_merged_triple : PySem.W.nsIn K mainGlobals "merged_triple" = some (some (.ref f_merged_triple)))
    (l_merged_triple : K.lookup f_merged_triple = some ⟨oc_merged_triple, od_merged_triple, .func (PySem.W.fnOf "merged_triple" "merged_triple" (defArgs s_merged_triple) (defBody s_merged_triple) (defScope s_merged_triple) .none kV_merged_triple dc_merged_triple pm_merged_triple an_merged_triple cd_merged_triple ct_merged_triple), sl_merged_triple⟩)
    (c_merged_triple : PySem.W.codeIn K cd_merged_triple "merged_triple" = true)
    (k_merged_triple : PySem.W.keepIn K (.ref f_merged_triple) = true)
    (a_first_and_last : PySem.W.nsIn K mainGlobals "first_and_last" = some (some (.ref f_first_and_last)))
    (l_first_and_last : K.lookup f_first_and_last = some ⟨oc_first_and_last, od_first_and_last, .func (PySem.W.fnOf "first_and_last" "first_and_last" (defArgs s_first_and_last) (defBody s_first_and_last) (defScope s_first_and_last) .none kV_first_and_last dc_first_and_last pm_first_and_last an_first_and_last cd_first_and_last ct_first_and_last), sl_first_and_last⟩)
    (c_first_and_last : PySem.W.codeIn K cd_first_and_last "first_and_last" = true)
    (k_first_and_last : PySem.W.keepIn K (.ref f_first_and_last) = true)
    (a_through : PySem.W.nsIn K mainGlobals "through" = some (some (.ref f_through)))
    (l_through : K.lookup f_through = some ⟨oc_through, od_through, .func (PySem.W.fnOf "through" "through" (defArgs s_through) (defBody s_through) (defScope s_through) .none kV_through dc_through pm_through an_through cd_through ct_through), sl_through⟩)
    (c_through : PySem.W.codeIn K cd_through "through" = true)
    (k_through : PySem.W.keepIn K (.ref f_through) = true)
    (a_Kept_init : PySem.W.findIn K (.ref C_Kept) "__init__" = some (some (.ref f_Kept_init)))
    (i_Kept_init : PySem.W.isFn K (.ref f_Kept_init) = true)
    (l_Kept_init : K.lookup f_Kept_init = some ⟨oc_Kept_init, od_Kept_init, .func (PySem.W.fnOf "__init__" "Kept.__init__" (defArgs s_Kept_init) (defBody s_Kept_init) (defScope s_Kept_init) .none kV_Kept_init dc_Kept_init pm_Kept_init an_Kept_init cd_Kept_init ct_Kept_init), sl_Kept_init⟩)
    (c_Kept_init : PySem.W.codeIn K cd_Kept_init "Kept.__init__" = true)
    (k_Kept_init : PySem.W.keepIn K (.ref f_Kept_init) = true)
    (a_Kept_put : PySem.W.findIn K (.ref C_Kept) "put" = some (some (.ref f_Kept_put)))
    (i_Kept_put : PySem.W.isFn K (.ref f_Kept_put) = true)
    (l_Kept_put : K.lookup f_Kept_put = some ⟨oc_Kept_put, od_Kept_put, .func (PySem.W.fnOf "put" "Kept.put" (defArgs s_Kept_put) (defBody s_Kept_put) (defScope s_Kept_put) .none kV_Kept_put dc_Kept_put pm_Kept_put an_Kept_put cd_Kept_put ct_Kept_put), sl_Kept_put⟩)
    (c_Kept_put : PySem.W.codeIn K cd_Kept_put "Kept.put" = true)
    (k_Kept_put : PySem.W.keepIn K (.ref f_Kept_put) = true)
    (a_Kept_drop : PySem.W.findIn K (.ref C_Kept) "drop" = some (some (.ref f_Kept_drop)))
    (i_Kept_drop : PySem.W.isFn K (.ref f_Kept_drop) = true)
    (l_Kept_drop : K.lookup f_Kept_drop = some ⟨oc_Kept_drop, od_Kept_drop, .func (PySem.W.fnOf "drop" "Kept.drop" (defArgs s_Kept_drop) (defBody s_Kept_drop) (defScope s_Kept_drop) .none kV_Kept_drop dc_Kept_drop pm_Kept_drop an_Kept_drop cd_Kept_drop ct_Kept_drop), sl_Kept_drop⟩)
    (c_Kept_drop : PySem.W.codeIn K cd_Kept_drop "Kept.drop" = true)
    (k_Kept_drop : PySem.W.keepIn K (.ref f_Kept_drop) = true)
    (a_Kept_numbers : PySem.W.findIn K (.ref C_Kept) "numbers" = some (some (.ref f_Kept_numbers)))
    (i_Kept_numbers : PySem.W.isFn K (.ref f_Kept_numbers) = true)
    (l_Kept_numbers : K.lookup f_Kept_numbers = some ⟨oc_Kept_numbers, od_Kept_numbers, .func (PySem.W.fnOf "numbers" "Kept.numbers" (defArgs s_Kept_numbers) (defBody s_Kept_numbers) (defScope s_Kept_numbers) .none kV_Kept_numbers dc_Kept_numbers pm_Kept_numbers an_Kept_numbers cd_Kept_numbers ct_Kept_numbers), sl_Kept_numbers⟩)
    (c_Kept_numbers : PySem.W.codeIn K cd_Kept_numbers "Kept.numbers" = true)
    (k_Kept_numbers : PySem.W.keepIn K (.ref f_Kept_numbers) = true)
    (a_Kept_stretch : PySem.W.findIn K (.ref C_Kept) "stretch" = some (some (.ref f_Kept_stretch)))
    (i_Kept_stretch : PySem.W.isFn K (.ref f_Kept_stretch) = true)
    (l_Kept_stretch : K.lookup f_Kept_stretch = some ⟨oc_Kept_stretch, od_Kept_stretch, .func (PySem.W.fnOf "stretch" "Kept.stretch" (defArgs s_Kept_stretch) (defBody s_Kept_stretch) (defScope s_Kept_stretch) .none kV_Kept_stretch dc_Kept_stretch pm_Kept_stretch an_Kept_stretch cd_Kept_stretch ct_Kept_stretch), sl_Kept_stretch⟩)
    (c_Kept_stretch : PySem.W.codeIn K cd_Kept_stretch "Kept.stretch" = true)
    (k_Kept_stretch : PySem.W.keepIn K (.ref f_Kept_stretch) = true)
    (a_Kept_covers : PySem.W.findIn K (.ref C_Kept) "covers" = some (some (.ref f_Kept_covers)))
    (i_Kept_covers : PySem.W.isFn K (.ref f_Kept_covers) = true)
    (l_Kept_covers : K.lookup f_Kept_covers = some ⟨oc_Kept_covers, od_Kept_covers, .func (PySem.W.fnOf "covers" "Kept.covers" (defArgs s_Kept_covers) (defBody s_Kept_covers) (defScope s_Kept_covers) .none kV_Kept_covers dc_Kept_covers pm_Kept_covers an_Kept_covers cd_Kept_covers ct_Kept_covers), sl_Kept_covers⟩)
    (c_Kept_covers : PySem.W.codeIn K cd_Kept_covers "Kept.covers" = true)
    (k_Kept_covers : PySem.W.keepIn K (.ref f_Kept_covers) = true)
    (a_Kept__key : PySem.W.findIn K (.ref C_Kept) "_key" = some (some (.ref f_Kept__key)))
    (i_Kept__key : PySem.W.isFn K (.ref f_Kept__key) = true)
    (l_Kept__key : K.lookup f_Kept__key = some ⟨oc_Kept__key, od_Kept__key, .func (PySem.W.fnOf "_key" "Kept._key" (defArgs s_Kept__key) (defBody s_Kept__key) (defScope s_Kept__key) .none kV_Kept__key dc_Kept__key pm_Kept__key an_Kept__key cd_Kept__key ct_Kept__key), sl_Kept__key⟩)
    (c_Kept__key : PySem.W.codeIn K cd_Kept__key "Kept._key" = true)
    (k_Kept__key : PySem.W.keepIn K (.ref f_Kept__key) = true)
    (a_cost : PySem.W.nsIn K mainGlobals "cost" = some (some (.ref f_cost)))
    (l_cost : K.lookup f_cost = some ⟨oc_cost, od_cost, .func (PySem.W.fnOf "cost" "cost" (defArgs s_cost) (defBody s_cost) (defScope s_cost) .none kV_cost dc_cost pm_cost an_cost cd_cost ct_cost), sl_cost⟩)
    (c_cost : PySem.W.codeIn K cd_cost "cost" = true)
    (k_cost : PySem.W.keepIn K (.ref f_cost) = true)
    (a_Table_init : PySem.W.findIn K (.ref C_Table) "__init__" = some (some (.ref f_Table_init)))
    (i_Table_init : PySem.W.isFn K (.ref f_Table_init) = true)
    (l_Table_init : K.lookup f_Table_init = some ⟨oc_Table_init, od_Table_init, .func (PySem.W.fnOf "__init__" "Table.__init__" (defArgs s_Table_init) (defBody s_Table_init) (defScope s_Table_init) .none kV_Table_init dc_Table_init pm_Table_init an_Table_init cd_Table_init ct_Table_init), sl_Table_init⟩)
    (c_Table_init : PySem.W.codeIn K cd_Table_init "Table.__init__" = true)
    (k_Table_init : PySem.W.keepIn K (.ref f_Table_init) = true)
    (a_Table_put : PySem.W.findIn K (.ref C_Table) "put" = some (some (.ref f_Table_put)))
    (i_Table_put : PySem.W.isFn K (.ref f_Table_put) = true)
    (l_Table_put : K.lookup f_Table_put = some ⟨oc_Table_put, od_Table_put, .func (PySem.W.fnOf "put" "Table.put" (defArgs s_Table_put) (defBody s_Table_put) (defScope s_Table_put) .none kV_Table_put dc_Table_put pm_Table_put an_Table_put cd_Table_put ct_Table_put), sl_Table_put⟩)
    (c_Table_put : PySem.W.codeIn K cd_Table_put "Table.put" = true)
    (k_Table_put : PySem.W.keepIn K (.ref f_Table_put) = true)
    (a_Table_drop : PySem.W.findIn K (.ref C_Table) "drop" = some (some (.ref f_Table_drop)))
    (i_Table_drop : PySem.W.isFn K (.ref f_Table_drop) = true)
    (l_Table_drop : K.lookup f_Table_drop = some ⟨oc_Table_drop, od_Table_drop, .func (PySem.W.fnOf "drop" "Table.drop" (defArgs s_Table_drop) (defBody s_Table_drop) (defScope s_Table_drop) .none kV_Table_drop dc_Table_drop pm_Table_drop an_Table_drop cd_Table_drop ct_Table_drop), sl_Table_drop⟩)
    (c_Table_drop : PySem.W.codeIn K cd_Table_drop "Table.drop" = true)
    (k_Table_drop : PySem.W.keepIn K (.ref f_Table_drop) = true)
    (a_Table_change : PySem.W.findIn K (.ref C_Table) "change" = some (some (.ref f_Table_change)))
    (i_Table_change : PySem.W.isFn K (.ref f_Table_change) = true)
    (l_Table_change : K.lookup f_Table_change = some ⟨oc_Table_change, od_Table_change, .func (PySem.W.fnOf "change" "Table.change" (defArgs s_Table_change) (defBody s_Table_change) (defScope s_Table_change) .none kV_Table_change dc_Table_change pm_Table_change an_Table_change cd_Table_change ct_Table_change), sl_Table_change⟩)
    (c_Table_change : PySem.W.codeIn K cd_Table_change "Table.change" = true)
    (k_Table_change : PySem.W.keepIn K (.ref f_Table_change) = true)
    (a_Table_row : PySem.W.findIn K (.ref C_Table) "row" = some (some (.ref f_Table_row)))
    (i_Table_row : PySem.W.isFn K (.ref f_Table_row) = true)
    (l_Table_row : K.lookup f_Table_row = some ⟨oc_Table_row, od_Table_row, .func (PySem.W.fnOf "row" "Table.row" (defArgs s_Table_row) (defBody s_Table_row) (defScope s_Table_row) .none kV_Table_row dc_Table_row pm_Table_row an_Table_row cd_Table_row ct_Table_row), sl_Table_row⟩)
    (c_Table_row : PySem.W.codeIn K cd_Table_row "Table.row" = true)
    (k_Table_row : PySem.W.keepIn K (.ref f_Table_row) = true)
    (a_Table_numbers : PySem.W.findIn K (.ref C_Table) "numbers" = some (some (.ref f_Table_numbers)))
    (i_Table_numbers : PySem.W.isFn K (.ref f_Table_numbers) = true)
    (l_Table_numbers : K.lookup f_Table_numbers = some ⟨oc_Table_numbers, od_Table_numbers, .func (PySem.W.fnOf "numbers" "Table.numbers" (defArgs s_Table_numbers) (defBody s_Table_numbers) (defScope s_Table_numbers) .none kV_Table_numbers dc_Table_numbers pm_Table_numbers an_Table_numbers cd_Table_numbers ct_Table_numbers), sl_Table_numbers⟩)
    (c_Table_numbers : PySem.W.codeIn K cd_Table_numbers "Table.numbers" = true)
    (k_Table_numbers : PySem.W.keepIn K (.ref f_Table_numbers) = true)
    (a_Table_tell : PySem.W.findIn K (.ref C_Table) "tell" = some (some (.ref f_Table_tell)))
    (i_Table_tell : PySem.W.isFn K (.ref f_Table_tell) = true)
    (l_Table_tell : K.lookup f_Table_tell = some ⟨oc_Table_tell, od_Table_tell, .func (PySem.W.fnOf "tell" "Table.tell" (defArgs s_Table_tell) (defBody s_Table_tell) (defScope s_Table_tell) .none kV_Table_tell dc_Table_tell pm_Table_tell an_Table_tell cd_Table_tell ct_Table_tell), sl_Table_tell⟩)
    (c_Table_tell : PySem.W.codeIn K cd_Table_tell "Table.tell" = true)
    (k_Table_tell : PySem.W.keepIn K (.ref f_Table_tell) = true)
    (a_Table_forget : PySem.W.findIn K (.ref C_Table) "forget" = some (some (.ref f_Table_forget)))
    (i_Table_forget : PySem.W.isFn K (.ref f_Table_forget) = true)
    (l_Table_forget : K.lookup f_Table_forget = some ⟨oc_Table_forget, od_Table_forget, .func (PySem.W.fnOf "forget" "Table.forget" (defArgs s_Table_forget) (defBody s_Table_forget) (defScope s_Table_forget) .none kV_Table_forget dc_Table_forget pm_Table_forget an_Table_forget cd_Table_forget ct_Table_forget), sl_Table_forget⟩)
    (c_Table_forget : PySem.W.codeIn K cd_Table_forget "Table.forget" = true)
    (k_Table_forget : PySem.W.keepIn K (.ref f_Table_forget) = true)
    (a_Table_orders : PySem.W.findIn K (.ref C_Table) "orders" = some (some (.ref f_Table_orders)))
    (i_Table_orders : PySem.W.isFn K (.ref f_Table_orders) = true)
    (l_Table_orders : K.lookup f_Table_orders = some ⟨oc_Table_orders, od_Table_orders, .func (PySem.W.fnOf "orders" "Table.orders" (defArgs s_Table_orders) (defBody s_Table_orders) (defScope s_Table_orders) .none kV_Table_orders dc_Table_orders pm_Table_orders an_Table_orders cd_Table_orders ct_Table_orders), sl_Table_orders⟩)
    (c_Table_orders : PySem.W.codeIn K cd_Table_orders "Table.orders" = true)
    (k_Table_orders : PySem.W.keepIn K (.ref f_Table_orders) = true)
    (a_Table_listed : PySem.W.findIn K (.ref C_Table) "listed" = some (some (.ref f_Table_listed)))
    (i_Table_listed : PySem.W.isFn K (.ref f_Table_listed) = true)
    (l_Table_listed : K.lookup f_Table_listed = some ⟨oc_Table_listed, od_Table_listed, .func (PySem.W.fnOf "listed" "Table.listed" (defArgs s_Table_listed) (defBody s_Table_listed) (defScope s_Table_listed) .none kV_Table_listed dc_Table_listed pm_Table_listed an_Table_listed cd_Table_listed ct_Table_listed), sl_Table_listed⟩)
    (c_Table_listed : PySem.W.codeIn K cd_Table_listed "Table.listed" = true)
    (k_Table_listed : PySem.W.keepIn K (.ref f_Table_listed) = true)
    (a_Table_costs : PySem.W.findIn K (.ref C_Table) "costs" = some (some (.ref f_Table_costs)))
    (i_Table_costs : PySem.W.isFn K (.ref f_Table_costs) = true)
    (l_Table_costs : K.lookup f_Table_costs = some ⟨oc_Table_costs, od_Table_costs, .func (PySem.W.fnOf "costs" "Table.costs" (defArgs s_Table_costs) (defBody s_Table_costs) (defScope s_Table_costs) .none kV_Table_costs dc_Table_costs pm_Table_costs an_Table_costs cd_Table_costs ct_Table_costs), sl_Table_costs⟩)
    (c_Table_costs : PySem.W.codeIn K cd_Table_costs "Table.costs" = true)
    (k_Table_costs : PySem.W.keepIn K (.ref f_Table_costs) = true)
    (a_Table_plan : PySem.W.findIn K (.ref C_Table) "plan" = some (some (.ref f_Table_plan)))
    (i_Table_plan : PySem.W.isFn K (.ref f_Table_plan) = true)
    (l_Table_plan : K.lookup f_Table_plan = some ⟨oc_Table_plan, od_Table_plan, .func (PySem.W.fnOf "plan" "Table.plan" (defArgs s_Table_plan) (defBody s_Table_plan) (defScope s_Table_plan) .none kV_Table_plan dc_Table_plan pm_Table_plan an_Table_plan (.ref cc) ct_Table_plan), sl_Table_plan⟩)
    (c_Table_plan : PySem.W.codeIn K (.ref cc) "Table.plan" = true)
    (k_Table_plan : PySem.W.keepIn K (.ref f_Table_plan) = true)
    (a_Table_walked : PySem.W.findIn K (.ref C_Table) "walked" = some (some (.ref f_Table_walked)))
    (i_Table_walked : PySem.W.isFn K (.ref f_Table_walked) = true)
    (l_Table_walked : K.lookup f_Table_walked = some ⟨oc_Table_walked, od_Table_walked, .func (PySem.W.fnOf "walked" "Table.walked" (defArgs s_Table_walked) (defBody s_Table_walked) (defScope s_Table_walked) .none kV_Table_walked dc_Table_walked pm_Table_walked an_Table_walked cd_Table_walked ct_Table_walked), sl_Table_walked⟩)
    (c_Table_walked : PySem.W.codeIn K cd_Table_walked "Table.walked" = true)
    (k_Table_walked : PySem.W.keepIn K (.ref f_Table_walked) = true)
    (a_Table_ask_by : PySem.W.findIn K (.ref C_Table) "ask_by" = some (some (.ref f_Table_ask_by)))
    (i_Table_ask_by : PySem.W.isFn K (.ref f_Table_ask_by) = true)
    (l_Table_ask_by : K.lookup f_Table_ask_by = some ⟨oc_Table_ask_by, od_Table_ask_by, .func (PySem.W.fnOf "ask_by" "Table.ask_by" (defArgs s_Table_ask_by) (defBody s_Table_ask_by) (defScope s_Table_ask_by) .none kV_Table_ask_by dc_Table_ask_by pm_Table_ask_by an_Table_ask_by cd_Table_ask_by ct_Table_ask_by), sl_Table_ask_by⟩)
    (c_Table_ask_by : PySem.W.codeIn K cd_Table_ask_by "Table.ask_by" = true)
    (k_Table_ask_by : PySem.W.keepIn K (.ref f_Table_ask_by) = true)
    (a_Table_ask : PySem.W.findIn K (.ref C_Table) "ask" = some (some (.ref f_Table_ask)))
    (i_Table_ask : PySem.W.isFn K (.ref f_Table_ask) = true)
    (l_Table_ask : K.lookup f_Table_ask = some ⟨oc_Table_ask, od_Table_ask, .func (PySem.W.fnOf "ask" "Table.ask" (defArgs s_Table_ask) (defBody s_Table_ask) (defScope s_Table_ask) .none kV_Table_ask dc_Table_ask pm_Table_ask an_Table_ask cd_Table_ask ct_Table_ask), sl_Table_ask⟩)
    (c_Table_ask : PySem.W.codeIn K cd_Table_ask "Table.ask" = true)
    (k_Table_ask : PySem.W.keepIn K (.ref f_Table_ask) = true)
    (a_Table__find : PySem.W.findIn K (.ref C_Table) "_find" = some (some (.ref f_Table__find)))
    (i_Table__find : PySem.W.isFn K (.ref f_Table__find) = true)
    (l_Table__find : K.lookup f_Table__find = some ⟨oc_Table__find, od_Table__find, .func (PySem.W.fnOf "_find" "Table._find" (defArgs s_Table__find) (defBody s_Table__find) (defScope s_Table__find) .none kV_Table__find dc_Table__find pm_Table__find an_Table__find cd_Table__find ct_Table__find), sl_Table__find⟩)
    (c_Table__find : PySem.W.codeIn K cd_Table__find "Table._find" = true)
    (k_Table__find : PySem.W.keepIn K (.ref f_Table__find) = true)
    (a_l_at : PySem.W.nsIn K mainGlobals "_law_at" = some (some (.ref f_l_at)))
    (l_l_at : K.lookup f_l_at = some ⟨oc_l_at, od_l_at, .func (PySem.W.fnOf "_law_at" "_law_at" (defArgs s_l_at) (defBody s_l_at) (defScope s_l_at) .none kV_l_at dc_l_at pm_l_at an_l_at cd_l_at ct_l_at), sl_l_at⟩)
    (c_l_at : PySem.W.codeIn K cd_l_at "_law_at" = true)
    (k_l_at : PySem.W.keepIn K (.ref f_l_at) = true)
    (a_l_value : PySem.W.nsIn K mainGlobals "_law_value" = some (some (.ref f_l_value)))
    (l_l_value : K.lookup f_l_value = some ⟨oc_l_value, od_l_value, .func (PySem.W.fnOf "_law_value" "_law_value" (defArgs s_l_value) (defBody s_l_value) (defScope s_l_value) .none kV_l_value dc_l_value pm_l_value an_l_value cd_l_value ct_l_value), sl_l_value⟩)
    (c_l_value : PySem.W.codeIn K cd_l_value "_law_value" = true)
    (k_l_value : PySem.W.keepIn K (.ref f_l_value) = true)
    (a_l_row : PySem.W.nsIn K mainGlobals "_law_row" = some (some (.ref f_l_row)))
    (l_l_row : K.lookup f_l_row = some ⟨oc_l_row, od_l_row, .func (PySem.W.fnOf "_law_row" "_law_row" (defArgs s_l_row) (defBody s_l_row) (defScope s_l_row) .none kV_l_row dc_l_row pm_l_row an_l_row cd_l_row ct_l_row), sl_l_row⟩)
    (c_l_row : PySem.W.codeIn K cd_l_row "_law_row" = true)
    (k_l_row : PySem.W.keepIn K (.ref f_l_row) = true)
    (a_l_order : PySem.W.nsIn K mainGlobals "_law_order" = some (some (.ref f_l_order)))
    (l_l_order : K.lookup f_l_order = some ⟨oc_l_order, od_l_order, .func (PySem.W.fnOf "_law_order" "_law_order" (defArgs s_l_order) (defBody s_l_order) (defScope s_l_order) .none kV_l_order dc_l_order pm_l_order an_l_order cd_l_order ct_l_order), sl_l_order⟩)
    (c_l_order : PySem.W.codeIn K cd_l_order "_law_order" = true)
    (k_l_order : PySem.W.keepIn K (.ref f_l_order) = true)
    (a_l_triple : PySem.W.nsIn K mainGlobals "_law_triple" = some (some (.ref f_l_triple)))
    (l_l_triple : K.lookup f_l_triple = some ⟨oc_l_triple, od_l_triple, .func (PySem.W.fnOf "_law_triple" "_law_triple" (defArgs s_l_triple) (defBody s_l_triple) (defScope s_l_triple) .none kV_l_triple dc_l_triple pm_l_triple an_l_triple cd_l_triple ct_l_triple), sl_l_triple⟩)
    (c_l_triple : PySem.W.codeIn K cd_l_triple "_law_triple" = true)
    (k_l_triple : PySem.W.keepIn K (.ref f_l_triple) = true)
    (a_l_deed : PySem.W.nsIn K mainGlobals "_law_deed" = some (some (.ref f_l_deed)))
    (l_l_deed : K.lookup f_l_deed = some ⟨oc_l_deed, od_l_deed, .func (PySem.W.fnOf "_law_deed" "_law_deed" (defArgs s_l_deed) (defBody s_l_deed) (defScope s_l_deed) .none kV_l_deed dc_l_deed pm_l_deed an_l_deed cd_l_deed ct_l_deed), sl_l_deed⟩)
    (c_l_deed : PySem.W.codeIn K cd_l_deed "_law_deed" = true)
    (k_l_deed : PySem.W.keepIn K (.ref f_l_deed) = true)
    (a_l_orders : PySem.W.nsIn K mainGlobals "_law_orders" = some (some (.ref f_l_orders)))
    (l_l_orders : K.lookup f_l_orders = some ⟨oc_l_orders, od_l_orders, .func (PySem.W.fnOf "_law_orders" "_law_orders" (defArgs s_l_orders) (defBody s_l_orders) (defScope s_l_orders) .none kV_l_orders dc_l_orders pm_l_orders an_l_orders cd_l_orders ct_l_orders), sl_l_orders⟩)
    (c_l_orders : PySem.W.codeIn K cd_l_orders "_law_orders" = true)
    (k_l_orders : PySem.W.keepIn K (.ref f_l_orders) = true)
    (a_l_same : PySem.W.nsIn K mainGlobals "_law_same" = some (some (.ref f_l_same)))
    (l_l_same : K.lookup f_l_same = some ⟨oc_l_same, od_l_same, .func (PySem.W.fnOf "_law_same" "_law_same" (defArgs s_l_same) (defBody s_l_same) (defScope s_l_same) .none kV_l_same dc_l_same pm_l_same an_l_same cd_l_same ct_l_same), sl_l_same⟩)
    (c_l_same : PySem.W.codeIn K cd_l_same "_law_same" = true)
    (k_l_same : PySem.W.keepIn K (.ref f_l_same) = true)
    (a_law : PySem.W.nsIn K mainGlobals "law" = some (some (.ref f_law)))
    (l_law : K.lookup f_law = some ⟨oc_law, od_law, .func (PySem.W.fnOf "law" "law" (defArgs s_law) (defBody s_law) (defScope s_law) .none kV_law dc_law pm_law an_law cd_law ct_law), sl_law⟩)
    (c_law : PySem.W.codeIn K cd_law "law" = true)
    (k_law : PySem.W.keepIn K (.ref f_law) = true)
    (z_ValueError : PySem.W.nsIn K mainGlobals "ValueError" = some none)
    (z_zip : PySem.W.nsIn K mainGlobals "zip" = some none)
    (z_len : PySem.W.nsIn K mainGlobals "len" = some none)
    (z_all : PySem.W.nsIn K mainGlobals "all" = some none)
    (z_sorted : PySem.W.nsIn K mainGlobals "sorted" = some none)
    (z_list : PySem.W.nsIn K mainGlobals "list" = some none)
    (z_range : PySem.W.nsIn K mainGlobals "range" = some none)
    (z_tuple : PySem.W.nsIn K mainGlobals "tuple" = some none)
    (z_isinstance : PySem.W.nsIn K mainGlobals "isinstance" = some none)
    (z_int : PySem.W.nsIn K mainGlobals "int" = some none)
    (z_max : PySem.W.nsIn K mainGlobals "max" = some none)
    (z_min : PySem.W.nsIn K mainGlobals "min" = some none)
    (z_bool : PySem.W.nsIn K mainGlobals "bool" = some none)
    (z_set : PySem.W.nsIn K mainGlobals "set" = some none)
    (g_WIDEST : PySem.W.nsIn K mainGlobals "WIDEST" = some (some (.int 6 t_WIDEST)))
    (g_MOST_TRIPLES : PySem.W.nsIn K mainGlobals "MOST_TRIPLES" = some (some (.int 20 t_MOST_TRIPLES)))
    (g_MOST_ROWS : PySem.W.nsIn K mainGlobals "MOST_ROWS" = some (some (.int 200 t_MOST_ROWS)))
    (g_MOST_ORDERS : PySem.W.nsIn K mainGlobals "MOST_ORDERS" = some (some (.int 8 t_MOST_ORDERS))) :
    ∃ fd : FuncData, (∀ (s : Shared) (v : Value), BindsTo s fd ⟨[v], []⟩ [("_law_script", v)]) ∧ ∀ base : Heap, K.In base → base.Ns mainGlobals mg → LamX.TabB base mg cc PT → FnOk l.prog w K mg base CX0 10 fa fd ["_law_script"] (spLawP K PT) := by
  have e := hfa.symm.trans (PySem.W.mg_of X G a_law)
  cases e
  have T_Kept : Cls K C_Kept := ⟨pg_Kept, hd_Kept, po_Kept, sa_Kept⟩
  have m_Kept := PySem.W.mg_of X G aC_Kept
  have pe_Kept : Wy.PlainEq K C_Kept := ⟨L2.mro_obj mk_Kept, eq_Kept⟩
  have T_Table : Cls K C_Table := ⟨pg_Table, hd_Table, po_Table, sa_Table⟩
  have m_Table := PySem.W.mg_of X G aC_Table
  have F_whole := fun_mk (st := s_whole) l_whole c_whole k_whole
  have m_whole := PySem.W.mg_of X G a_whole
  have b_whole := F_whole.binds (ps := ["thing"]) fun _ _ _ _ _ _ us hl => match us, hl with | [_], _ => rfl
  have F_is_column := fun_mk (st := s_is_column) l_is_column c_is_column k_is_column
  have m_is_column := PySem.W.mg_of X G a_is_column
  have b_is_column := F_is_column.binds (ps := ["thing", "width"]) fun _ _ _ _ _ _ us hl => match us, hl with | [_, _], _ => rfl
  have F_is_end := fun_mk (st := s_is_end) l_is_end c_is_end k_is_end
  have m_is_end := PySem.W.mg_of X G a_is_end
  have b_is_end := F_is_end.binds (ps := ["thing"]) fun _ _ _ _ _ _ us hl => match us, hl with | [_], _ => rfl
  have F_is_triple := fun_mk (st := s_is_triple) l_is_triple c_is_triple k_is_triple
  have m_is_triple := PySem.W.mg_of X G a_is_triple
  have b_is_triple := F_is_triple.binds (ps := ["thing", "width"]) fun _ _ _ _ _ _ us hl => match us, hl with | [_, _], _ => rfl
  have F_is_order := fun_mk (st := s_is_order) l_is_order c_is_order k_is_order
  have m_is_order := PySem.W.mg_of X G a_is_order
  have b_is_order := F_is_order.binds (ps := ["thing", "width"]) fun _ _ _ _ _ _ us hl => match us, hl with | [_, _], _ => rfl
  have F_check_width := fun_mk (st := s_check_width) l_check_width c_check_width k_check_width
  have m_check_width := PySem.W.mg_of X G a_check_width
  have b_check_width := F_check_width.binds (ps := ["width"]) fun _ _ _ _ _ _ us hl => match us, hl with | [_], _ => rfl
  have F_check_row := fun_mk (st := s_check_row) l_check_row c_check_row k_check_row
  have m_check_row := PySem.W.mg_of X G a_check_row
  have b_check_row := F_check_row.binds (ps := ["row", "width"]) fun _ _ _ _ _ _ us hl => match us, hl with | [_, _], _ => rfl
  have F_check_column := fun_mk (st := s_check_column) l_check_column c_check_column k_check_column
  have m_check_column := PySem.W.mg_of X G a_check_column
  have b_check_column := F_check_column.binds (ps := ["column", "width"]) fun _ _ _ _ _ _ us hl => match us, hl with | [_, _], _ => rfl
  have F_check_value := fun_mk (st := s_check_value) l_check_value c_check_value k_check_value
  have m_check_value := PySem.W.mg_of X G a_check_value
  have b_check_value := F_check_value.binds (ps := ["value"]) fun _ _ _ _ _ _ us hl => match us, hl with | [_], _ => rfl
  have F_check_wish := fun_mk (st := s_check_wish) l_check_wish c_check_wish k_check_wish
  have m_check_wish := PySem.W.mg_of X G a_check_wish
  have b_check_wish := F_check_wish.binds (ps := ["wish", "width"]) fun _ _ _ _ _ _ us hl => match us, hl with | [_, _], _ => rfl
  have F_check_order := fun_mk (st := s_check_order) l_check_order c_check_order k_check_order
  have m_check_order := PySem.W.mg_of X G a_check_order
  have b_check_order := F_check_order.binds (ps := ["order", "width"]) fun _ _ _ _ _ _ us hl => match us, hl with | [_, _], _ => rfl
  have F_less := fun_mk (st := s_less) l_less c_less k_less
  have m_less := PySem.W.mg_of X G a_less
  have b_less := F_less.binds (ps := ["one", "other"]) fun _ _ _ _ _ _ us hl => match us, hl with | [_, _], _ => rfl
  have F_below := fun_mk (st := s_below) l_below c_below k_below
  have m_below := PySem.W.mg_of X G a_below
  have b_below := F_below.binds (ps := ["rows", "key"]) fun _ _ _ _ _ _ us hl => match us, hl with | [_, _], _ => rfl
  have F_fits := fun_mk (st := s_fits) l_fits c_fits k_fits
  have m_fits := PySem.W.mg_of X G a_fits
  have b_fits := F_fits.binds (ps := ["row", "wish"]) fun _ _ _ _ _ _ us hl => match us, hl with | [_, _], _ => rfl
  have F_fits_triple := fun_mk (st := s_fits_triple) l_fits_triple c_fits_triple k_fits_triple
  have m_fits_triple := PySem.W.mg_of X G a_fits_triple
  have b_fits_triple := F_fits_triple.binds (ps := ["row", "triple"]) fun _ _ _ _ _ _ us hl => match us, hl with | [_, _], _ => rfl
  have F_merged := fun_mk (st := s_merged) l_merged c_merged k_merged
  have m_merged := PySem.W.mg_of X G a_merged
  have b_merged := F_merged.binds (ps := ["wish"]) fun _ _ _ _ _ _ us hl => match us, hl with | [_], _ => rfl
  have F_merged_triple := fun_mk (st := s_merged_triple) l_merged_triple c_merged_triple k_merged_triple
  have m_merged_triple := PySem.W.mg_of X G a_merged_triple
  have b_merged_triple := F_merged_triple.binds (ps := ["column", "wish"]) fun _ _ _ _ _ _ us hl => match us, hl with | [_, _], _ => rfl
  have F_first_and_last := fun_mk (st := s_first_and_last) l_first_and_last c_first_and_last k_first_and_last
  have m_first_and_last := PySem.W.mg_of X G a_first_and_last
  have b_first_and_last := F_first_and_last.binds (ps := ["columns", "wish"]) fun _ _ _ _ _ _ us hl => match us, hl with | [_, _], _ => rfl
  have F_through := fun_mk (st := s_through) l_through c_through k_through
  have m_through := PySem.W.mg_of X G a_through
  have b_through := F_through.binds (ps := ["keys", "last"]) fun _ _ _ _ _ _ us hl => match us, hl with | [_, _], _ => rfl
  have F_Kept_init := fun_mk (st := s_Kept_init) l_Kept_init c_Kept_init k_Kept_init
  have b_Kept_init := F_Kept_init.binds (ps := ["self", "columns"]) fun _ _ _ _ _ _ us hl => match us, hl with | [_, _], _ => rfl
  have F_Kept_put := fun_mk (st := s_Kept_put) l_Kept_put c_Kept_put k_Kept_put
  have b_Kept_put := F_Kept_put.binds (ps := ["self", "number", "row"]) fun _ _ _ _ _ _ us hl => match us, hl with | [_, _, _], _ => rfl
  have F_Kept_drop := fun_mk (st := s_Kept_drop) l_Kept_drop c_Kept_drop k_Kept_drop
  have b_Kept_drop := F_Kept_drop.binds (ps := ["self", "number", "row"]) fun _ _ _ _ _ _ us hl => match us, hl with | [_, _, _], _ => rfl
  have F_Kept_numbers := fun_mk (st := s_Kept_numbers) l_Kept_numbers c_Kept_numbers k_Kept_numbers
  have b_Kept_numbers := F_Kept_numbers.binds (ps := ["self"]) fun _ _ _ _ _ _ us hl => match us, hl with | [_], _ => rfl
  have F_Kept_stretch := fun_mk (st := s_Kept_stretch) l_Kept_stretch c_Kept_stretch k_Kept_stretch
  have b_Kept_stretch := F_Kept_stretch.binds (ps := ["self", "wish"]) fun _ _ _ _ _ _ us hl => match us, hl with | [_, _], _ => rfl
  have F_Kept_covers := fun_mk (st := s_Kept_covers) l_Kept_covers c_Kept_covers k_Kept_covers
  have b_Kept_covers := F_Kept_covers.binds (ps := ["self", "wish"]) fun _ _ _ _ _ _ us hl => match us, hl with | [_, _], _ => rfl
  have F_Kept__key := fun_mk (st := s_Kept__key) l_Kept__key c_Kept__key k_Kept__key
  have b_Kept__key := F_Kept__key.binds (ps := ["self", "number", "row"]) fun _ _ _ _ _ _ us hl => match us, hl with | [_, _, _], _ => rfl
  have F_cost := fun_mk (st := s_cost) l_cost c_cost k_cost
  have m_cost := PySem.W.mg_of X G a_cost
  have b_cost := F_cost.binds (ps := ["kept", "wish"]) fun _ _ _ _ _ _ us hl => match us, hl with | [_, _], _ => rfl
  have F_Table_init := fun_mk (st := s_Table_init) l_Table_init c_Table_init k_Table_init
  have b_Table_init := F_Table_init.binds (ps := ["self", "width"]) fun _ _ _ _ _ _ us hl => match us, hl with | [_, _], _ => rfl
  have F_Table_put := fun_mk (st := s_Table_put) l_Table_put c_Table_put k_Table_put
  have b_Table_put := F_Table_put.binds (ps := ["self", "row"]) fun _ _ _ _ _ _ us hl => match us, hl with | [_, _], _ => rfl
  have F_Table_drop := fun_mk (st := s_Table_drop) l_Table_drop c_Table_drop k_Table_drop
  have b_Table_drop := F_Table_drop.binds (ps := ["self", "number"]) fun _ _ _ _ _ _ us hl => match us, hl with | [_, _], _ => rfl
  have F_Table_change := fun_mk (st := s_Table_change) l_Table_change c_Table_change k_Table_change
  have b_Table_change := F_Table_change.binds (ps := ["self", "number", "column", "value"]) fun _ _ _ _ _ _ us hl => match us, hl with | [_, _, _, _], _ => rfl
  have F_Table_row := fun_mk (st := s_Table_row) l_Table_row c_Table_row k_Table_row
  have b_Table_row := F_Table_row.binds (ps := ["self", "number"]) fun _ _ _ _ _ _ us hl => match us, hl with | [_, _], _ => rfl
  have F_Table_numbers := fun_mk (st := s_Table_numbers) l_Table_numbers c_Table_numbers k_Table_numbers
  have b_Table_numbers := F_Table_numbers.binds (ps := ["self"]) fun _ _ _ _ _ _ us hl => match us, hl with | [_], _ => rfl
  have F_Table_tell := fun_mk (st := s_Table_tell) l_Table_tell c_Table_tell k_Table_tell
  have b_Table_tell := F_Table_tell.binds (ps := ["self", "order"]) fun _ _ _ _ _ _ us hl => match us, hl with | [_, _], _ => rfl
  have F_Table_forget := fun_mk (st := s_Table_forget) l_Table_forget c_Table_forget k_Table_forget
  have b_Table_forget := F_Table_forget.binds (ps := ["self", "order"]) fun _ _ _ _ _ _ us hl => match us, hl with | [_, _], _ => rfl
  have F_Table_orders := fun_mk (st := s_Table_orders) l_Table_orders c_Table_orders k_Table_orders
  have b_Table_orders := F_Table_orders.binds (ps := ["self"]) fun _ _ _ _ _ _ us hl => match us, hl with | [_], _ => rfl
  have F_Table_listed := fun_mk (st := s_Table_listed) l_Table_listed c_Table_listed k_Table_listed
  have b_Table_listed := F_Table_listed.binds (ps := ["self", "order"]) fun _ _ _ _ _ _ us hl => match us, hl with | [_, _], _ => rfl
  have F_Table_costs := fun_mk (st := s_Table_costs) l_Table_costs c_Table_costs k_Table_costs
  have b_Table_costs := F_Table_costs.binds (ps := ["self", "wish"]) fun _ _ _ _ _ _ us hl => match us, hl with | [_, _], _ => rfl
  have FC_Table_plan : Wy.FunC K "plan" "Table.plan" s_Table_plan f_Table_plan _ cc := ⟨_, _, _, _, _, _, _, _, rfl, l_Table_plan, c_Table_plan⟩
  have F_Table_plan := fun_mk (st := s_Table_plan) l_Table_plan c_Table_plan k_Table_plan
  have b_Table_plan := F_Table_plan.binds (ps := ["self", "wish"]) fun _ _ _ _ _ _ us hl => match us, hl with | [_, _], _ => rfl
  have F_Table_walked := fun_mk (st := s_Table_walked) l_Table_walked c_Table_walked k_Table_walked
  have b_Table_walked := F_Table_walked.binds (ps := ["self", "way", "wish"]) fun _ _ _ _ _ _ us hl => match us, hl with | [_, _, _], _ => rfl
  have F_Table_ask_by := fun_mk (st := s_Table_ask_by) l_Table_ask_by c_Table_ask_by k_Table_ask_by
  have b_Table_ask_by := F_Table_ask_by.binds (ps := ["self", "way", "wish"]) fun _ _ _ _ _ _ us hl => match us, hl with | [_, _, _], _ => rfl
  have F_Table_ask := fun_mk (st := s_Table_ask) l_Table_ask c_Table_ask k_Table_ask
  have b_Table_ask := F_Table_ask.binds (ps := ["self", "wish"]) fun _ _ _ _ _ _ us hl => match us, hl with | [_, _], _ => rfl
  have F_Table__find := fun_mk (st := s_Table__find) l_Table__find c_Table__find k_Table__find
  have b_Table__find := F_Table__find.binds (ps := ["self", "order"]) fun _ _ _ _ _ _ us hl => match us, hl with | [_, _], _ => rfl
  have F_l_at := fun_mk (st := s_l_at) l_l_at c_l_at k_l_at
  have m_l_at := PySem.W.mg_of X G a_l_at
  have b_l_at := F_l_at.binds (ps := ["_law_script", "_law_k"]) fun _ _ _ _ _ _ us hl => match us, hl with | [_, _], _ => rfl
  have F_l_value := fun_mk (st := s_l_value) l_l_value c_l_value k_l_value
  have m_l_value := PySem.W.mg_of X G a_l_value
  have b_l_value := F_l_value.binds (ps := ["_law_cell"]) fun _ _ _ _ _ _ us hl => match us, hl with | [_], _ => rfl
  have F_l_row := fun_mk (st := s_l_row) l_l_row c_l_row k_l_row
  have m_l_row := PySem.W.mg_of X G a_l_row
  have b_l_row := F_l_row.binds (ps := ["_law_cell", "_law_width"]) fun _ _ _ _ _ _ us hl => match us, hl with | [_, _], _ => rfl
  have F_l_order := fun_mk (st := s_l_order) l_l_order c_l_order k_l_order
  have m_l_order := PySem.W.mg_of X G a_l_order
  have b_l_order := F_l_order.binds (ps := ["_law_cell", "_law_width"]) fun _ _ _ _ _ _ us hl => match us, hl with | [_, _], _ => rfl
  have F_l_triple := fun_mk (st := s_l_triple) l_l_triple c_l_triple k_l_triple
  have m_l_triple := PySem.W.mg_of X G a_l_triple
  have b_l_triple := F_l_triple.binds (ps := ["_law_cell", "_law_width", "_law_rows"]) fun _ _ _ _ _ _ us hl => match us, hl with | [_, _, _], _ => rfl
  have F_l_deed := fun_mk (st := s_l_deed) l_l_deed c_l_deed k_l_deed
  have m_l_deed := PySem.W.mg_of X G a_l_deed
  have b_l_deed := F_l_deed.binds (ps := ["_law_one", "_law_other", "_law_cell", "_law_width"]) fun _ _ _ _ _ _ us hl => match us, hl with | [_, _, _, _], _ => rfl
  have F_l_orders := fun_mk (st := s_l_orders) l_l_orders c_l_orders k_l_orders
  have m_l_orders := PySem.W.mg_of X G a_l_orders
  have b_l_orders := F_l_orders.binds (ps := ["_law_script", "_law_width"]) fun _ _ _ _ _ _ us hl => match us, hl with | [_, _], _ => rfl
  have F_l_same := fun_mk (st := s_l_same) l_l_same c_l_same k_l_same
  have m_l_same := PySem.W.mg_of X G a_l_same
  have b_l_same := F_l_same.binds (ps := ["_law_one", "_law_other", "_law_wish", "_law_orders_here"]) fun _ _ _ _ _ _ us hl => match us, hl with | [_, _, _, _], _ => rfl
  have F_law := fun_mk (st := s_law) l_law c_law k_law
  have m_law := PySem.W.mg_of X G a_law
  have b_law := F_law.binds (ps := ["_law_script"]) fun _ _ _ _ _ _ us hl => match us, hl with | [_], _ => rfl
  have Z : Zs mg := ⟨PySem.W.mg_none_of X G z_ValueError, PySem.W.mg_none_of X G z_zip, PySem.W.mg_none_of X G z_len, PySem.W.mg_none_of X G z_all, PySem.W.mg_none_of X G z_sorted, PySem.W.mg_none_of X G z_list, PySem.W.mg_none_of X G z_range, PySem.W.mg_none_of X G z_tuple, PySem.W.mg_none_of X G z_isinstance, PySem.W.mg_none_of X G z_int, PySem.W.mg_none_of X G z_max, PySem.W.mg_none_of X G z_min, PySem.W.mg_none_of X G z_bool, PySem.W.mg_none_of X G z_set, ⟨_, PySem.W.mg_of X G g_WIDEST⟩, ⟨_, PySem.W.mg_of X G g_MOST_TRIPLES⟩, ⟨_, PySem.W.mg_of X G g_MOST_ROWS⟩, ⟨_, PySem.W.mg_of X G g_MOST_ORDERS⟩⟩
  exact ⟨PySem.W.fnOf "law" "law" (defArgs s_law) (defBody s_law) (defScope s_law) .none kV_law dc_law pm_law an_law cd_law ct_law, fun s v => .of_eq rfl, fun base _ _ TB => ok_law13 (cls := T_Table) (noW := N_Table_width) (PT := PT) (qn := "Table.plan.<locals>.<lambda>") F_law Z (cl_mk F_l_at (ok_at F_l_at Z) m_l_at b_l_at) (cl_mk F_l_order (ok_order F_l_order Z) m_l_order b_l_order) (cl_mk F_l_orders (ok_orders13 F_l_orders Z (cl_mk F_l_at (ok_at F_l_at Z) m_l_at b_l_at) (cl_mk F_l_order (ok_order F_l_order Z) m_l_order b_l_order)) m_l_orders b_l_orders) (cl_mk F_l_triple (ok_triple F_l_triple Z (cl_mk F_l_value (ok_value F_l_value) m_l_value b_l_value)) m_l_triple b_l_triple) ⟨⟨_, _, _, ⟨mk_Table, a_Table_init, i_Table_init, kc_Table⟩, (ok_tinit F_Table_init Z T_Table N_Table_width N_Table__rows N_Table__next N_Table__kept (cl_mk F_check_width (ok_check_width F_check_width Z (cl_mk F_whole (ok_pwhole F_whole Z) m_whole b_whole)) m_check_width b_check_width)).mono (by decide), m_Table, b_Table_init⟩⟩ ⟨⟨_, _, _, T_Table, ⟨a_Table_tell, i_Table_tell, k_Table_tell⟩, (ok_ttell F_Table_tell Z T_Table N_Table_width N_Table__rows N_Table__next N_Table__kept T_Kept N_Kept_columns (cl_mk F_check_order (ok_check_order F_check_order Z (cl_mk F_is_order (ok_is_order F_is_order Z (cl_mk F_is_column (ok_is_column F_is_column Z (cl_mk F_whole (ok_pwhole F_whole Z) m_whole b_whole)) m_is_column b_is_column)) m_is_order b_is_order)) m_check_order b_check_order) ⟨⟨_, _, _, T_Table, ⟨a_Table_orders, i_Table_orders, k_Table_orders⟩, ok_torders (lv := 0) F_Table_orders Z T_Table N_Table__kept T_Kept N_Kept_columns, b_Table_orders⟩⟩ ⟨⟨_, _, _, T_Table, ⟨a_Table_numbers, i_Table_numbers, k_Table_numbers⟩, ok_tnumbers (lv := 0) F_Table_numbers Z T_Table N_Table__rows, b_Table_numbers⟩⟩ ⟨⟨_, _, _, ⟨mk_Kept, a_Kept_init, i_Kept_init, kc_Kept⟩, ok_kinit (lv := 0) F_Kept_init Z T_Kept N_Kept_columns N_Kept__keys, m_Kept, b_Kept_init⟩⟩ ⟨⟨_, _, _, T_Kept, ⟨a_Kept_put, i_Kept_put, k_Kept_put⟩, ok_kput F_Kept_put T_Kept N_Kept_columns N_Kept__keys ⟨⟨_, _, _, T_Kept, ⟨a_Kept__key, i_Kept__key, k_Kept__key⟩, ok_key F_Kept__key T_Kept N_Kept_columns, b_Kept__key⟩⟩ (cl_mk F_below (ok_below F_below Z (cl_mk F_less (ok_less F_less Z) m_less b_less)) m_below b_below), b_Kept_put⟩⟩).mono (by decide), b_Table_tell⟩⟩ ⟨⟨_, _, _, T_Table, ⟨a_Table_forget, i_Table_forget, k_Table_forget⟩, (ok_tforget F_Table_forget Z pe_Kept T_Table N_Table_width N_Table__kept ⟨⟨_, _, _, T_Table, ⟨a_Table__find, i_Table__find, k_Table__find⟩, ok_tfind F_Table__find Z T_Table N_Table_width N_Table__kept T_Kept N_Kept_columns (cl_mk F_check_order (ok_check_order F_check_order Z (cl_mk F_is_order (ok_is_order F_is_order Z (cl_mk F_is_column (ok_is_column F_is_column Z (cl_mk F_whole (ok_pwhole F_whole Z) m_whole b_whole)) m_is_column b_is_column)) m_is_order b_is_order)) m_check_order b_check_order), b_Table__find⟩⟩).mono (by decide), b_Table_forget⟩⟩ ⟨⟨_, _, _, T_Table, ⟨a_Table_put, i_Table_put, k_Table_put⟩, (ok_tput F_Table_put Z T_Table N_Table_width N_Table__rows N_Table__next N_Table__kept T_Kept N_Kept_columns (cl_mk F_check_row (ok_check_row F_check_row Z (cl_mk F_whole (ok_pwhole F_whole Z) m_whole b_whole)) m_check_row b_check_row) ⟨⟨_, _, _, T_Kept, ⟨a_Kept_put, i_Kept_put, k_Kept_put⟩, ok_kput F_Kept_put T_Kept N_Kept_columns N_Kept__keys ⟨⟨_, _, _, T_Kept, ⟨a_Kept__key, i_Kept__key, k_Kept__key⟩, ok_key F_Kept__key T_Kept N_Kept_columns, b_Kept__key⟩⟩ (cl_mk F_below (ok_below F_below Z (cl_mk F_less (ok_less F_less Z) m_less b_less)) m_below b_below), b_Kept_put⟩⟩).mono (by decide), b_Table_put⟩⟩ ⟨⟨_, _, _, T_Table, ⟨a_Table_numbers, i_Table_numbers, k_Table_numbers⟩, ok_tnumbers (lv := 0) F_Table_numbers Z T_Table N_Table__rows, b_Table_numbers⟩⟩ ⟨⟨_, _, _, T_Table, ⟨a_Table_orders, i_Table_orders, k_Table_orders⟩, ok_torders (lv := 0) F_Table_orders Z T_Table N_Table__kept T_Kept N_Kept_columns, b_Table_orders⟩⟩ ⟨⟨_, _, _, T_Table, ⟨a_Table_row, i_Table_row, k_Table_row⟩, ok_trow F_Table_row Z T_Table N_Table__rows (cl_mk F_whole (ok_pwhole F_whole Z) m_whole b_whole), b_Table_row⟩⟩ ⟨⟨_, _, _, T_Table, ⟨a_Table_costs, i_Table_costs, k_Table_costs⟩, ok_costs F_Table_costs Z T_Table N_Table_width N_Table__rows N_Table__kept T_Kept N_Kept_columns (cl_mk F_check_wish (ok_check_wish F_check_wish Z (cl_mk F_is_triple (ok_is_triple F_is_triple Z (cl_mk F_is_column (ok_is_column F_is_column Z (cl_mk F_whole (ok_pwhole F_whole Z) m_whole b_whole)) m_is_column b_is_column) (cl_mk F_is_end (ok_is_end F_is_end Z (cl_mk F_whole (ok_pwhole F_whole Z) m_whole b_whole)) m_is_end b_is_end)) m_is_triple b_is_triple)) m_check_wish b_check_wish) (cl_mk F_cost (ok_cost F_cost Z ⟨⟨_, _, _, T_Kept, ⟨a_Kept_stretch, i_Kept_stretch, k_Kept_stretch⟩, ok_kstretchN F_Kept_stretch T_Kept N_Kept_columns N_Kept__keys (cl_mk F_first_and_last (ok_first F_first_and_last Z (cl_mk F_merged (ok_merged F_merged Z (cl_mk F_merged_triple (ok_merged_triple F_merged_triple Z) m_merged_triple b_merged_triple)) m_merged b_merged)) m_first_and_last b_first_and_last) (cl_mk F_below (ok_below F_below Z (cl_mk F_less (ok_less F_less Z) m_less b_less)) m_below b_below) (cl_mk F_through (ok_through F_through Z (cl_mk F_below (ok_below F_below Z (cl_mk F_less (ok_less F_less Z) m_less b_less)) m_below b_below)) m_through b_through), b_Kept_stretch⟩⟩ ⟨⟨_, _, _, T_Kept, ⟨a_Kept_covers, i_Kept_covers, k_Kept_covers⟩, ok_kcoversN (lv := 0) F_Kept_covers Z T_Kept N_Kept_columns N_Kept__keys, b_Kept_covers⟩⟩) m_cost b_cost), b_Table_costs⟩⟩ ⟨⟨_, _, _, T_Table, ⟨a_Table_ask, i_Table_ask, k_Table_ask⟩, ok_ask F_Table_ask Z T_Table N_Table_width ⟨⟨_, _, _, T_Table, ⟨a_Table_plan, i_Table_plan, k_Table_plan⟩, ok_plan FC_Table_plan Z TB T_Table N_Table_width ⟨⟨_, _, _, T_Table, ⟨a_Table_costs, i_Table_costs, k_Table_costs⟩, ok_costs F_Table_costs Z T_Table N_Table_width N_Table__rows N_Table__kept T_Kept N_Kept_columns (cl_mk F_check_wish (ok_check_wish F_check_wish Z (cl_mk F_is_triple (ok_is_triple F_is_triple Z (cl_mk F_is_column (ok_is_column F_is_column Z (cl_mk F_whole (ok_pwhole F_whole Z) m_whole b_whole)) m_is_column b_is_column) (cl_mk F_is_end (ok_is_end F_is_end Z (cl_mk F_whole (ok_pwhole F_whole Z) m_whole b_whole)) m_is_end b_is_end)) m_is_triple b_is_triple)) m_check_wish b_check_wish) (cl_mk F_cost (ok_cost F_cost Z ⟨⟨_, _, _, T_Kept, ⟨a_Kept_stretch, i_Kept_stretch, k_Kept_stretch⟩, ok_kstretchN F_Kept_stretch T_Kept N_Kept_columns N_Kept__keys (cl_mk F_first_and_last (ok_first F_first_and_last Z (cl_mk F_merged (ok_merged F_merged Z (cl_mk F_merged_triple (ok_merged_triple F_merged_triple Z) m_merged_triple b_merged_triple)) m_merged b_merged)) m_first_and_last b_first_and_last) (cl_mk F_below (ok_below F_below Z (cl_mk F_less (ok_less F_less Z) m_less b_less)) m_below b_below) (cl_mk F_through (ok_through F_through Z (cl_mk F_below (ok_below F_below Z (cl_mk F_less (ok_less F_less Z) m_less b_less)) m_below b_below)) m_through b_through), b_Kept_stretch⟩⟩ ⟨⟨_, _, _, T_Kept, ⟨a_Kept_covers, i_Kept_covers, k_Kept_covers⟩, ok_kcoversN (lv := 0) F_Kept_covers Z T_Kept N_Kept_columns N_Kept__keys, b_Kept_covers⟩⟩) m_cost b_cost), b_Table_costs⟩⟩, b_Table_plan⟩⟩ ⟨⟨_, _, _, T_Table, ⟨a_Table_ask_by, i_Table_ask_by, k_Table_ask_by⟩, ok_ask_by F_Table_ask_by Z T_Table N_Table__rows ⟨⟨_, _, _, T_Table, ⟨a_Table_walked, i_Table_walked, k_Table_walked⟩, ok_walked F_Table_walked Z T_Table N_Table_width ⟨⟨_, _, _, T_Table, ⟨a_Table__find, i_Table__find, k_Table__find⟩, ok_tfind F_Table__find Z T_Table N_Table_width N_Table__kept T_Kept N_Kept_columns (cl_mk F_check_order (ok_check_order F_check_order Z (cl_mk F_is_order (ok_is_order F_is_order Z (cl_mk F_is_column (ok_is_column F_is_column Z (cl_mk F_whole (ok_pwhole F_whole Z) m_whole b_whole)) m_is_column b_is_column)) m_is_order b_is_order)) m_check_order b_check_order), b_Table__find⟩⟩ (cl_mk F_check_wish (ok_check_wish F_check_wish Z (cl_mk F_is_triple (ok_is_triple F_is_triple Z (cl_mk F_is_column (ok_is_column F_is_column Z (cl_mk F_whole (ok_pwhole F_whole Z) m_whole b_whole)) m_is_column b_is_column) (cl_mk F_is_end (ok_is_end F_is_end Z (cl_mk F_whole (ok_pwhole F_whole Z) m_whole b_whole)) m_is_end b_is_end)) m_is_triple b_is_triple)) m_check_wish b_check_wish) ⟨⟨_, _, _, T_Table, ⟨a_Table_numbers, i_Table_numbers, k_Table_numbers⟩, ok_tnumbers (lv := 0) F_Table_numbers Z T_Table N_Table__rows, b_Table_numbers⟩⟩ ⟨⟨_, _, _, T_Kept, ⟨a_Kept_stretch, i_Kept_stretch, k_Kept_stretch⟩, ok_kstretchN F_Kept_stretch T_Kept N_Kept_columns N_Kept__keys (cl_mk F_first_and_last (ok_first F_first_and_last Z (cl_mk F_merged (ok_merged F_merged Z (cl_mk F_merged_triple (ok_merged_triple F_merged_triple Z) m_merged_triple b_merged_triple)) m_merged b_merged)) m_first_and_last b_first_and_last) (cl_mk F_below (ok_below F_below Z (cl_mk F_less (ok_less F_less Z) m_less b_less)) m_below b_below) (cl_mk F_through (ok_through F_through Z (cl_mk F_below (ok_below F_below Z (cl_mk F_less (ok_less F_less Z) m_less b_less)) m_below b_below)) m_through b_through), b_Kept_stretch⟩⟩, b_Table_walked⟩⟩ (cl_mk F_fits (ok_fits F_fits Z (cl_mk F_fits_triple (ok_fits_triple (k := 0) F_fits_triple Z) m_fits_triple b_fits_triple)) m_fits b_fits), b_Table_ask_by⟩⟩, b_Table_ask⟩⟩ (cl_mk F_l_deed (ok_deed13 F_l_deed Z (cl_mk F_l_value (ok_value F_l_value) m_l_value b_l_value) (cl_mk F_l_row (ok_row F_l_row Z (cl_mk F_l_value (ok_value F_l_value) m_l_value b_l_value)) m_l_row b_l_row) ⟨⟨_, _, _, T_Table, ⟨a_Table_numbers, i_Table_numbers, k_Table_numbers⟩, ok_tnumbers (lv := 0) F_Table_numbers Z T_Table N_Table__rows, b_Table_numbers⟩⟩ ⟨⟨_, _, _, T_Table, ⟨a_Table_put, i_Table_put, k_Table_put⟩, (ok_tput F_Table_put Z T_Table N_Table_width N_Table__rows N_Table__next N_Table__kept T_Kept N_Kept_columns (cl_mk F_check_row (ok_check_row F_check_row Z (cl_mk F_whole (ok_pwhole F_whole Z) m_whole b_whole)) m_check_row b_check_row) ⟨⟨_, _, _, T_Kept, ⟨a_Kept_put, i_Kept_put, k_Kept_put⟩, ok_kput F_Kept_put T_Kept N_Kept_columns N_Kept__keys ⟨⟨_, _, _, T_Kept, ⟨a_Kept__key, i_Kept__key, k_Kept__key⟩, ok_key F_Kept__key T_Kept N_Kept_columns, b_Kept__key⟩⟩ (cl_mk F_below (ok_below F_below Z (cl_mk F_less (ok_less F_less Z) m_less b_less)) m_below b_below), b_Kept_put⟩⟩).mono (by decide), b_Table_put⟩⟩ ⟨⟨_, _, _, T_Table, ⟨a_Table_drop, i_Table_drop, k_Table_drop⟩, (ok_tdrop F_Table_drop Z T_Table N_Table_width N_Table__rows N_Table__next N_Table__kept T_Kept N_Kept_columns ⟨⟨_, _, _, T_Table, ⟨a_Table_row, i_Table_row, k_Table_row⟩, ok_trow F_Table_row Z T_Table N_Table__rows (cl_mk F_whole (ok_pwhole F_whole Z) m_whole b_whole), b_Table_row⟩⟩ ⟨⟨_, _, _, T_Kept, ⟨a_Kept_drop, i_Kept_drop, k_Kept_drop⟩, ok_kdrop F_Kept_drop T_Kept N_Kept_columns N_Kept__keys ⟨⟨_, _, _, T_Kept, ⟨a_Kept__key, i_Kept__key, k_Kept__key⟩, ok_key F_Kept__key T_Kept N_Kept_columns, b_Kept__key⟩⟩ (cl_mk F_below (ok_below F_below Z (cl_mk F_less (ok_less F_less Z) m_less b_less)) m_below b_below), b_Kept_drop⟩⟩).mono (by decide), b_Table_drop⟩⟩ ⟨⟨_, _, _, T_Table, ⟨a_Table_change, i_Table_change, k_Table_change⟩, (ok_tchange F_Table_change Z T_Table N_Table_width N_Table__rows N_Table__next N_Table__kept T_Kept N_Kept_columns ⟨⟨_, _, _, T_Table, ⟨a_Table_row, i_Table_row, k_Table_row⟩, ok_trow F_Table_row Z T_Table N_Table__rows (cl_mk F_whole (ok_pwhole F_whole Z) m_whole b_whole), b_Table_row⟩⟩ (cl_mk F_check_column (ok_check_column F_check_column Z (cl_mk F_is_column (ok_is_column F_is_column Z (cl_mk F_whole (ok_pwhole F_whole Z) m_whole b_whole)) m_is_column b_is_column)) m_check_column b_check_column) (cl_mk F_check_value (ok_check_value F_check_value Z (cl_mk F_whole (ok_pwhole F_whole Z) m_whole b_whole)) m_check_value b_check_value) ⟨⟨_, _, _, T_Kept, ⟨a_Kept_drop, i_Kept_drop, k_Kept_drop⟩, ok_kdrop F_Kept_drop T_Kept N_Kept_columns N_Kept__keys ⟨⟨_, _, _, T_Kept, ⟨a_Kept__key, i_Kept__key, k_Kept__key⟩, ok_key F_Kept__key T_Kept N_Kept_columns, b_Kept__key⟩⟩ (cl_mk F_below (ok_below F_below Z (cl_mk F_less (ok_less F_less Z) m_less b_less)) m_below b_below), b_Kept_drop⟩⟩ ⟨⟨_, _, _, T_Kept, ⟨a_Kept_put, i_Kept_put, k_Kept_put⟩, ok_kput F_Kept_put T_Kept N_Kept_columns N_Kept__keys ⟨⟨_, _, _, T_Kept, ⟨a_Kept__key, i_Kept__key, k_Kept__key⟩, ok_key F_Kept__key T_Kept N_Kept_columns, b_Kept__key⟩⟩ (cl_mk F_below (ok_below F_below Z (cl_mk F_less (ok_less F_less Z) m_less b_less)) m_below b_below), b_Kept_put⟩⟩).mono (by decide), b_Table_change⟩⟩) m_l_deed b_l_deed) (cl_mk F_l_same (ok_same13 (cls := T_Table) (noW := N_Table_width) (PT := PT) (qn := "Table.plan.<locals>.<lambda>") F_l_same Z ⟨⟨_, _, _, T_Table, ⟨a_Table_numbers, i_Table_numbers, k_Table_numbers⟩, ok_tnumbers (lv := 0) F_Table_numbers Z T_Table N_Table__rows, b_Table_numbers⟩⟩ ⟨⟨_, _, _, T_Table, ⟨a_Table_orders, i_Table_orders, k_Table_orders⟩, ok_torders (lv := 0) F_Table_orders Z T_Table N_Table__kept T_Kept N_Kept_columns, b_Table_orders⟩⟩ ⟨⟨_, _, _, T_Table, ⟨a_Table_row, i_Table_row, k_Table_row⟩, ok_trow F_Table_row Z T_Table N_Table__rows (cl_mk F_whole (ok_pwhole F_whole Z) m_whole b_whole), b_Table_row⟩⟩ ⟨⟨_, _, _, T_Table, ⟨a_Table_listed, i_Table_listed, k_Table_listed⟩, (ok_tlisted F_Table_listed Z T_Table N_Table_width T_Kept N_Kept_columns ⟨⟨_, _, _, T_Table, ⟨a_Table__find, i_Table__find, k_Table__find⟩, ok_tfind F_Table__find Z T_Table N_Table_width N_Table__kept T_Kept N_Kept_columns (cl_mk F_check_order (ok_check_order F_check_order Z (cl_mk F_is_order (ok_is_order F_is_order Z (cl_mk F_is_column (ok_is_column F_is_column Z (cl_mk F_whole (ok_pwhole F_whole Z) m_whole b_whole)) m_is_column b_is_column)) m_is_order b_is_order)) m_check_order b_check_order), b_Table__find⟩⟩ ⟨⟨_, _, _, T_Kept, ⟨a_Kept_numbers, i_Kept_numbers, k_Kept_numbers⟩, ok_knumbers (lv := 0) F_Kept_numbers T_Kept N_Kept_columns N_Kept__keys, b_Kept_numbers⟩⟩).mono (by decide), b_Table_listed⟩⟩ ⟨⟨_, _, _, T_Table, ⟨a_Table_walked, i_Table_walked, k_Table_walked⟩, ok_walked F_Table_walked Z T_Table N_Table_width ⟨⟨_, _, _, T_Table, ⟨a_Table__find, i_Table__find, k_Table__find⟩, ok_tfind F_Table__find Z T_Table N_Table_width N_Table__kept T_Kept N_Kept_columns (cl_mk F_check_order (ok_check_order F_check_order Z (cl_mk F_is_order (ok_is_order F_is_order Z (cl_mk F_is_column (ok_is_column F_is_column Z (cl_mk F_whole (ok_pwhole F_whole Z) m_whole b_whole)) m_is_column b_is_column)) m_is_order b_is_order)) m_check_order b_check_order), b_Table__find⟩⟩ (cl_mk F_check_wish (ok_check_wish F_check_wish Z (cl_mk F_is_triple (ok_is_triple F_is_triple Z (cl_mk F_is_column (ok_is_column F_is_column Z (cl_mk F_whole (ok_pwhole F_whole Z) m_whole b_whole)) m_is_column b_is_column) (cl_mk F_is_end (ok_is_end F_is_end Z (cl_mk F_whole (ok_pwhole F_whole Z) m_whole b_whole)) m_is_end b_is_end)) m_is_triple b_is_triple)) m_check_wish b_check_wish) ⟨⟨_, _, _, T_Table, ⟨a_Table_numbers, i_Table_numbers, k_Table_numbers⟩, ok_tnumbers (lv := 0) F_Table_numbers Z T_Table N_Table__rows, b_Table_numbers⟩⟩ ⟨⟨_, _, _, T_Kept, ⟨a_Kept_stretch, i_Kept_stretch, k_Kept_stretch⟩, ok_kstretchN F_Kept_stretch T_Kept N_Kept_columns N_Kept__keys (cl_mk F_first_and_last (ok_first F_first_and_last Z (cl_mk F_merged (ok_merged F_merged Z (cl_mk F_merged_triple (ok_merged_triple F_merged_triple Z) m_merged_triple b_merged_triple)) m_merged b_merged)) m_first_and_last b_first_and_last) (cl_mk F_below (ok_below F_below Z (cl_mk F_less (ok_less F_less Z) m_less b_less)) m_below b_below) (cl_mk F_through (ok_through F_through Z (cl_mk F_below (ok_below F_below Z (cl_mk F_less (ok_less F_less Z) m_less b_less)) m_below b_below)) m_through b_through), b_Kept_stretch⟩⟩, b_Table_walked⟩⟩ ⟨⟨_, _, _, T_Table, ⟨a_Table_costs, i_Table_costs, k_Table_costs⟩, ok_costs F_Table_costs Z T_Table N_Table_width N_Table__rows N_Table__kept T_Kept N_Kept_columns (cl_mk F_check_wish (ok_check_wish F_check_wish Z (cl_mk F_is_triple (ok_is_triple F_is_triple Z (cl_mk F_is_column (ok_is_column F_is_column Z (cl_mk F_whole (ok_pwhole F_whole Z) m_whole b_whole)) m_is_column b_is_column) (cl_mk F_is_end (ok_is_end F_is_end Z (cl_mk F_whole (ok_pwhole F_whole Z) m_whole b_whole)) m_is_end b_is_end)) m_is_triple b_is_triple)) m_check_wish b_check_wish) (cl_mk F_cost (ok_cost F_cost Z ⟨⟨_, _, _, T_Kept, ⟨a_Kept_stretch, i_Kept_stretch, k_Kept_stretch⟩, ok_kstretchN F_Kept_stretch T_Kept N_Kept_columns N_Kept__keys (cl_mk F_first_and_last (ok_first F_first_and_last Z (cl_mk F_merged (ok_merged F_merged Z (cl_mk F_merged_triple (ok_merged_triple F_merged_triple Z) m_merged_triple b_merged_triple)) m_merged b_merged)) m_first_and_last b_first_and_last) (cl_mk F_below (ok_below F_below Z (cl_mk F_less (ok_less F_less Z) m_less b_less)) m_below b_below) (cl_mk F_through (ok_through F_through Z (cl_mk F_below (ok_below F_below Z (cl_mk F_less (ok_less F_less Z) m_less b_less)) m_below b_below)) m_through b_through), b_Kept_stretch⟩⟩ ⟨⟨_, _, _, T_Kept, ⟨a_Kept_covers, i_Kept_covers, k_Kept_covers⟩, ok_kcoversN (lv := 0) F_Kept_covers Z T_Kept N_Kept_columns N_Kept__keys, b_Kept_covers⟩⟩) m_cost b_cost), b_Table_costs⟩⟩ ⟨⟨_, _, _, T_Table, ⟨a_Table_plan, i_Table_plan, k_Table_plan⟩, ok_plan FC_Table_plan Z TB T_Table N_Table_width ⟨⟨_, _, _, T_Table, ⟨a_Table_costs, i_Table_costs, k_Table_costs⟩, ok_costs F_Table_costs Z T_Table N_Table_width N_Table__rows N_Table__kept T_Kept N_Kept_columns (cl_mk F_check_wish (ok_check_wish F_check_wish Z (cl_mk F_is_triple (ok_is_triple F_is_triple Z (cl_mk F_is_column (ok_is_column F_is_column Z (cl_mk F_whole (ok_pwhole F_whole Z) m_whole b_whole)) m_is_column b_is_column) (cl_mk F_is_end (ok_is_end F_is_end Z (cl_mk F_whole (ok_pwhole F_whole Z) m_whole b_whole)) m_is_end b_is_end)) m_is_triple b_is_triple)) m_check_wish b_check_wish) (cl_mk F_cost (ok_cost F_cost Z ⟨⟨_, _, _, T_Kept, ⟨a_Kept_stretch, i_Kept_stretch, k_Kept_stretch⟩, ok_kstretchN F_Kept_stretch T_Kept N_Kept_columns N_Kept__keys (cl_mk F_first_and_last (ok_first F_first_and_last Z (cl_mk F_merged (ok_merged F_merged Z (cl_mk F_merged_triple (ok_merged_triple F_merged_triple Z) m_merged_triple b_merged_triple)) m_merged b_merged)) m_first_and_last b_first_and_last) (cl_mk F_below (ok_below F_below Z (cl_mk F_less (ok_less F_less Z) m_less b_less)) m_below b_below) (cl_mk F_through (ok_through F_through Z (cl_mk F_below (ok_below F_below Z (cl_mk F_less (ok_less F_less Z) m_less b_less)) m_below b_below)) m_through b_through), b_Kept_stretch⟩⟩ ⟨⟨_, _, _, T_Kept, ⟨a_Kept_covers, i_Kept_covers, k_Kept_covers⟩, ok_kcoversN (lv := 0) F_Kept_covers Z T_Kept N_Kept_columns N_Kept__keys, b_Kept_covers⟩⟩) m_cost b_cost), b_Table_costs⟩⟩, b_Table_plan⟩⟩ ⟨⟨_, _, _, T_Table, ⟨a_Table_ask, i_Table_ask, k_Table_ask⟩, ok_ask F_Table_ask Z T_Table N_Table_width ⟨⟨_, _, _, T_Table, ⟨a_Table_plan, i_Table_plan, k_Table_plan⟩, ok_plan FC_Table_plan Z TB T_Table N_Table_width ⟨⟨_, _, _, T_Table, ⟨a_Table_costs, i_Table_costs, k_Table_costs⟩, ok_costs F_Table_costs Z T_Table N_Table_width N_Table__rows N_Table__kept T_Kept N_Kept_columns (cl_mk F_check_wish (ok_check_wish F_check_wish Z (cl_mk F_is_triple (ok_is_triple F_is_triple Z (cl_mk F_is_column (ok_is_column F_is_column Z (cl_mk F_whole (ok_pwhole F_whole Z) m_whole b_whole)) m_is_column b_is_column) (cl_mk F_is_end (ok_is_end F_is_end Z (cl_mk F_whole (ok_pwhole F_whole Z) m_whole b_whole)) m_is_end b_is_end)) m_is_triple b_is_triple)) m_check_wish b_check_wish) (cl_mk F_cost (ok_cost F_cost Z ⟨⟨_, _, _, T_Kept, ⟨a_Kept_stretch, i_Kept_stretch, k_Kept_stretch⟩, ok_kstretchN F_Kept_stretch T_Kept N_Kept_columns N_Kept__keys (cl_mk F_first_and_last (ok_first F_first_and_last Z (cl_mk F_merged (ok_merged F_merged Z (cl_mk F_merged_triple (ok_merged_triple F_merged_triple Z) m_merged_triple b_merged_triple)) m_merged b_merged)) m_first_and_last b_first_and_last) (cl_mk F_below (ok_below F_below Z (cl_mk F_less (ok_less F_less Z) m_less b_less)) m_below b_below) (cl_mk F_through (ok_through F_through Z (cl_mk F_below (ok_below F_below Z (cl_mk F_less (ok_less F_less Z) m_less b_less)) m_below b_below)) m_through b_through), b_Kept_stretch⟩⟩ ⟨⟨_, _, _, T_Kept, ⟨a_Kept_covers, i_Kept_covers, k_Kept_covers⟩, ok_kcoversN (lv := 0) F_Kept_covers Z T_Kept N_Kept_columns N_Kept__keys, b_Kept_covers⟩⟩) m_cost b_cost), b_Table_costs⟩⟩, b_Table_plan⟩⟩ ⟨⟨_, _, _, T_Table, ⟨a_Table_ask_by, i_Table_ask_by, k_Table_ask_by⟩, ok_ask_by F_Table_ask_by Z T_Table N_Table__rows ⟨⟨_, _, _, T_Table, ⟨a_Table_walked, i_Table_walked, k_Table_walked⟩, ok_walked F_Table_walked Z T_Table N_Table_width ⟨⟨_, _, _, T_Table, ⟨a_Table__find, i_Table__find, k_Table__find⟩, ok_tfind F_Table__find Z T_Table N_Table_width N_Table__kept T_Kept N_Kept_columns (cl_mk F_check_order (ok_check_order F_check_order Z (cl_mk F_is_order (ok_is_order F_is_order Z (cl_mk F_is_column (ok_is_column F_is_column Z (cl_mk F_whole (ok_pwhole F_whole Z) m_whole b_whole)) m_is_column b_is_column)) m_is_order b_is_order)) m_check_order b_check_order), b_Table__find⟩⟩ (cl_mk F_check_wish (ok_check_wish F_check_wish Z (cl_mk F_is_triple (ok_is_triple F_is_triple Z (cl_mk F_is_column (ok_is_column F_is_column Z (cl_mk F_whole (ok_pwhole F_whole Z) m_whole b_whole)) m_is_column b_is_column) (cl_mk F_is_end (ok_is_end F_is_end Z (cl_mk F_whole (ok_pwhole F_whole Z) m_whole b_whole)) m_is_end b_is_end)) m_is_triple b_is_triple)) m_check_wish b_check_wish) ⟨⟨_, _, _, T_Table, ⟨a_Table_numbers, i_Table_numbers, k_Table_numbers⟩, ok_tnumbers (lv := 0) F_Table_numbers Z T_Table N_Table__rows, b_Table_numbers⟩⟩ ⟨⟨_, _, _, T_Kept, ⟨a_Kept_stretch, i_Kept_stretch, k_Kept_stretch⟩, ok_kstretchN F_Kept_stretch T_Kept N_Kept_columns N_Kept__keys (cl_mk F_first_and_last (ok_first F_first_and_last Z (cl_mk F_merged (ok_merged F_merged Z (cl_mk F_merged_triple (ok_merged_triple F_merged_triple Z) m_merged_triple b_merged_triple)) m_merged b_merged)) m_first_and_last b_first_and_last) (cl_mk F_below (ok_below F_below Z (cl_mk F_less (ok_less F_less Z) m_less b_less)) m_below b_below) (cl_mk F_through (ok_through F_through Z (cl_mk F_below (ok_below F_below Z (cl_mk F_less (ok_less F_less Z) m_less b_less)) m_below b_below)) m_through b_through), b_Kept_stretch⟩⟩, b_Table_walked⟩⟩ (cl_mk F_fits (ok_fits F_fits Z (cl_mk F_fits_triple (ok_fits_triple (k := 0) F_fits_triple Z) m_fits_triple b_fits_triple)) m_fits b_fits), b_Table_ask_by⟩⟩, b_Table_ask⟩⟩) m_l_same b_l_same)⟩
end K13

set_option Elab.async false
set_option linter.all false
set_option maxRecDepth 100000
set_option maxHeartbeats 4000000
open PySem PySem.W PyProof.Rows
set_option maxHeartbeats 0 in
theorem PySem.Challenge.cw_waybook_k13_whole_two_tables_holds : PySem.Challenge.rw_waybook_k13_whole_two_tables.Holds := by
  w_on; o_law; k_head; (case hw => w_witness2)
  k_fill
  refine LamX.walk_ofTs (l := PySem.Challenge.rw_waybook_k13_whole_two_tables) (n := 63) (k := 10) (x := "_law_script") (CX := fun _ => L2.CX0) rfl (by decide) rfl ⟨rfl, by decide, by decide⟩ (fun w h Y => PySem.W.km_in_of Y) ?F (fun _ _ _ _ _ h => h)
  case F =>
    intro w mg fa h Y KX G hmg
    refine' Wy.law_atS (sp := K13.spLawP _ _) KX (PySem.W.km_tabs_of Y) ?nT ?hC (fun _ a ns hl hb hP hS => ⟨a, ns, rfl, hS, hl, fun z hz => Wy.Bits.of (hb z hz), hP, fun _ => rfl⟩) (K13.all_mk KX G hmg ?aC_Kept ?pg_Kept ?hd_Kept ?po_Kept ?sa_Kept ?mk_Kept ?kc_Kept ?N_Kept_columns ?N_Kept__keys ?eq_Kept ?aC_Table ?pg_Table ?hd_Table ?po_Table ?sa_Table ?mk_Table ?kc_Table ?N_Table_width ?N_Table__rows ?N_Table__next ?N_Table__kept ?a_whole ?l_whole ?c_whole ?k_whole ?a_is_column ?l_is_column ?c_is_column ?k_is_column ?a_is_end ?l_is_end ?c_is_end ?k_is_end ?a_is_triple ?l_is_triple ?c_is_triple ?k_is_triple ?a_is_order ?l_is_order ?c_is_order ?k_is_order ?a_check_width ?l_check_width ?c_check_width ?k_check_width ?a_check_row ?l_check_row ?c_check_row ?k_check_row ?a_check_column ?l_check_column ?c_check_column ?k_check_column ?a_check_value ?l_check_value ?c_check_value ?k_check_value ?a_check_wish ?l_check_wish ?c_check_wish ?k_check_wish ?a_check_order ?l_check_order ?c_check_order ?k_check_order ?a_less ?l_less ?c_less ?k_less ?a_below ?l_below ?c_below ?k_below ?a_fits ?l_fits ?c_fits ?k_fits ?a_fits_triple ?l_fits_triple ?c_fits_triple ?k_fits_triple ?a_merged ?l_merged ?c_merged ?k_merged ?a_merged_triple ?l_merged_triple ?c_merged_triple ?k_merged_triple ?a_first_and_last ?l_first_and_last ?c_first_and_last ?k_first_and_last ?a_through ?l_through ?c_through ?k_through ?a_Kept_init ?i_Kept_init ?l_Kept_init ?c_Kept_init ?k_Kept_init ?a_Kept_put ?i_Kept_put ?l_Kept_put ?c_Kept_put ?k_Kept_put ?a_Kept_drop ?i_Kept_drop ?l_Kept_drop ?c_Kept_drop ?k_Kept_drop ?a_Kept_numbers ?i_Kept_numbers ?l_Kept_numbers ?c_Kept_numbers ?k_Kept_numbers ?a_Kept_stretch ?i_Kept_stretch ?l_Kept_stretch ?c_Kept_stretch ?k_Kept_stretch ?a_Kept_covers ?i_Kept_covers ?l_Kept_covers ?c_Kept_covers ?k_Kept_covers ?a_Kept__key ?i_Kept__key ?l_Kept__key ?c_Kept__key ?k_Kept__key ?a_cost ?l_cost ?c_cost ?k_cost ?a_Table_init ?i_Table_init ?l_Table_init ?c_Table_init ?k_Table_init ?a_Table_put ?i_Table_put ?l_Table_put ?c_Table_put ?k_Table_put ?a_Table_drop ?i_Table_drop ?l_Table_drop ?c_Table_drop ?k_Table_drop ?a_Table_change ?i_Table_change ?l_Table_change ?c_Table_change ?k_Table_change ?a_Table_row ?i_Table_row ?l_Table_row ?c_Table_row ?k_Table_row ?a_Table_numbers ?i_Table_numbers ?l_Table_numbers ?c_Table_numbers ?k_Table_numbers ?a_Table_tell ?i_Table_tell ?l_Table_tell ?c_Table_tell ?k_Table_tell ?a_Table_forget ?i_Table_forget ?l_Table_forget ?c_Table_forget ?k_Table_forget ?a_Table_orders ?i_Table_orders ?l_Table_orders ?c_Table_orders ?k_Table_orders ?a_Table_listed ?i_Table_listed ?l_Table_listed ?c_Table_listed ?k_Table_listed ?a_Table_costs ?i_Table_costs ?l_Table_costs ?c_Table_costs ?k_Table_costs ?a_Table_plan ?i_Table_plan ?l_Table_plan ?c_Table_plan ?k_Table_plan ?a_Table_walked ?i_Table_walked ?l_Table_walked ?c_Table_walked ?k_Table_walked ?a_Table_ask_by ?i_Table_ask_by ?l_Table_ask_by ?c_Table_ask_by ?k_Table_ask_by ?a_Table_ask ?i_Table_ask ?l_Table_ask ?c_Table_ask ?k_Table_ask ?a_Table__find ?i_Table__find ?l_Table__find ?c_Table__find ?k_Table__find ?a_l_at ?l_l_at ?c_l_at ?k_l_at ?a_l_value ?l_l_value ?c_l_value ?k_l_value ?a_l_row ?l_l_row ?c_l_row ?k_l_row ?a_l_order ?l_l_order ?c_l_order ?k_l_order ?a_l_triple ?l_l_triple ?c_l_triple ?k_l_triple ?a_l_deed ?l_l_deed ?c_l_deed ?k_l_deed ?a_l_orders ?l_l_orders ?c_l_orders ?k_l_orders ?a_l_same ?l_l_same ?c_l_same ?k_l_same ?a_law ?l_law ?c_law ?k_law ?z_ValueError ?z_zip ?z_len ?z_all ?z_sorted ?z_list ?z_range ?z_tuple ?z_isinstance ?z_int ?z_max ?z_min ?z_bool ?z_set ?g_WIDEST ?g_MOST_TRIPLES ?g_MOST_ROWS ?g_MOST_ORDERS)
    (case aC_Kept => k_is); (case pg_Kept => k_is); (case hd_Kept => k_is); (case po_Kept => k_is); (case sa_Kept => k_is); (case mk_Kept => k_is); (case kc_Kept => k_is); (case N_Kept_columns => k_is); (case N_Kept__keys => k_is); (case eq_Kept => k_is); (case aC_Table => k_is); (case pg_Table => k_is); (case hd_Table => k_is); (case po_Table => k_is); (case sa_Table => k_is); (case mk_Table => k_is); (case kc_Table => k_is); (case N_Table_width => k_is); (case N_Table__rows => k_is); (case N_Table__next => k_is); (case N_Table__kept => k_is); (case a_whole => k_is); (case l_whole => k_is); (case c_whole => k_is); (case k_whole => k_is); (case a_is_column => k_is); (case l_is_column => k_is); (case c_is_column => k_is); (case k_is_column => k_is); (case a_is_end => k_is); (case l_is_end => k_is); (case c_is_end => k_is); (case k_is_end => k_is); (case a_is_triple => k_is); (case l_is_triple => k_is); (case c_is_triple => k_is); (case k_is_triple => k_is); (case a_is_order => k_is); (case l_is_order => k_is); (case c_is_order => k_is); (case k_is_order => k_is); (case a_check_width => k_is); (case l_check_width => k_is); (case c_check_width => k_is); (case k_check_width => k_is); (case a_check_row => k_is); (case l_check_row => k_is); (case c_check_row => k_is); (case k_check_row => k_is); (case a_check_column => k_is); (case l_check_column => k_is); (case c_check_column => k_is); (case k_check_column => k_is); (case a_check_value => k_is); (case l_check_value => k_is); (case c_check_value => k_is); (case k_check_value => k_is); (case a_check_wish => k_is); (case l_check_wish => k_is); (case c_check_wish => k_is); (case k_check_wish => k_is); (case a_check_order => k_is); (case l_check_order => k_is); (case c_check_order => k_is); (case k_check_order => k_is); (case a_less => k_is); (case l_less => k_is); (case c_less => k_is); (case k_less => k_is); (case a_below => k_is); (case l_below => k_is); (case c_below => k_is); (case k_below => k_is); (case a_fits => k_is); (case l_fits => k_is); (case c_fits => k_is); (case k_fits => k_is); (case a_fits_triple => k_is); (case l_fits_triple => k_is); (case c_fits_triple => k_is); (case k_fits_triple => k_is); (case a_merged => k_is); (case l_merged => k_is); (case c_merged => k_is); (case k_merged => k_is); (case a_merged_triple => k_is); (case l_merged_triple => k_is); (case c_merged_triple => k_is); (case k_merged_triple => k_is); (case a_first_and_last => k_is); (case l_first_and_last => k_is); (case c_first_and_last => k_is); (case k_first_and_last => k_is); (case a_through => k_is); (case l_through => k_is); (case c_through => k_is); (case k_through => k_is); (case a_Kept_init => k_is); (case i_Kept_init => k_is); (case l_Kept_init => k_is); (case c_Kept_init => k_is); (case k_Kept_init => k_is); (case a_Kept_put => k_is); (case i_Kept_put => k_is); (case l_Kept_put => k_is); (case c_Kept_put => k_is); (case k_Kept_put => k_is); (case a_Kept_drop => k_is); (case i_Kept_drop => k_is); (case l_Kept_drop => k_is); (case c_Kept_drop => k_is); (case k_Kept_drop => k_is); (case a_Kept_numbers => k_is); (case i_Kept_numbers => k_is); (case l_Kept_numbers => k_is); (case c_Kept_numbers => k_is); (case k_Kept_numbers => k_is); (case a_Kept_stretch => k_is); (case i_Kept_stretch => k_is); (case l_Kept_stretch => k_is); (case c_Kept_stretch => k_is); (case k_Kept_stretch => k_is); (case a_Kept_covers => k_is); (case i_Kept_covers => k_is); (case l_Kept_covers => k_is); (case c_Kept_covers => k_is); (case k_Kept_covers => k_is); (case a_Kept__key => k_is); (case i_Kept__key => k_is); (case l_Kept__key => k_is); (case c_Kept__key => k_is); (case k_Kept__key => k_is); (case a_cost => k_is); (case l_cost => k_is); (case c_cost => k_is); (case k_cost => k_is); (case a_Table_init => k_is); (case i_Table_init => k_is); (case l_Table_init => k_is); (case c_Table_init => k_is); (case k_Table_init => k_is); (case a_Table_put => k_is); (case i_Table_put => k_is); (case l_Table_put => k_is); (case c_Table_put => k_is); (case k_Table_put => k_is); (case a_Table_drop => k_is); (case i_Table_drop => k_is); (case l_Table_drop => k_is); (case c_Table_drop => k_is); (case k_Table_drop => k_is); (case a_Table_change => k_is); (case i_Table_change => k_is); (case l_Table_change => k_is); (case c_Table_change => k_is); (case k_Table_change => k_is); (case a_Table_row => k_is); (case i_Table_row => k_is); (case l_Table_row => k_is); (case c_Table_row => k_is); (case k_Table_row => k_is); (case a_Table_numbers => k_is); (case i_Table_numbers => k_is); (case l_Table_numbers => k_is); (case c_Table_numbers => k_is); (case k_Table_numbers => k_is); (case a_Table_tell => k_is); (case i_Table_tell => k_is); (case l_Table_tell => k_is); (case c_Table_tell => k_is); (case k_Table_tell => k_is); (case a_Table_forget => k_is); (case i_Table_forget => k_is); (case l_Table_forget => k_is); (case c_Table_forget => k_is); (case k_Table_forget => k_is); (case a_Table_orders => k_is); (case i_Table_orders => k_is); (case l_Table_orders => k_is); (case c_Table_orders => k_is); (case k_Table_orders => k_is); (case a_Table_listed => k_is); (case i_Table_listed => k_is); (case l_Table_listed => k_is); (case c_Table_listed => k_is); (case k_Table_listed => k_is); (case a_Table_costs => k_is); (case i_Table_costs => k_is); (case l_Table_costs => k_is); (case c_Table_costs => k_is); (case k_Table_costs => k_is); (case a_Table_plan => k_is); (case i_Table_plan => k_is); (case l_Table_plan => k_is); (case c_Table_plan => k_is); (case k_Table_plan => k_is); (case a_Table_walked => k_is); (case i_Table_walked => k_is); (case l_Table_walked => k_is); (case c_Table_walked => k_is); (case k_Table_walked => k_is); (case a_Table_ask_by => k_is); (case i_Table_ask_by => k_is); (case l_Table_ask_by => k_is); (case c_Table_ask_by => k_is); (case k_Table_ask_by => k_is); (case a_Table_ask => k_is); (case i_Table_ask => k_is); (case l_Table_ask => k_is); (case c_Table_ask => k_is); (case k_Table_ask => k_is); (case a_Table__find => k_is); (case i_Table__find => k_is); (case l_Table__find => k_is); (case c_Table__find => k_is); (case k_Table__find => k_is); (case a_l_at => k_is); (case l_l_at => k_is); (case c_l_at => k_is); (case k_l_at => k_is); (case a_l_value => k_is); (case l_l_value => k_is); (case c_l_value => k_is); (case k_l_value => k_is); (case a_l_row => k_is); (case l_l_row => k_is); (case c_l_row => k_is); (case k_l_row => k_is); (case a_l_order => k_is); (case l_l_order => k_is); (case c_l_order => k_is); (case k_l_order => k_is); (case a_l_triple => k_is); (case l_l_triple => k_is); (case c_l_triple => k_is); (case k_l_triple => k_is); (case a_l_deed => k_is); (case l_l_deed => k_is); (case c_l_deed => k_is); (case k_l_deed => k_is); (case a_l_orders => k_is); (case l_l_orders => k_is); (case c_l_orders => k_is); (case k_l_orders => k_is); (case a_l_same => k_is); (case l_l_same => k_is); (case c_l_same => k_is); (case k_l_same => k_is); (case a_law => k_is); (case l_law => k_is); (case c_law => k_is); (case k_law => k_is); (case z_ValueError => k_is); (case z_zip => k_is); (case z_len => k_is); (case z_all => k_is); (case z_sorted => k_is); (case z_list => k_is); (case z_range => k_is); (case z_tuple => k_is); (case z_isinstance => k_is); (case z_int => k_is); (case z_max => k_is); (case z_min => k_is); (case z_bool => k_is); (case z_set => k_is); (case g_WIDEST => k_is); (case g_MOST_TRIPLES => k_is); (case g_MOST_ROWS => k_is); (case g_MOST_ORDERS => k_is)
    (case nT => first | rfl | k_is); (case hC => first | rfl | k_is)

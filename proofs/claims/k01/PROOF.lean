import PyProof.Rows.All
import Wide.All
import OpenK.AllK
import Wide.FinOn
import HandS.ForMost
import HandS.ForExc
import HandS.TryMany
import HandS.Evl
import HandS.IsInst
import HandS.EndBits
import HandS.SortInts
import HandS.Deep
import HandS.Zip
import PySem.Challenge.RW_waybook_k01_ahead
set_option Elab.async false
set_option linter.all false
set_option maxRecDepth 100000
set_option maxHeartbeats 4000000
/-! Wy: statements and values over what is known of the heap. -/
namespace Wy
open PySem PySem.Spec PyProof.Rows L2 Evl

/-! ### calls by what is promised -/
theorem cx_K {CX : CXT} {P : Program} {w : World} {K : PySem.W.Frag} {mg : Str → Option Value} {base : Heap} {N : List Str} {q : Str} {sc : Scope} {f : Addr} {cd : Value} {A : Around} {outer : List Env} {s : Shared} {H : Hp} {E : XK} :
    (cxOf CX P w K mg base N q sc f cd A outer s H E).nox.K = K := rfl
theorem cx_K1 {CX : CXT} {P : Program} {w : World} {K : PySem.W.Frag} {mg : Str → Option Value} {base : Heap} {N : List Str} {q : Str} {sc : Scope} {f : Addr} {cd : Value} {A : Around} {outer : List Env} {s : Shared} {H : Hp} {E : XK} :
    (cxOf CX P w K mg base N q sc f cd A outer s H E).K = K := rfl
structure Cl (P : Program) (w : World) (K : PySem.W.Frag) (mg : Str → Option Value) (base : Heap) (CX : CXT) (k : Nat) (x : Str) (sp : Sp) : Prop where
  ex : ∃ (f : Addr) (fd : FuncData) (ps : List Str), FnOk P w K mg base CX k f fd ps sp ∧ mg x = some (.ref f) ∧ PySem.W.keepIn K (.ref f) = true ∧ Binds K fd ps []
section
variable {X : Cx} {CX : CXT} {E : XK} {k j : Nat} {x : Str} {sp : Sp} {p pos : Pos} {e : Expr} {es : List Expr} {t : TA}
theorem pe_cl (c : Cl X.prog X.w X.K X.mg X.base CX k x sp) (hr : Room j X.A) (hk : k ≤ j) (hx : Passes CX X E) (hg : Gl X x) (ha : PA X (e :: es) t)
    (hdb : (x == ("__debug__" : Str)) = false := by decide) (he : starEach (e :: es) X.env = (false, eval e X.env) :: starEach es X.env := by rfl) (hpl : (backTo pos (starEach es X.env)).any (·.1) = false := by rfl) :
    PE X (.Call (.Name x p) (e :: es) [] pos) (tCall sp [] E t) := by
  obtain ⟨f, fd, ps, F, hm, kp, b⟩ := c.ex
  exact pe_call F (hr.mono hk) hg hm kp b .nil hx ha hdb he hpl
end
theorem cl_mk {P : Program} {w : World} {K : PySem.W.Frag} {mg : Str → Option Value} {base : Heap} {CX : CXT} {k : Nat} {x q : Str} {st : Stmt} {f : Addr} {fd : FuncData} {ps : List Str} {sp : Sp}
    (F : Fun K x q st f fd) (G : FnOk P w K mg base CX k f fd ps sp) (hm : mg x = some (.ref f)) (b : Binds K fd ps []) : Cl P w K mg base CX k x sp := ⟨f, fd, ps, G, hm, F.kp, b⟩

/-! ### statements at what is known -/
def Sv (ts : TS) (D : Ends) (σ : L2.St) (H : Hp) : Prop := ∀ H1, Ex H H1 → ts D σ H1
/-- a value of which P holds in what is known behind it -/
def EvP (te : TE) (σ : L2.St) (H : Hp) (P : V → Hp → Prop) : Prop := ∀ H1, Ex H H1 → ∀ Q : VK, (∀ v H2, Ex H1 H2 → P v H2 → Q v H2) → te σ H1 Q
abbrev IsL (xs : List V) : V → Hp → Prop := fun v H => ∃ p, v = .ref p ∧ H p = some (.lst xs)
section
variable {K : PySem.W.Frag} {σ : L2.St} {H H' : Hp} {ta tb te tx : TE} {t u : TT} {x y z v : V} {r : R2} {D : Ends} {tu tw tz ts : TS} {g : TG}
theorem Sv.mono (e : Ex H H') (h : Sv ts D σ H) : Sv ts D σ H' := fun H1 a => h H1 (e.trans a)
theorem Sv.at (h : Sv ts D σ H) : ts D σ H := h H (Ex.refl H)
theorem sv_asg {i : Nat} (h : Ev te σ H v) (k : Sv tz D (σ.set i (some v)) H) : Sv (tSeq (tAsg te (gName i)) tz) D σ H := fun H1 e => h H1 e _ fun H2 e2 => k H2 (e.trans e2)
theorem sv_asgP {i : Nat} {P : V → Hp → Prop} (h : EvP te σ H P) (k : ∀ v H2, Ex H H2 → P v H2 → Sv tz D (σ.set i (some v)) H2) : Sv (tSeq (tAsg te (gName i)) tz) D σ H :=
  fun H1 e => h H1 e _ fun v H2 e2 p => k v H2 (e.trans e2) p H2 (Ex.refl H2)
theorem sv_asgL {i : Nat} {xs : List V} (h : EvL te σ H xs) (k : ∀ p H2, H p = none → Ex H H2 → H2 p = some (.lst xs) → Sv tz D (σ.set i (some (.ref p))) H2) : Sv (tSeq (tAsg te (gName i)) tz) D σ H :=
  fun H1 e => h H1 e _ fun p H2 n e2 q => k p H2 (fresh_back e n) (e.trans e2) q H2 (Ex.refl H2)
theorem sv_asgU {i : Nat} {xs : List V} (h : EvU te σ H xs) (k : ∀ p H2, H p = none → Ex H H2 → H2 p = some (.tup xs) → Sv tz D (σ.set i (some (.ref p))) H2) : Sv (tSeq (tAsg te (gName i)) tz) D σ H :=
  fun H1 e => h H1 e _ fun p H2 n e2 q => k p H2 (fresh_back e n) (e.trans e2) q H2 (Ex.refl H2)
theorem sv_asg' {i : Nat} (h : Ev te σ H v) (k : Sv tNext D (σ.set i (some v)) H) : Sv (tAsg te (gName i)) D σ H := fun H1 e => h H1 e _ fun H2 e2 => k H2 (e.trans e2)
theorem sv_asgL' {i : Nat} {xs : List V} (h : EvL te σ H xs) (k : ∀ p H2, H p = none → Ex H H2 → H2 p = some (.lst xs) → Sv tNext D (σ.set i (some (.ref p))) H2) : Sv (tAsg te (gName i)) D σ H :=
  fun H1 e => h H1 e _ fun p H2 n e2 q => k p H2 (fresh_back e n) (e.trans e2) q H2 (Ex.refl H2)
theorem sv_ret (h : Ev te σ H v) (k : RetV v H D.rt) : Sv (tRet te) D σ H := fun H1 e => h H1 e _ fun H2 e2 => k H2 (e.trans e2)
theorem sv_retP {P : V → Hp → Prop} (h : EvP te σ H P) (k : ∀ v H1, Ex H H1 → P v H1 → D.rt v H1) : Sv (tRet te) D σ H := fun H1 e => h H1 e _ fun v H2 e2 p => k v H2 (e.trans e2) p
theorem sv_retL {xs : List V} (h : EvL te σ H xs) (k : RetL xs H D.rt) : Sv (tRet te) D σ H := fun H1 e => h H1 e _ fun p H2 n e2 q => k p H2 (fresh_back e n) (e.trans e2) q
theorem sv_retU {xs : List V} (h : EvU te σ H xs) (k : ∀ p H1, H p = none → Ex H H1 → H1 p = some (.tup xs) → D.rt (.ref p) H1) : Sv (tRet te) D σ H := fun H1 e => h H1 e _ fun p H2 n e2 q => k p H2 (fresh_back e n) (e.trans e2) q
theorem sv_ifB {b : Bool} (h : EvT t σ H b) (h1 : b = true → Sv tu { D with nx := tz D } σ H) (h2 : b = false → Sv tw { D with nx := tz D } σ H) : Sv (tSeq (tIfS t tu tw) tz) D σ H := fun H1 e => h H1 e _ fun H2 e2 => by
  cases b with
  | true => exact h1 rfl H2 (e.trans e2)
  | false => exact h2 rfl H2 (e.trans e2)
theorem sv_rq {nx bk ct : L2.St → Hp → Prop} {Q : VK} (k : RetV v H Q) (h : Ev te σ H v) : Sv (tRet te) { nx := nx, rt := Q, bk := bk, ct := ct } σ H := sv_ret h k
theorem sv_rqL {nx bk ct : L2.St → Hp → Prop} {Q : VK} {xs : List V} (k : RetL xs H Q) (h : EvL te σ H xs) : Sv (tRet te) { nx := nx, rt := Q, bk := bk, ct := ct } σ H := sv_retL h k
theorem ev_lenI {p : Addr} {ns : List Int} (ha : Ev ta σ H (.ref p)) (h : SqL K H p (ns.map V.int)) : Ev (tCB (rLenS K) (tCons ta tNil)) σ H (.int (ns.length : Int)) := by
  have g := ev_len ha h
  rw [List.length_map] at g
  exact g
/-- an if whose test is a proposition's truth, something behind -/
theorem sv_if {p : Prop} [Decidable p] (h : EvT t σ H (decide p)) (h1 : p → Sv tu { D with nx := tz D } σ H) (h2 : ¬ p → Sv tw { D with nx := tz D } σ H) : Sv (tSeq (tIfS t tu tw) tz) D σ H :=
  sv_ifB h (fun b => h1 (of_decide_eq_true b)) (fun b => h2 (of_decide_eq_false b))
theorem sv_when {p : Prop} [Decidable p] (h : EvT t σ H (decide p)) (h1 : p → Sv tu { D with nx := tz D } σ H) (h2 : ¬ p → Sv tz D σ H) : Sv (tSeq (tIfS t tu tNext) tz) D σ H := sv_if h h1 h2
theorem sv_if' {p : Prop} [Decidable p] (h : EvT t σ H (decide p)) (h1 : p → Sv tu D σ H) (h2 : ¬ p → Sv tw D σ H) : Sv (tIfS t tu tw) D σ H := fun H1 e => h H1 e _ fun H2 e2 => by
  by_cases q : p
  · rw [decide_eq_true q]
    exact h1 q H2 (e.trans e2)
  · rw [decide_eq_false q]
    exact h2 q H2 (e.trans e2)
theorem sv_ifB' {b : Bool} (h : EvT t σ H b) (h1 : b = true → Sv tu D σ H) (h2 : b = false → Sv tw D σ H) : Sv (tIfS t tu tw) D σ H := fun H1 e => h H1 e _ fun H2 e2 => by
  cases b with
  | true => exact h1 rfl H2 (e.trans e2)
  | false => exact h2 rfl H2 (e.trans e2)
theorem sv_next (k : ∀ H1, Ex H H1 → D.nx σ H1) : Sv tNext D σ H := k
/-- where a branch runs on into what follows -/
theorem sv_nx (k : Sv tz D σ H) : Sv tNext { D with nx := tz D } σ H := k
/-- if t: x = e, by the value behind it -/
theorem sv_ifset {p : Prop} [Decidable p] {i : Nat} {v w : V} (h : EvT t σ H (decide p)) (h1 : p → Ev te σ H v) (h2 : ¬ p → σ.set i (some w) = σ) (k : Sv tz D (σ.set i (some (if p then v else w))) H) :
    Sv (tSeq (tIfS t (tAsg te (gName i)) tNext) tz) D σ H := fun H1 e => h H1 e _ fun H2 e2 => by
  by_cases q : p
  · rw [decide_eq_true q]
    rw [if_pos q] at k
    exact h1 q H2 (e.trans e2) _ fun H3 e3 => k H3 ((e.trans e2).trans e3)
  · rw [decide_eq_false q]
    rw [if_neg q, h2 q] at k
    exact k H2 (e.trans e2)

/-! ### values -/
theorem EvP.mono {P : V → Hp → Prop} (e : Ex H H') (h : EvP te σ H P) : EvP te σ H' P := fun H1 a Q q => h H1 (e.trans a) Q q
theorem Ev.p (h : Ev te σ H v) : EvP te σ H fun v' H2 => v' = v ∧ Ex H H2 := fun H1 e Q q => h H1 e Q fun H2 e2 => q v H2 e2 ⟨rfl, e.trans e2⟩
theorem EvL.l {xs : List V} (h : EvL te σ H xs) : EvP te σ H (IsL xs) := fun H1 e Q q => h H1 e Q fun p H2 _ e2 hp => q _ H2 e2 ⟨p, rfl, hp⟩
theorem ev_l {p : Addr} {xs : List V} (h : Ev te σ H (.ref p)) (hp : H p = some (.lst xs)) : EvP te σ H (IsL xs) := fun H1 e Q q => h H1 e Q fun H2 e2 => q _ H2 e2 ⟨p, rfl, (e.trans e2) _ _ hp⟩
theorem el_cat {xs ys : List V} (ha : EvP ta σ H (IsL xs)) (hb : EvP tb σ H (IsL ys)) (hl : xs.length + ys.length ≤ 100000) : EvL (tOp rCat ta tb) σ H (xs ++ ys) := fun H1 e Q q =>
  ha H1 e _ fun x H2 e2 ⟨p, ex, hp⟩ => hb H2 (e.trans e2) _ fun y H3 e3 ⟨p', ey, hp'⟩ => ⟨p, p', xs, ys, ex, ey, e3 _ _ hp, hp', sz_of hl, fun l hn => q l _ (fresh_back (e2.trans e3) hn) ((e2.trans e3).trans (Ex.new hn)) upd_same⟩
theorem el_rep {xs : List V} {n : Int} (ha : EvP ta σ H (IsL xs)) (hb : Ev tb σ H (.int n)) (h0 : -1000 ≤ n) (h1 : n ≤ 1000) (hl : xs.length ≤ 100) : EvL (tOp rRep ta tb) σ H ((List.replicate n.toNat xs).flatten) := fun H1 e Q q =>
  ha H1 e _ fun x H2 e2 ⟨p, ex, hp⟩ => hb H2 (e.trans e2) _ fun H3 e3 => by
    refine ⟨p, n, xs, ex, rfl, e3 _ _ hp, by omega, by omega, ?_, fun l hn => ?_⟩
    · have a : xs.length * n.toNat ≤ 100 * 1000 := Nat.mul_le_mul hl (by omega)
      exact sz_of (by omega)
    · exact q l _ (fresh_back (e2.trans e3) hn) ((e2.trans e3).trans (Ex.new hn)) upd_same
end

/-! ### tests by propositions -/
section
variable {K : PySem.W.Frag} {σ : L2.St} {H H' : Hp} {ta tb te tx : TE} {t u : TT} {x y z v : V} {r : R2} {p q : Prop} [Decidable p] [Decidable q]
theorem tp_cmp (h : Ev te σ H (.bl (decide p))) : EvT (tTest te) σ H (decide p) := et_test h
theorem tp_val (h : Ev te σ H (.bl (decide p))) : EvT (tB te) σ H (decide p) := et_B h
theorem tp_and (h1 : EvT t σ H (decide p)) (h2 : p → EvT u σ H (decide q)) : EvT (tAnd t u) σ H (decide (p ∧ q)) := by
  have g := et_and (b := decide q) h1 (fun e => h2 (of_decide_eq_true e))
  have e : (decide p && decide q) = decide (p ∧ q) := (Bool.decide_and p q).symm
  rw [e] at g
  exact g
theorem tp_or (h1 : EvT t σ H (decide p)) (h2 : ¬ p → EvT u σ H (decide q)) : EvT (tOr t u) σ H (decide (p ∨ q)) := by
  have g := et_or (b := decide q) h1 (fun e => h2 (of_decide_eq_false e))
  have e : (decide p || decide q) = decide (p ∨ q) := (Bool.decide_or p q).symm
  rw [e] at g
  exact g
theorem tp_not (h1 : EvT t σ H (decide p)) : EvT (tNot t) σ H (decide (¬ p)) := by
  have g := et_not h1
  have e : (!decide p) = decide (¬ p) := decide_not.symm
  rw [e] at g
  exact g
theorem tp_iff (h1 : EvT t σ H (decide p)) (e : p ↔ q) : EvT t σ H (decide q) := by
  have e2 : decide p = decide q := decide_eq_decide.mpr e
  rw [← e2]
  exact h1
theorem ep_and (h1 : Ev ta σ H (.bl (decide p))) (h2 : p → Ev tb σ H (.bl (decide q))) : Ev (tAndV ta tb) σ H (.bl (decide (p ∧ q))) := by
  have g := ev_andV (b := decide q) h1 (fun e => h2 (of_decide_eq_true e))
  have e : (decide p && decide q) = decide (p ∧ q) := (Bool.decide_and p q).symm
  rw [e] at g
  exact g
theorem ep_or (h1 : Ev ta σ H (.bl (decide p))) (h2 : ¬ p → Ev tb σ H (.bl (decide q))) : Ev (tOrV ta tb) σ H (.bl (decide (p ∨ q))) := by
  have g := ev_orV (b := decide q) h1 (fun e => h2 (of_decide_eq_false e))
  have e : (decide p || decide q) = decide (p ∨ q) := (Bool.decide_or p q).symm
  rw [e] at g
  exact g
theorem ep_not (h1 : Ev ta σ H (.bl (decide p))) : Ev (tNotV ta) σ H (.bl (decide (¬ p))) := by
  have g := ev_notV h1
  have e : (!decide p) = decide (¬ p) := decide_not.symm
  rw [e] at g
  exact g
theorem ev_eq {v' : V} (h : Ev te σ H v) (e : v = v') : Ev te σ H v' := by
  rw [← e]
  exact h
theorem rp_lt {i j : Int} : RV (rI0 fun i j => .bl (decide (i < j))) (.int i) (.int j) H (.bl (decide (i < j))) := rv_I0
theorem rp_eqI {i j : Int} : RV rEq (.int i) (.int j) H (.bl (decide (i = j))) := by
  have e : decide (V.int i = V.int j) = decide (i = j) := decide_eq_decide.mpr ⟨V.int.inj, fun e => by rw [e]⟩
  rw [← e]
  exact rv_eq rfl
theorem rp_neI {i j : Int} : RV rNe (.int i) (.int j) H (.bl (decide (¬ i = j))) := by
  have e : decide (V.int i = V.int j) = decide (i = j) := decide_eq_decide.mpr ⟨V.int.inj, fun e => by rw [e]⟩
  have e2 : decide (¬ i = j) = !decide (i = j) := decide_not
  rw [e2, ← e]
  exact rv_ne rfl
theorem rp_eqB {i j : Bool} : RV rEq (.bl i) (.bl j) H (.bl (decide (i = j))) := by
  have e : decide (V.bl i = V.bl j) = decide (i = j) := decide_eq_decide.mpr ⟨V.bl.inj, fun e => by rw [e]⟩
  rw [← e]
  exact rv_eq rfl
theorem rp_neB {i j : Bool} : RV rNe (.bl i) (.bl j) H (.bl (decide (¬ i = j))) := by
  have e : decide (V.bl i = V.bl j) = decide (i = j) := decide_eq_decide.mpr ⟨V.bl.inj, fun e => by rw [e]⟩
  have e2 : decide (¬ i = j) = !decide (i = j) := decide_not
  rw [e2, ← e]
  exact rv_ne rfl
/-- is None of what is no None, of None -/
theorem rp_isNF (h : x ≠ .non) : RV (fun x y H Q => y = .non ∧ Q (.bl (decide (x = .non))) H) x .non H (.bl (decide False)) := fun H1 _ Q q => by
  refine ⟨rfl, ?_⟩
  show Q (.bl (decide (x = .non))) H1
  rw [decide_eq_false h]
  exact q H1 (Ex.refl H1)
theorem rp_isNT : RV (fun x y H Q => y = .non ∧ Q (.bl (decide (x = .non))) H) .non .non H (.bl (decide True)) := fun H1 _ Q q => ⟨rfl, q H1 (Ex.refl H1)⟩
theorem rp_notNF (h : x ≠ .non) : RV (fun x y H Q => y = .non ∧ Q (.bl (!decide (x = .non))) H) x .non H (.bl (decide True)) := fun H1 _ Q q => by
  refine ⟨rfl, ?_⟩
  show Q (.bl (!decide (x = .non))) H1
  rw [decide_eq_false h]
  exact q H1 (Ex.refl H1)
theorem rp_notNT : RV (fun x y H Q => y = .non ∧ Q (.bl (!decide (x = .non))) H) .non .non H (.bl (decide False)) := fun H1 _ Q q => ⟨rfl, q H1 (Ex.refl H1)⟩

/-! ### promises of values -/
/-- a promise: the arguments and what is known give a value; nothing that was known is touched -/
def SpR (n : Nat) (R : List V → Hp → V → Prop) : Sp := fun vs H Q _ => vs.length = n ∧ ∃ z, R vs H z ∧ RetV z H Q
def SpN (n : Nat) (R : List V → Hp → List V → Prop) : Sp := fun vs H Q _ => vs.length = n ∧ ∃ xs, R vs H xs ∧ RetL xs H Q
theorem spv {n : Nat} {R : List V → Hp → V → Prop} {vs : List V} (hl : vs.length = n) (h : ∀ H1, Ex H H1 → R vs H1 z) : SpV (SpR n R) vs H z := fun H1 e Q q E => ⟨hl, z, h H1 e, q⟩
theorem spl {n : Nat} {R : List V → Hp → List V → Prop} {vs xs : List V} (hl : vs.length = n) (h : ∀ H1, Ex H H1 → R vs H1 xs) : SpL (SpN n R) vs H xs := fun H1 e Q q E => ⟨hl, xs, h H1 e, fun p H2 hp e2 h2 => q p H2 hp e2 h2⟩
/-! ### calls of built-ins -/
theorem ev_lenL {p : Addr} {xs : List V} (ha : Ev ta σ H (.ref p)) (h : SqL K H p xs) : Ev (tCB (rLenS K) (tCons ta tNil)) σ H (.int (xs.length : Int)) := ev_len ha h
theorem ev_lenT {p : Addr} {xs : List V} (ha : Ev ta σ H (.ref p)) (h : SqT K H p xs) : Ev (tCB (rLenS K) (tCons ta tNil)) σ H (.int (xs.length : Int)) := fun H1 e Q q =>
  ha H1 e _ fun H2 e2 => ⟨p, xs, rfl, Or.inr (ex_t (e.trans e2) h), q H2 e2⟩
theorem ev_isi {n : String} {ty : Value} {b : Bool} (ha : Ev ta σ H x) (ht : ∀ H1, Ex H H1 → TyX K H1 x ty) (hk : PySem.W.kitOne K ty (.type n) = some b) : Ev (tCB (rIsi K) (tCons ta (tCons (tC (.ty n)) tNil))) σ H (.bl b) := fun H1 e Q q =>
  ha H1 e _ fun H2 e2 => ⟨x, .ty n, ty, .type n, b, rfl, .ty n, ht H2 (e.trans e2), hk, q H2 e2⟩
end

/-! ### the rules by short names -/
section
variable {X : Cx}
theorem c_len : CallR X (.builtin "len") (rLenS X.K) := call_len_seq
theorem c_list : CallR X (.type "list") (rListS X.K) := call_list_of
def rMin2 : List V → Hp → VK → Prop := fun xs H Q => ∃ i j, xs = [.int i, .int j] ∧ Q (.int (if j < i then j else i)) H
theorem c_min2 (hc : X.calm = true) : CallR X (.builtin "min") rMin2 := call_min2 hc
theorem c_max2 (hc : X.calm = true) : CallR X (.builtin "max") rMax2 := call_max2 hc
def rNone : R2 := fun x y H Q => y = .non ∧ Q (.bl (decide (x = .non))) H
def rSome : R2 := fun x y H Q => y = .non ∧ Q (.bl (!decide (x = .non))) H
theorem o_isN : OpR X (compareOp .Is) rNone := op_isN
theorem o_notN : OpR X (compareOp .IsNot) rSome := op_notN
end
section
variable {K : PySem.W.Frag} {σ : L2.St} {H H' : Hp} {ta tb te tx : TE} {t u : TT} {x y z v : V} {r : R2} {D : Ends} {tu tw tz ts : TS} {g : TG}
theorem ev_cl {sp : Sp} {vs : List V} {E : XK} {ta : TA} (h : EvA ta σ H vs) (hs : SpV sp vs H z) : Ev (tCall sp [] E ta) σ H z := ev_call h (by rw [List.append_nil]; exact hs)
theorem el_cl {sp : Sp} {vs xs : List V} {E : XK} {ta : TA} (h : EvA ta σ H vs) (hs : SpL sp vs H xs) : EvL (tCall sp [] E ta) σ H xs := el_call h (by rw [List.append_nil]; exact hs)
theorem ev_min2 {i j : Int} (ha : Ev ta σ H (.int i)) (hb : Ev tb σ H (.int j)) : Ev (tCB rMin2 (tCons ta (tCons tb tNil))) σ H (.int (if j < i then j else i)) := fun H1 e Q q =>
  ha H1 e _ fun H2 e2 => hb H2 (e.trans e2) _ fun H3 e3 => ⟨i, j, rfl, q H3 (e2.trans e3)⟩
theorem rv_mod {i j : Int} (h : 0 < j) : RV (rI (fun _ j => 0 < j) fun i j => .int (i % j)) (.int i) (.int j) H (.int (i % j)) := rv_I h
theorem rv_div {i j : Int} (h : 0 < j) (h2 : j < 1073741824) : RV (rI CDiv fun i j => .int (i / j)) (.int i) (.int j) H (.int (i / j)) := rv_I ⟨h, h2⟩
theorem rv_mulR {i j : Int} (h : -(2 ^ 64) < j) (h2 : j < 2 ^ 64) : RV (rI CMul fun i j => .int (i * j)) (.int i) (.int j) H (.int (i * j)) := rv_I (.inr ⟨h, h2⟩)
theorem rv_mulL {i j : Int} (h : -(2 ^ 64) < i) (h2 : i < 2 ^ 64) : RV (rI CMul fun i j => .int (i * j)) (.int i) (.int j) H (.int (i * j)) := rv_I (.inl ⟨h, h2⟩)
theorem rv_powS {i j : Int} (h : CPow i j) : RV (rI CPow fun i j => .int (i ^ j.toNat)) (.int i) (.int j) H (.int (i ^ j.toNat)) := rv_I h
theorem ix_int {ns : List Int} {i : Int} (h0 : 0 ≤ i) (h1 : i < ns.length) : atI (ns.map V.int) i = some (.int (ns.getD i.toNat 0)) := by
  obtain ⟨k, rfl⟩ := Int.eq_ofNat_of_zero_le h0
  refine atI_nat ?_
  have hk : k < ns.length := by omega
  rw [List.getElem?_map, List.getElem?_eq_getElem hk]
  show some (V.int ns[k]) = some (V.int (ns.getD k 0))
  rw [List.getD_eq_getElem?_getD, List.getElem?_eq_getElem hk]
  rfl
theorem rv_ixI {p : Addr} {ns : List Int} {i : Int} (h : SqL K H p (ns.map V.int)) (h0 : 0 ≤ i) (h1 : i < ns.length) : RV (rIxL K) (.ref p) (.int i) H (.int (ns.getD i.toNat 0)) := rv_ixL h (ix_int h0 h1)
theorem rn_no (h : x ≠ .non) : RV rNone x .non H (.bl (decide False)) := rp_isNF h
theorem rn_yes : RV rNone .non .non H (.bl (decide True)) := rp_isNT
theorem rs_no : RV rSome .non .non H (.bl (decide False)) := rp_notNT
theorem rs_yes (h : x ≠ .non) : RV rSome x .non H (.bl (decide True)) := rp_notNF h
end

/-! ### loops -/
/-- what holds in what is known, whatever stands besides -/
def Kn (I : L2.St → Hp → Prop) : L2.St → Hp → Prop := fun σ H1 => ∃ H, I σ H ∧ Ex H H1
section
variable {K : PySem.W.Frag} {σ : L2.St} {H H' : Hp} {ta tb te tx : TE} {t u : TT} {x y z v : V} {r : R2} {D : Ends} {tu tw tz ts : TS} {g : TG} {I : L2.St → Hp → Prop}
theorem sv_kn {rt : VK} {bk ct : L2.St → Hp → Prop} (h : I σ H) : Sv tNext { nx := Kn I, rt := rt, bk := bk, ct := ct } σ H := fun H1 e => ⟨H, h, e⟩
theorem sv_kc {rt : VK} {bk nx : L2.St → Hp → Prop} (h : I σ H) : Sv tCont { nx := nx, rt := rt, bk := bk, ct := Kn I } σ H := fun H1 e => ⟨H, h, e⟩
/-- for x in range(n) -/
theorem sv_forR1 {ta : TA} {j : Nat} {n : Int} (h : EvA ta σ H [.int n]) (hn : -100000 ≤ n ∧ n ≤ 100000) (I : Nat → L2.St → Hp → Prop) (h0 : I 0 σ H)
    (hs : ∀ (i : Nat) σ' H', (i : Int) < n → I i σ' H' → Sv tu { D with nx := Kn (I (i + 1)), ct := Kn (I (i + 1)), bk := tz D } (σ'.set j (some (.int (i : Int)))) H') (hd : ∀ σ' H', I n.toNat σ' H' → Sv tz D σ' H') : Sv (tSeq (tFor (iRng1 ta) (gName j) tu) tz) D σ H :=
  fun H1 e => h H1 e _ fun H2 e2 => ⟨n, rfl, by omega, by omega, for_range (D := { D with nx := tz D }) (lo := 0) (n := n.toNat) (fun i => Kn (I i)) ⟨H, h0, e.trans e2⟩ (fun i σ' H3 hi ⟨H', p, e3⟩ => by
    have e0 : (0 : Int) + (i : Int) = (i : Int) := Int.zero_add _
    show tu { D with nx := Kn (I (i + 1)), ct := Kn (I (i + 1)), bk := tz D } (σ'.set j (some (.int ((0 : Int) + (i : Int))))) H3
    rw [e0]
    exact hs i σ' H' (by omega) p H3 e3) (fun σ' H3 ⟨H', p, e3⟩ => hd σ' H' p H3 e3)⟩
/-- for x in xs, a list that stands -/
theorem sv_forL {a : Addr} {xs : List V} {tl : TE} {j : Nat} (h : Ev tl σ H (.ref a)) (hx : SqL K H a xs) (I : Nat → L2.St → Hp → Prop) (h0 : I 0 σ H) (hl : ∀ i σ' H', I i σ' H' → SqL K H' a xs)
    (hs : ∀ i x σ' H', xs[i]? = some x → I i σ' H' → Sv tu { D with nx := Kn (I (i + 1)), ct := Kn (I (i + 1)), bk := tz D } (σ'.set j (some x)) H') (hd : ∀ σ' H', I xs.length σ' H' → Sv tz D σ' H') : Sv (tSeq (tFor (iList K tl) (gName j) tu) tz) D σ H :=
  fun H1 e => h H1 e _ fun H2 e2 => ⟨a, rfl, ⟨xs, ex_l (e.trans e2) hx⟩, for_list (D := { D with nx := tz D }) (xs := xs) (fun i => Kn (I i)) ⟨H, h0, e.trans e2⟩ (fun i σ' H3 _ ⟨H', p, e3⟩ => ex_l e3 (hl i σ' H' p))
    (fun i x σ' H3 hi ⟨H', p, e3⟩ => hs i x σ' H' hi p H3 e3) (fun σ' H3 ⟨H', p, e3⟩ => hd σ' H' p H3 e3)⟩
/-- for x in t, a tuple that stands -/
theorem sv_forT {a : Addr} {xs : List V} {tl : TE} {j : Nat} (h : Ev tl σ H (.ref a)) (hx : SqT K H a xs) (I : Nat → L2.St → Hp → Prop) (h0 : I 0 σ H) (hl : ∀ i σ' H', I i σ' H' → SqT K H' a xs)
    (hs : ∀ i x σ' H', xs[i]? = some x → I i σ' H' → Sv tu { D with nx := Kn (I (i + 1)), ct := Kn (I (i + 1)), bk := tz D } (σ'.set j (some x)) H') (hd : ∀ σ' H', I xs.length σ' H' → Sv tz D σ' H') : Sv (tSeq (tFor (iTup K tl) (gName j) tu) tz) D σ H :=
  fun H1 e => h H1 e _ fun H2 e2 => ⟨a, rfl, ⟨xs, ex_t (e.trans e2) hx⟩, for_tup (D := { D with nx := tz D }) (xs := xs) (fun i => Kn (I i)) ⟨H, h0, e.trans e2⟩ (fun i σ' H3 _ ⟨H', p, e3⟩ => ex_t e3 (hl i σ' H' p))
    (fun i x σ' H3 hi ⟨H', p, e3⟩ => hs i x σ' H' hi p H3 e3) (fun σ' H3 ⟨H', p, e3⟩ => hd σ' H' p H3 e3)⟩
/-- for x, y in zip(xs, ys) -/
theorem sv_forZ {a b : Addr} {xs ys : List V} {ta : TA} {j k : Nat} (h : EvA ta σ H [.ref a, .ref b]) (hx : SqL K H a xs) (hy : SqL K H b ys) (I : Nat → L2.St → Hp → Prop) (h0 : I 0 σ H) (hl : ∀ i σ' H', I i σ' H' → SqL K H' a xs ∧ SqL K H' b ys)
    (hs : ∀ i x y σ' H', xs[i]? = some x → ys[i]? = some y → I i σ' H' → Sv tu { D with nx := Kn (I (i + 1)), ct := Kn (I (i + 1)), bk := tz D } ((σ'.set j (some x)).set k (some y)) H')
    (hd : ∀ i σ' H', i ≤ xs.length → i ≤ ys.length → (xs.length ≤ i ∨ ys.length ≤ i) → I i σ' H' → Sv tz D σ' H') :
    Sv (tSeq (tFor (iZip K ta) (gTup K 2 (gCons (gName j) (gCons (gName k) gNil))) tu) tz) D σ H := fun H1 e => h H1 e _ fun H2 e2 => by
  refine ⟨a, b, xs, ys, rfl, ex_l (e.trans e2) hx, ex_l (e.trans e2) hy, fun i m σ' H3 => i + m = min xs.length ys.length ∧ i ≤ xs.length ∧ i ≤ ys.length ∧ Kn (I i) σ' H3, ⟨min xs.length ys.length, by omega, Nat.zero_le _, Nat.zero_le _, H, h0, e.trans e2⟩, ?_⟩
  rintro i m σ' H3 ⟨hm, l1, l2, H', p, e3⟩
  obtain ⟨qx, qy⟩ := hl i σ' H' p
  by_cases c : i < xs.length ∧ i < ys.length
  · refine .inr ⟨⟨xs, ys, _, _, ex_l e3 qx, ex_l e3 qy, List.getElem?_eq_getElem c.1, List.getElem?_eq_getElem c.2⟩, Kn (I (i + 1)), fun σ2 H4 n => ⟨m - 1, by omega, by omega, by omega, by omega, n⟩, fun z H4 y => ?_⟩
    obtain ⟨T, x1, x2, rfl, nT, rfl, f1, f2⟩ := y
    refine ⟨T, [x1, x2], rfl, st_of upd_same, rfl, x1, [x2], rfl, x2, [], rfl, rfl, ?_⟩
    exact hs i x1 x2 σ' H' (f1 xs (ex_l e3 qx)) (f2 ys (ex_l e3 qy)) p _ (e3.trans (Ex.new nT))
  · refine .inl ⟨⟨xs, ys, ex_l e3 qx, ex_l e3 qy, by omega⟩, ?_⟩
    exact hd i σ' H' l1 l2 (by omega) p H3 e3
end

/-! ### data at any depth -/
mutual
theorem dp_mono {K : PySem.W.Frag} {H H' : Hp} (e : Ex H H') : ∀ {v : V} (d : PyData), Dp K H v d → Dp K H' v d
  | _, .none, h => by cases h; exact .non
  | _, .bool _, h => by cases h; exact .bl _
  | _, .int _, h => by cases h; exact .int _
  | _, .str _, h => by cases h; exact .str _
  | _, .list ds, h => by
    cases h with
    | lst a b => exact .lst (ex_l e a) (dpAll_mono e ds b)
  | _, .tuple ds, h => by
    cases h with
    | tup a b => exact .tup (ex_t e a) (dpAll_mono e ds b)
  | _, .dict _, h => by cases h
theorem dpAll_mono {K : PySem.W.Frag} {H H' : Hp} (e : Ex H H') : ∀ {vs : List V} (ds : List PyData), DpAll K H vs ds → DpAll K H' vs ds
  | _, [], h => by cases h; exact .nil
  | _, d :: ds, h => by
    cases h with
    | cons a b => exact .cons (dp_mono e d a) (dpAll_mono e ds b)
end
theorem dpAll_ints {K : PySem.W.Frag} {H : Hp} : ∀ ns : List Int, DpAll K H (ns.map V.int) (ns.map PyData.int)
  | [] => .nil
  | n :: r => .cons (.int n) (dpAll_ints r)
theorem dp_ints {K : PySem.W.Frag} {H : Hp} {a : Addr} {ns : List Int} (h : SqL K H a (ns.map V.int)) : Dp K H (.ref a) (.list (ns.map PyData.int)) := .lst h (dpAll_ints ns)
theorem dp_intsT {K : PySem.W.Frag} {H : Hp} {a : Addr} {ns : List Int} (h : SqT K H a (ns.map V.int)) : Dp K H (.ref a) (.tuple (ns.map PyData.int)) := .tup h (dpAll_ints ns)
/-- data that may be compared, at most n deep -/
def Shp (n : Nat) (d : PyData) : Prop := d.canLay0 = true ∧ d.depth ≤ n
theorem Shp.ok {n : Nat} {d : PyData} (h : Shp n d) (hn : n ≤ 64) : SeqAt.shaped d = true := by
  unfold SeqAt.shaped
  rw [h.1, Bool.true_and]
  exact decide_eq_true (Nat.le_trans h.2 hn)
theorem shp_int {n : Nat} (i : Int) : Shp n (.int i) := ⟨rfl, Nat.zero_le _⟩
theorem shp_none {n : Nat} : Shp n .none := ⟨rfl, Nat.zero_le _⟩
theorem shp_all {n : Nat} : ∀ {ds : List PyData}, (∀ d ∈ ds, Shp n d) → PyData.canLayAll0 ds = true ∧ PyData.depthAll ds ≤ n
  | [], _ => ⟨rfl, Nat.zero_le _⟩
  | d :: ds, h => by
    have h1 := h d (List.mem_cons_self ..)
    have h2 := shp_all fun x hx => h x (List.mem_cons_of_mem _ hx)
    refine ⟨?_, ?_⟩
    · show (d.canLay0 && PyData.canLayAll0 ds) = true
      rw [h1.1, h2.1]
      rfl
    · show max d.depth (PyData.depthAll ds) ≤ n
      exact Nat.max_le.mpr ⟨h1.2, h2.2⟩
theorem shp_list {n : Nat} {ds : List PyData} (h : ∀ d ∈ ds, Shp n d) : Shp (n + 1) (.list ds) := ⟨(shp_all h).1, Nat.succ_le_succ (shp_all h).2⟩
theorem shp_tuple {n : Nat} {ds : List PyData} (h : ∀ d ∈ ds, Shp n d) : Shp (n + 1) (.tuple ds) := ⟨(shp_all h).1, Nat.succ_le_succ (shp_all h).2⟩
theorem shp_ints (ns : List Int) : ∀ d ∈ ns.map PyData.int, Shp 0 d := fun d hd => by
  obtain ⟨n, _, rfl⟩ := List.mem_map.mp hd
  exact shp_int n
theorem shp_listI (ns : List Int) : Shp 1 (.list (ns.map PyData.int)) := shp_list (shp_ints ns)
theorem shp_tupI (ns : List Int) : Shp 1 (.tuple (ns.map PyData.int)) := shp_tuple (shp_ints ns)
section
variable {K : PySem.W.Frag} {σ : L2.St} {H H' : Hp} {ta tb te tx : TE} {t u : TT} {x y z v : V} {r : R2} {D : Ends} {tu tw tz ts : TS} {g : TG}
theorem rd_neSame {d : PyData} {n : Nat} (hx : Dp K H x d) (hy : Dp K H y d) (hs : Shp n d) (hn : n ≤ 64) : RV (rNeD K) x y H (.bl (decide False)) := fun H1 e Q q => by
  refine ⟨d, d, dp_mono e d hx, dp_mono e d hy, hs.ok hn, hs.ok hn, ?_⟩
  rw [SeqAt.eqv_refl d hs.1]
  exact q H1 (Ex.refl H1)
theorem rd_eqSame {d : PyData} {n : Nat} (hx : Dp K H x d) (hy : Dp K H y d) (hs : Shp n d) (hn : n ≤ 64) : RV (rEqD K) x y H (.bl (decide True)) := fun H1 e Q q => by
  refine ⟨d, d, dp_mono e d hx, dp_mono e d hy, hs.ok hn, hs.ok hn, ?_⟩
  rw [SeqAt.eqv_refl d hs.1]
  exact q H1 (Ex.refl H1)
theorem rd_eq {d d' : PyData} {n : Nat} (hx : Dp K H x d) (hy : Dp K H y d') (hs : Shp n d) (hs' : Shp n d') (hn : n ≤ 64) : RV (rEqD K) x y H (.bl (PyData.eqv d d')) := fun H1 e Q q =>
  ⟨d, d', dp_mono e d hx, dp_mono e d' hy, hs.ok hn, hs'.ok hn, q H1 (Ex.refl H1)⟩
theorem rd_ne {d d' : PyData} {n : Nat} (hx : Dp K H x d) (hy : Dp K H y d') (hs : Shp n d) (hs' : Shp n d') (hn : n ≤ 64) : RV (rNeD K) x y H (.bl (!PyData.eqv d d')) := fun H1 e Q q =>
  ⟨d, d', dp_mono e d hx, dp_mono e d' hy, hs.ok hn, hs'.ok hn, q H1 (Ex.refl H1)⟩
theorem tp_valT (h : Ev te σ H (.bl true)) : EvT (tB te) σ H (decide True) := et_B h
theorem tp_valF (h : Ev te σ H (.bl false)) : EvT (tB te) σ H (decide False) := et_B h

/-! ### arguments of which something is known -/
def EvAP (ta : TA) (σ : L2.St) (H : Hp) (P : List V → Hp → Prop) : Prop := ∀ H1, Ex H H1 → ∀ Q : List V → Hp → Prop, (∀ vs H2, Ex H1 H2 → P vs H2 → Q vs H2) → ta σ H1 Q
theorem eap_nil {P : List V → Hp → Prop} (h : ∀ H2, Ex H H2 → P [] H2) : EvAP tNil σ H P := fun H1 e Q q => q [] H1 (Ex.refl H1) (h H1 e)
theorem eap_cons {tr : TA} {P : List V → Hp → Prop} {P1 : V → Hp → Prop} (h : EvP te σ H P1) (hr : ∀ v H2, Ex H H2 → P1 v H2 → EvAP tr σ H2 fun vs H3 => P (v :: vs) H3) : EvAP (tCons te tr) σ H P := fun H1 e Q q =>
  h H1 e _ fun v H2 e2 p => hr v H2 (e.trans e2) p H2 (Ex.refl H2) _ fun vs H3 e3 p3 => q (v :: vs) H3 (e2.trans e3) p3
theorem eap_of {ta : TA} {vs : List V} (h : EvA ta σ H vs) : EvAP ta σ H fun ws H2 => ws = vs ∧ Ex H H2 := fun H1 e Q q => h H1 e Q fun H2 e2 => q vs H2 e2 ⟨rfl, e.trans e2⟩
/-- a promise that gives a value of which P holds -/
def SpP (sp : Sp) (vs : List V) (H : Hp) (P : V → Hp → Prop) : Prop := ∀ H1, Ex H H1 → ∀ Q : VK, (∀ v H2, Ex H1 H2 → P v H2 → Q v H2) → ∀ E : XK, sp vs H1 Q E
theorem evp_cl {sp : Sp} {E : XK} {ta : TA} {PA : List V → Hp → Prop} {P : V → Hp → Prop} (h : EvAP ta σ H PA) (hs : ∀ vs H2, Ex H H2 → PA vs H2 → SpP sp vs H2 P) : EvP (tCall sp [] E ta) σ H P := fun H1 e Q q =>
  h H1 e _ fun vs H2 e2 p => by
    rw [List.append_nil]
    exact hs vs H2 (e.trans e2) p H2 (Ex.refl H2) Q (fun v H3 e3 => q v H3 (e2.trans e3)) E
theorem ep_cl {sp : Sp} {E : XK} {ta : TA} {vs : List V} {P : V → Hp → Prop} (h : EvA ta σ H vs) (hs : SpP sp vs H P) : EvP (tCall sp [] E ta) σ H P := fun H1 e Q q =>
  h H1 e _ fun H2 e2 => by
    rw [List.append_nil]
    exact hs H2 (e.trans e2) Q (fun v H3 e3 => q v H3 (e2.trans e3)) E
/-- a list display; what is known of its items -/
theorem evp_lst {ta : TA} {PA : List V → Hp → Prop} (h : EvAP ta σ H PA) (hl : ∀ vs H2, PA vs H2 → vs.length ≤ 100000) : EvP (tLst ta) σ H fun v H2 => ∃ p vs H3, v = .ref p ∧ PA vs H3 ∧ H3 p = none ∧ Ex H H3 ∧ H2 = upd H3 p (.lst vs) := fun H1 e Q q =>
  h H1 e _ fun vs H2 e2 p => ⟨sz_of (hl vs H2 p), fun l hn => q _ _ (e2.trans (Ex.new hn)) ⟨l, vs, H2, rfl, p, hn, e.trans e2, rfl⟩⟩
theorem evp_tup {ta : TA} {PA : List V → Hp → Prop} (h : EvAP ta σ H PA) (hl : ∀ vs H2, PA vs H2 → vs.length ≤ 100000) : EvP (tTup ta) σ H fun v H2 => ∃ p vs H3, v = .ref p ∧ PA vs H3 ∧ H3 p = none ∧ Ex H H3 ∧ H2 = upd H3 p (.tup vs) := fun H1 e Q q =>
  h H1 e _ fun vs H2 e2 p => ⟨sz_of (hl vs H2 p), fun l hn => q _ _ (e2.trans (Ex.new hn)) ⟨l, vs, H2, rfl, p, hn, e.trans e2, rfl⟩⟩
theorem EvP.imp {P P' : V → Hp → Prop} (h : EvP te σ H P) (i : ∀ v H2, Ex H H2 → P v H2 → P' v H2) : EvP te σ H P' := fun H1 e Q q => h H1 e Q fun v H2 e2 p => q v H2 e2 (i v H2 (e.trans e2) p)
theorem EvL.p {xs : List V} (h : EvL te σ H xs) : EvP te σ H fun v H2 => ∃ p, v = .ref p ∧ H p = none ∧ Ex H H2 ∧ H2 p = some (.lst xs) := fun H1 e Q q => h H1 e Q fun p H2 n e2 hp => q _ H2 e2 ⟨p, rfl, fresh_back e n, e.trans e2, hp⟩
/-! ### comprehensions of ints -/
theorem el_lcI {ta : TA} {j : Nat} {vs : List Nat} {n : Int} (f : Nat → Int) (h : EvA ta σ H [.int n]) (hn : 0 ≤ n ∧ n ≤ 40000) (hw : ∀ x, wipe ((wipe σ vs).set j (some x)) vs = wipe σ vs)
    (he : ∀ i : Nat, (i : Int) < n → Ev te ((wipe σ vs).set j (some (.int (i : Int)))) H (.int (f i))) : EvL (tLc (iRng1 ta) (gName j) tYes te vs) σ H (((List.range n.toNat).map f).map V.int) := by
  have g := el_lcR1 (t := tYes) (te := te) (fun _ => true) (fun i => V.int (f i)) h hn hw (fun i H1 _ _ H2 _ Q q => q H2 (Ex.refl H2)) (fun i H1 e hi _ => (he i hi).mono e)
  have e : given n.toNat (fun _ => true) (fun i => V.int (f i)) = ((List.range n.toNat).map f).map V.int := by
    unfold given
    rw [List.map_map, List.filter_eq_self.mpr (fun _ _ => rfl)]
    rfl
  rw [e] at g
  exact g
theorem sv_cut (M : L2.St → Hp → Prop) (h : Sv tu { D with nx := Kn M } σ H) (k : ∀ σ' H', M σ' H' → Sv tz D σ' H') : Sv (tCut tu tz) D σ H := fun H1 e => ⟨Kn M, h H1 e, fun σ' H3 ⟨H', m, e3⟩ => k σ' H' m H3 e3⟩
/-- xs[i] = e, the list xs tracked -/
theorem sv_setL {l : Addr} {xs : List V} {i : Int} {j : Nat} {ti : TE} (hl : H l = some (.lst xs)) (h : Ev te σ H v) (ho : Ev ta σ H (.ref l)) (hi : Ev ti σ H (.int i)) (hj : ixN xs.length i = some j) (k : Sv tNext D σ (upd H l (.lst (xs.set j v)))) :
    Sv (tAsg te (gSub ta ti rSetL)) D σ H := fun H1 e => h H1 e _ fun H2 e2 => ho H2 (e.trans e2) _ fun H3 e3 => hi H3 ((e.trans e2).trans e3) _ fun H4 e4 =>
  ⟨l, xs, i, j, rfl, rfl, (((e.trans e2).trans e3).trans e4) l _ hl, hj, k _ fun a o ha => by
    by_cases q : a = l
    · subst q
      rw [upd_same] at ha ⊢
      exact ha
    · rw [upd_ne q] at ha ⊢
      exact (((e.trans e2).trans e3).trans e4) a o ha⟩
end

/-! ### slices, repetitions -/
theorem cut_to {xs : List V} {m : Int} (h : 0 ≤ m) : cutV xs none (some m) = xs.take m.toNat := by
  obtain ⟨k, rfl⟩ := Int.eq_ofNat_of_zero_le h
  unfold cutV
  rw [HT.sIx_none, HT.sIx_nat, List.drop_zero, Nat.sub_zero]
  show List.take (min k xs.length) xs = List.take k xs
  by_cases c : k ≤ xs.length
  · rw [Nat.min_eq_left c]
  · rw [Nat.min_eq_right (by omega), List.take_length, List.take_of_length_le (by omega)]
theorem cut_from {xs : List V} {m : Int} (h : 0 ≤ m) : cutV xs (some m) none = xs.drop m.toNat := by
  obtain ⟨k, rfl⟩ := Int.eq_ofNat_of_zero_le h
  unfold cutV
  rw [HT.sIx_none, HT.sIx_nat]
  show List.take (xs.length - min k xs.length) (List.drop (min k xs.length) xs) = List.drop k xs
  by_cases c : k ≤ xs.length
  · rw [Nat.min_eq_left c]
    exact List.take_of_length_le (by rw [List.length_drop] <;> omega)
  · rw [Nat.min_eq_right (by omega), List.drop_eq_nil_of_le (Nat.le_refl _), List.drop_eq_nil_of_le (by omega), List.take_nil]
theorem flat_rep {α : Type} (x : α) : ∀ n : Nat, (List.replicate n [x]).flatten = List.replicate n x
  | 0 => rfl
  | n + 1 => by
    rw [List.replicate_succ, List.replicate_succ, List.flatten_cons, flat_rep x n]
    rfl
theorem map_rep (x : Int) (n : Nat) : List.replicate n (V.int x) = (List.replicate n x).map V.int := List.map_replicate.symm
theorem ixN_of {n : Nat} {i : Int} (h0 : 0 ≤ i) (h1 : i < n) : ixN n i = some i.toNat := by
  unfold ixN
  rw [if_pos h0, if_pos h1]
theorem map_set_int (xs : List Int) (j : Nat) (v : Int) : (xs.map V.int).set j (.int v) = (xs.set j v).map V.int := by
  rw [List.map_set]

/-! ### values with new objects: N holds what was made for them -/
def Unn (N H : Hp) : Hp := fun a => match H a with
  | some o => some o
  | none => N a
theorem unn_r {N H : Hp} : Ex H (Unn N H) := fun a o h => by
  show (match H a with | some o => some o | none => N a) = some o
  rw [h]
theorem unn_l {N H : Hp} (d : ∀ a, N a ≠ none → H a = none) : Ex N (Unn N H) := fun a o h => by
  show (match H a with | some o => some o | none => N a) = some o
  rw [d a (by rw [h]; exact fun z => by cases z)]
  exact h
theorem unn_none {N H : Hp} {a : Addr} (h : Unn N H a ≠ none) : H a ≠ none ∨ N a ≠ none := by
  cases e : H a with
  | some o => exact .inl fun z => by cases z
  | none =>
    refine .inr fun z => h ?_
    show (match H a with | some o => some o | none => N a) = none
    rw [e]
    exact z
theorem unn_ex {N H H' : Hp} (a : Ex H H') (b : Ex N H') : Ex (Unn N H) H' := fun x o h => by
  have h2 : (match H x with | some o => some o | none => N x) = some o := h
  cases e : H x with
  | some q =>
    rw [e] at h2
    exact a x o (e.trans h2)
  | none =>
    rw [e] at h2
    exact b x o h2
def nonew : Hp := fun _ => none
theorem nonew_ex {H : Hp} : Ex nonew H := fun a o h => by cases h
def one (p : Addr) (o : HO) : Hp := upd nonew p o
theorem one_at {p : Addr} {o : HO} : one p o p = some o := upd_same
theorem one_ne {p a : Addr} {o : HO} (h : one p o a ≠ none) : a = p := by
  by_cases q : a = p
  · exact q
  · exfalso
    refine h ?_
    unfold one
    rw [upd_ne q]
    rfl
theorem one_ex {p : Addr} {o : HO} {H : Hp} (h : H p = some o) : Ex (one p o) H := fun a x e => by
  have q := one_ne (p := p) (a := a) (o := o) (by rw [e]; exact fun z => by cases z)
  subst q
  rw [one_at] at e
  rw [h, e]
/-- a value, N its new objects, all of them new in the heap that is there -/
def EvN (te : TE) (σ : L2.St) (H : Hp) (P : V → Hp → Prop) : Prop := ∀ H1, Ex H H1 → ∀ Q : VK, (∀ v N H2, (∀ a, N a ≠ none → H1 a = none) → P v N → Ex N H2 → Ex H1 H2 → Q v H2) → te σ H1 Q
def RetN (P : V → Hp → Prop) (H : Hp) (Q : VK) : Prop := ∀ v N H2, (∀ a, N a ≠ none → H a = none) → P v N → Ex N H2 → Ex H H2 → Q v H2
def SpNn (n : Nat) (R : List V → Hp → (V → Hp → Prop) → Prop) : Sp := fun vs H Q _ => vs.length = n ∧ ∃ P, R vs H P ∧ RetN P H Q
section
variable {K : PySem.W.Frag} {σ : L2.St} {H H' : Hp} {ta tb te tx tl : TE} {t u : TT} {x y z v : V} {r : R2} {D : Ends} {tu tw tz ts : TS} {g : TG} {P P' : V → Hp → Prop}
theorem EvN.mono (e : Ex H H') (h : EvN te σ H P) : EvN te σ H' P := fun H1 a Q q => h H1 (e.trans a) Q q
theorem EvN.imp (h : EvN te σ H P) (i : ∀ v N, P v N → P' v N) : EvN te σ H P' := fun H1 e Q q => h H1 e Q fun v N H2 d p a b => q v N H2 d (i v N p) a b
theorem EvL.n {xs : List V} (h : EvL te σ H xs) : EvN te σ H (IsL xs) := fun H1 e Q q => h H1 e Q fun p H2 n e2 hp => q (.ref p) (one p (.lst xs)) H2 (fun a z => by rw [one_ne z]; exact n) ⟨p, rfl, one_at⟩ (one_ex hp) e2
theorem Ev.n (h : Ev te σ H v) : EvN te σ H fun v' _ => v' = v := fun H1 e Q q => h H1 e Q fun H2 e2 => q v nonew H2 (fun a z => (z rfl).elim) rfl nonew_ex e2
theorem EvN.p (h : EvN te σ H P) (m : ∀ v N N', Ex N N' → P v N → P v N') : EvP te σ H P := fun H1 e Q q => h H1 e Q fun v N H2 d p a b => q v H2 b (m v N H2 a p)
theorem EvN.l {xs : List V} (h : EvN te σ H (IsL xs)) : EvL te σ H xs := fun H1 e Q q => h H1 e Q fun v N H2 d ⟨p, ev, hp⟩ a b => by
  subst ev
  exact q p H2 (d p (by rw [hp]; exact fun z => by cases z)) b (a _ _ hp)
theorem sv_asgN {i : Nat} (h : EvN te σ H P) (k : ∀ v N H2, (∀ a, N a ≠ none → H a = none) → P v N → Ex N H2 → Ex H H2 → Sv tz D (σ.set i (some v)) H2) : Sv (tSeq (tAsg te (gName i)) tz) D σ H :=
  fun H1 e => h H1 e _ fun v N H2 d p a b => k v N H2 (fun x z => fresh_back e (d x z)) p a (e.trans b) H2 (Ex.refl H2)
theorem sv_asgN' {i : Nat} (h : EvN te σ H P) (k : ∀ v N H2, (∀ a, N a ≠ none → H a = none) → P v N → Ex N H2 → Ex H H2 → Sv tNext D (σ.set i (some v)) H2) : Sv (tAsg te (gName i)) D σ H :=
  fun H1 e => h H1 e _ fun v N H2 d p a b => k v N H2 (fun x z => fresh_back e (d x z)) p a (e.trans b) H2 (Ex.refl H2)
theorem sv_rqN {nx bk ct : L2.St → Hp → Prop} {Q : VK} (k : RetN P H Q) (h : EvN te σ H P) : Sv (tRet te) { nx := nx, rt := Q, bk := bk, ct := ct } σ H :=
  fun H1 e => h H1 e _ fun v N H2 d p a b => k v N H2 (fun x z => fresh_back e (d x z)) p a (e.trans b)
theorem retN_mono {Q : VK} (e : Ex H H') (h : RetN P H Q) : RetN P H' Q := fun v N H2 d p a b => h v N H2 (fun x z => fresh_back e (d x z)) p a (e.trans b)
def SpNP (sp : Sp) (vs : List V) (H : Hp) (P : V → Hp → Prop) : Prop := ∀ H1, Ex H H1 → ∀ Q : VK, RetN P H1 Q → ∀ E : XK, sp vs H1 Q E
theorem spn {n : Nat} {R : List V → Hp → (V → Hp → Prop) → Prop} {vs : List V} (hl : vs.length = n) (h : ∀ H1, Ex H H1 → R vs H1 P) : SpNP (SpNn n R) vs H P := fun H1 e Q q E => ⟨hl, P, h H1 e, q⟩
theorem en_cl {sp : Sp} {vs : List V} {E : XK} {ta : TA} (h : EvA ta σ H vs) (hs : SpNP sp vs H P) : EvN (tCall sp [] E ta) σ H P := fun H1 e Q q =>
  h H1 e _ fun H2 e2 => by
    rw [List.append_nil]
    exact hs H2 (e.trans e2) Q (fun v N H3 d p a b => q v N H3 (fun x z => fresh_back e2 (d x z)) p a (e2.trans b)) E
/-- [e for x in range(n)], e with new objects: a word of the items so far and of what was made for them -/
theorem en_lcR1 {ta : TA} {j : Nat} {vs : List Nat} {n : Int} (h : EvA ta σ H [.int n]) (hn : -100000 ≤ n ∧ n ≤ 40000) (hw : ∀ x, wipe ((wipe σ vs).set j (some x)) vs = wipe σ vs) (I : Nat → List V → Hp → Prop) (h0 : I 0 [] nonew)
    (he : ∀ (i : Nat) acc N, (i : Int) < n → I i acc N → EvN te ((wipe σ vs).set j (some (.int (i : Int)))) H fun v N' => ∀ N'', Ex N N'' → Ex N' N'' → I (i + 1) (acc ++ [v]) N'') :
    EvN (tLc (iRng1 ta) (gName j) tYes te vs) σ H fun v N => ∃ Dl acc, v = .ref Dl ∧ N Dl = some (.lst acc) ∧ ∃ N0, Ex N0 N ∧ I n.toNat acc N0 := fun H0 e Q q => h H0 e _ fun H1 e1 => ⟨n, rfl, by omega, by omega, fun Dl hD => by
  refine lc_range (lo := 0) (n := n.toNat) (fun i H' => ∃ acc N, Ex H1 H' ∧ H' Dl = some (.lst acc) ∧ (∀ a, N a ≠ none → H1 a = none ∧ a ≠ Dl) ∧ Ex N H' ∧ I i acc N ∧ acc.length ≤ i) ⟨[], nonew, Ex.new hD, upd_same, fun a z => (z rfl).elim, nonew_ex, h0, Nat.le_refl _⟩ ?_ ?_
  · rintro i H' hi ⟨acc, N, p1, p2, p3, p4, p5, p6⟩
    have e0 : (0 : Int) + (i : Int) = (i : Int) := Int.zero_add _
    show wipe ((wipe σ vs).set j (some (.int ((0 : Int) + (i : Int))))) vs = wipe σ vs ∧ _
    rw [e0]
    refine ⟨hw _, ?_⟩
    show te ((wipe σ vs).set j (some (.int (i : Int)))) H' _
    refine he i acc N (by omega) p5 H' ((e.trans e1).trans p1) _ fun v N' H4 d p a b => ⟨acc, b _ _ p2, sz_lt (by omega), acc ++ [v], Unn N' N, Ex.mut (p1.trans b) hD, upd_same, fun x z => ?_, ?_, p (Unn N' N) unn_r (unn_l fun x z => ?_), by rw [List.length_append]; simp only [List.length_singleton]; omega⟩
    · rcases unn_none z with z | z
      · exact p3 x z
      · refine ⟨fresh_back p1 (d x z), fun q => ?_⟩
        have w := d x z
        rw [q, p2] at w
        cases w
    · refine unn_ex (fun x o z => ?_) (fun x o z => ?_)
      · rw [upd_ne (p3 x (by rw [z]; exact fun w => by cases w)).2]
        exact b _ _ (p4 _ _ z)
      · have w := d x (by rw [z]; exact fun w => by cases w)
        rw [upd_ne (fun q => by rw [q, p2] at w; cases w)]
        exact a _ _ z
    · have w := d x z
      cases k : N x with
      | none => rfl
      | some o => rw [p4 _ _ k] at w; cases w
  · rintro H' ⟨acc, N, p1, p2, p3, p4, p5, p6⟩
    refine q (.ref Dl) (Unn (one Dl (.lst acc)) N) H' (fun a z => ?_) ⟨Dl, acc, rfl, ?_, N, unn_r, p5⟩ (unn_ex p4 (one_ex p2)) (e1.trans p1)
    · rcases unn_none z with z | z
      · exact fresh_back e1 (p3 a z).1
      · rw [one_ne z]
        exact fresh_back e1 hD
    · refine unn_l (fun a z => ?_) _ _ one_at
      have w := one_ne z
      subst w
      cases k : N a with
      | none => rfl
      | some o => exact ((p3 a (by rw [k]; exact fun w => by cases w)).2 rfl).elim⟩
/-- [e for x in xs if t], the same over a list that stands -/
theorem en_lcL {a : Addr} {xs : List V} {j : Nat} {vs : List Nat} (h : Ev tl σ H (.ref a)) (hx : SqL K H a xs) (hz : xs.length ≤ 40000) (hw : ∀ x, wipe ((wipe σ vs).set j (some x)) vs = wipe σ vs) (f : Nat → Bool) (I : Nat → List V → Hp → Prop) (h0 : I 0 [] nonew)
    (ht : ∀ (i : Nat) x, xs[i]? = some x → EvT t ((wipe σ vs).set j (some x)) H (f i))
    (he : ∀ (i : Nat) x acc N, xs[i]? = some x → f i = true → I i acc N → EvN te ((wipe σ vs).set j (some x)) H fun v N' => ∀ N'', Ex N N'' → Ex N' N'' → I (i + 1) (acc ++ [v]) N'')
    (hs : ∀ (i : Nat) acc N, f i = false → I i acc N → I (i + 1) acc N) :
    EvN (tLc (iList K tl) (gName j) t te vs) σ H fun v N => ∃ Dl acc, v = .ref Dl ∧ N Dl = some (.lst acc) ∧ ∃ N0, Ex N0 N ∧ I xs.length acc N0 := fun H0 e Q q => h H0 e _ fun H1 e1 => ⟨a, rfl, ⟨xs, ex_l (e.trans e1) hx⟩, fun Dl hD => by
  refine lc_list (K := K) (a := a) (xs := xs) (fun i H' => ∃ acc N, Ex H1 H' ∧ H' Dl = some (.lst acc) ∧ (∀ a, N a ≠ none → H1 a = none ∧ a ≠ Dl) ∧ Ex N H' ∧ I i acc N ∧ acc.length ≤ i) ⟨[], nonew, Ex.new hD, upd_same, fun a z => (z rfl).elim, nonew_ex, h0, Nat.le_refl _⟩ (fun i H' _ ⟨_, _, p1, _⟩ => ex_l ((e.trans e1).trans p1) hx) ?_ ?_
  · rintro i x H' hi ⟨acc, N, p1, p2, p3, p4, p5, p6⟩
    refine ⟨hw x, ?_⟩
    have hl := (List.getElem?_eq_some_iff.mp hi).1
    refine ht i x hi H' ((e.trans e1).trans p1) _ fun H3 e3 => ?_
    cases hf : f i with
    | false => exact ⟨acc, N, p1.trans e3, e3 _ _ p2, p3, p4.trans e3, hs i acc N hf p5, by omega⟩
    | true =>
      show te ((wipe σ vs).set j (some x)) H3 _
      refine he i x acc N hi hf p5 H3 (((e.trans e1).trans p1).trans e3) _ fun v N' H4 d p a b => ⟨acc, b _ _ (e3 _ _ p2), sz_lt (by omega), acc ++ [v], Unn N' N, Ex.mut ((p1.trans e3).trans b) hD, upd_same, fun x z => ?_, ?_, p (Unn N' N) unn_r (unn_l fun x z => ?_), by rw [List.length_append]; simp only [List.length_singleton]; omega⟩
      · rcases unn_none z with z | z
        · exact p3 x z
        · refine ⟨fresh_back (p1.trans e3) (d x z), fun q => ?_⟩
          have w := d x z
          rw [q, e3 _ _ p2] at w
          cases w
      · refine unn_ex (fun x o z => ?_) (fun x o z => ?_)
        · rw [upd_ne (p3 x (by rw [z]; exact fun w => by cases w)).2]
          exact b _ _ (e3 _ _ (p4 _ _ z))
        · have w := d x (by rw [z]; exact fun w => by cases w)
          rw [upd_ne (fun q => by rw [q, e3 _ _ p2] at w; cases w)]
          exact a _ _ z
      · have w := d x z
        cases k : N x with
        | none => rfl
        | some o => rw [e3 _ _ (p4 _ _ k)] at w; cases w
  · rintro H' ⟨acc, N, p1, p2, p3, p4, p5, p6⟩
    refine q (.ref Dl) (Unn (one Dl (.lst acc)) N) H' (fun a z => ?_) ⟨Dl, acc, rfl, ?_, N, unn_r, p5⟩ (unn_ex p4 (one_ex p2)) (e1.trans p1)
    · rcases unn_none z with z | z
      · exact fresh_back e1 (p3 a z).1
      · rw [one_ne z]
        exact fresh_back e1 hD
    · refine unn_l (fun a z => ?_) _ _ one_at
      have w := one_ne z
      subst w
      cases k : N a with
      | none => rfl
      | some o => exact ((p3 a (by rw [k]; exact fun w => by cases w)).2 rfl).elim⟩
/-- while, by a word and a number that falls -/
theorem sv_while (W : Nat → L2.St → Hp → Prop) (m0 : Nat) (h0 : W m0 σ H)
    (hs : ∀ m σ' H', W m σ' H' → ∃ (b : Bool), EvT t σ' H' b ∧ (b = true → Sv tu { D with nx := Kn fun σ2 H2 => ∃ m', m' < m ∧ W m' σ2 H2, ct := Kn fun σ2 H2 => ∃ m', m' < m ∧ W m' σ2 H2, bk := tz D } σ' H') ∧ (b = false → Sv tz D σ' H')) : Sv (tSeq (tWhile t tu) tz) D σ H := fun H1 e => by
  refine ⟨fun m => Kn (W m), ⟨m0, H, h0, e⟩, ?_⟩
  rintro m σ' H2 ⟨H', w, e2⟩
  obtain ⟨b, ht, k1, k2⟩ := hs m σ' H' w
  refine ht H2 e2 _ fun H3 e3 => ?_
  cases b with
  | true => exact ⟨_, fun σ2 H4 ⟨H5, ⟨m', l, w'⟩, e5⟩ => ⟨m', l, H5, w', e5⟩, k1 rfl H3 (e2.trans e3)⟩
  | false => exact k2 rfl H3 (e2.trans e3)
/-! ### lists of lists of ints -/
def Rw (K : PySem.W.Frag) (H : Hp) (vs : List V) (rss : List (List Int)) : Prop := vs.length = rss.length ∧ ∀ (i : Nat) (rs : List Int), rss[i]? = some rs → ∃ q : Addr, vs[i]? = some (V.ref q) ∧ SqL K H q (rs.map V.int)
theorem Rw.mono {vs : List V} {rss : List (List Int)} (e : Ex H H') (h : Rw K H vs rss) : Rw K H' vs rss := ⟨h.1, fun i rs hi => by
  obtain ⟨q, a, b⟩ := h.2 i rs hi
  exact ⟨q, a, ex_l e b⟩⟩
theorem Rw.nil : Rw K H [] [] := ⟨rfl, fun i rs h => by simp at h⟩
theorem Rw.snoc {vs : List V} {rss : List (List Int)} {q : Addr} {rs : List Int} (h : Rw K H vs rss) (hq : SqL K H q (rs.map V.int)) : Rw K H (vs ++ [.ref q]) (rss ++ [rs]) := by
  refine ⟨by rw [List.length_append, List.length_append, h.1]; rfl, fun i r hi => ?_⟩
  by_cases c : i < rss.length
  · rw [List.getElem?_append_left c] at hi
    rw [List.getElem?_append_left (by rw [h.1]; exact c)]
    exact h.2 i r hi
  · rw [List.getElem?_append_right (by omega)] at hi
    have c2 : i - rss.length = 0 := by
      have := (List.getElem?_eq_some_iff.mp hi).1
      simp only [List.length_singleton] at this
      omega
    rw [c2] at hi
    have hr : rs = r := Option.some.inj hi
    subst hr
    refine ⟨q, ?_, hq⟩
    rw [List.getElem?_append_right (by rw [h.1]; omega), h.1, c2]
    rfl
theorem rw_dp : ∀ {vs : List V} {rss : List (List Int)}, Rw K H vs rss → DpAll K H vs (rss.map fun rs => PyData.list (rs.map PyData.int))
  | [], [], _ => .nil
  | [], r :: rss, h => by cases h.1
  | v :: vs, [], h => by cases h.1
  | v :: vs, r :: rss, h => by
    obtain ⟨q, e, s⟩ := h.2 0 r rfl
    have e2 : v = .ref q := Option.some.inj e
    subst e2
    refine .cons (dp_ints s) (rw_dp ⟨Nat.succ.inj h.1, fun i rs hi => h.2 (i + 1) rs hi⟩)
theorem shp_rows (rss : List (List Int)) : Shp 2 (.list (rss.map fun rs => PyData.list (rs.map PyData.int))) := shp_list fun d hd => by
  obtain ⟨rs, _, rfl⟩ := List.mem_map.mp hd
  exact shp_listI rs
end

/-! ### ends that may be none, triples, wishes -/
def ov : Option Int → V
  | none => .non
  | some i => .int i
theorem ov_get {o : Option Int} (h : ¬ o = none) : ov o = .int (o.getD 0) := by
  cases o with
  | none => exact (h rfl).elim
  | some i => rfl
structure Tri where
  c : Int
  lo : Option Int
  hi : Option Int
def tv (t : Tri) : List V := [.int t.c, ov t.lo, ov t.hi]
def IsTri (t : Tri) : V → Hp → Prop := fun v N => ∃ p, v = .ref p ∧ N p = some (.tup (tv t))
section
variable {K : PySem.W.Frag} {σ : L2.St} {H H' : Hp} {ta tb te tx tl : TE} {t u : TT} {x y z v : V} {r : R2} {D : Ends} {tu tw tz ts : TS} {g : TG} {P P' : V → Hp → Prop}
theorem rs_ov {o : Option Int} : RV rSome (ov o) .non H (.bl (decide (¬ o = none))) := by
  cases o with
  | none => exact rs_no
  | some i =>
    have e : (decide (¬ (some i : Option Int) = none)) = decide True := rfl
    rw [e]
    exact rs_yes (fun h => by cases h)
theorem rn_ov {o : Option Int} : RV rNone (ov o) .non H (.bl (decide (o = none))) := by
  cases o with
  | none => exact rn_yes
  | some i =>
    have e : (decide ((some i : Option Int) = none)) = decide False := rfl
    rw [e]
    exact rn_no (fun h => by cases h)
def Wt (K : PySem.W.Frag) (H : Hp) (vs : List V) (ts : List Tri) : Prop := vs.length = ts.length ∧ ∀ (i : Nat) (t : Tri), ts[i]? = some t → ∃ q : Addr, vs[i]? = some (V.ref q) ∧ SqT K H q (tv t)
theorem Wt.mono {vs : List V} {ts : List Tri} (e : Ex H H') (h : Wt K H vs ts) : Wt K H' vs ts := ⟨h.1, fun i t hi => by
  obtain ⟨q, a, b⟩ := h.2 i t hi
  exact ⟨q, a, ex_t e b⟩⟩
theorem Wt.nil : Wt K H [] [] := ⟨rfl, fun i t h => by simp at h⟩
theorem Wt.snoc {vs : List V} {ts : List Tri} {q : Addr} {t : Tri} (h : Wt K H vs ts) (hq : SqT K H q (tv t)) : Wt K H (vs ++ [.ref q]) (ts ++ [t]) := by
  refine ⟨by rw [List.length_append, List.length_append, h.1]; rfl, fun i r hi => ?_⟩
  by_cases c : i < ts.length
  · rw [List.getElem?_append_left c] at hi
    rw [List.getElem?_append_left (by rw [h.1]; exact c)]
    exact h.2 i r hi
  · rw [List.getElem?_append_right (by omega)] at hi
    have c2 : i - ts.length = 0 := by
      have := (List.getElem?_eq_some_iff.mp hi).1
      simp only [List.length_singleton] at this
      omega
    rw [c2] at hi
    have hr : t = r := Option.some.inj hi
    subst hr
    refine ⟨q, ?_, hq⟩
    rw [List.getElem?_append_right (by rw [h.1]; omega), h.1, c2]
    rfl
theorem Wt.at {vs : List V} {ts : List Tri} {i : Nat} {x : V} (h : Wt K H vs ts) (hx : vs[i]? = some x) : ∃ t q, ts[i]? = some t ∧ x = .ref q ∧ SqT K H q (tv t) := by
  have hi : i < ts.length := by
    have := (List.getElem?_eq_some_iff.mp hx).1
    have := h.1
    omega
  obtain ⟨q, a, b⟩ := h.2 i _ (List.getElem?_eq_getElem hi)
  rw [hx] at a
  exact ⟨_, q, List.getElem?_eq_getElem hi, Option.some.inj a, b⟩
def ovD : Option Int → PyData
  | none => .none
  | some i => .int i
def triD (t : Tri) : PyData := .tuple [.int t.c, ovD t.lo, ovD t.hi]
theorem dp_ov (o : Option Int) : Dp K H (ov o) (ovD o) := by
  cases o with
  | none => exact .non
  | some i => exact .int i
theorem dp_tri {q : Addr} {t : Tri} (h : SqT K H q (tv t)) : Dp K H (.ref q) (triD t) := .tup h (.cons (.int _) (.cons (dp_ov _) (.cons (dp_ov _) .nil)))
theorem wt_dp : ∀ {vs : List V} {ts : List Tri}, Wt K H vs ts → DpAll K H vs (ts.map triD)
  | [], [], _ => .nil
  | [], r :: rss, h => by cases h.1
  | v :: vs, [], h => by cases h.1
  | v :: vs, r :: rss, h => by
    obtain ⟨q, e, s⟩ := h.2 0 r rfl
    have e2 : v = .ref q := Option.some.inj e
    subst e2
    exact .cons (dp_tri s) (wt_dp ⟨Nat.succ.inj h.1, fun i rs hi => h.2 (i + 1) rs hi⟩)
theorem shp_ov {n : Nat} (o : Option Int) : Shp n (ovD o) := by
  cases o with
  | none => exact shp_none
  | some i => exact shp_int i
theorem shp_tri (t : Tri) : Shp 1 (triD t) := shp_tuple fun d hd => by
  rcases List.mem_cons.mp hd with h | hd
  · rw [h]; exact shp_int _
  rcases List.mem_cons.mp hd with h | hd
  · rw [h]; exact shp_ov _
  rcases List.mem_cons.mp hd with h | hd
  · rw [h]; exact shp_ov _
  · cases hd
theorem shp_wish (ts : List Tri) : Shp 2 (.list (ts.map triD)) := shp_list fun d hd => by
  obtain ⟨t, _, rfl⟩ := List.mem_map.mp hd
  exact shp_tri t
theorem EvU.n {xs : List V} (h : EvU te σ H xs) : EvN te σ H fun v N => ∃ p, v = .ref p ∧ N p = some (.tup xs) := fun H1 e Q q => h H1 e Q fun p H2 n e2 hp => q (.ref p) (one p (.tup xs)) H2 (fun a z => by rw [one_ne z]; exact n) ⟨p, rfl, one_at⟩ (one_ex hp) e2
theorem tv0 (t : Tri) : atI (tv t) 0 = some (.int t.c) := rfl
theorem tv1 (t : Tri) : atI (tv t) 1 = some (ov t.lo) := rfl
theorem tv2 (t : Tri) : atI (tv t) 2 = some (ov t.hi) := rfl
end
/-- whether a row fits a wish -/
def fit1 (rs : List Int) (t : Tri) : Bool := (match t.lo with | none => true | some l => decide (l ≤ rs.getD t.c.toNat 0)) && (match t.hi with | none => true | some h => decide (rs.getD t.c.toNat 0 ≤ h))
def fitsM (rs : List Int) (ts : List Tri) : Bool := ts.all (fit1 rs)
theorem fit1_eq (rs : List Int) (t : Tri) : fit1 rs t = decide (¬ (¬ t.lo = none ∧ rs.getD t.c.toNat 0 < t.lo.getD 0) ∧ ¬ (¬ t.hi = none ∧ t.hi.getD 0 < rs.getD t.c.toNat 0)) := by
  unfold fit1
  cases t.lo <;> cases t.hi <;> simp
theorem fits_take {rs : List Int} {ts : List Tri} {i : Nat} {t : Tri} (h : ts[i]? = some t) : fitsM rs (ts.take (i + 1)) = (fitsM rs (ts.take i) && fit1 rs t) := by
  unfold fitsM
  rw [List.take_add_one, h, List.all_append]
  simp
theorem fits_no {rs : List Int} {ts : List Tri} {i : Nat} {t : Tri} (h : ts[i]? = some t) (hf : fit1 rs t = false) : fitsM rs ts = false := by
  unfold fitsM
  rw [List.all_eq_false]
  exact ⟨t, List.mem_of_getElem? h, by rw [hf]; decide⟩

section
variable {X : Cx}
def rTupS (K : PySem.W.Frag) : List V → Hp → VK → Prop := fun xs H Q => ∃ p ys, xs = [.ref p] ∧ ((SqL K H p ys ∧ ∀ l, H l = none → Q (.ref l) (upd H l (.tup ys))) ∨ (SqT K H p ys ∧ Q (.ref p) H))
theorem c_tuple : CallR X (.type "tuple") (rTupS X.K) := call_tuple_of
end
section
variable {K : PySem.W.Frag} {σ : L2.St} {H H' : Hp} {ta tb te tx tl : TE} {t u : TT} {x y z v : V} {r : R2} {D : Ends} {tu tw tz ts : TS} {g : TG} {P P' : V → Hp → Prop}
theorem eu_tuple {p : Addr} {xs : List V} (ha : Ev ta σ H (.ref p)) (h : SqL K H p xs) : EvU (tCB (rTupS K) (tCons ta tNil)) σ H xs := fun H1 e Q q =>
  ha H1 e _ fun H2 e2 => ⟨p, xs, rfl, .inl ⟨ex_l (e.trans e2) h, fun l hl => q l _ (fresh_back e2 hl) (e2.trans (Ex.new hl)) upd_same⟩⟩
theorem ev_tupT {p : Addr} {xs : List V} (ha : Ev ta σ H (.ref p)) (h : SqT K H p xs) : Ev (tCB (rTupS K) (tCons ta tNil)) σ H (.ref p) := fun H1 e Q q =>
  ha H1 e _ fun H2 e2 => ⟨p, xs, rfl, .inr ⟨ex_t (e.trans e2) h, q H2 e2⟩⟩
theorem EvU.p {xs : List V} (h : EvU te σ H xs) : EvP te σ H fun v H2 => ∃ p, v = .ref p ∧ H p = none ∧ Ex H H2 ∧ H2 p = some (.tup xs) := fun H1 e Q q => h H1 e Q fun p H2 n e2 hp => q _ H2 e2 ⟨p, rfl, fresh_back e n, e.trans e2, hp⟩
theorem sv_asgP' {i : Nat} {P : V → Hp → Prop} (h : EvP te σ H P) (k : ∀ v H2, Ex H H2 → P v H2 → Sv tNext D (σ.set i (some v)) H2) : Sv (tAsg te (gName i)) D σ H :=
  fun H1 e => h H1 e _ fun v H2 e2 p => k v H2 (e.trans e2) p H2 (Ex.refl H2)
/-- a value known by a promise of values, as P -/
theorem spp_v {sp : Sp} {vs : List V} (h : SpV sp vs H z) : SpP sp vs H fun v _ => v = z := fun H1 e Q q E => h H1 e Q (fun H2 e2 => q z H2 e2 rfl) E
end

/-! ### one object changed -/
def Exb (l : Addr) (H H' : Hp) : Prop := ∀ a o, a ≠ l → H a = some o → H' a = some o
theorem exb_of {l : Addr} {H0 H H' : Hp} (e : Exb l H H') (e0 : Ex H0 H) (n : H0 l = none) : Ex H0 H' := fun a o h => e a o (ne_of_none h n) (e0 a o h)
theorem exb_t {K : PySem.W.Frag} {l q : Addr} {H H' : Hp} {xs ys : List V} (h : H l = some (.lst xs)) (e : Exb l H H') (hq : SqT K H q ys) : SqT K H' q ys := by
  rcases hq with (hq | ⟨o, hq⟩) | hq
  · exact .inl (.inl (e _ _ (fun z => by rw [z, h] at hq; cases hq) hq))
  · exact .inl (.inr ⟨o, e _ _ (fun z => by rw [z, h] at hq; cases hq) hq⟩)
  · exact .inr hq
theorem wt_exb {K : PySem.W.Frag} {l : Addr} {H H' : Hp} {xs vs : List V} {ts : List Tri} (h : H l = some (.lst xs)) (e : Exb l H H') (hw : Wt K H vs ts) : Wt K H' vs ts := ⟨hw.1, fun i t hi => by
  obtain ⟨q, a, b⟩ := hw.2 i t hi
  exact ⟨q, a, exb_t h e b⟩⟩
theorem tyx_t {K : PySem.W.Frag} {H : Hp} {p : Addr} {xs : List V} (h : SqT K H p xs) : TyX K H (.ref p) (.type "tuple") := by
  rcases h with (h | ⟨o, h⟩) | ⟨o, its, n, h, c, _⟩
  · exact .base (.tup h)
  · exact .fTuple h
  · exact .kTuple h c
theorem tyx_l {K : PySem.W.Frag} {H : Hp} {p : Addr} {xs : List V} (h : SqL K H p xs) : TyX K H (.ref p) (.type "list") := by
  rcases h with (h | ⟨o, h⟩) | ⟨o, its, n, h, c, _⟩
  · exact .base (.lst h)
  · exact .base (.frz h)
  · exact .kList h c
section
variable {K : PySem.W.Frag} {σ : L2.St} {H H' : Hp} {ta tb te tx tl : TE} {t u : TT} {x y z v : V} {r : R2} {D : Ends} {tu tw tz ts : TS} {g : TG} {P P' : V → Hp → Prop}
/-- xs.append(e), e with new objects -/
theorem sv_appN {l : Addr} {xs : List V} (hl : H l = some (.lst xs)) (ha : Ev ta σ H (.ref l)) (h : EvN te σ H P) (hz : xs.length < 100000)
    (k : ∀ v N H2, (∀ a, N a ≠ none → H a = none) → P v N → Ex N H2 → Exb l H H2 → H2 l = some (.lst (xs ++ [v])) → Sv tz D σ H2) : Sv (tSeq (tDrop (tBM K "list" rAppend ta (tCons te tNil))) tz) D σ H := fun H1 e =>
  ha H1 e _ fun H2 e2 => ⟨Or.inl ⟨rfl, xs, sq_of (e2 _ _ (e _ _ hl))⟩, h H2 (e.trans e2) _ fun v N H3 d p a b => ⟨l, xs, v, rfl, rfl, b _ _ (e2 _ _ (e _ _ hl)), sz_lt hz, k v N _ (fun x z => fresh_back (e.trans e2) (d x z)) p (fun x o z => by
    have w := d x (by rw [z]; exact fun w => by cases w)
    rw [upd_ne (fun q => by rw [q, e2 _ _ (e _ _ hl)] at w; cases w)]
    exact a _ _ z) (fun x o n z => by
    rw [upd_ne n]
    exact b _ _ (e2 _ _ (e _ _ z))) upd_same _ (Ex.refl _)⟩⟩
theorem sv_appN' {l : Addr} {xs : List V} (hl : H l = some (.lst xs)) (ha : Ev ta σ H (.ref l)) (h : EvN te σ H P) (hz : xs.length < 100000)
    (k : ∀ v N H2, (∀ a, N a ≠ none → H a = none) → P v N → Ex N H2 → Exb l H H2 → H2 l = some (.lst (xs ++ [v])) → Sv tNext D σ H2) : Sv (tDrop (tBM K "list" rAppend ta (tCons te tNil))) D σ H := fun H1 e =>
  ha H1 e _ fun H2 e2 => ⟨Or.inl ⟨rfl, xs, sq_of (e2 _ _ (e _ _ hl))⟩, h H2 (e.trans e2) _ fun v N H3 d p a b => ⟨l, xs, v, rfl, rfl, b _ _ (e2 _ _ (e _ _ hl)), sz_lt hz, k v N _ (fun x z => fresh_back (e.trans e2) (d x z)) p (fun x o z => by
    have w := d x (by rw [z]; exact fun w => by cases w)
    rw [upd_ne (fun q => by rw [q, e2 _ _ (e _ _ hl)] at w; cases w)]
    exact a _ _ z) (fun x o n z => by
    rw [upd_ne n]
    exact b _ _ (e2 _ _ (e _ _ z))) upd_same _ (Ex.refl _)⟩⟩
theorem sv_drop (h : Ev te σ H v) (k : Sv tz D σ H) : Sv (tSeq (tDrop te) tz) D σ H := fun H1 e => h H1 e _ fun H2 e2 => k H2 (e.trans e2)
theorem ev_max {p : Addr} {ns : List Int} {m : Int} (ha : Ev ta σ H (.ref p)) (h : SqL K H p (ns.map V.int)) (h0 : 0 < ns.length) (hm : ∀ i, i ∈ ns → (∀ y, y ∈ ns → y ≤ i) → i = m) : Ev (tCB (rMax K) (tCons ta tNil)) σ H (.int m) := fun H1 e Q q =>
  ha H1 e _ fun H2 e2 => ⟨p, ns, rfl, ex_l (e.trans e2) h, h0, fun i hi hle => by rw [hm i hi hle]; exact q H2 e2⟩
theorem ev_min {p : Addr} {ns : List Int} {m : Int} (ha : Ev ta σ H (.ref p)) (h : SqL K H p (ns.map V.int)) (h0 : 0 < ns.length) (hm : ∀ i, i ∈ ns → (∀ y, y ∈ ns → i ≤ y) → i = m) : Ev (tCB (rMin K) (tCons ta tNil)) σ H (.int m) := fun H1 e Q q =>
  ha H1 e _ fun H2 e2 => ⟨p, ns, rfl, ex_l (e.trans e2) h, h0, fun i hi hle => by rw [hm i hi hle]; exact q H2 e2⟩
end
/-- a promise of which something holds in the heap behind it -/
def SpQ (n : Nat) (R : List V → Hp → (V → Hp → Prop) → Prop) : Sp := fun vs H Q _ => vs.length = n ∧ ∃ P, R vs H P ∧ ∀ v H2, Ex H H2 → P v H2 → Q v H2
theorem spq {n : Nat} {R : List V → Hp → (V → Hp → Prop) → Prop} {vs : List V} {H : Hp} {P : V → Hp → Prop} (hl : vs.length = n) (h : ∀ H1, Ex H H1 → ∃ P', R vs H1 P' ∧ ∀ v H2, P' v H2 → P v H2) : SpP (SpQ n R) vs H P := fun H1 e Q q E => by
  obtain ⟨P', r, i⟩ := h H1 e
  exact ⟨hl, P', r, fun v H2 e2 p => q v H2 e2 (i v H2 p)⟩
/-! ### the merged wish -/
def maxL : List Int → Int
  | [] => 0
  | [x] => x
  | x :: y :: r => max x (maxL (y :: r))
def minL : List Int → Int
  | [] => 0
  | [x] => x
  | x :: y :: r => min x (minL (y :: r))
theorem maxL_le : ∀ {l : List Int} {y : Int}, y ∈ l → y ≤ maxL l
  | [], y, h => by cases h
  | [x], y, h => by
    have e : y = x := by simpa using h
    rw [e]
    exact Int.le_refl _
  | x :: z :: r, y, h => by
    show y ≤ max x (maxL (z :: r))
    rcases List.mem_cons.mp h with e | h
    · omega
    · have := maxL_le h
      omega
theorem maxL_mem : ∀ {l : List Int}, 0 < l.length → maxL l ∈ l
  | [], h => absurd h (Nat.lt_irrefl _)
  | [x], _ => List.mem_cons_self ..
  | x :: z :: r, _ => by
    have h := maxL_mem (l := z :: r) (Nat.succ_pos _)
    show max x (maxL (z :: r)) ∈ _
    by_cases c : maxL (z :: r) ≤ x
    · rw [Int.max_eq_left c]
      exact List.mem_cons_self ..
    · rw [Int.max_eq_right (by omega)]
      exact List.mem_cons_of_mem _ h
theorem minL_le : ∀ {l : List Int} {y : Int}, y ∈ l → minL l ≤ y
  | [], y, h => by cases h
  | [x], y, h => by
    have e : y = x := by simpa using h
    rw [e]
    exact Int.le_refl _
  | x :: z :: r, y, h => by
    show min x (minL (z :: r)) ≤ y
    rcases List.mem_cons.mp h with e | h
    · omega
    · have := minL_le h
      omega
theorem minL_mem : ∀ {l : List Int}, 0 < l.length → minL l ∈ l
  | [], h => absurd h (Nat.lt_irrefl _)
  | [x], _ => List.mem_cons_self ..
  | x :: z :: r, _ => by
    have h := minL_mem (l := z :: r) (Nat.succ_pos _)
    show min x (minL (z :: r)) ∈ _
    by_cases c : x ≤ minL (z :: r)
    · rw [Int.min_eq_left c]
      exact List.mem_cons_self ..
    · rw [Int.min_eq_right (by omega)]
      exact List.mem_cons_of_mem _ h
theorem maxL_eq {l : List Int} {m : Int} (h : m ∈ l) (hm : ∀ y, y ∈ l → y ≤ m) : m = maxL l := by
  have h1 := maxL_le h
  have h2 := hm _ (maxL_mem (List.length_pos_of_mem h))
  omega
theorem minL_eq {l : List Int} {m : Int} (h : m ∈ l) (hm : ∀ y, y ∈ l → m ≤ y) : m = minL l := by
  have h1 := minL_le h
  have h2 := hm _ (minL_mem (List.length_pos_of_mem h))
  omega
def lowsM (c : Int) (ts : List Tri) : List Int := (ts.filter fun t => decide (t.c = c ∧ ¬ t.lo = none)).map fun t => t.lo.getD 0
def highsM (c : Int) (ts : List Tri) : List Int := (ts.filter fun t => decide (t.c = c ∧ ¬ t.hi = none)).map fun t => t.hi.getD 0
def endLo (c : Int) (ts : List Tri) : Option Int := if 0 < (lowsM c ts).length then some (maxL (lowsM c ts)) else none
def endHi (c : Int) (ts : List Tri) : Option Int := if 0 < (highsM c ts).length then some (minL (highsM c ts)) else none
def spoken (c : Int) (ts : List Tri) : Prop := 0 < (ts.filter fun t => decide (t.c = c)).length
instance (c : Int) (ts : List Tri) : Decidable (spoken c ts) := inferInstanceAs (Decidable (0 < _))
def mergedTo (ts : List Tri) : Nat → List Tri
  | 0 => []
  | k + 1 => mergedTo ts k ++ if spoken (k : Int) ts then [⟨(k : Int), endLo k ts, endHi k ts⟩] else []
def mergedM (ts : List Tri) : List Tri := mergedTo ts 6
theorem mergedTo_len (ts : List Tri) : ∀ k, (mergedTo ts k).length ≤ k
  | 0 => Nat.le_refl _
  | k + 1 => by
    have := mergedTo_len ts k
    show (mergedTo ts k ++ _).length ≤ k + 1
    rw [List.length_append]
    split
    · simp only [List.length_singleton]
      omega
    · simp only [List.length_nil]
      omega
def t0 : Tri := ⟨0, none, none⟩
theorem given_ints (ts : List Tri) (p : Tri → Bool) (g : Tri → Int) : given ts.length (fun i => p (ts.getD i t0)) (fun i => V.int (g (ts.getD i t0))) = ((ts.filter p).map g).map V.int := by
  have e : (List.range ts.length).map (fun i => ts.getD i t0) = ts := by
    refine List.ext_getElem? fun i => ?_
    rw [List.getElem?_map]
    by_cases h : i < ts.length
    · rw [List.getElem?_range h, List.getElem?_eq_getElem h]
      show some (ts.getD i t0) = _
      rw [List.getD_eq_getElem?_getD, List.getElem?_eq_getElem h]
      rfl
    · rw [List.getElem?_eq_none (by rw [List.length_range]; omega), List.getElem?_eq_none (by omega)]
      rfl
  have e2 : ts.filter p = ((List.range ts.length).filter fun i => p (ts.getD i t0)).map fun i => ts.getD i t0 := by
    have h := congrArg (List.filter p) e
    rw [List.filter_map] at h
    exact h.symm
  rw [e2, List.map_map, List.map_map]
  rfl
theorem getD_at {ts : List Tri} {i : Nat} {t : Tri} (h : ts[i]? = some t) : ts.getD i t0 = t := by
  rw [List.getD_eq_getElem?_getD, h]
  rfl

/-! ### the size of ints -/
/-- below the n-th power of two -/
structure Bits (n : Nat) (z : Int) : Prop where
  lt : z.natAbs < 2 ^ n
theorem Bits.of {n : Nat} {z : Int} (h : Builtin.Int.intBits z ≤ n) : Bits n z := ⟨by
  unfold Builtin.Int.intBits at h
  split at h
  · rename_i c
    have e : z = 0 := by simpa using c
    rw [e]
    exact Nat.two_pow_pos n
  · rename_i c
    have hz : z.natAbs ≠ 0 := fun e => c (by simpa using Int.natAbs_eq_zero.mp e)
    exact (Nat.log2_lt hz).mp h⟩
theorem Bits.to {n : Nat} {z : Int} (h : Bits n z) : Builtin.Int.intBits z ≤ n := by
  unfold Builtin.Int.intBits
  split
  · exact Nat.zero_le _
  · rename_i c
    have hz : z.natAbs ≠ 0 := fun e => c (by simpa using Int.natAbs_eq_zero.mp e)
    exact (Nat.log2_lt hz).mpr h.lt
theorem Bits.mono {n m : Nat} {z : Int} (h : Bits n z) (l : n ≤ m) : Bits m z := ⟨Nat.lt_of_lt_of_le h.lt (Nat.pow_le_pow_right (by decide) l)⟩
theorem Bits.add {n : Nat} {a b : Int} (h : Bits n a) (k : Bits n b) : Bits (n + 1) (a + b) := ⟨by
  have h1 := h.lt
  have h2 := k.lt
  rw [Nat.pow_succ]
  have := Int.natAbs_add_le a b
  omega⟩
theorem Bits.sub {n : Nat} {a b : Int} (h : Bits n a) (k : Bits n b) : Bits (n + 1) (a - b) := ⟨by
  have h1 := h.lt
  have h2 := k.lt
  rw [Nat.pow_succ]
  have := Int.natAbs_sub_le a b
  omega⟩
theorem Bits.mul {n m : Nat} {a b : Int} (h : Bits n a) (k : Bits m b) : Bits (n + m) (a * b) := ⟨by
  rw [Int.natAbs_mul, Nat.pow_add]
  exact Nat.mul_lt_mul'' h.lt k.lt⟩
theorem Bits.div {n : Nat} {a k : Int} (h : Bits n a) : Bits n (a / k) := ⟨Nat.lt_of_le_of_lt (Int.natAbs_ediv_le_natAbs a k) h.lt⟩
theorem Bits.nat {n k : Nat} (h : k < 2 ^ n) : Bits n (k : Int) := ⟨by rw [Int.natAbs_natCast]; exact h⟩
theorem Bits.zero {n : Nat} : Bits n 0 := ⟨Nat.two_pow_pos n⟩
def CPowB (i j : Int) : Prop := 0 ≤ j ∧ (Builtin.Int.intBits i : Int) * j ≤ 2 ^ 27
section
variable {X : Cx}
theorem op_powB : OpR X (binaryOp .Pow) (rI CPowB fun i j => .int (i ^ j.toNat)) := opI fun _ _ _ _ _ _ _ hc q => pow_int hc.1 hc.2 q
end
theorem rv_powB {H : Hp} {i : Int} {n : Nat} (h : Bits n i) (hn : n ≤ 44739242) : RV (rI CPowB fun i j => .int (i ^ j.toNat)) (.int i) (.int 3) H (.int (i ^ 3)) := rv_I ⟨by decide, by
  have := h.to
  have e : (2 : Int) ^ 27 = 134217728 := by decide
  rw [e]
  omega⟩
end Wy

set_option Elab.async false
set_option linter.all false
set_option maxRecDepth 100000
set_option maxHeartbeats 4000000
namespace K1
open PySem PySem.Spec PyProof.Rows L2 Evl Wy
local macro_rules | `(tactic| walk_at "s") => `(tactic| first
  | (with_reducible exact ev_c)
  | ((with_reducible apply ev_var); rfl)
  | (with_reducible exact rv_I0)
  | (with_reducible exact rp_eqI)
  | (with_reducible exact rp_neI)
  | ((with_reducible apply rv_mod); (first | decide | omega))
  | ((with_reducible apply rv_div); decide; decide)
  | ((with_reducible apply rv_mulL); (first | decide | omega); (first | decide | omega))
  | ((with_reducible apply rv_mulR); (first | decide | omega); (first | decide | omega))
  | ((with_reducible apply rv_powS); exact ⟨by decide, by decide, by decide⟩)
  | (with_reducible apply ev_op)
  | (with_reducible apply ev_cl)
  | (with_reducible apply ea_cons)
  | (with_reducible exact ea_nil)
  | (with_reducible apply tp_cmp)
  | (with_reducible apply tp_val)
  | (with_reducible apply tp_and)
  | (with_reducible apply tp_or)
  | (with_reducible apply tp_not)
  | ((with_reducible apply ev_lenI); (walk_at "s"); (walk_at "s"))
  | (with_reducible apply ev_len)
  | (with_reducible apply ev_min2)
  | (with_reducible assumption)
  | (intro hq; (with_reducible show EvT _ _ _ _)))

def topS (i : Nat) : Stmt := PySem.Challenge.pw_waybook_k01_ahead.main.body.getD i (.Pass ⟨0, 0, 0, 0⟩)
abbrev s_less : Stmt := topS 1
theorem sc_less : FnScope ["one", "other", "left", "right"] ["one", "other"] (defScope s_less) := ⟨rfl, rfl, rfl, by decide +kernel, rfl, by decide +kernel, by decide +kernel⟩
abbrev s_l_at : Stmt := topS 3
theorem sc_l_at : FnScope ["_law_script", "_law_k"] ["_law_script", "_law_k"] (defScope s_l_at) := ⟨rfl, rfl, rfl, by decide +kernel, rfl, by decide +kernel, by decide +kernel⟩
abbrev s_l_value : Stmt := topS 4
theorem sc_l_value : FnScope ["_law_cell"] ["_law_cell"] (defScope s_l_value) := ⟨rfl, rfl, rfl, by decide +kernel, rfl, by decide +kernel, by decide +kernel⟩
abbrev s_l_ahead : Stmt := topS 5
theorem sc_l_ahead : FnScope ["_law_one", "_law_other", "_law_k"] ["_law_one", "_law_other"] (defScope s_l_ahead) := ⟨rfl, rfl, rfl, by decide +kernel, rfl, by decide +kernel, by decide +kernel⟩
abbrev s_law : Stmt := topS 6
theorem sc_law : FnScope ["_law_script", "_law_front", "_law_one", "_law_other", "_law_way", "_law_fresh", "_law_handed", "_law_found", "_law_k"] ["_law_script"] (defScope s_law) := ⟨rfl, rfl, rfl, by decide +kernel, rfl, by decide +kernel, by decide +kernel⟩

/-! ### the mathematics -/
/-- whether one list stands ahead of another -/
def ahead : List Int → List Int → Bool
  | x :: xs, y :: ys => if x = y then ahead xs ys else decide (x < y)
  | [], _ :: _ => true
  | _, [] => false
theorem ahead_at : ∀ {xs ys : List Int} {i : Nat} {x y : Int}, xs.take i = ys.take i → xs[i]? = some x → ys[i]? = some y → ¬ x = y → ahead xs ys = decide (x < y)
  | [], _, i, x, y, _, h, _, _ => by simp at h
  | _ :: _, [], i, x, y, _, _, h, _ => by simp at h
  | a :: xs, b :: ys, 0, x, y, _, hx, hy, hn => by
    have e1 : a = x := Option.some.inj hx
    have e2 : b = y := Option.some.inj hy
    subst e1 e2
    show (if a = b then ahead xs ys else decide (a < b)) = _
    rw [if_neg hn]
  | a :: xs, b :: ys, i + 1, x, y, ht, hx, hy, hn => by
    rw [List.take_succ_cons, List.take_succ_cons] at ht
    obtain ⟨e1, e2⟩ := List.cons.inj ht
    show (if a = b then ahead xs ys else decide (a < b)) = _
    rw [if_pos e1]
    exact ahead_at e2 hx hy hn
theorem ahead_end : ∀ {xs ys : List Int} {i : Nat}, xs.take i = ys.take i → i ≤ xs.length → i ≤ ys.length → (xs.length ≤ i ∨ ys.length ≤ i) → ahead xs ys = decide ((xs.length : Int) < (ys.length : Int))
  | [], [], i, _, _, _, _ => rfl
  | [], b :: ys, i, _, _, _, _ => by
    show true = _
    rw [decide_eq_true]
    simp only [List.length_nil, List.length_cons]
    omega
  | a :: xs, [], i, _, _, _, _ => by
    show false = _
    rw [decide_eq_false]
    simp only [List.length_nil, List.length_cons]
    omega
  | a :: xs, b :: ys, 0, _, _, _, h => by simp at h
  | a :: xs, b :: ys, i + 1, ht, h1, h2, h3 => by
    rw [List.take_succ_cons, List.take_succ_cons] at ht
    obtain ⟨e1, e2⟩ := List.cons.inj ht
    simp only [List.length_cons] at h1 h2 h3
    show (if a = b then ahead xs ys else decide (a < b)) = _
    rw [if_pos e1, ahead_end e2 (by omega) (by omega) (by omega)]
    simp only [List.length_cons]
    exact decide_eq_decide.mpr (by omega)
theorem take_more {xs ys : List Int} {i : Nat} {x y : Int} (h : xs.take i = ys.take i) (hx : xs[i]? = some x) (hy : ys[i]? = some y) (e : x = y) : xs.take (i + 1) = ys.take (i + 1) := by
  rw [List.take_add_one, List.take_add_one, hx, hy, h, e]
theorem int_at {ns : List Int} {i : Nat} {x : V} (h : (ns.map V.int)[i]? = some x) : ∃ n, ns[i]? = some n ∧ x = .int n := by
  rw [List.getElem?_map] at h
  cases e : ns[i]? with
  | none => rw [e] at h; cases h
  | some n => rw [e] at h; exact ⟨n, rfl, (Option.some.inj h).symm⟩
def cell (ns : List Int) (k : Int) : Int := if k < ns.length then ns.getD k.toNat 0 else 0
def value (c : Int) : Int := if c % 8 = 0 then c / 8 % (2 * 10 ^ 30) - 10 ^ 30 else if c % 8 = 1 then c / 8 % 9 - 4 else c / 8 % 3

/-! ### the promises -/
section
variable {P : Program} {w : World} {K : PySem.W.Frag} {mg : Str → Option Value} {base : Heap}
def RAt (K : PySem.W.Frag) : List V → Hp → V → Prop := fun vs H z => ∃ (a : Addr) (ns : List Int) (k : Int), vs = [.ref a, .int k] ∧ SqL K H a (ns.map V.int) ∧ 0 ≤ k ∧ z = .int (cell ns k)
def RValue : List V → Hp → V → Prop := fun vs _ z => ∃ c : Int, vs = [.int c] ∧ z = .int (value c)
def RAhead (K : PySem.W.Frag) : List V → Hp → V → Prop := fun vs H z => ∃ (a b : Addr) (xs ys : List Int), vs = [.ref a, .ref b] ∧ SqL K H a (xs.map V.int) ∧ SqL K H b (ys.map V.int) ∧ xs.length ≤ 1000 ∧ ys.length ≤ 1000 ∧ z = .bl (ahead xs ys)
structure Zs (mg : Str → Option Value) : Prop where
  zip : mg "zip" = none
  range : mg "range" = none
  len : mg "len" = none
  min : mg "min" = none
  list : mg "list" = none
  isinstance : mg "isinstance" = none
  bool : mg "bool" = none

theorem ok_at {f : Addr} {fd : FuncData} {k : Nat} (F : Fun K "_law_at" "_law_at" s_l_at f fd) (Z : Zs mg) : FnOk P w K mg base CX0 (k + 1) f fd ["_law_script", "_law_k"] (SpR 2 (RAt K)) := by
  refine F.ok sc_l_at (fun vs H Q E h => h.1) (fun cdv A outer s H vs Q E hr h => ?_)
  obtain ⟨_, z, ⟨a, ns, k, rfl, hS, h0, rfl⟩, q⟩ := h
  refine ⟨_, (pss_cons (ps_if (pt_cmpR op_lt (pv 1) (pe_callB (id := "len") (r := rLenS K) c_len (by rfl) Z.len PySem.boot_len (pa_cons (pv 0) pa_nil)) (nomark _)) (pss_one (ps_ret (pe_ix (r := rIxL K) ix_list (pv 0) (pv 1) (fun _ _ => rfl)))) pss_nil)
      (pss_one (ps_ret pe_int))), ?_⟩
  try dsimp only [cx_K]
  refine Sv.at (sv_when (p := k < (ns.length : Int)) ?_ (fun hk => ?_) (fun hk => ?_))
  · repeat' walk_at "s"
  · refine sv_rq q ?_
    have e : cell ns k = ns.getD k.toNat 0 := if_pos hk
    rw [e]
    refine ev_op (ev_var rfl) (ev_var rfl) (rv_ixI hS h0 hk)
  · refine sv_rq q ?_
    have e : cell ns k = 0 := if_neg hk
    rw [e]
    exact ev_c
theorem ok_value {f : Addr} {fd : FuncData} {k : Nat} (F : Fun K "_law_value" "_law_value" s_l_value f fd) : FnOk P w K mg base CX0 (k + 1) f fd ["_law_cell"] (SpR 1 RValue) := by
  refine F.ok sc_l_value (fun vs H Q E h => h.1) (fun cdv A outer s H vs Q E hr h => ?_)
  obtain ⟨_, z, ⟨c, rfl, rfl⟩, q⟩ := h
  refine ⟨_, (pss_cons (ps_if (pt_cmpR op_eq (pe_op op_mod (pv 0) pe_int) pe_int (nomark _)) (pss_one (ps_ret (pe_op op_sub (pe_op op_mod (pe_op op_fdiv (pv 0) pe_int) (pe_op op_mul pe_int (pe_op op_pow pe_int pe_int))) (pe_op op_pow pe_int pe_int)))) pss_nil)
      (pss_cons (ps_if (pt_cmpR op_eq (pe_op op_mod (pv 0) pe_int) pe_int (nomark _)) (pss_one (ps_ret (pe_op op_sub (pe_op op_mod (pe_op op_fdiv (pv 0) pe_int) pe_int) pe_int))) pss_nil)
      (pss_one (ps_ret (pe_op op_mod (pe_op op_fdiv (pv 0) pe_int) pe_int))))), ?_⟩
  try dsimp only [cx_K]
  refine Sv.at (sv_when (p := c % 8 = 0) (by repeat' walk_at "s") (fun h0 => ?_) (fun h0 => sv_when (p := c % 8 = 1) (by repeat' walk_at "s") (fun h1 => ?_) (fun h1 => ?_)))
  · have e : value c = c / 8 % (2 * 10 ^ 30) - 10 ^ 30 := if_pos h0
    rw [e] at q
    refine sv_rq q ?_
    have e2 : (10 : Int) ^ (30 : Int).toNat = 10 ^ 30 := rfl
    refine ev_eq (v := .int (c / 8 % (2 * 10 ^ (30 : Int).toNat) - 10 ^ (30 : Int).toNat)) ?_ (by rw [e2])
    repeat' walk_at "s"
  · have e : value c = c / 8 % 9 - 4 := (if_neg h0).trans (if_pos h1)
    rw [e] at q
    refine sv_rq q ?_
    repeat' walk_at "s"
  · have e : value c = c / 8 % 3 := (if_neg h0).trans (if_neg h1)
    rw [e] at q
    refine sv_rq q ?_
    repeat' walk_at "s"

theorem ok_less {f : Addr} {fd : FuncData} {k : Nat} (F : Fun K "less" "less" s_less f fd) (Z : Zs mg) : FnOk P w K mg base CX0 (k + 1) f fd ["one", "other"] (SpR 2 (RAhead K)) := by
  refine F.ok sc_less (fun vs H Q E h => h.1) (fun cdv A outer s H vs Q E hr h => ?_)
  obtain ⟨_, z, ⟨a, b, xs, ys, rfl, hx, hy, _, _, rfl⟩, q⟩ := h
  refine ⟨_, (pss_cons (ps_for PassesOwn.never rfl (pi_zip (by rfl) Z.zip (pa_cons (pv 0) (pa_cons (pv 1) pa_nil))) (pg_tup (by rfl) (pgs_cons (pg_name (i := 2) sc_less.nd rfl (Or.inl rfl)) (pgs_cons (pg_name (i := 3) sc_less.nd rfl (Or.inl rfl)) pgs_nil))) (pss_one (ps_if (pt_cmpR op_ne (pv 2) (pv 3) (nomark _)) (pss_one (ps_ret (pe_cmpR op_lt (pv 2) (pv 3) (nomark _)))) pss_nil)))
      (pss_one (ps_ret (pe_cmpR op_lt (pe_callB (id := "len") (r := rLenS K) c_len (by rfl) Z.len PySem.boot_len (pa_cons (pv 0) pa_nil)) (pe_callB (id := "len") (r := rLenS K) c_len (by rfl) Z.len PySem.boot_len (pa_cons (pv 1) pa_nil)) (nomark _))))), ?_⟩
  try dsimp only [cx_K]
  refine Sv.at (sv_forZ (by repeat' walk_at "s") hx hy (fun i σ' H' => H' = H ∧ (∃ y2 y3, σ' = [some (.ref a), some (.ref b), y2, y3]) ∧ xs.take i = ys.take i) ⟨rfl, ⟨none, none, rfl⟩, rfl⟩ (fun i σ' H' h => by rw [h.1]; exact ⟨hx, hy⟩) ?_ ?_)
  · rintro i x y σ' H' h1 h2 ⟨rfl, ⟨y2, y3, rfl⟩, ht⟩
    obtain ⟨n, hn, rfl⟩ := int_at h1
    obtain ⟨m, hm, rfl⟩ := int_at h2
    refine sv_if' (p := ¬ n = m) (by repeat' walk_at "s") (fun hne => ?_) (fun he => sv_kn ⟨rfl, ⟨_, _, rfl⟩, take_more ht hn hm (Decidable.of_not_not he)⟩)
    rw [ahead_at ht hn hm hne] at q
    refine sv_rq q ?_
    repeat' walk_at "s"
  · rintro i σ' H' l1 l2 l3 ⟨rfl, ⟨y2, y3, rfl⟩, ht⟩
    rw [List.length_map] at l1 l2 l3
    rw [List.length_map] at l3
    rw [ahead_end ht l1 l2 l3] at q
    refine sv_rq q ?_
    repeat' walk_at "s"

theorem ok_ahead {f : Addr} {fd : FuncData} {k : Nat} (F : Fun K "_law_ahead" "_law_ahead" s_l_ahead f fd) (Z : Zs mg) : FnOk P w K mg base CX0 (k + 1) f fd ["_law_one", "_law_other"] (SpR 2 (RAhead K)) := by
  refine F.ok sc_l_ahead (fun vs H Q E h => h.1) (fun cdv A outer s H vs Q E hr h => ?_)
  obtain ⟨_, z, ⟨a, b, xs, ys, rfl, hx, hy, lx, ly, rfl⟩, q⟩ := h
  refine ⟨_, (pss_cons (ps_for PassesOwn.never rfl (pi_range1 (by rfl) Z.range (pa_cons (pe_callB (id := "min") (c_min2 rfl) (by rfl) Z.min (by decide +kernel) (pa_cons (pe_callB (id := "len") (r := rLenS K) c_len (by rfl) Z.len PySem.boot_len (pa_cons (pv 0) pa_nil)) (pa_cons (pe_callB (id := "len") (r := rLenS K) c_len (by rfl) Z.len PySem.boot_len (pa_cons (pv 1) pa_nil)) pa_nil))) pa_nil)) (pg_name (i := 2) sc_l_ahead.nd rfl (Or.inl rfl)) (pss_one (ps_if (pt_cmpR op_ne (pe_ix (r := rIxL K) ix_list (pv 0) (pv 2) (fun _ _ => rfl)) (pe_ix (r := rIxL K) ix_list (pv 1) (pv 2) (fun _ _ => rfl)) (nomark _)) (pss_one (ps_ret (pe_cmpR op_lt (pe_ix (r := rIxL K) ix_list (pv 0) (pv 2) (fun _ _ => rfl)) (pe_ix (r := rIxL K) ix_list (pv 1) (pv 2) (fun _ _ => rfl)) (nomark _)))) pss_nil)))
      (pss_one (ps_ret (pe_cmpR op_lt (pe_callB (id := "len") (r := rLenS K) c_len (by rfl) Z.len PySem.boot_len (pa_cons (pv 0) pa_nil)) (pe_callB (id := "len") (r := rLenS K) c_len (by rfl) Z.len PySem.boot_len (pa_cons (pv 1) pa_nil)) (nomark _))))), ?_⟩
  try dsimp only [cx_K]
  refine Sv.at (sv_forR1 (n := if (ys.length : Int) < xs.length then ys.length else xs.length) (by repeat' walk_at "s") (by split <;> omega) (fun i σ' H' => H' = H ∧ (∃ y2, σ' = [some (.ref a), some (.ref b), y2]) ∧ xs.take i = ys.take i) ⟨rfl, ⟨none, rfl⟩, rfl⟩ ?_ ?_)
  · rintro i σ' H' hi ⟨rfl, ⟨y2, rfl⟩, ht⟩
    have h1 : i < xs.length := by split at hi <;> omega
    have h2 : i < ys.length := by split at hi <;> omega
    have hn : xs[i]? = some (xs.getD i 0) := by rw [List.getD_eq_getElem?_getD, List.getElem?_eq_getElem h1]; rfl
    have hm : ys[i]? = some (ys.getD i 0) := by rw [List.getD_eq_getElem?_getD, List.getElem?_eq_getElem h2]; rfl
    have r1 : RV (rIxL K) (.ref a) (.int (i : Int)) H' (.int (xs.getD i 0)) := rv_ixI hx (Int.natCast_nonneg _) (by omega)
    have r2 : RV (rIxL K) (.ref b) (.int (i : Int)) H' (.int (ys.getD i 0)) := rv_ixI hy (Int.natCast_nonneg _) (by omega)
    refine sv_if' (p := ¬ xs.getD i 0 = ys.getD i 0) (by repeat' walk_at "s") (fun hne => ?_) (fun he => sv_kn ⟨rfl, ⟨_, rfl⟩, take_more ht hn hm (Decidable.of_not_not he)⟩)
    rw [ahead_at ht hn hm hne] at q
    refine sv_rq q ?_
    repeat' walk_at "s"
  · rintro i σ' ⟨rfl, ⟨y2, rfl⟩, ht⟩
    rw [ahead_end ht (by split <;> omega) (by split <;> omega) (by split <;> omega)] at q
    refine sv_rq q ?_
    repeat' walk_at "s"
theorem spv_at {H : Hp} {a : Addr} {ns : List Int} {k : Int} (h : SqL K H a (ns.map V.int)) (h0 : 0 ≤ k) : SpV (SpR 2 (RAt K)) [.ref a, .int k] H (.int (cell ns k)) := spv rfl fun H1 e => ⟨a, ns, k, rfl, ex_l e h, h0, rfl⟩
theorem spv_value {H : Hp} {c : Int} : SpV (SpR 1 RValue) [.int c] H (.int (value c)) := spv rfl fun H1 e => ⟨c, rfl, rfl⟩
theorem spv_ahead {H : Hp} {a b : Addr} {xs ys : List Int} (h : SqL K H a (xs.map V.int)) (h2 : SqL K H b (ys.map V.int)) (l1 : xs.length ≤ 1000) (l2 : ys.length ≤ 1000) : SpV (SpR 2 (RAhead K)) [.ref a, .ref b] H (.bl (ahead xs ys)) :=
  spv rfl fun H1 e => ⟨a, b, xs, ys, rfl, ex_l e h, ex_l e h2, l1, l2, rfl⟩
local macro_rules | `(tactic| walk_at "s") => `(tactic| first
  | ((with_reducible apply spv_at); (walk_at "s"); (first | decide | omega))
  | (with_reducible exact spv_value)
  | ((with_reducible apply rv_ixL (xs := [_, _])); (walk_at "s"); rfl))

def spLaw (K : PySem.W.Frag) : Sp := fun vs H Q _ => ∃ (a : Addr) (ns : List Int), vs = [.ref a] ∧ SqL K H a (ns.map V.int) ∧ ∀ H', Q (.bl true) H'
theorem ok_law {f : Addr} {fd : FuncData} (F : Fun K "law" "law" s_law f fd) (Z : Zs mg) (c_l_at : Cl P w K mg base CX0 1 "_law_at" (SpR 2 (RAt K))) (c_l_value : Cl P w K mg base CX0 1 "_law_value" (SpR 1 RValue))
    (c_less : Cl P w K mg base CX0 1 "less" (SpR 2 (RAhead K))) (c_l_ahead : Cl P w K mg base CX0 1 "_law_ahead" (SpR 2 (RAhead K))) : FnOk P w K mg base CX0 2 f fd ["_law_script"] (spLaw K) := by
  refine F.ok sc_law (fun vs H Q E h => by obtain ⟨a, ns, rfl, _⟩ := h; rfl) (fun cdv A outer s H vs Q E hr h => ?_)
  obtain ⟨a, ns, rfl, hS, q⟩ := h
  refine ⟨_, (pss_cons (ps_set (i := 1) sc_law.nd rfl (Or.inl rfl) (pe_lst pa_nil))
      (pss_cut (ps_if (pt_cmpR op_eq (pe_op op_mod (pe_op op_fdiv (pe_cl c_l_at hr (by decide) pass0 (by rfl) (pa_cons (pv 0) (pa_cons pe_int pa_nil))) pe_int) pe_int) pe_int (nomark _)) (pss_one (ps_set (i := 1) sc_law.nd rfl (Or.inl rfl) (pe_op op_rep (pe_lst (pa_cons (pe_op op_mod (pe_cl c_l_at hr (by decide) pass0 (by rfl) (pa_cons (pv 0) (pa_cons pe_int pa_nil))) pe_int) pa_nil)) pe_int))) pss_nil)
      (pss_cons (ps_set (i := 2) sc_law.nd rfl (Or.inl rfl) (pe_op op_cat (pv 1) (pe_lc (own := [("_law_k", 8)]) (g := gName 8) (tt := tYes) (by rfl) sc_law.nd (pi_range1 (by rfl) Z.range (pa_cons (pe_op op_mod (pe_cl c_l_at hr (by decide) pass0 (by rfl) (pa_cons (pv 0) (pa_cons pe_int pa_nil))) pe_int) pa_nil)) (blkOk_by (own := [("_law_k", 8)]) (N := ["_law_script", "_law_front", "_law_one", "_law_other", "_law_way", "_law_fresh", "_law_handed", "_law_found", "_law_k"]) (sc := defScope s_law) (by decide +kernel)) (fun _ _ _ _ _ => (pg_name (i := 8) sc_law.nd rfl (Or.inl rfl))) (fun _ _ _ _ _ => pts_nil) (fun _ _ _ _ _ => (pe_cl c_l_value hr (by decide) pass0 (by rfl) (pa_cons (pe_cl c_l_at hr (by decide) pass0 (by rfl) (pa_cons (pv 0) (pa_cons (pe_op op_add pe_int (pv 8)) pa_nil))) pa_nil))))))
      (pss_cons (ps_set (i := 3) sc_law.nd rfl (Or.inl rfl) (pe_op op_cat (pv 1) (pe_lc (own := [("_law_k", 8)]) (g := gName 8) (tt := tYes) (by rfl) sc_law.nd (pi_range1 (by rfl) Z.range (pa_cons (pe_op op_mod (pe_op op_fdiv (pe_cl c_l_at hr (by decide) pass0 (by rfl) (pa_cons (pv 0) (pa_cons pe_int pa_nil))) pe_int) pe_int) pa_nil)) (blkOk_by (own := [("_law_k", 8)]) (N := ["_law_script", "_law_front", "_law_one", "_law_other", "_law_way", "_law_fresh", "_law_handed", "_law_found", "_law_k"]) (sc := defScope s_law) (by decide +kernel)) (fun _ _ _ _ _ => (pg_name (i := 8) sc_law.nd rfl (Or.inl rfl))) (fun _ _ _ _ _ => pts_nil) (fun _ _ _ _ _ => (pe_cl c_l_value hr (by decide) pass0 (by rfl) (pa_cons (pe_cl c_l_at hr (by decide) pass0 (by rfl) (pa_cons (pv 0) (pa_cons (pe_op op_add pe_int (pv 8)) pa_nil))) pa_nil))))))
      (pss_cons (ps_set (i := 4) sc_law.nd rfl (Or.inl rfl) (pe_op op_mod (pe_cl c_l_at hr (by decide) pass0 (by rfl) (pa_cons (pv 0) (pa_cons pe_int pa_nil))) pe_int))
      (pss_cons (ps_set (i := 5) sc_law.nd rfl (Or.inl rfl) (pe_cl c_l_value hr (by decide) pass0 (by rfl) (pa_cons (pe_cl c_l_at hr (by decide) pass0 (by rfl) (pa_cons (pv 0) (pa_cons pe_int pa_nil))) pa_nil)))
      (pss_cut (ps_if (pt_cmpR op_eq (pv 4) pe_int (nomark _)) (pss_one (ps_set (i := 3) sc_law.nd rfl (Or.inl rfl) (pe_op op_cat (pe_slice (r := rSlL K) sl_list (pv 2) po_none (po_some (pe_op op_mod (pe_cl c_l_at hr (by decide) pass0 (by rfl) (pa_cons (pv 0) (pa_cons pe_int pa_nil))) (pe_op op_add (pe_callB (id := "len") (r := rLenS K) c_len (by rfl) Z.len PySem.boot_len (pa_cons (pv 2) pa_nil)) pe_int)))) (pe_op op_rep (pe_lst (pa_cons (pv 5) pa_nil)) (pe_op op_mod (pe_op op_fdiv (pe_cl c_l_at hr (by decide) pass0 (by rfl) (pa_cons (pv 0) (pa_cons pe_int pa_nil))) pe_int) pe_int))))) pss_nil)
      (pss_cut (ps_if (PW.pt (pw_and (pt_cmpR op_eq (pv 4) pe_int (nomark _)) (pw_and1 (pt_cmpR op_gt (pe_callB (id := "len") (r := rLenS K) c_len (by rfl) Z.len PySem.boot_len (pa_cons (pv 2) pa_nil)) pe_int (nomark _))))) (pss_cons (ps_set (i := 3) sc_law.nd rfl (Or.inl rfl) (pe_callTy (T := "list") (r := rListS K) c_list (by rfl) Z.list (by decide +kernel) (pa_cons (pv 2) pa_nil))) (pss_one (ps_asg (pv 5) (pg_sub (pv 3) (pe_op op_mod (pe_cl c_l_at hr (by decide) pass0 (by rfl) (pa_cons (pv 0) (pa_cons pe_int pa_nil))) (pe_callB (id := "len") (r := rLenS K) c_len (by rfl) Z.len PySem.boot_len (pa_cons (pv 2) pa_nil))) set_list)))) pss_nil)
      (pss_cons (ps_set (i := 6) sc_law.nd rfl (Or.inl rfl) (pe_lst (pa_cons (pe_callTy (T := "list") (r := rListS K) c_list (by rfl) Z.list (by decide +kernel) (pa_cons (pv 2) pa_nil)) (pa_cons (pe_callTy (T := "list") (r := rListS K) c_list (by rfl) Z.list (by decide +kernel) (pa_cons (pv 3) pa_nil)) pa_nil))))
      (pss_cons (ps_set (i := 7) sc_law.nd rfl (Or.inl rfl) (pe_cl c_less hr (by decide) pass0 (by rfl) (pa_cons (pe_ix (r := rIxL K) ix_list (pv 6) pe_int (fun _ _ => rfl)) (pa_cons (pe_ix (r := rIxL K) ix_list (pv 6) pe_int (fun _ _ => rfl)) pa_nil))))
      (pss_cons (ps_if (PW.pt (pw_or (pt_not (pt_val (pe_callB (id := "isinstance") (r := rIsi K) call_isi (by rfl) Z.isinstance (by decide +kernel) (pa_cons (pv 7) (pa_cons (pe_bltn (v := .ty "bool") (by rfl) Z.bool (by decide +kernel) rfl) pa_nil))))) (pw_or (pt_cmpR (r := rNeD K) (op_neD hr.units) (pe_ix (r := rIxL K) ix_list (pv 6) pe_int (fun _ _ => rfl)) (pv 2) (nomark _)) (pw_or1 (pt_cmpR (r := rNeD K) (op_neD hr.units) (pe_ix (r := rIxL K) ix_list (pv 6) pe_int (fun _ _ => rfl)) (pv 3) (nomark _)))))) (pss_one (ps_ret pe_bl)) pss_nil)
      (pss_one (ps_ret (pe_cmpR op_eq (pv 7) (pe_cl c_l_ahead hr (by decide) pass0 (by rfl) (pa_cons (pv 2) (pa_cons (pv 3) pa_nil))) (nomark _))))))))))))))), ?_⟩
  try dsimp only [cx_K]
  refine Sv.at (sv_asgL (xs := []) (el_lst ea_nil (Nat.zero_le _)) fun p0 H0 n0 e0 hp0 => ?_)
  -- the front
  refine sv_cut (fun σ' H' => ∃ (p : Addr) (fs : List Int), σ' = [some (.ref a), some (.ref p), none, none, none, none, none, none, none] ∧ SqL K H' a (ns.map V.int) ∧ H' p = some (.lst (fs.map V.int)) ∧ fs.length ≤ 60) ?_ ?_
  · refine sv_if' (p := cell ns 0 / 6 % 4 = 1) ?_ (fun _ => ?_) (fun _ => sv_kn ⟨p0, [], rfl, ex_l e0 hS, hp0, Nat.zero_le _⟩)
    · have hS0 := ex_l e0 hS
      repeat' walk_at "s"
    · have hS0 := ex_l e0 hS
      refine sv_asgL' (el_rep (xs := [.int (cell ns 1 % 7)]) (n := 60) (EvL.l (el_lst ?_ (by simp))) ev_c (by decide) (by decide) (by simp)) fun p H1 n1 e1 hp => sv_kn ⟨p, List.replicate 60 (cell ns 1 % 7), rfl, ex_l e1 hS0, hp, by simp⟩
      repeat' walk_at "s"
  rintro σ' H1 ⟨p1, fs, rfl, hS1, hp1, hl1⟩
  -- the two lists
  refine sv_asgL (el_cat (xs := fs.map V.int) (ys := ((List.range (cell ns 0 % 6).toNat).map fun i : Nat => value (cell ns (2 + i))).map V.int) (ev_l (ev_var rfl) hp1) (EvL.l (el_lcI (n := cell ns 0 % 6) (fun i : Nat => value (cell ns (2 + i))) ?_ (by omega) (fun _ => rfl) (fun i hi => ?_))) ?_) fun p2 H2 n2 e2 hp2 => ?_
  · repeat' walk_at "s"
  · repeat' walk_at "s"
  · simp only [List.length_map, List.length_range]
    omega
  have hS2 := ex_l e2 hS1
  have hp12 := e2 _ _ hp1
  refine sv_asgL (el_cat (xs := fs.map V.int) (ys := ((List.range (cell ns 1 / 7 % 6).toNat).map fun i : Nat => value (cell ns (8 + i))).map V.int) (ev_l (ev_var rfl) hp12) (EvL.l (el_lcI (n := cell ns 1 / 7 % 6) (fun i : Nat => value (cell ns (8 + i))) ?_ (by omega) (fun _ => rfl) (fun i hi => ?_))) ?_) fun p3 H3 n3 e3 hp3 => ?_
  · repeat' walk_at "s"
  · repeat' walk_at "s"
  · simp only [List.length_map, List.length_range]
    omega
  have hS3 := ex_l e3 hS2
  have hp23 := e3 _ _ hp2
  have n32 : p3 ≠ p2 := fun h => by rw [h, hp2] at n3; cases n3
  rw [← List.map_append] at hp23 hp3
  generalize hxs : fs ++ List.map (fun i : Nat => value (cell ns (2 + i))) (List.range (cell ns 0 % 6).toNat) = xs at hp23
  have lx : xs.length ≤ 65 := by rw [← hxs]; simp only [List.length_append, List.length_map, List.length_range]; omega
  generalize hys : fs ++ List.map (fun i : Nat => value (cell ns (8 + i))) (List.range (cell ns 1 / 7 % 6).toNat) = ys at hp3
  have ly : ys.length ≤ 65 := by rw [← hys]; simp only [List.length_append, List.length_map, List.length_range]; omega
  -- way and fresh
  refine sv_asg (v := .int (cell ns 14 % 3)) (by repeat' walk_at "s") (sv_asg (v := .int (value (cell ns 16))) (by repeat' walk_at "s") ?_)
  generalize cell ns 14 % 3 = way
  generalize value (cell ns 16) = fresh
  -- the second one by its way
  refine sv_cut (fun σ' H' => ∃ (p : Addr) (zs : List Int), σ' = [some (.ref a), some (.ref p1), some (.ref p2), some (.ref p), some (.int way), some (.int fresh), none, none, none] ∧ SqL K H' a (ns.map V.int) ∧ H' p2 = some (.lst (xs.map V.int)) ∧ H' p = some (.lst (zs.map V.int)) ∧ zs.length ≤ 67) ?_ ?_
  · refine sv_if' (p := way = 1) (by repeat' walk_at "s") (fun _ => ?_) (fun _ => sv_kn ⟨p3, ys, rfl, hS3, hp23, hp3, by omega⟩)
    have hm : 0 ≤ cell ns 15 % ((xs.length : Int) + 1) := Int.emod_nonneg _ (by omega)
    have hsl : EvL (tSl (rSlL K) (tVar 2) tNoPart (tPart (tOp (rI (fun _ j => 0 < j) fun i j => .int (i % j)) (tCall (SpR 2 (RAt K)) [] E0 (tCons (tVar 0) (tCons (tC (.int 15)) tNil))) (tOp (rI0 fun i j => .int (i + j)) (tCB (rLenS K) (tCons (tVar 2) tNil)) (tC (.int 1))))))
        [some (.ref a), some (.ref p1), some (.ref p2), some (.ref p3), some (.int way), some (.int fresh), none, none, none] H3 (cutV (xs.map V.int) none (some (cell ns 15 % ((xs.length : Int) + 1)))) := by
      have hq : SqL K H3 p2 (xs.map V.int) := sq_of hp23
      refine el_sl (ev_var rfl) eo_none (eo_some (ev_op ?_ ?_ (rv_mod (by omega)))) hq
      · repeat' walk_at "s"
      · repeat' walk_at "s"
    refine sv_asgL' (el_cat (EvL.l hsl) (EvL.l (el_rep (xs := [.int fresh]) (n := cell ns 14 / 3 % 2) (EvL.l (el_lst ?_ (by simp))) ?_ (by omega) (by omega) (by simp))) ?_) fun p H4 n4 e4 hp => sv_kn ⟨p, xs.take (cell ns 15 % ((xs.length : Int) + 1)).toNat ++ List.replicate (cell ns 14 / 3 % 2).toNat fresh, rfl, ex_l e4 hS3, e4 _ _ hp23, ?_, ?_⟩
    · repeat' walk_at "s"
    · repeat' walk_at "s"
    · rw [cut_to hm, List.length_take, List.length_map, flat_rep, List.length_replicate]
      omega
    · rw [hp, cut_to hm, flat_rep, map_rep, ← List.map_take, ← List.map_append]
    · rw [List.length_append, List.length_take, List.length_replicate]
      omega
  rintro σ' H4 ⟨p4, zs, rfl, hS4, hp42, hp4, lz⟩
  refine sv_cut (fun σ' H' => ∃ (p : Addr) (zs : List Int), σ' = [some (.ref a), some (.ref p1), some (.ref p2), some (.ref p), some (.int way), some (.int fresh), none, none, none] ∧ SqL K H' a (ns.map V.int) ∧ H' p2 = some (.lst (xs.map V.int)) ∧ H' p = some (.lst (zs.map V.int)) ∧ zs.length ≤ 67) ?_ ?_
  · have hq4 : SqL K H4 p2 (xs.map V.int) := sq_of hp42
    refine sv_if' (p := way = 2 ∧ (0 : Int) < xs.length) (by repeat' walk_at "s") (fun hw => ?_) (fun _ => sv_kn ⟨p4, zs, rfl, hS4, hp42, hp4, lz⟩)
    refine sv_asgL (xs := xs.map V.int) (el_list (ev_var rfl) hq4) fun p H5 n5 e5 hp => ?_
    have hS5 := ex_l e5 hS4
    have hq5 := ex_l e5 hq4
    have npa : p2 ≠ p := fun h => by rw [← h, hp42] at n5; cases n5
    have m0 : 0 ≤ cell ns 15 % (xs.length : Int) := Int.emod_nonneg _ (by omega)
    have m1 : cell ns 15 % (xs.length : Int) < xs.length := Int.emod_lt_of_pos _ hw.2
    refine sv_setL (i := cell ns 15 % (xs.length : Int)) (j := (cell ns 15 % (xs.length : Int)).toNat) hp (ev_var rfl) (ev_var rfl) (ev_op ?_ ?_ (rv_mod hw.2)) (ixN_of m0 (by rw [List.length_map]; exact m1)) (sv_kn ⟨p, xs.set (cell ns 15 % (xs.length : Int)).toNat fresh, rfl, ?_, ?_, ?_, ?_⟩)
    · repeat' walk_at "s"
    · repeat' walk_at "s"
    · exact ex_l (Ex.mut e5 n5) hS4
    · exact Ex.mut e5 n5 _ _ hp42
    · rw [upd_same, map_set_int]
    · rw [List.length_set]
      omega
  rintro σ' H5 ⟨p5, zs, rfl, hS5, hp52, hp5, lz⟩
  have hq1 : SqL K H5 p2 (xs.map V.int) := sq_of hp52
  have hq2 : SqL K H5 p5 (zs.map V.int) := sq_of hp5
  -- what is handed in
  refine sv_asgP (evp_lst (PA := fun vs H' => ∃ q1 q2, vs = [.ref q1, .ref q2] ∧ Ex H5 H' ∧ H' q1 = some (.lst (xs.map V.int)) ∧ H' q2 = some (.lst (zs.map V.int))) (eap_cons (EvL.p (el_list (ev_var rfl) hq1)) ?_) ?_) ?_
  · rintro v H6 e6 ⟨q1, rfl, _, _, h1⟩
    refine eap_cons (EvL.p (el_list (ev_var rfl) (ex_l e6 hq2))) ?_
    rintro v H7 e7 ⟨q2, rfl, _, _, h2⟩
    exact eap_nil fun H8 e8 => ⟨q1, q2, rfl, (e6.trans e7).trans e8, e8 _ _ (e7 _ _ h1), e8 _ _ h2⟩
  · rintro vs H2 ⟨q1, q2, rfl, _⟩
    simp
  rintro v H8 e8 ⟨ph, vs, H7, rfl, ⟨q1, q2, rfl, e7, h1, h2⟩, nh, _, rfl⟩
  have eh := Ex.new (o := .lst [.ref q1, .ref q2]) nh
  have k1 := eh _ _ h1
  have k2 := eh _ _ h2
  have kh : (upd H7 ph (.lst [.ref q1, .ref q2])) ph = some (.lst [.ref q1, .ref q2]) := upd_same
  have kp := e8 _ _ hp52
  have kz := e8 _ _ hp5
  revert k1 k2 kh kp kz
  generalize upd H7 ph (.lst [.ref q1, .ref q2]) = H9
  intro k1 k2 kh kp kz
  have s1 : SqL K H9 q1 (xs.map V.int) := sq_of k1
  have s2 : SqL K H9 q2 (zs.map V.int) := sq_of k2
  have sh : SqL K H9 ph [.ref q1, .ref q2] := sq_of kh
  have s3 : SqL K H9 p2 (xs.map V.int) := sq_of kp
  have s4 : SqL K H9 p5 (zs.map V.int) := sq_of kz
  have i0 : RV (rIxL K) (.ref ph) (.int 0) H9 (.ref q1) := rv_ixL sh rfl
  have i1 : RV (rIxL K) (.ref ph) (.int 1) H9 (.ref q2) := rv_ixL sh rfl
  have a1 : SpV (SpR 2 (RAhead K)) [.ref q1, .ref q2] H9 (.bl (ahead xs zs)) := spv_ahead s1 s2 (by omega) (by omega)
  have a2 : SpV (SpR 2 (RAhead K)) [.ref p2, .ref p5] H9 (.bl (ahead xs zs)) := spv_ahead s3 s4 (by omega) (by omega)
  refine sv_asg (v := .bl (ahead xs zs)) (by repeat' walk_at "s") ?_
  have c1 : RV (rNeD K) (.ref q1) (.ref p2) H9 (.bl (decide False)) := rd_neSame (dp_ints s1) (dp_ints s3) (shp_listI xs) (by decide)
  have c2 : RV (rNeD K) (.ref q2) (.ref p5) H9 (.bl (decide False)) := rd_neSame (dp_ints s2) (dp_ints s4) (shp_listI zs) (by decide)
  refine sv_when (p := ¬ True ∨ False ∨ False) ?_ (fun h => by simp at h) (fun _ => ?_)
  · refine tp_or (tp_not (tp_valT (ev_isi (ev_var rfl) (fun _ _ => .base (.bl _)) (kit_ty (by decide +kernel))))) (fun _ => tp_or (by repeat' walk_at "s") (fun _ => by repeat' walk_at "s"))
  · refine sv_ret (v := .bl (decide (ahead xs zs = ahead xs zs))) ?_ (fun H' _ => ?_)
    · refine ev_op (ev_var rfl) ?_ rp_eqB
      repeat' walk_at "s"
    · rw [decide_eq_true rfl]
      exact q _
end
theorem all_mk {l : PySem.W.OpenLaw} {w : World} {K : PySem.W.Frag} {h : Heap} {mg : Str → Option Value} {fa : Addr} (X : K.In h) (G : h.Ns mainGlobals mg) (hfa : mg "law" = some (.ref fa))
    {f_less : Addr} {od_less an_less : Option Addr} {sl_less : Array (Option Value)} {oc_less kV_less dc_less pm_less cd_less ct_less : Value}
    {f_l_at : Addr} {od_l_at an_l_at : Option Addr} {sl_l_at : Array (Option Value)} {oc_l_at kV_l_at dc_l_at pm_l_at cd_l_at ct_l_at : Value}
    {f_l_value : Addr} {od_l_value an_l_value : Option Addr} {sl_l_value : Array (Option Value)} {oc_l_value kV_l_value dc_l_value pm_l_value cd_l_value ct_l_value : Value}
    {f_l_ahead : Addr} {od_l_ahead an_l_ahead : Option Addr} {sl_l_ahead : Array (Option Value)} {oc_l_ahead kV_l_ahead dc_l_ahead pm_l_ahead cd_l_ahead ct_l_ahead : Value}
    {f_law : Addr} {od_law an_law : Option Addr} {sl_law : Array (Option Value)} {oc_law kV_law dc_law pm_law cd_law ct_law : Value}
    (a_less : PySem.W.nsIn K mainGlobals "less" = some (some (.ref f_less)))
    (l_less : K.lookup f_less = some ⟨oc_less, od_less, .func (PySem.W.fnOf "less" "less" (defArgs s_less) (defBody s_less) (defScope s_less) .none kV_less dc_less pm_less an_less cd_less ct_less), sl_less⟩)
    (c_less : PySem.W.codeIn K cd_less "less" = true)
    (k_less : PySem.W.keepIn K (.ref f_less) = true)
    (a_l_at : PySem.W.nsIn K mainGlobals "_law_at" = some (some (.ref f_l_at)))
    (l_l_at : K.lookup f_l_at = some ⟨oc_l_at, od_l_at, .func (PySem.W.fnOf "_law_at" "_law_at" (defArgs s_l_at) (defBody s_l_at) (defScope s_l_at) .none kV_l_at dc_l_at pm_l_at an_l_at cd_l_at ct_l_at), sl_l_at⟩)
    (c_l_at : PySem.W.codeIn K cd_l_at "_law_at" = true)
    (k_l_at : PySem.W.keepIn K (.ref f_l_at) = true)
    (a_l_value : PySem.W.nsIn K mainGlobals "_law_value" = some (some (.ref f_l_value)))
    (l_l_value : K.lookup f_l_value = some ⟨oc_l_value, od_l_value, .func (PySem.W.fnOf "_law_value" "_law_value" (defArgs s_l_value) (defBody s_l_value) (defScope s_l_value) .none kV_l_value dc_l_value pm_l_value an_l_value cd_l_value ct_l_value), sl_l_value⟩)
    (c_l_value : PySem.W.codeIn K cd_l_value "_law_value" = true)
    (k_l_value : PySem.W.keepIn K (.ref f_l_value) = true)
    (a_l_ahead : PySem.W.nsIn K mainGlobals "_law_ahead" = some (some (.ref f_l_ahead)))
    (l_l_ahead : K.lookup f_l_ahead = some ⟨oc_l_ahead, od_l_ahead, .func (PySem.W.fnOf "_law_ahead" "_law_ahead" (defArgs s_l_ahead) (defBody s_l_ahead) (defScope s_l_ahead) .none kV_l_ahead dc_l_ahead pm_l_ahead an_l_ahead cd_l_ahead ct_l_ahead), sl_l_ahead⟩)
    (c_l_ahead : PySem.W.codeIn K cd_l_ahead "_law_ahead" = true)
    (k_l_ahead : PySem.W.keepIn K (.ref f_l_ahead) = true)
    (a_law : PySem.W.nsIn K mainGlobals "law" = some (some (.ref f_law)))
    (l_law : K.lookup f_law = some ⟨oc_law, od_law, .func (PySem.W.fnOf "law" "law" (defArgs s_law) (defBody s_law) (defScope s_law) .none kV_law dc_law pm_law an_law cd_law ct_law), sl_law⟩)
    (c_law : PySem.W.codeIn K cd_law "law" = true)
    (k_law : PySem.W.keepIn K (.ref f_law) = true)
    (z_zip : PySem.W.nsIn K mainGlobals "zip" = some none)
    (z_range : PySem.W.nsIn K mainGlobals "range" = some none)
    (z_len : PySem.W.nsIn K mainGlobals "len" = some none)
    (z_min : PySem.W.nsIn K mainGlobals "min" = some none)
    (z_list : PySem.W.nsIn K mainGlobals "list" = some none)
    (z_isinstance : PySem.W.nsIn K mainGlobals "isinstance" = some none)
    (z_bool : PySem.W.nsIn K mainGlobals "bool" = some none) :
    ∃ fd : FuncData, (∀ (s : Shared) (v : Value), BindsTo s fd ⟨[v], []⟩ [("_law_script", v)]) ∧ ∀ base : Heap, K.In base → base.Ns mainGlobals mg → FnOk l.prog w K mg base CX0 2 fa fd ["_law_script"] (spLaw K) := by
  have e := hfa.symm.trans (PySem.W.mg_of X G a_law)
  cases e
  have F_less := fun_mk (st := s_less) l_less c_less k_less
  have m_less := PySem.W.mg_of X G a_less
  have b_less := F_less.binds (ps := ["one", "other"]) fun _ _ _ _ _ _ us hl => match us, hl with | [_, _], _ => rfl
  have F_l_at := fun_mk (st := s_l_at) l_l_at c_l_at k_l_at
  have m_l_at := PySem.W.mg_of X G a_l_at
  have b_l_at := F_l_at.binds (ps := ["_law_script", "_law_k"]) fun _ _ _ _ _ _ us hl => match us, hl with | [_, _], _ => rfl
  have F_l_value := fun_mk (st := s_l_value) l_l_value c_l_value k_l_value
  have m_l_value := PySem.W.mg_of X G a_l_value
  have b_l_value := F_l_value.binds (ps := ["_law_cell"]) fun _ _ _ _ _ _ us hl => match us, hl with | [_], _ => rfl
  have F_l_ahead := fun_mk (st := s_l_ahead) l_l_ahead c_l_ahead k_l_ahead
  have m_l_ahead := PySem.W.mg_of X G a_l_ahead
  have b_l_ahead := F_l_ahead.binds (ps := ["_law_one", "_law_other"]) fun _ _ _ _ _ _ us hl => match us, hl with | [_, _], _ => rfl
  have F_law := fun_mk (st := s_law) l_law c_law k_law
  have m_law := PySem.W.mg_of X G a_law
  have b_law := F_law.binds (ps := ["_law_script"]) fun _ _ _ _ _ _ us hl => match us, hl with | [_], _ => rfl
  have Z : Zs mg := ⟨PySem.W.mg_none_of X G z_zip, PySem.W.mg_none_of X G z_range, PySem.W.mg_none_of X G z_len, PySem.W.mg_none_of X G z_min, PySem.W.mg_none_of X G z_list, PySem.W.mg_none_of X G z_isinstance, PySem.W.mg_none_of X G z_bool⟩
  exact ⟨PySem.W.fnOf "law" "law" (defArgs s_law) (defBody s_law) (defScope s_law) .none kV_law dc_law pm_law an_law cd_law ct_law, fun s v => .of_eq rfl, fun base _ _ => ok_law F_law Z (cl_mk F_l_at (ok_at F_l_at Z) m_l_at b_l_at) (cl_mk F_l_value (ok_value F_l_value) m_l_value b_l_value) (cl_mk F_less (ok_less F_less Z) m_less b_less) (cl_mk F_l_ahead (ok_ahead F_l_ahead Z) m_l_ahead b_l_ahead)⟩
end K1
open PySem PySem.W PyProof.Rows
set_option maxHeartbeats 0 in
theorem PySem.Challenge.cw_waybook_k01_ahead_holds : PySem.Challenge.rw_waybook_k01_ahead.Holds := by
  w_on; o_law; k_head; (case hw => w_witness2)
  k_fill
  refine L2.walk_of (l := PySem.Challenge.rw_waybook_k01_ahead) (n := 63) (k := 2) (x := "_law_script") (CX := fun _ => L2.CX0) (sp := fun w => K1.spLaw _) rfl (by decide) rfl ⟨rfl, by decide, by decide⟩ (fun w h Y => PySem.W.kIn_of Y) ?F (fun _ _ a ns hl _ hS => ⟨a, ns, rfl, hS, fun _ => rfl⟩) (fun _ _ _ _ _ h => h)
  case F =>
    intro w mg fa h KX G hmg
    refine' K1.all_mk KX G hmg ?a_less ?l_less ?c_less ?k_less ?a_l_at ?l_l_at ?c_l_at ?k_l_at ?a_l_value ?l_l_value ?c_l_value ?k_l_value ?a_l_ahead ?l_l_ahead ?c_l_ahead ?k_l_ahead ?a_law ?l_law ?c_law ?k_law ?z_zip ?z_range ?z_len ?z_min ?z_list ?z_isinstance ?z_bool
    (case a_less => k_is); (case l_less => k_is); (case c_less => k_is); (case k_less => k_is); (case a_l_at => k_is); (case l_l_at => k_is); (case c_l_at => k_is); (case k_l_at => k_is); (case a_l_value => k_is); (case l_l_value => k_is); (case c_l_value => k_is); (case k_l_value => k_is); (case a_l_ahead => k_is); (case l_l_ahead => k_is); (case c_l_ahead => k_is); (case k_l_ahead => k_is); (case a_law => k_is); (case l_law => k_is); (case c_law => k_is); (case k_law => k_is); (case z_zip => k_is); (case z_range => k_is); (case z_len => k_is); (case z_min => k_is); (case z_list => k_is); (case z_isinstance => k_is); (case z_bool => k_is)

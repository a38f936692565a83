import PyProof.Rows.All
import Wide.All
import OpenK.AllK
import Wide.FinOn
import HandS.Base
import HandS.Call
import HandS.List
import HandS.Comp
import HandS.Ends
import HandS.Iter
import HandS.Text
import HandS.Words
import HandS.WordsList
import HandS.Wide
import HandS.WideBits
import HandS.IsInst
import HandS.TupAny
import HandS.Walk
import KE.KStrBytes
import PySem.Challenge.RW_sameshape_k10_rounds
set_option Elab.async false
set_option linter.all false
set_option maxRecDepth 100000
set_option maxHeartbeats 4000000
namespace Ss
open PySem PySem.Spec PyProof.Rows L2
/-! ### a def that stands at a module's name and keeps a promise -/
structure Cl (P : Program) (w : World) (K : PySem.W.Frag) (mg : Str → Option Value) (base : Heap) (k : Nat) (x : Str) (ps : List Str) (sp : Sp) : Prop where
  ex : ∃ f fd, FnOk P w K mg base CX0 k f fd ps sp ∧ mg x = some (.ref f) ∧ PySem.W.keepIn K (.ref f) = true ∧ Binds K fd ps []
theorem pe_cl {X : Cx} {k : Nat} {x : Str} {ps : List Str} {sp : Sp} {p pos : Pos} {e : Expr} {es : List Expr} {t : TA} (C : Cl X.prog X.w X.K X.mg X.base k x ps sp) (hr : Room k X.A) (hg : Gl X x)
    (ha : PA X (e :: es) t) (hdb : (x == ("__debug__" : Str)) = false := by decide) (he : starEach (e :: es) X.env = (false, eval e X.env) :: starEach es X.env := by rfl) (hpl : (backTo pos (starEach es X.env)).any (·.1) = false := by rfl) :
    PE X (.Call (.Name x p) (e :: es) [] pos) (tCall sp [] E0 t) := by
  obtain ⟨f, fd, F, hm, hk, b⟩ := C.ex
  exact pe_call F hr hg hm hk b .nil pass0 ha hdb he hpl
theorem Cl.mono {P : Program} {w : World} {K : PySem.W.Frag} {mg : Str → Option Value} {base : Heap} {j k : Nat} {x : Str} {ps : List Str} {sp : Sp} (C : Cl P w K mg base j x ps sp) (h : j ≤ k) : Cl P w K mg base k x ps sp := by
  obtain ⟨f, fd, F, r⟩ := C.ex
  exact ⟨f, fd, F.mono h, r⟩
theorem Cl.imp {P : Program} {w : World} {K : PySem.W.Frag} {mg : Str → Option Value} {base : Heap} {k : Nat} {x : Str} {ps : List Str} {sp sp' : Sp} (C : Cl P w K mg base k x ps sp) (h : ∀ vs H Q, sp' vs H Q E0 → sp vs H Q E0) (hl : ∀ vs H Q E, sp' vs H Q E → sp' vs H Q E0) : True := trivial
/-! ### heaps -/
theorem same_new {H : Hp} {p : Addr} {o : HO} (h : H p = none) : Same H (upd H p o) := fun b x e => by
  rw [upd_ne (ne_of_none e h)]
  exact e
/-- all that was tracked stays, but what stands at t -/
def Ext (t : Addr) (H H' : Hp) : Prop := ∀ b o, b ≠ t → H b = some o → H' b = some o
theorem Ext.refl (t : Addr) (H : Hp) : Ext t H H := fun _ _ _ h => h
theorem Ext.trans {t : Addr} {H H1 H2 : Hp} (a : Ext t H H1) (b : Ext t H1 H2) : Ext t H H2 := fun c o n h => b c o n (a c o n h)
theorem Ext.of {t : Addr} {H H' : Hp} (h : Same H H') : Ext t H H' := fun b o _ e => h b o e
/-! ### data -/
mutual
inductive At (H : Hp) : V → PyData → Prop
  | non : At H .non .none
  | bl (b : Bool) : At H (.bl b) (.bool b)
  | int (i : Int) : At H (.int i) (.int i)
  | str (x : Str) : At H (.str x) (.str x)
  | tup {a : Addr} {xs : List V} {ds : List PyData} : H a = some (.tup xs) → AtL H xs ds → At H (.ref a) (.tuple ds)
inductive AtL (H : Hp) : List V → List PyData → Prop
  | nil : AtL H [] []
  | cons {v : V} {vs : List V} {d : PyData} {ds : List PyData} : At H v d → AtL H vs ds → AtL H (v :: vs) (d :: ds)
end
mutual
theorem At.tups {H H' : Hp} (h : ∀ b xs, H b = some (.tup xs) → H' b = some (.tup xs)) : ∀ {v : V} {d : PyData}, At H v d → At H' v d
  | _, _, .non => .non
  | _, _, .bl b => .bl b
  | _, _, .int i => .int i
  | _, _, .str x => .str x
  | _, _, .tup e l => .tup (h _ _ e) (AtL.tups h l)
theorem AtL.tups {H H' : Hp} (h : ∀ b xs, H b = some (.tup xs) → H' b = some (.tup xs)) : ∀ {v : List V} {d : List PyData}, AtL H v d → AtL H' v d
  | _, _, .nil => .nil
  | _, _, .cons a l => .cons (At.tups h a) (AtL.tups h l)
end
theorem At.same {H H' : Hp} {v : V} {d : PyData} (h : Same H H') (a : At H v d) : At H' v d := a.tups fun b xs e => h b _ e
theorem AtL.same {H H' : Hp} {v : List V} {d : List PyData} (h : Same H H') (a : AtL H v d) : AtL H' v d := a.tups fun b xs e => h b _ e
/-- the tape stands at t: a list of the script's list at l, two counts, the sum -/
structure Tape (H : Hp) (t l : Addr) : Prop where
  ex : ∃ (ns : List Int) (p n s : Int), H t = some (.lst [.ref l, .int p, .int n, .int s]) ∧ H l = some (.lst (ns.map V.int)) ∧ l ≠ t ∧ 0 ≤ p ∧ 0 ≤ n ∧ 0 ≤ s
theorem Tape.same {H H' : Hp} {t l : Addr} (h : Same H H') (a : Tape H t l) : Tape H' t l := by
  obtain ⟨ns, p, n, s, a1, a2, r⟩ := a.ex
  exact ⟨ns, p, n, s, h _ _ a1, h _ _ a2, r⟩
theorem Tape.fresh {H : Hp} {t l o : Addr} (a : Tape H t l) (h : H o = none) : o ≠ t ∧ o ≠ l := by
  obtain ⟨ns, p, n, s, a1, a2, r⟩ := a.ex
  exact ⟨fun e => (by rw [e, a1] at h; cases h), fun e => (by rw [e, a2] at h; cases h)⟩
theorem Tape.put {H : Hp} {t l o : Addr} {x : HO} (a : Tape H t l) (h : o ≠ t ∧ o ≠ l) : Tape (upd H o x) t l := by
  obtain ⟨ns, p, n, s, a1, a2, r⟩ := a.ex
  exact ⟨ns, p, n, s, (upd_ne h.1.symm).trans a1, (upd_ne h.2.symm).trans a2, r⟩
theorem Ext.free {t o : Addr} {H H' : Hp} (e : Ext t H H') (n : o ≠ t) (h : H' o = none) : H o = none := by
  cases q : H o with
  | none => rfl
  | some x =>
    rw [e o x n q] at h
    cases h
/-- the tape went on, all else that was tracked stands -/
structure Go (t l : Addr) (H H' : Hp) : Prop where
  e : Ext t H H'
  T : Tape H' t l
theorem Go.refl {t l : Addr} {H : Hp} (T : Tape H t l) : Go t l H H := ⟨Ext.refl t H, T⟩
theorem Go.trans {t l : Addr} {H H1 H2 : Hp} (a : Go t l H H1) (b : Go t l H1 H2) : Go t l H H2 := ⟨a.e.trans b.e, b.T⟩
theorem Go.same {t l : Addr} {H H1 H2 : Hp} (a : Go t l H H1) (b : Same H1 H2) : Go t l H H2 := ⟨a.e.trans (Ext.of b), a.T.same b⟩
theorem Go.new {t l p : Addr} {H H1 : Hp} {x : HO} (a : Go t l H H1) (h : H1 p = none) : Go t l H (upd H1 p x) := a.same (same_new h)
/-- an object that is new since H is changed -/
theorem Go.put {t l p : Addr} {H H1 : Hp} {x : HO} (a : Go t l H H1) (h : H p = none) (n : p ≠ t ∧ p ≠ l) : Go t l H (upd H1 p x) :=
  ⟨fun b o bt hb => by rw [upd_ne (fun e => by rw [e, h] at hb; cases hb)]; exact a.e b o bt hb, a.T.put n⟩
theorem Go.free {t l p : Addr} {H H1 : Hp} (a : Go t l H H1) (h : H1 p = none) : H p = none ∧ p ≠ t ∧ p ≠ l :=
  have n := a.T.fresh h
  ⟨a.e.free n.1 h, n⟩
/-- what stands apart from the tape stays -/
theorem Go.at {t l p : Addr} {H H1 : Hp} {x : HO} (a : Go t l H H1) (h : H p = some x) (n : p ≠ t) : H1 p = some x := a.e p x n h
theorem Tape.tup {H H' : Hp} {t l : Addr} (a : Tape H t l) (e : Ext t H H') : ∀ b xs, H b = some (.tup xs) → H' b = some (.tup xs) := fun b xs h => by
  obtain ⟨ns, p, n, s, a1, _⟩ := a.ex
  exact e b _ (ne_of h a1 (by intro z; cases z)) h
theorem At.go {H H' : Hp} {t l : Addr} {v : V} {d : PyData} (a : At H v d) (T : Tape H t l) (g : Go t l H H') : At H' v d := a.tups (T.tup g.e)
theorem AtL.go {H H' : Hp} {t l : Addr} {v : List V} {d : List PyData} (a : AtL H v d) (T : Tape H t l) (g : Go t l H H') : AtL H' v d := a.tups (T.tup g.e)
/-! ### readings, step by step -/
section
variable {σ : L2.St} {H : Hp} {D : Ends} {t u : TS} {te ta tb : TE} {Q : VK} {g : TG} {c : TT} {i j : Int}
theorem w_seq (h : t { D with nx := u D } σ H) : tSeq t u D σ H := h
theorem w_asg (h : te σ H fun x H1 => g x σ H1 D.nx) : tAsg te g D σ H := h
theorem w_next (h : D.nx σ H) : tNext D σ H := h
theorem w_name {n : Nat} {v : V} {R : L2.St → Hp → Prop} (h : R (σ.set n (some v)) H) : gName n v σ H R := h
theorem w_gsub {to ti : TE} {ts : TSet} {v : V} {R : L2.St → Hp → Prop} (h : to σ H fun o H1 => ti σ H1 fun i H2 => ts o i v H2 fun H3 => R σ H3) : gSub to ti ts v σ H R := h
theorem w_ret (h : te σ H D.rt) : tRet te D σ H := h
theorem w_drop (h : te σ H fun _ H1 => D.nx σ H1) : tDrop te D σ H := h
theorem w_ifS (h : c σ H fun b H1 => if b = true then t D σ H1 else u D σ H1) : tIfS c t u D σ H := h
theorem w_op {r : R2} (h : ta σ H fun x H1 => tb σ H1 fun y H2 => r x y H2 Q) : tOp r ta tb σ H Q := h
theorem w_un {r : V → Hp → VK → Prop} (h : ta σ H fun x H1 => r x H1 Q) : tUn r ta σ H Q := h
theorem w_cb {r : List V → Hp → VK → Prop} {tt : TA} (h : tt σ H fun vs H1 => r vs H1 Q) : tCB r tt σ H Q := h
theorem w_call {sp : Sp} {E : XK} {tt : TA} (h : tt σ H fun vs H1 => sp (vs ++ []) H1 Q E) : tCall sp [] E tt σ H Q := h
theorem w_cons {tr : TA} {R : List V → Hp → Prop} (h : ta σ H fun x H1 => tr σ H1 fun xs H2 => R (x :: xs) H2) : tCons ta tr σ H R := h
theorem w_nil {R : List V → Hp → Prop} (h : R [] H) : tNil σ H R := h
theorem w_var {n : Nat} {v : V} (h : σ[n]? = some (some v)) (q : Q v H) : tVar n σ H Q := ⟨v, h, q⟩
theorem w_c {v : V} (q : Q v H) : tC v σ H Q := q
theorem w_test {R : Bool → Hp → Prop} (h : te σ H fun x H' => ∃ k, x = .bl k ∧ R k H') : tTest te σ H R := h
theorem w_B {R : Bool → Hp → Prop} (h : te σ H fun x H' => ∃ k, x = .bl k ∧ R k H') : tB te σ H R := h
theorem w_bl {k : Bool} {R : Bool → Prop} (q : R k) : ∃ k', V.bl k = V.bl k' ∧ R k' := ⟨k, rfl, q⟩
theorem w_not {R : Bool → Hp → Prop} (h : c σ H fun b H1 => R (!b) H1) : tNot c σ H R := h
theorem w_and {d : TT} {R : Bool → Hp → Prop} (h : c σ H fun b H1 => if b = true then d σ H1 R else R false H1) : tAnd c d σ H R := h
theorem w_or {d : TT} {R : Bool → Hp → Prop} (h : c σ H fun b H1 => if b = true then R true H1 else d σ H1 R) : tOr c d σ H R := h
theorem w_andV (h : ta σ H fun x H1 => ∃ c, x = .bl c ∧ if c = true then tb σ H1 Q else Q (.bl false) H1) : tAndV ta tb σ H Q := h
theorem w_orV (h : ta σ H fun x H1 => ∃ c, x = .bl c ∧ if c = true then Q (.bl true) H1 else tb σ H1 Q) : tOrV ta tb σ H Q := h
theorem w_notV (h : ta σ H fun x H1 => ∃ c, x = .bl c ∧ Q (.bl (!c)) H1) : tNotV ta σ H Q := h
theorem w_if (h : c σ H fun b H1 => if b = true then ta σ H1 Q else tb σ H1 Q) : tIf c ta tb σ H Q := h
theorem w_I0 {f : Int → Int → V} (h : Q (f i j) H) : rI0 f (.int i) (.int j) H Q := ⟨i, j, rfl, rfl, h⟩
theorem w_I {C : Int → Int → Prop} {f : Int → Int → V} (hc : C i j) (h : Q (f i j) H) : rI C f (.int i) (.int j) H Q := ⟨i, j, rfl, rfl, hc, h⟩
theorem w_U {f : Int → V} (h : Q (f i) H) : rU f (.int i) H Q := ⟨i, rfl, h⟩
theorem w_eqI (h : Q (.bl (decide (i = j))) H) : rEq (.int i) (.int j) H Q := ⟨rfl, by
  have e : decide (V.int i = V.int j) = decide (i = j) := by
    by_cases q : i = j
    · rw [decide_eq_true q, decide_eq_true (congrArg V.int q)]
    · rw [decide_eq_false q, decide_eq_false fun z => q (V.int.inj z)]
  rw [e]
  exact h⟩
theorem w_neI (h : Q (.bl (!decide (i = j))) H) : rNe (.int i) (.int j) H Q := ⟨rfl, by
  have e : decide (V.int i = V.int j) = decide (i = j) := by
    by_cases q : i = j
    · rw [decide_eq_true q, decide_eq_true (congrArg V.int q)]
    · rw [decide_eq_false q, decide_eq_false fun z => q (V.int.inj z)]
  rw [e]
  exact h⟩
theorem w_neB {a b : Bool} (h : Q (.bl (a != b)) H) : rNe (.bl a) (.bl b) H Q := ⟨rfl, by
  have e : (!decide (V.bl a = V.bl b)) = (a != b) := by cases a <;> cases b <;> rfl
  rw [e]
  exact h⟩
theorem w_eqS {x y : Str} (h : Q (.bl (decide (x = y))) H) : rEq (.str x) (.str y) H Q := ⟨rfl, by
  have e : decide (V.str x = V.str y) = decide (x = y) := by
    by_cases q : x = y
    · rw [decide_eq_true q, decide_eq_true (congrArg V.str q)]
    · rw [decide_eq_false q, decide_eq_false fun z => q (V.str.inj z)]
  rw [e]
  exact h⟩
theorem w_ixL {K : PySem.W.Frag} {p : Addr} {xs : List V} {v : V} (h : SqL K H p xs) (ha : atI xs i = some v) (q : Q v H) : rIxL K (.ref p) (.int i) H Q := ⟨p, xs, i, v, rfl, rfl, h, ha, q⟩
theorem w_ixT {K : PySem.W.Frag} {p : Addr} {xs : List V} {v : V} (h : SqT K H p xs) (ha : atI xs i = some v) (q : Q v H) : rIxT K (.ref p) (.int i) H Q := ⟨p, xs, i, v, rfl, rfl, h, ha, q⟩
theorem w_setL {p : Addr} {xs : List V} {v : V} {n : Nat} {R : Hp → Prop} (h : H p = some (.lst xs)) (ha : ixN xs.length i = some n) (q : R (upd H p (.lst (xs.set n v)))) : rSetL (.ref p) (.int i) v H R := ⟨p, xs, i, n, rfl, rfl, h, ha, q⟩
theorem w_ite {p A B : Prop} [Decidable p] (h1 : p → A) (h2 : ¬ p → B) : if decide p = true then A else B := by
  by_cases h : p
  · rw [decide_eq_true h]
    exact iteT (h1 h)
  · rw [decide_eq_false h]
    exact iteF (h2 h)
theorem w_iteN {p A B : Prop} [Decidable p] (h1 : ¬ p → A) (h2 : p → B) : if (!decide p) = true then A else B := by
  by_cases h : p
  · rw [decide_eq_true h]
    exact iteF (h2 h)
  · rw [decide_eq_false h]
    exact iteT (h1 h)
theorem w_int1 (h : Q (.int i) H) : (∃ i', [V.int i] = [V.int i'] ∧ Q (.int i') H) ∨ ∃ k, [V.int i] = [V.bl k] ∧ Q (.int (if k then 1 else 0)) H := .inl ⟨i, rfl, h⟩
theorem w_intB {k : Bool} (h : Q (.int (if k then 1 else 0)) H) : (∃ i', [V.bl k] = [V.int i'] ∧ Q (.int i') H) ∨ ∃ k', [V.bl k] = [V.bl k'] ∧ Q (.int (if k' then 1 else 0)) H := .inr ⟨k, rfl, h⟩
theorem w_abs (h : Q (.int (if i < 0 then -i else i)) H) : ∃ i', [V.int i] = [V.int i'] ∧ Q (.int (if i' < 0 then -i' else i')) H := ⟨i, rfl, h⟩
theorem w_max2 (h : Q (.int (if j > i then j else i)) H) : ∃ i' j', [V.int i, V.int j] = [V.int i', V.int j'] ∧ Q (.int (if j' > i' then j' else i')) H := ⟨i, j, rfl, h⟩
theorem w_min2 (h : Q (.int (if j < i then j else i)) H) : ∃ i' j', [V.int i, V.int j] = [V.int i', V.int j'] ∧ Q (.int (if j' < i' then j' else i')) H := ⟨i, j, rfl, h⟩
theorem w_lenL {K : PySem.W.Frag} {p : Addr} {xs : List V} (h : SqL K H p xs) (q : Q (.int xs.length) H) : ∃ p' ys, [V.ref p] = [V.ref p'] ∧ (SqL K H p' ys ∨ SqT K H p' ys) ∧ Q (.int ys.length) H := ⟨p, xs, rfl, .inl h, q⟩
theorem w_lenT {K : PySem.W.Frag} {p : Addr} {xs : List V} (h : SqT K H p xs) (q : Q (.int xs.length) H) : ∃ p' ys, [V.ref p] = [V.ref p'] ∧ (SqL K H p' ys ∨ SqT K H p' ys) ∧ Q (.int ys.length) H := ⟨p, xs, rfl, .inr h, q⟩
theorem w_tup {tt : TA} (h : tt σ H fun xs H1 => xs.length ≤ sizeLine ∧ ∀ p, H1 p = none → Q (.ref p) (upd H1 p (.tup xs))) : tTup tt σ H Q := h
theorem w_lst {tt : TA} (h : tt σ H fun xs H1 => xs.length ≤ sizeLine ∧ ∀ p, H1 p = none → Q (.ref p) (upd H1 p (.lst xs))) : tLst tt σ H Q := h
end
section
variable {K : PySem.W.Frag}
theorem fm {a b : Int} (h : 0 < b) : 0 ≤ a.fmod b ∧ a.fmod b < b := ⟨Int.fmod_nonneg_of_pos a h, Int.fmod_lt_of_pos a h⟩
theorem ext_upd {H : Hp} {t : Addr} {o : HO} : Ext t H (upd H t o) := fun b u n e => by
  rw [upd_ne n]
  exact e
theorem w_for {σ : L2.St} {H : Hp} {D : Ends} {wi : TI} {g : TG} {tb : TS} (h : wi σ H fun J H1 => ∃ W : Nat → Nat → L2.St → Hp → Prop, (∃ m, W 0 m σ H1) ∧ ∀ i m σ H, W i m σ H →
      (J.stop i H ∧ D.nx σ H) ∨ (J.go i H ∧ ∃ N : L2.St → Hp → Prop, (∀ σ' H', N σ' H' → ∃ m', m' < m ∧ W (i + 1) m' σ' H') ∧ ∀ x H', J.yld i H x H' → g x σ H' fun σ2 H2 => tb { D with nx := N, ct := N, bk := D.nx } σ2 H2)) : tFor wi g tb D σ H := h
theorem q_iteT {A B : Prop} {d : Decidable (true = true)} (h : A) : @ite Prop (true = true) d A B := by rw [if_pos rfl]; exact h
theorem q_iteF {A B : Prop} {d : Decidable (false = true)} (h : B) : @ite Prop (false = true) d A B := by rw [if_neg Bool.false_ne_true]; exact h
theorem q_iteNT {A B : Prop} {d : Decidable ((!true) = true)} (h : B) : @ite Prop ((!true) = true) d A B := by rw [if_neg (show ¬ ((!true) = true) from Bool.false_ne_true)]; exact h
theorem q_iteNF {A B : Prop} {d : Decidable ((!false) = true)} (h : A) : @ite Prop ((!false) = true) d A B := by rw [if_pos (show (!false) = true from rfl)]; exact h
theorem w_break {σ : L2.St} {H : Hp} {D : Ends} (h : D.bk σ H) : tBreak D σ H := h
theorem w_cont {σ : L2.St} {H : Hp} {D : Ends} (h : D.ct σ H) : tCont D σ H := h
theorem w_bits {σ : L2.St} {H : Hp} {to : TE} {Q : VK} (h : to σ H fun x H1 => ∃ i, x = .int i ∧ Q (.int (Builtin.Int.intBits i : Nat)) H1) : tBits to σ H Q := h
theorem w_rng1 {σ : L2.St} {H : Hp} {ta : TA} {R : It → Hp → Prop} (h : ta σ H fun vs H1 => ∃ j : Int, vs = [.int j] ∧ -(2 ^ 62) ≤ j ∧ j < 2 ^ 62 ∧ R (Itr 0 j.toNat) H1) : iRng1 ta σ H R := h
theorem w_rng2 {σ : L2.St} {H : Hp} {ta : TA} {R : It → Hp → Prop} (h : ta σ H fun vs H1 => ∃ i j : Int, vs = [.int i, .int j] ∧ (-(2 ^ 62) ≤ i ∧ i < 2 ^ 62 ∧ -(2 ^ 62) ≤ j ∧ j < 2 ^ 62) ∧ R (Itr i (j - i).toNat) H1) : iRng2 ta σ H R := h
theorem w_itl {σ : L2.St} {H : Hp} {tl : TE} {R : It → Hp → Prop} (h : tl σ H fun x H1 => ∃ a, x = .ref a ∧ (∃ xs, SqL K H1 a xs) ∧ R (Itl K a) H1) : iList K tl σ H R := h
theorem w_itt {σ : L2.St} {H : Hp} {tl : TE} {R : It → Hp → Prop} (h : tl σ H fun x H1 => ∃ a, x = .ref a ∧ (∃ xs, SqT K H1 a xs) ∧ R (Itt K a) H1) : iTup K tl σ H R := h
theorem hu64 {A : Around} {k : Nat} (hr : Room k A) : A.units + 64 < cLine := by
  have := hr.un
  omega
theorem at_ofN {α : Type} {xs : List α} {z : Int} {j : Nat} {v : α} (e : z = (j : Int)) (h : xs[j]? = some v) : atI xs z = some v := by
  rw [e]
  exact atI_nat h
theorem szle {n : Nat} (h : n ≤ 100000) : n ≤ sizeLine := Nat.le_trans h (by decide)
theorem szlt {n : Nat} (h : n < 100000) : n < sizeLine := Nat.lt_of_lt_of_le h (by decide)
section
variable {σ : L2.St} {H : Hp} {te : TE} {tl th : TO} {Q : VK}
theorem w_sl {r : V → Option Int → Option Int → Hp → VK → Prop} (h : te σ H fun x H1 => tl σ H1 fun l H2 => th σ H2 fun u H3 => r x l u H3 Q) : tSl r te tl th σ H Q := h
theorem w_part {R : Option Int → Hp → Prop} (h : te σ H fun x H1 => ∃ i, x = .int i ∧ R (some i) H1) : tPart te σ H R := h
theorem w_nopart {R : Option Int → Hp → Prop} (h : R none H) : tNoPart σ H R := h
theorem w_bm {T : String} {r : V → List V → Hp → VK → Prop} {t : TA} (h : te σ H fun x H1 => tyV K T x H1 ∧ t σ H1 fun xs H2 => r x xs H2 Q) : tBM K T r te t σ H Q := h
theorem w_append {l : Addr} {xs : List V} {v : V} (h : H l = some (.lst xs)) (hz : xs.length < sizeLine) (q : Q .non (upd H l (.lst (xs ++ [v])))) : rAppend (.ref l) [v] H Q := ⟨l, xs, v, rfl, rfl, h, hz, q⟩
theorem w_yes {R : Bool → Hp → Prop} (h : R true H) : tYes σ H R := h
theorem w_lc {wi : TI} {g : TG} {tt : TT} {vs : List Nat} (h : wi σ H fun J H1 => ∀ D, H1 D = none → ∃ W : Nat → Nat → Hp → Prop, (∃ m, W 0 m (upd H1 D (.lst []))) ∧ ∀ i m H, W i m H →
  (J.stop i H ∧ Q (.ref D) H) ∨ (J.go i H ∧ ∃ Nx : Hp → Prop, (∀ H', Nx H' → ∃ m', m' < m ∧ W (i + 1) m' H') ∧ ∀ x H', J.yld i H x H' → g x (wipe σ vs) H' fun σ2 H2 => wipe σ2 vs = wipe σ vs ∧ tt σ2 H2 fun b H3 =>
    if b = true then te σ2 H3 fun y H4 => ∃ acc, H4 D = some (.lst acc) ∧ acc.length < sizeLine ∧ Nx (upd H4 D (.lst (acc ++ [y]))) else Nx H3)) : tLc wi g tt te vs σ H Q := h
theorem cut_to (xs : List V) (n : Nat) : cutV xs none (some (n : Int)) = xs.take n := by
  unfold cutV
  rw [HT.sIx_none, show HT.sIx xs.length xs.length (some (n : Int)) = min n xs.length from HT.sIx_nat xs.length xs.length n]
  rw [List.drop_zero, Nat.sub_zero]
  by_cases h : n ≤ xs.length
  · rw [Nat.min_eq_left h]
  · rw [Nat.min_eq_right (by omega), List.take_of_length_le (Nat.le_refl _), List.take_of_length_le (by omega)]
theorem cut_from (xs : List V) (n : Nat) : cutV xs (some (n : Int)) none = xs.drop n := by
  unfold cutV
  rw [HT.sIx_none, show HT.sIx xs.length 0 (some (n : Int)) = min n xs.length from HT.sIx_nat xs.length 0 n]
  by_cases h : n ≤ xs.length
  · rw [Nat.min_eq_left h, List.take_of_length_le (by rw [List.length_drop]; exact Nat.le_refl _)]
  · rw [Nat.min_eq_right (by omega), List.drop_of_length_le (Nat.le_refl _), List.drop_of_length_le (by omega), List.take_nil]
theorem cut_both (xs : List V) (m n : Nat) : cutV xs (some (m : Int)) (some (n : Int)) = (xs.take n).drop m := by
  unfold cutV
  rw [show HT.sIx xs.length 0 (some (m : Int)) = min m xs.length from HT.sIx_nat xs.length 0 m, show HT.sIx xs.length xs.length (some (n : Int)) = min n xs.length from HT.sIx_nat xs.length xs.length n]
  rw [List.drop_take]
  by_cases g : n ≤ xs.length
  · rw [Nat.min_eq_left g]
    by_cases h : m ≤ xs.length
    · rw [Nat.min_eq_left h]
    · rw [Nat.min_eq_right (by omega), List.drop_of_length_le (Nat.le_refl _), List.drop_of_length_le (by omega), List.take_nil, List.take_nil]
  · rw [Nat.min_eq_right (show xs.length ≤ n by omega)]
    by_cases h : m ≤ xs.length
    · rw [Nat.min_eq_left h, List.take_of_length_le (by rw [List.length_drop]; exact Nat.le_refl _), List.take_of_length_le (by rw [List.length_drop]; omega)]
    · rw [Nat.min_eq_right (by omega), List.drop_of_length_le (Nat.le_refl _), List.drop_of_length_le (by omega), List.take_nil, List.take_nil]
end
theorem w_slA {H : Hp} {Q : VK} {a : Addr} {xs : List V} {lo hi : Option Int} (hx : H a = some (.tup xs)) (q : ∀ (p : Addr) (H' : Hp), Same H H' → H' p = some (.tup (cutV xs lo hi)) → Q (.ref p) H') : rSlA K (.ref a) lo hi H Q := by
  refine ⟨a, xs, rfl, .of hx, fun h => q a H (Same.refl H) ?_, fun _ p np => q p _ (same_new np) upd_same⟩
  have e : cutV xs lo hi = xs := by
    unfold cutV
    rw [h.1, h.2, List.drop_zero, Nat.sub_zero, List.take_length]
  rw [e]
  exact hx
theorem at_cut (xs : List V) (j : Nat) : cutV xs (some (j : Int)) (some ((j + 1 : Nat) : Int)) = (xs[j]?).toList := by
  rw [cut_both, List.drop_take, Nat.add_sub_cancel_left]
  by_cases h : j < xs.length
  · rw [List.drop_eq_getElem_cons h, List.getElem?_eq_getElem h]
    rfl
  · rw [List.drop_of_length_le (by omega), List.getElem?_eq_none (by omega)]
    rfl
theorem w_ixAny {H : Hp} {Q : VK} {p : Addr} {xs : List V} {r : Int} (P : V → Prop) (h : SqL K H p xs) (r0 : 0 ≤ r) (r1 : r < xs.length) (hp : ∀ v ∈ xs, P v) (q : ∀ v, P v → Q v H) : rIxL K (.ref p) (.int r) H Q := by
  have hr : r.toNat < xs.length := by omega
  refine w_ixL (v := xs[r.toNat]) h (at_of (j := r.toNat) (by omega) (List.getElem?_eq_getElem hr)) (q _ (hp _ (List.getElem_mem hr)))
theorem w_ixS {H : Hp} {Q : VK} {z : Str} {r : Int} (P : Nat → Prop) (hz : z.length ≤ sizeLine) (r0 : 0 ≤ r) (r1 : r < z.cps.toList.length) (hp : ∀ c ∈ z.cps.toList, P c) (q : ∀ c, P c → Q (.str ⟨#[c]⟩) H) : rIxS (.str z) (.int r) H Q := by
  have hr : r.toNat < z.cps.toList.length := by omega
  exact ⟨z, r, z.cps.toList[r.toNat], rfl, rfl, hz, at_ofN (j := r.toNat) (by omega) (List.getElem?_eq_getElem hr), q _ (hp _ (List.getElem_mem hr))⟩
theorem w_catA {H : Hp} {Q : VK} {a b : Addr} {xs ys : List V} (ha : H a = some (.tup xs)) (hb : H b = some (.tup ys)) (hl : xs.length + ys.length ≤ 100000) (q : ∀ (p : Addr) (H' : Hp), Same H H' → H' p = some (.tup (xs ++ ys)) → Q (.ref p) H') : rCatA K (.ref a) (.ref b) H Q :=
  ⟨a, b, xs, ys, rfl, rfl, .of ha, .of hb, szle hl, fun e => q b H (Same.refl H) (by rw [e]; exact hb), fun _ e => q a H (Same.refl H) (by rw [e, List.append_nil]; exact ha), fun _ _ p np => q p _ (same_new np) upd_same⟩
theorem w_cat {H : Hp} {Q : VK} {a b : Addr} {xs ys : List V} (ha : H a = some (.lst xs)) (hb : H b = some (.lst ys)) (hl : xs.length + ys.length ≤ 100000) (q : ∀ (p : Addr) (H' : Hp), H p = none → Same H H' → H' p = some (.lst (xs ++ ys)) → Q (.ref p) H') : rCat (.ref a) (.ref b) H Q :=
  ⟨a, b, xs, ys, rfl, rfl, ha, hb, szle hl, fun p np => q p _ np (same_new np) upd_same⟩
theorem w_while {σ : L2.St} {H : Hp} {D : Ends} {c : TT} {tb : TS} (h : ∃ W : Nat → L2.St → Hp → Prop, (∃ m, W m σ H) ∧ ∀ m σ H, W m σ H →
  c σ H fun b H1 => if b = true then ∃ N : L2.St → Hp → Prop, (∀ σ' H', N σ' H' → ∃ m', m' < m ∧ W m' σ' H') ∧ tb { D with nx := N, ct := N, bk := D.nx } σ H1 else D.nx σ H1) : tWhile c tb D σ H := h
theorem w_par {σ : L2.St} {H : Hp} {D : Ends} {i j : Nat} {ta : TA} (h : ta σ H fun vs H1 => ∃ v w, vs = [v, w] ∧ D.nx ((σ.set i (some v)).set j (some w)) H1) : tPar i j ta D σ H := h
theorem w_irev {σ : L2.St} {H : Hp} {ta : TA} {R : It → Hp → Prop} (h : ta σ H fun vs H1 => ∃ (a : Addr) (xs : List V), vs = [.ref a] ∧ SqL K H1 a xs ∧ R (Itv K a xs.length) H1) : iRev K ta σ H R := h
theorem w_its {σ : L2.St} {H : Hp} {tl : TE} {R : It → Hp → Prop} (h : tl σ H fun x H1 => ∃ z, x = .str z ∧ R (Its z) H1) : iStr tl σ H R := h
/-- how deep data is -/
inductive Dep : Nat → PyData → Prop
  | non (n : Nat) : Dep n .none
  | bl (n : Nat) (b : Bool) : Dep n (.bool b)
  | int (n : Nat) (i : Int) : Dep n (.int i)
  | str (n : Nat) (x : Str) : Dep n (.str x)
  | tup {n : Nat} {ds : List PyData} (hl : ds.length ≤ 1000000) (h : ∀ d ∈ ds, Dep n d) : Dep (n + 1) (.tuple ds)
theorem Dep.mono {n : Nat} {d : PyData} (h : Dep n d) : ∀ {m : Nat}, n ≤ m → Dep m d := by
  induction h with
  | non n => exact fun _ => .non _
  | bl n b => exact fun _ => .bl _ _
  | int n i => exact fun _ => .int _ _
  | str n x => exact fun _ => .str _ _
  | tup hl h ih =>
    intro m hm
    cases m with
    | zero => omega
    | succ m => exact .tup hl fun d hd => ih d hd (by omega)
theorem AtL.len {H : Hp} : ∀ {vs : List V} {ds : List PyData}, AtL H vs ds → vs.length = ds.length
  | _, _, .nil => rfl
  | _, _, .cons _ l => congrArg (· + 1) l.len
theorem AtL.get {H : Hp} : ∀ {vs : List V} {ds : List PyData} {i : Nat} {d : PyData}, AtL H vs ds → ds[i]? = some d → ∃ v, vs[i]? = some v ∧ At H v d
  | _, _, _, _, .nil, h => by simp at h
  | _, _, 0, d, .cons (d := e) a _, h => by
    have q : e = d := by simpa using h
    subst q
    exact ⟨_, rfl, a⟩
  | _, _, i + 1, d, .cons _ l, h => by
    obtain ⟨v, h1, h2⟩ := AtL.get (i := i) (d := d) l (by simpa using h)
    exact ⟨v, by simpa using h1, h2⟩
theorem w_isi {H : Hp} {Q : VK} {x : V} {a : String} {n : String} (ty : TyX K H x (.type a)) (b : Bool) (h : kitB a n = some b) (q : Q (.bl b) H) : rIsi K [x, .ty n] H Q := ⟨x, .ty n, .type a, .type n, b, rfl, .ty n, ty, kit_ty h, q⟩
end
/-- what stands at an address -/
local macro_rules | `(tactic| walk_at "hp") => `(tactic| first | assumption | exact upd_same | ((refine (upd_ne ?hn).trans ?hr); (case hn => first | assumption | (apply Ne.symm; assumption) | fail "hp"); (case hr => walk_at "hp")) | fail "hp")
local macro_rules | `(tactic| walk_at "ix") => `(tactic| first | assumption | exact atI_nat (j := 0) rfl | exact atI_nat (j := 1) rfl | exact atI_nat (j := 2) rfl | exact atI_nat (j := 3) rfl | exact atI_nat (j := 4) rfl | fail "ix")
local macro_rules | `(tactic| walk_at "ixn") => `(tactic| first | assumption | exact rfl | fail "ixn")
/-- one step of a reading that asks nothing -/
local macro_rules | `(tactic| walk_at "w1") => `(tactic| first
  | with_reducible refine w_seq ?_ | with_reducible refine w_asg ?_ | with_reducible refine w_name ?_ | with_reducible refine w_gsub ?_ | with_reducible refine w_ret ?_ | with_reducible refine w_ifS ?_ | with_reducible refine w_next ?_ | with_reducible refine w_drop ?_
  | with_reducible refine w_op ?_ | with_reducible refine w_un ?_ | with_reducible refine w_cb ?_ | with_reducible refine w_call ?_ | with_reducible refine w_cons ?_ | with_reducible refine w_nil ?_
  | ((with_reducible refine' w_var ?hv ?_); (case hv => exact rfl)) | with_reducible refine w_c ?_ | with_reducible refine w_test ?_ | with_reducible refine w_B ?_ | with_reducible refine w_bl ?_
  | with_reducible refine w_not ?_ | with_reducible refine w_and ?_ | with_reducible refine w_or ?_ | with_reducible refine w_andV ?_ | with_reducible refine w_orV ?_ | with_reducible refine w_notV ?_ | with_reducible refine w_if ?_
  | with_reducible refine w_I0 ?_ | with_reducible refine w_U ?_ | with_reducible refine w_eqI ?_ | with_reducible refine w_neI ?_ | with_reducible refine w_neB ?_ | with_reducible refine w_eqS ?_
  | ((with_reducible refine w_I ?hc ?_); (case hc => first | exact Or.inr (by decide) | exact ⟨by decide, by decide, by decide⟩ | exact ⟨by decide, by decide⟩ | decide | assumption | (show _ ≠ _; omega) | (unfold CMul; omega)))
  | ((with_reducible show (∃ i, [V.int _] = [V.int i] ∧ _) ∨ _); refine .inl ⟨_, rfl, ?_⟩; try dsimp -proj -iota -zeta -eta only)
  | ((with_reducible show _ ∨ (∃ i, [V.bl _] = [V.bl i] ∧ _)); refine .inr ⟨_, rfl, ?_⟩; try dsimp -proj -iota -zeta -eta only)
  | ((with_reducible show (∃ i, [V.int _] = [V.int i] ∧ _)); refine ⟨_, rfl, ?_⟩; try dsimp -proj -iota -zeta -eta only)
  | ((with_reducible show (∃ i j, [V.int _, V.int _] = [V.int i, V.int j] ∧ _)); refine ⟨_, _, rfl, ?_⟩; try dsimp -proj -iota -zeta -eta only)
  | ((with_reducible refine' w_ixL ?hl ?ha ?_); (case hl => exact SqL.of (by walk_at "hp")); (case ha => walk_at "ix"))
  | ((with_reducible refine' w_ixT ?hl ?ha ?_); (case hl => exact SqT.of (by walk_at "hp")); (case ha => walk_at "ix"))
  | ((with_reducible refine' w_setL ?hl ?ha ?_); (case hl => walk_at "hp"); (case ha => walk_at "ixn"))
  | ((with_reducible show (∃ p ys, [V.ref _] = [V.ref p] ∧ (SqL _ _ p ys ∨ SqT _ _ p ys) ∧ _)); (first | refine ⟨_, _, rfl, .inl (.of (by walk_at "hp")), ?_⟩ | refine ⟨_, _, rfl, .inr (.of (by walk_at "hp")), ?_⟩); try dsimp -proj -iota -zeta -eta only)
  | with_reducible refine q_iteT ?_ | with_reducible refine q_iteF ?_ | with_reducible refine q_iteNT ?_ | with_reducible refine q_iteNF ?_
  | ((with_reducible show (∃ k, TruV _ (V.bl _) _ k ∧ _)); refine ⟨_, rfl, ?_⟩; try dsimp -proj -iota -zeta -eta only)
  | with_reducible refine w_while ?_ | with_reducible refine w_par ?_
  | with_reducible refine w_its ?_ | with_reducible refine w_irev ?_
  | ((with_reducible show (∃ i, V.str _ = V.str i ∧ _)); refine ⟨_, rfl, ?_⟩; try dsimp -proj -iota -zeta -eta only)
  | ((with_reducible show (∃ i, [V.str _] = [V.str i] ∧ _)); refine ⟨_, rfl, ?_⟩; try dsimp -proj -iota -zeta -eta only)
  | with_reducible refine w_break ?_ | with_reducible refine w_cont ?_ | with_reducible refine w_bits ?_
  | ((with_reducible show (∃ i, V.int _ = V.int i ∧ _)); refine ⟨_, rfl, ?_⟩; try dsimp -proj -iota -zeta -eta only)
  | with_reducible refine w_for ?_ | with_reducible refine w_rng1 ?_ | with_reducible refine w_rng2 ?_ | with_reducible refine w_itl ?_ | with_reducible refine w_itt ?_
  | ((with_reducible show (∃ a, V.ref _ = V.ref a ∧ (∃ xs, SqL _ _ a xs) ∧ _)); refine ⟨_, rfl, ⟨_, .of (by walk_at "hp")⟩, ?_⟩; try dsimp -proj -iota -zeta -eta only)
  | with_reducible refine w_sl ?_ | with_reducible refine w_part ?_ | with_reducible refine w_nopart ?_ | with_reducible refine w_bm ?_ | with_reducible refine w_yes ?_ | with_reducible refine w_lc ?_
  | ((with_reducible show tyV _ "list" (V.ref _) _ ∧ _); refine ⟨.inl ⟨rfl, _, .of (by walk_at "hp")⟩, ?_⟩)
  | ((with_reducible refine' w_append ?hl ?hz ?_); (case hl => walk_at "hp"); (case hz => first | assumption | exact szlt (by simp only [List.length_append, List.length_map, List.length_cons, List.length_nil, List.length_take, List.length_replicate] <;> omega)))
  | ((with_reducible show (∃ p ys, [V.ref _] = [V.ref p] ∧ ((SqL _ _ p ys ∧ _) ∨ (SqT _ _ p ys ∧ _)))); refine ⟨_, _, rfl, .inl ⟨.of (by walk_at "hp"), ?_⟩⟩; try dsimp -proj -iota -zeta -eta only)
  | with_reducible refine w_tup ?_ | with_reducible refine w_lst ?_ | fail "w1")
local macro_rules | `(tactic| walk_at "wp") => `(tactic| repeat walk_at "w1")
local macro_rules | `(tactic| walk_at "wi") => `(tactic| repeat ((fail_if_success (with_reducible show tIfS _ _ _ _ _ _)); walk_at "w1"))
/-! ### bits -/
namespace Bm
open PySem
/-- the lowest bit in which two numbers differ -/
def LowAt (p a b : Nat) : Prop := (∀ j, j < p → a.testBit j = b.testBit j) ∧ a.testBit p ≠ b.testBit p
theorem LowAt.uniq {p q a b : Nat} (h : LowAt p a b) (g : LowAt q a b) : p = q := by
  rcases Nat.lt_trichotomy p q with z | z | z
  · exact absurd (g.1 p z) h.2
  · exact z
  · exact absurd (h.1 q z) g.2
theorem low_ex : ∀ (f a b : Nat), a ≠ b → a < 2 ^ f → b < 2 ^ f → ∃ p, p < f ∧ LowAt p a b
  | 0, a, b, n, ha, hb => by
    have : a = 0 := by simpa using ha
    have : b = 0 := by simpa using hb
    omega
  | f + 1, a, b, n, ha, hb => by
    by_cases e : a % 2 = b % 2
    · have n2 : a / 2 ≠ b / 2 := by omega
      have ha2 : a / 2 < 2 ^ f := by rw [Nat.pow_succ] at ha; omega
      have hb2 : b / 2 < 2 ^ f := by rw [Nat.pow_succ] at hb; omega
      obtain ⟨p, hp, l1, l2⟩ := low_ex f (a / 2) (b / 2) n2 ha2 hb2
      refine ⟨p + 1, by omega, fun j hj => ?_, ?_⟩
      · cases j with
        | zero => rw [Nat.testBit_zero, Nat.testBit_zero, e]
        | succ j => rw [Nat.testBit_succ, Nat.testBit_succ]; exact l1 j (by omega)
      · rw [Nat.testBit_succ, Nat.testBit_succ]; exact l2
    · refine ⟨0, by omega, fun j hj => absurd hj (by omega), ?_⟩
      rw [Nat.testBit_zero, Nat.testBit_zero]
      intro z
      have := decide_eq_decide.mp z
      omega
theorem LowAt.ne {p a b : Nat} (h : LowAt p a b) : a ≠ b := fun e => h.2 (by rw [e])
/-- halving both -/
theorem LowAt.half {p a b : Nat} (h : LowAt (p + 1) a b) : a % 2 = b % 2 ∧ LowAt p (a / 2) (b / 2) := by
  refine ⟨?_, fun j hj => ?_, ?_⟩
  · have := h.1 0 (by omega)
    rw [Nat.testBit_zero, Nat.testBit_zero] at this
    have := decide_eq_decide.mp this
    omega
  · have := h.1 (j + 1) (by omega)
    rwa [Nat.testBit_succ, Nat.testBit_succ] at this
  · have := h.2
    rwa [Nat.testBit_succ, Nat.testBit_succ] at this
theorem LowAt.zero {a b : Nat} (h : LowAt 0 a b) : a % 2 ≠ b % 2 := fun e => h.2 (by rw [Nat.testBit_zero, Nat.testBit_zero, e])
theorem tb_mod {b p : Nat} : (b.testBit p).toNat = b / 2 ^ p % 2 := by
  rw [Nat.testBit_eq_decide_div_mod_eq]
  by_cases h : b / 2 ^ p % 2 = 1
  · rw [decide_eq_true h, h]; rfl
  · rw [decide_eq_false h]
    have : b / 2 ^ p % 2 = 0 := by omega
    rw [this]; rfl
/-- the lowest set bit alone -/
theorem low_and : ∀ (p d : Nat), (∀ j, j < p → d.testBit j = false) → d.testBit p = true → d &&& (d - 1) = d - 2 ^ p ∧ 2 ^ p ≤ d
  | 0, d, _, h => by
    rw [Nat.testBit_zero] at h
    have h1 : d % 2 = 1 := of_decide_eq_true h
    refine ⟨?_, by show 1 ≤ d; omega⟩
    have e1 : (d &&& (d - 1)) / 2 = d / 2 := by
      rw [Nat.and_div_two]
      have : (d - 1) / 2 = d / 2 := by omega
      rw [this, Nat.and_self]
    have e2 : (d &&& (d - 1)) % 2 = 0 := by
      have := Nat.testBit_and d (d - 1) 0
      rw [Nat.testBit_zero, Nat.testBit_zero, Nat.testBit_zero] at this
      have e : decide ((d - 1) % 2 = 1) = false := decide_eq_false (by omega)
      rw [e, Bool.and_false] at this
      have := of_decide_eq_false this
      omega
    show d &&& (d - 1) = d - 1
    omega
  | p + 1, d, hz, h => by
    have h0 := hz 0 (by omega)
    rw [Nat.testBit_zero] at h0
    have d2 : d % 2 = 0 := by
      have := of_decide_eq_false h0
      omega
    obtain ⟨e, l⟩ := low_and p (d / 2) (fun j hj => by have := hz (j + 1) (by omega); rwa [Nat.testBit_succ] at this) (by rwa [Nat.testBit_succ] at h)
    have dp : 0 < d := by
      have := Nat.pow_pos (n := p) (show 0 < 2 by decide)
      omega
    have e1 : (d &&& (d - 1)) / 2 = d / 2 - 2 ^ p := by
      rw [Nat.and_div_two]
      have : (d - 1) / 2 = d / 2 - 1 := by omega
      rw [this, e]
    have e2 : (d &&& (d - 1)) % 2 = 0 := by
      have := Nat.testBit_and d (d - 1) 0
      rw [Nat.testBit_zero, Nat.testBit_zero, Nat.testBit_zero] at this
      have e : decide (d % 2 = 1) = false := decide_eq_false (by omega)
      rw [e, Bool.false_and] at this
      have := of_decide_eq_false this
      omega
    rw [Nat.pow_succ]
    omega
theorem xor_low {p a b : Nat} (h : LowAt p a b) : (∀ j, j < p → (a ^^^ b).testBit j = false) ∧ (a ^^^ b).testBit p = true := by
  refine ⟨fun j hj => ?_, ?_⟩
  · rw [Nat.testBit_xor, h.1 j hj, Bool.xor_self]
  · rw [Nat.testBit_xor]
    have := h.2
    revert this
    cases a.testBit p <;> cases b.testBit p <;> simp
theorem bx (a b : Nat) : Builtin.bitXor (a : Int) (b : Int) = ((a ^^^ b : Nat) : Int) := by
  rw [PyProof.Rows.bitXor_and, PyProof.Rows.bitAnd_pp (Int.natCast_nonneg a) (Int.natCast_nonneg b), Int.toNat_natCast, Int.toNat_natCast]
  have := Bits.nat_xor_add_and a b
  omega
theorem band_neg {p d : Nat} (h1 : ∀ j, j < p → d.testBit j = false) (h2 : d.testBit p = true) : Builtin.bitAnd (d : Int) (-(d : Int)) = ((2 ^ p : Nat) : Int) := by
  obtain ⟨e, l⟩ := low_and p d h1 h2
  have dp : 0 < 2 ^ p := Nat.two_pow_pos p
  rw [PyProof.Rows.bitAnd_pn (Int.natCast_nonneg d) (by omega)]
  have e2 : (Builtin.bitNot (-(d : Int))).toNat = d - 1 := by
    unfold Builtin.bitNot
    omega
  rw [e2, Int.toNat_natCast, e]
  omega
theorem bits_le {n p : Nat} (h : 2 ^ p ≤ n) : p + 1 ≤ Builtin.Int.intBits (n : Int) := by
  apply Nat.lt_of_not_le
  intro z
  have := intBits_le_iff.mp z
  rw [Int.natAbs_natCast] at this
  omega
theorem bits_pow (p : Nat) : Builtin.Int.intBits ((2 ^ p : Nat) : Int) = p + 1 := by
  refine Nat.le_antisymm (intBits_le_iff.mpr ?_) (bits_le (Nat.le_refl _))
  rw [Int.natAbs_natCast]
  exact Nat.pow_lt_pow_right (by decide) (by omega)
theorem tb_le {n p : Nat} (h : n.testBit p = true) : 2 ^ p ≤ n := Nat.ge_two_pow_of_testBit h
theorem LowAt.lt {p f a b : Nat} (h : LowAt p a b) (ha : a < 2 ^ f) (hb : b < 2 ^ f) : p < f := by
  apply Nat.lt_of_not_le
  intro z
  have z2 : 2 ^ f ≤ 2 ^ p := Nat.pow_le_pow_right (by decide) z
  apply h.2
  rw [Nat.testBit_lt_two_pow (by omega : a < 2 ^ p), Nat.testBit_lt_two_pow (by omega : b < 2 ^ p)]
end Bm
namespace Bm
open PySem
/-- the lowest place where two numbers differ -/
def lowp : Nat → Nat → Nat → Nat
  | 0, _, _ => 0
  | f + 1, a, b => if a % 2 = b % 2 then lowp f (a / 2) (b / 2) + 1 else 0
theorem lowp_at : ∀ (f a b : Nat), a ≠ b → a < 2 ^ f → b < 2 ^ f → LowAt (lowp f a b) a b
  | 0, a, b, n, ha, hb => by
    have : a = 0 := by simpa using ha
    have : b = 0 := by simpa using hb
    omega
  | f + 1, a, b, n, ha, hb => by
    unfold lowp
    by_cases e : a % 2 = b % 2
    · rw [if_pos e]
      have ha2 : a / 2 < 2 ^ f := by rw [Nat.pow_succ] at ha; omega
      have hb2 : b / 2 < 2 ^ f := by rw [Nat.pow_succ] at hb; omega
      obtain ⟨l1, l2⟩ := lowp_at f (a / 2) (b / 2) (by omega) ha2 hb2
      refine ⟨fun j hj => ?_, ?_⟩
      · cases j with
        | zero => rw [Nat.testBit_zero, Nat.testBit_zero, e]
        | succ j => rw [Nat.testBit_succ, Nat.testBit_succ]; exact l1 j (by omega)
      · rw [Nat.testBit_succ, Nat.testBit_succ]; exact l2
    · rw [if_neg e]
      refine ⟨fun j hj => absurd hj (by omega), ?_⟩
      rw [Nat.testBit_zero, Nat.testBit_zero]
      intro z
      have := decide_eq_decide.mp z
      omega
/-- mix -/
def mxN (a b : Nat) : Nat := 2 * lowp 64 a b + (b.testBit (lowp 64 a b)).toNat
theorem bit_le (b : Bool) : b.toNat ≤ 1 := by cases b <;> decide
theorem mxN_lt {a b q : Nat} (n : a ≠ b) (ha : a < 2 ^ q) (hb : b < 2 ^ q) (hq : q ≤ 64) : mxN a b < 2 * q := by
  have h64 : 2 ^ q ≤ 2 ^ 64 := Nat.pow_le_pow_right (by decide) hq
  have l := lowp_at 64 a b n (by omega) (by omega)
  have := l.lt ha hb
  have := bit_le (b.testBit (lowp 64 a b))
  unfold mxN
  omega
theorem mxN_ne {a b c : Nat} (n : a ≠ b) (m : b ≠ c) (ha : a < 2 ^ 64) (hb : b < 2 ^ 64) (hc : c < 2 ^ 64) : mxN a b ≠ mxN b c := by
  have l1 := lowp_at 64 a b n ha hb
  have l2 := lowp_at 64 b c m hb hc
  have b1 := bit_le (b.testBit (lowp 64 a b))
  have b2 := bit_le (c.testBit (lowp 64 b c))
  unfold mxN
  intro e
  have e1 : lowp 64 a b = lowp 64 b c := by omega
  have e2 : (b.testBit (lowp 64 a b)).toNat = (c.testBit (lowp 64 b c)).toNat := by omega
  rw [e1] at e2
  apply l2.2
  revert e2
  cases b.testBit (lowp 64 b c) <;> cases c.testBit (lowp 64 b c) <;> intro e2 <;> first | rfl | exact absurd e2 (by decide)
/-- the first one's bit against mix of the first two -/
theorem mxN_first {a b : Nat} (n : a ≠ b) (ha : a < 2 ^ 64) (hb : b < 2 ^ 64) : a % 2 ≠ mxN a b := by
  have l := lowp_at 64 a b n ha hb
  unfold mxN
  intro e
  have b1 := bit_le (b.testBit (lowp 64 a b))
  have e0 : lowp 64 a b = 0 := by omega
  rw [e0] at l e
  apply l.2
  have : (a.testBit 0).toNat = (b.testBit 0).toNat := by
    rw [tb_mod, tb_mod]
    rw [tb_mod] at e
    rw [Nat.pow_zero, Nat.div_one, Nat.div_one]
    rw [Nat.pow_zero, Nat.div_one] at e
    omega
  revert this
  cases a.testBit 0 <;> cases b.testBit 0 <;> intro e2 <;> first | rfl | exact absurd e2 (by decide)
/-- neighbours differ -/
def Nb (xs : List Nat) : Prop := ∀ i, i + 1 < xs.length → xs.getD i 0 ≠ xs.getD (i + 1) 0
/-- one number behind a round -/
def rAt (xs : List Nat) (i : Nat) : Nat := if i = 0 then xs.getD 0 0 % 2 else mxN (xs.getD (i - 1) 0) (xs.getD i 0)
def rTo (xs : List Nat) : Nat → List Nat
  | 0 => []
  | i + 1 => rTo xs i ++ [rAt xs i]
def rnd (xs : List Nat) : List Nat := rTo xs xs.length
theorem rTo_len (xs : List Nat) : ∀ i, (rTo xs i).length = i
  | 0 => rfl
  | i + 1 => by
    show (rTo xs i ++ [rAt xs i]).length = i + 1
    rw [List.length_append, rTo_len xs i]
    rfl
theorem rnd_len (xs : List Nat) : (rnd xs).length = xs.length := rTo_len xs _
theorem rTo_get (xs : List Nat) : ∀ (n i : Nat), i < n → (rTo xs n)[i]? = some (rAt xs i)
  | 0, i, h => absurd h (by omega)
  | n + 1, i, h => by
    show (rTo xs n ++ [rAt xs n])[i]? = _
    by_cases e : i < n
    · rw [List.getElem?_append_left (by rw [rTo_len]; exact e)]
      exact rTo_get xs n i e
    · have : i = n := by omega
      subst this
      rw [List.getElem?_append_right (by rw [rTo_len]; exact Nat.le_refl _), rTo_len, Nat.sub_self]
      rfl
theorem rnd_get {xs : List Nat} {i : Nat} (h : i < xs.length) : (rnd xs)[i]? = some (rAt xs i) := rTo_get xs _ i h
theorem getD_of {xs : List Nat} {i v : Nat} (h : xs[i]? = some v) : xs.getD i 0 = v := by rw [List.getD_eq_getElem?_getD, h]; rfl
theorem rnd_D {xs : List Nat} {i : Nat} (h : i < xs.length) : (rnd xs).getD i 0 = rAt xs i := getD_of (rnd_get h)
theorem all_D {xs : List Nat} {m i : Nat} (h : ∀ x ∈ xs, x < m) (hi : i < xs.length) : xs.getD i 0 < m := by
  rw [List.getD_eq_getElem?_getD, List.getElem?_eq_getElem hi]
  exact h _ (List.getElem_mem hi)
theorem mem_D {xs : List Nat} {x : Nat} (h : x ∈ xs) : ∃ i, i < xs.length ∧ xs.getD i 0 = x := by
  obtain ⟨i, hi, e⟩ := List.mem_iff_getElem.mp h
  exact ⟨i, hi, by rw [List.getD_eq_getElem?_getD, List.getElem?_eq_getElem hi]; exact e⟩
theorem rnd_nb {xs : List Nat} (h : Nb xs) (hm : ∀ x ∈ xs, x < 2 ^ 64) : Nb (rnd xs) := fun i hi => by
  rw [rnd_len] at hi
  rw [rnd_D (by omega), rnd_D (by omega)]
  unfold rAt
  cases i with
  | zero => exact mxN_first (h 0 hi) (all_D hm (by omega)) (all_D hm (by omega))
  | succ i => exact mxN_ne (h i (by omega)) (h (i + 1) (by omega)) (all_D hm (by omega)) (all_D hm (by omega)) (all_D hm (by omega))
theorem rnd_lt {xs : List Nat} {q : Nat} (h : Nb xs) (hm : ∀ x ∈ xs, x < 2 ^ q) (h1 : 1 ≤ q) (h64 : q ≤ 64) : ∀ x ∈ rnd xs, x < 2 * q := fun x hx => by
  obtain ⟨i, hi, rfl⟩ := mem_D hx
  rw [rnd_len] at hi
  rw [rnd_D hi]
  unfold rAt
  cases i with
  | zero =>
    rw [if_pos rfl]
    omega
  | succ i =>
    rw [if_neg (Nat.succ_ne_zero _)]
    exact mxN_lt (h i hi) (all_D hm (by omega)) (all_D hm hi) h64
end Bm
def top (i : Nat) : Stmt := PySem.Challenge.pw_sameshape_k10_rounds.main.body.getD i (.Pass ⟨0, 0, 0, 0⟩)
structure Txt (mg : Str → Option Value) : Prop where
  n_range : mg "range" = none
  n_tuple : mg "tuple" = none
  n_len : mg "len" = none
  n_list : mg "list" = none
  n_int : mg "int" = none
  n_abs : mg "abs" = none
  n_max : mg "max" = none
  n_isinstance : mg "isinstance" = none
  n_str : mg "str" = none
  n_bool : mg "bool" = none
section
variable {P : Program} {w : World} {K : PySem.W.Frag} {mg : Str → Option Value} {base : Heap}
def spDraw : Sp := fun vs H Q _ => ∃ (t l : Addr) (m : Int), vs = [.ref t, .int m] ∧ Tape H t l ∧ m < 18446744073709551616 ∧ ∀ (r : Int) (H' : Hp), 0 ≤ r → r < max m 1 → Go t l H H' → Q (.int r) H'
abbrev s__law_draw : Stmt := top 5
theorem c__law_draw : FnScope ["tape", "many", "number", "place"] ["tape", "many"] (defScope s__law_draw) := ⟨rfl, rfl, rfl, by decide +kernel, rfl, by decide +kernel, by decide +kernel⟩

theorem ok_draw {f : Addr} {fd : FuncData} (F : Fun K "_law_draw" "_law_draw" s__law_draw f fd) (T : Txt mg) : FnOk P w K mg base CX0 1 f fd ["tape", "many"] spDraw := by
  refine F.ok c__law_draw (fun vs H Q E h => ?_) (fun cdv A outer s H vs Q E hr h => ?_)
  · obtain ⟨t, l, m, rfl, _⟩ := h
    rfl
  · obtain ⟨t, l, m, rfl, TP, hm, k⟩ := h
    obtain ⟨ns, p, n, sd, h1, h2, h3, p0, n0, s0⟩ := TP.ex
    refine ⟨_, (pss_cons (ps_if (pt_cmpR op_eq (pe_ix ix_list (pv 0) pe_int (fun _ _ => rfl)) pe_int (nomark _)) (pss_cons (ps_set (i := 3) c__law_draw.nd rfl (Or.inl rfl) (pe_ix ix_list (pv 0) pe_int (fun _ _ => rfl)))
      (pss_cons (ps_set (i := 2) c__law_draw.nd rfl (Or.inl rfl) pe_int)
      (pss_cons (ps_if (pt_cmpR op_lt (pv 3) (pe_callB call_len_seq (by rfl) T.n_len (by decide +kernel) (pa_cons (pe_ix ix_list (pv 0) pe_int (fun _ _ => rfl)) pa_nil)) (nomark _)) (pss_one (ps_set (i := 2) c__law_draw.nd rfl (Or.inl rfl) (pe_callB call_abs (by rfl) T.n_abs (by decide +kernel) (pa_cons (pe_callTy call_int1 (by rfl) T.n_int (by decide +kernel) (pa_cons (pe_ix ix_list (pe_ix ix_list (pv 0) pe_int (fun _ _ => rfl)) (pv 3) (fun _ _ => rfl)) pa_nil)) pa_nil)))) (pss_cons (ps_asg (pe_op op_modN (pe_callTy call_int1 (by rfl) T.n_int (by decide +kernel) (pa_cons (pe_op op_add (pe_op op_add (pe_op op_mul (pe_ix ix_list (pv 0) pe_int (fun _ _ => rfl)) pe_int) (pv 3)) pe_int) pa_nil)) pe_int) (pg_sub (pv 0) pe_int set_list))
      (pss_one (ps_set (i := 2) c__law_draw.nd rfl (Or.inl rfl) (pe_ix ix_list (pv 0) pe_int (fun _ _ => rfl))))))
      (pss_cons (ps_asg (pe_op op_add (pv 3) pe_int) (pg_sub (pv 0) pe_int set_list))
      (pss_cons (ps_if (pt_cmpR op_lt (pv 2) (pe_op op_pow pe_int pe_int) (nomark _)) (pss_cons (ps_set (i := 2) c__law_draw.nd rfl (Or.inl rfl) (pe_op op_modN (pe_callTy call_int1 (by rfl) T.n_int (by decide +kernel) (pa_cons (pe_op op_add (pe_op op_add (pe_op op_mul (pv 2) pe_int) (pe_op op_mul (pv 3) pe_int)) pe_int) pa_nil)) pe_int))
      (pss_cons (ps_set (i := 2) c__law_draw.nd rfl (Or.inl rfl) (pe_op op_modN (pe_callTy call_int1 (by rfl) T.n_int (by decide +kernel) (pa_cons (pe_op op_mul (pv 2) pe_int) pa_nil)) pe_int))
      (pss_one (ps_ret (pe_op op_modN (pe_callTy call_int1 (by rfl) T.n_int (by decide +kernel) (pa_cons (pv 2) pa_nil)) (pe_callB (call_max2 rfl) (by rfl) T.n_max (by decide +kernel) (pa_cons (pv 1) (pa_cons pe_int pa_nil)))))))) pss_nil)
      (pss_one (ps_asg (pv 2) (pg_sub (pv 0) pe_int set_list)))))))) pss_nil)
      (pss_cons (ps_set (i := 2) c__law_draw.nd rfl (Or.inl rfl) (pe_ix ix_list (pv 0) pe_int (fun _ _ => rfl)))
      (pss_cons (ps_asg (pe_op op_fdivW (pv 2) (pe_callB (call_max2 rfl) (by rfl) T.n_max (by decide +kernel) (pa_cons (pv 1) (pa_cons pe_int pa_nil)))) (pg_sub (pv 0) pe_int set_list))
      (pss_one (ps_ret (pe_op op_modN (pe_callTy call_int1 (by rfl) T.n_int (by decide +kernel) (pa_cons (pv 2) pa_nil)) (pe_callB (call_max2 rfl) (by rfl) T.n_max (by decide +kernel) (pa_cons (pv 1) (pa_cons pe_int pa_nil))))))))), ?_⟩
    walk_at "wp"
    have fin : ∀ (H1 : Hp) (p1 n1 s1 r : Int), H1 t = some (.lst [.ref l, .int p1, .int n1, .int s1]) → H1 l = some (.lst (ns.map V.int)) → 0 ≤ p1 → 0 ≤ n1 → 0 ≤ s1 → Ext t H H1 → Q (.int (r.fmod (if 1 > m then 1 else m))) H1 := fun H1 p1 n1 s1 r a1 a2 a3 a4 a5 a6 => by
      have z : (0 : Int) < if 1 > m then 1 else m := by split <;> omega
      have b := fm (a := r) z
      refine k _ _ b.1 ?_ ⟨a6, ns, p1, n1, s1, a1, a2, h3, a3, a4, a5⟩
      have y : (if 1 > m then 1 else m) = max m 1 := by split <;> omega
      rw [← y]
      exact b.2
    have big : ∀ (H1 : Hp) (p1 n1 s1 : Int), H1 t = some (.lst [.ref l, .int p1, .int n1, .int s1]) → H1 l = some (.lst (ns.map V.int)) → 0 ≤ p1 → 0 ≤ n1 → 0 ≤ s1 → Ext t H H1 → CDivW n1 (if 2 > m then 2 else m) ∧ 0 ≤ n1 / (if 2 > m then 2 else m) := fun H1 p1 n1 s1 a1 a2 a3 a4 a5 a6 => by
      have z : (0 : Int) < if 2 > m then 2 else m := by split <;> omega
      refine ⟨wide_div (b := 64) z ?_ (by decide) (by decide), Int.ediv_nonneg a4 (Int.le_of_lt z)⟩
      split <;> omega
    have eq1 : ∀ {x y : Int} {o : HO}, Ext t H (upd H t o) := ext_upd
    have e2 : ∀ {o u : HO}, Ext t H (upd (upd H t o) t u) := fun {o u} => by rw [upd_upd]; exact ext_upd
    have e3 : ∀ {o u v : HO}, Ext t H (upd (upd (upd H t o) t u) t v) := fun {o u v} => by rw [upd_upd, upd_upd]; exact ext_upd
    have e4 : ∀ {o u v x : HO}, Ext t H (upd (upd (upd (upd H t o) t u) t v) t x) := fun {o u v x} => by rw [upd_upd, upd_upd, upd_upd]; exact ext_upd
    refine w_ite (fun e => ?_) (fun e => ?_)
    · subst e
      walk_at "wp"
      refine w_ite (fun e => ?_) (fun e => ?_)
      · walk_at "wp"
        have hp : p.toNat < ns.length := by rw [List.length_map] at e; omega
        obtain ⟨z, ez⟩ : ∃ z, ns[p.toNat]? = some z := ⟨_, List.getElem?_eq_getElem hp⟩
        refine w_ixL (.of h2) (v := .int z) (at_of (j := p.toNat) (by omega) (by rw [List.getElem?_map, ez]; rfl)) ?_
        walk_at "wp"
        refine w_ite (fun e => ?_) (fun e => ?_)
        · walk_at "wp"
          exact fin _ (p + 1) 0 sd _ upd_same (by walk_at "hp") (by omega) (by omega) s0 ext_upd
        · walk_at "wp"
          have nz : 0 ≤ (if z < 0 then -z else z) := by split <;> omega
          obtain ⟨c1, c2⟩ := big (upd (upd H t (.lst [])) t (.lst [.ref l, .int (p + 1), .int (if z < 0 then -z else z), .int sd])) (p + 1) (if z < 0 then -z else z) sd upd_same (by walk_at "hp") (by omega) nz s0 e2
          refine w_I c1 ?_
          walk_at "wp"
          exact fin _ (p + 1) _ sd _ upd_same (by walk_at "hp") (by omega) c2 s0 e3
      · walk_at "wp"
        have sz : 0 ≤ (sd * 48271 + p + 1).fmod 2147483647 := (fm (by decide)).1
        refine w_ite (fun e => ?_) (fun e => ?_)
        · walk_at "wp"
          exact fin _ (p + 1) 0 _ _ upd_same (by walk_at "hp") (by omega) (by omega) sz e2
        · walk_at "wp"
          obtain ⟨c1, c2⟩ := big (upd (upd H t (.lst [])) t (.lst [.ref l, .int (p + 1), .int _, .int _])) (p + 1) _ _ upd_same (by walk_at "hp") (by omega) sz sz e2
          refine w_I c1 ?_
          walk_at "wp"
          exact fin _ (p + 1) _ _ _ upd_same (by walk_at "hp") (by omega) c2 sz e4
    · walk_at "wp"
      obtain ⟨c1, c2⟩ := big H p n sd h1 h2 p0 n0 s0 (Ext.refl t H)
      refine w_I c1 ?_
      walk_at "wp"
      exact fin _ p _ sd _ upd_same (by walk_at "hp") p0 c2 s0 ext_upd
def spTape (K : PySem.W.Frag) : Sp := fun vs H Q _ => ∃ (a : Addr) (ns : List Int), vs = [.ref a] ∧ SqL K H a (ns.map V.int) ∧ ∀ (t l : Addr) (H' : Hp), Same H H' → Tape H' t l → Q (.ref t) H'
abbrev s__law_tape : Stmt := top 4
theorem c__law_tape : FnScope ["script", "total", "cell"] ["script"] (defScope s__law_tape) := ⟨rfl, rfl, rfl, by decide +kernel, rfl, by decide +kernel, by decide +kernel⟩

theorem ok_tape {f : Addr} {fd : FuncData} (F : Fun K "_law_tape" "_law_tape" s__law_tape f fd) (T : Txt mg) : FnOk P w K mg base CX0 1 f fd ["script"] (spTape K) := by
  refine F.ok c__law_tape (fun vs H Q E h => ?_) (fun cdv A outer s H vs Q E hr h => ?_)
  · obtain ⟨a, ns, rfl, _⟩ := h
    rfl
  · obtain ⟨a, ns, rfl, hS, k⟩ := h
    refine ⟨_, (pss_cons (ps_set (i := 1) c__law_tape.nd rfl (Or.inl rfl) pe_int)
      (pss_cons (ps_for PassesOwn.never rfl (pi_list (pv 0)) (pg_name (i := 2) c__law_tape.nd rfl (Or.inl rfl)) (pss_one (ps_set (i := 1) c__law_tape.nd rfl (Or.inl rfl) (pe_op op_modN (pe_callTy call_int1 (by rfl) T.n_int (by decide +kernel) (pa_cons (pe_op op_add (pe_op op_mul (pv 1) pe_int) (pe_callB call_abs (by rfl) T.n_abs (by decide +kernel) (pa_cons (pe_callTy call_int1 (by rfl) T.n_int (by decide +kernel) (pa_cons (pv 2) pa_nil)) pa_nil))) pa_nil)) pe_int))))
      (pss_one (ps_ret (pe_lst (pa_cons (pe_callTy call_list_of (by rfl) T.n_list (by decide +kernel) (pa_cons (pv 0) pa_nil)) (pa_cons pe_int (pa_cons pe_int (pa_cons (pv 1) pa_nil))))))))), ?_⟩
    walk_at "wp"
    refine ⟨_, rfl, ⟨_, hS⟩, ?_⟩
    refine for_list (K := K) (a := a) (xs := ns.map V.int) (fun i σ H2 => ∃ (z : Int) (y : Option V), 0 ≤ z ∧ σ = [some (.ref a), some (.int z), y] ∧ H2 = H) ⟨7, none, by decide, rfl, rfl⟩ (fun i σ H2 _ ⟨_, _, _, _, e⟩ => by rw [e]; exact hS) ?_ ?_
    · rintro i x σ H2 hx ⟨z, y, z0, rfl, rfl⟩
      obtain ⟨v, rfl⟩ : ∃ v, x = V.int v := by
        rw [List.getElem?_map] at hx
        cases e : ns[i]? with
        | none => rw [e] at hx; cases hx
        | some v => rw [e] at hx; exact ⟨v, (Option.some.inj hx).symm⟩
      walk_at "wp"
      exact ⟨_, _, (fm (by decide)).1, rfl, rfl⟩
    · rintro σ H2 ⟨z, y, z0, rfl, rfl⟩
      walk_at "wp"
      refine ⟨a, ns.map V.int, rfl, .inl hS, fun l hl => ?_⟩
      walk_at "wp"
      refine ⟨(by show 4 ≤ sizeLine; decide), fun t ht => ?_⟩
      have nlt : l ≠ t := fun e => by rw [← e, upd_same] at ht; cases ht
      have s1 : Same H2 (upd H2 l (.lst (ns.map V.int))) := same_new hl
      have ht0 : H2 t = none := s1.free ht
      exact k t l _ (s1.trans (same_new ht)) ⟨ns, 0, 0, z, upd_same, (upd_ne nlt).trans upd_same, nlt, Int.le_refl _, Int.le_refl _, z0⟩
def spA : Nat → Sp
  | 0 => fun _ _ _ _ => False
  | n + 1 => fun vs H Q _ => ∃ (x y : V) (d : PyData), vs = [x, y] ∧ At H x d ∧ At H y d ∧ Dep n d ∧ Q (.bl true) H
abbrev s__law_alike : Stmt := top 6
theorem c__law_alike : FnScope ["told", "due", "k"] ["told", "due"] (defScope s__law_alike) := ⟨rfl, rfl, rfl, by decide +kernel, rfl, by decide +kernel, by decide +kernel⟩

theorem ok_alike {f : Addr} {fd : FuncData} (F : Fun K "_law_alike" "_law_alike" s__law_alike f fd) (T : Txt mg) (g : mg "_law_alike" = some (.ref f)) : ∀ n, FnOk P w K mg base CX0 n f fd ["told", "due"] (spA n)
  | 0 => ⟨fun _ _ _ _ h => h.elim, fun _ _ _ _ _ _ _ _ _ _ _ _ _ h => h.elim⟩
  | n + 1 => by
    have C__law_alike : Cl P w K mg base n "_law_alike" ["told", "due"] (spA n) := ⟨f, fd, ok_alike F T g n, g, F.kp, F.binds (ps := ["told", "due"]) fun _ _ _ _ _ _ us hl => match us, hl with | [_, _], _ => rfl⟩
    refine F.ok c__law_alike (fun vs H Q E h => ?_) (fun cdv A outer s H vs Q E hr h => ?_)
    · obtain ⟨x, y, d, rfl, _⟩ := h
      rfl
    · obtain ⟨x, y, d, rfl, hx, hy, hd, k⟩ := h
      refine ⟨_, (pss_cons (ps_if (pt_val (pe_callB call_isi (by rfl) T.n_isinstance (by decide +kernel) (pa_cons (pv 1) (pa_cons (pe_bltn (v := .ty "tuple") (by rfl) T.n_tuple (by decide +kernel) rfl) pa_nil)))) (pss_cons (ps_if (PW.pt (pw_or (pt_not (pt_val (pe_callB call_isi (by rfl) T.n_isinstance (by decide +kernel) (pa_cons (pv 0) (pa_cons (pe_bltn (v := .ty "tuple") (by rfl) T.n_tuple (by decide +kernel) rfl) pa_nil))))) (pw_or1 (pt_cmpR op_ne (pe_callB call_len_seq (by rfl) T.n_len (by decide +kernel) (pa_cons (pv 0) pa_nil)) (pe_callB call_len_seq (by rfl) T.n_len (by decide +kernel) (pa_cons (pv 1) pa_nil)) (nomark _))))) (pss_one (ps_ret pe_bl)) pss_nil)
      (pss_cons (ps_for PassesOwn.never rfl (pi_range1 (by rfl) T.n_range (pa_cons (pe_callB call_len_seq (by rfl) T.n_len (by decide +kernel) (pa_cons (pv 1) pa_nil)) pa_nil)) (pg_name (i := 2) c__law_alike.nd rfl (Or.inl rfl)) (pss_one (ps_if (pt_not (pt_truth (pe_cl C__law_alike hr (by rfl) (pa_cons (pe_ix ix_tup (pv 0) (pv 2) (fun _ _ => rfl)) (pa_cons (pe_ix ix_tup (pv 1) (pv 2) (fun _ _ => rfl)) pa_nil))) (by intro _; rfl))) (pss_one (ps_ret pe_bl)) pss_nil)))
      (pss_one (ps_ret pe_bl)))) pss_nil)
      (pss_cons (ps_if (pt_cmpR op_isN (pv 1) pe_non (nomark _)) (pss_one (ps_ret (pe_cmpR op_isN (pv 0) pe_non (nomark _)))) pss_nil)
      (pss_cons (ps_if (pt_val (pe_callB call_isi (by rfl) T.n_isinstance (by decide +kernel) (pa_cons (pv 1) (pa_cons (pe_bltn (v := .ty "str") (by rfl) T.n_str (by decide +kernel) rfl) pa_nil)))) (pss_one (ps_ret (pe_and (pe_callB call_isi (by rfl) T.n_isinstance (by decide +kernel) (pa_cons (pv 0) (pa_cons (pe_bltn (v := .ty "str") (by rfl) T.n_str (by decide +kernel) rfl) pa_nil))) (pe_one (pe_cmpR op_eq (pv 0) (pv 1) (nomark _)))))) pss_nil)
      (pss_cons (ps_if (pt_cmpR op_ne (pe_callB call_isi (by rfl) T.n_isinstance (by decide +kernel) (pa_cons (pv 0) (pa_cons (pe_bltn (v := .ty "bool") (by rfl) T.n_bool (by decide +kernel) rfl) pa_nil))) (pe_callB call_isi (by rfl) T.n_isinstance (by decide +kernel) (pa_cons (pv 1) (pa_cons (pe_bltn (v := .ty "bool") (by rfl) T.n_bool (by decide +kernel) rfl) pa_nil))) (nomark _)) (pss_one (ps_ret pe_bl)) pss_nil)
      (pss_one (ps_ret (pe_and (pe_callB call_isi (by rfl) T.n_isinstance (by decide +kernel) (pa_cons (pv 0) (pa_cons (pe_bltn (v := .ty "int") (by rfl) T.n_int (by decide +kernel) rfl) pa_nil))) (pe_one (pe_cmpR op_eq (pv 0) (pv 1) (nomark _)))))))))), ?_⟩
      walk_at "wp"
      cases hd with
      | non =>
        cases hx; cases hy
        refine w_isi (.base (.non)) false (by decide +kernel) ?_
        walk_at "wp"
        refine ⟨rfl, ?_⟩
        walk_at "wp"
        refine iteT ?_
        walk_at "wp"
        exact ⟨rfl, k⟩
      | bl b =>
        cases hx; cases hy
        refine w_isi (.base (.bl _)) false (by decide +kernel) ?_
        walk_at "wp"
        refine ⟨rfl, ?_⟩
        walk_at "wp"
        refine iteF ?_
        walk_at "wp"
        refine w_isi (.base (.bl _)) false (by decide +kernel) ?_
        walk_at "wp"
        refine w_isi (.base (.bl _)) true (by decide +kernel) ?_
        walk_at "wp"
        refine w_isi (.base (.bl _)) true (by decide +kernel) ?_
        walk_at "wp"
        refine iteF ?_
        walk_at "wp"
        refine w_isi (.base (.bl _)) true (by decide +kernel) ?_
        walk_at "wp"
        refine ⟨rfl, ?_⟩
        rw [decide_eq_true rfl]
        exact k
      | int i =>
        cases hx; cases hy
        refine w_isi (.base (.int _)) false (by decide +kernel) ?_
        walk_at "wp"
        refine ⟨rfl, ?_⟩
        walk_at "wp"
        refine iteF ?_
        walk_at "wp"
        refine w_isi (.base (.int _)) false (by decide +kernel) ?_
        walk_at "wp"
        refine w_isi (.base (.int _)) false (by decide +kernel) ?_
        walk_at "wp"
        refine w_isi (.base (.int _)) false (by decide +kernel) ?_
        walk_at "wp"
        refine iteF ?_
        walk_at "wp"
        refine w_isi (.base (.int _)) true (by decide +kernel) ?_
        walk_at "wp"
        rw [decide_eq_true rfl]
        exact k
      | str z =>
        cases hx; cases hy
        refine w_isi (.base (.str _)) false (by decide +kernel) ?_
        walk_at "wp"
        refine ⟨rfl, ?_⟩
        walk_at "wp"
        refine iteF ?_
        walk_at "wp"
        refine w_isi (.base (.str _)) true (by decide +kernel) ?_
        walk_at "wp"
        refine w_isi (.base (.str _)) true (by decide +kernel) ?_
        walk_at "wp"
        rw [decide_eq_true rfl]
        exact k
      | @tup n0 ds hl hh =>
        cases hx with
        | @tup a xs _ ex lx =>
        cases hy with
        | @tup b ys _ ey ly =>
        have l1 := lx.len
        have l2 := ly.len
        refine w_isi (.base (.tup ey)) true (by decide +kernel) ?_
        walk_at "wp"
        refine w_isi (.base (.tup ex)) true (by decide +kernel) ?_
        walk_at "wp"
        refine w_iteN (fun e => absurd (by omega) e) (fun _ => ?_)
        walk_at "wp"
        refine ⟨by omega, by omega, ?_⟩
        refine for_range (lo := 0) (n := ((ys.length : Nat) : Int).toNat) (fun i σ H2 => ∃ (v : Option V), σ = [some (.ref a), some (.ref b), v] ∧ H2 = H) ⟨none, rfl, rfl⟩ ?_ ?_
        · rintro i σ H2 hi ⟨v, rfl, rfl⟩
          have hi' : i < ds.length := by omega
          obtain ⟨x, x1, x2⟩ := lx.get (List.getElem?_eq_getElem hi')
          obtain ⟨y, y1, y2⟩ := ly.get (List.getElem?_eq_getElem hi')
          walk_at "wp"
          refine w_ixT (.of ex) (at_of (j := i) (by omega) x1) ?_
          walk_at "wp"
          refine w_ixT (.of ey) (at_of (j := i) (by omega) y1) ?_
          walk_at "wp"
          refine ⟨x, y, _, rfl, x2, y2, hh _ (List.getElem_mem hi'), ?_⟩
          walk_at "wp"
          exact ⟨_, rfl, rfl⟩
        · rintro σ H2 ⟨v, rfl, rfl⟩
          walk_at "wp"
          exact k

open Bm
def bt (b p : Nat) : Int := ((b.testBit p).toNat : Int)
def spMixP : Sp := fun vs H Q _ => ∃ (a b p : Nat), vs = [.int a, .int b] ∧ LowAt p a b ∧ Q (.int (2 * (p : Int) + bt b p)) H
abbrev s_mix : Stmt := top 1
theorem c_mix : FnScope ["a", "b", "differing", "place"] ["a", "b"] (defScope s_mix) := ⟨rfl, rfl, rfl, by decide +kernel, rfl, by decide +kernel, by decide +kernel⟩

theorem ok_mixP {f : Addr} {fd : FuncData} (F : Fun K "mix" "mix" s_mix f fd) (T : Txt mg) : FnOk P w K mg base CX0 1 f fd ["a", "b"] spMixP := by
  refine F.ok c_mix (fun vs H Q E h => ?_) (fun cdv A outer s H vs Q E hr h => ?_)
  · obtain ⟨a, b, p, rfl, _⟩ := h
    rfl
  · obtain ⟨a, b, p, rfl, hp, k⟩ := h
    refine ⟨_, (pss_cons (ps_set (i := 2) c_mix.nd rfl (Or.inl rfl) (pe_op op_xor (pv 0) (pv 1)))
      (pss_cons (ps_set (i := 3) c_mix.nd rfl (Or.inl rfl) (pe_op op_sub (pe_bits (pe_op op_and (pv 2) (pe_un un_neg (pv 2)))) pe_int))
      (pss_one (ps_ret (pe_op op_add (pe_op op_mul pe_int (pv 3)) (pe_op op_and (pe_op op_shr (pv 1) (pv 3)) pe_int)))))), ?_⟩
    walk_at "wp"
    rw [bx, band_neg (xor_low hp).1 (xor_low hp).2, bits_pow]
    have e1 : ((p + 1 : Nat) : Int) - 1 = (p : Int) := by omega
    rw [e1]
    refine w_I (Int.natCast_nonneg _) ?_
    walk_at "wp"
    rw [PyProof.Rows.bitAnd_m1, Int.toNat_natCast]
    have e2 : (b : Int) / 2 ^ p % 2 = bt b p := by
      unfold bt
      rw [tb_mod]
      push_cast
      rfl
    rw [e2]
    exact k
def spLmixP : Sp := fun vs H Q _ => ∃ (a b p : Nat), vs = [.int a, .int b] ∧ LowAt p a b ∧ p < 70 ∧ Q (.int (2 * (p : Int) + bt b p)) H
abbrev s__law_mix : Stmt := top 7
theorem c__law_mix : FnScope ["before", "number", "place", "k"] ["before", "number"] (defScope s__law_mix) := ⟨rfl, rfl, rfl, by decide +kernel, rfl, by decide +kernel, by decide +kernel⟩

theorem ok_lmixP {f : Addr} {fd : FuncData} (F : Fun K "_law_mix" "_law_mix" s__law_mix f fd) (T : Txt mg) : FnOk P w K mg base CX0 1 f fd ["before", "number"] spLmixP := by
  refine F.ok c__law_mix (fun vs H Q E h => ?_) (fun cdv A outer s H vs Q E hr h => ?_)
  · obtain ⟨a, b, p, rfl, _⟩ := h
    rfl
  · obtain ⟨a, b, p, rfl, hp, hl, k⟩ := h
    refine ⟨_, (pss_cons (ps_set (i := 2) c__law_mix.nd rfl (Or.inl rfl) pe_int)
      (pss_cons (ps_for PassesOwn.never rfl (pi_range1 (by rfl) T.n_range (pa_cons pe_int pa_nil)) (pg_name (i := 3) c__law_mix.nd rfl (Or.inl rfl)) (pss_cons (ps_if (pt_cmpR op_ne (pe_op op_modN (pe_callTy call_int1 (by rfl) T.n_int (by decide +kernel) (pa_cons (pv 0) pa_nil)) pe_int) (pe_op op_modN (pe_callTy call_int1 (by rfl) T.n_int (by decide +kernel) (pa_cons (pv 1) pa_nil)) pe_int) (nomark _)) (pss_one ps_break) pss_nil)
      (pss_cons (ps_set (i := 0) c__law_mix.nd rfl (Or.inl rfl) (pe_op op_fdivN (pv 0) pe_int))
      (pss_cons (ps_set (i := 1) c__law_mix.nd rfl (Or.inl rfl) (pe_op op_fdivN (pv 1) pe_int))
      (pss_one (ps_set (i := 2) c__law_mix.nd rfl (Or.inl rfl) (pe_op op_add (pv 2) pe_int)))))))
      (pss_one (ps_ret (pe_op op_add (pe_op op_mul pe_int (pv 2)) (pe_op op_modN (pe_callTy call_int1 (by rfl) T.n_int (by decide +kernel) (pa_cons (pv 1) pa_nil)) pe_int)))))), ?_⟩
    walk_at "wp"
    refine ⟨by omega, by omega, ?_⟩
    refine for_range (lo := 0) (n := (70 : Int).toNat) (fun i σ H2 => ∃ (x y q : Nat) (v : Option V), σ = [some (.int x), some (.int y), some (.int i), v] ∧ H2 = H ∧ i + q = p ∧ LowAt q x y ∧ y.testBit q = b.testBit p) ⟨a, b, p, none, rfl, rfl, by omega, hp, rfl⟩ ?_ ?_
    · rintro i σ H2 hi ⟨x, y, q, v, rfl, rfl, hq, hl2, hb⟩
      walk_at "wp"
      have fx : ∀ z : Nat, ((z : Int)).fmod 2 = ((z % 2 : Nat) : Int) := fun z => by
        rw [Int.fmod_eq_emod_of_nonneg _ (by decide)]
        omega
      have fd2 : ∀ z : Nat, ((z : Int)).fdiv 2 = ((z / 2 : Nat) : Int) := fun z => by
        rw [Int.fdiv_eq_ediv_of_nonneg _ (by decide)]
        omega
      cases q with
      | zero =>
        refine w_iteN (fun e => ?_) (fun e => absurd (by rw [fx, fx] at e; omega) hl2.zero)
        walk_at "wp"
        have e3 : (y : Int).fmod 2 = bt b p := by
          unfold bt
          rw [← hb, tb_mod, fx, Nat.pow_zero, Nat.div_one]
        rw [e3]
        have e4 : i = p := by omega
        rw [e4]
        exact k
      | succ q =>
        obtain ⟨z1, z2⟩ := hl2.half
        refine w_iteN (fun e => absurd (by rw [fx, fx, z1]) e) (fun e => ?_)
        walk_at "wp"
        rw [fd2, fd2]
        exact ⟨x / 2, y / 2, q, _, rfl, rfl, by omega, z2, by rw [← hb, Nat.testBit_succ]⟩
    · rintro σ H2 ⟨x, y, q, v, rfl, rfl, hq, hl2, hb⟩
      have : (70 : Int).toNat = 70 := rfl
      omega
def spMix : Sp := fun vs H Q _ => ∃ (a b : Nat), vs = [.int a, .int b] ∧ a ≠ b ∧ a < 2 ^ 64 ∧ b < 2 ^ 64 ∧ Q (.int (mxN a b : Nat)) H
theorem mx_int (a b : Nat) : ((mxN a b : Nat) : Int) = 2 * ((lowp 64 a b : Nat) : Int) + bt b (lowp 64 a b) := by
  unfold mxN bt
  omega
theorem ok_mix {f : Addr} {fd : FuncData} (F : Fun K "mix" "mix" s_mix f fd) (T : Txt mg) : FnOk P w K mg base CX0 1 f fd ["a", "b"] spMix :=
  (ok_mixP F T).imp (fun vs H Q E h => by
    obtain ⟨a, b, rfl, n, ha, hb, q⟩ := h
    exact ⟨a, b, lowp 64 a b, rfl, lowp_at 64 a b n ha hb, by rw [← mx_int]; exact q⟩)
theorem ok_lmix {f : Addr} {fd : FuncData} (F : Fun K "_law_mix" "_law_mix" s__law_mix f fd) (T : Txt mg) : FnOk P w K mg base CX0 1 f fd ["before", "number"] spMix :=
  (ok_lmixP F T).imp (fun vs H Q E h => by
    obtain ⟨a, b, rfl, n, ha, hb, q⟩ := h
    have l := lowp_at 64 a b n ha hb
    have := l.lt ha hb
    exact ⟨a, b, lowp 64 a b, rfl, l, by omega, by rw [← mx_int]; exact q⟩)
def Drawn (x : Int) : Prop := 0 ≤ x ∧ x ≤ 1000000000000000000
def spNum : Sp := fun vs H Q _ => ∃ (t l : Addr), vs = [.ref t] ∧ Tape H t l ∧ ∀ (r : Int) (H' : Hp), Drawn r → Go t l H H' → Q (.int r) H'
abbrev s__law_number : Stmt := top 9
theorem c__law_number : FnScope ["tape", "choice"] ["tape"] (defScope s__law_number) := ⟨rfl, rfl, rfl, by decide +kernel, rfl, by decide +kernel, by decide +kernel⟩

theorem ok_num {f : Addr} {fd : FuncData} (F : Fun K "_law_number" "_law_number" s__law_number f fd) (T : Txt mg) (C__law_draw : Cl P w K mg base 1 "_law_draw" ["tape", "many"] spDraw) : FnOk P w K mg base CX0 2 f fd ["tape"] spNum := by
  refine F.ok c__law_number (fun vs H Q E h => ?_) (fun cdv A outer s H vs Q E hr h => ?_)
  · obtain ⟨t, l, rfl, _⟩ := h
    rfl
  · obtain ⟨t, l, rfl, TP, k⟩ := h
    refine ⟨_, (pss_cons (ps_set (i := 1) c__law_number.nd rfl (Or.inl rfl) (pe_cl C__law_draw (hr.mono (by omega)) (by rfl) (pa_cons (pv 0) (pa_cons pe_int pa_nil))))
      (pss_cons (ps_if (pt_cmpR op_eq (pv 1) pe_int (nomark _)) (pss_one (ps_ret (pe_cl C__law_draw (hr.mono (by omega)) (by rfl) (pa_cons (pv 0) (pa_cons pe_int pa_nil))))) pss_nil)
      (pss_cons (ps_if (pt_cmpR op_eq (pv 1) pe_int (nomark _)) (pss_one (ps_ret (pe_op op_sub (pe_op op_pow pe_int pe_int) (pe_cl C__law_draw (hr.mono (by omega)) (by rfl) (pa_cons (pv 0) (pa_cons pe_int pa_nil)))))) pss_nil)
      (pss_cons (ps_if (pt_cmpR op_eq (pv 1) pe_int (nomark _)) (pss_one (ps_ret (pe_cl C__law_draw (hr.mono (by omega)) (by rfl) (pa_cons (pv 0) (pa_cons (pe_op op_add (pe_op op_pow pe_int pe_int) pe_int) pa_nil))))) pss_nil)
      (pss_one (ps_ret (pe_op op_add (pe_op op_mul (pe_cl C__law_draw (hr.mono (by omega)) (by rfl) (pa_cons (pv 0) (pa_cons pe_int pa_nil))) pe_int) (pe_cl C__law_draw (hr.mono (by omega)) (by rfl) (pa_cons (pv 0) (pa_cons pe_int pa_nil)))))))))), ?_⟩
    walk_at "wp"
    refine ⟨t, l, _, rfl, TP, by decide, fun r0 H0 l0 u0 G0 => ?_⟩
    walk_at "wp"
    refine w_ite (fun e => ?_) (fun e => ?_)
    · walk_at "wp"
      refine ⟨t, l, _, rfl, G0.T, by decide, fun r1 H1 l1 u1 G1 => ?_⟩
      exact k _ _ ⟨by omega, by omega⟩ (G0.trans G1)
    walk_at "wp"
    refine w_ite (fun e => ?_) (fun e => ?_)
    · walk_at "wp"
      refine ⟨t, l, _, rfl, G0.T, by decide, fun r1 H1 l1 u1 G1 => ?_⟩
      walk_at "wp"
      refine k _ _ ⟨?_, ?_⟩ (G0.trans G1)
      · show 0 ≤ (1000000000000000000 : Int) - r1; omega
      · show (1000000000000000000 : Int) - r1 ≤ _; omega
    walk_at "wp"
    refine w_ite (fun e => ?_) (fun e => ?_)
    · walk_at "wp"
      refine ⟨t, l, _, rfl, G0.T, by decide, fun r1 H1 l1 u1 G1 => ?_⟩
      replace u1 : r1 < 1000000000000000001 := u1
      exact k _ _ ⟨by omega, by omega⟩ (G0.trans G1)
    walk_at "wp"
    refine ⟨t, l, _, rfl, G0.T, by decide, fun r1 H1 l1 u1 G1 => ?_⟩
    walk_at "wp"
    refine ⟨t, l, _, rfl, G1.T, by decide, fun r2 H2 l2 u2 G2 => ?_⟩
    walk_at "wp"
    exact k _ _ ⟨by omega, by omega⟩ ((G0.trans G1).trans G2)
def spOther : Sp := fun vs H Q _ => ∃ (t l : Addr) (n : Int), vs = [.ref t, .int n] ∧ Drawn n ∧ Tape H t l ∧ ∀ (r : Int) (H' : Hp), Drawn r → r ≠ n → Go t l H H' → Q (.int r) H'
abbrev s__law_other : Stmt := top 10
theorem c__law_other : FnScope ["tape", "number", "bit", "k", "other"] ["tape", "number"] (defScope s__law_other) := ⟨rfl, rfl, rfl, by decide +kernel, rfl, by decide +kernel, by decide +kernel⟩

theorem ok_other {f : Addr} {fd : FuncData} (F : Fun K "_law_other" "_law_other" s__law_other f fd) (T : Txt mg) (C__law_draw : Cl P w K mg base 1 "_law_draw" ["tape", "many"] spDraw) (C__law_number : Cl P w K mg base 2 "_law_number" ["tape"] spNum) : FnOk P w K mg base CX0 3 f fd ["tape", "number"] spOther := by
  refine F.ok c__law_other (fun vs H Q E h => ?_) (fun cdv A outer s H vs Q E hr h => ?_)
  · obtain ⟨t, l, n, rfl, _⟩ := h
    rfl
  · obtain ⟨t, l, n, rfl, ⟨n0, n1⟩, TP, k⟩ := h
    refine ⟨_, (pss_cons (ps_set (i := 2) c__law_other.nd rfl (Or.inl rfl) pe_int)
      (pss_cons (ps_for PassesOwn.never rfl (pi_range1 (by rfl) T.n_range (pa_cons (pe_cl C__law_draw (hr.mono (by omega)) (by rfl) (pa_cons (pv 0) (pa_cons pe_int pa_nil))) pa_nil)) (pg_name (i := 3) c__law_other.nd rfl (Or.inl rfl)) (pss_one (ps_set (i := 2) c__law_other.nd rfl (Or.inl rfl) (pe_op op_mul (pv 2) pe_int))))
      (pss_cons (ps_set (i := 4) c__law_other.nd rfl (Or.inl rfl) (pe_op op_add (pv 1) (pv 2)))
      (pss_cons (ps_if (pt_cmpR op_eq (pe_op op_modN (pe_callTy call_int1 (by rfl) T.n_int (by decide +kernel) (pa_cons (pe_op op_fdivW (pv 1) (pv 2)) pa_nil)) pe_int) pe_int (nomark _)) (pss_one (ps_set (i := 4) c__law_other.nd rfl (Or.inl rfl) (pe_op op_sub (pv 1) (pv 2)))) pss_nil)
      (pss_cons (ps_if (pt_cmpR op_eq (pe_cl C__law_draw (hr.mono (by omega)) (by rfl) (pa_cons (pv 0) (pa_cons pe_int pa_nil))) pe_int (nomark _)) (pss_one (ps_set (i := 4) c__law_other.nd rfl (Or.inl rfl) (pe_cl C__law_number (hr.mono (by omega)) (by rfl) (pa_cons (pv 0) pa_nil)))) pss_nil)
      (pss_cons (ps_if (PW.pt (pw_or (pt_cmpR op_eq (pv 4) (pv 1) (nomark _)) (pw_or1 (pt_cmpR op_gt (pv 4) (pe_op op_pow pe_int pe_int) (nomark _))))) (pss_one (ps_set (i := 4) c__law_other.nd rfl (Or.inl rfl) (pe_callB call_abs (by rfl) T.n_abs (by decide +kernel) (pa_cons (pe_op op_sub (pv 1) pe_int) pa_nil)))) pss_nil)
      (pss_one (ps_ret (pv 4))))))))), ?_⟩
    walk_at "wp"
    refine ⟨t, l, _, rfl, TP, by decide, fun r0 H0 l0 u0 G0 => ?_⟩
    walk_at "wp"
    replace u0 : r0 < 60 := u0
    refine ⟨by omega, by omega, ?_⟩
    refine for_range (lo := 0) (n := r0.toNat) (fun i σ H2 => ∃ (v : Option V), σ = [some (.ref t), some (.int n), some (.int ((2 ^ i : Nat) : Int)), v, none] ∧ H2 = H0) ⟨none, rfl, rfl⟩ ?_ ?_
    · rintro i σ H2 hi ⟨v, rfl, rfl⟩
      walk_at "wp"
      have e : ((2 ^ i : Nat) : Int) * 2 = ((2 ^ (i + 1) : Nat) : Int) := by
        rw [Nat.pow_succ, Int.natCast_mul]
        rfl
      refine ⟨some (.int (0 + (i : Int))), ?_, rfl⟩
      rw [← e]
      rfl
    · rintro σ H2 ⟨v, rfl, rfl⟩
      have bp : 0 < 2 ^ r0.toNat := Nat.two_pow_pos _
      have bl : 2 ^ r0.toNat < 2 ^ 60 := Nat.pow_lt_pow_right (by decide) (by omega)
      generalize 2 ^ r0.toNat = b at bp bl
      have bl2 : (b : Int) < 1152921504606846976 := by omega
      walk_at "wp"
      refine w_I (wide_div (b := 64) (by omega) (by omega) (by decide) (by decide)) ?_
      walk_at "wp"
      have nb : (n / (b : Int)).fmod 2 = 1 → (b : Int) ≤ n := fun e => by
        apply Int.not_lt.mp
        intro z
        rw [Int.ediv_eq_zero_of_lt n0 z] at e
        exact absurd e (by decide)
      have dn : Drawn (if n - 1 < 0 then -(n - 1) else n - 1) ∧ (if n - 1 < 0 then -(n - 1) else n - 1) ≠ n := by
        refine ⟨⟨?_, ?_⟩, ?_⟩ <;> split <;> omega
      have p18 : (10 : Int) ^ (18 : Int).toNat = 1000000000000000000 := by decide
      refine w_ite (fun e => ?_) (fun e => ?_)
      · have nb := nb e
        walk_at "wp"
        refine ⟨t, l, _, rfl, G0.T, by decide, fun r1 H1 l1 u1 G1 => ?_⟩
        walk_at "wp"
        refine w_ite (fun e2 => ?_) (fun e2 => ?_)
        · walk_at "wp"
          refine ⟨t, l, rfl, G1.T, fun r2 H2 d2 G2 => ?_⟩
          obtain ⟨d3, d4⟩ := d2
          walk_at "wp"
          refine w_ite (fun e => ?_) (fun e => ?_)
          · walk_at "wp"
            exact k _ _ dn.1 dn.2 ((G0.trans G1).trans G2)
          · walk_at "wp"
            rw [p18]
            refine w_ite (fun e3 => ?_) (fun e3 => ?_)
            · walk_at "wp"
              exact k _ _ dn.1 dn.2 ((G0.trans G1).trans G2)
            · walk_at "wp"
              exact k _ _ ⟨by omega, by omega⟩ (by omega) ((G0.trans G1).trans G2)
        · walk_at "wp"
          refine w_ite (fun e => ?_) (fun e => ?_)
          · walk_at "wp"
            exact k _ _ dn.1 dn.2 (G0.trans G1)
          · walk_at "wp"
            rw [p18]
            refine w_ite (fun e3 => ?_) (fun e3 => ?_)
            · walk_at "wp"
              exact k _ _ dn.1 dn.2 (G0.trans G1)
            · walk_at "wp"
              exact k _ _ ⟨by omega, by omega⟩ (by omega) (G0.trans G1)
      · walk_at "wp"
        refine ⟨t, l, _, rfl, G0.T, by decide, fun r1 H1 l1 u1 G1 => ?_⟩
        walk_at "wp"
        refine w_ite (fun e2 => ?_) (fun e2 => ?_)
        · walk_at "wp"
          refine ⟨t, l, rfl, G1.T, fun r2 H2 d2 G2 => ?_⟩
          obtain ⟨d3, d4⟩ := d2
          walk_at "wp"
          refine w_ite (fun e => ?_) (fun e => ?_)
          · walk_at "wp"
            exact k _ _ dn.1 dn.2 ((G0.trans G1).trans G2)
          · walk_at "wp"
            rw [p18]
            refine w_ite (fun e3 => ?_) (fun e3 => ?_)
            · walk_at "wp"
              exact k _ _ dn.1 dn.2 ((G0.trans G1).trans G2)
            · walk_at "wp"
              exact k _ _ ⟨by omega, by omega⟩ (by omega) ((G0.trans G1).trans G2)
        · walk_at "wp"
          refine w_ite (fun e => ?_) (fun e => ?_)
          · walk_at "wp"
            exact k _ _ dn.1 dn.2 (G0.trans G1)
          · walk_at "wp"
            rw [p18]
            refine w_ite (fun e3 => ?_) (fun e3 => ?_)
            · walk_at "wp"
              exact k _ _ dn.1 dn.2 (G0.trans G1)
            · walk_at "wp"
              exact k _ _ ⟨by omega, by omega⟩ (by omega) (G0.trans G1)

abbrev natv (xs : List Nat) : List V := xs.map fun (n : Nat) => V.int ((n : Nat) : Int)
theorem natv_get {xs : List Nat} {i : Nat} (h : i < xs.length) : (natv xs)[i]? = some (.int ((xs.getD i 0 : Nat) : Int)) := by
  rw [List.getElem?_map, List.getElem?_eq_getElem h, List.getD_eq_getElem?_getD, List.getElem?_eq_getElem h]
  rfl
theorem natv_len (xs : List Nat) : (natv xs).length = xs.length := List.length_map _
theorem natv_add (xs : List Nat) (x : Nat) : natv (xs ++ [x]) = natv xs ++ [V.int (x : Int)] := List.map_append
theorem band1 (n : Nat) : Builtin.bitAnd (n : Int) 1 = ((n % 2 : Nat) : Int) := by
  rw [PyProof.Rows.bitAnd_m1]
  omega
theorem fm2 (n : Nat) : (n : Int).fmod 2 = ((n % 2 : Nat) : Int) := by
  rw [Int.fmod_eq_emod_of_nonneg _ (by decide)]
  omega
def spRound : Sp := fun vs H Q _ => ∃ (a : Addr) (xs : List Nat), vs = [.ref a] ∧ H a = some (.tup (natv xs)) ∧ xs.length ≤ 2000 ∧ Nb xs ∧ (∀ x ∈ xs, x < 2 ^ 64) ∧ ∀ (p : Addr) (H' : Hp), Same H H' → H' p = some (.tup (natv (rnd xs))) → Q (.ref p) H'
abbrev s_one_round : Stmt := top 2
theorem c_one_round : FnScope ["numbers", "after", "place"] ["numbers"] (defScope s_one_round) := ⟨rfl, rfl, rfl, by decide +kernel, rfl, by decide +kernel, by decide +kernel⟩

theorem ok_round {f : Addr} {fd : FuncData} (F : Fun K "one_round" "one_round" s_one_round f fd) (T : Txt mg) (C_mix : Cl P w K mg base 1 "mix" ["a", "b"] spMix) : FnOk P w K mg base CX0 2 f fd ["numbers"] spRound := by
  refine F.ok c_one_round (fun vs H Q E h => ?_) (fun cdv A outer s H vs Q E hr h => ?_)
  · obtain ⟨a, xs, rfl, _⟩ := h
    rfl
  · obtain ⟨a, xs, rfl, ha, hl, hn, hm, k⟩ := h
    refine ⟨_, (pss_cons (ps_if (pt_not (pt_truth (pv 0) (by intro _; rfl))) (pss_one (ps_ret (pe_tup pa_nil))) pss_nil)
      (pss_cons (ps_set (i := 1) c_one_round.nd rfl (Or.inl rfl) (pe_lst (pa_cons (pe_op op_and (pe_ix ix_tup (pv 0) pe_int (fun _ _ => rfl)) pe_int) pa_nil)))
      (pss_cons (ps_for PassesOwn.never rfl (pi_range2 (by rfl) T.n_range (pa_cons pe_int (pa_cons (pe_callB call_len_seq (by rfl) T.n_len (by decide +kernel) (pa_cons (pv 0) pa_nil)) pa_nil))) (pg_name (i := 2) c_one_round.nd rfl (Or.inl rfl)) (pss_one (ps_expr (pe_bm PySem.F.plainAttrs_list PySem.F.slot_list_append PySem.F.type_list_append mt_append (pv 1) (pa_cons (pe_cl C_mix (hr.mono (by omega)) (by rfl) (pa_cons (pe_ix ix_tup (pv 0) (pe_op op_sub (pv 2) pe_int) (fun _ _ => rfl)) (pa_cons (pe_ix ix_tup (pv 0) (pv 2) (fun _ _ => rfl)) pa_nil))) pa_nil)))))
      (pss_one (ps_ret (pe_callTy call_tuple_of (by rfl) T.n_tuple (by decide +kernel) (pa_cons (pv 1) pa_nil))))))), ?_⟩
    walk_at "wp"
    refine ⟨_, .inr (.inl ⟨_, .of ha, rfl⟩), ?_⟩
    cases xs with
    | nil =>
      refine iteT ?_
      walk_at "wp"
      refine ⟨Nat.zero_le _, fun p np => ?_⟩
      exact k p _ (same_new np) upd_same
    | cons x0 xr =>
    refine iteF ?_
    walk_at "wp"
    rw [band1]
    generalize hxs : x0 :: xr = xs at ha hl hn hm k
    have h0 : 0 < xs.length := by rw [← hxs]; exact Nat.succ_pos _
    have e0 : x0 = xs.getD 0 0 := by rw [← hxs]; rfl
    refine ⟨szle (by show 1 ≤ _; decide), fun o no => ?_⟩
    have ano : a ≠ o := fun e => by rw [e, no] at ha; cases ha
    have ll : (natv xs).length = xs.length := natv_len xs
    walk_at "wp"
    refine ⟨⟨by decide, by decide, by omega, by omega⟩, ?_⟩
    have en : (((natv xs).length : Int) - 1).toNat = xs.length - 1 := by omega
    rw [en]
    refine for_range (lo := 1) (n := xs.length - 1) (fun i σ H2 => ∃ (v : Option V), σ = [some (.ref a), some (.ref o), v] ∧ H2 o = some (.lst (natv (rTo xs (i + 1)))) ∧ Same H H2) ⟨none, rfl, ?_, same_new no⟩ ?_ ?_
    · rw [upd_same, e0]
      rfl
    · rintro i σ H2 hi ⟨v, rfl, ho, sm⟩
      have ha2 := sm _ _ ha
      have hsz : (natv (rTo xs (i + 1))).length < sizeLine := szlt (by rw [natv_len, rTo_len]; omega)
      walk_at "wp"
      refine w_ixT (.of ha2) (at_of (j := i) (by omega) (natv_get (by omega))) ?_
      walk_at "wp"
      refine w_ixT (.of ha2) (at_of (j := i + 1) (by omega) (natv_get (by omega))) ?_
      walk_at "wp"
      refine ⟨_, _, rfl, hn i (by omega), all_D hm (by omega), all_D hm (by omega), ?_⟩
      walk_at "wp"
      refine ⟨_, rfl, ?_, fun b u hb => ?_⟩
      · rw [upd_same]
        show _ = some (HO.lst (natv (rTo xs (i + 1) ++ [rAt xs (i + 1)])))
        rw [natv_add]
        rfl
      · rw [upd_ne (fun e => by rw [e, no] at hb; cases hb)]
        exact sm _ _ hb
    · rintro σ H2 ⟨v, rfl, ho, sm⟩
      walk_at "wp"
      intro p np
      refine k p _ (sm.trans (same_new np)) ?_
      rw [upd_same]
      have : xs.length - 1 + 1 = xs.length := by omega
      rw [this]
      rfl
def spLround : Sp := fun vs H Q _ => ∃ (a : Addr) (xs : List Nat), vs = [.ref a] ∧ H a = some (.lst (natv xs)) ∧ xs.length ≤ 2000 ∧ Nb xs ∧ (∀ x ∈ xs, x < 2 ^ 64) ∧ ∀ (p : Addr) (H' : Hp), Same H H' → H' p = some (.lst (natv (rnd xs))) → Q (.ref p) H'
abbrev s__law_round : Stmt := top 8
theorem c__law_round : FnScope ["numbers", "row", "k", "number"] ["numbers"] (defScope s__law_round) := ⟨rfl, rfl, rfl, by decide +kernel, rfl, by decide +kernel, by decide +kernel⟩

theorem ok_lround {f : Addr} {fd : FuncData} (F : Fun K "_law_round" "_law_round" s__law_round f fd) (T : Txt mg) (C__law_mix : Cl P w K mg base 1 "_law_mix" ["before", "number"] spMix) : FnOk P w K mg base CX0 2 f fd ["numbers"] spLround := by
  refine F.ok c__law_round (fun vs H Q E h => ?_) (fun cdv A outer s H vs Q E hr h => ?_)
  · obtain ⟨a, xs, rfl, _⟩ := h
    rfl
  · obtain ⟨a, xs, rfl, ha, hl, hn, hm, k⟩ := h
    have ll : (natv xs).length = xs.length := natv_len xs
    refine ⟨_, (pss_cons (ps_setLc (i := 1) (own := [("number", 3)]) (by rfl) c__law_round.nd rfl rfl (sw_true rfl rfl rfl (by decide +kernel)) (pi_list (pe_slice sl_list (pv 0) po_none (po_some pe_int))) (blkOk_by (own := [("number", 3)]) (N := ["numbers", "row", "k", "number"]) (sc := defScope s__law_round) (by decide +kernel)) (fun _ _ _ _ _ => pg_name (i := 3) c__law_round.nd rfl (Or.inl rfl)) (fun _ _ _ _ _ => pts_nil) (fun _ _ _ _ _ => (pe_op op_modN (pe_callTy call_int1 (by rfl) T.n_int (by decide +kernel) (pa_cons (pv 3) pa_nil)) pe_int)))
      (pss_cons (ps_for PassesOwn.never rfl (pi_range2 (by rfl) T.n_range (pa_cons pe_int (pa_cons (pe_callB call_len_seq (by rfl) T.n_len (by decide +kernel) (pa_cons (pv 0) pa_nil)) pa_nil))) (pg_name (i := 2) c__law_round.nd rfl (Or.inl rfl)) (pss_one (ps_expr (pe_bm PySem.F.plainAttrs_list PySem.F.slot_list_append PySem.F.type_list_append mt_append (pv 1) (pa_cons (pe_cl C__law_mix (hr.mono (by omega)) (by rfl) (pa_cons (pe_ix ix_list (pv 0) (pe_op op_sub (pv 2) pe_int) (fun _ _ => rfl)) (pa_cons (pe_ix ix_list (pv 0) (pv 2) (fun _ _ => rfl)) pa_nil))) pa_nil)))))
      (pss_one (ps_ret (pv 1))))), ?_⟩
    walk_at "wp"
    refine ⟨a, _, rfl, .of ha, fun c nc => ?_⟩
    walk_at "wp"
    intro D nD
    rw [show cutV (natv xs) none (some 1) = (natv xs).take 1 from cut_to _ 1] at nD ⊢
    have ca : a ≠ c := fun e => by rw [e, nc] at ha; cases ha
    have cD : c ≠ D := fun e => by rw [← e, upd_same] at nD; cases nD
    have nDH : H D = none := (same_new nc).free nD
    refine lc_list (K := K) (a := c) (xs := (natv xs).take 1) (fun i H2 => H2 D = some (.lst (natv (rTo xs i))) ∧ Same H H2 ∧ H2 c = some (.lst ((natv xs).take 1))) ⟨upd_same, (same_new nc).trans (same_new nD), (upd_ne cD).trans upd_same⟩ (fun i H2 _ h => .of h.2.2) ?_ ?_
    · rintro i x H2 hx ⟨d1, d2, d3⟩
      have hi := (List.getElem?_eq_some_iff.mp hx).1
      rw [List.length_take, ll] at hi
      have i0 : i = 0 := by omega
      subst i0
      have hx0 : x = .int ((xs.getD 0 0 : Nat) : Int) := by
        rw [List.getElem?_take, if_pos (by decide), natv_get (by omega)] at hx
        exact (Option.some.inj hx).symm
      subst hx0
      walk_at "wp"
      refine ⟨rfl, ?_⟩
      walk_at "wp"
      rw [fm2]
      refine ⟨_, d1, szlt (by rw [natv_len, rTo_len]; omega), ?_, fun b u hb => ?_, (upd_ne cD).trans d3⟩
      · rw [upd_same]
        rfl
      · rw [upd_ne (fun e => by rw [e, nDH] at hb; cases hb)]
        exact d2 _ _ hb
    · rintro H2 ⟨d1, d2, d3⟩
      have ha2 := d2 _ _ ha
      walk_at "wp"
      refine ⟨⟨by decide, by decide, by omega, by omega⟩, ?_⟩
      have en : (((natv xs).length : Int) - 1).toNat = xs.length - 1 := by omega
      rw [en]
      have el : ((natv xs).take 1).length = min 1 xs.length := by rw [List.length_take, ll]
      rw [el] at d1
      refine for_range (lo := 1) (n := xs.length - 1) (fun i σ H3 => ∃ (v v2 : Option V), σ = [some (.ref a), some (.ref D), v, v2] ∧ H3 D = some (.lst (natv (rTo xs (i + min 1 xs.length)))) ∧ Same H H3) ⟨_, _, rfl, ?_, d2⟩ ?_ ?_
      · rw [d1, Nat.zero_add]
      · rintro i σ H3 hi ⟨v, v2, rfl, ho, sm⟩
        have e1 : i + min 1 xs.length = i + 1 := by omega
        have e2 : i + 1 + min 1 xs.length = i + 1 + 1 := by omega
        rw [e1] at ho
        rw [e2]
        have ha2 := sm _ _ ha
        have hsz : (natv (rTo xs (i + 1))).length < sizeLine := szlt (by rw [natv_len, rTo_len]; omega)
        walk_at "wp"
        refine w_ixL (.of ha2) (at_of (j := i) (by omega) (natv_get (by omega))) ?_
        walk_at "wp"
        refine w_ixL (.of ha2) (at_of (j := i + 1) (by omega) (natv_get (by omega))) ?_
        walk_at "wp"
        refine ⟨_, _, rfl, hn i (by omega), all_D hm (by omega), all_D hm (by omega), ?_⟩
        walk_at "wp"
        refine ⟨_, _, rfl, ?_, fun b u hb => ?_⟩
        · rw [upd_same]
          show _ = some (HO.lst (natv (rTo xs (i + 1) ++ [rAt xs (i + 1)])))
          rw [natv_add]
          rfl
        · rw [upd_ne (fun e => by rw [e, nDH] at hb; cases hb)]
          exact sm _ _ hb
      · rintro σ H3 ⟨v, v2, rfl, ho, sm⟩
        walk_at "wp"
        refine k D _ sm ?_
        rw [ho]
        have : xs.length - 1 + min 1 xs.length = xs.length := by omega
        rw [this]
        rfl
theorem nb_add {ys : List Nat} {z w : Nat} (h : Nb (ys ++ [z])) (n : z ≠ w) : Nb ((ys ++ [z]) ++ [w]) := fun i hi => by
  rw [List.length_append, List.length_append, List.length_singleton, List.length_singleton] at hi
  by_cases e : i + 1 < (ys ++ [z]).length
  · have := h i e
    rw [List.getD_eq_getElem?_getD, List.getD_eq_getElem?_getD] at this ⊢
    rw [List.getElem?_append_left (by omega), List.getElem?_append_left e]
    exact this
  · rw [List.length_append, List.length_singleton] at e
    have ei : i = ys.length := by omega
    subst ei
    rw [List.getD_eq_getElem?_getD, List.getD_eq_getElem?_getD]
    rw [List.getElem?_append_left (by rw [List.length_append]; exact Nat.lt_succ_self _), List.getElem?_append_right (Nat.le_refl _), Nat.sub_self]
    rw [List.getElem?_append_right (by rw [List.length_append]; exact Nat.le_refl _), List.length_append, List.length_singleton, Nat.sub_self]
    exact n
theorem nb_nil : Nb [] := fun i hi => absurd hi (by show ¬ i + 1 < 0; omega)
theorem nb_one (x : Nat) : Nb [x] := fun i hi => absurd hi (by show ¬ i + 1 < 1; omega)
theorem at_nats {H : Hp} {p : Addr} {cs : List Nat} (h : H p = some (.tup (natv cs))) : At H (.ref p) (.tuple (cs.map fun (n : Nat) => .int ((n : Nat) : Int))) :=
  .tup h (by
    clear h
    induction cs with
    | nil => exact .nil
    | cons c r ih => exact .cons (.int _) ih)
theorem dep_nats {n : Nat} {cs : List Nat} (h : cs.length ≤ 1000000) : Dep (n + 1) (.tuple (cs.map fun (n : Nat) => .int ((n : Nat) : Int))) := .tup (by rw [List.length_map]; exact h) fun d hd => by
  obtain ⟨i, _, rfl⟩ := List.mem_map.mp hd
  exact .int _ _
def spLaw (K : PySem.W.Frag) : Sp := fun vs H Q _ => ∃ (a : Addr) (ns : List Int), vs = [.ref a] ∧ SqL K H a (ns.map V.int) ∧ ns.length ≤ 63 ∧ ∀ H', Q (.bl true) H'
abbrev s_law : Stmt := top 11
theorem c_law : FnScope ["script", "tape", "most", "k", "numbers", "number", "told", "j"] ["script"] (defScope s_law) := ⟨rfl, rfl, rfl, by decide +kernel, rfl, by decide +kernel, by decide +kernel⟩

theorem ok_law {f : Addr} {fd : FuncData} (F : Fun K "law" "law" s_law f fd) (T : Txt mg) (C__law_tape : Cl P w K mg base 1 "_law_tape" ["script"] (spTape K)) (C__law_draw : Cl P w K mg base 1 "_law_draw" ["tape", "many"] spDraw)
    (C__law_number : Cl P w K mg base 2 "_law_number" ["tape"] spNum) (C__law_other : Cl P w K mg base 3 "_law_other" ["tape", "number"] spOther) (C_one_round : Cl P w K mg base 2 "one_round" ["numbers"] spRound) (C__law_round : Cl P w K mg base 2 "_law_round" ["numbers"] spLround) (C__law_alike : Cl P w K mg base 3 "_law_alike" ["told", "due"] (spA 3)) : FnOk P w K mg base CX0 4 f fd ["script"] (spLaw K) := by
  refine F.ok c_law (fun vs H Q E h => ?_) (fun cdv A outer s H vs Q E hr h => ?_)
  · obtain ⟨a, ns, rfl, _⟩ := h
    rfl
  · obtain ⟨a, ns, rfl, hS, _, k⟩ := h
    refine ⟨_, (pss_cons (ps_set (i := 1) c_law.nd rfl (Or.inl rfl) (pe_cl C__law_tape (hr.mono (by omega)) (by rfl) (pa_cons (pv 0) pa_nil)))
      (pss_cons (ps_set (i := 2) c_law.nd rfl (Or.inl rfl) pe_int)
      (pss_cons (ps_for PassesOwn.never rfl (pi_range1 (by rfl) T.n_range (pa_cons (pe_cl C__law_draw (hr.mono (by omega)) (by rfl) (pa_cons (pv 1) (pa_cons pe_int pa_nil))) pa_nil)) (pg_name (i := 3) c_law.nd rfl (Or.inl rfl)) (pss_one (ps_set (i := 2) c_law.nd rfl (Or.inl rfl) (pe_op op_mul (pv 2) pe_int))))
      (pss_cons (ps_set (i := 4) c_law.nd rfl (Or.inl rfl) (pe_lst pa_nil))
      (pss_cons (ps_for PassesOwn.never rfl (pi_range1 (by rfl) T.n_range (pa_cons (pe_cl C__law_draw (hr.mono (by omega)) (by rfl) (pa_cons (pv 1) (pa_cons pe_int pa_nil))) pa_nil)) (pg_name (i := 3) c_law.nd rfl (Or.inl rfl)) (pss_cons (ps_set (i := 5) c_law.nd rfl (Or.inl rfl) (pe_cl C__law_number (hr.mono (by omega)) (by rfl) (pa_cons (pv 1) pa_nil)))
      (pss_cons (ps_if (PW.pt (pw_and (pt_truth (pv 4) (by intro _; rfl)) (pw_and1 (pt_cmpR op_eq (pe_cl C__law_draw (hr.mono (by omega)) (by rfl) (pa_cons (pv 1) (pa_cons pe_int pa_nil))) pe_int (nomark _))))) (pss_one (ps_set (i := 5) c_law.nd rfl (Or.inl rfl) (pe_cl C__law_other (hr.mono (by omega)) (by rfl) (pa_cons (pv 1) (pa_cons (pe_ix ix_list (pv 4) (pe_un un_neg pe_int) (fun _ _ => rfl)) pa_nil))))) pss_nil)
      (pss_cons (ps_set (i := 5) c_law.nd rfl (Or.inl rfl) (pe_op op_modN (pe_callTy call_int1 (by rfl) T.n_int (by decide +kernel) (pa_cons (pv 5) pa_nil)) (pv 2)))
      (pss_cons (ps_if (PW.pt (pw_and (pt_truth (pv 4) (by intro _; rfl)) (pw_and1 (pt_cmpR op_eq (pe_ix ix_list (pv 4) (pe_un un_neg pe_int) (fun _ _ => rfl)) (pv 5) (nomark _))))) (pss_one (ps_set (i := 5) c_law.nd rfl (Or.inl rfl) (pe_op op_sub (pe_op op_add (pv 5) pe_int) (pe_op op_mul pe_int (pe_op op_modN (pe_callTy call_int1 (by rfl) T.n_int (by decide +kernel) (pa_cons (pv 5) pa_nil)) pe_int))))) pss_nil)
      (pss_one (ps_expr (pe_bm PySem.F.plainAttrs_list PySem.F.slot_list_append PySem.F.type_list_append mt_append (pv 4) (pa_cons (pv 5) pa_nil)))))))))
      (pss_cons (ps_for PassesOwn.never rfl (pi_range1 (by rfl) T.n_range (pa_cons pe_int pa_nil)) (pg_name (i := 3) c_law.nd rfl (Or.inl rfl)) (pss_cons (ps_set (i := 6) c_law.nd rfl (Or.inl rfl) (pe_cl C_one_round (hr.mono (by omega)) (by rfl) (pa_cons (pe_callTy call_tuple_of (by rfl) T.n_tuple (by decide +kernel) (pa_cons (pv 4) pa_nil)) pa_nil)))
      (pss_cons (ps_if (pt_not (pt_truth (pe_cl C__law_alike (hr.mono (by omega)) (by rfl) (pa_cons (pv 6) (pa_cons (pe_callTy call_tuple_of (by rfl) T.n_tuple (by decide +kernel) (pa_cons (pe_cl C__law_round (hr.mono (by omega)) (by rfl) (pa_cons (pv 4) pa_nil)) pa_nil)) pa_nil))) (by intro _; rfl))) (pss_one (ps_ret pe_bl)) pss_nil)
      (pss_cons (ps_set (i := 2) c_law.nd rfl (Or.inl rfl) (pe_op op_mul pe_int (pe_bits (pe_op op_sub (pv 2) pe_int))))
      (pss_cons (ps_for PassesOwn.never rfl (pi_range1 (by rfl) T.n_range (pa_cons (pe_callB call_len_seq (by rfl) T.n_len (by decide +kernel) (pa_cons (pv 6) pa_nil)) pa_nil)) (pg_name (i := 7) c_law.nd rfl (Or.inl rfl)) (pss_one (ps_if (PW.pt (pw_or (pt_cmpR op_ge (pe_ix ix_tup (pv 6) (pv 7) (fun _ _ => rfl)) (pv 2) (nomark _)) (pw_or1 (pt_cmpR (op_eqD (hu64 hr)) (pe_slice sl_tupA (pv 6) (po_some (pv 7)) (po_some (pe_op op_add (pv 7) pe_int))) (pe_slice sl_tupA (pv 6) (po_some (pe_op op_add (pv 7) pe_int)) (po_some (pe_op op_add (pv 7) pe_int))) (nomark _))))) (pss_one (ps_ret pe_bl)) pss_nil)))
      (pss_one (ps_set (i := 4) c_law.nd rfl (Or.inl rfl) (pe_callTy call_list_of (by rfl) T.n_list (by decide +kernel) (pa_cons (pv 6) pa_nil)))))))))
      (pss_one (ps_ret pe_bl)))))))), ?_⟩
    walk_at "wp"
    refine ⟨a, ns, rfl, hS, fun t l H0 s0 T0 => ?_⟩
    walk_at "wp"
    refine ⟨t, l, _, rfl, T0, by decide, fun r0 H1 l0 u0 G1 => ?_⟩
    replace u0 : r0 < 59 := u0
    walk_at "wp"
    refine ⟨by omega, by omega, ?_⟩
    refine for_range (lo := 0) (n := r0.toNat) (fun i σ H2 => ∃ (v1 : Option V), σ = [some (.ref a), some (.ref t), some (.int ((2 ^ (i + 1) : Nat) : Int)), v1, none, none, none, none] ∧ H2 = H1) ⟨none, rfl, rfl⟩ ?_ ?_
    · rintro i σ H2 hi ⟨v, rfl, rfl⟩
      walk_at "wp"
      have e : ((2 ^ (i + 1) : Nat) : Int) * 2 = ((2 ^ (i + 1 + 1) : Nat) : Int) := by
        rw [Nat.pow_succ 2 (i + 1), Int.natCast_mul]
        rfl
      refine ⟨some (.int (0 + (i : Int))), ?_, rfl⟩
      rw [← e]
      rfl
    rintro σ H2 ⟨v1, rfl, rfl⟩
    have hM1 : 2 ^ (r0.toNat + 1) ≤ 2 ^ 59 := Nat.pow_le_pow_right (by decide) (by omega)
    have hM2 : 2 ^ (r0.toNat + 1) = 2 * 2 ^ r0.toNat := by rw [Nat.pow_succ, Nat.mul_comm]
    have hM3 : 0 < 2 ^ r0.toNat := Nat.two_pow_pos _
    generalize 2 ^ (r0.toNat + 1) = M at hM1 hM2
    generalize 2 ^ r0.toNat = M2 at hM2 hM3
    have hM0 : (M : Int) ≠ 0 := by omega
    walk_at "wp"
    refine ⟨Nat.zero_le _, fun o no => ?_⟩
    obtain ⟨oH, ot⟩ := G1.free no
    have G2 := (Go.refl G1.T).new (x := .lst []) no
    walk_at "wp"
    refine ⟨t, l, _, rfl, G2.T, by decide, fun r1 H3 l1 u1 G3 => ?_⟩
    replace u1 : r1 < 30 := u1
    have ho3 := G3.at upd_same ot.1
    walk_at "wp"
    refine ⟨by omega, by omega, ?_⟩
    refine for_range (lo := 0) (n := r1.toNat) (fun i σ H4 => ∃ (v1 v2 : Option V) (xs : List Nat), σ = [some (.ref a), some (.ref t), some (.int (M : Int)), v1, some (.ref o), v2, none, none] ∧ H4 o = some (.lst (natv xs)) ∧ xs.length = i ∧ Nb xs ∧ (∀ x ∈ xs, x < M) ∧ Go t l H2 H4) ⟨_, _, [], rfl, ho3, rfl, nb_nil, (fun x hx => absurd hx List.not_mem_nil), G2.trans G3⟩ ?_ ?_
    · rintro i σ H4 hi ⟨v1, v2, xs, rfl, ho, hl, hn, hm, G4⟩
      walk_at "wp"
      refine ⟨t, l, rfl, G4.T, fun z H5 ⟨z0, z1⟩ G5 => ?_⟩
      have ho5 := G5.at ho ot.1
      have G45 := G4.trans G5
      have oH2 : H2 o = none := no
      walk_at "wp"
      refine ⟨_, .inl ⟨_, .of ho5, rfl⟩, ?_⟩
      rcases xs.eq_nil_or_concat with rfl | ⟨ys, y, rfl⟩
      · refine iteF ?_
        walk_at "wp"
        refine ⟨_, .inl ⟨_, .of ho5, rfl⟩, ?_⟩
        refine iteF ?_
        walk_at "wp"
        have fz := fm (a := z) (b := (M : Int)) (by omega)
        obtain ⟨q, hq⟩ := Int.eq_ofNat_of_zero_le fz.1
        rw [hq] at fz ⊢
        refine ⟨_, _, [q], rfl, upd_same, by rw [← hl]; rfl, nb_one q, fun x hx => ?_, G45.put oH2 ot⟩
        rw [List.mem_singleton.mp hx]
        omega
      · rw [List.concat_eq_append] at *
        have nz : (!(natv (ys ++ [y])).isEmpty) = true := by simp
        have ylt := hm y (List.mem_append_right _ (List.mem_singleton.mpr rfl))
        have hy : atI (natv (ys ++ [y])) (-1) = some (.int (y : Int)) := by rw [natv_add]; exact atI_last _ _
        rw [nz]
        have hsz : (natv (ys ++ [y])).length < sizeLine := szlt (by rw [natv_len]; omega)
        have fin : ∀ (H6 : Hp) (z : Int) (G6 : Go t l H2 H6) (ho6 : H6 o = some (.lst (natv (ys ++ [y])))) (q : Nat), z.fmod (M : Int) = (q : Int) → q < M → ∃ w : Nat, ((w : Int) = if y = q then (q : Int) + 1 - 2 * ((q : Int).fmod 2) else (q : Int)) ∧ w < M ∧ y ≠ w := fun H6 z G6 ho6 q hq hlt => by
          by_cases e : y = q
          · rw [if_pos e, fm2]
            refine ⟨q + 1 - 2 * (q % 2), ?_, ?_, ?_⟩ <;> omega
          · rw [if_neg e]
            exact ⟨q, rfl, hlt, e⟩
        refine iteT ?_
        walk_at "wp"
        refine ⟨t, l, _, rfl, G5.T, by decide, fun r6 H6 l6 u6 G6 => ?_⟩
        have ho6 := G6.at ho5 ot.1
        have G46 := G45.trans G6
        walk_at "wp"
        refine w_ite (fun e => ?_) (fun e => ?_)
        · walk_at "wp"
          refine ⟨t, l, _, rfl, ⟨by omega, by omega⟩, G6.T, fun z7 H7 d7 _ G7 => ?_⟩
          have ho7 := G7.at ho6 ot.1
          have G47 := G46.trans G7
          walk_at "wp"
          refine ⟨_, .inl ⟨_, .of ho7, rfl⟩, ?_⟩
          rw [nz]
          refine iteT ?_
          walk_at "wp"
          have fz := fm (a := z7) (b := (M : Int)) (by omega)
          obtain ⟨q, hq⟩ := Int.eq_ofNat_of_zero_le fz.1
          obtain ⟨w, hw, hwl, hwn⟩ := fin H7 z7 G47 ho7 q hq (by omega)
          rw [hq]
          refine w_ite (fun e3 => ?_) (fun e3 => ?_)
          · rw [if_pos (by omega)] at hw
            walk_at "wp"
            rw [← hw]
            refine ⟨_, _, (ys ++ [y]) ++ [w], rfl, by rw [upd_same, natv_add (ys ++ [y])], by rw [List.length_append, hl]; rfl, nb_add hn hwn, fun x hx => ?_, Go.put G47 oH2 ot⟩
            rcases List.mem_append.mp hx with h | h
            · exact hm x h
            · rw [List.mem_singleton.mp h]; exact hwl
          · rw [if_neg (by omega)] at hw
            walk_at "wp"
            rw [← hw]
            refine ⟨_, _, (ys ++ [y]) ++ [w], rfl, by rw [upd_same, natv_add (ys ++ [y])], by rw [List.length_append, hl]; rfl, nb_add hn hwn, fun x hx => ?_, Go.put G47 oH2 ot⟩
            rcases List.mem_append.mp hx with h | h
            · exact hm x h
            · rw [List.mem_singleton.mp h]; exact hwl
        · walk_at "wp"
          refine ⟨_, .inl ⟨_, .of ho6, rfl⟩, ?_⟩
          rw [nz]
          refine iteT ?_
          walk_at "wp"
          have fz := fm (a := z) (b := (M : Int)) (by omega)
          obtain ⟨q, hq⟩ := Int.eq_ofNat_of_zero_le fz.1
          obtain ⟨w, hw, hwl, hwn⟩ := fin H6 z G46 ho6 q hq (by omega)
          rw [hq]
          refine w_ite (fun e3 => ?_) (fun e3 => ?_)
          · rw [if_pos (by omega)] at hw
            walk_at "wp"
            rw [← hw]
            refine ⟨_, _, (ys ++ [y]) ++ [w], rfl, by rw [upd_same, natv_add (ys ++ [y])], by rw [List.length_append, hl]; rfl, nb_add hn hwn, fun x hx => ?_, Go.put G46 oH2 ot⟩
            rcases List.mem_append.mp hx with h | h
            · exact hm x h
            · rw [List.mem_singleton.mp h]; exact hwl
          · rw [if_neg (by omega)] at hw
            walk_at "wp"
            rw [← hw]
            refine ⟨_, _, (ys ++ [y]) ++ [w], rfl, by rw [upd_same, natv_add (ys ++ [y])], by rw [List.length_append, hl]; rfl, nb_add hn hwn, fun x hx => ?_, Go.put G46 oH2 ot⟩
            rcases List.mem_append.mp hx with h | h
            · exact hm x h
            · rw [List.mem_singleton.mp h]; exact hwl
    rintro σ H4 ⟨v1, v2, xs, rfl, ho, hl, hn, hm, G4⟩
    have hM60 : M ≤ 2 ^ 60 := by omega
    have hMge : 2 ≤ M := by omega
    walk_at "wp"
    refine ⟨by omega, by omega, ?_⟩
    refine for_range (lo := 0) (n := (4 : Int).toNat) (fun i σ H5 => ∃ (v1 v2 v3 v4 : Option V) (xs : List Nat) (o M : Nat), σ = [some (.ref a), some (.ref t), some (.int ((M : Nat) : Int)), v1, some (.ref o), v2, v3, v4] ∧ H5 o = some (.lst (natv xs)) ∧ xs.length ≤ 30 ∧ Nb xs ∧ (∀ x ∈ xs, x < M) ∧ 2 ≤ M ∧ M ≤ 2 ^ 60) ⟨_, _, none, none, xs, o, M, rfl, ho, by omega, hn, hm, hMge, hM60⟩ ?_ ?_
    · clear hn hm hl ho G4 hM60 hMge hM0 hM1 hM2
      rintro i σ H5 hi ⟨v1, v2, v3, v4, xs, o, M, rfl, ho, hl, hn, hm, hM2, hM60⟩
      have h64 : ∀ x ∈ xs, x < 2 ^ 64 := fun x hx => by have := hm x hx; omega
      walk_at "wp"
      intro p np
      have op : o ≠ p := fun e => by rw [← e, ho] at np; cases np
      walk_at "wp"
      refine ⟨p, xs, rfl, upd_same, by omega, hn, h64, fun q6 H6 s6 h6 => ?_⟩
      have ho6 := s6 _ _ ((upd_ne op).trans ho)
      walk_at "wp"
      refine ⟨o, xs, rfl, ho6, by omega, hn, h64, fun q7 H7 s7 h7 => ?_⟩
      have h67 := s7 _ _ h6
      walk_at "wp"
      intro q8 n8
      have h68 := (same_new (o := .tup (natv (rnd xs))) n8) _ _ h67
      walk_at "wp"
      refine ⟨_, _, _, rfl, at_nats h68, at_nats upd_same, dep_nats (by rw [rnd_len]; omega), ?_⟩
      walk_at "wp"
      have hq0 : ((M : Nat) : Int) - 1 = ((M - 1 : Nat) : Int) := by omega
      rw [hq0]
      have hqb : M - 1 < 2 ^ Builtin.Int.intBits ((M - 1 : Nat) : Int) := by
        have := (intBits_le_iff (x := ((M - 1 : Nat) : Int))).mp (Nat.le_refl _)
        rwa [Int.natAbs_natCast] at this
      have hq60 : Builtin.Int.intBits ((M - 1 : Nat) : Int) ≤ 60 := intBits_le_iff.mpr (by rw [Int.natAbs_natCast]; omega)
      have hq1 : 1 ≤ Builtin.Int.intBits ((M - 1 : Nat) : Int) := bits_le (p := 0) (by omega)
      generalize Builtin.Int.intBits ((M - 1 : Nat) : Int) = q at hqb hq60 hq1
      have hR := rnd_lt (q := q) hn (fun x hx => by have := hm x hx; omega) hq1 (by omega)
      have hRn := rnd_nb hn h64
      have hRl := rnd_len xs
      generalize rnd xs = R at hR hRn hRl h6 h7 h67 h68
      have ll : (natv R).length = R.length := natv_len R
      refine ⟨by omega, by omega, ?_⟩
      have eq2 : (2 : Int) * ((q : Nat) : Int) = ((2 * q : Nat) : Int) := by omega
      rw [eq2]
      refine for_range (lo := 0) (n := ((((natv R).length : Nat) : Int)).toNat) (fun j σ H9 => ∃ v5, σ = [some (.ref a), some (.ref t), some (.int ((2 * q : Nat) : Int)), some (.int (0 + (i : Int))), some (.ref o), v2, some (.ref q6), v5] ∧ H9 q6 = some (.tup (natv R))) ⟨v4, rfl, h68⟩ ?_ ?_
      · rintro j σ H9 hj ⟨v5, rfl, h9⟩
        have hj' : j < R.length := by omega
        have ej : (0 : Int) + (j : Int) = (j : Int) := Int.zero_add _
        rw [ej]
        walk_at "wp"
        refine w_ixT (.of h9) (atI_nat (natv_get hj')) ?_
        walk_at "wp"
        have hRj : R.getD j 0 < 2 * q := all_D hR hj'
        refine w_ite (fun e => absurd e (by omega)) (fun _ => ?_)
        walk_at "wp"
        have e1 : (j : Int) + 1 = ((j + 1 : Nat) : Int) := rfl
        have e2 : (j : Int) + 2 = ((j + 1 + 1 : Nat) : Int) := by omega
        rw [e1]
        refine w_slA h9 fun p1 H10 s10 h10 => ?_
        have h10' := s10 _ _ h9
        rw [at_cut, natv_get hj'] at h10
        walk_at "wp"
        refine w_slA h10' fun p2 H11 s11 h11 => ?_
        rw [e1, e2, at_cut] at h11
        have h10'' := s11 _ _ h10
        have d1 : Dp K H11 (.ref p1) (.tuple [.int ((R.getD j 0 : Nat) : Int)]) := .tup (.of h10'') (.cons (.int _) .nil)
        have fin : ∃ e, Dp K H11 (.ref p2) e ∧ SeqAt.shaped e = true ∧ PyData.eqv (.tuple [.int ((R.getD j 0 : Nat) : Int)]) e = false := by
          by_cases hl2 : j + 1 < R.length
          · rw [natv_get hl2] at h11
            refine ⟨.tuple [.int ((R.getD (j + 1) 0 : Nat) : Int)], .tup (.of h11) (.cons (.int _) .nil), rfl, ?_⟩
            have := hRn j hl2
            show (((R.getD j 0 : Nat) : Int) == ((R.getD (j + 1) 0 : Nat) : Int) && true) = false
            rw [Bool.and_true]
            exact beq_eq_false_iff_ne.mpr (by omega)
          · rw [List.getElem?_eq_none (by omega)] at h11
            exact ⟨.tuple [], .tup (.of h11) .nil, rfl, rfl⟩
        obtain ⟨e, d2, d3, d4⟩ := fin
        refine ⟨_, _, d1, d2, rfl, d3, ?_⟩
        rw [d4]
        walk_at "wp"
        exact ⟨_, rfl, s11 _ _ h10'⟩
      · rintro σ H9 ⟨v5, rfl, h9⟩
        walk_at "wp"
        intro o2 no2
        walk_at "wp"
        refine ⟨_, _, _, _, R, o2, 2 * q, rfl, upd_same, by omega, hRn, hR, by omega, by omega⟩
    · rintro σ H5 ⟨v1, v2, v3, v4, xs, o, M, rfl, _⟩
      walk_at "wp"
      exact k _
end
theorem all_mk {l : PySem.W.OpenLaw} {w : World} {K : PySem.W.Frag} {h : Heap} {mg : Str → Option Value} {fa : Addr} (X : K.In h) (G : h.Ns mainGlobals mg) (hfa : mg "law" = some (.ref fa))
    {f0 : Addr} {od0 an0 : Option Addr} {sl0 : Array (Option Value)} {oc0 kV0 dc0 pm0 cd0 ct0 : Value}
    (a0 : PySem.W.nsIn K mainGlobals "_law_draw" = some (some (.ref f0))) (l0 : K.lookup f0 = some ⟨oc0, od0, .func (PySem.W.fnOf "_law_draw" "_law_draw" (defArgs s__law_draw) (defBody s__law_draw) (defScope s__law_draw) .none kV0 dc0 pm0 an0 cd0 ct0), sl0⟩) (c0 : PySem.W.codeIn K cd0 "_law_draw" = true) (k0 : PySem.W.keepIn K (.ref f0) = true)
    {f1 : Addr} {od1 an1 : Option Addr} {sl1 : Array (Option Value)} {oc1 kV1 dc1 pm1 cd1 ct1 : Value}
    (a1 : PySem.W.nsIn K mainGlobals "_law_tape" = some (some (.ref f1))) (l1 : K.lookup f1 = some ⟨oc1, od1, .func (PySem.W.fnOf "_law_tape" "_law_tape" (defArgs s__law_tape) (defBody s__law_tape) (defScope s__law_tape) .none kV1 dc1 pm1 an1 cd1 ct1), sl1⟩) (c1 : PySem.W.codeIn K cd1 "_law_tape" = true) (k1 : PySem.W.keepIn K (.ref f1) = true)
    {f2 : Addr} {od2 an2 : Option Addr} {sl2 : Array (Option Value)} {oc2 kV2 dc2 pm2 cd2 ct2 : Value}
    (a2 : PySem.W.nsIn K mainGlobals "_law_alike" = some (some (.ref f2))) (l2 : K.lookup f2 = some ⟨oc2, od2, .func (PySem.W.fnOf "_law_alike" "_law_alike" (defArgs s__law_alike) (defBody s__law_alike) (defScope s__law_alike) .none kV2 dc2 pm2 an2 cd2 ct2), sl2⟩) (c2 : PySem.W.codeIn K cd2 "_law_alike" = true) (k2 : PySem.W.keepIn K (.ref f2) = true)
    {f3 : Addr} {od3 an3 : Option Addr} {sl3 : Array (Option Value)} {oc3 kV3 dc3 pm3 cd3 ct3 : Value}
    (a3 : PySem.W.nsIn K mainGlobals "mix" = some (some (.ref f3))) (l3 : K.lookup f3 = some ⟨oc3, od3, .func (PySem.W.fnOf "mix" "mix" (defArgs s_mix) (defBody s_mix) (defScope s_mix) .none kV3 dc3 pm3 an3 cd3 ct3), sl3⟩) (c3 : PySem.W.codeIn K cd3 "mix" = true) (k3 : PySem.W.keepIn K (.ref f3) = true)
    {f4 : Addr} {od4 an4 : Option Addr} {sl4 : Array (Option Value)} {oc4 kV4 dc4 pm4 cd4 ct4 : Value}
    (a4 : PySem.W.nsIn K mainGlobals "_law_mix" = some (some (.ref f4))) (l4 : K.lookup f4 = some ⟨oc4, od4, .func (PySem.W.fnOf "_law_mix" "_law_mix" (defArgs s__law_mix) (defBody s__law_mix) (defScope s__law_mix) .none kV4 dc4 pm4 an4 cd4 ct4), sl4⟩) (c4 : PySem.W.codeIn K cd4 "_law_mix" = true) (k4 : PySem.W.keepIn K (.ref f4) = true)
    {f5 : Addr} {od5 an5 : Option Addr} {sl5 : Array (Option Value)} {oc5 kV5 dc5 pm5 cd5 ct5 : Value}
    (a5 : PySem.W.nsIn K mainGlobals "one_round" = some (some (.ref f5))) (l5 : K.lookup f5 = some ⟨oc5, od5, .func (PySem.W.fnOf "one_round" "one_round" (defArgs s_one_round) (defBody s_one_round) (defScope s_one_round) .none kV5 dc5 pm5 an5 cd5 ct5), sl5⟩) (c5 : PySem.W.codeIn K cd5 "one_round" = true) (k5 : PySem.W.keepIn K (.ref f5) = true)
    {f6 : Addr} {od6 an6 : Option Addr} {sl6 : Array (Option Value)} {oc6 kV6 dc6 pm6 cd6 ct6 : Value}
    (a6 : PySem.W.nsIn K mainGlobals "_law_round" = some (some (.ref f6))) (l6 : K.lookup f6 = some ⟨oc6, od6, .func (PySem.W.fnOf "_law_round" "_law_round" (defArgs s__law_round) (defBody s__law_round) (defScope s__law_round) .none kV6 dc6 pm6 an6 cd6 ct6), sl6⟩) (c6 : PySem.W.codeIn K cd6 "_law_round" = true) (k6 : PySem.W.keepIn K (.ref f6) = true)
    {f7 : Addr} {od7 an7 : Option Addr} {sl7 : Array (Option Value)} {oc7 kV7 dc7 pm7 cd7 ct7 : Value}
    (a7 : PySem.W.nsIn K mainGlobals "_law_number" = some (some (.ref f7))) (l7 : K.lookup f7 = some ⟨oc7, od7, .func (PySem.W.fnOf "_law_number" "_law_number" (defArgs s__law_number) (defBody s__law_number) (defScope s__law_number) .none kV7 dc7 pm7 an7 cd7 ct7), sl7⟩) (c7 : PySem.W.codeIn K cd7 "_law_number" = true) (k7 : PySem.W.keepIn K (.ref f7) = true)
    {f8 : Addr} {od8 an8 : Option Addr} {sl8 : Array (Option Value)} {oc8 kV8 dc8 pm8 cd8 ct8 : Value}
    (a8 : PySem.W.nsIn K mainGlobals "_law_other" = some (some (.ref f8))) (l8 : K.lookup f8 = some ⟨oc8, od8, .func (PySem.W.fnOf "_law_other" "_law_other" (defArgs s__law_other) (defBody s__law_other) (defScope s__law_other) .none kV8 dc8 pm8 an8 cd8 ct8), sl8⟩) (c8 : PySem.W.codeIn K cd8 "_law_other" = true) (k8 : PySem.W.keepIn K (.ref f8) = true)
    {f9 : Addr} {od9 an9 : Option Addr} {sl9 : Array (Option Value)} {oc9 kV9 dc9 pm9 cd9 ct9 : Value}
    (a9 : PySem.W.nsIn K mainGlobals "law" = some (some (.ref f9))) (l9 : K.lookup f9 = some ⟨oc9, od9, .func (PySem.W.fnOf "law" "law" (defArgs s_law) (defBody s_law) (defScope s_law) .none kV9 dc9 pm9 an9 cd9 ct9), sl9⟩) (c9 : PySem.W.codeIn K cd9 "law" = true) (k9 : PySem.W.keepIn K (.ref f9) = true)
    (z_range : PySem.W.nsIn K mainGlobals "range" = some none)
    (z_tuple : PySem.W.nsIn K mainGlobals "tuple" = some none)
    (z_len : PySem.W.nsIn K mainGlobals "len" = some none)
    (z_list : PySem.W.nsIn K mainGlobals "list" = some none)
    (z_int : PySem.W.nsIn K mainGlobals "int" = some none)
    (z_abs : PySem.W.nsIn K mainGlobals "abs" = some none)
    (z_max : PySem.W.nsIn K mainGlobals "max" = some none)
    (z_isinstance : PySem.W.nsIn K mainGlobals "isinstance" = some none)
    (z_str : PySem.W.nsIn K mainGlobals "str" = some none)
    (z_bool : PySem.W.nsIn K mainGlobals "bool" = some none)
    : ∃ fd : FuncData, (∀ (s : Shared) (v : Value), BindsTo s fd ⟨[v], []⟩ [("script", v)]) ∧ ∀ base : Heap, K.In base → base.Ns mainGlobals mg → FnOk l.prog w K mg base CX0 4 fa fd ["script"] (spLaw K) := by
  have e := hfa.symm.trans (PySem.W.mg_of X G a9)
  cases e
  have T : Txt mg := ⟨PySem.W.mg_none_of X G z_range, PySem.W.mg_none_of X G z_tuple, PySem.W.mg_none_of X G z_len, PySem.W.mg_none_of X G z_list, PySem.W.mg_none_of X G z_int, PySem.W.mg_none_of X G z_abs, PySem.W.mg_none_of X G z_max, PySem.W.mg_none_of X G z_isinstance, PySem.W.mg_none_of X G z_str, PySem.W.mg_none_of X G z_bool⟩
  have F0 := fun_mk (st := s__law_draw) l0 c0 k0
  have F1 := fun_mk (st := s__law_tape) l1 c1 k1
  have F2 := fun_mk (st := s__law_alike) l2 c2 k2
  have F3 := fun_mk (st := s_mix) l3 c3 k3
  have F4 := fun_mk (st := s__law_mix) l4 c4 k4
  have F5 := fun_mk (st := s_one_round) l5 c5 k5
  have F6 := fun_mk (st := s__law_round) l6 c6 k6
  have F7 := fun_mk (st := s__law_number) l7 c7 k7
  have F8 := fun_mk (st := s__law_other) l8 c8 k8
  have F9 := fun_mk (st := s_law) l9 c9 k9
  refine ⟨PySem.W.fnOf "law" "law" (defArgs s_law) (defBody s_law) (defScope s_law) .none kV9 dc9 pm9 an9 cd9 ct9, fun s v => .of_eq rfl, fun base _ _ => ?_⟩
  have C__law_draw : Cl l.prog w K mg base 1 "_law_draw" ["tape", "many"] (spDraw) := ⟨f0, _, ok_draw F0 T, PySem.W.mg_of X G a0, k0, F0.binds (ps := ["tape", "many"]) fun _ _ _ _ _ _ us hl => match us, hl with | [_, _], _ => rfl⟩
  have C__law_tape : Cl l.prog w K mg base 1 "_law_tape" ["script"] (spTape K) := ⟨f1, _, ok_tape F1 T, PySem.W.mg_of X G a1, k1, F1.binds (ps := ["script"]) fun _ _ _ _ _ _ us hl => match us, hl with | [_], _ => rfl⟩
  have C__law_alike : Cl l.prog w K mg base 3 "_law_alike" ["told", "due"] (spA 3) := ⟨f2, _, ok_alike F2 T (PySem.W.mg_of X G a2) 3, PySem.W.mg_of X G a2, k2, F2.binds (ps := ["told", "due"]) fun _ _ _ _ _ _ us hl => match us, hl with | [_, _], _ => rfl⟩
  have C_mix : Cl l.prog w K mg base 1 "mix" ["a", "b"] (spMix) := ⟨f3, _, ok_mix F3 T, PySem.W.mg_of X G a3, k3, F3.binds (ps := ["a", "b"]) fun _ _ _ _ _ _ us hl => match us, hl with | [_, _], _ => rfl⟩
  have C__law_mix : Cl l.prog w K mg base 1 "_law_mix" ["before", "number"] (spMix) := ⟨f4, _, ok_lmix F4 T, PySem.W.mg_of X G a4, k4, F4.binds (ps := ["before", "number"]) fun _ _ _ _ _ _ us hl => match us, hl with | [_, _], _ => rfl⟩
  have C_one_round : Cl l.prog w K mg base 2 "one_round" ["numbers"] (spRound) := ⟨f5, _, ok_round F5 T C_mix, PySem.W.mg_of X G a5, k5, F5.binds (ps := ["numbers"]) fun _ _ _ _ _ _ us hl => match us, hl with | [_], _ => rfl⟩
  have C__law_round : Cl l.prog w K mg base 2 "_law_round" ["numbers"] (spLround) := ⟨f6, _, ok_lround F6 T C__law_mix, PySem.W.mg_of X G a6, k6, F6.binds (ps := ["numbers"]) fun _ _ _ _ _ _ us hl => match us, hl with | [_], _ => rfl⟩
  have C__law_number : Cl l.prog w K mg base 2 "_law_number" ["tape"] (spNum) := ⟨f7, _, ok_num F7 T C__law_draw, PySem.W.mg_of X G a7, k7, F7.binds (ps := ["tape"]) fun _ _ _ _ _ _ us hl => match us, hl with | [_], _ => rfl⟩
  have C__law_other : Cl l.prog w K mg base 3 "_law_other" ["tape", "number"] (spOther) := ⟨f8, _, ok_other F8 T C__law_draw C__law_number, PySem.W.mg_of X G a8, k8, F8.binds (ps := ["tape", "number"]) fun _ _ _ _ _ _ us hl => match us, hl with | [_, _], _ => rfl⟩
  exact ok_law F9 T C__law_tape C__law_draw C__law_number C__law_other C_one_round C__law_round C__law_alike
end Ss
open PySem PySem.W PyProof.Rows
set_option maxHeartbeats 0 in
theorem PySem.Challenge.cw_sameshape_k10_rounds_holds : PySem.Challenge.rw_sameshape_k10_rounds.Holds := by
  w_on; o_law; k_head; (case hw => w_witness2)
  k_fill
  refine L2.walk_of (l := PySem.Challenge.rw_sameshape_k10_rounds) (n := 63) (k := 4) (x := "script") (CX := fun _ => L2.CX0) (sp := fun w => Ss.spLaw _) rfl (by decide) rfl ⟨rfl, by decide, by decide⟩ (fun w h Y => PySem.W.kIn_of Y) ?F (fun _ _ a ns hl _ hS => ⟨a, ns, rfl, hS, hl, fun _ => rfl⟩) (fun _ _ _ _ _ h => h)
  case F =>
    intro w mg fa h KX G hmg
    refine' Ss.all_mk KX G hmg ?a0 ?l0 ?c0 ?k0 ?a1 ?l1 ?c1 ?k1 ?a2 ?l2 ?c2 ?k2 ?a3 ?l3 ?c3 ?k3 ?a4 ?l4 ?c4 ?k4 ?a5 ?l5 ?c5 ?k5 ?a6 ?l6 ?c6 ?k6 ?a7 ?l7 ?c7 ?k7 ?a8 ?l8 ?c8 ?k8 ?a9 ?l9 ?c9 ?k9 ?z_range ?z_tuple ?z_len ?z_list ?z_int ?z_abs ?z_max ?z_isinstance ?z_str ?z_bool
    (case a0 => k_is); (case l0 => k_is); (case c0 => k_is); (case k0 => k_is); (case a1 => k_is); (case l1 => k_is); (case c1 => k_is); (case k1 => k_is); (case a2 => k_is); (case l2 => k_is); (case c2 => k_is); (case k2 => k_is); (case a3 => k_is); (case l3 => k_is); (case c3 => k_is); (case k3 => k_is); (case a4 => k_is); (case l4 => k_is); (case c4 => k_is); (case k4 => k_is); (case a5 => k_is); (case l5 => k_is); (case c5 => k_is); (case k5 => k_is); (case a6 => k_is); (case l6 => k_is); (case c6 => k_is); (case k6 => k_is); (case a7 => k_is); (case l7 => k_is); (case c7 => k_is); (case k7 => k_is); (case a8 => k_is); (case l8 => k_is); (case c8 => k_is); (case k8 => k_is); (case a9 => k_is); (case l9 => k_is); (case c9 => k_is); (case k9 => k_is); (case z_range => k_is); (case z_tuple => k_is); (case z_len => k_is); (case z_list => k_is); (case z_int => k_is); (case z_abs => k_is); (case z_max => k_is); (case z_isinstance => k_is); (case z_str => k_is); (case z_bool => k_is)
#print axioms PySem.Challenge.cw_sameshape_k10_rounds_holds

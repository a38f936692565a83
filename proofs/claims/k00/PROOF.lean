import PyProof.Rows.All
import Wide.All
import OpenK.AllK
import Wide.FinOn
import HandS.Base
import HandS.Call
import HandS.List
import HandS.Comp
import HandS.Ends
import HandS.Iter
import HandS.Text
import HandS.Words
import HandS.WordsList
import HandS.Wide
import HandS.WideBits
import HandS.IsInst
import HandS.TupAny
import HandS.Walk
import KE.KStrBytes
import PySem.Challenge.RW_sameshape_k00_code_of_an_element
set_option Elab.async false
set_option linter.all false
set_option maxRecDepth 100000
set_option maxHeartbeats 4000000
namespace Ss
open PySem PySem.Spec PyProof.Rows L2
/-! ### a def that stands at a module's name and keeps a promise -/
structure Cl (P : Program) (w : World) (K : PySem.W.Frag) (mg : Str → Option Value) (base : Heap) (k : Nat) (x : Str) (ps : List Str) (sp : Sp) : Prop where
  ex : ∃ f fd, FnOk P w K mg base CX0 k f fd ps sp ∧ mg x = some (.ref f) ∧ PySem.W.keepIn K (.ref f) = true ∧ Binds K fd ps []
theorem pe_cl {X : Cx} {k : Nat} {x : Str} {ps : List Str} {sp : Sp} {p pos : Pos} {e : Expr} {es : List Expr} {t : TA} (C : Cl X.prog X.w X.K X.mg X.base k x ps sp) (hr : Room k X.A) (hg : Gl X x)
    (ha : PA X (e :: es) t) (hdb : (x == ("__debug__" : Str)) = false := by decide) (he : starEach (e :: es) X.env = (false, eval e X.env) :: starEach es X.env := by rfl) (hpl : (backTo pos (starEach es X.env)).any (·.1) = false := by rfl) :
    PE X (.Call (.Name x p) (e :: es) [] pos) (tCall sp [] E0 t) := by
  obtain ⟨f, fd, F, hm, hk, b⟩ := C.ex
  exact pe_call F hr hg hm hk b .nil pass0 ha hdb he hpl
theorem Cl.mono {P : Program} {w : World} {K : PySem.W.Frag} {mg : Str → Option Value} {base : Heap} {j k : Nat} {x : Str} {ps : List Str} {sp : Sp} (C : Cl P w K mg base j x ps sp) (h : j ≤ k) : Cl P w K mg base k x ps sp := by
  obtain ⟨f, fd, F, r⟩ := C.ex
  exact ⟨f, fd, F.mono h, r⟩
theorem Cl.imp {P : Program} {w : World} {K : PySem.W.Frag} {mg : Str → Option Value} {base : Heap} {k : Nat} {x : Str} {ps : List Str} {sp sp' : Sp} (C : Cl P w K mg base k x ps sp) (h : ∀ vs H Q, sp' vs H Q E0 → sp vs H Q E0) (hl : ∀ vs H Q E, sp' vs H Q E → sp' vs H Q E0) : True := trivial
/-! ### heaps -/
theorem same_new {H : Hp} {p : Addr} {o : HO} (h : H p = none) : Same H (upd H p o) := fun b x e => by
  rw [upd_ne (ne_of_none e h)]
  exact e
/-- all that was tracked stays, but what stands at t -/
def Ext (t : Addr) (H H' : Hp) : Prop := ∀ b o, b ≠ t → H b = some o → H' b = some o
theorem Ext.refl (t : Addr) (H : Hp) : Ext t H H := fun _ _ _ h => h
theorem Ext.trans {t : Addr} {H H1 H2 : Hp} (a : Ext t H H1) (b : Ext t H1 H2) : Ext t H H2 := fun c o n h => b c o n (a c o n h)
theorem Ext.of {t : Addr} {H H' : Hp} (h : Same H H') : Ext t H H' := fun b o _ e => h b o e
/-! ### data -/
mutual
inductive At (H : Hp) : V → PyData → Prop
  | non : At H .non .none
  | bl (b : Bool) : At H (.bl b) (.bool b)
  | int (i : Int) : At H (.int i) (.int i)
  | str (x : Str) : At H (.str x) (.str x)
  | tup {a : Addr} {xs : List V} {ds : List PyData} : H a = some (.tup xs) → AtL H xs ds → At H (.ref a) (.tuple ds)
inductive AtL (H : Hp) : List V → List PyData → Prop
  | nil : AtL H [] []
  | cons {v : V} {vs : List V} {d : PyData} {ds : List PyData} : At H v d → AtL H vs ds → AtL H (v :: vs) (d :: ds)
end
mutual
theorem At.tups {H H' : Hp} (h : ∀ b xs, H b = some (.tup xs) → H' b = some (.tup xs)) : ∀ {v : V} {d : PyData}, At H v d → At H' v d
  | _, _, .non => .non
  | _, _, .bl b => .bl b
  | _, _, .int i => .int i
  | _, _, .str x => .str x
  | _, _, .tup e l => .tup (h _ _ e) (AtL.tups h l)
theorem AtL.tups {H H' : Hp} (h : ∀ b xs, H b = some (.tup xs) → H' b = some (.tup xs)) : ∀ {v : List V} {d : List PyData}, AtL H v d → AtL H' v d
  | _, _, .nil => .nil
  | _, _, .cons a l => .cons (At.tups h a) (AtL.tups h l)
end
theorem At.same {H H' : Hp} {v : V} {d : PyData} (h : Same H H') (a : At H v d) : At H' v d := a.tups fun b xs e => h b _ e
theorem AtL.same {H H' : Hp} {v : List V} {d : List PyData} (h : Same H H') (a : AtL H v d) : AtL H' v d := a.tups fun b xs e => h b _ e
/-- the tape stands at t: a list of the script's list at l, two counts, the sum -/
structure Tape (H : Hp) (t l : Addr) : Prop where
  ex : ∃ (ns : List Int) (p n s : Int), H t = some (.lst [.ref l, .int p, .int n, .int s]) ∧ H l = some (.lst (ns.map V.int)) ∧ l ≠ t ∧ 0 ≤ p ∧ 0 ≤ n ∧ 0 ≤ s
theorem Tape.same {H H' : Hp} {t l : Addr} (h : Same H H') (a : Tape H t l) : Tape H' t l := by
  obtain ⟨ns, p, n, s, a1, a2, r⟩ := a.ex
  exact ⟨ns, p, n, s, h _ _ a1, h _ _ a2, r⟩
theorem Tape.fresh {H : Hp} {t l o : Addr} (a : Tape H t l) (h : H o = none) : o ≠ t ∧ o ≠ l := by
  obtain ⟨ns, p, n, s, a1, a2, r⟩ := a.ex
  exact ⟨fun e => (by rw [e, a1] at h; cases h), fun e => (by rw [e, a2] at h; cases h)⟩
theorem Tape.put {H : Hp} {t l o : Addr} {x : HO} (a : Tape H t l) (h : o ≠ t ∧ o ≠ l) : Tape (upd H o x) t l := by
  obtain ⟨ns, p, n, s, a1, a2, r⟩ := a.ex
  exact ⟨ns, p, n, s, (upd_ne h.1.symm).trans a1, (upd_ne h.2.symm).trans a2, r⟩
theorem Ext.free {t o : Addr} {H H' : Hp} (e : Ext t H H') (n : o ≠ t) (h : H' o = none) : H o = none := by
  cases q : H o with
  | none => rfl
  | some x =>
    rw [e o x n q] at h
    cases h
/-- the tape went on, all else that was tracked stands -/
structure Go (t l : Addr) (H H' : Hp) : Prop where
  e : Ext t H H'
  T : Tape H' t l
theorem Go.refl {t l : Addr} {H : Hp} (T : Tape H t l) : Go t l H H := ⟨Ext.refl t H, T⟩
theorem Go.trans {t l : Addr} {H H1 H2 : Hp} (a : Go t l H H1) (b : Go t l H1 H2) : Go t l H H2 := ⟨a.e.trans b.e, b.T⟩
theorem Go.same {t l : Addr} {H H1 H2 : Hp} (a : Go t l H H1) (b : Same H1 H2) : Go t l H H2 := ⟨a.e.trans (Ext.of b), a.T.same b⟩
theorem Go.new {t l p : Addr} {H H1 : Hp} {x : HO} (a : Go t l H H1) (h : H1 p = none) : Go t l H (upd H1 p x) := a.same (same_new h)
/-- an object that is new since H is changed -/
theorem Go.put {t l p : Addr} {H H1 : Hp} {x : HO} (a : Go t l H H1) (h : H p = none) (n : p ≠ t ∧ p ≠ l) : Go t l H (upd H1 p x) :=
  ⟨fun b o bt hb => by rw [upd_ne (fun e => by rw [e, h] at hb; cases hb)]; exact a.e b o bt hb, a.T.put n⟩
theorem Go.free {t l p : Addr} {H H1 : Hp} (a : Go t l H H1) (h : H1 p = none) : H p = none ∧ p ≠ t ∧ p ≠ l :=
  have n := a.T.fresh h
  ⟨a.e.free n.1 h, n⟩
/-- what stands apart from the tape stays -/
theorem Go.at {t l p : Addr} {H H1 : Hp} {x : HO} (a : Go t l H H1) (h : H p = some x) (n : p ≠ t) : H1 p = some x := a.e p x n h
theorem Tape.tup {H H' : Hp} {t l : Addr} (a : Tape H t l) (e : Ext t H H') : ∀ b xs, H b = some (.tup xs) → H' b = some (.tup xs) := fun b xs h => by
  obtain ⟨ns, p, n, s, a1, _⟩ := a.ex
  exact e b _ (ne_of h a1 (by intro z; cases z)) h
theorem At.go {H H' : Hp} {t l : Addr} {v : V} {d : PyData} (a : At H v d) (T : Tape H t l) (g : Go t l H H') : At H' v d := a.tups (T.tup g.e)
theorem AtL.go {H H' : Hp} {t l : Addr} {v : List V} {d : List PyData} (a : AtL H v d) (T : Tape H t l) (g : Go t l H H') : AtL H' v d := a.tups (T.tup g.e)
/-! ### readings, step by step -/
section
variable {σ : L2.St} {H : Hp} {D : Ends} {t u : TS} {te ta tb : TE} {Q : VK} {g : TG} {c : TT} {i j : Int}
theorem w_seq (h : t { D with nx := u D } σ H) : tSeq t u D σ H := h
theorem w_asg (h : te σ H fun x H1 => g x σ H1 D.nx) : tAsg te g D σ H := h
theorem w_next (h : D.nx σ H) : tNext D σ H := h
theorem w_name {n : Nat} {v : V} {R : L2.St → Hp → Prop} (h : R (σ.set n (some v)) H) : gName n v σ H R := h
theorem w_gsub {to ti : TE} {ts : TSet} {v : V} {R : L2.St → Hp → Prop} (h : to σ H fun o H1 => ti σ H1 fun i H2 => ts o i v H2 fun H3 => R σ H3) : gSub to ti ts v σ H R := h
theorem w_ret (h : te σ H D.rt) : tRet te D σ H := h
theorem w_drop (h : te σ H fun _ H1 => D.nx σ H1) : tDrop te D σ H := h
theorem w_ifS (h : c σ H fun b H1 => if b = true then t D σ H1 else u D σ H1) : tIfS c t u D σ H := h
theorem w_op {r : R2} (h : ta σ H fun x H1 => tb σ H1 fun y H2 => r x y H2 Q) : tOp r ta tb σ H Q := h
theorem w_un {r : V → Hp → VK → Prop} (h : ta σ H fun x H1 => r x H1 Q) : tUn r ta σ H Q := h
theorem w_cb {r : List V → Hp → VK → Prop} {tt : TA} (h : tt σ H fun vs H1 => r vs H1 Q) : tCB r tt σ H Q := h
theorem w_call {sp : Sp} {E : XK} {tt : TA} (h : tt σ H fun vs H1 => sp (vs ++ []) H1 Q E) : tCall sp [] E tt σ H Q := h
theorem w_cons {tr : TA} {R : List V → Hp → Prop} (h : ta σ H fun x H1 => tr σ H1 fun xs H2 => R (x :: xs) H2) : tCons ta tr σ H R := h
theorem w_nil {R : List V → Hp → Prop} (h : R [] H) : tNil σ H R := h
theorem w_var {n : Nat} {v : V} (h : σ[n]? = some (some v)) (q : Q v H) : tVar n σ H Q := ⟨v, h, q⟩
theorem w_c {v : V} (q : Q v H) : tC v σ H Q := q
theorem w_test {R : Bool → Hp → Prop} (h : te σ H fun x H' => ∃ k, x = .bl k ∧ R k H') : tTest te σ H R := h
theorem w_B {R : Bool → Hp → Prop} (h : te σ H fun x H' => ∃ k, x = .bl k ∧ R k H') : tB te σ H R := h
theorem w_bl {k : Bool} {R : Bool → Prop} (q : R k) : ∃ k', V.bl k = V.bl k' ∧ R k' := ⟨k, rfl, q⟩
theorem w_not {R : Bool → Hp → Prop} (h : c σ H fun b H1 => R (!b) H1) : tNot c σ H R := h
theorem w_and {d : TT} {R : Bool → Hp → Prop} (h : c σ H fun b H1 => if b = true then d σ H1 R else R false H1) : tAnd c d σ H R := h
theorem w_or {d : TT} {R : Bool → Hp → Prop} (h : c σ H fun b H1 => if b = true then R true H1 else d σ H1 R) : tOr c d σ H R := h
theorem w_andV (h : ta σ H fun x H1 => ∃ c, x = .bl c ∧ if c = true then tb σ H1 Q else Q (.bl false) H1) : tAndV ta tb σ H Q := h
theorem w_orV (h : ta σ H fun x H1 => ∃ c, x = .bl c ∧ if c = true then Q (.bl true) H1 else tb σ H1 Q) : tOrV ta tb σ H Q := h
theorem w_notV (h : ta σ H fun x H1 => ∃ c, x = .bl c ∧ Q (.bl (!c)) H1) : tNotV ta σ H Q := h
theorem w_if (h : c σ H fun b H1 => if b = true then ta σ H1 Q else tb σ H1 Q) : tIf c ta tb σ H Q := h
theorem w_I0 {f : Int → Int → V} (h : Q (f i j) H) : rI0 f (.int i) (.int j) H Q := ⟨i, j, rfl, rfl, h⟩
theorem w_I {C : Int → Int → Prop} {f : Int → Int → V} (hc : C i j) (h : Q (f i j) H) : rI C f (.int i) (.int j) H Q := ⟨i, j, rfl, rfl, hc, h⟩
theorem w_U {f : Int → V} (h : Q (f i) H) : rU f (.int i) H Q := ⟨i, rfl, h⟩
theorem w_eqI (h : Q (.bl (decide (i = j))) H) : rEq (.int i) (.int j) H Q := ⟨rfl, by
  have e : decide (V.int i = V.int j) = decide (i = j) := by
    by_cases q : i = j
    · rw [decide_eq_true q, decide_eq_true (congrArg V.int q)]
    · rw [decide_eq_false q, decide_eq_false fun z => q (V.int.inj z)]
  rw [e]
  exact h⟩
theorem w_neI (h : Q (.bl (!decide (i = j))) H) : rNe (.int i) (.int j) H Q := ⟨rfl, by
  have e : decide (V.int i = V.int j) = decide (i = j) := by
    by_cases q : i = j
    · rw [decide_eq_true q, decide_eq_true (congrArg V.int q)]
    · rw [decide_eq_false q, decide_eq_false fun z => q (V.int.inj z)]
  rw [e]
  exact h⟩
theorem w_neB {a b : Bool} (h : Q (.bl (a != b)) H) : rNe (.bl a) (.bl b) H Q := ⟨rfl, by
  have e : (!decide (V.bl a = V.bl b)) = (a != b) := by cases a <;> cases b <;> rfl
  rw [e]
  exact h⟩
theorem w_eqS {x y : Str} (h : Q (.bl (decide (x = y))) H) : rEq (.str x) (.str y) H Q := ⟨rfl, by
  have e : decide (V.str x = V.str y) = decide (x = y) := by
    by_cases q : x = y
    · rw [decide_eq_true q, decide_eq_true (congrArg V.str q)]
    · rw [decide_eq_false q, decide_eq_false fun z => q (V.str.inj z)]
  rw [e]
  exact h⟩
theorem w_ixL {K : PySem.W.Frag} {p : Addr} {xs : List V} {v : V} (h : SqL K H p xs) (ha : atI xs i = some v) (q : Q v H) : rIxL K (.ref p) (.int i) H Q := ⟨p, xs, i, v, rfl, rfl, h, ha, q⟩
theorem w_ixT {K : PySem.W.Frag} {p : Addr} {xs : List V} {v : V} (h : SqT K H p xs) (ha : atI xs i = some v) (q : Q v H) : rIxT K (.ref p) (.int i) H Q := ⟨p, xs, i, v, rfl, rfl, h, ha, q⟩
theorem w_setL {p : Addr} {xs : List V} {v : V} {n : Nat} {R : Hp → Prop} (h : H p = some (.lst xs)) (ha : ixN xs.length i = some n) (q : R (upd H p (.lst (xs.set n v)))) : rSetL (.ref p) (.int i) v H R := ⟨p, xs, i, n, rfl, rfl, h, ha, q⟩
theorem w_ite {p A B : Prop} [Decidable p] (h1 : p → A) (h2 : ¬ p → B) : if decide p = true then A else B := by
  by_cases h : p
  · rw [decide_eq_true h]
    exact iteT (h1 h)
  · rw [decide_eq_false h]
    exact iteF (h2 h)
theorem w_iteN {p A B : Prop} [Decidable p] (h1 : ¬ p → A) (h2 : p → B) : if (!decide p) = true then A else B := by
  by_cases h : p
  · rw [decide_eq_true h]
    exact iteF (h2 h)
  · rw [decide_eq_false h]
    exact iteT (h1 h)
theorem w_int1 (h : Q (.int i) H) : (∃ i', [V.int i] = [V.int i'] ∧ Q (.int i') H) ∨ ∃ k, [V.int i] = [V.bl k] ∧ Q (.int (if k then 1 else 0)) H := .inl ⟨i, rfl, h⟩
theorem w_intB {k : Bool} (h : Q (.int (if k then 1 else 0)) H) : (∃ i', [V.bl k] = [V.int i'] ∧ Q (.int i') H) ∨ ∃ k', [V.bl k] = [V.bl k'] ∧ Q (.int (if k' then 1 else 0)) H := .inr ⟨k, rfl, h⟩
theorem w_abs (h : Q (.int (if i < 0 then -i else i)) H) : ∃ i', [V.int i] = [V.int i'] ∧ Q (.int (if i' < 0 then -i' else i')) H := ⟨i, rfl, h⟩
theorem w_max2 (h : Q (.int (if j > i then j else i)) H) : ∃ i' j', [V.int i, V.int j] = [V.int i', V.int j'] ∧ Q (.int (if j' > i' then j' else i')) H := ⟨i, j, rfl, h⟩
theorem w_min2 (h : Q (.int (if j < i then j else i)) H) : ∃ i' j', [V.int i, V.int j] = [V.int i', V.int j'] ∧ Q (.int (if j' < i' then j' else i')) H := ⟨i, j, rfl, h⟩
theorem w_lenL {K : PySem.W.Frag} {p : Addr} {xs : List V} (h : SqL K H p xs) (q : Q (.int xs.length) H) : ∃ p' ys, [V.ref p] = [V.ref p'] ∧ (SqL K H p' ys ∨ SqT K H p' ys) ∧ Q (.int ys.length) H := ⟨p, xs, rfl, .inl h, q⟩
theorem w_lenT {K : PySem.W.Frag} {p : Addr} {xs : List V} (h : SqT K H p xs) (q : Q (.int xs.length) H) : ∃ p' ys, [V.ref p] = [V.ref p'] ∧ (SqL K H p' ys ∨ SqT K H p' ys) ∧ Q (.int ys.length) H := ⟨p, xs, rfl, .inr h, q⟩
theorem w_tup {tt : TA} (h : tt σ H fun xs H1 => xs.length ≤ sizeLine ∧ ∀ p, H1 p = none → Q (.ref p) (upd H1 p (.tup xs))) : tTup tt σ H Q := h
theorem w_lst {tt : TA} (h : tt σ H fun xs H1 => xs.length ≤ sizeLine ∧ ∀ p, H1 p = none → Q (.ref p) (upd H1 p (.lst xs))) : tLst tt σ H Q := h
end
section
variable {K : PySem.W.Frag}
theorem fm {a b : Int} (h : 0 < b) : 0 ≤ a.fmod b ∧ a.fmod b < b := ⟨Int.fmod_nonneg_of_pos a h, Int.fmod_lt_of_pos a h⟩
theorem ext_upd {H : Hp} {t : Addr} {o : HO} : Ext t H (upd H t o) := fun b u n e => by
  rw [upd_ne n]
  exact e
theorem w_for {σ : L2.St} {H : Hp} {D : Ends} {wi : TI} {g : TG} {tb : TS} (h : wi σ H fun J H1 => ∃ W : Nat → Nat → L2.St → Hp → Prop, (∃ m, W 0 m σ H1) ∧ ∀ i m σ H, W i m σ H →
      (J.stop i H ∧ D.nx σ H) ∨ (J.go i H ∧ ∃ N : L2.St → Hp → Prop, (∀ σ' H', N σ' H' → ∃ m', m' < m ∧ W (i + 1) m' σ' H') ∧ ∀ x H', J.yld i H x H' → g x σ H' fun σ2 H2 => tb { D with nx := N, ct := N, bk := D.nx } σ2 H2)) : tFor wi g tb D σ H := h
theorem q_iteT {A B : Prop} {d : Decidable (true = true)} (h : A) : @ite Prop (true = true) d A B := by rw [if_pos rfl]; exact h
theorem q_iteF {A B : Prop} {d : Decidable (false = true)} (h : B) : @ite Prop (false = true) d A B := by rw [if_neg Bool.false_ne_true]; exact h
theorem q_iteNT {A B : Prop} {d : Decidable ((!true) = true)} (h : B) : @ite Prop ((!true) = true) d A B := by rw [if_neg (show ¬ ((!true) = true) from Bool.false_ne_true)]; exact h
theorem q_iteNF {A B : Prop} {d : Decidable ((!false) = true)} (h : A) : @ite Prop ((!false) = true) d A B := by rw [if_pos (show (!false) = true from rfl)]; exact h
theorem w_break {σ : L2.St} {H : Hp} {D : Ends} (h : D.bk σ H) : tBreak D σ H := h
theorem w_cont {σ : L2.St} {H : Hp} {D : Ends} (h : D.ct σ H) : tCont D σ H := h
theorem w_bits {σ : L2.St} {H : Hp} {to : TE} {Q : VK} (h : to σ H fun x H1 => ∃ i, x = .int i ∧ Q (.int (Builtin.Int.intBits i : Nat)) H1) : tBits to σ H Q := h
theorem w_rng1 {σ : L2.St} {H : Hp} {ta : TA} {R : It → Hp → Prop} (h : ta σ H fun vs H1 => ∃ j : Int, vs = [.int j] ∧ -(2 ^ 62) ≤ j ∧ j < 2 ^ 62 ∧ R (Itr 0 j.toNat) H1) : iRng1 ta σ H R := h
theorem w_rng2 {σ : L2.St} {H : Hp} {ta : TA} {R : It → Hp → Prop} (h : ta σ H fun vs H1 => ∃ i j : Int, vs = [.int i, .int j] ∧ (-(2 ^ 62) ≤ i ∧ i < 2 ^ 62 ∧ -(2 ^ 62) ≤ j ∧ j < 2 ^ 62) ∧ R (Itr i (j - i).toNat) H1) : iRng2 ta σ H R := h
theorem w_itl {σ : L2.St} {H : Hp} {tl : TE} {R : It → Hp → Prop} (h : tl σ H fun x H1 => ∃ a, x = .ref a ∧ (∃ xs, SqL K H1 a xs) ∧ R (Itl K a) H1) : iList K tl σ H R := h
theorem w_itt {σ : L2.St} {H : Hp} {tl : TE} {R : It → Hp → Prop} (h : tl σ H fun x H1 => ∃ a, x = .ref a ∧ (∃ xs, SqT K H1 a xs) ∧ R (Itt K a) H1) : iTup K tl σ H R := h
theorem hu64 {A : Around} {k : Nat} (hr : Room k A) : A.units + 64 < cLine := by
  have := hr.un
  omega
theorem at_ofN {α : Type} {xs : List α} {z : Int} {j : Nat} {v : α} (e : z = (j : Int)) (h : xs[j]? = some v) : atI xs z = some v := by
  rw [e]
  exact atI_nat h
theorem szle {n : Nat} (h : n ≤ 100000) : n ≤ sizeLine := Nat.le_trans h (by decide)
theorem szlt {n : Nat} (h : n < 100000) : n < sizeLine := Nat.lt_of_lt_of_le h (by decide)
section
variable {σ : L2.St} {H : Hp} {te : TE} {tl th : TO} {Q : VK}
theorem w_sl {r : V → Option Int → Option Int → Hp → VK → Prop} (h : te σ H fun x H1 => tl σ H1 fun l H2 => th σ H2 fun u H3 => r x l u H3 Q) : tSl r te tl th σ H Q := h
theorem w_part {R : Option Int → Hp → Prop} (h : te σ H fun x H1 => ∃ i, x = .int i ∧ R (some i) H1) : tPart te σ H R := h
theorem w_nopart {R : Option Int → Hp → Prop} (h : R none H) : tNoPart σ H R := h
theorem w_bm {T : String} {r : V → List V → Hp → VK → Prop} {t : TA} (h : te σ H fun x H1 => tyV K T x H1 ∧ t σ H1 fun xs H2 => r x xs H2 Q) : tBM K T r te t σ H Q := h
theorem w_append {l : Addr} {xs : List V} {v : V} (h : H l = some (.lst xs)) (hz : xs.length < sizeLine) (q : Q .non (upd H l (.lst (xs ++ [v])))) : rAppend (.ref l) [v] H Q := ⟨l, xs, v, rfl, rfl, h, hz, q⟩
theorem w_yes {R : Bool → Hp → Prop} (h : R true H) : tYes σ H R := h
theorem w_lc {wi : TI} {g : TG} {tt : TT} {vs : List Nat} (h : wi σ H fun J H1 => ∀ D, H1 D = none → ∃ W : Nat → Nat → Hp → Prop, (∃ m, W 0 m (upd H1 D (.lst []))) ∧ ∀ i m H, W i m H →
  (J.stop i H ∧ Q (.ref D) H) ∨ (J.go i H ∧ ∃ Nx : Hp → Prop, (∀ H', Nx H' → ∃ m', m' < m ∧ W (i + 1) m' H') ∧ ∀ x H', J.yld i H x H' → g x (wipe σ vs) H' fun σ2 H2 => wipe σ2 vs = wipe σ vs ∧ tt σ2 H2 fun b H3 =>
    if b = true then te σ2 H3 fun y H4 => ∃ acc, H4 D = some (.lst acc) ∧ acc.length < sizeLine ∧ Nx (upd H4 D (.lst (acc ++ [y]))) else Nx H3)) : tLc wi g tt te vs σ H Q := h
theorem cut_to (xs : List V) (n : Nat) : cutV xs none (some (n : Int)) = xs.take n := by
  unfold cutV
  rw [HT.sIx_none, show HT.sIx xs.length xs.length (some (n : Int)) = min n xs.length from HT.sIx_nat xs.length xs.length n]
  rw [List.drop_zero, Nat.sub_zero]
  by_cases h : n ≤ xs.length
  · rw [Nat.min_eq_left h]
  · rw [Nat.min_eq_right (by omega), List.take_of_length_le (Nat.le_refl _), List.take_of_length_le (by omega)]
theorem cut_from (xs : List V) (n : Nat) : cutV xs (some (n : Int)) none = xs.drop n := by
  unfold cutV
  rw [HT.sIx_none, show HT.sIx xs.length 0 (some (n : Int)) = min n xs.length from HT.sIx_nat xs.length 0 n]
  by_cases h : n ≤ xs.length
  · rw [Nat.min_eq_left h, List.take_of_length_le (by rw [List.length_drop]; exact Nat.le_refl _)]
  · rw [Nat.min_eq_right (by omega), List.drop_of_length_le (Nat.le_refl _), List.drop_of_length_le (by omega), List.take_nil]
theorem cut_both (xs : List V) (m n : Nat) : cutV xs (some (m : Int)) (some (n : Int)) = (xs.take n).drop m := by
  unfold cutV
  rw [show HT.sIx xs.length 0 (some (m : Int)) = min m xs.length from HT.sIx_nat xs.length 0 m, show HT.sIx xs.length xs.length (some (n : Int)) = min n xs.length from HT.sIx_nat xs.length xs.length n]
  rw [List.drop_take]
  by_cases g : n ≤ xs.length
  · rw [Nat.min_eq_left g]
    by_cases h : m ≤ xs.length
    · rw [Nat.min_eq_left h]
    · rw [Nat.min_eq_right (by omega), List.drop_of_length_le (Nat.le_refl _), List.drop_of_length_le (by omega), List.take_nil, List.take_nil]
  · rw [Nat.min_eq_right (show xs.length ≤ n by omega)]
    by_cases h : m ≤ xs.length
    · rw [Nat.min_eq_left h, List.take_of_length_le (by rw [List.length_drop]; exact Nat.le_refl _), List.take_of_length_le (by rw [List.length_drop]; omega)]
    · rw [Nat.min_eq_right (by omega), List.drop_of_length_le (Nat.le_refl _), List.drop_of_length_le (by omega), List.take_nil, List.take_nil]
end
theorem w_slA {H : Hp} {Q : VK} {a : Addr} {xs : List V} {lo hi : Option Int} (hx : H a = some (.tup xs)) (q : ∀ (p : Addr) (H' : Hp), Same H H' → H' p = some (.tup (cutV xs lo hi)) → Q (.ref p) H') : rSlA K (.ref a) lo hi H Q := by
  refine ⟨a, xs, rfl, .of hx, fun h => q a H (Same.refl H) ?_, fun _ p np => q p _ (same_new np) upd_same⟩
  have e : cutV xs lo hi = xs := by
    unfold cutV
    rw [h.1, h.2, List.drop_zero, Nat.sub_zero, List.take_length]
  rw [e]
  exact hx
theorem at_cut (xs : List V) (j : Nat) : cutV xs (some (j : Int)) (some ((j + 1 : Nat) : Int)) = (xs[j]?).toList := by
  rw [cut_both, List.drop_take, Nat.add_sub_cancel_left]
  by_cases h : j < xs.length
  · rw [List.drop_eq_getElem_cons h, List.getElem?_eq_getElem h]
    rfl
  · rw [List.drop_of_length_le (by omega), List.getElem?_eq_none (by omega)]
    rfl
theorem w_ixAny {H : Hp} {Q : VK} {p : Addr} {xs : List V} {r : Int} (P : V → Prop) (h : SqL K H p xs) (r0 : 0 ≤ r) (r1 : r < xs.length) (hp : ∀ v ∈ xs, P v) (q : ∀ v, P v → Q v H) : rIxL K (.ref p) (.int r) H Q := by
  have hr : r.toNat < xs.length := by omega
  refine w_ixL (v := xs[r.toNat]) h (at_of (j := r.toNat) (by omega) (List.getElem?_eq_getElem hr)) (q _ (hp _ (List.getElem_mem hr)))
theorem w_ixS {H : Hp} {Q : VK} {z : Str} {r : Int} (P : Nat → Prop) (hz : z.length ≤ sizeLine) (r0 : 0 ≤ r) (r1 : r < z.cps.toList.length) (hp : ∀ c ∈ z.cps.toList, P c) (q : ∀ c, P c → Q (.str ⟨#[c]⟩) H) : rIxS (.str z) (.int r) H Q := by
  have hr : r.toNat < z.cps.toList.length := by omega
  exact ⟨z, r, z.cps.toList[r.toNat], rfl, rfl, hz, at_ofN (j := r.toNat) (by omega) (List.getElem?_eq_getElem hr), q _ (hp _ (List.getElem_mem hr))⟩
theorem w_catA {H : Hp} {Q : VK} {a b : Addr} {xs ys : List V} (ha : H a = some (.tup xs)) (hb : H b = some (.tup ys)) (hl : xs.length + ys.length ≤ 100000) (q : ∀ (p : Addr) (H' : Hp), Same H H' → H' p = some (.tup (xs ++ ys)) → Q (.ref p) H') : rCatA K (.ref a) (.ref b) H Q :=
  ⟨a, b, xs, ys, rfl, rfl, .of ha, .of hb, szle hl, fun e => q b H (Same.refl H) (by rw [e]; exact hb), fun _ e => q a H (Same.refl H) (by rw [e, List.append_nil]; exact ha), fun _ _ p np => q p _ (same_new np) upd_same⟩
theorem w_cat {H : Hp} {Q : VK} {a b : Addr} {xs ys : List V} (ha : H a = some (.lst xs)) (hb : H b = some (.lst ys)) (hl : xs.length + ys.length ≤ 100000) (q : ∀ (p : Addr) (H' : Hp), H p = none → Same H H' → H' p = some (.lst (xs ++ ys)) → Q (.ref p) H') : rCat (.ref a) (.ref b) H Q :=
  ⟨a, b, xs, ys, rfl, rfl, ha, hb, szle hl, fun p np => q p _ np (same_new np) upd_same⟩
theorem w_while {σ : L2.St} {H : Hp} {D : Ends} {c : TT} {tb : TS} (h : ∃ W : Nat → L2.St → Hp → Prop, (∃ m, W m σ H) ∧ ∀ m σ H, W m σ H →
  c σ H fun b H1 => if b = true then ∃ N : L2.St → Hp → Prop, (∀ σ' H', N σ' H' → ∃ m', m' < m ∧ W m' σ' H') ∧ tb { D with nx := N, ct := N, bk := D.nx } σ H1 else D.nx σ H1) : tWhile c tb D σ H := h
theorem w_par {σ : L2.St} {H : Hp} {D : Ends} {i j : Nat} {ta : TA} (h : ta σ H fun vs H1 => ∃ v w, vs = [v, w] ∧ D.nx ((σ.set i (some v)).set j (some w)) H1) : tPar i j ta D σ H := h
theorem w_irev {σ : L2.St} {H : Hp} {ta : TA} {R : It → Hp → Prop} (h : ta σ H fun vs H1 => ∃ (a : Addr) (xs : List V), vs = [.ref a] ∧ SqL K H1 a xs ∧ R (Itv K a xs.length) H1) : iRev K ta σ H R := h
theorem w_its {σ : L2.St} {H : Hp} {tl : TE} {R : It → Hp → Prop} (h : tl σ H fun x H1 => ∃ z, x = .str z ∧ R (Its z) H1) : iStr tl σ H R := h
/-- how deep data is -/
inductive Dep : Nat → PyData → Prop
  | non (n : Nat) : Dep n .none
  | bl (n : Nat) (b : Bool) : Dep n (.bool b)
  | int (n : Nat) (i : Int) : Dep n (.int i)
  | str (n : Nat) (x : Str) : Dep n (.str x)
  | tup {n : Nat} {ds : List PyData} (hl : ds.length ≤ 1000000) (h : ∀ d ∈ ds, Dep n d) : Dep (n + 1) (.tuple ds)
theorem Dep.mono {n : Nat} {d : PyData} (h : Dep n d) : ∀ {m : Nat}, n ≤ m → Dep m d := by
  induction h with
  | non n => exact fun _ => .non _
  | bl n b => exact fun _ => .bl _ _
  | int n i => exact fun _ => .int _ _
  | str n x => exact fun _ => .str _ _
  | tup hl h ih =>
    intro m hm
    cases m with
    | zero => omega
    | succ m => exact .tup hl fun d hd => ih d hd (by omega)
theorem AtL.len {H : Hp} : ∀ {vs : List V} {ds : List PyData}, AtL H vs ds → vs.length = ds.length
  | _, _, .nil => rfl
  | _, _, .cons _ l => congrArg (· + 1) l.len
theorem AtL.get {H : Hp} : ∀ {vs : List V} {ds : List PyData} {i : Nat} {d : PyData}, AtL H vs ds → ds[i]? = some d → ∃ v, vs[i]? = some v ∧ At H v d
  | _, _, _, _, .nil, h => by simp at h
  | _, _, 0, d, .cons (d := e) a _, h => by
    have q : e = d := by simpa using h
    subst q
    exact ⟨_, rfl, a⟩
  | _, _, i + 1, d, .cons _ l, h => by
    obtain ⟨v, h1, h2⟩ := AtL.get (i := i) (d := d) l (by simpa using h)
    exact ⟨v, by simpa using h1, h2⟩
theorem w_isi {H : Hp} {Q : VK} {x : V} {a : String} {n : String} (ty : TyX K H x (.type a)) (b : Bool) (h : kitB a n = some b) (q : Q (.bl b) H) : rIsi K [x, .ty n] H Q := ⟨x, .ty n, .type a, .type n, b, rfl, .ty n, ty, kit_ty h, q⟩
end
/-- what stands at an address -/
local macro_rules | `(tactic| walk_at "hp") => `(tactic| first | assumption | exact upd_same | ((refine (upd_ne ?hn).trans ?hr); (case hn => first | assumption | (apply Ne.symm; assumption) | fail "hp"); (case hr => walk_at "hp")) | fail "hp")
local macro_rules | `(tactic| walk_at "ix") => `(tactic| first | assumption | exact atI_nat (j := 0) rfl | exact atI_nat (j := 1) rfl | exact atI_nat (j := 2) rfl | exact atI_nat (j := 3) rfl | exact atI_nat (j := 4) rfl | fail "ix")
local macro_rules | `(tactic| walk_at "ixn") => `(tactic| first | assumption | exact rfl | fail "ixn")
/-- one step of a reading that asks nothing -/
local macro_rules | `(tactic| walk_at "w1") => `(tactic| first
  | with_reducible refine w_seq ?_ | with_reducible refine w_asg ?_ | with_reducible refine w_name ?_ | with_reducible refine w_gsub ?_ | with_reducible refine w_ret ?_ | with_reducible refine w_ifS ?_ | with_reducible refine w_next ?_ | with_reducible refine w_drop ?_
  | with_reducible refine w_op ?_ | with_reducible refine w_un ?_ | with_reducible refine w_cb ?_ | with_reducible refine w_call ?_ | with_reducible refine w_cons ?_ | with_reducible refine w_nil ?_
  | ((with_reducible refine' w_var ?hv ?_); (case hv => exact rfl)) | with_reducible refine w_c ?_ | with_reducible refine w_test ?_ | with_reducible refine w_B ?_ | with_reducible refine w_bl ?_
  | with_reducible refine w_not ?_ | with_reducible refine w_and ?_ | with_reducible refine w_or ?_ | with_reducible refine w_andV ?_ | with_reducible refine w_orV ?_ | with_reducible refine w_notV ?_ | with_reducible refine w_if ?_
  | with_reducible refine w_I0 ?_ | with_reducible refine w_U ?_ | with_reducible refine w_eqI ?_ | with_reducible refine w_neI ?_ | with_reducible refine w_neB ?_ | with_reducible refine w_eqS ?_
  | ((with_reducible refine w_I ?hc ?_); (case hc => first | exact Or.inr (by decide) | exact ⟨by decide, by decide, by decide⟩ | exact ⟨by decide, by decide⟩ | decide | assumption | (show _ ≠ _; omega) | (unfold CMul; omega)))
  | ((with_reducible show (∃ i, [V.int _] = [V.int i] ∧ _) ∨ _); refine .inl ⟨_, rfl, ?_⟩; try dsimp -proj -iota -zeta -eta only)
  | ((with_reducible show _ ∨ (∃ i, [V.bl _] = [V.bl i] ∧ _)); refine .inr ⟨_, rfl, ?_⟩; try dsimp -proj -iota -zeta -eta only)
  | ((with_reducible show (∃ i, [V.int _] = [V.int i] ∧ _)); refine ⟨_, rfl, ?_⟩; try dsimp -proj -iota -zeta -eta only)
  | ((with_reducible show (∃ i j, [V.int _, V.int _] = [V.int i, V.int j] ∧ _)); refine ⟨_, _, rfl, ?_⟩; try dsimp -proj -iota -zeta -eta only)
  | ((with_reducible refine' w_ixL ?hl ?ha ?_); (case hl => exact SqL.of (by walk_at "hp")); (case ha => walk_at "ix"))
  | ((with_reducible refine' w_ixT ?hl ?ha ?_); (case hl => exact SqT.of (by walk_at "hp")); (case ha => walk_at "ix"))
  | ((with_reducible refine' w_setL ?hl ?ha ?_); (case hl => walk_at "hp"); (case ha => walk_at "ixn"))
  | ((with_reducible show (∃ p ys, [V.ref _] = [V.ref p] ∧ (SqL _ _ p ys ∨ SqT _ _ p ys) ∧ _)); (first | refine ⟨_, _, rfl, .inl (.of (by walk_at "hp")), ?_⟩ | refine ⟨_, _, rfl, .inr (.of (by walk_at "hp")), ?_⟩); try dsimp -proj -iota -zeta -eta only)
  | with_reducible refine q_iteT ?_ | with_reducible refine q_iteF ?_ | with_reducible refine q_iteNT ?_ | with_reducible refine q_iteNF ?_
  | ((with_reducible show (∃ k, TruV _ (V.bl _) _ k ∧ _)); refine ⟨_, rfl, ?_⟩; try dsimp -proj -iota -zeta -eta only)
  | with_reducible refine w_while ?_ | with_reducible refine w_par ?_
  | with_reducible refine w_its ?_ | with_reducible refine w_irev ?_
  | ((with_reducible show (∃ i, V.str _ = V.str i ∧ _)); refine ⟨_, rfl, ?_⟩; try dsimp -proj -iota -zeta -eta only)
  | ((with_reducible show (∃ i, [V.str _] = [V.str i] ∧ _)); refine ⟨_, rfl, ?_⟩; try dsimp -proj -iota -zeta -eta only)
  | with_reducible refine w_break ?_ | with_reducible refine w_cont ?_ | with_reducible refine w_bits ?_
  | ((with_reducible show (∃ i, V.int _ = V.int i ∧ _)); refine ⟨_, rfl, ?_⟩; try dsimp -proj -iota -zeta -eta only)
  | with_reducible refine w_for ?_ | with_reducible refine w_rng1 ?_ | with_reducible refine w_rng2 ?_ | with_reducible refine w_itl ?_ | with_reducible refine w_itt ?_
  | ((with_reducible show (∃ a, V.ref _ = V.ref a ∧ (∃ xs, SqL _ _ a xs) ∧ _)); refine ⟨_, rfl, ⟨_, .of (by walk_at "hp")⟩, ?_⟩; try dsimp -proj -iota -zeta -eta only)
  | with_reducible refine w_sl ?_ | with_reducible refine w_part ?_ | with_reducible refine w_nopart ?_ | with_reducible refine w_bm ?_ | with_reducible refine w_yes ?_ | with_reducible refine w_lc ?_
  | ((with_reducible show tyV _ "list" (V.ref _) _ ∧ _); refine ⟨.inl ⟨rfl, _, .of (by walk_at "hp")⟩, ?_⟩)
  | ((with_reducible refine' w_append ?hl ?hz ?_); (case hl => walk_at "hp"); (case hz => first | assumption | exact szlt (by simp only [List.length_append, List.length_map, List.length_cons, List.length_nil, List.length_take, List.length_replicate] <;> omega)))
  | ((with_reducible show (∃ p ys, [V.ref _] = [V.ref p] ∧ ((SqL _ _ p ys ∧ _) ∨ (SqT _ _ p ys ∧ _)))); refine ⟨_, _, rfl, .inl ⟨.of (by walk_at "hp"), ?_⟩⟩; try dsimp -proj -iota -zeta -eta only)
  | with_reducible refine w_tup ?_ | with_reducible refine w_lst ?_ | fail "w1")
local macro_rules | `(tactic| walk_at "wp") => `(tactic| repeat walk_at "w1")
local macro_rules | `(tactic| walk_at "wi") => `(tactic| repeat ((fail_if_success (with_reducible show tIfS _ _ _ _ _ _)); walk_at "w1"))
def top (i : Nat) : Stmt := PySem.Challenge.pw_sameshape_k00_code_of_an_element.main.body.getD i (.Pass ⟨0, 0, 0, 0⟩)
structure Txt (mg : Str → Option Value) : Prop where
  n_isinstance : mg "isinstance" = none
  n_str : mg "str" = none
  n_tuple : mg "tuple" = none
  n_len : mg "len" = none
  n_ord : mg "ord" = none
  n_list : mg "list" = none
  n_int : mg "int" = none
  n_abs : mg "abs" = none
  n_max : mg "max" = none
  n_range : mg "range" = none
  n_bool : mg "bool" = none
section
variable {P : Program} {w : World} {K : PySem.W.Frag} {mg : Str → Option Value} {base : Heap}
def spDraw : Sp := fun vs H Q _ => ∃ (t l : Addr) (m : Int), vs = [.ref t, .int m] ∧ Tape H t l ∧ m < 18446744073709551616 ∧ ∀ (r : Int) (H' : Hp), 0 ≤ r → r < max m 1 → Go t l H H' → Q (.int r) H'
abbrev s__law_draw : Stmt := top 6
theorem c__law_draw : FnScope ["tape", "many", "number", "place"] ["tape", "many"] (defScope s__law_draw) := ⟨rfl, rfl, rfl, by decide +kernel, rfl, by decide +kernel, by decide +kernel⟩

theorem ok_draw {f : Addr} {fd : FuncData} (F : Fun K "_law_draw" "_law_draw" s__law_draw f fd) (T : Txt mg) : FnOk P w K mg base CX0 1 f fd ["tape", "many"] spDraw := by
  refine F.ok c__law_draw (fun vs H Q E h => ?_) (fun cdv A outer s H vs Q E hr h => ?_)
  · obtain ⟨t, l, m, rfl, _⟩ := h
    rfl
  · obtain ⟨t, l, m, rfl, TP, hm, k⟩ := h
    obtain ⟨ns, p, n, sd, h1, h2, h3, p0, n0, s0⟩ := TP.ex
    refine ⟨_, (pss_cons (ps_if (pt_cmpR op_eq (pe_ix ix_list (pv 0) pe_int (fun _ _ => rfl)) pe_int (nomark _)) (pss_cons (ps_set (i := 3) c__law_draw.nd rfl (Or.inl rfl) (pe_ix ix_list (pv 0) pe_int (fun _ _ => rfl)))
      (pss_cons (ps_set (i := 2) c__law_draw.nd rfl (Or.inl rfl) pe_int)
      (pss_cons (ps_if (pt_cmpR op_lt (pv 3) (pe_callB call_len_seq (by rfl) T.n_len (by decide +kernel) (pa_cons (pe_ix ix_list (pv 0) pe_int (fun _ _ => rfl)) pa_nil)) (nomark _)) (pss_one (ps_set (i := 2) c__law_draw.nd rfl (Or.inl rfl) (pe_callB call_abs (by rfl) T.n_abs (by decide +kernel) (pa_cons (pe_callTy call_int1 (by rfl) T.n_int (by decide +kernel) (pa_cons (pe_ix ix_list (pe_ix ix_list (pv 0) pe_int (fun _ _ => rfl)) (pv 3) (fun _ _ => rfl)) pa_nil)) pa_nil)))) (pss_cons (ps_asg (pe_op op_modN (pe_callTy call_int1 (by rfl) T.n_int (by decide +kernel) (pa_cons (pe_op op_add (pe_op op_add (pe_op op_mul (pe_ix ix_list (pv 0) pe_int (fun _ _ => rfl)) pe_int) (pv 3)) pe_int) pa_nil)) pe_int) (pg_sub (pv 0) pe_int set_list))
      (pss_one (ps_set (i := 2) c__law_draw.nd rfl (Or.inl rfl) (pe_ix ix_list (pv 0) pe_int (fun _ _ => rfl))))))
      (pss_cons (ps_asg (pe_op op_add (pv 3) pe_int) (pg_sub (pv 0) pe_int set_list))
      (pss_cons (ps_if (pt_cmpR op_lt (pv 2) (pe_op op_pow pe_int pe_int) (nomark _)) (pss_cons (ps_set (i := 2) c__law_draw.nd rfl (Or.inl rfl) (pe_op op_modN (pe_callTy call_int1 (by rfl) T.n_int (by decide +kernel) (pa_cons (pe_op op_add (pe_op op_add (pe_op op_mul (pv 2) pe_int) (pe_op op_mul (pv 3) pe_int)) pe_int) pa_nil)) pe_int))
      (pss_cons (ps_set (i := 2) c__law_draw.nd rfl (Or.inl rfl) (pe_op op_modN (pe_callTy call_int1 (by rfl) T.n_int (by decide +kernel) (pa_cons (pe_op op_mul (pv 2) pe_int) pa_nil)) pe_int))
      (pss_one (ps_ret (pe_op op_modN (pe_callTy call_int1 (by rfl) T.n_int (by decide +kernel) (pa_cons (pv 2) pa_nil)) (pe_callB (call_max2 rfl) (by rfl) T.n_max (by decide +kernel) (pa_cons (pv 1) (pa_cons pe_int pa_nil)))))))) pss_nil)
      (pss_one (ps_asg (pv 2) (pg_sub (pv 0) pe_int set_list)))))))) pss_nil)
      (pss_cons (ps_set (i := 2) c__law_draw.nd rfl (Or.inl rfl) (pe_ix ix_list (pv 0) pe_int (fun _ _ => rfl)))
      (pss_cons (ps_asg (pe_op op_fdivW (pv 2) (pe_callB (call_max2 rfl) (by rfl) T.n_max (by decide +kernel) (pa_cons (pv 1) (pa_cons pe_int pa_nil)))) (pg_sub (pv 0) pe_int set_list))
      (pss_one (ps_ret (pe_op op_modN (pe_callTy call_int1 (by rfl) T.n_int (by decide +kernel) (pa_cons (pv 2) pa_nil)) (pe_callB (call_max2 rfl) (by rfl) T.n_max (by decide +kernel) (pa_cons (pv 1) (pa_cons pe_int pa_nil))))))))), ?_⟩
    walk_at "wp"
    have fin : ∀ (H1 : Hp) (p1 n1 s1 r : Int), H1 t = some (.lst [.ref l, .int p1, .int n1, .int s1]) → H1 l = some (.lst (ns.map V.int)) → 0 ≤ p1 → 0 ≤ n1 → 0 ≤ s1 → Ext t H H1 → Q (.int (r.fmod (if 1 > m then 1 else m))) H1 := fun H1 p1 n1 s1 r a1 a2 a3 a4 a5 a6 => by
      have z : (0 : Int) < if 1 > m then 1 else m := by split <;> omega
      have b := fm (a := r) z
      refine k _ _ b.1 ?_ ⟨a6, ns, p1, n1, s1, a1, a2, h3, a3, a4, a5⟩
      have y : (if 1 > m then 1 else m) = max m 1 := by split <;> omega
      rw [← y]
      exact b.2
    have big : ∀ (H1 : Hp) (p1 n1 s1 : Int), H1 t = some (.lst [.ref l, .int p1, .int n1, .int s1]) → H1 l = some (.lst (ns.map V.int)) → 0 ≤ p1 → 0 ≤ n1 → 0 ≤ s1 → Ext t H H1 → CDivW n1 (if 2 > m then 2 else m) ∧ 0 ≤ n1 / (if 2 > m then 2 else m) := fun H1 p1 n1 s1 a1 a2 a3 a4 a5 a6 => by
      have z : (0 : Int) < if 2 > m then 2 else m := by split <;> omega
      refine ⟨wide_div (b := 64) z ?_ (by decide) (by decide), Int.ediv_nonneg a4 (Int.le_of_lt z)⟩
      split <;> omega
    have eq1 : ∀ {x y : Int} {o : HO}, Ext t H (upd H t o) := ext_upd
    have e2 : ∀ {o u : HO}, Ext t H (upd (upd H t o) t u) := fun {o u} => by rw [upd_upd]; exact ext_upd
    have e3 : ∀ {o u v : HO}, Ext t H (upd (upd (upd H t o) t u) t v) := fun {o u v} => by rw [upd_upd, upd_upd]; exact ext_upd
    have e4 : ∀ {o u v x : HO}, Ext t H (upd (upd (upd (upd H t o) t u) t v) t x) := fun {o u v x} => by rw [upd_upd, upd_upd, upd_upd]; exact ext_upd
    refine w_ite (fun e => ?_) (fun e => ?_)
    · subst e
      walk_at "wp"
      refine w_ite (fun e => ?_) (fun e => ?_)
      · walk_at "wp"
        have hp : p.toNat < ns.length := by rw [List.length_map] at e; omega
        obtain ⟨z, ez⟩ : ∃ z, ns[p.toNat]? = some z := ⟨_, List.getElem?_eq_getElem hp⟩
        refine w_ixL (.of h2) (v := .int z) (at_of (j := p.toNat) (by omega) (by rw [List.getElem?_map, ez]; rfl)) ?_
        walk_at "wp"
        refine w_ite (fun e => ?_) (fun e => ?_)
        · walk_at "wp"
          exact fin _ (p + 1) 0 sd _ upd_same (by walk_at "hp") (by omega) (by omega) s0 ext_upd
        · walk_at "wp"
          have nz : 0 ≤ (if z < 0 then -z else z) := by split <;> omega
          obtain ⟨c1, c2⟩ := big (upd (upd H t (.lst [])) t (.lst [.ref l, .int (p + 1), .int (if z < 0 then -z else z), .int sd])) (p + 1) (if z < 0 then -z else z) sd upd_same (by walk_at "hp") (by omega) nz s0 e2
          refine w_I c1 ?_
          walk_at "wp"
          exact fin _ (p + 1) _ sd _ upd_same (by walk_at "hp") (by omega) c2 s0 e3
      · walk_at "wp"
        have sz : 0 ≤ (sd * 48271 + p + 1).fmod 2147483647 := (fm (by decide)).1
        refine w_ite (fun e => ?_) (fun e => ?_)
        · walk_at "wp"
          exact fin _ (p + 1) 0 _ _ upd_same (by walk_at "hp") (by omega) (by omega) sz e2
        · walk_at "wp"
          obtain ⟨c1, c2⟩ := big (upd (upd H t (.lst [])) t (.lst [.ref l, .int (p + 1), .int _, .int _])) (p + 1) _ _ upd_same (by walk_at "hp") (by omega) sz sz e2
          refine w_I c1 ?_
          walk_at "wp"
          exact fin _ (p + 1) _ _ _ upd_same (by walk_at "hp") (by omega) c2 sz e4
    · walk_at "wp"
      obtain ⟨c1, c2⟩ := big H p n sd h1 h2 p0 n0 s0 (Ext.refl t H)
      refine w_I c1 ?_
      walk_at "wp"
      exact fin _ p _ sd _ upd_same (by walk_at "hp") p0 c2 s0 ext_upd
def spTape (K : PySem.W.Frag) : Sp := fun vs H Q _ => ∃ (a : Addr) (ns : List Int), vs = [.ref a] ∧ SqL K H a (ns.map V.int) ∧ ∀ (t l : Addr) (H' : Hp), Same H H' → Tape H' t l → Q (.ref t) H'
abbrev s__law_tape : Stmt := top 5
theorem c__law_tape : FnScope ["script", "total", "cell"] ["script"] (defScope s__law_tape) := ⟨rfl, rfl, rfl, by decide +kernel, rfl, by decide +kernel, by decide +kernel⟩

theorem ok_tape {f : Addr} {fd : FuncData} (F : Fun K "_law_tape" "_law_tape" s__law_tape f fd) (T : Txt mg) : FnOk P w K mg base CX0 1 f fd ["script"] (spTape K) := by
  refine F.ok c__law_tape (fun vs H Q E h => ?_) (fun cdv A outer s H vs Q E hr h => ?_)
  · obtain ⟨a, ns, rfl, _⟩ := h
    rfl
  · obtain ⟨a, ns, rfl, hS, k⟩ := h
    refine ⟨_, (pss_cons (ps_set (i := 1) c__law_tape.nd rfl (Or.inl rfl) pe_int)
      (pss_cons (ps_for PassesOwn.never rfl (pi_list (pv 0)) (pg_name (i := 2) c__law_tape.nd rfl (Or.inl rfl)) (pss_one (ps_set (i := 1) c__law_tape.nd rfl (Or.inl rfl) (pe_op op_modN (pe_callTy call_int1 (by rfl) T.n_int (by decide +kernel) (pa_cons (pe_op op_add (pe_op op_mul (pv 1) pe_int) (pe_callB call_abs (by rfl) T.n_abs (by decide +kernel) (pa_cons (pe_callTy call_int1 (by rfl) T.n_int (by decide +kernel) (pa_cons (pv 2) pa_nil)) pa_nil))) pa_nil)) pe_int))))
      (pss_one (ps_ret (pe_lst (pa_cons (pe_callTy call_list_of (by rfl) T.n_list (by decide +kernel) (pa_cons (pv 0) pa_nil)) (pa_cons pe_int (pa_cons pe_int (pa_cons (pv 1) pa_nil))))))))), ?_⟩
    walk_at "wp"
    refine ⟨_, rfl, ⟨_, hS⟩, ?_⟩
    refine for_list (K := K) (a := a) (xs := ns.map V.int) (fun i σ H2 => ∃ (z : Int) (y : Option V), 0 ≤ z ∧ σ = [some (.ref a), some (.int z), y] ∧ H2 = H) ⟨7, none, by decide, rfl, rfl⟩ (fun i σ H2 _ ⟨_, _, _, _, e⟩ => by rw [e]; exact hS) ?_ ?_
    · rintro i x σ H2 hx ⟨z, y, z0, rfl, rfl⟩
      obtain ⟨v, rfl⟩ : ∃ v, x = V.int v := by
        rw [List.getElem?_map] at hx
        cases e : ns[i]? with
        | none => rw [e] at hx; cases hx
        | some v => rw [e] at hx; exact ⟨v, (Option.some.inj hx).symm⟩
      walk_at "wp"
      exact ⟨_, _, (fm (by decide)).1, rfl, rfl⟩
    · rintro σ H2 ⟨z, y, z0, rfl, rfl⟩
      walk_at "wp"
      refine ⟨a, ns.map V.int, rfl, .inl hS, fun l hl => ?_⟩
      walk_at "wp"
      refine ⟨(by show 4 ≤ sizeLine; decide), fun t ht => ?_⟩
      have nlt : l ≠ t := fun e => by rw [← e, upd_same] at ht; cases ht
      have s1 : Same H2 (upd H2 l (.lst (ns.map V.int))) := same_new hl
      have ht0 : H2 t = none := s1.free ht
      exact k t l _ (s1.trans (same_new ht)) ⟨ns, 0, 0, z, upd_same, (upd_ne nlt).trans upd_same, nlt, Int.le_refl _, Int.le_refl _, z0⟩
def spA : Nat → Sp
  | 0 => fun _ _ _ _ => False
  | n + 1 => fun vs H Q _ => ∃ (x y : V) (d : PyData), vs = [x, y] ∧ At H x d ∧ At H y d ∧ Dep n d ∧ Q (.bl true) H
abbrev s__law_alike : Stmt := top 7
theorem c__law_alike : FnScope ["told", "due", "k"] ["told", "due"] (defScope s__law_alike) := ⟨rfl, rfl, rfl, by decide +kernel, rfl, by decide +kernel, by decide +kernel⟩

theorem ok_alike {f : Addr} {fd : FuncData} (F : Fun K "_law_alike" "_law_alike" s__law_alike f fd) (T : Txt mg) (g : mg "_law_alike" = some (.ref f)) : ∀ n, FnOk P w K mg base CX0 n f fd ["told", "due"] (spA n)
  | 0 => ⟨fun _ _ _ _ h => h.elim, fun _ _ _ _ _ _ _ _ _ _ _ _ _ h => h.elim⟩
  | n + 1 => by
    have C__law_alike : Cl P w K mg base n "_law_alike" ["told", "due"] (spA n) := ⟨f, fd, ok_alike F T g n, g, F.kp, F.binds (ps := ["told", "due"]) fun _ _ _ _ _ _ us hl => match us, hl with | [_, _], _ => rfl⟩
    refine F.ok c__law_alike (fun vs H Q E h => ?_) (fun cdv A outer s H vs Q E hr h => ?_)
    · obtain ⟨x, y, d, rfl, _⟩ := h
      rfl
    · obtain ⟨x, y, d, rfl, hx, hy, hd, k⟩ := h
      refine ⟨_, (pss_cons (ps_if (pt_val (pe_callB call_isi (by rfl) T.n_isinstance (by decide +kernel) (pa_cons (pv 1) (pa_cons (pe_bltn (v := .ty "tuple") (by rfl) T.n_tuple (by decide +kernel) rfl) pa_nil)))) (pss_cons (ps_if (PW.pt (pw_or (pt_not (pt_val (pe_callB call_isi (by rfl) T.n_isinstance (by decide +kernel) (pa_cons (pv 0) (pa_cons (pe_bltn (v := .ty "tuple") (by rfl) T.n_tuple (by decide +kernel) rfl) pa_nil))))) (pw_or1 (pt_cmpR op_ne (pe_callB call_len_seq (by rfl) T.n_len (by decide +kernel) (pa_cons (pv 0) pa_nil)) (pe_callB call_len_seq (by rfl) T.n_len (by decide +kernel) (pa_cons (pv 1) pa_nil)) (nomark _))))) (pss_one (ps_ret pe_bl)) pss_nil)
      (pss_cons (ps_for PassesOwn.never rfl (pi_range1 (by rfl) T.n_range (pa_cons (pe_callB call_len_seq (by rfl) T.n_len (by decide +kernel) (pa_cons (pv 1) pa_nil)) pa_nil)) (pg_name (i := 2) c__law_alike.nd rfl (Or.inl rfl)) (pss_one (ps_if (pt_not (pt_truth (pe_cl C__law_alike hr (by rfl) (pa_cons (pe_ix ix_tup (pv 0) (pv 2) (fun _ _ => rfl)) (pa_cons (pe_ix ix_tup (pv 1) (pv 2) (fun _ _ => rfl)) pa_nil))) (by intro _; rfl))) (pss_one (ps_ret pe_bl)) pss_nil)))
      (pss_one (ps_ret pe_bl)))) pss_nil)
      (pss_cons (ps_if (pt_cmpR op_isN (pv 1) pe_non (nomark _)) (pss_one (ps_ret (pe_cmpR op_isN (pv 0) pe_non (nomark _)))) pss_nil)
      (pss_cons (ps_if (pt_val (pe_callB call_isi (by rfl) T.n_isinstance (by decide +kernel) (pa_cons (pv 1) (pa_cons (pe_bltn (v := .ty "str") (by rfl) T.n_str (by decide +kernel) rfl) pa_nil)))) (pss_one (ps_ret (pe_and (pe_callB call_isi (by rfl) T.n_isinstance (by decide +kernel) (pa_cons (pv 0) (pa_cons (pe_bltn (v := .ty "str") (by rfl) T.n_str (by decide +kernel) rfl) pa_nil))) (pe_one (pe_cmpR op_eq (pv 0) (pv 1) (nomark _)))))) pss_nil)
      (pss_cons (ps_if (pt_cmpR op_ne (pe_callB call_isi (by rfl) T.n_isinstance (by decide +kernel) (pa_cons (pv 0) (pa_cons (pe_bltn (v := .ty "bool") (by rfl) T.n_bool (by decide +kernel) rfl) pa_nil))) (pe_callB call_isi (by rfl) T.n_isinstance (by decide +kernel) (pa_cons (pv 1) (pa_cons (pe_bltn (v := .ty "bool") (by rfl) T.n_bool (by decide +kernel) rfl) pa_nil))) (nomark _)) (pss_one (ps_ret pe_bl)) pss_nil)
      (pss_one (ps_ret (pe_and (pe_callB call_isi (by rfl) T.n_isinstance (by decide +kernel) (pa_cons (pv 0) (pa_cons (pe_bltn (v := .ty "int") (by rfl) T.n_int (by decide +kernel) rfl) pa_nil))) (pe_one (pe_cmpR op_eq (pv 0) (pv 1) (nomark _)))))))))), ?_⟩
      walk_at "wp"
      cases hd with
      | non =>
        cases hx; cases hy
        refine w_isi (.base (.non)) false (by decide +kernel) ?_
        walk_at "wp"
        refine ⟨rfl, ?_⟩
        walk_at "wp"
        refine iteT ?_
        walk_at "wp"
        exact ⟨rfl, k⟩
      | bl b =>
        cases hx; cases hy
        refine w_isi (.base (.bl _)) false (by decide +kernel) ?_
        walk_at "wp"
        refine ⟨rfl, ?_⟩
        walk_at "wp"
        refine iteF ?_
        walk_at "wp"
        refine w_isi (.base (.bl _)) false (by decide +kernel) ?_
        walk_at "wp"
        refine w_isi (.base (.bl _)) true (by decide +kernel) ?_
        walk_at "wp"
        refine w_isi (.base (.bl _)) true (by decide +kernel) ?_
        walk_at "wp"
        refine iteF ?_
        walk_at "wp"
        refine w_isi (.base (.bl _)) true (by decide +kernel) ?_
        walk_at "wp"
        refine ⟨rfl, ?_⟩
        rw [decide_eq_true rfl]
        exact k
      | int i =>
        cases hx; cases hy
        refine w_isi (.base (.int _)) false (by decide +kernel) ?_
        walk_at "wp"
        refine ⟨rfl, ?_⟩
        walk_at "wp"
        refine iteF ?_
        walk_at "wp"
        refine w_isi (.base (.int _)) false (by decide +kernel) ?_
        walk_at "wp"
        refine w_isi (.base (.int _)) false (by decide +kernel) ?_
        walk_at "wp"
        refine w_isi (.base (.int _)) false (by decide +kernel) ?_
        walk_at "wp"
        refine iteF ?_
        walk_at "wp"
        refine w_isi (.base (.int _)) true (by decide +kernel) ?_
        walk_at "wp"
        rw [decide_eq_true rfl]
        exact k
      | str z =>
        cases hx; cases hy
        refine w_isi (.base (.str _)) false (by decide +kernel) ?_
        walk_at "wp"
        refine ⟨rfl, ?_⟩
        walk_at "wp"
        refine iteF ?_
        walk_at "wp"
        refine w_isi (.base (.str _)) true (by decide +kernel) ?_
        walk_at "wp"
        refine w_isi (.base (.str _)) true (by decide +kernel) ?_
        walk_at "wp"
        rw [decide_eq_true rfl]
        exact k
      | @tup n0 ds hl hh =>
        cases hx with
        | @tup a xs _ ex lx =>
        cases hy with
        | @tup b ys _ ey ly =>
        have l1 := lx.len
        have l2 := ly.len
        refine w_isi (.base (.tup ey)) true (by decide +kernel) ?_
        walk_at "wp"
        refine w_isi (.base (.tup ex)) true (by decide +kernel) ?_
        walk_at "wp"
        refine w_iteN (fun e => absurd (by omega) e) (fun _ => ?_)
        walk_at "wp"
        refine ⟨by omega, by omega, ?_⟩
        refine for_range (lo := 0) (n := ((ys.length : Nat) : Int).toNat) (fun i σ H2 => ∃ (v : Option V), σ = [some (.ref a), some (.ref b), v] ∧ H2 = H) ⟨none, rfl, rfl⟩ ?_ ?_
        · rintro i σ H2 hi ⟨v, rfl, rfl⟩
          have hi' : i < ds.length := by omega
          obtain ⟨x, x1, x2⟩ := lx.get (List.getElem?_eq_getElem hi')
          obtain ⟨y, y1, y2⟩ := ly.get (List.getElem?_eq_getElem hi')
          walk_at "wp"
          refine w_ixT (.of ex) (at_of (j := i) (by omega) x1) ?_
          walk_at "wp"
          refine w_ixT (.of ey) (at_of (j := i) (by omega) y1) ?_
          walk_at "wp"
          refine ⟨x, y, _, rfl, x2, y2, hh _ (List.getElem_mem hi'), ?_⟩
          walk_at "wp"
          exact ⟨_, rfl, rfl⟩
        · rintro σ H2 ⟨v, rfl, rfl⟩
          walk_at "wp"
          exact k
/-- a sign, a text, a scalar, an element of what is drawn -/
def Asc (x : Str) : Prop := ∀ c ∈ x.cps.toList, c < 128
def Sc : PyData → Prop
  | .int i => -1000000000000000 ≤ i ∧ i ≤ 1000000000000000
  | .str x => x.length ≤ 20 ∧ Asc x
  | _ => False
def El (d : PyData) : Prop := Sc d ∨ ∃ a b, d = .tuple [a, b] ∧ Sc a ∧ Sc b
theorem sc_v {d : PyData} (h : Sc d) {H H' : Hp} {v : V} (a : At H v d) : At H' v d := by
  cases a with
  | non => exact .non
  | bl b => exact .bl b
  | int i => exact .int i
  | str x => exact .str x
  | tup e l => exact h.elim
theorem len_app (a b : Str) : (a ++ b).length = a.length + b.length := by
  unfold Str.length
  rw [Str.cps_append, Array.size_append]
theorem asc_app {a b : Str} (h : Asc a) (g : Asc b) : Asc (a ++ b) := fun c hc => by
  rw [Str.cps_append, Array.toList_append] at hc
  rcases List.mem_append.mp hc with z | z
  · exact h c z
  · exact g c z
theorem asc_one {c : Nat} (h : c < 128) : Asc ⟨#[c]⟩ := fun d hd => by
  have : d = c := by simpa using hd
  rw [this]; exact h
def spSign : Sp := fun vs H Q _ => ∃ (t l : Addr), vs = [.ref t] ∧ Tape H t l ∧ ∀ (c : Nat) (H' : Hp), c < 128 → Go t l H H' → Q (.str ⟨#[c]⟩) H'
abbrev s__law_sign : Stmt := top 8
theorem c__law_sign : FnScope ["tape", "signs"] ["tape"] (defScope s__law_sign) := ⟨rfl, rfl, rfl, by decide +kernel, rfl, by decide +kernel, by decide +kernel⟩

theorem ok_sign {f : Addr} {fd : FuncData} (F : Fun K "_law_sign" "_law_sign" s__law_sign f fd) (T : Txt mg) (C__law_draw : Cl P w K mg base 1 "_law_draw" ["tape", "many"] spDraw) : FnOk P w K mg base CX0 2 f fd ["tape"] spSign := by
  refine F.ok c__law_sign (fun vs H Q E h => ?_) (fun cdv A outer s H vs Q E hr h => ?_)
  · obtain ⟨t, l, rfl, _⟩ := h
    rfl
  · obtain ⟨t, l, rfl, TP, k⟩ := h
    refine ⟨_, (pss_cons (ps_set (i := 1) c__law_sign.nd rfl (Or.inl rfl) pe_str)
      (pss_cons (ps_set (i := 1) c__law_sign.nd rfl (Or.inl rfl) (pe_op op_add_str (pv 1) pe_str))
      (pss_one (ps_ret (pe_ix ix_str (pv 1) (pe_cl C__law_draw (hr.mono (by omega)) (by rfl) (pa_cons (pv 0) (pa_cons pe_int pa_nil))) (fun _ _ => rfl)))))), ?_⟩
    walk_at "wp"
    refine ⟨_, _, rfl, rfl, by decide +kernel, ?_⟩
    walk_at "wp"
    refine ⟨t, l, _, rfl, TP, by decide, fun r0 H0 l0 u0 G0 => ?_⟩
    refine w_ixS (fun c => c < 128) (by decide +kernel) l0 ?_ (by decide +kernel) fun c hc => k c _ hc G0
    refine Int.lt_of_lt_of_le u0 ?_
    decide +kernel
def spWord : Sp := fun vs H Q _ => ∃ (t l : Addr), vs = [.ref t] ∧ Tape H t l ∧ ∀ (x : Str) (H' : Hp), x.length ≤ 20 → Asc x → Go t l H H' → Q (.str x) H'
abbrev s__law_word : Stmt := top 9
theorem c__law_word : FnScope ["tape", "word", "k"] ["tape"] (defScope s__law_word) := ⟨rfl, rfl, rfl, by decide +kernel, rfl, by decide +kernel, by decide +kernel⟩

theorem ok_word {f : Addr} {fd : FuncData} (F : Fun K "_law_word" "_law_word" s__law_word f fd) (T : Txt mg) (C__law_draw : Cl P w K mg base 1 "_law_draw" ["tape", "many"] spDraw) (C__law_sign : Cl P w K mg base 2 "_law_sign" ["tape"] spSign) : FnOk P w K mg base CX0 3 f fd ["tape"] spWord := by
  refine F.ok c__law_word (fun vs H Q E h => ?_) (fun cdv A outer s H vs Q E hr h => ?_)
  · obtain ⟨t, l, rfl, _⟩ := h
    rfl
  · obtain ⟨t, l, rfl, TP, k⟩ := h
    refine ⟨_, (pss_cons (ps_set (i := 1) c__law_word.nd rfl (Or.inl rfl) (pe_ix ix_list (pe_lst (pa_cons pe_str (pa_cons pe_str (pa_cons pe_str (pa_cons pe_str pa_nil))))) (pe_cl C__law_draw (hr.mono (by omega)) (by rfl) (pa_cons (pv 0) (pa_cons pe_int pa_nil))) (fun _ _ => rfl)))
      (pss_cons (ps_for PassesOwn.never rfl (pi_range1 (by rfl) T.n_range (pa_cons (pe_cl C__law_draw (hr.mono (by omega)) (by rfl) (pa_cons (pv 0) (pa_cons pe_int pa_nil))) pa_nil)) (pg_name (i := 2) c__law_word.nd rfl (Or.inl rfl)) (pss_one (ps_set (i := 1) c__law_word.nd rfl (Or.inl rfl) (pe_op op_add_str (pv 1) (pe_cl C__law_sign (hr.mono (by omega)) (by rfl) (pa_cons (pv 0) pa_nil))))))
      (pss_one (ps_ret (pv 1))))), ?_⟩
    walk_at "wp"
    refine ⟨szle (by show 4 ≤ _; decide), fun m nm => ?_⟩
    obtain ⟨mH, mt⟩ := (Go.refl TP).free nm
    walk_at "wp"
    refine ⟨t, l, _, rfl, ((Go.refl TP).new nm).T, by decide, fun r1 H1 l1 u1 G1 => ?_⟩
    have GG := ((Go.refl TP).new nm).trans G1
    have hm1 := G1.at upd_same mt.1
    refine w_ixAny (fun v => ∃ x : Str, v = .str x ∧ x.length ≤ 17 ∧ Asc x) (.of hm1) l1 (Int.lt_of_lt_of_le u1 (by decide)) ?_ ?_
    · intro v hv
      simp only [List.mem_cons, List.not_mem_nil, or_false] at hv
      rcases hv with rfl | rfl | rfl | rfl
      all_goals exact ⟨_, rfl, by decide +kernel, by unfold Asc; decide +kernel⟩
    · rintro v ⟨x0, rfl, hx0, ha0⟩
      walk_at "wp"
      refine ⟨t, l, _, rfl, GG.T, by decide, fun r2 H2 l2 u2 G2 => ?_⟩
      replace u2 : r2 < 4 := u2
      walk_at "wp"
      refine ⟨by omega, by omega, ?_⟩
      refine for_range (lo := 0) (n := r2.toNat) (fun i σ H3 => ∃ (v1 : Option V) (x : Str), σ = [some (.ref t), some (.str x), v1] ∧ x.length ≤ 17 + i ∧ Asc x ∧ Go t l H H3) ⟨none, x0, rfl, hx0, ha0, GG.trans G2⟩ ?_ ?_
      · rintro i σ H3 hi ⟨v1, x, rfl, hx, ha, G3⟩
        walk_at "wp"
        refine ⟨t, l, rfl, G3.T, fun c H4 hc G4 => ?_⟩
        have e1 : (⟨#[c]⟩ : Str).length = 1 := rfl
        refine ⟨_, _, rfl, rfl, szle (by rw [e1]; omega), ?_⟩
        walk_at "wp"
        exact ⟨_, _, rfl, by rw [len_app, e1]; omega, asc_app ha (asc_one hc), G3.trans G4⟩
      · rintro σ H3 ⟨v1, x, rfl, hx, ha, G3⟩
        walk_at "wp"
        exact k x H3 (by omega) ha G3
def spScalar : Sp := fun vs H Q _ => ∃ (t l : Addr), vs = [.ref t] ∧ Tape H t l ∧ ∀ (v : V) (d : PyData) (H' : Hp), Sc d → At H' v d → Go t l H H' → Q v H'
abbrev s__law_scalar : Stmt := top 10
theorem c__law_scalar : FnScope ["tape", "choice", "edges"] ["tape"] (defScope s__law_scalar) := ⟨rfl, rfl, rfl, by decide +kernel, rfl, by decide +kernel, by decide +kernel⟩

theorem ok_scalar {f : Addr} {fd : FuncData} (F : Fun K "_law_scalar" "_law_scalar" s__law_scalar f fd) (T : Txt mg) (C__law_draw : Cl P w K mg base 1 "_law_draw" ["tape", "many"] spDraw) (C__law_word : Cl P w K mg base 3 "_law_word" ["tape"] spWord) : FnOk P w K mg base CX0 4 f fd ["tape"] spScalar := by
  refine F.ok c__law_scalar (fun vs H Q E h => ?_) (fun cdv A outer s H vs Q E hr h => ?_)
  · obtain ⟨t, l, rfl, _⟩ := h
    rfl
  · obtain ⟨t, l, rfl, TP, k⟩ := h
    refine ⟨_, (pss_cons (ps_set (i := 1) c__law_scalar.nd rfl (Or.inl rfl) (pe_cl C__law_draw (hr.mono (by omega)) (by rfl) (pa_cons (pv 0) (pa_cons pe_int pa_nil))))
      (pss_cons (ps_if (pt_cmpR op_eq (pv 1) pe_int (nomark _)) (pss_one (ps_ret (pe_cl C__law_word (hr.mono (by omega)) (by rfl) (pa_cons (pv 0) pa_nil)))) pss_nil)
      (pss_cons (ps_if (pt_cmpR op_eq (pv 1) pe_int (nomark _)) (pss_cons (ps_set (i := 2) c__law_scalar.nd rfl (Or.inl rfl) (pe_lst (pa_cons pe_int (pa_cons pe_int (pa_cons pe_int (pa_cons pe_int (pa_cons pe_int (pa_cons pe_int (pa_cons pe_int (pa_cons pe_int (pa_cons (pe_op op_sub (pe_op op_pow pe_int pe_int) pe_int) (pa_cons (pe_op op_pow pe_int pe_int) pa_nil))))))))))))
      (pss_one (ps_ret (pe_op op_mul (pe_ix ix_list (pv 2) (pe_cl C__law_draw (hr.mono (by omega)) (by rfl) (pa_cons (pv 0) (pa_cons pe_int pa_nil))) (fun _ _ => rfl)) (pe_op op_sub pe_int (pe_op op_mul pe_int (pe_cl C__law_draw (hr.mono (by omega)) (by rfl) (pa_cons (pv 0) (pa_cons pe_int pa_nil))))))))) pss_nil)
      (pss_cons (ps_if (pt_cmpR op_eq (pv 1) pe_int (nomark _)) (pss_one (ps_ret (pe_op op_mul (pe_op op_sub (pe_cl C__law_draw (hr.mono (by omega)) (by rfl) (pa_cons (pv 0) (pa_cons pe_int pa_nil))) pe_int) (pe_ix ix_list (pe_lst (pa_cons pe_int (pa_cons pe_int (pa_cons pe_int pa_nil)))) (pe_cl C__law_draw (hr.mono (by omega)) (by rfl) (pa_cons (pv 0) (pa_cons pe_int pa_nil))) (fun _ _ => rfl))))) pss_nil)
      (pss_cons (ps_if (pt_cmpR op_eq (pv 1) pe_int (nomark _)) (pss_one (ps_ret (pe_op op_sub (pe_cl C__law_draw (hr.mono (by omega)) (by rfl) (pa_cons (pv 0) (pa_cons (pe_op op_add (pe_op op_mul pe_int (pe_op op_pow pe_int pe_int)) pe_int) pa_nil))) (pe_op op_pow pe_int pe_int)))) pss_nil)
      (pss_one (ps_ret (pe_cl C__law_draw (hr.mono (by omega)) (by rfl) (pa_cons (pv 0) (pa_cons pe_int pa_nil)))))))))), ?_⟩
    have ki : ∀ (i : Int) (H' : Hp), -1000000000000000 ≤ i → i ≤ 1000000000000000 → Go t l H H' → Q (.int i) H' := fun i H' h1 h2 g => k _ (.int i) _ ⟨h1, h2⟩ (.int i) g
    walk_at "wp"
    refine ⟨t, l, _, rfl, TP, by decide, fun r0 H0 l0 u0 G0 => ?_⟩
    walk_at "wp"
    refine w_ite (fun e => ?_) (fun e => ?_)
    · walk_at "wp"
      exact ⟨t, l, rfl, G0.T, fun x H1 h1 h2 G1 => k _ (.str x) _ ⟨h1, h2⟩ (.str x) (G0.trans G1)⟩
    walk_at "wp"
    refine w_ite (fun e => ?_) (fun e => ?_)
    · walk_at "wp"
      refine ⟨szle (by show 10 ≤ _; decide), fun m nm => ?_⟩
      obtain ⟨mH, mt⟩ := G0.free nm
      walk_at "wp"
      refine ⟨t, l, _, rfl, (G0.new nm).T, by decide, fun r1 H1 l1 u1 G1 => ?_⟩
      have GG := (G0.new nm).trans G1
      have hm1 := G1.at upd_same mt.1
      refine w_ixAny (fun v => ∃ n : Int, v = .int n ∧ 0 ≤ n ∧ n ≤ 1000000000000000) (.of hm1) l1 (Int.lt_of_lt_of_le u1 (by decide)) ?_ ?_
      · intro v hv
        simp only [List.mem_cons, List.not_mem_nil, or_false] at hv
        rcases hv with rfl | rfl | rfl | rfl | rfl | rfl | rfl | rfl | rfl | rfl
        all_goals exact ⟨_, rfl, by decide, by decide⟩
      · rintro v ⟨n, rfl, n0, n1⟩
        walk_at "wp"
        refine ⟨t, l, _, rfl, GG.T, by decide, fun r2 H2 l2 u2 G2 => ?_⟩
        replace u2 : r2 < 2 := u2
        walk_at "wp"
        have : r2 = 0 ∨ r2 = 1 := by omega
        rcases this with rfl | rfl
        · walk_at "wp"
          refine ki _ _ ?_ ?_ (GG.trans G2)
          · show -1000000000000000 ≤ n * 1; omega
          · show n * 1 ≤ 1000000000000000; omega
        · walk_at "wp"
          refine ki _ _ ?_ ?_ (GG.trans G2)
          · show -1000000000000000 ≤ n * (-1); omega
          · show n * (-1) ≤ 1000000000000000; omega
    walk_at "wp"
    refine w_ite (fun e => ?_) (fun e => ?_)
    · walk_at "wp"
      refine ⟨t, l, _, rfl, G0.T, by decide, fun r1 H1 l1 u1 G1 => ?_⟩
      replace u1 : r1 < 2000001 := u1
      have G01 := G0.trans G1
      walk_at "wp"
      refine ⟨szle (by show 3 ≤ _; decide), fun m nm => ?_⟩
      obtain ⟨mH, mt⟩ := G01.free nm
      walk_at "wp"
      refine ⟨t, l, _, rfl, (G01.new nm).T, by decide, fun r2 H2 l2 u2 G2 => ?_⟩
      have GG := (G01.new nm).trans G2
      have hm1 := G2.at upd_same mt.1
      refine w_ixAny (fun v => v = .int 1 ∨ v = .int 65536 ∨ v = .int 1000000000) (.of hm1) l2 (Int.lt_of_lt_of_le u2 (by decide)) ?_ ?_
      · intro v hv
        simpa only [List.mem_cons, List.not_mem_nil, or_false] using hv
      · intro v hv
        rcases hv with rfl | rfl | rfl
        all_goals
          walk_at "wp"
          exact ki _ _ (by omega) (by omega) GG
    walk_at "wp"
    refine w_ite (fun e => ?_) (fun e => ?_)
    · walk_at "wp"
      refine ⟨t, l, _, rfl, G0.T, by decide, fun r1 H1 l1 u1 G1 => ?_⟩
      replace u1 : r1 < 2000000000000001 := u1
      walk_at "wp"
      have e15 : (10 : Int) ^ (15 : Int).toNat = 1000000000000000 := by decide
      rw [e15]
      exact ki _ _ (by omega) (by omega) (G0.trans G1)
    walk_at "wp"
    refine ⟨t, l, _, rfl, G0.T, by decide, fun r1 H1 l1 u1 G1 => ?_⟩
    replace u1 : r1 < 9 := u1
    exact ki _ _ (by omega) (by omega) (G0.trans G1)
def spElement : Sp := fun vs H Q _ => ∃ (t l : Addr), vs = [.ref t] ∧ Tape H t l ∧ ∀ (v : V) (d : PyData) (H' : Hp), El d → At H' v d → Go t l H H' → Q v H'
abbrev s__law_element : Stmt := top 11
theorem c__law_element : FnScope ["tape", "first"] ["tape"] (defScope s__law_element) := ⟨rfl, rfl, rfl, by decide +kernel, rfl, by decide +kernel, by decide +kernel⟩

theorem ok_element {f : Addr} {fd : FuncData} (F : Fun K "_law_element" "_law_element" s__law_element f fd) (T : Txt mg) (C__law_draw : Cl P w K mg base 1 "_law_draw" ["tape", "many"] spDraw) (C__law_scalar : Cl P w K mg base 4 "_law_scalar" ["tape"] spScalar) : FnOk P w K mg base CX0 5 f fd ["tape"] spElement := by
  refine F.ok c__law_element (fun vs H Q E h => ?_) (fun cdv A outer s H vs Q E hr h => ?_)
  · obtain ⟨t, l, rfl, _⟩ := h
    rfl
  · obtain ⟨t, l, rfl, TP, k⟩ := h
    refine ⟨_, (pss_cons (ps_set (i := 1) c__law_element.nd rfl (Or.inl rfl) (pe_cl C__law_scalar (hr.mono (by omega)) (by rfl) (pa_cons (pv 0) pa_nil)))
      (pss_cons (ps_if (pt_cmpR op_eq (pe_cl C__law_draw (hr.mono (by omega)) (by rfl) (pa_cons (pv 0) (pa_cons pe_int pa_nil))) pe_int (nomark _)) (pss_one (ps_ret (pe_tup (pa_cons (pv 1) (pa_cons (pe_cl C__law_scalar (hr.mono (by omega)) (by rfl) (pa_cons (pv 0) pa_nil)) pa_nil))))) pss_nil)
      (pss_one (ps_ret (pv 1))))), ?_⟩
    walk_at "wp"
    refine ⟨t, l, rfl, TP, fun v d H0 hs ha G0 => ?_⟩
    walk_at "wp"
    refine ⟨t, l, _, rfl, G0.T, by decide, fun r1 H1 l1 u1 G1 => ?_⟩
    walk_at "wp"
    refine w_ite (fun e => ?_) (fun e => ?_)
    · walk_at "wp"
      refine ⟨t, l, rfl, G1.T, fun v2 d2 H2 hs2 ha2 G2 => ?_⟩
      have G02 := (G0.trans G1).trans G2
      walk_at "wp"
      refine ⟨szle (by show 2 ≤ _; decide), fun p np => ?_⟩
      exact k _ (.tuple [d, d2]) _ (.inr ⟨d, d2, rfl, hs, hs2⟩) (.tup upd_same (.cons (sc_v hs ha) (.cons (sc_v hs2 ha2) .nil))) (G02.new np)
    · walk_at "wp"
      exact k v d _ (.inl hs) (sc_v hs ha) (G0.trans G1)
/-- the code of an element -/
def dg (n : Int) : List Int := [n / 281474976710656 % 65536, n / 4294967296 % 65536, n / 65536 % 65536, n % 65536]
def ords (x : Str) : List Int := x.cps.toList.map fun (c : Nat) => ((c : Nat) : Int)
def scd : PyData → List Int
  | .int i => if i < 0 then 2 :: dg (-i) else 1 :: dg i
  | .str x => 3 :: ((x.length : Nat) : Int) :: ords x
  | _ => []
def cdE : PyData → List Int
  | .tuple [a, b] => 4 :: (scd a ++ scd b)
  | d => scd d
theorem cdE_sc {d : PyData} (h : Sc d) : cdE d = scd d := by
  cases d <;> first | rfl | exact h.elim
theorem ords_len (x : Str) : (ords x).length = x.length := by
  unfold ords
  rw [List.length_map, Array.length_toList]
  rfl
theorem scd_len {d : PyData} (h : Sc d) : (scd d).length ≤ 22 := by
  cases d with
  | int i =>
    show (if i < 0 then 2 :: dg (-i) else 1 :: dg i).length ≤ 22
    split <;> (show 5 ≤ 22; decide)
  | str x =>
    have := h.1
    show (ords x).length + 1 + 1 ≤ 22
    rw [ords_len]
    omega
  | none => exact h.elim
  | bool _ => exact h.elim
  | list _ => exact h.elim
  | tuple _ => exact h.elim
  | dict _ => exact h.elim
theorem cdE_len {d : PyData} (h : El d) : (cdE d).length ≤ 45 := by
  rcases h with h | ⟨a, b, rfl, ha, hb⟩
  · rw [cdE_sc h]
    have := scd_len h
    omega
  · show (scd a ++ scd b).length + 1 ≤ 45
    rw [List.length_append]
    have := scd_len ha
    have := scd_len hb
    omega
def spDigits : Sp := fun vs H Q _ => ∃ (n : Int), vs = [.int n] ∧ ∀ (p : Addr) (H' : Hp), Same H H' → H' p = some (.tup ((dg n).map V.int)) → Q (.ref p) H'
abbrev s_digits_of : Stmt := top 1
theorem c_digits_of : FnScope ["number"] ["number"] (defScope s_digits_of) := ⟨rfl, rfl, rfl, by decide +kernel, rfl, by decide +kernel, by decide +kernel⟩

theorem ok_digits {f : Addr} {fd : FuncData} (F : Fun K "digits_of" "digits_of" s_digits_of f fd) (T : Txt mg) : FnOk P w K mg base CX0 1 f fd ["number"] spDigits := by
  refine F.ok c_digits_of (fun vs H Q E h => ?_) (fun cdv A outer s H vs Q E hr h => ?_)
  · obtain ⟨n, rfl, _⟩ := h
    rfl
  · obtain ⟨n, rfl, k⟩ := h
    refine ⟨_, (pss_one (ps_ret (pe_tup (pa_cons (pe_op op_and (pe_op op_shr (pv 0) pe_int) pe_int) (pa_cons (pe_op op_and (pe_op op_shr (pv 0) pe_int) pe_int) (pa_cons (pe_op op_and (pe_op op_shr (pv 0) pe_int) pe_int) (pa_cons (pe_op op_and (pv 0) pe_int) pa_nil))))))), ?_⟩
    walk_at "wp"
    refine ⟨szle (by show 4 ≤ _; decide), fun p np => ?_⟩
    refine k p _ (same_new np) ?_
    rw [upd_same, PyProof.Rows.bitAnd_m16, PyProof.Rows.bitAnd_m16, PyProof.Rows.bitAnd_m16, PyProof.Rows.bitAnd_m16]
    rfl
def spScode : Sp := fun vs H Q _ => ∃ (v : V) (d : PyData), vs = [v] ∧ At H v d ∧ Sc d ∧ ∀ (p : Addr) (H' : Hp), Same H H' → H' p = some (.tup ((scd d).map V.int)) → Q (.ref p) H'
abbrev s_scalar_code : Stmt := top 2
theorem c_scalar_code : FnScope ["scalar", "letter"] ["scalar"] (defScope s_scalar_code) := ⟨rfl, rfl, rfl, by decide +kernel, rfl, by decide +kernel, by decide +kernel⟩

theorem ok_scode {f : Addr} {fd : FuncData} (F : Fun K "scalar_code" "scalar_code" s_scalar_code f fd) (T : Txt mg) (C_digits_of : Cl P w K mg base 1 "digits_of" ["number"] spDigits) : FnOk P w K mg base CX0 2 f fd ["scalar"] spScode := by
  refine F.ok c_scalar_code (fun vs H Q E h => ?_) (fun cdv A outer s H vs Q E hr h => ?_)
  · obtain ⟨v, d, rfl, _⟩ := h
    rfl
  · obtain ⟨v, d, rfl, ha, hs, k⟩ := h
    refine ⟨_, (pss_cons (ps_if (pt_val (pe_callB call_isi (by rfl) T.n_isinstance (by decide +kernel) (pa_cons (pv 0) (pa_cons (pe_bltn (v := .ty "str") (by rfl) T.n_str (by decide +kernel) rfl) pa_nil)))) (pss_one (ps_ret (pe_op op_catA (pe_tup (pa_cons pe_int (pa_cons (pe_callB call_len_str (by rfl) T.n_len (by decide +kernel) (pa_cons (pv 0) pa_nil)) pa_nil))) (pe_callTy call_tuple_of (by rfl) T.n_tuple (by decide +kernel) (pa_cons (pe_lc (own := [("letter", 1)]) (by rfl) c_scalar_code.nd (pi_str (pv 0)) (blkOk_by (own := [("letter", 1)]) (N := ["scalar", "letter"]) (sc := defScope s_scalar_code) (by decide +kernel)) (fun _ _ _ _ _ => pg_name (i := 1) c_scalar_code.nd rfl (Or.inl rfl)) (fun _ _ _ _ _ => pts_nil) (fun _ _ _ _ _ => (pe_callB call_ord (by rfl) T.n_ord (by decide +kernel) (pa_cons (pv 1) pa_nil)))) pa_nil))))) pss_nil)
      (pss_cons (ps_if (pt_cmpR op_lt (pv 0) pe_int (nomark _)) (pss_one (ps_ret (pe_op op_catA (pe_tup (pa_cons pe_int pa_nil)) (pe_cl C_digits_of (hr.mono (by omega)) (by rfl) (pa_cons (pe_un un_neg (pv 0)) pa_nil))))) pss_nil)
      (pss_one (ps_ret (pe_op op_catA (pe_tup (pa_cons pe_int pa_nil)) (pe_cl C_digits_of (hr.mono (by omega)) (by rfl) (pa_cons (pv 0) pa_nil))))))), ?_⟩
    walk_at "wp"
    cases ha with
    | non => exact hs.elim
    | bl b => exact hs.elim
    | tup e l => exact hs.elim
    | str x =>
      refine w_isi (.base (.str _)) true (by decide +kernel) ?_
      walk_at "wp"
      have hx := hs.1
      have hos := ords_len x
      refine ⟨szle (by omega), ?_⟩
      walk_at "wp"
      refine ⟨szle (by show 2 ≤ _; decide), fun p np => ?_⟩
      walk_at "wp"
      intro D nD
      have pD : p ≠ D := fun e => by rw [← e, upd_same] at nD; cases nD
      have nDH : H D = none := (same_new np).free nD
      refine lc_it walk_str (fun i H2 => H2 D = some (.lst (((ords x).take i).map V.int)) ∧ Same H H2 ∧ H2 p = some (.tup [.int 3, .int ((x.length : Nat) : Int)])) ⟨upd_same, (same_new np).trans (same_new nD), (upd_ne pD).trans upd_same⟩ (fun _ _ _ _ => trivial) ?_ ?_
      · rintro i v H2 H3 hi ⟨d1, d2, d3⟩ ⟨rfl, c, hc, rfl⟩
        have hcl : x.cps.toList[i]? = some c := by rw [Array.getElem?_toList]; exact hc
        walk_at "wp"
        refine ⟨rfl, ?_⟩
        walk_at "wp"
        refine ⟨rfl, ?_⟩
        refine ⟨_, d1, szlt (by rw [List.length_map, List.length_take]; omega), ?_, fun b u hb => ?_, (upd_ne pD).trans d3⟩
        · rw [upd_same]
          have : (ords x).take (i + 1) = (ords x).take i ++ [((c : Nat) : Int)] := by
            rw [List.take_add_one]
            unfold ords
            rw [List.getElem?_map, hcl]
            rfl
          rw [this, List.map_append]
          rfl
        · rw [upd_ne (fun e => by rw [e, nDH] at hb; cases hb)]
          exact d2 _ _ hb
      · rintro H2 ⟨d1, d2, d3⟩
        have el : x.cps.size = (ords x).length := hos.symm
        rw [el, List.take_length] at d1
        walk_at "wp"
        intro q nq
        have hpq : p ≠ q := fun e => by rw [← e, d3] at nq; cases nq
        refine w_catA ((upd_ne hpq).trans d3) upd_same ?_ fun r H5 s5 h5 => ?_
        · rw [List.length_map]
          show 2 + _ ≤ _
          omega
        · exact k r H5 (d2.trans ((same_new nq).trans s5)) h5
    | int i =>
      refine w_isi (.base (.int _)) false (by decide +kernel) ?_
      walk_at "wp"
      refine w_ite (fun e => ?_) (fun e => ?_)
      · walk_at "wp"
        refine ⟨szle (by show 1 ≤ _; decide), fun p np => ?_⟩
        walk_at "wp"
        refine ⟨_, rfl, fun q H2 s2 h2 => ?_⟩
        have hp := s2 p _ upd_same
        refine w_catA hp h2 (by show 1 + 4 ≤ _; decide) fun r H5 s5 h5 => ?_
        refine k r H5 ((same_new np).trans (s2.trans s5)) ?_
        rw [h5]
        show _ = some (HO.tup ((if i < 0 then 2 :: dg (-i) else 1 :: dg i).map V.int))
        rw [if_pos e]
        rfl
      · walk_at "wp"
        refine ⟨szle (by show 1 ≤ _; decide), fun p np => ?_⟩
        walk_at "wp"
        refine ⟨_, rfl, fun q H2 s2 h2 => ?_⟩
        have hp := s2 p _ upd_same
        refine w_catA hp h2 (by show 1 + 4 ≤ _; decide) fun r H5 s5 h5 => ?_
        refine k r H5 ((same_new np).trans (s2.trans s5)) ?_
        rw [h5]
        show _ = some (HO.tup ((if i < 0 then 2 :: dg (-i) else 1 :: dg i).map V.int))
        rw [if_neg e]
        rfl
def spCode : Sp := fun vs H Q _ => ∃ (v : V) (d : PyData), vs = [v] ∧ At H v d ∧ El d ∧ ∀ (p : Addr) (H' : Hp), Same H H' → H' p = some (.tup ((cdE d).map V.int)) → Q (.ref p) H'
abbrev s_code_of : Stmt := top 3
theorem c_code_of : FnScope ["element"] ["element"] (defScope s_code_of) := ⟨rfl, rfl, rfl, by decide +kernel, rfl, by decide +kernel, by decide +kernel⟩

theorem ok_code {f : Addr} {fd : FuncData} (F : Fun K "code_of" "code_of" s_code_of f fd) (T : Txt mg) (C_scalar_code : Cl P w K mg base 2 "scalar_code" ["scalar"] spScode) : FnOk P w K mg base CX0 3 f fd ["element"] spCode := by
  refine F.ok c_code_of (fun vs H Q E h => ?_) (fun cdv A outer s H vs Q E hr h => ?_)
  · obtain ⟨v, d, rfl, _⟩ := h
    rfl
  · obtain ⟨v, d, rfl, ha, hs, k⟩ := h
    refine ⟨_, (pss_cons (ps_if (pt_val (pe_callB call_isi (by rfl) T.n_isinstance (by decide +kernel) (pa_cons (pv 0) (pa_cons (pe_bltn (v := .ty "tuple") (by rfl) T.n_tuple (by decide +kernel) rfl) pa_nil)))) (pss_one (ps_ret (pe_op op_catA (pe_op op_catA (pe_tup (pa_cons pe_int pa_nil)) (pe_cl C_scalar_code (hr.mono (by omega)) (by rfl) (pa_cons (pe_ix ix_tup (pv 0) pe_int (fun _ _ => rfl)) pa_nil))) (pe_cl C_scalar_code (hr.mono (by omega)) (by rfl) (pa_cons (pe_ix ix_tup (pv 0) pe_int (fun _ _ => rfl)) pa_nil))))) pss_nil)
      (pss_one (ps_ret (pe_cl C_scalar_code (hr.mono (by omega)) (by rfl) (pa_cons (pv 0) pa_nil))))), ?_⟩
    walk_at "wp"
    rcases hs with hs | ⟨a, b, rfl, hsa, hsb⟩
    · cases ha with
      | non => exact hs.elim
      | bl b => exact hs.elim
      | tup e l => exact hs.elim
      | str x =>
        refine w_isi (.base (.str _)) false (by decide +kernel) ?_
        walk_at "wp"
        exact ⟨_, .str x, rfl, .str x, hs, fun p H' s1 h1 => k p H' s1 (by rw [cdE_sc hs]; exact h1)⟩
      | int x =>
        refine w_isi (.base (.int _)) false (by decide +kernel) ?_
        walk_at "wp"
        exact ⟨_, .int x, rfl, .int x, hs, fun p H' s1 h1 => k p H' s1 (by rw [cdE_sc hs]; exact h1)⟩
    · cases ha with
      | tup e l =>
      cases l with
      | cons a1 l1 =>
      cases l1 with
      | cons a2 l2 =>
      cases l2
      refine w_isi (.base (.tup e)) true (by decide +kernel) ?_
      walk_at "wp"
      refine ⟨szle (by show 1 ≤ _; decide), fun p np => ?_⟩
      have ep := same_new (o := .tup [.int 4]) np _ _ e
      walk_at "wp"
      refine ⟨_, a, rfl, sc_v hsa a1, hsa, fun q H2 s2 h2 => ?_⟩
      have hp := s2 p _ upd_same
      refine w_catA hp h2 ?_ fun r H3 s3 h3 => ?_
      · rw [List.length_map]
        have := scd_len hsa
        show 1 + _ ≤ _
        omega
      have e3 := s3 _ _ (s2 _ _ ep)
      walk_at "wp"
      refine ⟨_, b, rfl, sc_v hsb a2, hsb, fun q4 H4 s4 h4 => ?_⟩
      refine w_catA (s4 _ _ h3) h4 ?_ fun r5 H5 s5 h5 => ?_
      · rw [List.length_map, List.length_append, List.length_map]
        have := scd_len hsa
        have := scd_len hsb
        show 1 + _ + _ ≤ _
        omega
      refine k r5 H5 ((same_new np).trans (s2.trans (s3.trans (s4.trans s5)))) ?_
      rw [h5]
      show _ = some (HO.tup ((4 :: (scd a ++ scd b)).map V.int))
      rw [List.map_cons, List.map_append]
      rfl
def spLscode : Sp := fun vs H Q _ => ∃ (v : V) (d : PyData), vs = [v] ∧ At H v d ∧ Sc d ∧ ∀ (p : Addr) (H' : Hp), Same H H' → H p = none → H' p = some (.lst ((scd d).map V.int)) → Q (.ref p) H'
abbrev s__law_scalar_code : Stmt := top 12
theorem c__law_scalar_code : FnScope ["value", "code", "unit", "sign"] ["value"] (defScope s__law_scalar_code) := ⟨rfl, rfl, rfl, by decide +kernel, rfl, by decide +kernel, by decide +kernel⟩

theorem ok_lscode {f : Addr} {fd : FuncData} (F : Fun K "_law_scalar_code" "_law_scalar_code" s__law_scalar_code f fd) (T : Txt mg) : FnOk P w K mg base CX0 1 f fd ["value"] spLscode := by
  refine F.ok c__law_scalar_code (fun vs H Q E h => ?_) (fun cdv A outer s H vs Q E hr h => ?_)
  · obtain ⟨v, d, rfl, _⟩ := h
    rfl
  · obtain ⟨v, d, rfl, ha, hs, k⟩ := h
    refine ⟨_, (pss_cons (ps_if (pt_val (pe_callB call_isi (by rfl) T.n_isinstance (by decide +kernel) (pa_cons (pv 0) (pa_cons (pe_bltn (v := .ty "str") (by rfl) T.n_str (by decide +kernel) rfl) pa_nil)))) (pss_one (ps_ret (pe_op op_cat (pe_lst (pa_cons pe_int (pa_cons (pe_callB call_len_str (by rfl) T.n_len (by decide +kernel) (pa_cons (pv 0) pa_nil)) pa_nil))) (pe_lc (own := [("sign", 3)]) (by rfl) c__law_scalar_code.nd (pi_str (pv 0)) (blkOk_by (own := [("sign", 3)]) (N := ["value", "code", "unit", "sign"]) (sc := defScope s__law_scalar_code) (by decide +kernel)) (fun _ _ _ _ _ => pg_name (i := 3) c__law_scalar_code.nd rfl (Or.inl rfl)) (fun _ _ _ _ _ => pts_nil) (fun _ _ _ _ _ => (pe_callB call_ord (by rfl) T.n_ord (by decide +kernel) (pa_cons (pv 3) pa_nil))))))) pss_nil)
      (pss_cons (ps_set (i := 1) c__law_scalar_code.nd rfl (Or.inl rfl) (pe_lst (pa_cons (pe_op op_add pe_int (pe_callTy call_int1 (by rfl) T.n_int (by decide +kernel) (pa_cons (pe_cmpR op_lt (pv 0) pe_int (nomark _)) pa_nil))) pa_nil)))
      (pss_cons (ps_for PassesOwn.never rfl (pi_list (pe_lst (pa_cons pe_int (pa_cons pe_int (pa_cons pe_int (pa_cons pe_int pa_nil)))))) (pg_name (i := 2) c__law_scalar_code.nd rfl (Or.inl rfl)) (pss_one (ps_expr (pe_bm PySem.F.plainAttrs_list PySem.F.slot_list_append PySem.F.type_list_append mt_append (pv 1) (pa_cons (pe_op op_modN (pe_callTy call_int1 (by rfl) T.n_int (by decide +kernel) (pa_cons (pe_op op_fdivW (pe_callB call_abs (by rfl) T.n_abs (by decide +kernel) (pa_cons (pv 0) pa_nil)) (pv 2)) pa_nil)) pe_int) pa_nil)))))
      (pss_one (ps_ret (pv 1)))))), ?_⟩
    walk_at "wp"
    cases ha with
    | non => exact hs.elim
    | bl b => exact hs.elim
    | tup e l => exact hs.elim
    | str x =>
      refine w_isi (.base (.str _)) true (by decide +kernel) ?_
      walk_at "wp"
      have hx := hs.1
      have hos := ords_len x
      refine ⟨szle (by omega), ?_⟩
      walk_at "wp"
      refine ⟨szle (by show 2 ≤ _; decide), fun p np => ?_⟩
      walk_at "wp"
      intro D nD
      have pD : p ≠ D := fun e => by rw [← e, upd_same] at nD; cases nD
      have nDH : H D = none := (same_new np).free nD
      refine lc_it walk_str (fun i H2 => H2 D = some (.lst (((ords x).take i).map V.int)) ∧ Same H H2 ∧ H2 p = some (.lst [.int 3, .int ((x.length : Nat) : Int)])) ⟨upd_same, (same_new np).trans (same_new nD), (upd_ne pD).trans upd_same⟩ (fun _ _ _ _ => trivial) ?_ ?_
      · rintro i v H2 H3 hi ⟨d1, d2, d3⟩ ⟨rfl, c, hc, rfl⟩
        have hcl : x.cps.toList[i]? = some c := by rw [Array.getElem?_toList]; exact hc
        walk_at "wp"
        refine ⟨rfl, ?_⟩
        walk_at "wp"
        refine ⟨rfl, ?_⟩
        refine ⟨_, d1, szlt (by rw [List.length_map, List.length_take]; omega), ?_, fun b u hb => ?_, (upd_ne pD).trans d3⟩
        · rw [upd_same]
          have : (ords x).take (i + 1) = (ords x).take i ++ [((c : Nat) : Int)] := by
            rw [List.take_add_one]
            unfold ords
            rw [List.getElem?_map, hcl]
            rfl
          rw [this, List.map_append]
          rfl
        · rw [upd_ne (fun e => by rw [e, nDH] at hb; cases hb)]
          exact d2 _ _ hb
      · rintro H2 ⟨d1, d2, d3⟩
        have el : x.cps.size = (ords x).length := hos.symm
        rw [el, List.take_length] at d1
        refine w_cat d3 d1 ?_ fun r H5 nr s5 h5 => ?_
        · rw [List.length_map]
          show 2 + _ ≤ _
          omega
        · exact k r H5 (d2.trans s5) (d2.free nr) h5
    | int i =>
      refine w_isi (.base (.int _)) false (by decide +kernel) ?_
      walk_at "wp"
      refine ⟨szle (by show 1 ≤ _; decide), fun o no => ?_⟩
      walk_at "wp"
      refine ⟨szle (by show 4 ≤ _; decide), fun m nm => ?_⟩
      have noH : H o = none := no
      have om : o ≠ m := fun e => by rw [← e, upd_same] at nm; cases nm
      have nmH : H m = none := (same_new no).free nm
      walk_at "wp"
      have ua : ∀ (z : Int), (if i < 0 then -i else i) = z → True := fun _ _ => trivial
      have wd : ∀ u : Int, 0 < u → u ≤ 281474976710656 → CDivW (if i < 0 then -i else i) u := fun u h1 h2 => wide_div (b := 64) h1 (by omega) (by decide) (by decide)
      let m4 : List V := [.int 281474976710656, .int 4294967296, .int 65536, .int 1]
      let us : Nat → Int := fun j => if j = 0 then 281474976710656 else if j = 1 then 4294967296 else if j = 2 then 65536 else 1
      have hus : ∀ j x, m4[j]? = some x → x = .int (us j) ∧ 0 < us j ∧ us j ≤ 281474976710656 := fun j x hx => by
        match j, hx with
        | 0, hx => exact ⟨(Option.some.inj hx).symm, by decide, by decide⟩
        | 1, hx => exact ⟨(Option.some.inj hx).symm, by decide, by decide⟩
        | 2, hx => exact ⟨(Option.some.inj hx).symm, by decide, by decide⟩
        | 3, hx => exact ⟨(Option.some.inj hx).symm, by decide, by decide⟩
        | j + 4, hx => exact absurd hx (by show ¬ (none = some x); intro z; cases z)
      let hd : Int := 1 + (if decide (i < 0) = true then 1 else 0)
      let z : Int := if i < 0 then -i else i
      refine for_list (K := K) (a := m) (xs := m4) (fun j σ H2 => ∃ v, σ = [some (.int i), some (.ref o), v, none] ∧ H2 o = some (.lst ((hd :: (dg z).take j).map V.int)) ∧ H2 m = some (.lst m4) ∧ Same H H2) ⟨none, rfl, (upd_ne om).trans upd_same, upd_same, (same_new no).trans (same_new nm)⟩ (fun _ _ _ _ ⟨_, _, _, h, _⟩ => .of h) ?_ ?_
      · rintro j x σ H2 hx ⟨v, rfl, d1, d2, d3⟩
        have hj : j < 4 := (List.getElem?_eq_some_iff.mp hx).1
        obtain ⟨rfl, u0, u1⟩ := hus j x hx
        walk_at "wp"
        refine w_I (wd _ u0 u1) ?_
        walk_at "wp"
        have mo : m ≠ o := om.symm
        refine ⟨_, rfl, ?_, (upd_ne mo).trans d2, fun b u hb => ?_⟩
        · rw [upd_same]
          have e : (hd :: (dg z).take (j + 1)) = (hd :: (dg z).take j) ++ [(z / us j).fmod 65536] := by
            have : (dg z)[j]? = some ((z / us j).fmod 65536) := by
              rw [Int.fmod_eq_emod_of_nonneg _ (by decide)]
              match j, hj with
              | 0, _ => rfl
              | 1, _ => rfl
              | 2, _ => rfl
              | 3, _ => show some (z % 65536) = some (z / 1 % 65536); rw [Int.ediv_one]
            rw [List.take_add_one, this]
            rfl
          rw [e, List.map_append]
          rfl
        · rw [upd_ne (fun e => by rw [e, noH] at hb; cases hb)]
          exact d3 _ _ hb
      · rintro σ H2 ⟨v, rfl, d1, d2, d3⟩
        walk_at "wp"
        refine k o H2 d3 noH ?_
        rw [d1]
        have e4 : (dg z).take m4.length = dg z := rfl
        rw [e4]
        show _ = some (HO.lst ((if i < 0 then 2 :: dg (-i) else 1 :: dg i).map V.int))
        by_cases hi : i < 0
        · have h1 : hd = 2 := by
            show 1 + (if decide (i < 0) = true then (1 : Int) else 0) = 2
            rw [decide_eq_true hi]
            rfl
          have h2 : z = -i := if_pos hi
          rw [if_pos hi, h1, h2]
        · have h1 : hd = 1 := by
            show 1 + (if decide (i < 0) = true then (1 : Int) else 0) = 1
            rw [decide_eq_false hi]
            rfl
          have h2 : z = i := if_neg hi
          rw [if_neg hi, h1, h2]
def spLcode : Sp := fun vs H Q _ => ∃ (v : V) (d : PyData), vs = [v] ∧ At H v d ∧ El d ∧ ∀ (p : Addr) (H' : Hp), Same H H' → H p = none → H' p = some (.lst ((cdE d).map V.int)) → Q (.ref p) H'
abbrev s__law_element_code : Stmt := top 13
theorem c__law_element_code : FnScope ["element"] ["element"] (defScope s__law_element_code) := ⟨rfl, rfl, rfl, by decide +kernel, rfl, by decide +kernel, by decide +kernel⟩

theorem ok_lcode {f : Addr} {fd : FuncData} (F : Fun K "_law_element_code" "_law_element_code" s__law_element_code f fd) (T : Txt mg) (C__law_scalar_code : Cl P w K mg base 1 "_law_scalar_code" ["value"] spLscode) : FnOk P w K mg base CX0 2 f fd ["element"] spLcode := by
  refine F.ok c__law_element_code (fun vs H Q E h => ?_) (fun cdv A outer s H vs Q E hr h => ?_)
  · obtain ⟨v, d, rfl, _⟩ := h
    rfl
  · obtain ⟨v, d, rfl, ha, hs, k⟩ := h
    refine ⟨_, (pss_cons (ps_if (pt_val (pe_callB call_isi (by rfl) T.n_isinstance (by decide +kernel) (pa_cons (pv 0) (pa_cons (pe_bltn (v := .ty "tuple") (by rfl) T.n_tuple (by decide +kernel) rfl) pa_nil)))) (pss_one (ps_ret (pe_op op_cat (pe_op op_cat (pe_lst (pa_cons pe_int pa_nil)) (pe_cl C__law_scalar_code (hr.mono (by omega)) (by rfl) (pa_cons (pe_ix ix_tup (pv 0) pe_int (fun _ _ => rfl)) pa_nil))) (pe_cl C__law_scalar_code (hr.mono (by omega)) (by rfl) (pa_cons (pe_ix ix_tup (pv 0) pe_int (fun _ _ => rfl)) pa_nil))))) pss_nil)
      (pss_one (ps_ret (pe_cl C__law_scalar_code (hr.mono (by omega)) (by rfl) (pa_cons (pv 0) pa_nil))))), ?_⟩
    walk_at "wp"
    rcases hs with hs | ⟨a, b, rfl, hsa, hsb⟩
    · cases ha with
      | non => exact hs.elim
      | bl b => exact hs.elim
      | tup e l => exact hs.elim
      | str x =>
        refine w_isi (.base (.str _)) false (by decide +kernel) ?_
        walk_at "wp"
        exact ⟨_, .str x, rfl, .str x, hs, fun p H' s1 n1 h1 => k p H' s1 n1 (by rw [cdE_sc hs]; exact h1)⟩
      | int x =>
        refine w_isi (.base (.int _)) false (by decide +kernel) ?_
        walk_at "wp"
        exact ⟨_, .int x, rfl, .int x, hs, fun p H' s1 n1 h1 => k p H' s1 n1 (by rw [cdE_sc hs]; exact h1)⟩
    · cases ha with
      | tup e l =>
      cases l with
      | cons a1 l1 =>
      cases l1 with
      | cons a2 l2 =>
      cases l2
      refine w_isi (.base (.tup e)) true (by decide +kernel) ?_
      walk_at "wp"
      refine ⟨szle (by show 1 ≤ _; decide), fun p np => ?_⟩
      have ep := same_new (o := .lst [.int 4]) np _ _ e
      walk_at "wp"
      refine ⟨_, a, rfl, sc_v hsa a1, hsa, fun q H2 s2 n2 h2 => ?_⟩
      have hp := s2 p _ upd_same
      refine w_cat hp h2 ?_ fun r H3 nr s3 h3 => ?_
      · rw [List.length_map]
        have := scd_len hsa
        show 1 + _ ≤ _
        omega
      have e3 := s3 _ _ (s2 _ _ ep)
      walk_at "wp"
      refine ⟨_, b, rfl, sc_v hsb a2, hsb, fun q4 H4 s4 n4 h4 => ?_⟩
      refine w_cat (s4 _ _ h3) h4 ?_ fun r5 H5 nr5 s5 h5 => ?_
      · rw [List.length_map, List.length_append, List.length_map]
        have := scd_len hsa
        have := scd_len hsb
        show 1 + _ + _ ≤ _
        omega
      refine k r5 H5 ((same_new np).trans (s2.trans (s3.trans (s4.trans s5)))) (((same_new np).trans (s2.trans (s3.trans s4))).free nr5) ?_
      rw [h5]
      show _ = some (HO.lst ((4 :: (scd a ++ scd b)).map V.int))
      rw [List.map_cons, List.map_append]
      rfl
theorem at_ints {H : Hp} {p : Addr} {cs : List Int} (h : H p = some (.tup (cs.map V.int))) : At H (.ref p) (.tuple (cs.map .int)) :=
  .tup h (by
    clear h
    induction cs with
    | nil => exact .nil
    | cons c r ih => exact .cons (.int c) ih)
theorem dep_ints {n : Nat} {cs : List Int} (h : cs.length ≤ 1000000) : Dep (n + 1) (.tuple (cs.map .int)) := .tup (by rw [List.length_map]; exact h) fun d hd => by
  obtain ⟨i, _, rfl⟩ := List.mem_map.mp hd
  exact .int _ _
def spLaw (K : PySem.W.Frag) : Sp := fun vs H Q _ => ∃ (a : Addr) (ns : List Int), vs = [.ref a] ∧ SqL K H a (ns.map V.int) ∧ ns.length ≤ 63 ∧ ∀ H', Q (.bl true) H'
abbrev s_law : Stmt := top 14
theorem c_law : FnScope ["script", "tape", "k", "element"] ["script"] (defScope s_law) := ⟨rfl, rfl, rfl, by decide +kernel, rfl, by decide +kernel, by decide +kernel⟩

theorem ok_law {f : Addr} {fd : FuncData} (F : Fun K "law" "law" s_law f fd) (T : Txt mg) (C__law_tape : Cl P w K mg base 1 "_law_tape" ["script"] (spTape K)) (C__law_element : Cl P w K mg base 5 "_law_element" ["tape"] spElement)
    (C_code_of : Cl P w K mg base 3 "code_of" ["element"] spCode) (C__law_element_code : Cl P w K mg base 2 "_law_element_code" ["element"] spLcode) (C__law_alike : Cl P w K mg base 3 "_law_alike" ["told", "due"] (spA 3)) : FnOk P w K mg base CX0 6 f fd ["script"] (spLaw K) := by
  refine F.ok c_law (fun vs H Q E h => ?_) (fun cdv A outer s H vs Q E hr h => ?_)
  · obtain ⟨a, ns, rfl, _⟩ := h
    rfl
  · obtain ⟨a, ns, rfl, hS, _, k⟩ := h
    refine ⟨_, (pss_cons (ps_set (i := 1) c_law.nd rfl (Or.inl rfl) (pe_cl C__law_tape (hr.mono (by omega)) (by rfl) (pa_cons (pv 0) pa_nil)))
      (pss_cons (ps_for PassesOwn.never rfl (pi_range1 (by rfl) T.n_range (pa_cons pe_int pa_nil)) (pg_name (i := 2) c_law.nd rfl (Or.inl rfl)) (pss_cons (ps_set (i := 3) c_law.nd rfl (Or.inl rfl) (pe_cl C__law_element (hr.mono (by omega)) (by rfl) (pa_cons (pv 1) pa_nil)))
      (pss_one (ps_if (pt_not (pt_truth (pe_cl C__law_alike (hr.mono (by omega)) (by rfl) (pa_cons (pe_cl C_code_of (hr.mono (by omega)) (by rfl) (pa_cons (pv 3) pa_nil)) (pa_cons (pe_callTy call_tuple_of (by rfl) T.n_tuple (by decide +kernel) (pa_cons (pe_cl C__law_element_code (hr.mono (by omega)) (by rfl) (pa_cons (pv 3) pa_nil)) pa_nil)) pa_nil))) (by intro _; rfl))) (pss_one (ps_ret pe_bl)) pss_nil))))
      (pss_one (ps_ret pe_bl)))), ?_⟩
    walk_at "wp"
    refine ⟨a, ns, rfl, hS, fun t l H0 s0 T0 => ?_⟩
    walk_at "wp"
    refine ⟨by omega, by omega, ?_⟩
    refine for_range (lo := 0) (n := (4 : Int).toNat) (fun i σ H1 => ∃ v1 v2, σ = [some (.ref a), some (.ref t), v1, v2] ∧ Tape H1 t l) ⟨none, none, rfl, T0⟩ ?_ ?_
    · rintro i σ H1 hi ⟨v1, v2, rfl, T1⟩
      walk_at "wp"
      refine ⟨t, l, rfl, T1, fun v d H2 he ha G2 => ?_⟩
      walk_at "wp"
      refine ⟨v, d, rfl, ha, he, fun p H3 s3 h3 => ?_⟩
      walk_at "wp"
      refine ⟨v, d, rfl, ha.same s3, he, fun q H4 s4 n4 h4 => ?_⟩
      walk_at "wp"
      intro r nr
      walk_at "wp"
      have hl := cdE_len he
      refine ⟨_, _, _, rfl, at_ints ((same_new nr) _ _ (s4 _ _ h3)), at_ints upd_same, dep_ints (by omega), ?_⟩
      walk_at "wp"
      exact ⟨_, _, rfl, ((G2.T.same s3).same s4).same (same_new nr)⟩
    · rintro σ H1 ⟨v1, v2, rfl, T1⟩
      walk_at "wp"
      exact k _
end
theorem all_mk {l : PySem.W.OpenLaw} {w : World} {K : PySem.W.Frag} {h : Heap} {mg : Str → Option Value} {fa : Addr} (X : K.In h) (G : h.Ns mainGlobals mg) (hfa : mg "law" = some (.ref fa))
    {f0 : Addr} {od0 an0 : Option Addr} {sl0 : Array (Option Value)} {oc0 kV0 dc0 pm0 cd0 ct0 : Value}
    (a0 : PySem.W.nsIn K mainGlobals "_law_draw" = some (some (.ref f0))) (l0 : K.lookup f0 = some ⟨oc0, od0, .func (PySem.W.fnOf "_law_draw" "_law_draw" (defArgs s__law_draw) (defBody s__law_draw) (defScope s__law_draw) .none kV0 dc0 pm0 an0 cd0 ct0), sl0⟩) (c0 : PySem.W.codeIn K cd0 "_law_draw" = true) (k0 : PySem.W.keepIn K (.ref f0) = true)
    {f1 : Addr} {od1 an1 : Option Addr} {sl1 : Array (Option Value)} {oc1 kV1 dc1 pm1 cd1 ct1 : Value}
    (a1 : PySem.W.nsIn K mainGlobals "_law_tape" = some (some (.ref f1))) (l1 : K.lookup f1 = some ⟨oc1, od1, .func (PySem.W.fnOf "_law_tape" "_law_tape" (defArgs s__law_tape) (defBody s__law_tape) (defScope s__law_tape) .none kV1 dc1 pm1 an1 cd1 ct1), sl1⟩) (c1 : PySem.W.codeIn K cd1 "_law_tape" = true) (k1 : PySem.W.keepIn K (.ref f1) = true)
    {f2 : Addr} {od2 an2 : Option Addr} {sl2 : Array (Option Value)} {oc2 kV2 dc2 pm2 cd2 ct2 : Value}
    (a2 : PySem.W.nsIn K mainGlobals "_law_alike" = some (some (.ref f2))) (l2 : K.lookup f2 = some ⟨oc2, od2, .func (PySem.W.fnOf "_law_alike" "_law_alike" (defArgs s__law_alike) (defBody s__law_alike) (defScope s__law_alike) .none kV2 dc2 pm2 an2 cd2 ct2), sl2⟩) (c2 : PySem.W.codeIn K cd2 "_law_alike" = true) (k2 : PySem.W.keepIn K (.ref f2) = true)
    {f3 : Addr} {od3 an3 : Option Addr} {sl3 : Array (Option Value)} {oc3 kV3 dc3 pm3 cd3 ct3 : Value}
    (a3 : PySem.W.nsIn K mainGlobals "_law_sign" = some (some (.ref f3))) (l3 : K.lookup f3 = some ⟨oc3, od3, .func (PySem.W.fnOf "_law_sign" "_law_sign" (defArgs s__law_sign) (defBody s__law_sign) (defScope s__law_sign) .none kV3 dc3 pm3 an3 cd3 ct3), sl3⟩) (c3 : PySem.W.codeIn K cd3 "_law_sign" = true) (k3 : PySem.W.keepIn K (.ref f3) = true)
    {f4 : Addr} {od4 an4 : Option Addr} {sl4 : Array (Option Value)} {oc4 kV4 dc4 pm4 cd4 ct4 : Value}
    (a4 : PySem.W.nsIn K mainGlobals "_law_word" = some (some (.ref f4))) (l4 : K.lookup f4 = some ⟨oc4, od4, .func (PySem.W.fnOf "_law_word" "_law_word" (defArgs s__law_word) (defBody s__law_word) (defScope s__law_word) .none kV4 dc4 pm4 an4 cd4 ct4), sl4⟩) (c4 : PySem.W.codeIn K cd4 "_law_word" = true) (k4 : PySem.W.keepIn K (.ref f4) = true)
    {f5 : Addr} {od5 an5 : Option Addr} {sl5 : Array (Option Value)} {oc5 kV5 dc5 pm5 cd5 ct5 : Value}
    (a5 : PySem.W.nsIn K mainGlobals "_law_scalar" = some (some (.ref f5))) (l5 : K.lookup f5 = some ⟨oc5, od5, .func (PySem.W.fnOf "_law_scalar" "_law_scalar" (defArgs s__law_scalar) (defBody s__law_scalar) (defScope s__law_scalar) .none kV5 dc5 pm5 an5 cd5 ct5), sl5⟩) (c5 : PySem.W.codeIn K cd5 "_law_scalar" = true) (k5 : PySem.W.keepIn K (.ref f5) = true)
    {f6 : Addr} {od6 an6 : Option Addr} {sl6 : Array (Option Value)} {oc6 kV6 dc6 pm6 cd6 ct6 : Value}
    (a6 : PySem.W.nsIn K mainGlobals "_law_element" = some (some (.ref f6))) (l6 : K.lookup f6 = some ⟨oc6, od6, .func (PySem.W.fnOf "_law_element" "_law_element" (defArgs s__law_element) (defBody s__law_element) (defScope s__law_element) .none kV6 dc6 pm6 an6 cd6 ct6), sl6⟩) (c6 : PySem.W.codeIn K cd6 "_law_element" = true) (k6 : PySem.W.keepIn K (.ref f6) = true)
    {f7 : Addr} {od7 an7 : Option Addr} {sl7 : Array (Option Value)} {oc7 kV7 dc7 pm7 cd7 ct7 : Value}
    (a7 : PySem.W.nsIn K mainGlobals "digits_of" = some (some (.ref f7))) (l7 : K.lookup f7 = some ⟨oc7, od7, .func (PySem.W.fnOf "digits_of" "digits_of" (defArgs s_digits_of) (defBody s_digits_of) (defScope s_digits_of) .none kV7 dc7 pm7 an7 cd7 ct7), sl7⟩) (c7 : PySem.W.codeIn K cd7 "digits_of" = true) (k7 : PySem.W.keepIn K (.ref f7) = true)
    {f8 : Addr} {od8 an8 : Option Addr} {sl8 : Array (Option Value)} {oc8 kV8 dc8 pm8 cd8 ct8 : Value}
    (a8 : PySem.W.nsIn K mainGlobals "scalar_code" = some (some (.ref f8))) (l8 : K.lookup f8 = some ⟨oc8, od8, .func (PySem.W.fnOf "scalar_code" "scalar_code" (defArgs s_scalar_code) (defBody s_scalar_code) (defScope s_scalar_code) .none kV8 dc8 pm8 an8 cd8 ct8), sl8⟩) (c8 : PySem.W.codeIn K cd8 "scalar_code" = true) (k8 : PySem.W.keepIn K (.ref f8) = true)
    {f9 : Addr} {od9 an9 : Option Addr} {sl9 : Array (Option Value)} {oc9 kV9 dc9 pm9 cd9 ct9 : Value}
    (a9 : PySem.W.nsIn K mainGlobals "code_of" = some (some (.ref f9))) (l9 : K.lookup f9 = some ⟨oc9, od9, .func (PySem.W.fnOf "code_of" "code_of" (defArgs s_code_of) (defBody s_code_of) (defScope s_code_of) .none kV9 dc9 pm9 an9 cd9 ct9), sl9⟩) (c9 : PySem.W.codeIn K cd9 "code_of" = true) (k9 : PySem.W.keepIn K (.ref f9) = true)
    {f10 : Addr} {od10 an10 : Option Addr} {sl10 : Array (Option Value)} {oc10 kV10 dc10 pm10 cd10 ct10 : Value}
    (a10 : PySem.W.nsIn K mainGlobals "_law_scalar_code" = some (some (.ref f10))) (l10 : K.lookup f10 = some ⟨oc10, od10, .func (PySem.W.fnOf "_law_scalar_code" "_law_scalar_code" (defArgs s__law_scalar_code) (defBody s__law_scalar_code) (defScope s__law_scalar_code) .none kV10 dc10 pm10 an10 cd10 ct10), sl10⟩) (c10 : PySem.W.codeIn K cd10 "_law_scalar_code" = true) (k10 : PySem.W.keepIn K (.ref f10) = true)
    {f11 : Addr} {od11 an11 : Option Addr} {sl11 : Array (Option Value)} {oc11 kV11 dc11 pm11 cd11 ct11 : Value}
    (a11 : PySem.W.nsIn K mainGlobals "_law_element_code" = some (some (.ref f11))) (l11 : K.lookup f11 = some ⟨oc11, od11, .func (PySem.W.fnOf "_law_element_code" "_law_element_code" (defArgs s__law_element_code) (defBody s__law_element_code) (defScope s__law_element_code) .none kV11 dc11 pm11 an11 cd11 ct11), sl11⟩) (c11 : PySem.W.codeIn K cd11 "_law_element_code" = true) (k11 : PySem.W.keepIn K (.ref f11) = true)
    {f12 : Addr} {od12 an12 : Option Addr} {sl12 : Array (Option Value)} {oc12 kV12 dc12 pm12 cd12 ct12 : Value}
    (a12 : PySem.W.nsIn K mainGlobals "law" = some (some (.ref f12))) (l12 : K.lookup f12 = some ⟨oc12, od12, .func (PySem.W.fnOf "law" "law" (defArgs s_law) (defBody s_law) (defScope s_law) .none kV12 dc12 pm12 an12 cd12 ct12), sl12⟩) (c12 : PySem.W.codeIn K cd12 "law" = true) (k12 : PySem.W.keepIn K (.ref f12) = true)
    (z_isinstance : PySem.W.nsIn K mainGlobals "isinstance" = some none)
    (z_str : PySem.W.nsIn K mainGlobals "str" = some none)
    (z_tuple : PySem.W.nsIn K mainGlobals "tuple" = some none)
    (z_len : PySem.W.nsIn K mainGlobals "len" = some none)
    (z_ord : PySem.W.nsIn K mainGlobals "ord" = some none)
    (z_list : PySem.W.nsIn K mainGlobals "list" = some none)
    (z_int : PySem.W.nsIn K mainGlobals "int" = some none)
    (z_abs : PySem.W.nsIn K mainGlobals "abs" = some none)
    (z_max : PySem.W.nsIn K mainGlobals "max" = some none)
    (z_range : PySem.W.nsIn K mainGlobals "range" = some none)
    (z_bool : PySem.W.nsIn K mainGlobals "bool" = some none)
    : ∃ fd : FuncData, (∀ (s : Shared) (v : Value), BindsTo s fd ⟨[v], []⟩ [("script", v)]) ∧ ∀ base : Heap, K.In base → base.Ns mainGlobals mg → FnOk l.prog w K mg base CX0 6 fa fd ["script"] (spLaw K) := by
  have e := hfa.symm.trans (PySem.W.mg_of X G a12)
  cases e
  have T : Txt mg := ⟨PySem.W.mg_none_of X G z_isinstance, PySem.W.mg_none_of X G z_str, PySem.W.mg_none_of X G z_tuple, PySem.W.mg_none_of X G z_len, PySem.W.mg_none_of X G z_ord, PySem.W.mg_none_of X G z_list, PySem.W.mg_none_of X G z_int, PySem.W.mg_none_of X G z_abs, PySem.W.mg_none_of X G z_max, PySem.W.mg_none_of X G z_range, PySem.W.mg_none_of X G z_bool⟩
  have F0 := fun_mk (st := s__law_draw) l0 c0 k0
  have F1 := fun_mk (st := s__law_tape) l1 c1 k1
  have F2 := fun_mk (st := s__law_alike) l2 c2 k2
  have F3 := fun_mk (st := s__law_sign) l3 c3 k3
  have F4 := fun_mk (st := s__law_word) l4 c4 k4
  have F5 := fun_mk (st := s__law_scalar) l5 c5 k5
  have F6 := fun_mk (st := s__law_element) l6 c6 k6
  have F7 := fun_mk (st := s_digits_of) l7 c7 k7
  have F8 := fun_mk (st := s_scalar_code) l8 c8 k8
  have F9 := fun_mk (st := s_code_of) l9 c9 k9
  have F10 := fun_mk (st := s__law_scalar_code) l10 c10 k10
  have F11 := fun_mk (st := s__law_element_code) l11 c11 k11
  have F12 := fun_mk (st := s_law) l12 c12 k12
  refine ⟨PySem.W.fnOf "law" "law" (defArgs s_law) (defBody s_law) (defScope s_law) .none kV12 dc12 pm12 an12 cd12 ct12, fun s v => .of_eq rfl, fun base _ _ => ?_⟩
  have C__law_draw : Cl l.prog w K mg base 1 "_law_draw" ["tape", "many"] (spDraw) := ⟨f0, _, ok_draw F0 T, PySem.W.mg_of X G a0, k0, F0.binds (ps := ["tape", "many"]) fun _ _ _ _ _ _ us hl => match us, hl with | [_, _], _ => rfl⟩
  have C__law_tape : Cl l.prog w K mg base 1 "_law_tape" ["script"] (spTape K) := ⟨f1, _, ok_tape F1 T, PySem.W.mg_of X G a1, k1, F1.binds (ps := ["script"]) fun _ _ _ _ _ _ us hl => match us, hl with | [_], _ => rfl⟩
  have C__law_alike : Cl l.prog w K mg base 3 "_law_alike" ["told", "due"] (spA 3) := ⟨f2, _, ok_alike F2 T (PySem.W.mg_of X G a2) 3, PySem.W.mg_of X G a2, k2, F2.binds (ps := ["told", "due"]) fun _ _ _ _ _ _ us hl => match us, hl with | [_, _], _ => rfl⟩
  have C__law_sign : Cl l.prog w K mg base 2 "_law_sign" ["tape"] (spSign) := ⟨f3, _, ok_sign F3 T C__law_draw, PySem.W.mg_of X G a3, k3, F3.binds (ps := ["tape"]) fun _ _ _ _ _ _ us hl => match us, hl with | [_], _ => rfl⟩
  have C__law_word : Cl l.prog w K mg base 3 "_law_word" ["tape"] (spWord) := ⟨f4, _, ok_word F4 T C__law_draw C__law_sign, PySem.W.mg_of X G a4, k4, F4.binds (ps := ["tape"]) fun _ _ _ _ _ _ us hl => match us, hl with | [_], _ => rfl⟩
  have C__law_scalar : Cl l.prog w K mg base 4 "_law_scalar" ["tape"] (spScalar) := ⟨f5, _, ok_scalar F5 T C__law_draw C__law_word, PySem.W.mg_of X G a5, k5, F5.binds (ps := ["tape"]) fun _ _ _ _ _ _ us hl => match us, hl with | [_], _ => rfl⟩
  have C__law_element : Cl l.prog w K mg base 5 "_law_element" ["tape"] (spElement) := ⟨f6, _, ok_element F6 T C__law_draw C__law_scalar, PySem.W.mg_of X G a6, k6, F6.binds (ps := ["tape"]) fun _ _ _ _ _ _ us hl => match us, hl with | [_], _ => rfl⟩
  have C_digits_of : Cl l.prog w K mg base 1 "digits_of" ["number"] (spDigits) := ⟨f7, _, ok_digits F7 T, PySem.W.mg_of X G a7, k7, F7.binds (ps := ["number"]) fun _ _ _ _ _ _ us hl => match us, hl with | [_], _ => rfl⟩
  have C_scalar_code : Cl l.prog w K mg base 2 "scalar_code" ["scalar"] (spScode) := ⟨f8, _, ok_scode F8 T C_digits_of, PySem.W.mg_of X G a8, k8, F8.binds (ps := ["scalar"]) fun _ _ _ _ _ _ us hl => match us, hl with | [_], _ => rfl⟩
  have C_code_of : Cl l.prog w K mg base 3 "code_of" ["element"] (spCode) := ⟨f9, _, ok_code F9 T C_scalar_code, PySem.W.mg_of X G a9, k9, F9.binds (ps := ["element"]) fun _ _ _ _ _ _ us hl => match us, hl with | [_], _ => rfl⟩
  have C__law_scalar_code : Cl l.prog w K mg base 1 "_law_scalar_code" ["value"] (spLscode) := ⟨f10, _, ok_lscode F10 T, PySem.W.mg_of X G a10, k10, F10.binds (ps := ["value"]) fun _ _ _ _ _ _ us hl => match us, hl with | [_], _ => rfl⟩
  have C__law_element_code : Cl l.prog w K mg base 2 "_law_element_code" ["element"] (spLcode) := ⟨f11, _, ok_lcode F11 T C__law_scalar_code, PySem.W.mg_of X G a11, k11, F11.binds (ps := ["element"]) fun _ _ _ _ _ _ us hl => match us, hl with | [_], _ => rfl⟩
  exact ok_law F12 T C__law_tape C__law_element C_code_of C__law_element_code C__law_alike
end Ss
open PySem PySem.W PyProof.Rows
set_option maxHeartbeats 0 in
theorem PySem.Challenge.cw_sameshape_k00_code_of_an_element_holds : PySem.Challenge.rw_sameshape_k00_code_of_an_element.Holds := by
  w_on; o_law; k_head; (case hw => w_witness2)
  k_fill
  refine L2.walk_of (l := PySem.Challenge.rw_sameshape_k00_code_of_an_element) (n := 63) (k := 6) (x := "script") (CX := fun _ => L2.CX0) (sp := fun w => Ss.spLaw _) rfl (by decide) rfl ⟨rfl, by decide, by decide⟩ (fun w h Y => PySem.W.kIn_of Y) ?F (fun _ _ a ns hl _ hS => ⟨a, ns, rfl, hS, hl, fun _ => rfl⟩) (fun _ _ _ _ _ h => h)
  case F =>
    intro w mg fa h KX G hmg
    refine' Ss.all_mk KX G hmg ?a0 ?l0 ?c0 ?k0 ?a1 ?l1 ?c1 ?k1 ?a2 ?l2 ?c2 ?k2 ?a3 ?l3 ?c3 ?k3 ?a4 ?l4 ?c4 ?k4 ?a5 ?l5 ?c5 ?k5 ?a6 ?l6 ?c6 ?k6 ?a7 ?l7 ?c7 ?k7 ?a8 ?l8 ?c8 ?k8 ?a9 ?l9 ?c9 ?k9 ?a10 ?l10 ?c10 ?k10 ?a11 ?l11 ?c11 ?k11 ?a12 ?l12 ?c12 ?k12 ?z_isinstance ?z_str ?z_tuple ?z_len ?z_ord ?z_list ?z_int ?z_abs ?z_max ?z_range ?z_bool
    (case a0 => k_is); (case l0 => k_is); (case c0 => k_is); (case k0 => k_is); (case a1 => k_is); (case l1 => k_is); (case c1 => k_is); (case k1 => k_is); (case a2 => k_is); (case l2 => k_is); (case c2 => k_is); (case k2 => k_is); (case a3 => k_is); (case l3 => k_is); (case c3 => k_is); (case k3 => k_is); (case a4 => k_is); (case l4 => k_is); (case c4 => k_is); (case k4 => k_is); (case a5 => k_is); (case l5 => k_is); (case c5 => k_is); (case k5 => k_is); (case a6 => k_is); (case l6 => k_is); (case c6 => k_is); (case k6 => k_is); (case a7 => k_is); (case l7 => k_is); (case c7 => k_is); (case k7 => k_is); (case a8 => k_is); (case l8 => k_is); (case c8 => k_is); (case k8 => k_is); (case a9 => k_is); (case l9 => k_is); (case c9 => k_is); (case k9 => k_is); (case a10 => k_is); (case l10 => k_is); (case c10 => k_is); (case k10 => k_is); (case a11 => k_is); (case l11 => k_is); (case c11 => k_is); (case k11 => k_is); (case a12 => k_is); (case l12 => k_is); (case c12 => k_is); (case k12 => k_is); (case z_isinstance => k_is); (case z_str => k_is); (case z_tuple => k_is); (case z_len => k_is); (case z_ord => k_is); (case z_list => k_is); (case z_int => k_is); (case z_abs => k_is); (case z_max => k_is); (case z_range => k_is); (case z_bool => k_is)
#print axioms PySem.Challenge.cw_sameshape_k00_code_of_an_element_holds

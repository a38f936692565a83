import PyProof.Rows.All
import Wide.All
import OpenK.AllK
import Wide.FinOn
import HandS.Base
import HandS.Call
import HandS.List
import HandS.Comp
import HandS.Ends
import HandS.Iter
import HandS.Text
import HandS.Words
import HandS.WordsList
import HandS.Wide
import HandS.WideBits
import HandS.IsInst
import HandS.TupAny
import HandS.Walk
import KE.KStrBytes
import PySem.Challenge.RW_sameshape_k03_code_of_a_node
set_option Elab.async false
set_option linter.all false
set_option maxRecDepth 100000
set_option maxHeartbeats 4000000
namespace Ss
open PySem PySem.Spec PyProof.Rows L2
/-! ### a def that stands at a module's name and keeps a promise -/
structure Cl (P : Program) (w : World) (K : PySem.W.Frag) (mg : Str → Option Value) (base : Heap) (k : Nat) (x : Str) (ps : List Str) (sp : Sp) : Prop where
  ex : ∃ f fd, FnOk P w K mg base CX0 k f fd ps sp ∧ mg x = some (.ref f) ∧ PySem.W.keepIn K (.ref f) = true ∧ Binds K fd ps []
theorem pe_cl {X : Cx} {k : Nat} {x : Str} {ps : List Str} {sp : Sp} {p pos : Pos} {e : Expr} {es : List Expr} {t : TA} (C : Cl X.prog X.w X.K X.mg X.base k x ps sp) (hr : Room k X.A) (hg : Gl X x)
    (ha : PA X (e :: es) t) (hdb : (x == ("__debug__" : Str)) = false := by decide) (he : starEach (e :: es) X.env = (false, eval e X.env) :: starEach es X.env := by rfl) (hpl : (backTo pos (starEach es X.env)).any (·.1) = false := by rfl) :
    PE X (.Call (.Name x p) (e :: es) [] pos) (tCall sp [] E0 t) := by
  obtain ⟨f, fd, F, hm, hk, b⟩ := C.ex
  exact pe_call F hr hg hm hk b .nil pass0 ha hdb he hpl
theorem Cl.mono {P : Program} {w : World} {K : PySem.W.Frag} {mg : Str → Option Value} {base : Heap} {j k : Nat} {x : Str} {ps : List Str} {sp : Sp} (C : Cl P w K mg base j x ps sp) (h : j ≤ k) : Cl P w K mg base k x ps sp := by
  obtain ⟨f, fd, F, r⟩ := C.ex
  exact ⟨f, fd, F.mono h, r⟩
theorem Cl.imp {P : Program} {w : World} {K : PySem.W.Frag} {mg : Str → Option Value} {base : Heap} {k : Nat} {x : Str} {ps : List Str} {sp sp' : Sp} (C : Cl P w K mg base k x ps sp) (h : ∀ vs H Q, sp' vs H Q E0 → sp vs H Q E0) (hl : ∀ vs H Q E, sp' vs H Q E → sp' vs H Q E0) : True := trivial
/-! ### heaps -/
theorem same_new {H : Hp} {p : Addr} {o : HO} (h : H p = none) : Same H (upd H p o) := fun b x e => by
  rw [upd_ne (ne_of_none e h)]
  exact e
/-- all that was tracked stays, but what stands at t -/
def Ext (t : Addr) (H H' : Hp) : Prop := ∀ b o, b ≠ t → H b = some o → H' b = some o
theorem Ext.refl (t : Addr) (H : Hp) : Ext t H H := fun _ _ _ h => h
theorem Ext.trans {t : Addr} {H H1 H2 : Hp} (a : Ext t H H1) (b : Ext t H1 H2) : Ext t H H2 := fun c o n h => b c o n (a c o n h)
theorem Ext.of {t : Addr} {H H' : Hp} (h : Same H H') : Ext t H H' := fun b o _ e => h b o e
/-! ### data -/
mutual
inductive At (H : Hp) : V → PyData → Prop
  | non : At H .non .none
  | bl (b : Bool) : At H (.bl b) (.bool b)
  | int (i : Int) : At H (.int i) (.int i)
  | str (x : Str) : At H (.str x) (.str x)
  | tup {a : Addr} {xs : List V} {ds : List PyData} : H a = some (.tup xs) → AtL H xs ds → At H (.ref a) (.tuple ds)
inductive AtL (H : Hp) : List V → List PyData → Prop
  | nil : AtL H [] []
  | cons {v : V} {vs : List V} {d : PyData} {ds : List PyData} : At H v d → AtL H vs ds → AtL H (v :: vs) (d :: ds)
end
mutual
theorem At.tups {H H' : Hp} (h : ∀ b xs, H b = some (.tup xs) → H' b = some (.tup xs)) : ∀ {v : V} {d : PyData}, At H v d → At H' v d
  | _, _, .non => .non
  | _, _, .bl b => .bl b
  | _, _, .int i => .int i
  | _, _, .str x => .str x
  | _, _, .tup e l => .tup (h _ _ e) (AtL.tups h l)
theorem AtL.tups {H H' : Hp} (h : ∀ b xs, H b = some (.tup xs) → H' b = some (.tup xs)) : ∀ {v : List V} {d : List PyData}, AtL H v d → AtL H' v d
  | _, _, .nil => .nil
  | _, _, .cons a l => .cons (At.tups h a) (AtL.tups h l)
end
theorem At.same {H H' : Hp} {v : V} {d : PyData} (h : Same H H') (a : At H v d) : At H' v d := a.tups fun b xs e => h b _ e
theorem AtL.same {H H' : Hp} {v : List V} {d : List PyData} (h : Same H H') (a : AtL H v d) : AtL H' v d := a.tups fun b xs e => h b _ e
/-- the tape stands at t: a list of the script's list at l, two counts, the sum -/
structure Tape (H : Hp) (t l : Addr) : Prop where
  ex : ∃ (ns : List Int) (p n s : Int), H t = some (.lst [.ref l, .int p, .int n, .int s]) ∧ H l = some (.lst (ns.map V.int)) ∧ l ≠ t ∧ 0 ≤ p ∧ 0 ≤ n ∧ 0 ≤ s
theorem Tape.same {H H' : Hp} {t l : Addr} (h : Same H H') (a : Tape H t l) : Tape H' t l := by
  obtain ⟨ns, p, n, s, a1, a2, r⟩ := a.ex
  exact ⟨ns, p, n, s, h _ _ a1, h _ _ a2, r⟩
theorem Tape.fresh {H : Hp} {t l o : Addr} (a : Tape H t l) (h : H o = none) : o ≠ t ∧ o ≠ l := by
  obtain ⟨ns, p, n, s, a1, a2, r⟩ := a.ex
  exact ⟨fun e => (by rw [e, a1] at h; cases h), fun e => (by rw [e, a2] at h; cases h)⟩
theorem Tape.put {H : Hp} {t l o : Addr} {x : HO} (a : Tape H t l) (h : o ≠ t ∧ o ≠ l) : Tape (upd H o x) t l := by
  obtain ⟨ns, p, n, s, a1, a2, r⟩ := a.ex
  exact ⟨ns, p, n, s, (upd_ne h.1.symm).trans a1, (upd_ne h.2.symm).trans a2, r⟩
theorem Ext.free {t o : Addr} {H H' : Hp} (e : Ext t H H') (n : o ≠ t) (h : H' o = none) : H o = none := by
  cases q : H o with
  | none => rfl
  | some x =>
    rw [e o x n q] at h
    cases h
/-- the tape went on, all else that was tracked stands -/
structure Go (t l : Addr) (H H' : Hp) : Prop where
  e : Ext t H H'
  T : Tape H' t l
theorem Go.refl {t l : Addr} {H : Hp} (T : Tape H t l) : Go t l H H := ⟨Ext.refl t H, T⟩
theorem Go.trans {t l : Addr} {H H1 H2 : Hp} (a : Go t l H H1) (b : Go t l H1 H2) : Go t l H H2 := ⟨a.e.trans b.e, b.T⟩
theorem Go.same {t l : Addr} {H H1 H2 : Hp} (a : Go t l H H1) (b : Same H1 H2) : Go t l H H2 := ⟨a.e.trans (Ext.of b), a.T.same b⟩
theorem Go.new {t l p : Addr} {H H1 : Hp} {x : HO} (a : Go t l H H1) (h : H1 p = none) : Go t l H (upd H1 p x) := a.same (same_new h)
/-- an object that is new since H is changed -/
theorem Go.put {t l p : Addr} {H H1 : Hp} {x : HO} (a : Go t l H H1) (h : H p = none) (n : p ≠ t ∧ p ≠ l) : Go t l H (upd H1 p x) :=
  ⟨fun b o bt hb => by rw [upd_ne (fun e => by rw [e, h] at hb; cases hb)]; exact a.e b o bt hb, a.T.put n⟩
theorem Go.free {t l p : Addr} {H H1 : Hp} (a : Go t l H H1) (h : H1 p = none) : H p = none ∧ p ≠ t ∧ p ≠ l :=
  have n := a.T.fresh h
  ⟨a.e.free n.1 h, n⟩
/-- what stands apart from the tape stays -/
theorem Go.at {t l p : Addr} {H H1 : Hp} {x : HO} (a : Go t l H H1) (h : H p = some x) (n : p ≠ t) : H1 p = some x := a.e p x n h
theorem Tape.tup {H H' : Hp} {t l : Addr} (a : Tape H t l) (e : Ext t H H') : ∀ b xs, H b = some (.tup xs) → H' b = some (.tup xs) := fun b xs h => by
  obtain ⟨ns, p, n, s, a1, _⟩ := a.ex
  exact e b _ (ne_of h a1 (by intro z; cases z)) h
theorem At.go {H H' : Hp} {t l : Addr} {v : V} {d : PyData} (a : At H v d) (T : Tape H t l) (g : Go t l H H') : At H' v d := a.tups (T.tup g.e)
theorem AtL.go {H H' : Hp} {t l : Addr} {v : List V} {d : List PyData} (a : AtL H v d) (T : Tape H t l) (g : Go t l H H') : AtL H' v d := a.tups (T.tup g.e)
/-! ### readings, step by step -/
section
variable {σ : L2.St} {H : Hp} {D : Ends} {t u : TS} {te ta tb : TE} {Q : VK} {g : TG} {c : TT} {i j : Int}
theorem w_seq (h : t { D with nx := u D } σ H) : tSeq t u D σ H := h
theorem w_asg (h : te σ H fun x H1 => g x σ H1 D.nx) : tAsg te g D σ H := h
theorem w_next (h : D.nx σ H) : tNext D σ H := h
theorem w_name {n : Nat} {v : V} {R : L2.St → Hp → Prop} (h : R (σ.set n (some v)) H) : gName n v σ H R := h
theorem w_gsub {to ti : TE} {ts : TSet} {v : V} {R : L2.St → Hp → Prop} (h : to σ H fun o H1 => ti σ H1 fun i H2 => ts o i v H2 fun H3 => R σ H3) : gSub to ti ts v σ H R := h
theorem w_ret (h : te σ H D.rt) : tRet te D σ H := h
theorem w_drop (h : te σ H fun _ H1 => D.nx σ H1) : tDrop te D σ H := h
theorem w_ifS (h : c σ H fun b H1 => if b = true then t D σ H1 else u D σ H1) : tIfS c t u D σ H := h
theorem w_op {r : R2} (h : ta σ H fun x H1 => tb σ H1 fun y H2 => r x y H2 Q) : tOp r ta tb σ H Q := h
theorem w_un {r : V → Hp → VK → Prop} (h : ta σ H fun x H1 => r x H1 Q) : tUn r ta σ H Q := h
theorem w_cb {r : List V → Hp → VK → Prop} {tt : TA} (h : tt σ H fun vs H1 => r vs H1 Q) : tCB r tt σ H Q := h
theorem w_call {sp : Sp} {E : XK} {tt : TA} (h : tt σ H fun vs H1 => sp (vs ++ []) H1 Q E) : tCall sp [] E tt σ H Q := h
theorem w_cons {tr : TA} {R : List V → Hp → Prop} (h : ta σ H fun x H1 => tr σ H1 fun xs H2 => R (x :: xs) H2) : tCons ta tr σ H R := h
theorem w_nil {R : List V → Hp → Prop} (h : R [] H) : tNil σ H R := h
theorem w_var {n : Nat} {v : V} (h : σ[n]? = some (some v)) (q : Q v H) : tVar n σ H Q := ⟨v, h, q⟩
theorem w_c {v : V} (q : Q v H) : tC v σ H Q := q
theorem w_test {R : Bool → Hp → Prop} (h : te σ H fun x H' => ∃ k, x = .bl k ∧ R k H') : tTest te σ H R := h
theorem w_B {R : Bool → Hp → Prop} (h : te σ H fun x H' => ∃ k, x = .bl k ∧ R k H') : tB te σ H R := h
theorem w_bl {k : Bool} {R : Bool → Prop} (q : R k) : ∃ k', V.bl k = V.bl k' ∧ R k' := ⟨k, rfl, q⟩
theorem w_not {R : Bool → Hp → Prop} (h : c σ H fun b H1 => R (!b) H1) : tNot c σ H R := h
theorem w_and {d : TT} {R : Bool → Hp → Prop} (h : c σ H fun b H1 => if b = true then d σ H1 R else R false H1) : tAnd c d σ H R := h
theorem w_or {d : TT} {R : Bool → Hp → Prop} (h : c σ H fun b H1 => if b = true then R true H1 else d σ H1 R) : tOr c d σ H R := h
theorem w_andV (h : ta σ H fun x H1 => ∃ c, x = .bl c ∧ if c = true then tb σ H1 Q else Q (.bl false) H1) : tAndV ta tb σ H Q := h
theorem w_orV (h : ta σ H fun x H1 => ∃ c, x = .bl c ∧ if c = true then Q (.bl true) H1 else tb σ H1 Q) : tOrV ta tb σ H Q := h
theorem w_notV (h : ta σ H fun x H1 => ∃ c, x = .bl c ∧ Q (.bl (!c)) H1) : tNotV ta σ H Q := h
theorem w_if (h : c σ H fun b H1 => if b = true then ta σ H1 Q else tb σ H1 Q) : tIf c ta tb σ H Q := h
theorem w_I0 {f : Int → Int → V} (h : Q (f i j) H) : rI0 f (.int i) (.int j) H Q := ⟨i, j, rfl, rfl, h⟩
theorem w_I {C : Int → Int → Prop} {f : Int → Int → V} (hc : C i j) (h : Q (f i j) H) : rI C f (.int i) (.int j) H Q := ⟨i, j, rfl, rfl, hc, h⟩
theorem w_U {f : Int → V} (h : Q (f i) H) : rU f (.int i) H Q := ⟨i, rfl, h⟩
theorem w_eqI (h : Q (.bl (decide (i = j))) H) : rEq (.int i) (.int j) H Q := ⟨rfl, by
  have e : decide (V.int i = V.int j) = decide (i = j) := by
    by_cases q : i = j
    · rw [decide_eq_true q, decide_eq_true (congrArg V.int q)]
    · rw [decide_eq_false q, decide_eq_false fun z => q (V.int.inj z)]
  rw [e]
  exact h⟩
theorem w_neI (h : Q (.bl (!decide (i = j))) H) : rNe (.int i) (.int j) H Q := ⟨rfl, by
  have e : decide (V.int i = V.int j) = decide (i = j) := by
    by_cases q : i = j
    · rw [decide_eq_true q, decide_eq_true (congrArg V.int q)]
    · rw [decide_eq_false q, decide_eq_false fun z => q (V.int.inj z)]
  rw [e]
  exact h⟩
theorem w_neB {a b : Bool} (h : Q (.bl (a != b)) H) : rNe (.bl a) (.bl b) H Q := ⟨rfl, by
  have e : (!decide (V.bl a = V.bl b)) = (a != b) := by cases a <;> cases b <;> rfl
  rw [e]
  exact h⟩
theorem w_eqS {x y : Str} (h : Q (.bl (decide (x = y))) H) : rEq (.str x) (.str y) H Q := ⟨rfl, by
  have e : decide (V.str x = V.str y) = decide (x = y) := by
    by_cases q : x = y
    · rw [decide_eq_true q, decide_eq_true (congrArg V.str q)]
    · rw [decide_eq_false q, decide_eq_false fun z => q (V.str.inj z)]
  rw [e]
  exact h⟩
theorem w_ixL {K : PySem.W.Frag} {p : Addr} {xs : List V} {v : V} (h : SqL K H p xs) (ha : atI xs i = some v) (q : Q v H) : rIxL K (.ref p) (.int i) H Q := ⟨p, xs, i, v, rfl, rfl, h, ha, q⟩
theorem w_ixT {K : PySem.W.Frag} {p : Addr} {xs : List V} {v : V} (h : SqT K H p xs) (ha : atI xs i = some v) (q : Q v H) : rIxT K (.ref p) (.int i) H Q := ⟨p, xs, i, v, rfl, rfl, h, ha, q⟩
theorem w_setL {p : Addr} {xs : List V} {v : V} {n : Nat} {R : Hp → Prop} (h : H p = some (.lst xs)) (ha : ixN xs.length i = some n) (q : R (upd H p (.lst (xs.set n v)))) : rSetL (.ref p) (.int i) v H R := ⟨p, xs, i, n, rfl, rfl, h, ha, q⟩
theorem w_ite {p A B : Prop} [Decidable p] (h1 : p → A) (h2 : ¬ p → B) : if decide p = true then A else B := by
  by_cases h : p
  · rw [decide_eq_true h]
    exact iteT (h1 h)
  · rw [decide_eq_false h]
    exact iteF (h2 h)
theorem w_iteN {p A B : Prop} [Decidable p] (h1 : ¬ p → A) (h2 : p → B) : if (!decide p) = true then A else B := by
  by_cases h : p
  · rw [decide_eq_true h]
    exact iteF (h2 h)
  · rw [decide_eq_false h]
    exact iteT (h1 h)
theorem w_int1 (h : Q (.int i) H) : (∃ i', [V.int i] = [V.int i'] ∧ Q (.int i') H) ∨ ∃ k, [V.int i] = [V.bl k] ∧ Q (.int (if k then 1 else 0)) H := .inl ⟨i, rfl, h⟩
theorem w_intB {k : Bool} (h : Q (.int (if k then 1 else 0)) H) : (∃ i', [V.bl k] = [V.int i'] ∧ Q (.int i') H) ∨ ∃ k', [V.bl k] = [V.bl k'] ∧ Q (.int (if k' then 1 else 0)) H := .inr ⟨k, rfl, h⟩
theorem w_abs (h : Q (.int (if i < 0 then -i else i)) H) : ∃ i', [V.int i] = [V.int i'] ∧ Q (.int (if i' < 0 then -i' else i')) H := ⟨i, rfl, h⟩
theorem w_max2 (h : Q (.int (if j > i then j else i)) H) : ∃ i' j', [V.int i, V.int j] = [V.int i', V.int j'] ∧ Q (.int (if j' > i' then j' else i')) H := ⟨i, j, rfl, h⟩
theorem w_min2 (h : Q (.int (if j < i then j else i)) H) : ∃ i' j', [V.int i, V.int j] = [V.int i', V.int j'] ∧ Q (.int (if j' < i' then j' else i')) H := ⟨i, j, rfl, h⟩
theorem w_lenL {K : PySem.W.Frag} {p : Addr} {xs : List V} (h : SqL K H p xs) (q : Q (.int xs.length) H) : ∃ p' ys, [V.ref p] = [V.ref p'] ∧ (SqL K H p' ys ∨ SqT K H p' ys) ∧ Q (.int ys.length) H := ⟨p, xs, rfl, .inl h, q⟩
theorem w_lenT {K : PySem.W.Frag} {p : Addr} {xs : List V} (h : SqT K H p xs) (q : Q (.int xs.length) H) : ∃ p' ys, [V.ref p] = [V.ref p'] ∧ (SqL K H p' ys ∨ SqT K H p' ys) ∧ Q (.int ys.length) H := ⟨p, xs, rfl, .inr h, q⟩
theorem w_tup {tt : TA} (h : tt σ H fun xs H1 => xs.length ≤ sizeLine ∧ ∀ p, H1 p = none → Q (.ref p) (upd H1 p (.tup xs))) : tTup tt σ H Q := h
theorem w_lst {tt : TA} (h : tt σ H fun xs H1 => xs.length ≤ sizeLine ∧ ∀ p, H1 p = none → Q (.ref p) (upd H1 p (.lst xs))) : tLst tt σ H Q := h
end
section
variable {K : PySem.W.Frag}
theorem fm {a b : Int} (h : 0 < b) : 0 ≤ a.fmod b ∧ a.fmod b < b := ⟨Int.fmod_nonneg_of_pos a h, Int.fmod_lt_of_pos a h⟩
theorem ext_upd {H : Hp} {t : Addr} {o : HO} : Ext t H (upd H t o) := fun b u n e => by
  rw [upd_ne n]
  exact e
theorem w_for {σ : L2.St} {H : Hp} {D : Ends} {wi : TI} {g : TG} {tb : TS} (h : wi σ H fun J H1 => ∃ W : Nat → Nat → L2.St → Hp → Prop, (∃ m, W 0 m σ H1) ∧ ∀ i m σ H, W i m σ H →
      (J.stop i H ∧ D.nx σ H) ∨ (J.go i H ∧ ∃ N : L2.St → Hp → Prop, (∀ σ' H', N σ' H' → ∃ m', m' < m ∧ W (i + 1) m' σ' H') ∧ ∀ x H', J.yld i H x H' → g x σ H' fun σ2 H2 => tb { D with nx := N, ct := N, bk := D.nx } σ2 H2)) : tFor wi g tb D σ H := h
theorem q_iteT {A B : Prop} {d : Decidable (true = true)} (h : A) : @ite Prop (true = true) d A B := by rw [if_pos rfl]; exact h
theorem q_iteF {A B : Prop} {d : Decidable (false = true)} (h : B) : @ite Prop (false = true) d A B := by rw [if_neg Bool.false_ne_true]; exact h
theorem q_iteNT {A B : Prop} {d : Decidable ((!true) = true)} (h : B) : @ite Prop ((!true) = true) d A B := by rw [if_neg (show ¬ ((!true) = true) from Bool.false_ne_true)]; exact h
theorem q_iteNF {A B : Prop} {d : Decidable ((!false) = true)} (h : A) : @ite Prop ((!false) = true) d A B := by rw [if_pos (show (!false) = true from rfl)]; exact h
theorem w_break {σ : L2.St} {H : Hp} {D : Ends} (h : D.bk σ H) : tBreak D σ H := h
theorem w_cont {σ : L2.St} {H : Hp} {D : Ends} (h : D.ct σ H) : tCont D σ H := h
theorem w_bits {σ : L2.St} {H : Hp} {to : TE} {Q : VK} (h : to σ H fun x H1 => ∃ i, x = .int i ∧ Q (.int (Builtin.Int.intBits i : Nat)) H1) : tBits to σ H Q := h
theorem w_rng1 {σ : L2.St} {H : Hp} {ta : TA} {R : It → Hp → Prop} (h : ta σ H fun vs H1 => ∃ j : Int, vs = [.int j] ∧ -(2 ^ 62) ≤ j ∧ j < 2 ^ 62 ∧ R (Itr 0 j.toNat) H1) : iRng1 ta σ H R := h
theorem w_rng2 {σ : L2.St} {H : Hp} {ta : TA} {R : It → Hp → Prop} (h : ta σ H fun vs H1 => ∃ i j : Int, vs = [.int i, .int j] ∧ (-(2 ^ 62) ≤ i ∧ i < 2 ^ 62 ∧ -(2 ^ 62) ≤ j ∧ j < 2 ^ 62) ∧ R (Itr i (j - i).toNat) H1) : iRng2 ta σ H R := h
theorem w_itl {σ : L2.St} {H : Hp} {tl : TE} {R : It → Hp → Prop} (h : tl σ H fun x H1 => ∃ a, x = .ref a ∧ (∃ xs, SqL K H1 a xs) ∧ R (Itl K a) H1) : iList K tl σ H R := h
theorem w_itt {σ : L2.St} {H : Hp} {tl : TE} {R : It → Hp → Prop} (h : tl σ H fun x H1 => ∃ a, x = .ref a ∧ (∃ xs, SqT K H1 a xs) ∧ R (Itt K a) H1) : iTup K tl σ H R := h
theorem hu64 {A : Around} {k : Nat} (hr : Room k A) : A.units + 64 < cLine := by
  have := hr.un
  omega
theorem at_ofN {α : Type} {xs : List α} {z : Int} {j : Nat} {v : α} (e : z = (j : Int)) (h : xs[j]? = some v) : atI xs z = some v := by
  rw [e]
  exact atI_nat h
theorem szle {n : Nat} (h : n ≤ 100000) : n ≤ sizeLine := Nat.le_trans h (by decide)
theorem szlt {n : Nat} (h : n < 100000) : n < sizeLine := Nat.lt_of_lt_of_le h (by decide)
section
variable {σ : L2.St} {H : Hp} {te : TE} {tl th : TO} {Q : VK}
theorem w_sl {r : V → Option Int → Option Int → Hp → VK → Prop} (h : te σ H fun x H1 => tl σ H1 fun l H2 => th σ H2 fun u H3 => r x l u H3 Q) : tSl r te tl th σ H Q := h
theorem w_part {R : Option Int → Hp → Prop} (h : te σ H fun x H1 => ∃ i, x = .int i ∧ R (some i) H1) : tPart te σ H R := h
theorem w_nopart {R : Option Int → Hp → Prop} (h : R none H) : tNoPart σ H R := h
theorem w_bm {T : String} {r : V → List V → Hp → VK → Prop} {t : TA} (h : te σ H fun x H1 => tyV K T x H1 ∧ t σ H1 fun xs H2 => r x xs H2 Q) : tBM K T r te t σ H Q := h
theorem w_append {l : Addr} {xs : List V} {v : V} (h : H l = some (.lst xs)) (hz : xs.length < sizeLine) (q : Q .non (upd H l (.lst (xs ++ [v])))) : rAppend (.ref l) [v] H Q := ⟨l, xs, v, rfl, rfl, h, hz, q⟩
theorem w_yes {R : Bool → Hp → Prop} (h : R true H) : tYes σ H R := h
theorem w_lc {wi : TI} {g : TG} {tt : TT} {vs : List Nat} (h : wi σ H fun J H1 => ∀ D, H1 D = none → ∃ W : Nat → Nat → Hp → Prop, (∃ m, W 0 m (upd H1 D (.lst []))) ∧ ∀ i m H, W i m H →
  (J.stop i H ∧ Q (.ref D) H) ∨ (J.go i H ∧ ∃ Nx : Hp → Prop, (∀ H', Nx H' → ∃ m', m' < m ∧ W (i + 1) m' H') ∧ ∀ x H', J.yld i H x H' → g x (wipe σ vs) H' fun σ2 H2 => wipe σ2 vs = wipe σ vs ∧ tt σ2 H2 fun b H3 =>
    if b = true then te σ2 H3 fun y H4 => ∃ acc, H4 D = some (.lst acc) ∧ acc.length < sizeLine ∧ Nx (upd H4 D (.lst (acc ++ [y]))) else Nx H3)) : tLc wi g tt te vs σ H Q := h
theorem cut_to (xs : List V) (n : Nat) : cutV xs none (some (n : Int)) = xs.take n := by
  unfold cutV
  rw [HT.sIx_none, show HT.sIx xs.length xs.length (some (n : Int)) = min n xs.length from HT.sIx_nat xs.length xs.length n]
  rw [List.drop_zero, Nat.sub_zero]
  by_cases h : n ≤ xs.length
  · rw [Nat.min_eq_left h]
  · rw [Nat.min_eq_right (by omega), List.take_of_length_le (Nat.le_refl _), List.take_of_length_le (by omega)]
theorem cut_from (xs : List V) (n : Nat) : cutV xs (some (n : Int)) none = xs.drop n := by
  unfold cutV
  rw [HT.sIx_none, show HT.sIx xs.length 0 (some (n : Int)) = min n xs.length from HT.sIx_nat xs.length 0 n]
  by_cases h : n ≤ xs.length
  · rw [Nat.min_eq_left h, List.take_of_length_le (by rw [List.length_drop]; exact Nat.le_refl _)]
  · rw [Nat.min_eq_right (by omega), List.drop_of_length_le (Nat.le_refl _), List.drop_of_length_le (by omega), List.take_nil]
theorem cut_both (xs : List V) (m n : Nat) : cutV xs (some (m : Int)) (some (n : Int)) = (xs.take n).drop m := by
  unfold cutV
  rw [show HT.sIx xs.length 0 (some (m : Int)) = min m xs.length from HT.sIx_nat xs.length 0 m, show HT.sIx xs.length xs.length (some (n : Int)) = min n xs.length from HT.sIx_nat xs.length xs.length n]
  rw [List.drop_take]
  by_cases g : n ≤ xs.length
  · rw [Nat.min_eq_left g]
    by_cases h : m ≤ xs.length
    · rw [Nat.min_eq_left h]
    · rw [Nat.min_eq_right (by omega), List.drop_of_length_le (Nat.le_refl _), List.drop_of_length_le (by omega), List.take_nil, List.take_nil]
  · rw [Nat.min_eq_right (show xs.length ≤ n by omega)]
    by_cases h : m ≤ xs.length
    · rw [Nat.min_eq_left h, List.take_of_length_le (by rw [List.length_drop]; exact Nat.le_refl _), List.take_of_length_le (by rw [List.length_drop]; omega)]
    · rw [Nat.min_eq_right (by omega), List.drop_of_length_le (Nat.le_refl _), List.drop_of_length_le (by omega), List.take_nil, List.take_nil]
end
theorem w_slA {H : Hp} {Q : VK} {a : Addr} {xs : List V} {lo hi : Option Int} (hx : H a = some (.tup xs)) (q : ∀ (p : Addr) (H' : Hp), Same H H' → H' p = some (.tup (cutV xs lo hi)) → Q (.ref p) H') : rSlA K (.ref a) lo hi H Q := by
  refine ⟨a, xs, rfl, .of hx, fun h => q a H (Same.refl H) ?_, fun _ p np => q p _ (same_new np) upd_same⟩
  have e : cutV xs lo hi = xs := by
    unfold cutV
    rw [h.1, h.2, List.drop_zero, Nat.sub_zero, List.take_length]
  rw [e]
  exact hx
theorem at_cut (xs : List V) (j : Nat) : cutV xs (some (j : Int)) (some ((j + 1 : Nat) : Int)) = (xs[j]?).toList := by
  rw [cut_both, List.drop_take, Nat.add_sub_cancel_left]
  by_cases h : j < xs.length
  · rw [List.drop_eq_getElem_cons h, List.getElem?_eq_getElem h]
    rfl
  · rw [List.drop_of_length_le (by omega), List.getElem?_eq_none (by omega)]
    rfl
theorem w_ixAny {H : Hp} {Q : VK} {p : Addr} {xs : List V} {r : Int} (P : V → Prop) (h : SqL K H p xs) (r0 : 0 ≤ r) (r1 : r < xs.length) (hp : ∀ v ∈ xs, P v) (q : ∀ v, P v → Q v H) : rIxL K (.ref p) (.int r) H Q := by
  have hr : r.toNat < xs.length := by omega
  refine w_ixL (v := xs[r.toNat]) h (at_of (j := r.toNat) (by omega) (List.getElem?_eq_getElem hr)) (q _ (hp _ (List.getElem_mem hr)))
theorem w_ixS {H : Hp} {Q : VK} {z : Str} {r : Int} (P : Nat → Prop) (hz : z.length ≤ sizeLine) (r0 : 0 ≤ r) (r1 : r < z.cps.toList.length) (hp : ∀ c ∈ z.cps.toList, P c) (q : ∀ c, P c → Q (.str ⟨#[c]⟩) H) : rIxS (.str z) (.int r) H Q := by
  have hr : r.toNat < z.cps.toList.length := by omega
  exact ⟨z, r, z.cps.toList[r.toNat], rfl, rfl, hz, at_ofN (j := r.toNat) (by omega) (List.getElem?_eq_getElem hr), q _ (hp _ (List.getElem_mem hr))⟩
theorem w_catA {H : Hp} {Q : VK} {a b : Addr} {xs ys : List V} (ha : H a = some (.tup xs)) (hb : H b = some (.tup ys)) (hl : xs.length + ys.length ≤ 100000) (q : ∀ (p : Addr) (H' : Hp), Same H H' → H' p = some (.tup (xs ++ ys)) → Q (.ref p) H') : rCatA K (.ref a) (.ref b) H Q :=
  ⟨a, b, xs, ys, rfl, rfl, .of ha, .of hb, szle hl, fun e => q b H (Same.refl H) (by rw [e]; exact hb), fun _ e => q a H (Same.refl H) (by rw [e, List.append_nil]; exact ha), fun _ _ p np => q p _ (same_new np) upd_same⟩
theorem w_cat {H : Hp} {Q : VK} {a b : Addr} {xs ys : List V} (ha : H a = some (.lst xs)) (hb : H b = some (.lst ys)) (hl : xs.length + ys.length ≤ 100000) (q : ∀ (p : Addr) (H' : Hp), H p = none → Same H H' → H' p = some (.lst (xs ++ ys)) → Q (.ref p) H') : rCat (.ref a) (.ref b) H Q :=
  ⟨a, b, xs, ys, rfl, rfl, ha, hb, szle hl, fun p np => q p _ np (same_new np) upd_same⟩
theorem w_while {σ : L2.St} {H : Hp} {D : Ends} {c : TT} {tb : TS} (h : ∃ W : Nat → L2.St → Hp → Prop, (∃ m, W m σ H) ∧ ∀ m σ H, W m σ H →
  c σ H fun b H1 => if b = true then ∃ N : L2.St → Hp → Prop, (∀ σ' H', N σ' H' → ∃ m', m' < m ∧ W m' σ' H') ∧ tb { D with nx := N, ct := N, bk := D.nx } σ H1 else D.nx σ H1) : tWhile c tb D σ H := h
theorem w_par {σ : L2.St} {H : Hp} {D : Ends} {i j : Nat} {ta : TA} (h : ta σ H fun vs H1 => ∃ v w, vs = [v, w] ∧ D.nx ((σ.set i (some v)).set j (some w)) H1) : tPar i j ta D σ H := h
theorem w_irev {σ : L2.St} {H : Hp} {ta : TA} {R : It → Hp → Prop} (h : ta σ H fun vs H1 => ∃ (a : Addr) (xs : List V), vs = [.ref a] ∧ SqL K H1 a xs ∧ R (Itv K a xs.length) H1) : iRev K ta σ H R := h
theorem w_its {σ : L2.St} {H : Hp} {tl : TE} {R : It → Hp → Prop} (h : tl σ H fun x H1 => ∃ z, x = .str z ∧ R (Its z) H1) : iStr tl σ H R := h
/-- how deep data is -/
inductive Dep : Nat → PyData → Prop
  | non (n : Nat) : Dep n .none
  | bl (n : Nat) (b : Bool) : Dep n (.bool b)
  | int (n : Nat) (i : Int) : Dep n (.int i)
  | str (n : Nat) (x : Str) : Dep n (.str x)
  | tup {n : Nat} {ds : List PyData} (hl : ds.length ≤ 1000000) (h : ∀ d ∈ ds, Dep n d) : Dep (n + 1) (.tuple ds)
theorem Dep.mono {n : Nat} {d : PyData} (h : Dep n d) : ∀ {m : Nat}, n ≤ m → Dep m d := by
  induction h with
  | non n => exact fun _ => .non _
  | bl n b => exact fun _ => .bl _ _
  | int n i => exact fun _ => .int _ _
  | str n x => exact fun _ => .str _ _
  | tup hl h ih =>
    intro m hm
    cases m with
    | zero => omega
    | succ m => exact .tup hl fun d hd => ih d hd (by omega)
theorem AtL.len {H : Hp} : ∀ {vs : List V} {ds : List PyData}, AtL H vs ds → vs.length = ds.length
  | _, _, .nil => rfl
  | _, _, .cons _ l => congrArg (· + 1) l.len
theorem AtL.get {H : Hp} : ∀ {vs : List V} {ds : List PyData} {i : Nat} {d : PyData}, AtL H vs ds → ds[i]? = some d → ∃ v, vs[i]? = some v ∧ At H v d
  | _, _, _, _, .nil, h => by simp at h
  | _, _, 0, d, .cons (d := e) a _, h => by
    have q : e = d := by simpa using h
    subst q
    exact ⟨_, rfl, a⟩
  | _, _, i + 1, d, .cons _ l, h => by
    obtain ⟨v, h1, h2⟩ := AtL.get (i := i) (d := d) l (by simpa using h)
    exact ⟨v, by simpa using h1, h2⟩
theorem w_isi {H : Hp} {Q : VK} {x : V} {a : String} {n : String} (ty : TyX K H x (.type a)) (b : Bool) (h : kitB a n = some b) (q : Q (.bl b) H) : rIsi K [x, .ty n] H Q := ⟨x, .ty n, .type a, .type n, b, rfl, .ty n, ty, kit_ty h, q⟩
end
/-- what stands at an address -/
local macro_rules | `(tactic| walk_at "hp") => `(tactic| first | assumption | exact upd_same | ((refine (upd_ne ?hn).trans ?hr); (case hn => first | assumption | (apply Ne.symm; assumption) | fail "hp"); (case hr => walk_at "hp")) | fail "hp")
local macro_rules | `(tactic| walk_at "ix") => `(tactic| first | assumption | exact atI_nat (j := 0) rfl | exact atI_nat (j := 1) rfl | exact atI_nat (j := 2) rfl | exact atI_nat (j := 3) rfl | exact atI_nat (j := 4) rfl | fail "ix")
local macro_rules | `(tactic| walk_at "ixn") => `(tactic| first | assumption | exact rfl | fail "ixn")
/-- one step of a reading that asks nothing -/
local macro_rules | `(tactic| walk_at "w1") => `(tactic| first
  | with_reducible refine w_seq ?_ | with_reducible refine w_asg ?_ | with_reducible refine w_name ?_ | with_reducible refine w_gsub ?_ | with_reducible refine w_ret ?_ | with_reducible refine w_ifS ?_ | with_reducible refine w_next ?_ | with_reducible refine w_drop ?_
  | with_reducible refine w_op ?_ | with_reducible refine w_un ?_ | with_reducible refine w_cb ?_ | with_reducible refine w_call ?_ | with_reducible refine w_cons ?_ | with_reducible refine w_nil ?_
  | ((with_reducible refine' w_var ?hv ?_); (case hv => exact rfl)) | with_reducible refine w_c ?_ | with_reducible refine w_test ?_ | with_reducible refine w_B ?_ | with_reducible refine w_bl ?_
  | with_reducible refine w_not ?_ | with_reducible refine w_and ?_ | with_reducible refine w_or ?_ | with_reducible refine w_andV ?_ | with_reducible refine w_orV ?_ | with_reducible refine w_notV ?_ | with_reducible refine w_if ?_
  | with_reducible refine w_I0 ?_ | with_reducible refine w_U ?_ | with_reducible refine w_eqI ?_ | with_reducible refine w_neI ?_ | with_reducible refine w_neB ?_ | with_reducible refine w_eqS ?_
  | ((with_reducible refine w_I ?hc ?_); (case hc => first | exact Or.inr (by decide) | exact ⟨by decide, by decide, by decide⟩ | exact ⟨by decide, by decide⟩ | decide | assumption | (show _ ≠ _; omega) | (unfold CMul; omega)))
  | ((with_reducible show (∃ i, [V.int _] = [V.int i] ∧ _) ∨ _); refine .inl ⟨_, rfl, ?_⟩; try dsimp -proj -iota -zeta -eta only)
  | ((with_reducible show _ ∨ (∃ i, [V.bl _] = [V.bl i] ∧ _)); refine .inr ⟨_, rfl, ?_⟩; try dsimp -proj -iota -zeta -eta only)
  | ((with_reducible show (∃ i, [V.int _] = [V.int i] ∧ _)); refine ⟨_, rfl, ?_⟩; try dsimp -proj -iota -zeta -eta only)
  | ((with_reducible show (∃ i j, [V.int _, V.int _] = [V.int i, V.int j] ∧ _)); refine ⟨_, _, rfl, ?_⟩; try dsimp -proj -iota -zeta -eta only)
  | ((with_reducible refine' w_ixL ?hl ?ha ?_); (case hl => exact SqL.of (by walk_at "hp")); (case ha => walk_at "ix"))
  | ((with_reducible refine' w_ixT ?hl ?ha ?_); (case hl => exact SqT.of (by walk_at "hp")); (case ha => walk_at "ix"))
  | ((with_reducible refine' w_setL ?hl ?ha ?_); (case hl => walk_at "hp"); (case ha => walk_at "ixn"))
  | ((with_reducible show (∃ p ys, [V.ref _] = [V.ref p] ∧ (SqL _ _ p ys ∨ SqT _ _ p ys) ∧ _)); (first | refine ⟨_, _, rfl, .inl (.of (by walk_at "hp")), ?_⟩ | refine ⟨_, _, rfl, .inr (.of (by walk_at "hp")), ?_⟩); try dsimp -proj -iota -zeta -eta only)
  | with_reducible refine q_iteT ?_ | with_reducible refine q_iteF ?_ | with_reducible refine q_iteNT ?_ | with_reducible refine q_iteNF ?_
  | ((with_reducible show (∃ k, TruV _ (V.bl _) _ k ∧ _)); refine ⟨_, rfl, ?_⟩; try dsimp -proj -iota -zeta -eta only)
  | with_reducible refine w_while ?_ | with_reducible refine w_par ?_
  | with_reducible refine w_its ?_ | with_reducible refine w_irev ?_
  | ((with_reducible show (∃ i, V.str _ = V.str i ∧ _)); refine ⟨_, rfl, ?_⟩; try dsimp -proj -iota -zeta -eta only)
  | ((with_reducible show (∃ i, [V.str _] = [V.str i] ∧ _)); refine ⟨_, rfl, ?_⟩; try dsimp -proj -iota -zeta -eta only)
  | with_reducible refine w_break ?_ | with_reducible refine w_cont ?_ | with_reducible refine w_bits ?_
  | ((with_reducible show (∃ i, V.int _ = V.int i ∧ _)); refine ⟨_, rfl, ?_⟩; try dsimp -proj -iota -zeta -eta only)
  | with_reducible refine w_for ?_ | with_reducible refine w_rng1 ?_ | with_reducible refine w_rng2 ?_ | with_reducible refine w_itl ?_ | with_reducible refine w_itt ?_
  | ((with_reducible show (∃ a, V.ref _ = V.ref a ∧ (∃ xs, SqL _ _ a xs) ∧ _)); refine ⟨_, rfl, ⟨_, .of (by walk_at "hp")⟩, ?_⟩; try dsimp -proj -iota -zeta -eta only)
  | with_reducible refine w_sl ?_ | with_reducible refine w_part ?_ | with_reducible refine w_nopart ?_ | with_reducible refine w_bm ?_ | with_reducible refine w_yes ?_ | with_reducible refine w_lc ?_
  | ((with_reducible show tyV _ "list" (V.ref _) _ ∧ _); refine ⟨.inl ⟨rfl, _, .of (by walk_at "hp")⟩, ?_⟩)
  | ((with_reducible refine' w_append ?hl ?hz ?_); (case hl => walk_at "hp"); (case hz => first | assumption | exact szlt (by simp only [List.length_append, List.length_map, List.length_cons, List.length_nil, List.length_take, List.length_replicate] <;> omega)))
  | ((with_reducible show (∃ p ys, [V.ref _] = [V.ref p] ∧ ((SqL _ _ p ys ∧ _) ∨ (SqT _ _ p ys ∧ _)))); refine ⟨_, _, rfl, .inl ⟨.of (by walk_at "hp"), ?_⟩⟩; try dsimp -proj -iota -zeta -eta only)
  | with_reducible refine w_tup ?_ | with_reducible refine w_lst ?_ | fail "w1")
local macro_rules | `(tactic| walk_at "wp") => `(tactic| repeat walk_at "w1")
local macro_rules | `(tactic| walk_at "wi") => `(tactic| repeat ((fail_if_success (with_reducible show tIfS _ _ _ _ _ _)); walk_at "w1"))
namespace Dm
open PySem PySem.Spec PyProof.Rows L2 Ss
/-- ints, texts of signs below 128, tuples of these -/
inductive Pl : PyData → Prop
  | int (i : Int) : Pl (.int i)
  | str (x : Str) (h : ∀ c ∈ x.cps.toList, c < 128) : Pl (.str x)
  | tup (ds : List PyData) (h : ∀ d ∈ ds, Pl d) : Pl (.tuple ds)
theorem ok_str {x : Str} (h : ∀ c ∈ x.cps.toList, c < 128) : PySem.PyData.strOk x = true := by
  unfold PySem.PyData.strOk
  rw [Array.all_eq_true']
  intro c hc
  have := h c (by simpa using hc)
  exact decide_eq_true (by omega)
mutual
theorem pl_lay : ∀ d : PyData, Pl d → d.canLay0 = true
  | .int i, _ => rfl
  | .str x, h => by
    cases h with
    | str _ h => exact ok_str h
  | .tuple ds, h => by
    cases h with
    | tup _ h => exact pl_layAll ds h
  | .none, h => nomatch h
  | .bool _, h => nomatch h
  | .list _, h => nomatch h
  | .dict _, h => nomatch h
theorem pl_layAll : ∀ ds : List PyData, (∀ d ∈ ds, Pl d) → PyData.canLayAll0 ds = true
  | [], _ => rfl
  | d :: r, h => by
    unfold PyData.canLayAll0
    rw [pl_lay d (h d (List.mem_cons_self ..)), pl_layAll r fun e he => h e (List.mem_cons_of_mem _ he)]
    rfl
end
mutual
theorem pl_eqv : ∀ d e : PyData, Pl d → Pl e → (PyData.eqv d e = true ↔ d = e)
  | .int i, .int j, _, _ => by
    show (i == j) = true ↔ _
    rw [beq_iff_eq]
    exact ⟨congrArg _, fun h => PyData.int.inj h⟩
  | .str x, .str y, _, _ => by
    show (x == y) = true ↔ _
    rw [beq_iff_eq]
    exact ⟨congrArg _, fun h => PyData.str.inj h⟩
  | .tuple ds, .tuple es, h, g => by
    show PyData.eqvAll ds es = true ↔ _
    have hd : ∀ d ∈ ds, Pl d := by cases h with | tup _ h => exact h
    have he : ∀ d ∈ es, Pl d := by cases g with | tup _ h => exact h
    rw [pl_eqvAll ds es hd he]
    exact ⟨congrArg _, fun h => PyData.tuple.inj h⟩
  | .int _, .str _, _, _ => ⟨fun h => (Bool.false_ne_true h).elim, fun h => nomatch h⟩
  | .int _, .tuple _, _, _ => ⟨fun h => (Bool.false_ne_true h).elim, fun h => nomatch h⟩
  | .str _, .int _, _, _ => ⟨fun h => (Bool.false_ne_true h).elim, fun h => nomatch h⟩
  | .str _, .tuple _, _, _ => ⟨fun h => (Bool.false_ne_true h).elim, fun h => nomatch h⟩
  | .tuple _, .int _, _, _ => ⟨fun h => (Bool.false_ne_true h).elim, fun h => nomatch h⟩
  | .tuple _, .str _, _, _ => ⟨fun h => (Bool.false_ne_true h).elim, fun h => nomatch h⟩
  | .none, _, h, _ => nomatch h
  | .bool _, _, h, _ => nomatch h
  | .list _, _, h, _ => nomatch h
  | .dict _, _, h, _ => nomatch h
  | .int _, .none, _, h => nomatch h
  | .int _, .bool _, _, h => nomatch h
  | .int _, .list _, _, h => nomatch h
  | .int _, .dict _, _, h => nomatch h
  | .str _, .none, _, h => nomatch h
  | .str _, .bool _, _, h => nomatch h
  | .str _, .list _, _, h => nomatch h
  | .str _, .dict _, _, h => nomatch h
  | .tuple _, .none, _, h => nomatch h
  | .tuple _, .bool _, _, h => nomatch h
  | .tuple _, .list _, _, h => nomatch h
  | .tuple _, .dict _, _, h => nomatch h
theorem pl_eqvAll : ∀ ds es : List PyData, (∀ d ∈ ds, Pl d) → (∀ d ∈ es, Pl d) → (PyData.eqvAll ds es = true ↔ ds = es)
  | [], [], _, _ => ⟨fun _ => rfl, fun _ => rfl⟩
  | [], _ :: _, _, _ => ⟨fun h => (Bool.false_ne_true h).elim, fun h => nomatch h⟩
  | _ :: _, [], _, _ => ⟨fun h => (Bool.false_ne_true h).elim, fun h => nomatch h⟩
  | d :: ds, e :: es, h, g => by
    show (PyData.eqv d e && PyData.eqvAll ds es) = true ↔ _
    rw [Bool.and_eq_true, pl_eqv d e (h d (List.mem_cons_self ..)) (g e (List.mem_cons_self ..)), pl_eqvAll ds es (fun x hx => h x (List.mem_cons_of_mem _ hx)) (fun x hx => g x (List.mem_cons_of_mem _ hx))]
    exact ⟨fun z => by rw [z.1, z.2], fun z => List.cons.inj z⟩
end
mutual
theorem dep_depth : ∀ (d : PyData) (n : Nat), Dep n d → d.depth ≤ n
  | .none, n, _ => Nat.zero_le _
  | .bool _, n, _ => Nat.zero_le _
  | .int _, n, _ => Nat.zero_le _
  | .str _, n, _ => Nat.zero_le _
  | .tuple ds, n, h => by
    cases h with
    | tup hl h =>
      have := dep_depthAll ds _ h
      show PyData.depthAll ds + 1 ≤ _
      omega
  | .list _, n, h => nomatch h
  | .dict _, n, h => nomatch h
theorem dep_depthAll : ∀ (ds : List PyData) (n : Nat), (∀ d ∈ ds, Dep n d) → PyData.depthAll ds ≤ n
  | [], n, _ => Nat.zero_le _
  | d :: r, n, h => by
    show max d.depth (PyData.depthAll r) ≤ n
    have h1 := dep_depth d n (h d (List.mem_cons_self ..))
    have h2 := dep_depthAll r n fun e he => h e (List.mem_cons_of_mem _ he)
    omega
end
theorem pl_shaped {d : PyData} {n : Nat} (h : Pl d) (g : Dep n d) (hn : n ≤ 64) : SeqAt.shaped d = true := by
  unfold SeqAt.shaped
  rw [pl_lay d h, Bool.true_and]
  have := dep_depth d n g
  exact decide_eq_true (by omega)
mutual
theorem at_dp {K : PySem.W.Frag} {H : Hp} : ∀ {v : V} {d : PyData}, At H v d → Dp K H v d
  | _, _, .non => .non
  | _, _, .bl b => .bl b
  | _, _, .int i => .int i
  | _, _, .str x => .str x
  | _, _, .tup e l => .tup (.of e) (atl_dp l)
theorem atl_dp {K : PySem.W.Frag} {H : Hp} : ∀ {v : List V} {d : List PyData}, AtL H v d → DpAll K H v d
  | _, _, .nil => .nil
  | _, _, .cons a l => .cons (at_dp a) (atl_dp l)
end
/-- == of two such, as a reading -/
theorem w_eqD {K : PySem.W.Frag} {H : Hp} {Q : VK} {x y : V} {d e : PyData} {n m : Nat} (hx : At H x d) (hy : At H y e) (pd : Pl d) (pe : Pl e) (dd : Dep n d) (de : Dep m e) (hn : n ≤ 64) (hm : m ≤ 64) (q : ∀ b : Bool, (b = true ↔ d = e) → Q (.bl b) H) : rEqD K x y H Q :=
  ⟨d, e, at_dp hx, at_dp hy, pl_shaped pd dd hn, pl_shaped pe de hm, q _ (pl_eqv d e pd pe)⟩
theorem w_neD {K : PySem.W.Frag} {H : Hp} {Q : VK} {x y : V} {d e : PyData} {n m : Nat} (hx : At H x d) (hy : At H y e) (pd : Pl d) (pe : Pl e) (dd : Dep n d) (de : Dep m e) (hn : n ≤ 64) (hm : m ≤ 64) (q : ∀ b : Bool, (b = true ↔ d ≠ e) → Q (.bl b) H) : rNeD K x y H Q :=
  ⟨d, e, at_dp hx, at_dp hy, pl_shaped pd dd hn, pl_shaped pe de hm, q _ (by
    have := pl_eqv d e pd pe
    cases h : PyData.eqv d e with
    | true => exact ⟨fun z => absurd z (by decide), fun z => absurd (this.mp h) z⟩
    | false => exact ⟨fun _ z => by rw [this.mpr z] at h; exact absurd h (by decide), fun _ => rfl⟩)⟩
theorem at_ints {H : Hp} {p : Addr} {cs : List Int} (h : H p = some (.tup (cs.map V.int))) : At H (.ref p) (.tuple (cs.map .int)) :=
  .tup h (by
    clear h
    induction cs with
    | nil => exact .nil
    | cons c r ih => exact .cons (.int c) ih)
theorem dep_ints {n : Nat} {cs : List Int} (h : cs.length ≤ 1000000) : Dep (n + 1) (.tuple (cs.map .int)) := .tup (by rw [List.length_map]; exact h) fun d hd => by
  obtain ⟨i, _, rfl⟩ := List.mem_map.mp hd
  exact .int _ _
theorem pl_ints (cs : List Int) : Pl (.tuple (cs.map .int)) := .tup _ fun d hd => by
  obtain ⟨i, _, rfl⟩ := List.mem_map.mp hd
  exact .int _
theorem int_map_inj : ∀ {cs ds : List Int}, cs.map PyData.int = ds.map PyData.int → cs = ds
  | [], [], _ => rfl
  | [], _ :: _, h => nomatch h
  | _ :: _, [], h => nomatch h
  | c :: cs, d :: ds, h => by
    have h := List.cons.inj h
    rw [PyData.int.inj h.1, int_map_inj h.2]
theorem ints_inj : ∀ {cs ds : List Int}, (PyData.tuple (cs.map .int) = .tuple (ds.map .int)) ↔ cs = ds
  | cs, ds => by
    constructor
    · intro h
      have h := PyData.tuple.inj h
      exact int_map_inj h
    · intro h
      rw [h]
end Dm
namespace Nm
open PySem PySem.Spec PyProof.Rows L2 Ss Dm
/-- a node: a leaf with its element, a run, a block -/
inductive Nd where
  | leaf (e : PyData)
  | run (c : Nd) (t : Nat)
  | block (cs : List Nd)
mutual
/-- as data -/
def toD : Nd → PyData
  | .leaf e => .tuple [.str (Str.ofString "leaf"), e]
  | .run c t => .tuple [.str (Str.ofString "run"), toD c, .int (t : Int)]
  | .block cs => .tuple [.str (Str.ofString "block"), .tuple (toDs cs)]
def toDs : List Nd → List PyData
  | [] => []
  | c :: r => toD c :: toDs r
end
mutual
def sizeN : Nd → Nat
  | .leaf _ => 1
  | .run c t => t * sizeN c
  | .block cs => sizeNs cs
def sizeNs : List Nd → Nat
  | [] => 0
  | c :: r => sizeN c + sizeNs r
end
mutual
/-- how deep the nodes lie in one another -/
def lev : Nd → Nat
  | .leaf _ => 0
  | .run c _ => lev c + 1
  | .block cs => levs cs + 1
def levs : List Nd → Nat
  | [] => 0
  | c :: r => max (lev c) (levs r)
end
def isRun : Nd → Bool
  | .run _ _ => true
  | _ => false
/-- what a node is: B says what its elements are -/
inductive Wf (B : PyData → Prop) : Nd → Prop
  | leaf (e : PyData) (h : B e) : Wf B (.leaf e)
  | run (c : Nd) (t : Nat) (h : Wf B c) (nr : isRun c = false) (t2 : 2 ≤ t) (tm : t ≤ 2000) : Wf B (.run c t)
  | block (cs : List Nd) (h : ∀ c ∈ cs, Wf B c) (l1 : 1 ≤ cs.length) (l2 : cs.length ≤ 12) : Wf B (.block cs)
theorem toDs_map : ∀ cs : List Nd, toDs cs = cs.map toD
  | [] => rfl
  | c :: r => by
    show toD c :: toDs r = toD c :: r.map toD
    rw [toDs_map r]
theorem toDs_len (cs : List Nd) : (toDs cs).length = cs.length := by rw [toDs_map, List.length_map]
theorem toDs_app (cs ds : List Nd) : toDs (cs ++ ds) = toDs cs ++ toDs ds := by rw [toDs_map, toDs_map, toDs_map, List.map_append]
theorem sizeNs_app : ∀ cs ds : List Nd, sizeNs (cs ++ ds) = sizeNs cs + sizeNs ds
  | [], ds => by show sizeNs ds = 0 + sizeNs ds; omega
  | c :: r, ds => by
    show sizeN c + sizeNs (r ++ ds) = sizeN c + sizeNs r + sizeNs ds
    rw [sizeNs_app r ds]; omega
theorem levs_le : ∀ {cs : List Nd} {m : Nat}, (∀ c ∈ cs, lev c ≤ m) → levs cs ≤ m
  | [], m, _ => Nat.zero_le _
  | c :: r, m, h => by
    show max (lev c) (levs r) ≤ m
    have h1 := h c (List.mem_cons_self ..)
    have h2 := levs_le (cs := r) fun d hd => h d (List.mem_cons_of_mem _ hd)
    omega
theorem lev_mem : ∀ {cs : List Nd} {c : Nd}, c ∈ cs → lev c ≤ levs cs
  | c :: r, d, h => by
    show lev d ≤ max (lev c) (levs r)
    rcases List.mem_cons.mp h with rfl | h
    · omega
    · have := lev_mem h; omega
theorem Wf.mono {B B' : PyData → Prop} {n : Nd} (h : Wf B n) (hb : ∀ e, B e → B' e) : Wf B' n := by
  induction h with
  | leaf e h => exact .leaf e (hb e h)
  | run c t _ nr t2 tm ih => exact .run c t ih nr t2 tm
  | block cs _ l1 l2 ih => exact .block cs ih l1 l2
theorem asc_lit : (∀ c ∈ (Str.ofString "leaf").cps.toList, c < 128) ∧ (∀ c ∈ (Str.ofString "run").cps.toList, c < 128) ∧ (∀ c ∈ (Str.ofString "block").cps.toList, c < 128) := by decide +kernel
theorem lit_ne : Str.ofString "leaf" ≠ Str.ofString "run" ∧ Str.ofString "leaf" ≠ Str.ofString "block" ∧ Str.ofString "run" ≠ Str.ofString "block" := by decide +kernel
theorem pl2 {a b : PyData} (ha : Pl a) (hb : Pl b) : Pl (.tuple [a, b]) := .tup _ (List.forall_mem_cons.mpr ⟨ha, List.forall_mem_cons.mpr ⟨hb, fun _ h => absurd h List.not_mem_nil⟩⟩)
theorem toD_pl {B : PyData → Prop} (hB : ∀ e, B e → Pl e) {n : Nd} (h : Wf B n) : Pl (toD n) := by
  induction h with
  | leaf e h => exact pl2 (.str _ asc_lit.1) (hB e h)
  | run c t _ nr t2 tm ih => exact .tup _ (List.forall_mem_cons.mpr ⟨.str _ asc_lit.2.1, List.forall_mem_cons.mpr ⟨ih, List.forall_mem_cons.mpr ⟨.int _, fun _ h => absurd h List.not_mem_nil⟩⟩⟩)
  | block cs _ l1 l2 ih =>
    refine pl2 (.str _ asc_lit.2.2) (.tup _ fun d hd => ?_)
    rw [toDs_map] at hd
    obtain ⟨c, hc, rfl⟩ := List.mem_map.mp hd
    exact ih c hc
theorem toD_dep {B : PyData → Prop} (hB : ∀ e, B e → Dep 1 e) {n : Nd} (h : Wf B n) : Dep (2 * lev n + 2) (toD n) := by
  induction h with
  | leaf e h => exact .tup (by show 2 ≤ 1000000; decide) (List.forall_mem_cons.mpr ⟨.str _ _, List.forall_mem_cons.mpr ⟨hB e h, fun _ h => absurd h List.not_mem_nil⟩⟩)
  | run c t _ nr t2 tm ih =>
    have : 2 * lev (.run c t) + 2 = (2 * lev c + 3) + 1 := by show 2 * (lev c + 1) + 2 = _; omega
    rw [this]
    exact .tup (by show 3 ≤ 1000000; decide) (List.forall_mem_cons.mpr ⟨.str _ _, List.forall_mem_cons.mpr ⟨ih.mono (by omega), List.forall_mem_cons.mpr ⟨.int _ _, fun _ h => absurd h List.not_mem_nil⟩⟩⟩)
  | block cs _ l1 l2 ih =>
    have : 2 * lev (.block cs) + 2 = (2 * levs cs + 2 + 1) + 1 := by show 2 * (levs cs + 1) + 2 = _; omega
    rw [this]
    refine .tup (by show 2 ≤ 1000000; decide) (List.forall_mem_cons.mpr ⟨.str _ _, List.forall_mem_cons.mpr ⟨.tup (by rw [toDs_len]; omega) fun d hd => ?_, fun _ h => absurd h List.not_mem_nil⟩⟩)
    rw [toDs_map] at hd
    obtain ⟨c, hc, rfl⟩ := List.mem_map.mp hd
    have := lev_mem hc
    exact (ih c hc).mono (by omega)
mutual
theorem toD_inj : ∀ m n : Nd, toD m = toD n → m = n
  | .leaf e, .leaf f, h => by
    have h := PyData.tuple.inj h
    have h := (List.cons.inj (List.cons.inj h).2).1
    rw [h]
  | .run c t, .run d u, h => by
    have h := PyData.tuple.inj h
    have h := (List.cons.inj h).2
    have h1 := (List.cons.inj h).1
    have h2 := PyData.int.inj (List.cons.inj (List.cons.inj h).2).1
    rw [toD_inj c d h1, Int.ofNat.inj h2]
  | .block cs, .block ds, h => by
    have h := PyData.tuple.inj h
    have h := PyData.tuple.inj (List.cons.inj (List.cons.inj h).2).1
    rw [toDs_inj cs ds h]
  | .leaf _, .run _ _, h => absurd (PyData.str.inj (List.cons.inj (PyData.tuple.inj h)).1) lit_ne.1
  | .leaf _, .block _, h => absurd (PyData.str.inj (List.cons.inj (PyData.tuple.inj h)).1) lit_ne.2.1
  | .run _ _, .leaf _, h => absurd (PyData.str.inj (List.cons.inj (PyData.tuple.inj h)).1).symm lit_ne.1
  | .run _ _, .block _, h => absurd (PyData.str.inj (List.cons.inj (PyData.tuple.inj h)).1) lit_ne.2.2
  | .block _, .leaf _, h => absurd (PyData.str.inj (List.cons.inj (PyData.tuple.inj h)).1).symm lit_ne.2.1
  | .block _, .run _ _, h => absurd (PyData.str.inj (List.cons.inj (PyData.tuple.inj h)).1).symm lit_ne.2.2
theorem toDs_inj : ∀ m n : List Nd, toDs m = toDs n → m = n
  | [], [], _ => rfl
  | [], _ :: _, h => nomatch h
  | _ :: _, [], h => nomatch h
  | a :: r, b :: s, h => by
    have h := List.cons.inj h
    rw [toD_inj a b h.1, toDs_inj r s h.2]
end
end Nm
namespace Em
open PySem PySem.Spec PyProof.Rows L2 Ss
theorem list_extend_tupW (l : Addr) (items : Array Value) (n : Nat) (b : Addr) (items2 : Array Value) (n2 : Nat) (dd : Option Addr) (sl : Array (Option Value)) (hs0 : ¬(!items.isEmpty && Builtin.List.listTooLong (items.size + items2.size)) = true) (hs1 : items.size ≤ sizeLine) (hs2 : items.size + items2.size ≤ sizeLine + 1) :
    Meets (Builtin.«list.extend» ⟨[.ref l, .ref b], []⟩) (fun _ R s => s.heap.get? l = some { cls := .type "list", dict := none, data := .seq items n, slots := #[] } ∧ s.heap.get? b = some { cls := .type "tuple", dict := dd, data := .seq items2 n2, slots := sl } ∧ R (.ok (.ret Value.none)) { s with heap := s.heap.update l (Obj.mapSeq fun x => x ++ items2), toks := s.toks }) :=
  .of_wp fun prog w A R s h => by
    obtain ⟨hp, g, d, tk, os⟩ := s; obtain ⟨hl, hb, h⟩ := h; have f1 := AutoSeq1.idx_int; have f2 := AutoSeq1.sub_tuple_tuple; have f3 := AutoSeq1.sub_list_list; have f4 := AutoSeq1.sub_tuple_list; have f5 := AutoSeq1.sub_list_tuple;
    have hz' : (items ++ items2).size ≤ sizeLine + 1 := by rw [Array.size_append]; exact hs2
    wp_walk using (wpAny_updateSeq hl rfl (hz := hs1) (_hz' := hz')), wpAny_loadPart' hl, wpAny_loadPart' hb; exact ⟨_, rfl, h⟩
def rExtendT (K : PySem.W.Frag) : V → List V → Hp → VK → Prop := fun x vs H Q => ∃ l b xs zs, x = .ref l ∧ vs = [.ref b] ∧ H l = some (.lst xs) ∧ SqT K H b zs ∧ xs.length + zs.length ≤ sizeLine ∧ Q .non (upd H l (.lst (xs ++ zs)))
theorem mt_extendT {X : Cx} : MtM X "list.extend" (rExtendT X.K) := by
  intro pins s σ H x vs v us Q I rx rv h
  obtain ⟨l, b, xs, zs, rfl, rfl, hH, hB, hz, q⟩ := h
  cases rx
  obtain ⟨u, rfl, ru⟩ := rv.one
  cases ru
  obtain ⟨z, its, n, r, hl, e⟩ := I.lstM hH
  obtain ⟨its2, r2, ⟨⟨cls, dd, data, sl⟩, e2, hc, n2, hd⟩, hs⟩ := I.tuple hB
  simp only at hc hd
  subst hc hd
  have hl2 := r2.length
  have hsz : its.toArray.size + its2.toArray.size ≤ sizeLine := by rw [List.size_toArray, List.size_toArray]; omega
  have hlong : ¬ (!its.toArray.isEmpty && Builtin.List.listTooLong (its.toArray.size + its2.toArray.size)) = true := by
    rw [notLongL hsz, Bool.and_false]
    exact Bool.false_ne_true
  refine call_meets F.slot_list_extend ⟨_, e, rfl⟩ F.entry_list_extend (F.args_list_extend_2 _ _)
    (list_extend_tupW l its.toArray n b its2.toArray n2 dd sl hlong (by rw [List.size_toArray]; omega) (by omega)) ⟨e, e2, ?_⟩
  refine ⟨.non, _, I.lset (its' := its ++ its2) hH e (by simp) (r.append r2) ?_, rfl, q⟩
  rw [List.length_append]
  omega
end Em
def top (i : Nat) : Stmt := PySem.Challenge.pw_sameshape_k03_code_of_a_node.main.body.getD i (.Pass ⟨0, 0, 0, 0⟩)
structure Txt (mg : Str → Option Value) : Prop where
  n_isinstance : mg "isinstance" = none
  n_str : mg "str" = none
  n_tuple : mg "tuple" = none
  n_len : mg "len" = none
  n_ord : mg "ord" = none
  n_list : mg "list" = none
  n_int : mg "int" = none
  n_abs : mg "abs" = none
  n_max : mg "max" = none
  n_range : mg "range" = none
  n_bool : mg "bool" = none
  n_min : mg "min" = none
section
variable {P : Program} {w : World} {K : PySem.W.Frag} {mg : Str → Option Value} {base : Heap}
def spDraw : Sp := fun vs H Q _ => ∃ (t l : Addr) (m : Int), vs = [.ref t, .int m] ∧ Tape H t l ∧ m < 18446744073709551616 ∧ ∀ (r : Int) (H' : Hp), 0 ≤ r → r < max m 1 → Go t l H H' → Q (.int r) H'
abbrev s__law_draw : Stmt := top 10
theorem c__law_draw : FnScope ["tape", "many", "number", "place"] ["tape", "many"] (defScope s__law_draw) := ⟨rfl, rfl, rfl, by decide +kernel, rfl, by decide +kernel, by decide +kernel⟩

theorem ok_draw {f : Addr} {fd : FuncData} (F : Fun K "_law_draw" "_law_draw" s__law_draw f fd) (T : Txt mg) : FnOk P w K mg base CX0 1 f fd ["tape", "many"] spDraw := by
  refine F.ok c__law_draw (fun vs H Q E h => ?_) (fun cdv A outer s H vs Q E hr h => ?_)
  · obtain ⟨t, l, m, rfl, _⟩ := h
    rfl
  · obtain ⟨t, l, m, rfl, TP, hm, k⟩ := h
    obtain ⟨ns, p, n, sd, h1, h2, h3, p0, n0, s0⟩ := TP.ex
    refine ⟨_, (pss_cons (ps_if (pt_cmpR op_eq (pe_ix ix_list (pv 0) pe_int (fun _ _ => rfl)) pe_int (nomark _)) (pss_cons (ps_set (i := 3) c__law_draw.nd rfl (Or.inl rfl) (pe_ix ix_list (pv 0) pe_int (fun _ _ => rfl)))
      (pss_cons (ps_set (i := 2) c__law_draw.nd rfl (Or.inl rfl) pe_int)
      (pss_cons (ps_if (pt_cmpR op_lt (pv 3) (pe_callB call_len_seq (by rfl) T.n_len (by decide +kernel) (pa_cons (pe_ix ix_list (pv 0) pe_int (fun _ _ => rfl)) pa_nil)) (nomark _)) (pss_one (ps_set (i := 2) c__law_draw.nd rfl (Or.inl rfl) (pe_callB call_abs (by rfl) T.n_abs (by decide +kernel) (pa_cons (pe_callTy call_int1 (by rfl) T.n_int (by decide +kernel) (pa_cons (pe_ix ix_list (pe_ix ix_list (pv 0) pe_int (fun _ _ => rfl)) (pv 3) (fun _ _ => rfl)) pa_nil)) pa_nil)))) (pss_cons (ps_asg (pe_op op_modN (pe_callTy call_int1 (by rfl) T.n_int (by decide +kernel) (pa_cons (pe_op op_add (pe_op op_add (pe_op op_mul (pe_ix ix_list (pv 0) pe_int (fun _ _ => rfl)) pe_int) (pv 3)) pe_int) pa_nil)) pe_int) (pg_sub (pv 0) pe_int set_list))
      (pss_one (ps_set (i := 2) c__law_draw.nd rfl (Or.inl rfl) (pe_ix ix_list (pv 0) pe_int (fun _ _ => rfl))))))
      (pss_cons (ps_asg (pe_op op_add (pv 3) pe_int) (pg_sub (pv 0) pe_int set_list))
      (pss_cons (ps_if (pt_cmpR op_lt (pv 2) (pe_op op_pow pe_int pe_int) (nomark _)) (pss_cons (ps_set (i := 2) c__law_draw.nd rfl (Or.inl rfl) (pe_op op_modN (pe_callTy call_int1 (by rfl) T.n_int (by decide +kernel) (pa_cons (pe_op op_add (pe_op op_add (pe_op op_mul (pv 2) pe_int) (pe_op op_mul (pv 3) pe_int)) pe_int) pa_nil)) pe_int))
      (pss_cons (ps_set (i := 2) c__law_draw.nd rfl (Or.inl rfl) (pe_op op_modN (pe_callTy call_int1 (by rfl) T.n_int (by decide +kernel) (pa_cons (pe_op op_mul (pv 2) pe_int) pa_nil)) pe_int))
      (pss_one (ps_ret (pe_op op_modN (pe_callTy call_int1 (by rfl) T.n_int (by decide +kernel) (pa_cons (pv 2) pa_nil)) (pe_callB (call_max2 rfl) (by rfl) T.n_max (by decide +kernel) (pa_cons (pv 1) (pa_cons pe_int pa_nil)))))))) pss_nil)
      (pss_one (ps_asg (pv 2) (pg_sub (pv 0) pe_int set_list)))))))) pss_nil)
      (pss_cons (ps_set (i := 2) c__law_draw.nd rfl (Or.inl rfl) (pe_ix ix_list (pv 0) pe_int (fun _ _ => rfl)))
      (pss_cons (ps_asg (pe_op op_fdivW (pv 2) (pe_callB (call_max2 rfl) (by rfl) T.n_max (by decide +kernel) (pa_cons (pv 1) (pa_cons pe_int pa_nil)))) (pg_sub (pv 0) pe_int set_list))
      (pss_one (ps_ret (pe_op op_modN (pe_callTy call_int1 (by rfl) T.n_int (by decide +kernel) (pa_cons (pv 2) pa_nil)) (pe_callB (call_max2 rfl) (by rfl) T.n_max (by decide +kernel) (pa_cons (pv 1) (pa_cons pe_int pa_nil))))))))), ?_⟩
    walk_at "wp"
    have fin : ∀ (H1 : Hp) (p1 n1 s1 r : Int), H1 t = some (.lst [.ref l, .int p1, .int n1, .int s1]) → H1 l = some (.lst (ns.map V.int)) → 0 ≤ p1 → 0 ≤ n1 → 0 ≤ s1 → Ext t H H1 → Q (.int (r.fmod (if 1 > m then 1 else m))) H1 := fun H1 p1 n1 s1 r a1 a2 a3 a4 a5 a6 => by
      have z : (0 : Int) < if 1 > m then 1 else m := by split <;> omega
      have b := fm (a := r) z
      refine k _ _ b.1 ?_ ⟨a6, ns, p1, n1, s1, a1, a2, h3, a3, a4, a5⟩
      have y : (if 1 > m then 1 else m) = max m 1 := by split <;> omega
      rw [← y]
      exact b.2
    have big : ∀ (H1 : Hp) (p1 n1 s1 : Int), H1 t = some (.lst [.ref l, .int p1, .int n1, .int s1]) → H1 l = some (.lst (ns.map V.int)) → 0 ≤ p1 → 0 ≤ n1 → 0 ≤ s1 → Ext t H H1 → CDivW n1 (if 2 > m then 2 else m) ∧ 0 ≤ n1 / (if 2 > m then 2 else m) := fun H1 p1 n1 s1 a1 a2 a3 a4 a5 a6 => by
      have z : (0 : Int) < if 2 > m then 2 else m := by split <;> omega
      refine ⟨wide_div (b := 64) z ?_ (by decide) (by decide), Int.ediv_nonneg a4 (Int.le_of_lt z)⟩
      split <;> omega
    have eq1 : ∀ {x y : Int} {o : HO}, Ext t H (upd H t o) := ext_upd
    have e2 : ∀ {o u : HO}, Ext t H (upd (upd H t o) t u) := fun {o u} => by rw [upd_upd]; exact ext_upd
    have e3 : ∀ {o u v : HO}, Ext t H (upd (upd (upd H t o) t u) t v) := fun {o u v} => by rw [upd_upd, upd_upd]; exact ext_upd
    have e4 : ∀ {o u v x : HO}, Ext t H (upd (upd (upd (upd H t o) t u) t v) t x) := fun {o u v x} => by rw [upd_upd, upd_upd, upd_upd]; exact ext_upd
    refine w_ite (fun e => ?_) (fun e => ?_)
    · subst e
      walk_at "wp"
      refine w_ite (fun e => ?_) (fun e => ?_)
      · walk_at "wp"
        have hp : p.toNat < ns.length := by rw [List.length_map] at e; omega
        obtain ⟨z, ez⟩ : ∃ z, ns[p.toNat]? = some z := ⟨_, List.getElem?_eq_getElem hp⟩
        refine w_ixL (.of h2) (v := .int z) (at_of (j := p.toNat) (by omega) (by rw [List.getElem?_map, ez]; rfl)) ?_
        walk_at "wp"
        refine w_ite (fun e => ?_) (fun e => ?_)
        · walk_at "wp"
          exact fin _ (p + 1) 0 sd _ upd_same (by walk_at "hp") (by omega) (by omega) s0 ext_upd
        · walk_at "wp"
          have nz : 0 ≤ (if z < 0 then -z else z) := by split <;> omega
          obtain ⟨c1, c2⟩ := big (upd (upd H t (.lst [])) t (.lst [.ref l, .int (p + 1), .int (if z < 0 then -z else z), .int sd])) (p + 1) (if z < 0 then -z else z) sd upd_same (by walk_at "hp") (by omega) nz s0 e2
          refine w_I c1 ?_
          walk_at "wp"
          exact fin _ (p + 1) _ sd _ upd_same (by walk_at "hp") (by omega) c2 s0 e3
      · walk_at "wp"
        have sz : 0 ≤ (sd * 48271 + p + 1).fmod 2147483647 := (fm (by decide)).1
        refine w_ite (fun e => ?_) (fun e => ?_)
        · walk_at "wp"
          exact fin _ (p + 1) 0 _ _ upd_same (by walk_at "hp") (by omega) (by omega) sz e2
        · walk_at "wp"
          obtain ⟨c1, c2⟩ := big (upd (upd H t (.lst [])) t (.lst [.ref l, .int (p + 1), .int _, .int _])) (p + 1) _ _ upd_same (by walk_at "hp") (by omega) sz sz e2
          refine w_I c1 ?_
          walk_at "wp"
          exact fin _ (p + 1) _ _ _ upd_same (by walk_at "hp") (by omega) c2 sz e4
    · walk_at "wp"
      obtain ⟨c1, c2⟩ := big H p n sd h1 h2 p0 n0 s0 (Ext.refl t H)
      refine w_I c1 ?_
      walk_at "wp"
      exact fin _ p _ sd _ upd_same (by walk_at "hp") p0 c2 s0 ext_upd
def spTape (K : PySem.W.Frag) : Sp := fun vs H Q _ => ∃ (a : Addr) (ns : List Int), vs = [.ref a] ∧ SqL K H a (ns.map V.int) ∧ ∀ (t l : Addr) (H' : Hp), Same H H' → Tape H' t l → Q (.ref t) H'
abbrev s__law_tape : Stmt := top 9
theorem c__law_tape : FnScope ["script", "total", "cell"] ["script"] (defScope s__law_tape) := ⟨rfl, rfl, rfl, by decide +kernel, rfl, by decide +kernel, by decide +kernel⟩

theorem ok_tape {f : Addr} {fd : FuncData} (F : Fun K "_law_tape" "_law_tape" s__law_tape f fd) (T : Txt mg) : FnOk P w K mg base CX0 1 f fd ["script"] (spTape K) := by
  refine F.ok c__law_tape (fun vs H Q E h => ?_) (fun cdv A outer s H vs Q E hr h => ?_)
  · obtain ⟨a, ns, rfl, _⟩ := h
    rfl
  · obtain ⟨a, ns, rfl, hS, k⟩ := h
    refine ⟨_, (pss_cons (ps_set (i := 1) c__law_tape.nd rfl (Or.inl rfl) pe_int)
      (pss_cons (ps_for PassesOwn.never rfl (pi_list (pv 0)) (pg_name (i := 2) c__law_tape.nd rfl (Or.inl rfl)) (pss_one (ps_set (i := 1) c__law_tape.nd rfl (Or.inl rfl) (pe_op op_modN (pe_callTy call_int1 (by rfl) T.n_int (by decide +kernel) (pa_cons (pe_op op_add (pe_op op_mul (pv 1) pe_int) (pe_callB call_abs (by rfl) T.n_abs (by decide +kernel) (pa_cons (pe_callTy call_int1 (by rfl) T.n_int (by decide +kernel) (pa_cons (pv 2) pa_nil)) pa_nil))) pa_nil)) pe_int))))
      (pss_one (ps_ret (pe_lst (pa_cons (pe_callTy call_list_of (by rfl) T.n_list (by decide +kernel) (pa_cons (pv 0) pa_nil)) (pa_cons pe_int (pa_cons pe_int (pa_cons (pv 1) pa_nil))))))))), ?_⟩
    walk_at "wp"
    refine ⟨_, rfl, ⟨_, hS⟩, ?_⟩
    refine for_list (K := K) (a := a) (xs := ns.map V.int) (fun i σ H2 => ∃ (z : Int) (y : Option V), 0 ≤ z ∧ σ = [some (.ref a), some (.int z), y] ∧ H2 = H) ⟨7, none, by decide, rfl, rfl⟩ (fun i σ H2 _ ⟨_, _, _, _, e⟩ => by rw [e]; exact hS) ?_ ?_
    · rintro i x σ H2 hx ⟨z, y, z0, rfl, rfl⟩
      obtain ⟨v, rfl⟩ : ∃ v, x = V.int v := by
        rw [List.getElem?_map] at hx
        cases e : ns[i]? with
        | none => rw [e] at hx; cases hx
        | some v => rw [e] at hx; exact ⟨v, (Option.some.inj hx).symm⟩
      walk_at "wp"
      exact ⟨_, _, (fm (by decide)).1, rfl, rfl⟩
    · rintro σ H2 ⟨z, y, z0, rfl, rfl⟩
      walk_at "wp"
      refine ⟨a, ns.map V.int, rfl, .inl hS, fun l hl => ?_⟩
      walk_at "wp"
      refine ⟨(by show 4 ≤ sizeLine; decide), fun t ht => ?_⟩
      have nlt : l ≠ t := fun e => by rw [← e, upd_same] at ht; cases ht
      have s1 : Same H2 (upd H2 l (.lst (ns.map V.int))) := same_new hl
      have ht0 : H2 t = none := s1.free ht
      exact k t l _ (s1.trans (same_new ht)) ⟨ns, 0, 0, z, upd_same, (upd_ne nlt).trans upd_same, nlt, Int.le_refl _, Int.le_refl _, z0⟩
def spA : Nat → Sp
  | 0 => fun _ _ _ _ => False
  | n + 1 => fun vs H Q _ => ∃ (x y : V) (d : PyData), vs = [x, y] ∧ At H x d ∧ At H y d ∧ Dep n d ∧ Q (.bl true) H
abbrev s__law_alike : Stmt := top 11
theorem c__law_alike : FnScope ["told", "due", "k"] ["told", "due"] (defScope s__law_alike) := ⟨rfl, rfl, rfl, by decide +kernel, rfl, by decide +kernel, by decide +kernel⟩

theorem ok_alike {f : Addr} {fd : FuncData} (F : Fun K "_law_alike" "_law_alike" s__law_alike f fd) (T : Txt mg) (g : mg "_law_alike" = some (.ref f)) : ∀ n, FnOk P w K mg base CX0 n f fd ["told", "due"] (spA n)
  | 0 => ⟨fun _ _ _ _ h => h.elim, fun _ _ _ _ _ _ _ _ _ _ _ _ _ h => h.elim⟩
  | n + 1 => by
    have C__law_alike : Cl P w K mg base n "_law_alike" ["told", "due"] (spA n) := ⟨f, fd, ok_alike F T g n, g, F.kp, F.binds (ps := ["told", "due"]) fun _ _ _ _ _ _ us hl => match us, hl with | [_, _], _ => rfl⟩
    refine F.ok c__law_alike (fun vs H Q E h => ?_) (fun cdv A outer s H vs Q E hr h => ?_)
    · obtain ⟨x, y, d, rfl, _⟩ := h
      rfl
    · obtain ⟨x, y, d, rfl, hx, hy, hd, k⟩ := h
      refine ⟨_, (pss_cons (ps_if (pt_val (pe_callB call_isi (by rfl) T.n_isinstance (by decide +kernel) (pa_cons (pv 1) (pa_cons (pe_bltn (v := .ty "tuple") (by rfl) T.n_tuple (by decide +kernel) rfl) pa_nil)))) (pss_cons (ps_if (PW.pt (pw_or (pt_not (pt_val (pe_callB call_isi (by rfl) T.n_isinstance (by decide +kernel) (pa_cons (pv 0) (pa_cons (pe_bltn (v := .ty "tuple") (by rfl) T.n_tuple (by decide +kernel) rfl) pa_nil))))) (pw_or1 (pt_cmpR op_ne (pe_callB call_len_seq (by rfl) T.n_len (by decide +kernel) (pa_cons (pv 0) pa_nil)) (pe_callB call_len_seq (by rfl) T.n_len (by decide +kernel) (pa_cons (pv 1) pa_nil)) (nomark _))))) (pss_one (ps_ret pe_bl)) pss_nil)
      (pss_cons (ps_for PassesOwn.never rfl (pi_range1 (by rfl) T.n_range (pa_cons (pe_callB call_len_seq (by rfl) T.n_len (by decide +kernel) (pa_cons (pv 1) pa_nil)) pa_nil)) (pg_name (i := 2) c__law_alike.nd rfl (Or.inl rfl)) (pss_one (ps_if (pt_not (pt_truth (pe_cl C__law_alike hr (by rfl) (pa_cons (pe_ix ix_tup (pv 0) (pv 2) (fun _ _ => rfl)) (pa_cons (pe_ix ix_tup (pv 1) (pv 2) (fun _ _ => rfl)) pa_nil))) (by intro _; rfl))) (pss_one (ps_ret pe_bl)) pss_nil)))
      (pss_one (ps_ret pe_bl)))) pss_nil)
      (pss_cons (ps_if (pt_cmpR op_isN (pv 1) pe_non (nomark _)) (pss_one (ps_ret (pe_cmpR op_isN (pv 0) pe_non (nomark _)))) pss_nil)
      (pss_cons (ps_if (pt_val (pe_callB call_isi (by rfl) T.n_isinstance (by decide +kernel) (pa_cons (pv 1) (pa_cons (pe_bltn (v := .ty "str") (by rfl) T.n_str (by decide +kernel) rfl) pa_nil)))) (pss_one (ps_ret (pe_and (pe_callB call_isi (by rfl) T.n_isinstance (by decide +kernel) (pa_cons (pv 0) (pa_cons (pe_bltn (v := .ty "str") (by rfl) T.n_str (by decide +kernel) rfl) pa_nil))) (pe_one (pe_cmpR op_eq (pv 0) (pv 1) (nomark _)))))) pss_nil)
      (pss_cons (ps_if (pt_cmpR op_ne (pe_callB call_isi (by rfl) T.n_isinstance (by decide +kernel) (pa_cons (pv 0) (pa_cons (pe_bltn (v := .ty "bool") (by rfl) T.n_bool (by decide +kernel) rfl) pa_nil))) (pe_callB call_isi (by rfl) T.n_isinstance (by decide +kernel) (pa_cons (pv 1) (pa_cons (pe_bltn (v := .ty "bool") (by rfl) T.n_bool (by decide +kernel) rfl) pa_nil))) (nomark _)) (pss_one (ps_ret pe_bl)) pss_nil)
      (pss_one (ps_ret (pe_and (pe_callB call_isi (by rfl) T.n_isinstance (by decide +kernel) (pa_cons (pv 0) (pa_cons (pe_bltn (v := .ty "int") (by rfl) T.n_int (by decide +kernel) rfl) pa_nil))) (pe_one (pe_cmpR op_eq (pv 0) (pv 1) (nomark _)))))))))), ?_⟩
      walk_at "wp"
      cases hd with
      | non =>
        cases hx; cases hy
        refine w_isi (.base (.non)) false (by decide +kernel) ?_
        walk_at "wp"
        refine ⟨rfl, ?_⟩
        walk_at "wp"
        refine iteT ?_
        walk_at "wp"
        exact ⟨rfl, k⟩
      | bl b =>
        cases hx; cases hy
        refine w_isi (.base (.bl _)) false (by decide +kernel) ?_
        walk_at "wp"
        refine ⟨rfl, ?_⟩
        walk_at "wp"
        refine iteF ?_
        walk_at "wp"
        refine w_isi (.base (.bl _)) false (by decide +kernel) ?_
        walk_at "wp"
        refine w_isi (.base (.bl _)) true (by decide +kernel) ?_
        walk_at "wp"
        refine w_isi (.base (.bl _)) true (by decide +kernel) ?_
        walk_at "wp"
        refine iteF ?_
        walk_at "wp"
        refine w_isi (.base (.bl _)) true (by decide +kernel) ?_
        walk_at "wp"
        refine ⟨rfl, ?_⟩
        rw [decide_eq_true rfl]
        exact k
      | int i =>
        cases hx; cases hy
        refine w_isi (.base (.int _)) false (by decide +kernel) ?_
        walk_at "wp"
        refine ⟨rfl, ?_⟩
        walk_at "wp"
        refine iteF ?_
        walk_at "wp"
        refine w_isi (.base (.int _)) false (by decide +kernel) ?_
        walk_at "wp"
        refine w_isi (.base (.int _)) false (by decide +kernel) ?_
        walk_at "wp"
        refine w_isi (.base (.int _)) false (by decide +kernel) ?_
        walk_at "wp"
        refine iteF ?_
        walk_at "wp"
        refine w_isi (.base (.int _)) true (by decide +kernel) ?_
        walk_at "wp"
        rw [decide_eq_true rfl]
        exact k
      | str z =>
        cases hx; cases hy
        refine w_isi (.base (.str _)) false (by decide +kernel) ?_
        walk_at "wp"
        refine ⟨rfl, ?_⟩
        walk_at "wp"
        refine iteF ?_
        walk_at "wp"
        refine w_isi (.base (.str _)) true (by decide +kernel) ?_
        walk_at "wp"
        refine w_isi (.base (.str _)) true (by decide +kernel) ?_
        walk_at "wp"
        rw [decide_eq_true rfl]
        exact k
      | @tup n0 ds hl hh =>
        cases hx with
        | @tup a xs _ ex lx =>
        cases hy with
        | @tup b ys _ ey ly =>
        have l1 := lx.len
        have l2 := ly.len
        refine w_isi (.base (.tup ey)) true (by decide +kernel) ?_
        walk_at "wp"
        refine w_isi (.base (.tup ex)) true (by decide +kernel) ?_
        walk_at "wp"
        refine w_iteN (fun e => absurd (by omega) e) (fun _ => ?_)
        walk_at "wp"
        refine ⟨by omega, by omega, ?_⟩
        refine for_range (lo := 0) (n := ((ys.length : Nat) : Int).toNat) (fun i σ H2 => ∃ (v : Option V), σ = [some (.ref a), some (.ref b), v] ∧ H2 = H) ⟨none, rfl, rfl⟩ ?_ ?_
        · rintro i σ H2 hi ⟨v, rfl, rfl⟩
          have hi' : i < ds.length := by omega
          obtain ⟨x, x1, x2⟩ := lx.get (List.getElem?_eq_getElem hi')
          obtain ⟨y, y1, y2⟩ := ly.get (List.getElem?_eq_getElem hi')
          walk_at "wp"
          refine w_ixT (.of ex) (at_of (j := i) (by omega) x1) ?_
          walk_at "wp"
          refine w_ixT (.of ey) (at_of (j := i) (by omega) y1) ?_
          walk_at "wp"
          refine ⟨x, y, _, rfl, x2, y2, hh _ (List.getElem_mem hi'), ?_⟩
          walk_at "wp"
          exact ⟨_, rfl, rfl⟩
        · rintro σ H2 ⟨v, rfl, rfl⟩
          walk_at "wp"
          exact k
/-- a sign, a text, a scalar, an element of what is drawn -/
def Asc (x : Str) : Prop := ∀ c ∈ x.cps.toList, c < 128
def ScB (m : Int) : PyData → Prop
  | .int i => -m ≤ i ∧ i ≤ m
  | .str x => x.length ≤ 20 ∧ Asc x
  | _ => False
def ElB (m : Int) (d : PyData) : Prop := ScB m d ∨ ∃ a b, d = .tuple [a, b] ∧ ScB m a ∧ ScB m b
abbrev Sc (d : PyData) : Prop := ScB 1152921504606846976 d
abbrev El (d : PyData) : Prop := ElB 1152921504606846976 d
theorem ScB.mono {m n : Int} {d : PyData} (h : ScB m d) (hm : m ≤ n) : ScB n d := by
  cases d with
  | int i => exact ⟨by have := h.1; omega, by have := h.2; omega⟩
  | str x => exact h
  | none => exact h.elim
  | bool _ => exact h.elim
  | list _ => exact h.elim
  | tuple _ => exact h.elim
  | dict _ => exact h.elim
theorem ElB.mono {m n : Int} {d : PyData} (h : ElB m d) (hm : m ≤ n) : ElB n d := by
  rcases h with h | ⟨a, b, e, ha, hb⟩
  · exact .inl (h.mono hm)
  · exact .inr ⟨a, b, e, ha.mono hm, hb.mono hm⟩
theorem sc_v {m : Int} {d : PyData} (h : ScB m d) {H H' : Hp} {v : V} (a : At H v d) : At H' v d := by
  cases a with
  | non => exact .non
  | bl b => exact .bl b
  | int i => exact .int i
  | str x => exact .str x
  | tup e l => exact h.elim
theorem len_app (a b : Str) : (a ++ b).length = a.length + b.length := by
  unfold Str.length
  rw [Str.cps_append, Array.size_append]
theorem asc_app {a b : Str} (h : Asc a) (g : Asc b) : Asc (a ++ b) := fun c hc => by
  rw [Str.cps_append, Array.toList_append] at hc
  rcases List.mem_append.mp hc with z | z
  · exact h c z
  · exact g c z
theorem asc_one {c : Nat} (h : c < 128) : Asc ⟨#[c]⟩ := fun d hd => by
  have : d = c := by simpa using hd
  rw [this]; exact h
def spSign : Sp := fun vs H Q _ => ∃ (t l : Addr), vs = [.ref t] ∧ Tape H t l ∧ ∀ (c : Nat) (H' : Hp), c < 128 → Go t l H H' → Q (.str ⟨#[c]⟩) H'
abbrev s__law_sign : Stmt := top 12
theorem c__law_sign : FnScope ["tape", "signs"] ["tape"] (defScope s__law_sign) := ⟨rfl, rfl, rfl, by decide +kernel, rfl, by decide +kernel, by decide +kernel⟩

theorem ok_sign {f : Addr} {fd : FuncData} (F : Fun K "_law_sign" "_law_sign" s__law_sign f fd) (T : Txt mg) (C__law_draw : Cl P w K mg base 1 "_law_draw" ["tape", "many"] spDraw) : FnOk P w K mg base CX0 2 f fd ["tape"] spSign := by
  refine F.ok c__law_sign (fun vs H Q E h => ?_) (fun cdv A outer s H vs Q E hr h => ?_)
  · obtain ⟨t, l, rfl, _⟩ := h
    rfl
  · obtain ⟨t, l, rfl, TP, k⟩ := h
    refine ⟨_, (pss_cons (ps_set (i := 1) c__law_sign.nd rfl (Or.inl rfl) pe_str)
      (pss_cons (ps_set (i := 1) c__law_sign.nd rfl (Or.inl rfl) (pe_op op_add_str (pv 1) pe_str))
      (pss_one (ps_ret (pe_ix ix_str (pv 1) (pe_cl C__law_draw (hr.mono (by omega)) (by rfl) (pa_cons (pv 0) (pa_cons pe_int pa_nil))) (fun _ _ => rfl)))))), ?_⟩
    walk_at "wp"
    refine ⟨_, _, rfl, rfl, by decide +kernel, ?_⟩
    walk_at "wp"
    refine ⟨t, l, _, rfl, TP, by decide, fun r0 H0 l0 u0 G0 => ?_⟩
    refine w_ixS (fun c => c < 128) (by decide +kernel) l0 ?_ (by decide +kernel) fun c hc => k c _ hc G0
    refine Int.lt_of_lt_of_le u0 ?_
    decide +kernel
def spWord : Sp := fun vs H Q _ => ∃ (t l : Addr), vs = [.ref t] ∧ Tape H t l ∧ ∀ (x : Str) (H' : Hp), x.length ≤ 20 → Asc x → Go t l H H' → Q (.str x) H'
abbrev s__law_word : Stmt := top 13
theorem c__law_word : FnScope ["tape", "word", "k"] ["tape"] (defScope s__law_word) := ⟨rfl, rfl, rfl, by decide +kernel, rfl, by decide +kernel, by decide +kernel⟩

theorem ok_word {f : Addr} {fd : FuncData} (F : Fun K "_law_word" "_law_word" s__law_word f fd) (T : Txt mg) (C__law_draw : Cl P w K mg base 1 "_law_draw" ["tape", "many"] spDraw) (C__law_sign : Cl P w K mg base 2 "_law_sign" ["tape"] spSign) : FnOk P w K mg base CX0 3 f fd ["tape"] spWord := by
  refine F.ok c__law_word (fun vs H Q E h => ?_) (fun cdv A outer s H vs Q E hr h => ?_)
  · obtain ⟨t, l, rfl, _⟩ := h
    rfl
  · obtain ⟨t, l, rfl, TP, k⟩ := h
    refine ⟨_, (pss_cons (ps_set (i := 1) c__law_word.nd rfl (Or.inl rfl) (pe_ix ix_list (pe_lst (pa_cons pe_str (pa_cons pe_str (pa_cons pe_str (pa_cons pe_str pa_nil))))) (pe_cl C__law_draw (hr.mono (by omega)) (by rfl) (pa_cons (pv 0) (pa_cons pe_int pa_nil))) (fun _ _ => rfl)))
      (pss_cons (ps_for PassesOwn.never rfl (pi_range1 (by rfl) T.n_range (pa_cons (pe_cl C__law_draw (hr.mono (by omega)) (by rfl) (pa_cons (pv 0) (pa_cons pe_int pa_nil))) pa_nil)) (pg_name (i := 2) c__law_word.nd rfl (Or.inl rfl)) (pss_one (ps_set (i := 1) c__law_word.nd rfl (Or.inl rfl) (pe_op op_add_str (pv 1) (pe_cl C__law_sign (hr.mono (by omega)) (by rfl) (pa_cons (pv 0) pa_nil))))))
      (pss_one (ps_ret (pv 1))))), ?_⟩
    walk_at "wp"
    refine ⟨szle (by show 4 ≤ _; decide), fun m nm => ?_⟩
    obtain ⟨mH, mt⟩ := (Go.refl TP).free nm
    walk_at "wp"
    refine ⟨t, l, _, rfl, ((Go.refl TP).new nm).T, by decide, fun r1 H1 l1 u1 G1 => ?_⟩
    have GG := ((Go.refl TP).new nm).trans G1
    have hm1 := G1.at upd_same mt.1
    refine w_ixAny (fun v => ∃ x : Str, v = .str x ∧ x.length ≤ 17 ∧ Asc x) (.of hm1) l1 (Int.lt_of_lt_of_le u1 (by decide)) ?_ ?_
    · intro v hv
      simp only [List.mem_cons, List.not_mem_nil, or_false] at hv
      rcases hv with rfl | rfl | rfl | rfl
      all_goals exact ⟨_, rfl, by decide +kernel, by unfold Asc; decide +kernel⟩
    · rintro v ⟨x0, rfl, hx0, ha0⟩
      walk_at "wp"
      refine ⟨t, l, _, rfl, GG.T, by decide, fun r2 H2 l2 u2 G2 => ?_⟩
      replace u2 : r2 < 4 := u2
      walk_at "wp"
      refine ⟨by omega, by omega, ?_⟩
      refine for_range (lo := 0) (n := r2.toNat) (fun i σ H3 => ∃ (v1 : Option V) (x : Str), σ = [some (.ref t), some (.str x), v1] ∧ x.length ≤ 17 + i ∧ Asc x ∧ Go t l H H3) ⟨none, x0, rfl, hx0, ha0, GG.trans G2⟩ ?_ ?_
      · rintro i σ H3 hi ⟨v1, x, rfl, hx, ha, G3⟩
        walk_at "wp"
        refine ⟨t, l, rfl, G3.T, fun c H4 hc G4 => ?_⟩
        have e1 : (⟨#[c]⟩ : Str).length = 1 := rfl
        refine ⟨_, _, rfl, rfl, szle (by rw [e1]; omega), ?_⟩
        walk_at "wp"
        exact ⟨_, _, rfl, by rw [len_app, e1]; omega, asc_app ha (asc_one hc), G3.trans G4⟩
      · rintro σ H3 ⟨v1, x, rfl, hx, ha, G3⟩
        walk_at "wp"
        exact k x H3 (by omega) ha G3
def spScalar : Sp := fun vs H Q _ => ∃ (t l : Addr), vs = [.ref t] ∧ Tape H t l ∧ ∀ (v : V) (d : PyData) (H' : Hp), ScB 1000000000000000 d → At H' v d → Go t l H H' → Q v H'
abbrev s__law_scalar : Stmt := top 14
theorem c__law_scalar : FnScope ["tape", "choice", "edges"] ["tape"] (defScope s__law_scalar) := ⟨rfl, rfl, rfl, by decide +kernel, rfl, by decide +kernel, by decide +kernel⟩

theorem ok_scalar {f : Addr} {fd : FuncData} (F : Fun K "_law_scalar" "_law_scalar" s__law_scalar f fd) (T : Txt mg) (C__law_draw : Cl P w K mg base 1 "_law_draw" ["tape", "many"] spDraw) (C__law_word : Cl P w K mg base 3 "_law_word" ["tape"] spWord) : FnOk P w K mg base CX0 4 f fd ["tape"] spScalar := by
  refine F.ok c__law_scalar (fun vs H Q E h => ?_) (fun cdv A outer s H vs Q E hr h => ?_)
  · obtain ⟨t, l, rfl, _⟩ := h
    rfl
  · obtain ⟨t, l, rfl, TP, k⟩ := h
    refine ⟨_, (pss_cons (ps_set (i := 1) c__law_scalar.nd rfl (Or.inl rfl) (pe_cl C__law_draw (hr.mono (by omega)) (by rfl) (pa_cons (pv 0) (pa_cons pe_int pa_nil))))
      (pss_cons (ps_if (pt_cmpR op_eq (pv 1) pe_int (nomark _)) (pss_one (ps_ret (pe_cl C__law_word (hr.mono (by omega)) (by rfl) (pa_cons (pv 0) pa_nil)))) pss_nil)
      (pss_cons (ps_if (pt_cmpR op_eq (pv 1) pe_int (nomark _)) (pss_cons (ps_set (i := 2) c__law_scalar.nd rfl (Or.inl rfl) (pe_lst (pa_cons pe_int (pa_cons pe_int (pa_cons pe_int (pa_cons pe_int (pa_cons pe_int (pa_cons pe_int (pa_cons pe_int (pa_cons pe_int (pa_cons (pe_op op_sub (pe_op op_pow pe_int pe_int) pe_int) (pa_cons (pe_op op_pow pe_int pe_int) pa_nil))))))))))))
      (pss_one (ps_ret (pe_op op_mul (pe_ix ix_list (pv 2) (pe_cl C__law_draw (hr.mono (by omega)) (by rfl) (pa_cons (pv 0) (pa_cons pe_int pa_nil))) (fun _ _ => rfl)) (pe_op op_sub pe_int (pe_op op_mul pe_int (pe_cl C__law_draw (hr.mono (by omega)) (by rfl) (pa_cons (pv 0) (pa_cons pe_int pa_nil))))))))) pss_nil)
      (pss_cons (ps_if (pt_cmpR op_eq (pv 1) pe_int (nomark _)) (pss_one (ps_ret (pe_op op_mul (pe_op op_sub (pe_cl C__law_draw (hr.mono (by omega)) (by rfl) (pa_cons (pv 0) (pa_cons pe_int pa_nil))) pe_int) (pe_ix ix_list (pe_lst (pa_cons pe_int (pa_cons pe_int (pa_cons pe_int pa_nil)))) (pe_cl C__law_draw (hr.mono (by omega)) (by rfl) (pa_cons (pv 0) (pa_cons pe_int pa_nil))) (fun _ _ => rfl))))) pss_nil)
      (pss_cons (ps_if (pt_cmpR op_eq (pv 1) pe_int (nomark _)) (pss_one (ps_ret (pe_op op_sub (pe_cl C__law_draw (hr.mono (by omega)) (by rfl) (pa_cons (pv 0) (pa_cons (pe_op op_add (pe_op op_mul pe_int (pe_op op_pow pe_int pe_int)) pe_int) pa_nil))) (pe_op op_pow pe_int pe_int)))) pss_nil)
      (pss_one (ps_ret (pe_cl C__law_draw (hr.mono (by omega)) (by rfl) (pa_cons (pv 0) (pa_cons pe_int pa_nil)))))))))), ?_⟩
    have ki : ∀ (i : Int) (H' : Hp), -1000000000000000 ≤ i → i ≤ 1000000000000000 → Go t l H H' → Q (.int i) H' := fun i H' h1 h2 g => k _ (.int i) _ ⟨h1, h2⟩ (.int i) g
    walk_at "wp"
    refine ⟨t, l, _, rfl, TP, by decide, fun r0 H0 l0 u0 G0 => ?_⟩
    walk_at "wp"
    refine w_ite (fun e => ?_) (fun e => ?_)
    · walk_at "wp"
      exact ⟨t, l, rfl, G0.T, fun x H1 h1 h2 G1 => k _ (.str x) _ ⟨h1, h2⟩ (.str x) (G0.trans G1)⟩
    walk_at "wp"
    refine w_ite (fun e => ?_) (fun e => ?_)
    · walk_at "wp"
      refine ⟨szle (by show 10 ≤ _; decide), fun m nm => ?_⟩
      obtain ⟨mH, mt⟩ := G0.free nm
      walk_at "wp"
      refine ⟨t, l, _, rfl, (G0.new nm).T, by decide, fun r1 H1 l1 u1 G1 => ?_⟩
      have GG := (G0.new nm).trans G1
      have hm1 := G1.at upd_same mt.1
      refine w_ixAny (fun v => ∃ n : Int, v = .int n ∧ 0 ≤ n ∧ n ≤ 1000000000000000) (.of hm1) l1 (Int.lt_of_lt_of_le u1 (by decide)) ?_ ?_
      · intro v hv
        simp only [List.mem_cons, List.not_mem_nil, or_false] at hv
        rcases hv with rfl | rfl | rfl | rfl | rfl | rfl | rfl | rfl | rfl | rfl
        all_goals exact ⟨_, rfl, by decide, by decide⟩
      · rintro v ⟨n, rfl, n0, n1⟩
        walk_at "wp"
        refine ⟨t, l, _, rfl, GG.T, by decide, fun r2 H2 l2 u2 G2 => ?_⟩
        replace u2 : r2 < 2 := u2
        walk_at "wp"
        have : r2 = 0 ∨ r2 = 1 := by omega
        rcases this with rfl | rfl
        · walk_at "wp"
          refine ki _ _ ?_ ?_ (GG.trans G2)
          · show -1000000000000000 ≤ n * 1; omega
          · show n * 1 ≤ 1000000000000000; omega
        · walk_at "wp"
          refine ki _ _ ?_ ?_ (GG.trans G2)
          · show -1000000000000000 ≤ n * (-1); omega
          · show n * (-1) ≤ 1000000000000000; omega
    walk_at "wp"
    refine w_ite (fun e => ?_) (fun e => ?_)
    · walk_at "wp"
      refine ⟨t, l, _, rfl, G0.T, by decide, fun r1 H1 l1 u1 G1 => ?_⟩
      replace u1 : r1 < 2000001 := u1
      have G01 := G0.trans G1
      walk_at "wp"
      refine ⟨szle (by show 3 ≤ _; decide), fun m nm => ?_⟩
      obtain ⟨mH, mt⟩ := G01.free nm
      walk_at "wp"
      refine ⟨t, l, _, rfl, (G01.new nm).T, by decide, fun r2 H2 l2 u2 G2 => ?_⟩
      have GG := (G01.new nm).trans G2
      have hm1 := G2.at upd_same mt.1
      refine w_ixAny (fun v => v = .int 1 ∨ v = .int 65536 ∨ v = .int 1000000000) (.of hm1) l2 (Int.lt_of_lt_of_le u2 (by decide)) ?_ ?_
      · intro v hv
        simpa only [List.mem_cons, List.not_mem_nil, or_false] using hv
      · intro v hv
        rcases hv with rfl | rfl | rfl
        all_goals
          walk_at "wp"
          exact ki _ _ (by omega) (by omega) GG
    walk_at "wp"
    refine w_ite (fun e => ?_) (fun e => ?_)
    · walk_at "wp"
      refine ⟨t, l, _, rfl, G0.T, by decide, fun r1 H1 l1 u1 G1 => ?_⟩
      replace u1 : r1 < 2000000000000001 := u1
      walk_at "wp"
      have e15 : (10 : Int) ^ (15 : Int).toNat = 1000000000000000 := by decide
      rw [e15]
      exact ki _ _ (by omega) (by omega) (G0.trans G1)
    walk_at "wp"
    refine ⟨t, l, _, rfl, G0.T, by decide, fun r1 H1 l1 u1 G1 => ?_⟩
    replace u1 : r1 < 9 := u1
    exact ki _ _ (by omega) (by omega) (G0.trans G1)
def spElement : Sp := fun vs H Q _ => ∃ (t l : Addr), vs = [.ref t] ∧ Tape H t l ∧ ∀ (v : V) (d : PyData) (H' : Hp), ElB 1000000000000000 d → At H' v d → Go t l H H' → Q v H'
abbrev s__law_element : Stmt := top 15
theorem c__law_element : FnScope ["tape", "first"] ["tape"] (defScope s__law_element) := ⟨rfl, rfl, rfl, by decide +kernel, rfl, by decide +kernel, by decide +kernel⟩

theorem ok_element {f : Addr} {fd : FuncData} (F : Fun K "_law_element" "_law_element" s__law_element f fd) (T : Txt mg) (C__law_draw : Cl P w K mg base 1 "_law_draw" ["tape", "many"] spDraw) (C__law_scalar : Cl P w K mg base 4 "_law_scalar" ["tape"] spScalar) : FnOk P w K mg base CX0 5 f fd ["tape"] spElement := by
  refine F.ok c__law_element (fun vs H Q E h => ?_) (fun cdv A outer s H vs Q E hr h => ?_)
  · obtain ⟨t, l, rfl, _⟩ := h
    rfl
  · obtain ⟨t, l, rfl, TP, k⟩ := h
    refine ⟨_, (pss_cons (ps_set (i := 1) c__law_element.nd rfl (Or.inl rfl) (pe_cl C__law_scalar (hr.mono (by omega)) (by rfl) (pa_cons (pv 0) pa_nil)))
      (pss_cons (ps_if (pt_cmpR op_eq (pe_cl C__law_draw (hr.mono (by omega)) (by rfl) (pa_cons (pv 0) (pa_cons pe_int pa_nil))) pe_int (nomark _)) (pss_one (ps_ret (pe_tup (pa_cons (pv 1) (pa_cons (pe_cl C__law_scalar (hr.mono (by omega)) (by rfl) (pa_cons (pv 0) pa_nil)) pa_nil))))) pss_nil)
      (pss_one (ps_ret (pv 1))))), ?_⟩
    walk_at "wp"
    refine ⟨t, l, rfl, TP, fun v d H0 hs ha G0 => ?_⟩
    walk_at "wp"
    refine ⟨t, l, _, rfl, G0.T, by decide, fun r1 H1 l1 u1 G1 => ?_⟩
    walk_at "wp"
    refine w_ite (fun e => ?_) (fun e => ?_)
    · walk_at "wp"
      refine ⟨t, l, rfl, G1.T, fun v2 d2 H2 hs2 ha2 G2 => ?_⟩
      have G02 := (G0.trans G1).trans G2
      walk_at "wp"
      refine ⟨szle (by show 2 ≤ _; decide), fun p np => ?_⟩
      exact k _ (.tuple [d, d2]) _ (.inr ⟨d, d2, rfl, hs, hs2⟩) (.tup upd_same (.cons (sc_v hs ha) (.cons (sc_v hs2 ha2) .nil))) (G02.new np)
    · walk_at "wp"
      exact k v d _ (.inl hs) (sc_v hs ha) (G0.trans G1)
/-- the code of an element -/
def dg (n : Int) : List Int := [n / 281474976710656 % 65536, n / 4294967296 % 65536, n / 65536 % 65536, n % 65536]
def ords (x : Str) : List Int := x.cps.toList.map fun (c : Nat) => ((c : Nat) : Int)
def scd : PyData → List Int
  | .int i => if i < 0 then 2 :: dg (-i) else 1 :: dg i
  | .str x => 3 :: ((x.length : Nat) : Int) :: ords x
  | _ => []
def cdE : PyData → List Int
  | .tuple [a, b] => 4 :: (scd a ++ scd b)
  | d => scd d
theorem cdE_sc {d : PyData} (h : Sc d) : cdE d = scd d := by
  cases d <;> first | rfl | exact h.elim
theorem ords_len (x : Str) : (ords x).length = x.length := by
  unfold ords
  rw [List.length_map, Array.length_toList]
  rfl
theorem scd_len {d : PyData} (h : Sc d) : (scd d).length ≤ 22 := by
  cases d with
  | int i =>
    show (if i < 0 then 2 :: dg (-i) else 1 :: dg i).length ≤ 22
    split <;> (show 5 ≤ 22; decide)
  | str x =>
    have := h.1
    show (ords x).length + 1 + 1 ≤ 22
    rw [ords_len]
    omega
  | none => exact h.elim
  | bool _ => exact h.elim
  | list _ => exact h.elim
  | tuple _ => exact h.elim
  | dict _ => exact h.elim
theorem cdE_len {d : PyData} (h : El d) : (cdE d).length ≤ 45 := by
  rcases h with h | ⟨a, b, rfl, ha, hb⟩
  · rw [cdE_sc h]
    have := scd_len h
    omega
  · show (scd a ++ scd b).length + 1 ≤ 45
    rw [List.length_append]
    have := scd_len ha
    have := scd_len hb
    omega
def spDigits : Sp := fun vs H Q _ => ∃ (n : Int), vs = [.int n] ∧ ∀ (p : Addr) (H' : Hp), Same H H' → H' p = some (.tup ((dg n).map V.int)) → Q (.ref p) H'
abbrev s_digits_of : Stmt := top 1
theorem c_digits_of : FnScope ["number"] ["number"] (defScope s_digits_of) := ⟨rfl, rfl, rfl, by decide +kernel, rfl, by decide +kernel, by decide +kernel⟩

theorem ok_digits {f : Addr} {fd : FuncData} (F : Fun K "digits_of" "digits_of" s_digits_of f fd) (T : Txt mg) : FnOk P w K mg base CX0 1 f fd ["number"] spDigits := by
  refine F.ok c_digits_of (fun vs H Q E h => ?_) (fun cdv A outer s H vs Q E hr h => ?_)
  · obtain ⟨n, rfl, _⟩ := h
    rfl
  · obtain ⟨n, rfl, k⟩ := h
    refine ⟨_, (pss_one (ps_ret (pe_tup (pa_cons (pe_op op_and (pe_op op_shr (pv 0) pe_int) pe_int) (pa_cons (pe_op op_and (pe_op op_shr (pv 0) pe_int) pe_int) (pa_cons (pe_op op_and (pe_op op_shr (pv 0) pe_int) pe_int) (pa_cons (pe_op op_and (pv 0) pe_int) pa_nil))))))), ?_⟩
    walk_at "wp"
    refine ⟨szle (by show 4 ≤ _; decide), fun p np => ?_⟩
    refine k p _ (same_new np) ?_
    rw [upd_same, PyProof.Rows.bitAnd_m16, PyProof.Rows.bitAnd_m16, PyProof.Rows.bitAnd_m16, PyProof.Rows.bitAnd_m16]
    rfl
def spScode : Sp := fun vs H Q _ => ∃ (v : V) (d : PyData), vs = [v] ∧ At H v d ∧ Sc d ∧ ∀ (p : Addr) (H' : Hp), Same H H' → H' p = some (.tup ((scd d).map V.int)) → Q (.ref p) H'
abbrev s_scalar_code : Stmt := top 2
theorem c_scalar_code : FnScope ["scalar", "letter"] ["scalar"] (defScope s_scalar_code) := ⟨rfl, rfl, rfl, by decide +kernel, rfl, by decide +kernel, by decide +kernel⟩

theorem ok_scode {f : Addr} {fd : FuncData} (F : Fun K "scalar_code" "scalar_code" s_scalar_code f fd) (T : Txt mg) (C_digits_of : Cl P w K mg base 1 "digits_of" ["number"] spDigits) : FnOk P w K mg base CX0 2 f fd ["scalar"] spScode := by
  refine F.ok c_scalar_code (fun vs H Q E h => ?_) (fun cdv A outer s H vs Q E hr h => ?_)
  · obtain ⟨v, d, rfl, _⟩ := h
    rfl
  · obtain ⟨v, d, rfl, ha, hs, k⟩ := h
    refine ⟨_, (pss_cons (ps_if (pt_val (pe_callB call_isi (by rfl) T.n_isinstance (by decide +kernel) (pa_cons (pv 0) (pa_cons (pe_bltn (v := .ty "str") (by rfl) T.n_str (by decide +kernel) rfl) pa_nil)))) (pss_one (ps_ret (pe_op op_catA (pe_tup (pa_cons pe_int (pa_cons (pe_callB call_len_str (by rfl) T.n_len (by decide +kernel) (pa_cons (pv 0) pa_nil)) pa_nil))) (pe_callTy call_tuple_of (by rfl) T.n_tuple (by decide +kernel) (pa_cons (pe_lc (own := [("letter", 1)]) (by rfl) c_scalar_code.nd (pi_str (pv 0)) (blkOk_by (own := [("letter", 1)]) (N := ["scalar", "letter"]) (sc := defScope s_scalar_code) (by decide +kernel)) (fun _ _ _ _ _ => pg_name (i := 1) c_scalar_code.nd rfl (Or.inl rfl)) (fun _ _ _ _ _ => pts_nil) (fun _ _ _ _ _ => (pe_callB call_ord (by rfl) T.n_ord (by decide +kernel) (pa_cons (pv 1) pa_nil)))) pa_nil))))) pss_nil)
      (pss_cons (ps_if (pt_cmpR op_lt (pv 0) pe_int (nomark _)) (pss_one (ps_ret (pe_op op_catA (pe_tup (pa_cons pe_int pa_nil)) (pe_cl C_digits_of (hr.mono (by omega)) (by rfl) (pa_cons (pe_un un_neg (pv 0)) pa_nil))))) pss_nil)
      (pss_one (ps_ret (pe_op op_catA (pe_tup (pa_cons pe_int pa_nil)) (pe_cl C_digits_of (hr.mono (by omega)) (by rfl) (pa_cons (pv 0) pa_nil))))))), ?_⟩
    walk_at "wp"
    cases ha with
    | non => exact hs.elim
    | bl b => exact hs.elim
    | tup e l => exact hs.elim
    | str x =>
      refine w_isi (.base (.str _)) true (by decide +kernel) ?_
      walk_at "wp"
      have hx := hs.1
      have hos := ords_len x
      refine ⟨szle (by omega), ?_⟩
      walk_at "wp"
      refine ⟨szle (by show 2 ≤ _; decide), fun p np => ?_⟩
      walk_at "wp"
      intro D nD
      have pD : p ≠ D := fun e => by rw [← e, upd_same] at nD; cases nD
      have nDH : H D = none := (same_new np).free nD
      refine lc_it walk_str (fun i H2 => H2 D = some (.lst (((ords x).take i).map V.int)) ∧ Same H H2 ∧ H2 p = some (.tup [.int 3, .int ((x.length : Nat) : Int)])) ⟨upd_same, (same_new np).trans (same_new nD), (upd_ne pD).trans upd_same⟩ (fun _ _ _ _ => trivial) ?_ ?_
      · rintro i v H2 H3 hi ⟨d1, d2, d3⟩ ⟨rfl, c, hc, rfl⟩
        have hcl : x.cps.toList[i]? = some c := by rw [Array.getElem?_toList]; exact hc
        walk_at "wp"
        refine ⟨rfl, ?_⟩
        walk_at "wp"
        refine ⟨rfl, ?_⟩
        refine ⟨_, d1, szlt (by rw [List.length_map, List.length_take]; omega), ?_, fun b u hb => ?_, (upd_ne pD).trans d3⟩
        · rw [upd_same]
          have : (ords x).take (i + 1) = (ords x).take i ++ [((c : Nat) : Int)] := by
            rw [List.take_add_one]
            unfold ords
            rw [List.getElem?_map, hcl]
            rfl
          rw [this, List.map_append]
          rfl
        · rw [upd_ne (fun e => by rw [e, nDH] at hb; cases hb)]
          exact d2 _ _ hb
      · rintro H2 ⟨d1, d2, d3⟩
        have el : x.cps.size = (ords x).length := hos.symm
        rw [el, List.take_length] at d1
        walk_at "wp"
        intro q nq
        have hpq : p ≠ q := fun e => by rw [← e, d3] at nq; cases nq
        refine w_catA ((upd_ne hpq).trans d3) upd_same ?_ fun r H5 s5 h5 => ?_
        · rw [List.length_map]
          show 2 + _ ≤ _
          omega
        · exact k r H5 (d2.trans ((same_new nq).trans s5)) h5
    | int i =>
      refine w_isi (.base (.int _)) false (by decide +kernel) ?_
      walk_at "wp"
      refine w_ite (fun e => ?_) (fun e => ?_)
      · walk_at "wp"
        refine ⟨szle (by show 1 ≤ _; decide), fun p np => ?_⟩
        walk_at "wp"
        refine ⟨_, rfl, fun q H2 s2 h2 => ?_⟩
        have hp := s2 p _ upd_same
        refine w_catA hp h2 (by show 1 + 4 ≤ _; decide) fun r H5 s5 h5 => ?_
        refine k r H5 ((same_new np).trans (s2.trans s5)) ?_
        rw [h5]
        show _ = some (HO.tup ((if i < 0 then 2 :: dg (-i) else 1 :: dg i).map V.int))
        rw [if_pos e]
        rfl
      · walk_at "wp"
        refine ⟨szle (by show 1 ≤ _; decide), fun p np => ?_⟩
        walk_at "wp"
        refine ⟨_, rfl, fun q H2 s2 h2 => ?_⟩
        have hp := s2 p _ upd_same
        refine w_catA hp h2 (by show 1 + 4 ≤ _; decide) fun r H5 s5 h5 => ?_
        refine k r H5 ((same_new np).trans (s2.trans s5)) ?_
        rw [h5]
        show _ = some (HO.tup ((if i < 0 then 2 :: dg (-i) else 1 :: dg i).map V.int))
        rw [if_neg e]
        rfl
def spCode : Sp := fun vs H Q _ => ∃ (v : V) (d : PyData), vs = [v] ∧ At H v d ∧ El d ∧ ∀ (p : Addr) (H' : Hp), Same H H' → H' p = some (.tup ((cdE d).map V.int)) → Q (.ref p) H'
abbrev s_code_of : Stmt := top 3
theorem c_code_of : FnScope ["element"] ["element"] (defScope s_code_of) := ⟨rfl, rfl, rfl, by decide +kernel, rfl, by decide +kernel, by decide +kernel⟩

theorem ok_code {f : Addr} {fd : FuncData} (F : Fun K "code_of" "code_of" s_code_of f fd) (T : Txt mg) (C_scalar_code : Cl P w K mg base 2 "scalar_code" ["scalar"] spScode) : FnOk P w K mg base CX0 3 f fd ["element"] spCode := by
  refine F.ok c_code_of (fun vs H Q E h => ?_) (fun cdv A outer s H vs Q E hr h => ?_)
  · obtain ⟨v, d, rfl, _⟩ := h
    rfl
  · obtain ⟨v, d, rfl, ha, hs, k⟩ := h
    refine ⟨_, (pss_cons (ps_if (pt_val (pe_callB call_isi (by rfl) T.n_isinstance (by decide +kernel) (pa_cons (pv 0) (pa_cons (pe_bltn (v := .ty "tuple") (by rfl) T.n_tuple (by decide +kernel) rfl) pa_nil)))) (pss_one (ps_ret (pe_op op_catA (pe_op op_catA (pe_tup (pa_cons pe_int pa_nil)) (pe_cl C_scalar_code (hr.mono (by omega)) (by rfl) (pa_cons (pe_ix ix_tup (pv 0) pe_int (fun _ _ => rfl)) pa_nil))) (pe_cl C_scalar_code (hr.mono (by omega)) (by rfl) (pa_cons (pe_ix ix_tup (pv 0) pe_int (fun _ _ => rfl)) pa_nil))))) pss_nil)
      (pss_one (ps_ret (pe_cl C_scalar_code (hr.mono (by omega)) (by rfl) (pa_cons (pv 0) pa_nil))))), ?_⟩
    walk_at "wp"
    rcases hs with hs | ⟨a, b, rfl, hsa, hsb⟩
    · cases ha with
      | non => exact hs.elim
      | bl b => exact hs.elim
      | tup e l => exact hs.elim
      | str x =>
        refine w_isi (.base (.str _)) false (by decide +kernel) ?_
        walk_at "wp"
        exact ⟨_, .str x, rfl, .str x, hs, fun p H' s1 h1 => k p H' s1 (by rw [cdE_sc hs]; exact h1)⟩
      | int x =>
        refine w_isi (.base (.int _)) false (by decide +kernel) ?_
        walk_at "wp"
        exact ⟨_, .int x, rfl, .int x, hs, fun p H' s1 h1 => k p H' s1 (by rw [cdE_sc hs]; exact h1)⟩
    · cases ha with
      | tup e l =>
      cases l with
      | cons a1 l1 =>
      cases l1 with
      | cons a2 l2 =>
      cases l2
      refine w_isi (.base (.tup e)) true (by decide +kernel) ?_
      walk_at "wp"
      refine ⟨szle (by show 1 ≤ _; decide), fun p np => ?_⟩
      have ep := same_new (o := .tup [.int 4]) np _ _ e
      walk_at "wp"
      refine ⟨_, a, rfl, sc_v hsa a1, hsa, fun q H2 s2 h2 => ?_⟩
      have hp := s2 p _ upd_same
      refine w_catA hp h2 ?_ fun r H3 s3 h3 => ?_
      · rw [List.length_map]
        have := scd_len hsa
        show 1 + _ ≤ _
        omega
      have e3 := s3 _ _ (s2 _ _ ep)
      walk_at "wp"
      refine ⟨_, b, rfl, sc_v hsb a2, hsb, fun q4 H4 s4 h4 => ?_⟩
      refine w_catA (s4 _ _ h3) h4 ?_ fun r5 H5 s5 h5 => ?_
      · rw [List.length_map, List.length_append, List.length_map]
        have := scd_len hsa
        have := scd_len hsb
        show 1 + _ + _ ≤ _
        omega
      refine k r5 H5 ((same_new np).trans (s2.trans (s3.trans (s4.trans s5)))) ?_
      rw [h5]
      show _ = some (HO.tup ((4 :: (scd a ++ scd b)).map V.int))
      rw [List.map_cons, List.map_append]
      rfl
def spLscode : Sp := fun vs H Q _ => ∃ (v : V) (d : PyData), vs = [v] ∧ At H v d ∧ Sc d ∧ ∀ (p : Addr) (H' : Hp), Same H H' → H p = none → H' p = some (.lst ((scd d).map V.int)) → Q (.ref p) H'
abbrev s__law_scalar_code : Stmt := top 18
theorem c__law_scalar_code : FnScope ["value", "code", "unit", "sign"] ["value"] (defScope s__law_scalar_code) := ⟨rfl, rfl, rfl, by decide +kernel, rfl, by decide +kernel, by decide +kernel⟩

theorem ok_lscode {f : Addr} {fd : FuncData} (F : Fun K "_law_scalar_code" "_law_scalar_code" s__law_scalar_code f fd) (T : Txt mg) : FnOk P w K mg base CX0 1 f fd ["value"] spLscode := by
  refine F.ok c__law_scalar_code (fun vs H Q E h => ?_) (fun cdv A outer s H vs Q E hr h => ?_)
  · obtain ⟨v, d, rfl, _⟩ := h
    rfl
  · obtain ⟨v, d, rfl, ha, hs, k⟩ := h
    refine ⟨_, (pss_cons (ps_if (pt_val (pe_callB call_isi (by rfl) T.n_isinstance (by decide +kernel) (pa_cons (pv 0) (pa_cons (pe_bltn (v := .ty "str") (by rfl) T.n_str (by decide +kernel) rfl) pa_nil)))) (pss_one (ps_ret (pe_op op_cat (pe_lst (pa_cons pe_int (pa_cons (pe_callB call_len_str (by rfl) T.n_len (by decide +kernel) (pa_cons (pv 0) pa_nil)) pa_nil))) (pe_lc (own := [("sign", 3)]) (by rfl) c__law_scalar_code.nd (pi_str (pv 0)) (blkOk_by (own := [("sign", 3)]) (N := ["value", "code", "unit", "sign"]) (sc := defScope s__law_scalar_code) (by decide +kernel)) (fun _ _ _ _ _ => pg_name (i := 3) c__law_scalar_code.nd rfl (Or.inl rfl)) (fun _ _ _ _ _ => pts_nil) (fun _ _ _ _ _ => (pe_callB call_ord (by rfl) T.n_ord (by decide +kernel) (pa_cons (pv 3) pa_nil))))))) pss_nil)
      (pss_cons (ps_set (i := 1) c__law_scalar_code.nd rfl (Or.inl rfl) (pe_lst (pa_cons (pe_op op_add pe_int (pe_callTy call_int1 (by rfl) T.n_int (by decide +kernel) (pa_cons (pe_cmpR op_lt (pv 0) pe_int (nomark _)) pa_nil))) pa_nil)))
      (pss_cons (ps_for PassesOwn.never rfl (pi_list (pe_lst (pa_cons pe_int (pa_cons pe_int (pa_cons pe_int (pa_cons pe_int pa_nil)))))) (pg_name (i := 2) c__law_scalar_code.nd rfl (Or.inl rfl)) (pss_one (ps_expr (pe_bm PySem.F.plainAttrs_list PySem.F.slot_list_append PySem.F.type_list_append mt_append (pv 1) (pa_cons (pe_op op_modN (pe_callTy call_int1 (by rfl) T.n_int (by decide +kernel) (pa_cons (pe_op op_fdivW (pe_callB call_abs (by rfl) T.n_abs (by decide +kernel) (pa_cons (pv 0) pa_nil)) (pv 2)) pa_nil)) pe_int) pa_nil)))))
      (pss_one (ps_ret (pv 1)))))), ?_⟩
    walk_at "wp"
    cases ha with
    | non => exact hs.elim
    | bl b => exact hs.elim
    | tup e l => exact hs.elim
    | str x =>
      refine w_isi (.base (.str _)) true (by decide +kernel) ?_
      walk_at "wp"
      have hx := hs.1
      have hos := ords_len x
      refine ⟨szle (by omega), ?_⟩
      walk_at "wp"
      refine ⟨szle (by show 2 ≤ _; decide), fun p np => ?_⟩
      walk_at "wp"
      intro D nD
      have pD : p ≠ D := fun e => by rw [← e, upd_same] at nD; cases nD
      have nDH : H D = none := (same_new np).free nD
      refine lc_it walk_str (fun i H2 => H2 D = some (.lst (((ords x).take i).map V.int)) ∧ Same H H2 ∧ H2 p = some (.lst [.int 3, .int ((x.length : Nat) : Int)])) ⟨upd_same, (same_new np).trans (same_new nD), (upd_ne pD).trans upd_same⟩ (fun _ _ _ _ => trivial) ?_ ?_
      · rintro i v H2 H3 hi ⟨d1, d2, d3⟩ ⟨rfl, c, hc, rfl⟩
        have hcl : x.cps.toList[i]? = some c := by rw [Array.getElem?_toList]; exact hc
        walk_at "wp"
        refine ⟨rfl, ?_⟩
        walk_at "wp"
        refine ⟨rfl, ?_⟩
        refine ⟨_, d1, szlt (by rw [List.length_map, List.length_take]; omega), ?_, fun b u hb => ?_, (upd_ne pD).trans d3⟩
        · rw [upd_same]
          have : (ords x).take (i + 1) = (ords x).take i ++ [((c : Nat) : Int)] := by
            rw [List.take_add_one]
            unfold ords
            rw [List.getElem?_map, hcl]
            rfl
          rw [this, List.map_append]
          rfl
        · rw [upd_ne (fun e => by rw [e, nDH] at hb; cases hb)]
          exact d2 _ _ hb
      · rintro H2 ⟨d1, d2, d3⟩
        have el : x.cps.size = (ords x).length := hos.symm
        rw [el, List.take_length] at d1
        refine w_cat d3 d1 ?_ fun r H5 nr s5 h5 => ?_
        · rw [List.length_map]
          show 2 + _ ≤ _
          omega
        · exact k r H5 (d2.trans s5) (d2.free nr) h5
    | int i =>
      refine w_isi (.base (.int _)) false (by decide +kernel) ?_
      walk_at "wp"
      refine ⟨szle (by show 1 ≤ _; decide), fun o no => ?_⟩
      walk_at "wp"
      refine ⟨szle (by show 4 ≤ _; decide), fun m nm => ?_⟩
      have noH : H o = none := no
      have om : o ≠ m := fun e => by rw [← e, upd_same] at nm; cases nm
      have nmH : H m = none := (same_new no).free nm
      walk_at "wp"
      have ua : ∀ (z : Int), (if i < 0 then -i else i) = z → True := fun _ _ => trivial
      have wd : ∀ u : Int, 0 < u → u ≤ 281474976710656 → CDivW (if i < 0 then -i else i) u := fun u h1 h2 => wide_div (b := 64) h1 (by omega) (by decide) (by decide)
      let m4 : List V := [.int 281474976710656, .int 4294967296, .int 65536, .int 1]
      let us : Nat → Int := fun j => if j = 0 then 281474976710656 else if j = 1 then 4294967296 else if j = 2 then 65536 else 1
      have hus : ∀ j x, m4[j]? = some x → x = .int (us j) ∧ 0 < us j ∧ us j ≤ 281474976710656 := fun j x hx => by
        match j, hx with
        | 0, hx => exact ⟨(Option.some.inj hx).symm, by decide, by decide⟩
        | 1, hx => exact ⟨(Option.some.inj hx).symm, by decide, by decide⟩
        | 2, hx => exact ⟨(Option.some.inj hx).symm, by decide, by decide⟩
        | 3, hx => exact ⟨(Option.some.inj hx).symm, by decide, by decide⟩
        | j + 4, hx => exact absurd hx (by show ¬ (none = some x); intro z; cases z)
      let hd : Int := 1 + (if decide (i < 0) = true then 1 else 0)
      let z : Int := if i < 0 then -i else i
      refine for_list (K := K) (a := m) (xs := m4) (fun j σ H2 => ∃ v, σ = [some (.int i), some (.ref o), v, none] ∧ H2 o = some (.lst ((hd :: (dg z).take j).map V.int)) ∧ H2 m = some (.lst m4) ∧ Same H H2) ⟨none, rfl, (upd_ne om).trans upd_same, upd_same, (same_new no).trans (same_new nm)⟩ (fun _ _ _ _ ⟨_, _, _, h, _⟩ => .of h) ?_ ?_
      · rintro j x σ H2 hx ⟨v, rfl, d1, d2, d3⟩
        have hj : j < 4 := (List.getElem?_eq_some_iff.mp hx).1
        obtain ⟨rfl, u0, u1⟩ := hus j x hx
        walk_at "wp"
        refine w_I (wd _ u0 u1) ?_
        walk_at "wp"
        have mo : m ≠ o := om.symm
        refine ⟨_, rfl, ?_, (upd_ne mo).trans d2, fun b u hb => ?_⟩
        · rw [upd_same]
          have e : (hd :: (dg z).take (j + 1)) = (hd :: (dg z).take j) ++ [(z / us j).fmod 65536] := by
            have : (dg z)[j]? = some ((z / us j).fmod 65536) := by
              rw [Int.fmod_eq_emod_of_nonneg _ (by decide)]
              match j, hj with
              | 0, _ => rfl
              | 1, _ => rfl
              | 2, _ => rfl
              | 3, _ => show some (z % 65536) = some (z / 1 % 65536); rw [Int.ediv_one]
            rw [List.take_add_one, this]
            rfl
          rw [e, List.map_append]
          rfl
        · rw [upd_ne (fun e => by rw [e, noH] at hb; cases hb)]
          exact d3 _ _ hb
      · rintro σ H2 ⟨v, rfl, d1, d2, d3⟩
        walk_at "wp"
        refine k o H2 d3 noH ?_
        rw [d1]
        have e4 : (dg z).take m4.length = dg z := rfl
        rw [e4]
        show _ = some (HO.lst ((if i < 0 then 2 :: dg (-i) else 1 :: dg i).map V.int))
        by_cases hi : i < 0
        · have h1 : hd = 2 := by
            show 1 + (if decide (i < 0) = true then (1 : Int) else 0) = 2
            rw [decide_eq_true hi]
            rfl
          have h2 : z = -i := if_pos hi
          rw [if_pos hi, h1, h2]
        · have h1 : hd = 1 := by
            show 1 + (if decide (i < 0) = true then (1 : Int) else 0) = 1
            rw [decide_eq_false hi]
            rfl
          have h2 : z = i := if_neg hi
          rw [if_neg hi, h1, h2]
def spLcode : Sp := fun vs H Q _ => ∃ (v : V) (d : PyData), vs = [v] ∧ At H v d ∧ El d ∧ ∀ (p : Addr) (H' : Hp), Same H H' → H p = none → H' p = some (.lst ((cdE d).map V.int)) → Q (.ref p) H'
abbrev s__law_element_code : Stmt := top 19
theorem c__law_element_code : FnScope ["element"] ["element"] (defScope s__law_element_code) := ⟨rfl, rfl, rfl, by decide +kernel, rfl, by decide +kernel, by decide +kernel⟩

theorem ok_lcode {f : Addr} {fd : FuncData} (F : Fun K "_law_element_code" "_law_element_code" s__law_element_code f fd) (T : Txt mg) (C__law_scalar_code : Cl P w K mg base 1 "_law_scalar_code" ["value"] spLscode) : FnOk P w K mg base CX0 2 f fd ["element"] spLcode := by
  refine F.ok c__law_element_code (fun vs H Q E h => ?_) (fun cdv A outer s H vs Q E hr h => ?_)
  · obtain ⟨v, d, rfl, _⟩ := h
    rfl
  · obtain ⟨v, d, rfl, ha, hs, k⟩ := h
    refine ⟨_, (pss_cons (ps_if (pt_val (pe_callB call_isi (by rfl) T.n_isinstance (by decide +kernel) (pa_cons (pv 0) (pa_cons (pe_bltn (v := .ty "tuple") (by rfl) T.n_tuple (by decide +kernel) rfl) pa_nil)))) (pss_one (ps_ret (pe_op op_cat (pe_op op_cat (pe_lst (pa_cons pe_int pa_nil)) (pe_cl C__law_scalar_code (hr.mono (by omega)) (by rfl) (pa_cons (pe_ix ix_tup (pv 0) pe_int (fun _ _ => rfl)) pa_nil))) (pe_cl C__law_scalar_code (hr.mono (by omega)) (by rfl) (pa_cons (pe_ix ix_tup (pv 0) pe_int (fun _ _ => rfl)) pa_nil))))) pss_nil)
      (pss_one (ps_ret (pe_cl C__law_scalar_code (hr.mono (by omega)) (by rfl) (pa_cons (pv 0) pa_nil))))), ?_⟩
    walk_at "wp"
    rcases hs with hs | ⟨a, b, rfl, hsa, hsb⟩
    · cases ha with
      | non => exact hs.elim
      | bl b => exact hs.elim
      | tup e l => exact hs.elim
      | str x =>
        refine w_isi (.base (.str _)) false (by decide +kernel) ?_
        walk_at "wp"
        exact ⟨_, .str x, rfl, .str x, hs, fun p H' s1 n1 h1 => k p H' s1 n1 (by rw [cdE_sc hs]; exact h1)⟩
      | int x =>
        refine w_isi (.base (.int _)) false (by decide +kernel) ?_
        walk_at "wp"
        exact ⟨_, .int x, rfl, .int x, hs, fun p H' s1 n1 h1 => k p H' s1 n1 (by rw [cdE_sc hs]; exact h1)⟩
    · cases ha with
      | tup e l =>
      cases l with
      | cons a1 l1 =>
      cases l1 with
      | cons a2 l2 =>
      cases l2
      refine w_isi (.base (.tup e)) true (by decide +kernel) ?_
      walk_at "wp"
      refine ⟨szle (by show 1 ≤ _; decide), fun p np => ?_⟩
      have ep := same_new (o := .lst [.int 4]) np _ _ e
      walk_at "wp"
      refine ⟨_, a, rfl, sc_v hsa a1, hsa, fun q H2 s2 n2 h2 => ?_⟩
      have hp := s2 p _ upd_same
      refine w_cat hp h2 ?_ fun r H3 nr s3 h3 => ?_
      · rw [List.length_map]
        have := scd_len hsa
        show 1 + _ ≤ _
        omega
      have e3 := s3 _ _ (s2 _ _ ep)
      walk_at "wp"
      refine ⟨_, b, rfl, sc_v hsb a2, hsb, fun q4 H4 s4 n4 h4 => ?_⟩
      refine w_cat (s4 _ _ h3) h4 ?_ fun r5 H5 nr5 s5 h5 => ?_
      · rw [List.length_map, List.length_append, List.length_map]
        have := scd_len hsa
        have := scd_len hsb
        show 1 + _ + _ ≤ _
        omega
      refine k r5 H5 ((same_new np).trans (s2.trans (s3.trans (s4.trans s5)))) (((same_new np).trans (s2.trans (s3.trans s4))).free nr5) ?_
      rw [h5]
      show _ = some (HO.lst ((4 :: (scd a ++ scd b)).map V.int))
      rw [List.map_cons, List.map_append]
      rfl
open Dm
theorem sc_pl {m : Int} {d : PyData} (h : ScB m d) : Pl d := by
  cases d with
  | int i => exact .int i
  | str x => exact .str x h.2
  | none => exact h.elim
  | bool _ => exact h.elim
  | list _ => exact h.elim
  | tuple _ => exact h.elim
  | dict _ => exact h.elim
theorem sc_dep {m : Int} {d : PyData} (h : ScB m d) (n : Nat) : Dep n d := by
  cases d with
  | int i => exact .int _ i
  | str x => exact .str _ x
  | none => exact h.elim
  | bool _ => exact h.elim
  | list _ => exact h.elim
  | tuple _ => exact h.elim
  | dict _ => exact h.elim
theorem el_pl {m : Int} {d : PyData} (h : ElB m d) : Pl d := by
  rcases h with h | ⟨a, b, rfl, ha, hb⟩
  · exact sc_pl h
  · exact .tup _ (List.forall_mem_cons.mpr ⟨sc_pl ha, List.forall_mem_cons.mpr ⟨sc_pl hb, fun _ h => absurd h List.not_mem_nil⟩⟩)
theorem el_dep {m : Int} {d : PyData} (h : ElB m d) (n : Nat) : Dep (n + 1) d := by
  rcases h with h | ⟨a, b, rfl, ha, hb⟩
  · exact sc_dep h _
  · exact .tup (by show 2 ≤ 1000000; decide) (List.forall_mem_cons.mpr ⟨sc_dep ha _, List.forall_mem_cons.mpr ⟨sc_dep hb _, fun _ h => absurd h List.not_mem_nil⟩⟩)
open Nm
theorem at_leaf {H : Hp} {v : V} {e : PyData} (h : At H v (toD (.leaf e))) : ∃ a x, v = .ref a ∧ H a = some (.tup [.str (Str.ofString "leaf"), x]) ∧ At H x e := by
  cases h with
  | tup ea l =>
  cases l with
  | cons a1 l1 =>
  cases l1 with
  | cons a2 l2 =>
  cases l2
  cases a1
  exact ⟨_, _, rfl, ea, a2⟩
theorem at_run {H : Hp} {v : V} {c : Nd} {t : Nat} (h : At H v (toD (.run c t))) : ∃ a x, v = .ref a ∧ H a = some (.tup [.str (Str.ofString "run"), x, .int (t : Int)]) ∧ At H x (toD c) := by
  cases h with
  | tup ea l =>
  cases l with
  | cons a1 l1 =>
  cases l1 with
  | cons a2 l2 =>
  cases l2 with
  | cons a3 l3 =>
  cases l3
  cases a1
  cases a3
  exact ⟨_, _, rfl, ea, a2⟩
theorem at_block {H : Hp} {v : V} {cs : List Nd} (h : At H v (toD (.block cs))) : ∃ a b xs, v = .ref a ∧ H a = some (.tup [.str (Str.ofString "block"), .ref b]) ∧ H b = some (.tup xs) ∧ AtL H xs (toDs cs) := by
  cases h with
  | tup ea l =>
  cases l with
  | cons a1 l1 =>
  cases l1 with
  | cons a2 l2 =>
  cases l2
  cases a1
  cases a2 with
  | tup eb l3 => exact ⟨_, _, _, rfl, ea, eb, l3⟩
theorem mk_leaf {H : Hp} {a : Addr} {x : V} {e : PyData} (h : H a = some (.tup [.str (Str.ofString "leaf"), x])) (g : At H x e) : At H (.ref a) (toD (.leaf e)) := .tup h (.cons (.str _) (.cons g .nil))
theorem mk_run {H : Hp} {a : Addr} {x : V} {c : Nd} {t : Nat} (h : H a = some (.tup [.str (Str.ofString "run"), x, .int (t : Int)])) (g : At H x (toD c)) : At H (.ref a) (toD (.run c t)) := .tup h (.cons (.str _) (.cons g (.cons (.int _) .nil)))
theorem mk_block {H : Hp} {a b : Addr} {xs : List V} {cs : List Nd} (h : H a = some (.tup [.str (Str.ofString "block"), .ref b])) (hb : H b = some (.tup xs)) (g : AtL H xs (toDs cs)) : At H (.ref a) (toD (.block cs)) := .tup h (.cons (.str _) (.cons (.tup hb g) .nil))
theorem AtL.app {H : Hp} : ∀ {vs ws : List V} {ds es : List PyData}, AtL H vs ds → AtL H ws es → AtL H (vs ++ ws) (ds ++ es)
  | _, _, _, _, .nil, h => h
  | _, _, _, _, .cons a l, h => .cons a (AtL.app l h)
abbrev E15 : PyData → Prop := ElB 1000000000000000
def spBase (D : Nat) : Sp := fun vs H Q _ => ∃ (t l : Addr) (dp rm : Nat), vs = [.ref t, .int (dp : Int), .int (rm : Int)] ∧ dp < D ∧ 1 ≤ rm ∧ rm ≤ 2000 ∧ Tape H t l ∧ ∀ (v : V) (n : Nd) (H' : Hp), Wf E15 n → isRun n = false → lev n ≤ 2 * dp → sizeN n ≤ rm → At H' v (toD n) → Go t l H H' → Q v H'
def spNode (D : Nat) : Sp := fun vs H Q _ => ∃ (t l : Addr) (dp rm : Nat), vs = [.ref t, .int (dp : Int), .int (rm : Int)] ∧ dp < D ∧ 1 ≤ rm ∧ rm ≤ 2000 ∧ Tape H t l ∧ ∀ (v : V) (n : Nd) (H' : Hp), Wf E15 n → lev n ≤ 2 * dp + 1 → sizeN n ≤ rm → At H' v (toD n) → Go t l H H' → Q v H'
theorem cdN {i j : Int} (h : 0 < j) (h2 : j < 100000) : CDivN i j := ⟨by omega, by omega⟩
theorem fdN (a b : Nat) : ((a : Nat) : Int).fdiv ((b : Nat) : Int) = ((a / b : Nat) : Int) := by
  rw [Int.fdiv_eq_ediv_of_nonneg _ (by omega)]
  rfl
theorem sizeNs_le : ∀ {cs : List Nd} {m : Nat}, (∀ c ∈ cs, sizeN c ≤ m) → sizeNs cs ≤ cs.length * m
  | [], m, _ => Nat.zero_le _
  | c :: r, m, h => by
    show sizeN c + sizeNs r ≤ (r.length + 1) * m
    have h1 := h c (List.mem_cons_self ..)
    have h2 := sizeNs_le (cs := r) fun d hd => h d (List.mem_cons_of_mem _ hd)
    rw [Nat.add_mul, Nat.one_mul]
    omega
abbrev s__law_base : Stmt := top 16
theorem c__law_base : FnScope ["tape", "depth", "room", "many", "k"] ["tape", "depth", "room"] (defScope s__law_base) := ⟨rfl, rfl, rfl, by decide +kernel, rfl, by decide +kernel, by decide +kernel⟩

abbrev s__law_node : Stmt := top 17
theorem c__law_node : FnScope ["tape", "depth", "room", "times"] ["tape", "depth", "room"] (defScope s__law_node) := ⟨rfl, rfl, rfl, by decide +kernel, rfl, by decide +kernel, by decide +kernel⟩

theorem ok_base {D : Nat} {f : Addr} {fd : FuncData} (F : Fun K "_law_base" "_law_base" s__law_base f fd) (T : Txt mg) (C__law_draw : Cl P w K mg base 1 "_law_draw" ["tape", "many"] spDraw) (C__law_element : Cl P w K mg base 5 "_law_element" ["tape"] spElement) (C__law_node : Cl P w K mg base (6 + 2 * D) "_law_node" ["tape", "depth", "room"] (spNode D)) : FnOk P w K mg base CX0 (7 + 2 * D) f fd ["tape", "depth", "room"] (spBase (D + 1)) := by
  have el : 7 + 2 * D = (6 + 2 * D) + 1 := by omega
  rw [el]
  refine F.ok c__law_base (fun vs H Q E h => ?_) (fun cdv A outer s H vs Q E hr h => ?_)
  · obtain ⟨t, l, dp, rm, rfl, _⟩ := h
    rfl
  · obtain ⟨t, l, dp, rm, rfl, hD, r1, r2, TP, k⟩ := h
    refine ⟨_, (pss_cons (ps_if (PW.pt (pw_or (pt_cmpR op_eq (pv 1) pe_int (nomark _)) (pw_or1 (pt_cmpR op_eq (pe_cl C__law_draw (hr.mono (by omega)) (by rfl) (pa_cons (pv 0) (pa_cons pe_int pa_nil))) pe_int (nomark _))))) (pss_one (ps_ret (pe_tup (pa_cons pe_str (pa_cons (pe_cl C__law_element (hr.mono (by omega)) (by rfl) (pa_cons (pv 0) pa_nil)) pa_nil))))) pss_nil)
      (pss_cons (ps_set (i := 3) c__law_base.nd rfl (Or.inr rfl) (pe_callB (call_min2 rfl) (by rfl) T.n_min (by decide +kernel) (pa_cons (pe_op op_add pe_int (pe_cl C__law_draw (hr.mono (by omega)) (by rfl) (pa_cons (pv 0) (pa_cons (pe_ix ix_list (pe_lst (pa_cons pe_int (pa_cons pe_int (pa_cons pe_int pa_nil)))) (pe_cl C__law_draw (hr.mono (by omega)) (by rfl) (pa_cons (pv 0) (pa_cons pe_int pa_nil))) (fun _ _ => rfl)) pa_nil)))) (pa_cons (pv 2) pa_nil))))
      (pss_one (ps_ret (pe_tup (pa_cons pe_str (pa_cons (pe_callTy call_tuple_of (by rfl) T.n_tuple (by decide +kernel) (pa_cons (pe_lc (own := [("k", 4)]) (by rfl) c__law_base.nd (pi_range1 (by rfl) T.n_range (pa_cons (pv 3) pa_nil)) (blkOk_by (own := [("k", 4)]) (N := ["tape", "depth", "room", "many", "k"]) (sc := defScope s__law_base) (by decide +kernel)) (fun _ _ _ _ _ => pg_name (i := 4) c__law_base.nd rfl (Or.inl rfl)) (fun _ _ _ _ _ => pts_nil) (fun _ _ _ _ _ => (pe_cl C__law_node (hr.mono (by omega)) (by rfl) (pa_cons (pv 0) (pa_cons (pe_op op_sub (pv 1) pe_int) (pa_cons (pe_op op_fdivN (pv 2) (pv 3)) pa_nil)))))) pa_nil)) pa_nil))))))), ?_⟩
    have leaf : ∀ (H1 : Hp) (G1 : Go t l H H1) (v : V) (d : PyData) (H2 : Hp) (G2 : Go t l H1 H2), E15 d → At H2 v d → ∀ p, H2 p = none → Q (.ref p) (upd H2 p (.tup [.str (Str.ofString "leaf"), v])) := fun H1 G1 v d H2 G2 hd ha p np =>
      k _ (.leaf d) _ (.leaf d hd) rfl (Nat.zero_le _) r1 (mk_leaf upd_same (ha.same (same_new np))) ((G1.trans G2).new np)
    walk_at "wp"
    refine w_ite (fun e => ?_) (fun e => ?_)
    · walk_at "wp"
      refine ⟨t, l, rfl, TP, fun v d H2 hd ha G2 => ?_⟩
      walk_at "wp"
      refine ⟨szle (by show 2 ≤ _; decide), fun p np => ?_⟩
      exact leaf H (Go.refl TP) v d H2 G2 hd ha p np
    walk_at "wp"
    refine ⟨t, l, _, rfl, TP, by decide, fun c0 H0 l0 u0 G0 => ?_⟩
    walk_at "wp"
    refine w_ite (fun e2 => ?_) (fun e2 => ?_)
    · walk_at "wp"
      refine ⟨t, l, rfl, G0.T, fun v d H2 hd ha G2 => ?_⟩
      walk_at "wp"
      refine ⟨szle (by show 2 ≤ _; decide), fun p np => ?_⟩
      exact leaf H0 G0 v d H2 G2 hd ha p np
    walk_at "wp"
    refine ⟨szle (by show 3 ≤ _; decide), fun m nm => ?_⟩
    obtain ⟨mH, mt⟩ := G0.free nm
    walk_at "wp"
    refine ⟨t, l, _, rfl, (G0.new nm).T, by decide, fun c1 H1 l1 u1 G1 => ?_⟩
    have GG := (G0.new nm).trans G1
    have hm1 := G1.at upd_same mt.1
    refine w_ixAny (fun v => ∃ n : Int, v = .int n ∧ 1 ≤ n ∧ n ≤ 12) (.of hm1) l1 (Int.lt_of_lt_of_le u1 (by decide)) ?_ ?_
    · intro v hv
      simp only [List.mem_cons, List.not_mem_nil, or_false] at hv
      rcases hv with rfl | rfl | rfl
      all_goals exact ⟨_, rfl, by decide, by decide⟩
    rintro v ⟨mm, rfl, m1, m2⟩
    walk_at "wp"
    refine ⟨t, l, _, rfl, GG.T, by omega, fun c3 H3 l3 u3 G3 => ?_⟩
    have G03 := GG.trans G3
    walk_at "wp"
    obtain ⟨many, hmany, y1, y2, y3⟩ : ∃ many : Nat, (if (rm : Int) < 1 + c3 then (rm : Int) else 1 + c3) = (many : Int) ∧ 1 ≤ many ∧ many ≤ 12 ∧ many ≤ rm := by
      refine ⟨(if (rm : Int) < 1 + c3 then (rm : Int) else 1 + c3).toNat, ?_, ?_, ?_, ?_⟩ <;> split <;> omega
    rw [hmany]
    refine ⟨by omega, by omega, ?_⟩
    intro W nW
    obtain ⟨WH, Wt⟩ := G03.free nW
    have eT : ((many : Nat) : Int).toNat = many := Int.toNat_natCast many
    have q1 : 1 ≤ rm / many := (Nat.le_div_iff_mul_le (by omega)).mpr (by omega)
    have q2 : rm / many ≤ rm := Nat.div_le_self _ _
    have q3 : many * (rm / many) ≤ rm := Nat.mul_div_le rm many
    rw [eT]
    refine lc_range (lo := 0) (n := many) (fun i H4 => ∃ (xs : List V) (ns : List Nd), H4 W = some (.lst xs) ∧ AtL H4 xs (toDs ns) ∧ ns.length = i ∧ (∀ c ∈ ns, Wf E15 c ∧ lev c ≤ 2 * dp - 1 ∧ sizeN c ≤ rm / many) ∧ Go t l H H4) ⟨[], [], upd_same, .nil, rfl, (fun c hc => absurd hc List.not_mem_nil), G03.new nW⟩ ?_ ?_
    · rintro i H4 hi ⟨xs, ns, hW, hA, hl, hn, G4⟩
      walk_at "wp"
      refine ⟨rfl, ?_⟩
      walk_at "wp"
      refine w_I (cdN (by omega) (by omega)) ?_
      walk_at "wp"
      rw [fdN]
      have e5 : ((dp : Nat) : Int) - 1 = ((dp - 1 : Nat) : Int) := by omega
      rw [e5]
      refine ⟨t, l, dp - 1, rm / many, rfl, by omega, q1, by omega, G4.T, fun v n H5 h1 h2 h3 h4 G5 => ?_⟩
      have hA5 := hA.go G4.T G5
      have hxl := hA.len
      rw [toDs_len] at hxl
      refine ⟨xs, G5.at hW Wt.1, szlt (by omega), xs ++ [v], ns ++ [n], upd_same, ?_, by rw [List.length_append, hl]; rfl, ?_, (G4.trans G5).put WH Wt⟩
      · rw [toDs_app]
        refine (AtL.app hA5 (.cons h4 .nil)).tups fun b ys hb => ?_
        rw [upd_ne (fun e => by rw [e, G5.at hW Wt.1] at hb; cases hb)]
        exact hb
      · intro c hc
        rcases List.mem_append.mp hc with h | h
        · exact hn c h
        · rw [List.mem_singleton.mp h]
          exact ⟨h1, by omega, h3⟩
    · rintro H4 ⟨xs, ns, hW, hA, hl, hn, G4⟩
      walk_at "wp"
      intro p np
      walk_at "wp"
      refine ⟨szle (by show 2 ≤ _; decide), fun q nq => ?_⟩
      have pq : p ≠ q := fun e => by rw [← e, upd_same] at nq; cases nq
      refine k _ (.block ns) _ (.block ns (fun c hc => (hn c hc).1) (by omega) (by omega)) rfl ?_ ?_ (mk_block upd_same ((upd_ne pq).trans upd_same) ((hA.same (same_new np)).same (same_new nq))) ((G4.new np).new nq)
      · have := levs_le (cs := ns) (m := 2 * dp - 1) fun c hc => (hn c hc).2.1
        show levs ns + 1 ≤ 2 * dp
        omega
      · have := sizeNs_le (cs := ns) (m := rm / many) fun c hc => (hn c hc).2.2
        rw [hl] at this
        show sizeNs ns ≤ rm
        omega
theorem ok_node {D : Nat} {f : Addr} {fd : FuncData} (F : Fun K "_law_node" "_law_node" s__law_node f fd) (T : Txt mg) (C__law_draw : Cl P w K mg base 1 "_law_draw" ["tape", "many"] spDraw) (C__law_base : Cl P w K mg base (7 + 2 * D) "_law_base" ["tape", "depth", "room"] (spBase (D + 1))) : FnOk P w K mg base CX0 (8 + 2 * D) f fd ["tape", "depth", "room"] (spNode (D + 1)) := by
  have el : 8 + 2 * D = (7 + 2 * D) + 1 := by omega
  rw [el]
  refine F.ok c__law_node (fun vs H Q E h => ?_) (fun cdv A outer s H vs Q E hr h => ?_)
  · obtain ⟨t, l, dp, rm, rfl, _⟩ := h
    rfl
  · obtain ⟨t, l, dp, rm, rfl, hD, r1, r2, TP, k⟩ := h
    refine ⟨_, (pss_cons (ps_if (PW.pt (pw_and (pt_cmpR op_gt (pv 2) pe_int (nomark _)) (pw_and1 (pt_cmpR op_eq (pe_cl C__law_draw (hr.mono (by omega)) (by rfl) (pa_cons (pv 0) (pa_cons pe_int pa_nil))) pe_int (nomark _))))) (pss_cons (ps_set (i := 3) c__law_node.nd rfl (Or.inl rfl) (pe_op op_add pe_int (pe_cl C__law_draw (hr.mono (by omega)) (by rfl) (pa_cons (pv 0) (pa_cons (pe_callB (call_min2 rfl) (by rfl) T.n_min (by decide +kernel) (pa_cons (pe_op op_sub (pv 2) pe_int) (pa_cons (pe_ix ix_list (pe_lst (pa_cons pe_int (pa_cons pe_int (pa_cons pe_int (pa_cons pe_int pa_nil))))) (pe_cl C__law_draw (hr.mono (by omega)) (by rfl) (pa_cons (pv 0) (pa_cons pe_int pa_nil))) (fun _ _ => rfl)) pa_nil))) pa_nil)))))
      (pss_one (ps_ret (pe_tup (pa_cons pe_str (pa_cons (pe_cl C__law_base (hr.mono (by omega)) (by rfl) (pa_cons (pv 0) (pa_cons (pv 1) (pa_cons (pe_op op_fdivN (pv 2) (pv 3)) pa_nil)))) (pa_cons (pv 3) pa_nil))))))) pss_nil)
      (pss_one (ps_ret (pe_cl C__law_base (hr.mono (by omega)) (by rfl) (pa_cons (pv 0) (pa_cons (pv 1) (pa_cons (pv 2) pa_nil))))))), ?_⟩
    have plain : ∀ (H1 : Hp) (G1 : Go t l H H1), spBase (D + 1) [.ref t, .int (dp : Int), .int (rm : Int)] H1 Q E0 := fun H1 G1 =>
      ⟨t, l, dp, rm, rfl, hD, r1, r2, G1.T, fun v n H' h1 h2 h3 h4 h5 G => k v n H' h1 (by omega) h4 h5 (G1.trans G)⟩
    walk_at "wp"
    refine w_ite (fun e => ?_) (fun e => ?_)
    · walk_at "wp"
      refine ⟨t, l, _, rfl, TP, by decide, fun c0 H0 l0 u0 G0 => ?_⟩
      walk_at "wp"
      refine w_ite (fun e2 => ?_) (fun e2 => ?_)
      · walk_at "wp"
        refine ⟨szle (by show 4 ≤ _; decide), fun m nm => ?_⟩
        obtain ⟨mH, mt⟩ := G0.free nm
        walk_at "wp"
        refine ⟨t, l, _, rfl, (G0.new nm).T, by decide, fun c1 H1 l1 u1 G1 => ?_⟩
        have GG := (G0.new nm).trans G1
        have hm1 := G1.at upd_same mt.1
        refine w_ixAny (fun v => ∃ n : Int, v = .int n ∧ 1 ≤ n ∧ n ≤ 1999) (.of hm1) l1 (Int.lt_of_lt_of_le u1 (by decide)) ?_ ?_
        · intro v hv
          simp only [List.mem_cons, List.not_mem_nil, or_false] at hv
          rcases hv with rfl | rfl | rfl | rfl
          all_goals exact ⟨_, rfl, by decide, by decide⟩
        rintro v ⟨mm, rfl, m1, m2⟩
        walk_at "wp"
        refine ⟨t, l, _, rfl, GG.T, by split <;> omega, fun c3 H3 l3 u3 G3 => ?_⟩
        have G03 := GG.trans G3
        walk_at "wp"
        obtain ⟨ti, hti, y1, y2⟩ : ∃ ti : Nat, 2 + c3 = (ti : Int) ∧ 2 ≤ ti ∧ ti ≤ rm := by
          refine ⟨(2 + c3).toNat, by omega, by omega, ?_⟩
          have : c3 < max ((rm : Int) - 1) 1 := by
            refine Int.lt_of_lt_of_le u3 ?_
            split <;> omega
          omega
        rw [hti]
        refine w_I (cdN (by omega) (by omega)) ?_
        walk_at "wp"
        rw [fdN]
        have q1 : 1 ≤ rm / ti := (Nat.le_div_iff_mul_le (by omega)).mpr (by omega)
        have q2 : rm / ti ≤ rm := Nat.div_le_self _ _
        have q3 : ti * (rm / ti) ≤ rm := Nat.mul_div_le rm ti
        refine ⟨t, l, dp, rm / ti, rfl, hD, q1, by omega, G03.T, fun v n H5 h1 h2 h3 h4 h5 G5 => ?_⟩
        walk_at "wp"
        refine ⟨szle (by show 3 ≤ _; decide), fun p np => ?_⟩
        refine k _ (.run n ti) _ (.run n ti h1 h2 y1 (by omega)) (by show lev n + 1 ≤ _; omega) ?_ (mk_run upd_same (h5.same (same_new np))) ((G03.trans G5).new np)
        show ti * sizeN n ≤ rm
        exact Nat.le_trans (Nat.mul_le_mul_left ti h4) q3
      · walk_at "wp"
        exact plain H0 G0
    · walk_at "wp"
      exact plain H (Go.refl TP)
theorem cl_false {f : Addr} {fd : FuncData} {x : Str} {st : Stmt} {ps : List Str} {k : Nat} {sp : Sp} (F : Fun K x x st f fd) (g : mg x = some (.ref f)) (b : Binds K fd ps []) (h : ∀ vs H Q E, ¬ sp vs H Q E) : Cl P w K mg base k x ps sp :=
  ⟨f, fd, ⟨fun _ _ _ _ z => (h _ _ _ _ z).elim, fun _ _ _ _ _ _ _ _ _ _ _ _ _ z => (h _ _ _ _ z).elim⟩, g, F.kp, b⟩
/-- both, to any depth -/
theorem cl_nodes {fB fN : Addr} {fdB fdN : FuncData} (FB : Fun K "_law_base" "_law_base" s__law_base fB fdB) (FN : Fun K "_law_node" "_law_node" s__law_node fN fdN) (gB : mg "_law_base" = some (.ref fB)) (gN : mg "_law_node" = some (.ref fN)) (T : Txt mg)
    (C__law_draw : Cl P w K mg base 1 "_law_draw" ["tape", "many"] spDraw) (C__law_element : Cl P w K mg base 5 "_law_element" ["tape"] spElement) : ∀ D, Cl P w K mg base (5 + 2 * D) "_law_base" ["tape", "depth", "room"] (spBase D) ∧ Cl P w K mg base (6 + 2 * D) "_law_node" ["tape", "depth", "room"] (spNode D) := by
  have bB : Binds K fdB ["tape", "depth", "room"] [] := FB.binds (ps := ["tape", "depth", "room"]) fun _ _ _ _ _ _ us hl => match us, hl with | [_, _, _], _ => rfl
  have bN : Binds K fdN ["tape", "depth", "room"] [] := FN.binds (ps := ["tape", "depth", "room"]) fun _ _ _ _ _ _ us hl => match us, hl with | [_, _, _], _ => rfl
  intro D
  induction D with
  | zero => exact ⟨cl_false FB gB bB (fun vs H Q E ⟨_, _, _, _, _, h, _⟩ => absurd h (Nat.not_lt_zero _)), cl_false FN gN bN (fun vs H Q E ⟨_, _, _, _, _, h, _⟩ => absurd h (Nat.not_lt_zero _))⟩
  | succ D ih =>
    have cb : Cl P w K mg base (7 + 2 * D) "_law_base" ["tape", "depth", "room"] (spBase (D + 1)) := ⟨fB, fdB, ok_base FB T C__law_draw C__law_element ih.2, gB, FB.kp, bB⟩
    have cn : Cl P w K mg base (8 + 2 * D) "_law_node" ["tape", "depth", "room"] (spNode (D + 1)) := ⟨fN, fdN, ok_node FN T C__law_draw cb, gN, FN.kp, bN⟩
    have e1 : 5 + 2 * (D + 1) = 7 + 2 * D := by omega
    have e2 : 6 + 2 * (D + 1) = 8 + 2 * D := by omega
    rw [e1, e2]
    exact ⟨cb, cn⟩
/-! ### codes of nodes -/
def headN : Nd → List Int
  | .leaf e => cdE e
  | .run _ t => [5, ((t / 65536 : Nat) : Int), ((t % 65536 : Nat) : Int)]
  | .block cs => [6, ((cs.length : Nat) : Int)]
def kids : Nd → List Nd
  | .leaf _ => []
  | .run c _ => [c]
  | .block cs => cs
mutual
def codeN : Nd → List Int
  | .leaf e => cdE e
  | .run c t => 5 :: ((t / 65536 : Nat) : Int) :: ((t % 65536 : Nat) : Int) :: codeN c
  | .block cs => 6 :: ((cs.length : Nat) : Int) :: codeNs cs
def codeNs : List Nd → List Int
  | [] => []
  | c :: r => codeN c ++ codeNs r
end
theorem codeNs_app : ∀ cs ds : List Nd, codeNs (cs ++ ds) = codeNs cs ++ codeNs ds
  | [], ds => rfl
  | c :: r, ds => by
    show codeN c ++ codeNs (r ++ ds) = (codeN c ++ codeNs r) ++ codeNs ds
    rw [codeNs_app r ds, List.append_assoc]
theorem codeN_eq : ∀ n : Nd, codeN n = headN n ++ codeNs (kids n)
  | .leaf e => (List.append_nil _).symm
  | .run c t => by
    show 5 :: ((t / 65536 : Nat) : Int) :: ((t % 65536 : Nat) : Int) :: codeN c = 5 :: ((t / 65536 : Nat) : Int) :: ((t % 65536 : Nat) : Int) :: (codeN c ++ [])
    rw [List.append_nil]
  | .block cs => rfl
theorem code_kid : ∀ {cs : List Nd} {i : Nat} {c : Nd}, cs[i]? = some c → (codeN c).length ≤ (codeNs cs).length
  | [], i, c, h => by simp at h
  | d :: r, 0, c, h => by
    have : d = c := by simpa using h
    subst this
    show _ ≤ (codeN d ++ codeNs r).length
    rw [List.length_append]
    omega
  | d :: r, i + 1, c, h => by
    have := code_kid (cs := r) (i := i) (c := c) (by simpa using h)
    show _ ≤ (codeN d ++ codeNs r).length
    rw [List.length_append]
    omega
theorem codeNs_take : ∀ (cs : List Nd) (i : Nat), (codeNs (cs.take i)).length ≤ (codeNs cs).length := fun cs i => by
  have := codeNs_app (cs.take i) (cs.drop i)
  rw [List.take_append_drop] at this
  rw [this, List.length_append]
  omega
theorem codeNs_step {cs : List Nd} {i : Nat} {c : Nd} (h : cs[i]? = some c) : codeNs (cs.take (i + 1)) = codeNs (cs.take i) ++ codeN c := by
  rw [List.take_add_one, h, codeNs_app]
  show _ ++ (codeN c ++ []) = _
  rw [List.append_nil]
theorem kid_lev {n c : Nd} (h : c ∈ kids n) : lev c + 1 ≤ lev n := by
  cases n with
  | leaf e => exact absurd h List.not_mem_nil
  | run d t =>
    rw [List.mem_singleton.mp h]
    exact Nat.le_refl _
  | block cs =>
    have : lev c ≤ levs cs := lev_mem h
    show lev c + 1 ≤ levs cs + 1
    omega
theorem kid_wf {B : PyData → Prop} {n c : Nd} (w : Wf B n) (h : c ∈ kids n) : Wf B c := by
  cases w with
  | leaf e _ => exact absurd h List.not_mem_nil
  | run d t w _ _ _ => rw [List.mem_singleton.mp h]; exact w
  | block cs w _ _ => exact w c h
def spCh : Sp := fun vs H Q _ => ∃ (v : V) (n : Nd), vs = [v] ∧ At H v (toD n) ∧ ∀ (p : Addr) (xs : List V) (H' : Hp), Same H H' → H' p = some (.tup xs) → AtL H' xs (toDs (kids n)) → Q (.ref p) H'
abbrev s_children_of : Stmt := top 5
theorem c_children_of : FnScope ["node"] ["node"] (defScope s_children_of) := ⟨rfl, rfl, rfl, by decide +kernel, rfl, by decide +kernel, by decide +kernel⟩

theorem ok_ch {f : Addr} {fd : FuncData} (F : Fun K "children_of" "children_of" s_children_of f fd) (T : Txt mg) : FnOk P w K mg base CX0 1 f fd ["node"] spCh := by
  refine F.ok c_children_of (fun vs H Q E h => ?_) (fun cdv A outer s H vs Q E hr h => ?_)
  · obtain ⟨v, n, rfl, _⟩ := h
    rfl
  · obtain ⟨v, n, rfl, ha, k⟩ := h
    refine ⟨_, (pss_cons (ps_if (pt_cmpR op_eq (pe_ix ix_tup (pv 0) pe_int (fun _ _ => rfl)) pe_str (nomark _)) (pss_one (ps_ret (pe_tup pa_nil))) pss_nil)
      (pss_cons (ps_if (pt_cmpR op_eq (pe_ix ix_tup (pv 0) pe_int (fun _ _ => rfl)) pe_str (nomark _)) (pss_one (ps_ret (pe_tup (pa_cons (pe_ix ix_tup (pv 0) pe_int (fun _ _ => rfl)) pa_nil)))) pss_nil)
      (pss_one (ps_ret (pe_ix ix_tup (pv 0) pe_int (fun _ _ => rfl)))))), ?_⟩
    cases n with
    | leaf e =>
      obtain ⟨a, x, rfl, h1, h2⟩ := at_leaf ha
      walk_at "wp"
      rw [decide_eq_true rfl]
      walk_at "wp"
      exact ⟨Nat.zero_le _, fun p np => k p [] _ (same_new np) upd_same .nil⟩
    | run c t =>
      obtain ⟨a, x, rfl, h1, h2⟩ := at_run ha
      walk_at "wp"
      rw [decide_eq_false (by decide +kernel)]
      walk_at "wp"
      rw [decide_eq_true rfl]
      walk_at "wp"
      exact ⟨szle (by show 1 ≤ _; decide), fun p np => k p [x] _ (same_new np) upd_same (.cons (h2.same (same_new np)) .nil)⟩
    | block cs =>
      obtain ⟨a, b, xs, rfl, h1, hb, h2⟩ := at_block ha
      walk_at "wp"
      rw [decide_eq_false (by decide +kernel)]
      walk_at "wp"
      rw [decide_eq_false (by decide +kernel)]
      walk_at "wp"
      exact k b xs H (Same.refl H) hb h2
def spHead : Sp := fun vs H Q _ => ∃ (v : V) (n : Nd), vs = [v] ∧ At H v (toD n) ∧ Wf El n ∧ ∀ (p : Addr) (H' : Hp), Same H H' → H' p = some (.tup ((headN n).map V.int)) → Q (.ref p) H'
abbrev s_head_of : Stmt := top 6
theorem c_head_of : FnScope ["node"] ["node"] (defScope s_head_of) := ⟨rfl, rfl, rfl, by decide +kernel, rfl, by decide +kernel, by decide +kernel⟩

theorem ok_head {f : Addr} {fd : FuncData} (F : Fun K "head_of" "head_of" s_head_of f fd) (T : Txt mg) (C_code_of : Cl P w K mg base 3 "code_of" ["element"] spCode) : FnOk P w K mg base CX0 4 f fd ["node"] spHead := by
  refine F.ok c_head_of (fun vs H Q E h => ?_) (fun cdv A outer s H vs Q E hr h => ?_)
  · obtain ⟨v, n, rfl, _⟩ := h
    rfl
  · obtain ⟨v, n, rfl, ha, wf, k⟩ := h
    refine ⟨_, (pss_cons (ps_if (pt_cmpR op_eq (pe_ix ix_tup (pv 0) pe_int (fun _ _ => rfl)) pe_str (nomark _)) (pss_one (ps_ret (pe_cl C_code_of (hr.mono (by omega)) (by rfl) (pa_cons (pe_ix ix_tup (pv 0) pe_int (fun _ _ => rfl)) pa_nil)))) pss_nil)
      (pss_cons (ps_if (pt_cmpR op_eq (pe_ix ix_tup (pv 0) pe_int (fun _ _ => rfl)) pe_str (nomark _)) (pss_one (ps_ret (pe_tup (pa_cons pe_int (pa_cons (pe_op op_fdivN (pe_ix ix_tup (pv 0) pe_int (fun _ _ => rfl)) pe_int) (pa_cons (pe_op op_modN (pe_ix ix_tup (pv 0) pe_int (fun _ _ => rfl)) pe_int) pa_nil)))))) pss_nil)
      (pss_one (ps_ret (pe_tup (pa_cons pe_int (pa_cons (pe_callB call_len_seq (by rfl) T.n_len (by decide +kernel) (pa_cons (pe_ix ix_tup (pv 0) pe_int (fun _ _ => rfl)) pa_nil)) pa_nil))))))), ?_⟩
    cases wf with
    | leaf e he =>
      obtain ⟨a, x, rfl, h1, h2⟩ := at_leaf ha
      walk_at "wp"
      rw [decide_eq_true rfl]
      walk_at "wp"
      exact ⟨x, e, rfl, h2, he, fun p H' s1 h1 => k p H' s1 h1⟩
    | run c t _ _ t2 tm =>
      obtain ⟨a, x, rfl, h1, h2⟩ := at_run ha
      walk_at "wp"
      rw [decide_eq_false (by decide +kernel)]
      walk_at "wp"
      rw [decide_eq_true rfl]
      walk_at "wp"
      have e1 : ((t : Nat) : Int).fdiv 65536 = ((t / 65536 : Nat) : Int) := fdN t 65536
      have e2 : ((t : Nat) : Int).fmod 65536 = ((t % 65536 : Nat) : Int) := by
        rw [Int.fmod_eq_emod_of_nonneg _ (by decide)]
        rfl
      rw [e1, e2]
      exact ⟨szle (by show 3 ≤ _; decide), fun p np => k p _ (same_new np) upd_same⟩
    | block cs _ l1 l2 =>
      obtain ⟨a, b, xs, rfl, h1, hb, h2⟩ := at_block ha
      have hxl := h2.len
      rw [toDs_len] at hxl
      walk_at "wp"
      rw [decide_eq_false (by decide +kernel)]
      walk_at "wp"
      rw [decide_eq_false (by decide +kernel)]
      walk_at "wp"
      refine ⟨szle (by show 2 ≤ _; decide), fun p np => k p _ (same_new np) ?_⟩
      rw [upd_same, hxl]
      rfl
theorem szl7 {n : Nat} (h : n ≤ 10000000) : n ≤ sizeLine := Nat.le_trans h (by decide)
theorem szt7 {n : Nat} (h : n < 10000000) : n < sizeLine := Nat.lt_of_lt_of_le h (by decide)
def spNc (D : Nat) : Sp := fun vs H Q _ => ∃ (v : V) (n : Nd), vs = [v] ∧ At H v (toD n) ∧ Wf El n ∧ lev n < D ∧ (codeN n).length ≤ 1000000 ∧ ∀ (p : Addr) (H' : Hp), Same H H' → H' p = some (.tup ((codeN n).map V.int)) → Q (.ref p) H'
abbrev s_node_code : Stmt := top 7
theorem c_node_code : FnScope ["node", "code", "child"] ["node"] (defScope s_node_code) := ⟨rfl, rfl, rfl, by decide +kernel, rfl, by decide +kernel, by decide +kernel⟩

theorem ok_nc {D : Nat} {f : Addr} {fd : FuncData} (F : Fun K "node_code" "node_code" s_node_code f fd) (T : Txt mg) (C_head_of : Cl P w K mg base 4 "head_of" ["node"] spHead) (C_children_of : Cl P w K mg base 1 "children_of" ["node"] spCh) (C_node_code : Cl P w K mg base (4 + D) "node_code" ["node"] (spNc D)) : FnOk P w K mg base CX0 (4 + D + 1) f fd ["node"] (spNc (D + 1)) := by
  refine F.ok c_node_code (fun vs H Q E h => ?_) (fun cdv A outer s H vs Q E hr h => ?_)
  · obtain ⟨v, n, rfl, _⟩ := h
    rfl
  · obtain ⟨v, n, rfl, ha, wf, hD, hl, k⟩ := h
    refine ⟨_, (pss_cons (ps_set (i := 1) c_node_code.nd rfl (Or.inl rfl) (pe_callTy call_list_of (by rfl) T.n_list (by decide +kernel) (pa_cons (pe_cl C_head_of (hr.mono (by omega)) (by rfl) (pa_cons (pv 0) pa_nil)) pa_nil)))
      (pss_cons (ps_for PassesOwn.never rfl (pi_tup (pe_cl C_children_of (hr.mono (by omega)) (by rfl) (pa_cons (pv 0) pa_nil))) (pg_name (i := 2) c_node_code.nd rfl (Or.inl rfl)) (pss_one (ps_expr (pe_bm PySem.F.plainAttrs_list PySem.F.slot_list_extend PySem.F.type_list_extend Em.mt_extendT (pv 1) (pa_cons (pe_cl C_node_code (hr.mono (by omega)) (by rfl) (pa_cons (pv 2) pa_nil)) pa_nil)))))
      (pss_one (ps_ret (pe_callTy call_tuple_of (by rfl) T.n_tuple (by decide +kernel) (pa_cons (pv 1) pa_nil)))))), ?_⟩
    rw [codeN_eq, List.length_append] at hl
    walk_at "wp"
    refine ⟨v, n, rfl, ha, wf, fun p H1 s1 h1 => ?_⟩
    walk_at "wp"
    intro o no
    have oH : H o = none := s1.free no
    have s2 : Same H (upd H1 o (.lst ((headN n).map V.int))) := s1.trans (same_new no)
    walk_at "wp"
    refine ⟨v, n, rfl, ha.same s2, fun q xs H3 s3 h3 l3 => ?_⟩
    have ho3 := s3 o _ upd_same
    walk_at "wp"
    refine ⟨_, rfl, ⟨_, .of h3⟩, ?_⟩
    have hxl := l3.len
    rw [toDs_len] at hxl
    refine for_tup (K := K) (a := q) (xs := xs) (fun i σ H4 => ∃ w, σ = [some v, some (.ref o), w] ∧ H4 o = some (.lst ((headN n ++ codeNs ((kids n).take i)).map V.int)) ∧ Same H H4 ∧ H4 q = some (.tup xs) ∧ AtL H4 xs (toDs (kids n))) ⟨none, rfl, ?_, s2.trans s3, h3, l3⟩ (fun _ _ _ _ ⟨_, _, _, _, h, _⟩ => .of h) ?_ ?_
    · rw [List.take_zero]
      show _ = some (HO.lst ((headN n ++ []).map V.int))
      rw [List.append_nil]
      exact ho3
    · rintro i x σ H4 hx ⟨w, rfl, ho, sm, hq, hA⟩
      have hi := (List.getElem?_eq_some_iff.mp hx).1
      have hi' : i < (kids n).length := by omega
      obtain ⟨c, hc⟩ : ∃ c, (kids n)[i]? = some c := ⟨_, List.getElem?_eq_getElem hi'⟩
      have hcm := List.mem_of_getElem? hc
      obtain ⟨y, hy1, hy2⟩ := hA.get (i := i) (d := toD c) (by rw [toDs_map, List.getElem?_map, hc]; rfl)
      have exy : y = x := Option.some.inj (hy1.symm.trans hx)
      subst exy
      have h1 := code_kid hc
      have h2 := kid_lev hcm
      have h4 := codeNs_take (kids n) (i + 1)
      rw [codeNs_step hc, List.length_append] at h4
      walk_at "wp"
      refine ⟨y, c, rfl, hy2, kid_wf wf hcm, by omega, by omega, fun p5 H5 s5 h5 => ?_⟩
      have ho5 := s5 _ _ ho
      refine ⟨o, p5, _, _, rfl, rfl, ho5, .of h5, szl7 (by rw [List.length_map, List.length_map, List.length_append]; omega), ?_⟩
      have oq : ∀ b xs, H5 b = some (.tup xs) → b ≠ o := fun b xs hb e => by rw [e, ho5] at hb; cases hb
      walk_at "wp"
      refine ⟨_, rfl, ?_, fun b u hb => ?_, (upd_ne (oq _ _ (s5 _ _ hq))).trans (s5 _ _ hq), (hA.same s5).tups fun b ys hb => (upd_ne (oq _ _ hb)).trans hb⟩
      · rw [upd_same, codeNs_step hc, ← List.append_assoc, List.map_append (l₂ := codeN c)]
      · rw [upd_ne (fun e => by rw [e, oH] at hb; cases hb)]
        exact s5 _ _ (sm _ _ hb)
    · rintro σ H4 ⟨w, rfl, ho, sm, hq, hA⟩
      rw [hxl, List.take_length, ← codeN_eq] at ho
      walk_at "wp"
      intro r nr
      exact k r _ (sm.trans (same_new nr)) upd_same
theorem cl_nc {f : Addr} {fd : FuncData} (F : Fun K "node_code" "node_code" s_node_code f fd) (T : Txt mg) (g : mg "node_code" = some (.ref f)) (C_head_of : Cl P w K mg base 4 "head_of" ["node"] spHead) (C_children_of : Cl P w K mg base 1 "children_of" ["node"] spCh) : ∀ D, Cl P w K mg base (4 + D) "node_code" ["node"] (spNc D) := by
  have b : Binds K fd ["node"] [] := F.binds (ps := ["node"]) fun _ _ _ _ _ _ us hl => match us, hl with | [_], _ => rfl
  intro D
  induction D with
  | zero => exact cl_false F g b fun vs H Q E ⟨_, _, _, _, _, h, _⟩ => absurd h (Nat.not_lt_zero _)
  | succ D ih => exact ⟨f, fd, ok_nc F T C_head_of C_children_of ih, g, F.kp, b⟩
def spLnc (D : Nat) : Sp := fun vs H Q _ => ∃ (v : V) (n : Nd), vs = [v] ∧ At H v (toD n) ∧ Wf El n ∧ lev n < D ∧ (codeN n).length ≤ 1000000 ∧ ∀ (p : Addr) (H' : Hp), Same H H' → H' p = some (.lst ((codeN n).map V.int)) → Q (.ref p) H'
abbrev s__law_node_code : Stmt := top 20
theorem c__law_node_code : FnScope ["node", "code", "child"] ["node"] (defScope s__law_node_code) := ⟨rfl, rfl, rfl, by decide +kernel, rfl, by decide +kernel, by decide +kernel⟩

theorem w_cat7 {H : Hp} {Q : VK} {a b : Addr} {xs ys : List V} (ha : H a = some (.lst xs)) (hb : H b = some (.lst ys)) (hl : xs.length + ys.length ≤ 10000000) (q : ∀ (p : Addr) (H' : Hp), H p = none → Same H H' → H' p = some (.lst (xs ++ ys)) → Q (.ref p) H') : rCat (.ref a) (.ref b) H Q :=
  ⟨a, b, xs, ys, rfl, rfl, ha, hb, szl7 hl, fun p np => q p _ np (same_new np) upd_same⟩
theorem ok_lnc {D : Nat} {f : Addr} {fd : FuncData} (F : Fun K "_law_node_code" "_law_node_code" s__law_node_code f fd) (T : Txt mg) (C__law_element_code : Cl P w K mg base 2 "_law_element_code" ["element"] spLcode) (C__law_node_code : Cl P w K mg base (2 + D) "_law_node_code" ["node"] (spLnc D)) : FnOk P w K mg base CX0 (2 + D + 1) f fd ["node"] (spLnc (D + 1)) := by
  refine F.ok c__law_node_code (fun vs H Q E h => ?_) (fun cdv A outer s H vs Q E hr h => ?_)
  · obtain ⟨v, n, rfl, _⟩ := h
    rfl
  · obtain ⟨v, n, rfl, ha, wf, hD, hl, k⟩ := h
    refine ⟨_, (pss_cons (ps_if (pt_cmpR op_eq (pe_ix ix_tup (pv 0) pe_int (fun _ _ => rfl)) pe_str (nomark _)) (pss_one (ps_ret (pe_cl C__law_element_code (hr.mono (by omega)) (by rfl) (pa_cons (pe_ix ix_tup (pv 0) pe_int (fun _ _ => rfl)) pa_nil)))) pss_nil)
      (pss_cons (ps_if (pt_cmpR op_eq (pe_ix ix_tup (pv 0) pe_int (fun _ _ => rfl)) pe_str (nomark _)) (pss_one (ps_ret (pe_op op_cat (pe_lst (pa_cons pe_int (pa_cons (pe_op op_fdivN (pe_ix ix_tup (pv 0) pe_int (fun _ _ => rfl)) pe_int) (pa_cons (pe_op op_modN (pe_callTy call_int1 (by rfl) T.n_int (by decide +kernel) (pa_cons (pe_ix ix_tup (pv 0) pe_int (fun _ _ => rfl)) pa_nil)) pe_int) pa_nil)))) (pe_cl C__law_node_code (hr.mono (by omega)) (by rfl) (pa_cons (pe_ix ix_tup (pv 0) pe_int (fun _ _ => rfl)) pa_nil))))) pss_nil)
      (pss_cons (ps_set (i := 1) c__law_node_code.nd rfl (Or.inl rfl) (pe_lst (pa_cons pe_int (pa_cons (pe_callB call_len_seq (by rfl) T.n_len (by decide +kernel) (pa_cons (pe_ix ix_tup (pv 0) pe_int (fun _ _ => rfl)) pa_nil)) pa_nil))))
      (pss_cons (ps_for PassesOwn.never rfl (pi_tup (pe_ix ix_tup (pv 0) pe_int (fun _ _ => rfl))) (pg_name (i := 2) c__law_node_code.nd rfl (Or.inl rfl)) (pss_one (ps_set (i := 1) c__law_node_code.nd rfl (Or.inl rfl) (pe_op op_cat (pv 1) (pe_cl C__law_node_code (hr.mono (by omega)) (by rfl) (pa_cons (pv 2) pa_nil))))))
      (pss_one (ps_ret (pv 1))))))), ?_⟩
    cases wf with
    | leaf e he =>
      obtain ⟨a, x, rfl, h1, h2⟩ := at_leaf ha
      walk_at "wp"
      rw [decide_eq_true rfl]
      walk_at "wp"
      exact ⟨x, e, rfl, h2, he, fun p H' s1 _ h1 => k p H' s1 h1⟩
    | run c t wc nr t2 tm =>
      obtain ⟨a, x, rfl, h1, h2⟩ := at_run ha
      have hl' : (codeN c).length + 3 ≤ 1000000 := hl
      have hD' : lev c + 1 < D + 1 := hD
      walk_at "wp"
      rw [decide_eq_false (by decide +kernel)]
      walk_at "wp"
      rw [decide_eq_true rfl]
      walk_at "wp"
      have e1 : ((t : Nat) : Int).fdiv 65536 = ((t / 65536 : Nat) : Int) := fdN t 65536
      have e2 : ((t : Nat) : Int).fmod 65536 = ((t % 65536 : Nat) : Int) := by
        rw [Int.fmod_eq_emod_of_nonneg _ (by decide)]
        rfl
      rw [e1, e2]
      refine ⟨szle (by show 3 ≤ _; decide), fun p np => ?_⟩
      have h1' := same_new (o := .lst [.int 5, .int ((t / 65536 : Nat) : Int), .int ((t % 65536 : Nat) : Int)]) np _ _ h1
      walk_at "wp"
      refine ⟨x, c, rfl, h2.same (same_new np), wc, by omega, by omega, fun q H2 s2 hq => ?_⟩
      refine w_cat7 (s2 p _ upd_same) hq ?_ fun r H3 nr s3 hr3 => ?_
      · rw [List.length_map]
        show 3 + _ ≤ _
        omega
      · exact k r H3 ((same_new np).trans (s2.trans s3)) hr3
    | block cs wc l1 l2 =>
      obtain ⟨a, b, xs, rfl, h1, hb, h2⟩ := at_block ha
      have hxl := h2.len
      rw [toDs_len] at hxl
      have hl' : (codeNs cs).length + 2 ≤ 1000000 := hl
      have hD' : levs cs + 1 < D + 1 := hD
      walk_at "wp"
      rw [decide_eq_false (by decide +kernel)]
      walk_at "wp"
      rw [decide_eq_false (by decide +kernel)]
      walk_at "wp"
      refine ⟨szle (by show 2 ≤ _; decide), fun o no => ?_⟩
      have sm0 : Same H (upd H o (.lst [.int 6, .int ((xs.length : Nat) : Int)])) := same_new no
      have h1' := sm0 _ _ h1
      walk_at "wp"
      refine ⟨_, rfl, ⟨_, .of (sm0 _ _ hb)⟩, ?_⟩
      refine for_tup (K := K) (a := b) (xs := xs) (fun i σ H4 => ∃ (w : Option V) (o : Addr), σ = [some (.ref a), some (.ref o), w] ∧ H4 o = some (.lst ((6 :: ((cs.length : Nat) : Int) :: codeNs (cs.take i)).map V.int)) ∧ Same H H4) ⟨none, o, rfl, ?_, sm0⟩ (fun _ _ _ _ ⟨_, _, _, _, sm⟩ => .of (sm _ _ hb)) ?_ ?_
      · rw [upd_same, hxl]
        rfl
      · rintro i x σ H4 hx ⟨w, o, rfl, ho, sm⟩
        have hi := (List.getElem?_eq_some_iff.mp hx).1
        have hi' : i < cs.length := by omega
        obtain ⟨c, hc⟩ : ∃ c, cs[i]? = some c := ⟨_, List.getElem?_eq_getElem hi'⟩
        have hcm := List.mem_of_getElem? hc
        obtain ⟨y, hy1, hy2⟩ := (h2.same sm).get (i := i) (d := toD c) (by rw [toDs_map, List.getElem?_map, hc]; rfl)
        have exy : y = x := Option.some.inj (hy1.symm.trans hx)
        subst exy
        have h1 := code_kid hc
        have h2 := lev_mem hcm
        have h4 := codeNs_take cs (i + 1)
        rw [codeNs_step hc, List.length_append] at h4
        walk_at "wp"
        refine ⟨y, c, rfl, hy2, wc c hcm, by omega, by omega, fun p5 H5 s5 h5 => ?_⟩
        refine w_cat7 (s5 _ _ ho) h5 ?_ fun r H6 nr s6 hr6 => ?_
        · rw [List.length_map, List.length_map]
          show (codeNs (cs.take i)).length + 1 + 1 + _ ≤ _
          omega
        · walk_at "wp"
          refine ⟨_, r, rfl, ?_, sm.trans (s5.trans s6)⟩
          rw [hr6, codeNs_step hc]
          show _ = some (HO.lst ((6 :: ((cs.length : Nat) : Int) :: codeNs (cs.take i) ++ codeN c).map V.int))
          rw [List.map_append]
      · rintro σ H4 ⟨w, o, rfl, ho, sm⟩
        rw [hxl, List.take_length] at ho
        walk_at "wp"
        exact k o H4 sm ho
theorem cl_lnc {f : Addr} {fd : FuncData} (F : Fun K "_law_node_code" "_law_node_code" s__law_node_code f fd) (T : Txt mg) (g : mg "_law_node_code" = some (.ref f)) (C__law_element_code : Cl P w K mg base 2 "_law_element_code" ["element"] spLcode) : ∀ D, Cl P w K mg base (2 + D) "_law_node_code" ["node"] (spLnc D) := by
  have b : Binds K fd ["node"] [] := F.binds (ps := ["node"]) fun _ _ _ _ _ _ us hl => match us, hl with | [_], _ => rfl
  intro D
  induction D with
  | zero => exact cl_false F g b fun vs H Q E ⟨_, _, _, _, _, h, _⟩ => absurd h (Nat.not_lt_zero _)
  | succ D ih => exact ⟨f, fd, ok_lnc F T C__law_element_code ih, g, F.kp, b⟩
mutual
theorem size_pos {B : PyData → Prop} : ∀ n : Nd, Wf B n → 1 ≤ sizeN n
  | .leaf e, _ => Nat.le_refl 1
  | .run c t, h => by
    cases h with
    | run _ _ w _ t2 _ =>
      have := size_pos c w
      show 1 ≤ t * sizeN c
      exact Nat.le_trans (show 1 ≤ t by omega) (Nat.le_mul_of_pos_right t this)
  | .block cs, h => by
    cases h with
    | block _ w l1 _ =>
      cases cs with
      | nil => exact absurd l1 (by show ¬ 1 ≤ 0; omega)
      | cons c r =>
        have := size_pos c (w c (List.mem_cons_self ..))
        show 1 ≤ sizeN c + sizeNs r
        omega
end
mutual
theorem code_len : ∀ n : Nd, Wf El n → (codeN n).length ≤ 48 * (sizeN n * (lev n + 1))
  | .leaf e, h => by
    cases h with
    | leaf _ he =>
      have := cdE_len he
      show (cdE e).length ≤ 48 * (1 * (0 + 1))
      omega
  | .run c t, h => by
    cases h with
    | run _ _ w _ t2 _ =>
      have ih := code_len c w
      have sp := size_pos c w
      show (codeN c).length + 3 ≤ 48 * (t * sizeN c * (lev c + 1 + 1))
      have e1 : sizeN c * (lev c + 1) + 1 ≤ t * sizeN c * (lev c + 1 + 1) := by
        have a1 : sizeN c * (lev c + 1) ≤ t * sizeN c * (lev c + 1) := Nat.mul_le_mul_right _ (Nat.le_mul_of_pos_left _ (by omega))
        have a2 : t * sizeN c * (lev c + 1 + 1) = t * sizeN c * (lev c + 1) + t * sizeN c := Nat.mul_succ _ _
        have a3 : 1 ≤ t * sizeN c := Nat.le_trans sp (Nat.le_mul_of_pos_left _ (by omega))
        omega
      omega
  | .block cs, h => by
    cases h with
    | block _ w l1 _ =>
      have ih := code_lens cs w (levs cs) (fun c hc => lev_mem hc)
      have sp := size_pos (.block cs) (.block cs w l1 (by assumption))
      have sp' : 1 ≤ sizeNs cs := sp
      show (codeNs cs).length + 2 ≤ 48 * (sizeNs cs * (levs cs + 1 + 1))
      have a2 : sizeNs cs * (levs cs + 1 + 1) = sizeNs cs * (levs cs + 1) + sizeNs cs := Nat.mul_succ _ _
      omega
theorem code_lens : ∀ (cs : List Nd), (∀ c ∈ cs, Wf El c) → ∀ m, (∀ c ∈ cs, lev c ≤ m) → (codeNs cs).length ≤ 48 * (sizeNs cs * (m + 1))
  | [], _, m, _ => Nat.zero_le _
  | c :: r, w, m, hm => by
    have ih := code_len c (w c (List.mem_cons_self ..))
    have ir := code_lens r (fun d hd => w d (List.mem_cons_of_mem _ hd)) m fun d hd => hm d (List.mem_cons_of_mem _ hd)
    have hc := hm c (List.mem_cons_self ..)
    have a1 : sizeN c * (lev c + 1) ≤ sizeN c * (m + 1) := Nat.mul_le_mul_left _ (by omega)
    show (codeN c ++ codeNs r).length ≤ 48 * ((sizeN c + sizeNs r) * (m + 1))
    rw [List.length_append, Nat.add_mul]
    omega
end
def spLaw (K : PySem.W.Frag) : Sp := fun vs H Q _ => ∃ (a : Addr) (ns : List Int), vs = [.ref a] ∧ SqL K H a (ns.map V.int) ∧ ns.length ≤ 63 ∧ ∀ H', Q (.bl true) H'
abbrev s_law : Stmt := top 21
theorem c_law : FnScope ["script", "tape", "choice", "node", "k"] ["script"] (defScope s_law) := ⟨rfl, rfl, rfl, by decide +kernel, rfl, by decide +kernel, by decide +kernel⟩

theorem ok_law {f : Addr} {fd : FuncData} (F : Fun K "law" "law" s_law f fd) (T : Txt mg) (C__law_tape : Cl P w K mg base 1 "_law_tape" ["script"] (spTape K)) (C__law_draw : Cl P w K mg base 1 "_law_draw" ["tape", "many"] spDraw)
    (C__law_node : Cl P w K mg base 14 "_law_node" ["tape", "depth", "room"] (spNode 4)) (C_node_code : Cl P w K mg base 24 "node_code" ["node"] (spNc 20)) (C__law_node_code : Cl P w K mg base 22 "_law_node_code" ["node"] (spLnc 20)) (C__law_alike : Cl P w K mg base 3 "_law_alike" ["told", "due"] (spA 3)) : FnOk P w K mg base CX0 25 f fd ["script"] (spLaw K) := by
  refine F.ok c_law (fun vs H Q E h => ?_) (fun cdv A outer s H vs Q E hr h => ?_)
  · obtain ⟨a, ns, rfl, _⟩ := h
    rfl
  · obtain ⟨a, ns, rfl, hS, _, k⟩ := h
    refine ⟨_, (pss_cons (ps_set (i := 1) c_law.nd rfl (Or.inl rfl) (pe_cl C__law_tape (hr.mono (by omega)) (by rfl) (pa_cons (pv 0) pa_nil)))
      (pss_cons (ps_set (i := 2) c_law.nd rfl (Or.inl rfl) (pe_cl C__law_draw (hr.mono (by omega)) (by rfl) (pa_cons (pv 1) (pa_cons pe_int pa_nil))))
      (pss_cons (ps_set (i := 3) c_law.nd rfl (Or.inl rfl) (pe_cl C__law_node (hr.mono (by omega)) (by rfl) (pa_cons (pv 1) (pa_cons (pv 2) (pa_cons (pe_ix ix_list (pe_lst (pa_cons pe_int (pa_cons pe_int (pa_cons pe_int (pa_cons pe_int pa_nil))))) (pv 2) (fun _ _ => rfl)) pa_nil)))))
      (pss_cons (ps_for PassesOwn.never rfl (pi_range1 (by rfl) T.n_range (pa_cons (pe_ix ix_list (pe_lst (pa_cons pe_int (pa_cons pe_int (pa_cons pe_int (pa_cons pe_int pa_nil))))) (pe_cl C__law_draw (hr.mono (by omega)) (by rfl) (pa_cons (pv 1) (pa_cons pe_int pa_nil))) (fun _ _ => rfl)) pa_nil)) (pg_name (i := 4) c_law.nd rfl (Or.inl rfl)) (pss_one (ps_if (pt_cmpR op_gt (pv 2) pe_int (nomark _)) (pss_one (ps_set (i := 3) c_law.nd rfl (Or.inl rfl) (pe_tup (pa_cons pe_str (pa_cons (pe_tup (pa_cons (pv 3) (pa_cons (pe_tup (pa_cons pe_str (pa_cons (pv 4) pa_nil))) pa_nil))) pa_nil))))) pss_nil)))
      (pss_one (ps_ret (pe_cl C__law_alike (hr.mono (by omega)) (by rfl) (pa_cons (pe_cl C_node_code (hr.mono (by omega)) (by rfl) (pa_cons (pv 3) pa_nil)) (pa_cons (pe_callTy call_tuple_of (by rfl) T.n_tuple (by decide +kernel) (pa_cons (pe_cl C__law_node_code (hr.mono (by omega)) (by rfl) (pa_cons (pv 3) pa_nil)) pa_nil)) pa_nil))))))))), ?_⟩
    walk_at "wp"
    refine ⟨a, ns, rfl, hS, fun t l H0 s0 T0 => ?_⟩
    walk_at "wp"
    refine ⟨t, l, _, rfl, T0, by decide, fun ch H1 l1 u1 G1 => ?_⟩
    replace u1 : ch < 4 := u1
    obtain ⟨c4, rfl⟩ := Int.eq_ofNat_of_zero_le l1
    walk_at "wp"
    refine ⟨szle (by show 4 ≤ _; decide), fun m nm => ?_⟩
    have G1' := G1.new (x := .lst [.int 2000, .int 1900, .int 300, .int 300]) nm
    walk_at "wp"
    refine w_ixAny (fun v => ∃ n : Nat, v = .int (n : Int) ∧ 1 ≤ n ∧ n ≤ 2000) (.of upd_same) l1 (Int.lt_of_lt_of_le u1 (by decide)) ?_ ?_
    · intro v hv
      simp only [List.mem_cons, List.not_mem_nil, or_false] at hv
      rcases hv with rfl | rfl | rfl | rfl
      · exact ⟨2000, rfl, by decide, by decide⟩
      · exact ⟨1900, rfl, by decide, by decide⟩
      · exact ⟨300, rfl, by decide, by decide⟩
      · exact ⟨300, rfl, by decide, by decide⟩
    rintro v ⟨rm, rfl, m1, m2⟩
    walk_at "wp"
    refine ⟨t, l, c4, rm, rfl, by omega, m1, m2, G1'.T, fun v n H2 wf lv sz ha G2 => ?_⟩
    walk_at "wp"
    refine ⟨szle (by show 4 ≤ _; decide), fun m3 nm3 => ?_⟩
    have G3 := G2.new (x := .lst [.int 0, .int 0, .int 1, .int 9]) nm3
    obtain ⟨_, mt3⟩ := G2.free nm3
    have ha3 := ha.same (same_new (o := .lst [.int 0, .int 0, .int 1, .int 9]) nm3)
    walk_at "wp"
    refine ⟨t, l, _, rfl, G3.T, by decide, fun r4 H4 l4 u4 G4 => ?_⟩
    have hm4 := G4.at upd_same mt3.1
    have ha4 := ha3.go G3.T G4
    refine w_ixAny (fun v => ∃ n : Nat, v = .int (n : Int) ∧ n ≤ 9) (.of hm4) l4 (Int.lt_of_lt_of_le u4 (by decide)) ?_ ?_
    · intro v hv
      simp only [List.mem_cons, List.not_mem_nil, or_false] at hv
      rcases hv with rfl | rfl | rfl | rfl
      · exact ⟨0, rfl, by decide⟩
      · exact ⟨0, rfl, by decide⟩
      · exact ⟨1, rfl, by decide⟩
      · exact ⟨9, rfl, by decide⟩
    rintro v5 ⟨tm, rfl, tm9⟩
    walk_at "wp"
    refine ⟨by omega, by omega, ?_⟩
    have eT : ((tm : Nat) : Int).toNat = tm := Int.toNat_natCast tm
    rw [eT]
    have wf0 : Wf El n := wf.mono fun e he => he.mono (by decide)
    have cl0 : (codeN n).length ≤ 800000 := by
      have h1 := code_len n wf0
      have h2 : sizeN n * (lev n + 1) ≤ 2000 * 8 := Nat.mul_le_mul (by omega) (by omega)
      omega
    refine for_range (lo := 0) (n := tm) (fun i σ H5 => ∃ (w : Option V) (v : V) (n : Nd), σ = [some (.ref a), some (.ref t), some (.int (c4 : Int)), some v, w] ∧ At H5 v (toD n) ∧ Wf El n ∧ lev n ≤ 7 + i ∧ (codeN n).length ≤ 800000 + 10 * i) ⟨none, v, n, rfl, ha4, wf0, by omega, by omega⟩ ?_ ?_
    · rintro i σ H5 hi ⟨w, v, n, rfl, ha, wf, lv, cl⟩
      walk_at "wp"
      refine w_ite (fun e => ?_) (fun e => ?_)
      · walk_at "wp"
        refine ⟨szle (by show 2 ≤ _; decide), fun p np => ?_⟩
        walk_at "wp"
        refine ⟨szle (by show 2 ≤ _; decide), fun q nq => ?_⟩
        have pq : p ≠ q := fun e => by rw [← e, upd_same] at nq; cases nq
        walk_at "wp"
        refine ⟨szle (by show 2 ≤ _; decide), fun r nr => ?_⟩
        have rq : q ≠ r := fun e => by rw [← e, upd_same] at nr; cases nr
        have sm := ((same_new (o := .tup [.str (Str.ofString "leaf"), .int (0 + (i : Int))]) np).trans (same_new (o := .tup [v, .ref p]) nq)).trans (same_new (o := .tup [.str (Str.ofString "block"), .ref q]) nr)
        walk_at "wp"
        have he : El (.int (0 + (i : Int))) := .inl ⟨by omega, by omega⟩
        refine ⟨_, _, .block [n, .leaf (.int (0 + (i : Int)))], rfl, mk_block upd_same ((upd_ne rq).trans upd_same) ?_, .block _ ?_ (by show 1 ≤ 2; decide) (by show 2 ≤ 12; decide), ?_, ?_⟩
        · exact .cons (ha.same sm) (.cons ((mk_leaf (upd_same (H := H5)) (.int _)).same ((same_new nq).trans (same_new nr))) .nil)
        · exact List.forall_mem_cons.mpr ⟨wf, List.forall_mem_cons.mpr ⟨.leaf _ he, fun _ h => absurd h List.not_mem_nil⟩⟩
        · show max (lev n) (max 0 0) + 1 ≤ _
          omega
        · have := cdE_len he
          show (codeN n ++ (cdE (.int (0 + (i : Int))) ++ [])).length + 2 ≤ _
          rw [List.append_nil, List.length_append]
          have h5 : (cdE (.int (0 + (i : Int)))).length = 5 := by
            show (if (0 + (i : Int)) < 0 then 2 :: dg (-(0 + (i : Int))) else 1 :: dg (0 + (i : Int))).length = 5
            split <;> rfl
          omega
      · walk_at "wp"
        exact ⟨_, v, n, rfl, ha, wf, by omega, by omega⟩
    · rintro σ H5 ⟨w, v, n, rfl, ha, wf, lv, cl⟩
      walk_at "wp"
      refine ⟨v, n, rfl, ha, wf, by omega, by omega, fun p H6 s6 h6 => ?_⟩
      walk_at "wp"
      refine ⟨v, n, rfl, ha.same s6, wf, by omega, by omega, fun q H7 s7 h7 => ?_⟩
      walk_at "wp"
      intro r nr
      exact ⟨_, _, _, rfl, at_ints ((same_new nr) _ _ (s7 _ _ h6)), at_ints upd_same, dep_ints (by omega), k _⟩
end
theorem all_mk {l : PySem.W.OpenLaw} {w : World} {K : PySem.W.Frag} {h : Heap} {mg : Str → Option Value} {fa : Addr} (X : K.In h) (G : h.Ns mainGlobals mg) (hfa : mg "law" = some (.ref fa))
    {f0 : Addr} {od0 an0 : Option Addr} {sl0 : Array (Option Value)} {oc0 kV0 dc0 pm0 cd0 ct0 : Value}
    (a0 : PySem.W.nsIn K mainGlobals "_law_draw" = some (some (.ref f0))) (l0 : K.lookup f0 = some ⟨oc0, od0, .func (PySem.W.fnOf "_law_draw" "_law_draw" (defArgs s__law_draw) (defBody s__law_draw) (defScope s__law_draw) .none kV0 dc0 pm0 an0 cd0 ct0), sl0⟩) (c0 : PySem.W.codeIn K cd0 "_law_draw" = true) (k0 : PySem.W.keepIn K (.ref f0) = true)
    {f1 : Addr} {od1 an1 : Option Addr} {sl1 : Array (Option Value)} {oc1 kV1 dc1 pm1 cd1 ct1 : Value}
    (a1 : PySem.W.nsIn K mainGlobals "_law_tape" = some (some (.ref f1))) (l1 : K.lookup f1 = some ⟨oc1, od1, .func (PySem.W.fnOf "_law_tape" "_law_tape" (defArgs s__law_tape) (defBody s__law_tape) (defScope s__law_tape) .none kV1 dc1 pm1 an1 cd1 ct1), sl1⟩) (c1 : PySem.W.codeIn K cd1 "_law_tape" = true) (k1 : PySem.W.keepIn K (.ref f1) = true)
    {f2 : Addr} {od2 an2 : Option Addr} {sl2 : Array (Option Value)} {oc2 kV2 dc2 pm2 cd2 ct2 : Value}
    (a2 : PySem.W.nsIn K mainGlobals "_law_alike" = some (some (.ref f2))) (l2 : K.lookup f2 = some ⟨oc2, od2, .func (PySem.W.fnOf "_law_alike" "_law_alike" (defArgs s__law_alike) (defBody s__law_alike) (defScope s__law_alike) .none kV2 dc2 pm2 an2 cd2 ct2), sl2⟩) (c2 : PySem.W.codeIn K cd2 "_law_alike" = true) (k2 : PySem.W.keepIn K (.ref f2) = true)
    {f3 : Addr} {od3 an3 : Option Addr} {sl3 : Array (Option Value)} {oc3 kV3 dc3 pm3 cd3 ct3 : Value}
    (a3 : PySem.W.nsIn K mainGlobals "_law_sign" = some (some (.ref f3))) (l3 : K.lookup f3 = some ⟨oc3, od3, .func (PySem.W.fnOf "_law_sign" "_law_sign" (defArgs s__law_sign) (defBody s__law_sign) (defScope s__law_sign) .none kV3 dc3 pm3 an3 cd3 ct3), sl3⟩) (c3 : PySem.W.codeIn K cd3 "_law_sign" = true) (k3 : PySem.W.keepIn K (.ref f3) = true)
    {f4 : Addr} {od4 an4 : Option Addr} {sl4 : Array (Option Value)} {oc4 kV4 dc4 pm4 cd4 ct4 : Value}
    (a4 : PySem.W.nsIn K mainGlobals "_law_word" = some (some (.ref f4))) (l4 : K.lookup f4 = some ⟨oc4, od4, .func (PySem.W.fnOf "_law_word" "_law_word" (defArgs s__law_word) (defBody s__law_word) (defScope s__law_word) .none kV4 dc4 pm4 an4 cd4 ct4), sl4⟩) (c4 : PySem.W.codeIn K cd4 "_law_word" = true) (k4 : PySem.W.keepIn K (.ref f4) = true)
    {f5 : Addr} {od5 an5 : Option Addr} {sl5 : Array (Option Value)} {oc5 kV5 dc5 pm5 cd5 ct5 : Value}
    (a5 : PySem.W.nsIn K mainGlobals "_law_scalar" = some (some (.ref f5))) (l5 : K.lookup f5 = some ⟨oc5, od5, .func (PySem.W.fnOf "_law_scalar" "_law_scalar" (defArgs s__law_scalar) (defBody s__law_scalar) (defScope s__law_scalar) .none kV5 dc5 pm5 an5 cd5 ct5), sl5⟩) (c5 : PySem.W.codeIn K cd5 "_law_scalar" = true) (k5 : PySem.W.keepIn K (.ref f5) = true)
    {f6 : Addr} {od6 an6 : Option Addr} {sl6 : Array (Option Value)} {oc6 kV6 dc6 pm6 cd6 ct6 : Value}
    (a6 : PySem.W.nsIn K mainGlobals "_law_element" = some (some (.ref f6))) (l6 : K.lookup f6 = some ⟨oc6, od6, .func (PySem.W.fnOf "_law_element" "_law_element" (defArgs s__law_element) (defBody s__law_element) (defScope s__law_element) .none kV6 dc6 pm6 an6 cd6 ct6), sl6⟩) (c6 : PySem.W.codeIn K cd6 "_law_element" = true) (k6 : PySem.W.keepIn K (.ref f6) = true)
    {f7 : Addr} {od7 an7 : Option Addr} {sl7 : Array (Option Value)} {oc7 kV7 dc7 pm7 cd7 ct7 : Value}
    (a7 : PySem.W.nsIn K mainGlobals "digits_of" = some (some (.ref f7))) (l7 : K.lookup f7 = some ⟨oc7, od7, .func (PySem.W.fnOf "digits_of" "digits_of" (defArgs s_digits_of) (defBody s_digits_of) (defScope s_digits_of) .none kV7 dc7 pm7 an7 cd7 ct7), sl7⟩) (c7 : PySem.W.codeIn K cd7 "digits_of" = true) (k7 : PySem.W.keepIn K (.ref f7) = true)
    {f8 : Addr} {od8 an8 : Option Addr} {sl8 : Array (Option Value)} {oc8 kV8 dc8 pm8 cd8 ct8 : Value}
    (a8 : PySem.W.nsIn K mainGlobals "scalar_code" = some (some (.ref f8))) (l8 : K.lookup f8 = some ⟨oc8, od8, .func (PySem.W.fnOf "scalar_code" "scalar_code" (defArgs s_scalar_code) (defBody s_scalar_code) (defScope s_scalar_code) .none kV8 dc8 pm8 an8 cd8 ct8), sl8⟩) (c8 : PySem.W.codeIn K cd8 "scalar_code" = true) (k8 : PySem.W.keepIn K (.ref f8) = true)
    {f9 : Addr} {od9 an9 : Option Addr} {sl9 : Array (Option Value)} {oc9 kV9 dc9 pm9 cd9 ct9 : Value}
    (a9 : PySem.W.nsIn K mainGlobals "code_of" = some (some (.ref f9))) (l9 : K.lookup f9 = some ⟨oc9, od9, .func (PySem.W.fnOf "code_of" "code_of" (defArgs s_code_of) (defBody s_code_of) (defScope s_code_of) .none kV9 dc9 pm9 an9 cd9 ct9), sl9⟩) (c9 : PySem.W.codeIn K cd9 "code_of" = true) (k9 : PySem.W.keepIn K (.ref f9) = true)
    {f10 : Addr} {od10 an10 : Option Addr} {sl10 : Array (Option Value)} {oc10 kV10 dc10 pm10 cd10 ct10 : Value}
    (a10 : PySem.W.nsIn K mainGlobals "_law_scalar_code" = some (some (.ref f10))) (l10 : K.lookup f10 = some ⟨oc10, od10, .func (PySem.W.fnOf "_law_scalar_code" "_law_scalar_code" (defArgs s__law_scalar_code) (defBody s__law_scalar_code) (defScope s__law_scalar_code) .none kV10 dc10 pm10 an10 cd10 ct10), sl10⟩) (c10 : PySem.W.codeIn K cd10 "_law_scalar_code" = true) (k10 : PySem.W.keepIn K (.ref f10) = true)
    {f11 : Addr} {od11 an11 : Option Addr} {sl11 : Array (Option Value)} {oc11 kV11 dc11 pm11 cd11 ct11 : Value}
    (a11 : PySem.W.nsIn K mainGlobals "_law_element_code" = some (some (.ref f11))) (l11 : K.lookup f11 = some ⟨oc11, od11, .func (PySem.W.fnOf "_law_element_code" "_law_element_code" (defArgs s__law_element_code) (defBody s__law_element_code) (defScope s__law_element_code) .none kV11 dc11 pm11 an11 cd11 ct11), sl11⟩) (c11 : PySem.W.codeIn K cd11 "_law_element_code" = true) (k11 : PySem.W.keepIn K (.ref f11) = true)
    {f12 : Addr} {od12 an12 : Option Addr} {sl12 : Array (Option Value)} {oc12 kV12 dc12 pm12 cd12 ct12 : Value}
    (a12 : PySem.W.nsIn K mainGlobals "_law_base" = some (some (.ref f12))) (l12 : K.lookup f12 = some ⟨oc12, od12, .func (PySem.W.fnOf "_law_base" "_law_base" (defArgs s__law_base) (defBody s__law_base) (defScope s__law_base) .none kV12 dc12 pm12 an12 cd12 ct12), sl12⟩) (c12 : PySem.W.codeIn K cd12 "_law_base" = true) (k12 : PySem.W.keepIn K (.ref f12) = true)
    {f13 : Addr} {od13 an13 : Option Addr} {sl13 : Array (Option Value)} {oc13 kV13 dc13 pm13 cd13 ct13 : Value}
    (a13 : PySem.W.nsIn K mainGlobals "_law_node" = some (some (.ref f13))) (l13 : K.lookup f13 = some ⟨oc13, od13, .func (PySem.W.fnOf "_law_node" "_law_node" (defArgs s__law_node) (defBody s__law_node) (defScope s__law_node) .none kV13 dc13 pm13 an13 cd13 ct13), sl13⟩) (c13 : PySem.W.codeIn K cd13 "_law_node" = true) (k13 : PySem.W.keepIn K (.ref f13) = true)
    {f14 : Addr} {od14 an14 : Option Addr} {sl14 : Array (Option Value)} {oc14 kV14 dc14 pm14 cd14 ct14 : Value}
    (a14 : PySem.W.nsIn K mainGlobals "children_of" = some (some (.ref f14))) (l14 : K.lookup f14 = some ⟨oc14, od14, .func (PySem.W.fnOf "children_of" "children_of" (defArgs s_children_of) (defBody s_children_of) (defScope s_children_of) .none kV14 dc14 pm14 an14 cd14 ct14), sl14⟩) (c14 : PySem.W.codeIn K cd14 "children_of" = true) (k14 : PySem.W.keepIn K (.ref f14) = true)
    {f15 : Addr} {od15 an15 : Option Addr} {sl15 : Array (Option Value)} {oc15 kV15 dc15 pm15 cd15 ct15 : Value}
    (a15 : PySem.W.nsIn K mainGlobals "head_of" = some (some (.ref f15))) (l15 : K.lookup f15 = some ⟨oc15, od15, .func (PySem.W.fnOf "head_of" "head_of" (defArgs s_head_of) (defBody s_head_of) (defScope s_head_of) .none kV15 dc15 pm15 an15 cd15 ct15), sl15⟩) (c15 : PySem.W.codeIn K cd15 "head_of" = true) (k15 : PySem.W.keepIn K (.ref f15) = true)
    {f16 : Addr} {od16 an16 : Option Addr} {sl16 : Array (Option Value)} {oc16 kV16 dc16 pm16 cd16 ct16 : Value}
    (a16 : PySem.W.nsIn K mainGlobals "node_code" = some (some (.ref f16))) (l16 : K.lookup f16 = some ⟨oc16, od16, .func (PySem.W.fnOf "node_code" "node_code" (defArgs s_node_code) (defBody s_node_code) (defScope s_node_code) .none kV16 dc16 pm16 an16 cd16 ct16), sl16⟩) (c16 : PySem.W.codeIn K cd16 "node_code" = true) (k16 : PySem.W.keepIn K (.ref f16) = true)
    {f17 : Addr} {od17 an17 : Option Addr} {sl17 : Array (Option Value)} {oc17 kV17 dc17 pm17 cd17 ct17 : Value}
    (a17 : PySem.W.nsIn K mainGlobals "_law_node_code" = some (some (.ref f17))) (l17 : K.lookup f17 = some ⟨oc17, od17, .func (PySem.W.fnOf "_law_node_code" "_law_node_code" (defArgs s__law_node_code) (defBody s__law_node_code) (defScope s__law_node_code) .none kV17 dc17 pm17 an17 cd17 ct17), sl17⟩) (c17 : PySem.W.codeIn K cd17 "_law_node_code" = true) (k17 : PySem.W.keepIn K (.ref f17) = true)
    {f18 : Addr} {od18 an18 : Option Addr} {sl18 : Array (Option Value)} {oc18 kV18 dc18 pm18 cd18 ct18 : Value}
    (a18 : PySem.W.nsIn K mainGlobals "law" = some (some (.ref f18))) (l18 : K.lookup f18 = some ⟨oc18, od18, .func (PySem.W.fnOf "law" "law" (defArgs s_law) (defBody s_law) (defScope s_law) .none kV18 dc18 pm18 an18 cd18 ct18), sl18⟩) (c18 : PySem.W.codeIn K cd18 "law" = true) (k18 : PySem.W.keepIn K (.ref f18) = true)
    (z_isinstance : PySem.W.nsIn K mainGlobals "isinstance" = some none)
    (z_str : PySem.W.nsIn K mainGlobals "str" = some none)
    (z_tuple : PySem.W.nsIn K mainGlobals "tuple" = some none)
    (z_len : PySem.W.nsIn K mainGlobals "len" = some none)
    (z_ord : PySem.W.nsIn K mainGlobals "ord" = some none)
    (z_list : PySem.W.nsIn K mainGlobals "list" = some none)
    (z_int : PySem.W.nsIn K mainGlobals "int" = some none)
    (z_abs : PySem.W.nsIn K mainGlobals "abs" = some none)
    (z_max : PySem.W.nsIn K mainGlobals "max" = some none)
    (z_range : PySem.W.nsIn K mainGlobals "range" = some none)
    (z_bool : PySem.W.nsIn K mainGlobals "bool" = some none)
    (z_min : PySem.W.nsIn K mainGlobals "min" = some none)
    : ∃ fd : FuncData, (∀ (s : Shared) (v : Value), BindsTo s fd ⟨[v], []⟩ [("script", v)]) ∧ ∀ base : Heap, K.In base → base.Ns mainGlobals mg → FnOk l.prog w K mg base CX0 25 fa fd ["script"] (spLaw K) := by
  have e := hfa.symm.trans (PySem.W.mg_of X G a18)
  cases e
  have T : Txt mg := ⟨PySem.W.mg_none_of X G z_isinstance, PySem.W.mg_none_of X G z_str, PySem.W.mg_none_of X G z_tuple, PySem.W.mg_none_of X G z_len, PySem.W.mg_none_of X G z_ord, PySem.W.mg_none_of X G z_list, PySem.W.mg_none_of X G z_int, PySem.W.mg_none_of X G z_abs, PySem.W.mg_none_of X G z_max, PySem.W.mg_none_of X G z_range, PySem.W.mg_none_of X G z_bool, PySem.W.mg_none_of X G z_min⟩
  have F0 := fun_mk (st := s__law_draw) l0 c0 k0
  have F1 := fun_mk (st := s__law_tape) l1 c1 k1
  have F2 := fun_mk (st := s__law_alike) l2 c2 k2
  have F3 := fun_mk (st := s__law_sign) l3 c3 k3
  have F4 := fun_mk (st := s__law_word) l4 c4 k4
  have F5 := fun_mk (st := s__law_scalar) l5 c5 k5
  have F6 := fun_mk (st := s__law_element) l6 c6 k6
  have F7 := fun_mk (st := s_digits_of) l7 c7 k7
  have F8 := fun_mk (st := s_scalar_code) l8 c8 k8
  have F9 := fun_mk (st := s_code_of) l9 c9 k9
  have F10 := fun_mk (st := s__law_scalar_code) l10 c10 k10
  have F11 := fun_mk (st := s__law_element_code) l11 c11 k11
  have F12 := fun_mk (st := s__law_base) l12 c12 k12
  have F13 := fun_mk (st := s__law_node) l13 c13 k13
  have F14 := fun_mk (st := s_children_of) l14 c14 k14
  have F15 := fun_mk (st := s_head_of) l15 c15 k15
  have F16 := fun_mk (st := s_node_code) l16 c16 k16
  have F17 := fun_mk (st := s__law_node_code) l17 c17 k17
  have F18 := fun_mk (st := s_law) l18 c18 k18
  refine ⟨PySem.W.fnOf "law" "law" (defArgs s_law) (defBody s_law) (defScope s_law) .none kV18 dc18 pm18 an18 cd18 ct18, fun s v => .of_eq rfl, fun base _ _ => ?_⟩
  have C__law_draw : Cl l.prog w K mg base 1 "_law_draw" ["tape", "many"] (spDraw) := ⟨f0, _, ok_draw F0 T, PySem.W.mg_of X G a0, k0, F0.binds (ps := ["tape", "many"]) fun _ _ _ _ _ _ us hl => match us, hl with | [_, _], _ => rfl⟩
  have C__law_tape : Cl l.prog w K mg base 1 "_law_tape" ["script"] (spTape K) := ⟨f1, _, ok_tape F1 T, PySem.W.mg_of X G a1, k1, F1.binds (ps := ["script"]) fun _ _ _ _ _ _ us hl => match us, hl with | [_], _ => rfl⟩
  have C__law_alike : Cl l.prog w K mg base 3 "_law_alike" ["told", "due"] (spA 3) := ⟨f2, _, ok_alike F2 T (PySem.W.mg_of X G a2) 3, PySem.W.mg_of X G a2, k2, F2.binds (ps := ["told", "due"]) fun _ _ _ _ _ _ us hl => match us, hl with | [_, _], _ => rfl⟩
  have C__law_sign : Cl l.prog w K mg base 2 "_law_sign" ["tape"] (spSign) := ⟨f3, _, ok_sign F3 T C__law_draw, PySem.W.mg_of X G a3, k3, F3.binds (ps := ["tape"]) fun _ _ _ _ _ _ us hl => match us, hl with | [_], _ => rfl⟩
  have C__law_word : Cl l.prog w K mg base 3 "_law_word" ["tape"] (spWord) := ⟨f4, _, ok_word F4 T C__law_draw C__law_sign, PySem.W.mg_of X G a4, k4, F4.binds (ps := ["tape"]) fun _ _ _ _ _ _ us hl => match us, hl with | [_], _ => rfl⟩
  have C__law_scalar : Cl l.prog w K mg base 4 "_law_scalar" ["tape"] (spScalar) := ⟨f5, _, ok_scalar F5 T C__law_draw C__law_word, PySem.W.mg_of X G a5, k5, F5.binds (ps := ["tape"]) fun _ _ _ _ _ _ us hl => match us, hl with | [_], _ => rfl⟩
  have C__law_element : Cl l.prog w K mg base 5 "_law_element" ["tape"] (spElement) := ⟨f6, _, ok_element F6 T C__law_draw C__law_scalar, PySem.W.mg_of X G a6, k6, F6.binds (ps := ["tape"]) fun _ _ _ _ _ _ us hl => match us, hl with | [_], _ => rfl⟩
  have C_digits_of : Cl l.prog w K mg base 1 "digits_of" ["number"] (spDigits) := ⟨f7, _, ok_digits F7 T, PySem.W.mg_of X G a7, k7, F7.binds (ps := ["number"]) fun _ _ _ _ _ _ us hl => match us, hl with | [_], _ => rfl⟩
  have C_scalar_code : Cl l.prog w K mg base 2 "scalar_code" ["scalar"] (spScode) := ⟨f8, _, ok_scode F8 T C_digits_of, PySem.W.mg_of X G a8, k8, F8.binds (ps := ["scalar"]) fun _ _ _ _ _ _ us hl => match us, hl with | [_], _ => rfl⟩
  have C_code_of : Cl l.prog w K mg base 3 "code_of" ["element"] (spCode) := ⟨f9, _, ok_code F9 T C_scalar_code, PySem.W.mg_of X G a9, k9, F9.binds (ps := ["element"]) fun _ _ _ _ _ _ us hl => match us, hl with | [_], _ => rfl⟩
  have C__law_scalar_code : Cl l.prog w K mg base 1 "_law_scalar_code" ["value"] (spLscode) := ⟨f10, _, ok_lscode F10 T, PySem.W.mg_of X G a10, k10, F10.binds (ps := ["value"]) fun _ _ _ _ _ _ us hl => match us, hl with | [_], _ => rfl⟩
  have C__law_element_code : Cl l.prog w K mg base 2 "_law_element_code" ["element"] (spLcode) := ⟨f11, _, ok_lcode F11 T C__law_scalar_code, PySem.W.mg_of X G a11, k11, F11.binds (ps := ["element"]) fun _ _ _ _ _ _ us hl => match us, hl with | [_], _ => rfl⟩
  have C_nodes := fun D => cl_nodes (P := l.prog) (w := w) (base := base) F12 F13 (PySem.W.mg_of X G a12) (PySem.W.mg_of X G a13) T C__law_draw C__law_element D
  have C_children_of : Cl l.prog w K mg base 1 "children_of" ["node"] (spCh) := ⟨f14, _, ok_ch F14 T, PySem.W.mg_of X G a14, k14, F14.binds (ps := ["node"]) fun _ _ _ _ _ _ us hl => match us, hl with | [_], _ => rfl⟩
  have C_head_of : Cl l.prog w K mg base 4 "head_of" ["node"] (spHead) := ⟨f15, _, ok_head F15 T C_code_of, PySem.W.mg_of X G a15, k15, F15.binds (ps := ["node"]) fun _ _ _ _ _ _ us hl => match us, hl with | [_], _ => rfl⟩
  have C_nc := cl_nc (P := l.prog) (w := w) (base := base) F16 T (PySem.W.mg_of X G a16) C_head_of C_children_of
  have C_lnc := cl_lnc (P := l.prog) (w := w) (base := base) F17 T (PySem.W.mg_of X G a17) C__law_element_code
  exact ok_law F18 T C__law_tape C__law_draw (C_nodes 4).2 (C_nc 20) (C_lnc 20) C__law_alike
end Ss
open PySem PySem.W PyProof.Rows
set_option maxHeartbeats 0 in
theorem PySem.Challenge.cw_sameshape_k03_code_of_a_node_holds : PySem.Challenge.rw_sameshape_k03_code_of_a_node.Holds := by
  w_on; o_law; k_head; (case hw => w_witness2)
  k_fill
  refine L2.walk_of (l := PySem.Challenge.rw_sameshape_k03_code_of_a_node) (n := 63) (k := 25) (x := "script") (CX := fun _ => L2.CX0) (sp := fun w => Ss.spLaw _) rfl (by decide) rfl ⟨rfl, by decide, by decide⟩ (fun w h Y => PySem.W.kIn_of Y) ?F (fun _ _ a ns hl _ hS => ⟨a, ns, rfl, hS, hl, fun _ => rfl⟩) (fun _ _ _ _ _ h => h)
  case F =>
    intro w mg fa h KX G hmg
    refine' Ss.all_mk KX G hmg ?a0 ?l0 ?c0 ?k0 ?a1 ?l1 ?c1 ?k1 ?a2 ?l2 ?c2 ?k2 ?a3 ?l3 ?c3 ?k3 ?a4 ?l4 ?c4 ?k4 ?a5 ?l5 ?c5 ?k5 ?a6 ?l6 ?c6 ?k6 ?a7 ?l7 ?c7 ?k7 ?a8 ?l8 ?c8 ?k8 ?a9 ?l9 ?c9 ?k9 ?a10 ?l10 ?c10 ?k10 ?a11 ?l11 ?c11 ?k11 ?a12 ?l12 ?c12 ?k12 ?a13 ?l13 ?c13 ?k13 ?a14 ?l14 ?c14 ?k14 ?a15 ?l15 ?c15 ?k15 ?a16 ?l16 ?c16 ?k16 ?a17 ?l17 ?c17 ?k17 ?a18 ?l18 ?c18 ?k18 ?z_isinstance ?z_str ?z_tuple ?z_len ?z_ord ?z_list ?z_int ?z_abs ?z_max ?z_range ?z_bool ?z_min
    (case a0 => k_is); (case l0 => k_is); (case c0 => k_is); (case k0 => k_is); (case a1 => k_is); (case l1 => k_is); (case c1 => k_is); (case k1 => k_is); (case a2 => k_is); (case l2 => k_is); (case c2 => k_is); (case k2 => k_is); (case a3 => k_is); (case l3 => k_is); (case c3 => k_is); (case k3 => k_is); (case a4 => k_is); (case l4 => k_is); (case c4 => k_is); (case k4 => k_is); (case a5 => k_is); (case l5 => k_is); (case c5 => k_is); (case k5 => k_is); (case a6 => k_is); (case l6 => k_is); (case c6 => k_is); (case k6 => k_is); (case a7 => k_is); (case l7 => k_is); (case c7 => k_is); (case k7 => k_is); (case a8 => k_is); (case l8 => k_is); (case c8 => k_is); (case k8 => k_is); (case a9 => k_is); (case l9 => k_is); (case c9 => k_is); (case k9 => k_is); (case a10 => k_is); (case l10 => k_is); (case c10 => k_is); (case k10 => k_is); (case a11 => k_is); (case l11 => k_is); (case c11 => k_is); (case k11 => k_is); (case a12 => k_is); (case l12 => k_is); (case c12 => k_is); (case k12 => k_is); (case a13 => k_is); (case l13 => k_is); (case c13 => k_is); (case k13 => k_is); (case a14 => k_is); (case l14 => k_is); (case c14 => k_is); (case k14 => k_is); (case a15 => k_is); (case l15 => k_is); (case c15 => k_is); (case k15 => k_is); (case a16 => k_is); (case l16 => k_is); (case c16 => k_is); (case k16 => k_is); (case a17 => k_is); (case l17 => k_is); (case c17 => k_is); (case k17 => k_is); (case a18 => k_is); (case l18 => k_is); (case c18 => k_is); (case k18 => k_is); (case z_isinstance => k_is); (case z_str => k_is); (case z_tuple => k_is); (case z_len => k_is); (case z_ord => k_is); (case z_list => k_is); (case z_int => k_is); (case z_abs => k_is); (case z_max => k_is); (case z_range => k_is); (case z_bool => k_is); (case z_min => k_is)
#print axioms PySem.Challenge.cw_sameshape_k03_code_of_a_node_holds

import PyProof.Rows.All
import Wide.All
import OpenK.AllK
import Wide.FinOn
import HandS.Base
import HandS.Call
import HandS.List
import HandS.Comp
import HandS.Ends
import HandS.Iter
import HandS.Text
import HandS.Words
import HandS.WordsList
import HandS.Wide
import HandS.WideBits
import HandS.IsInst
import HandS.TupAny
import HandS.Walk
import KE.KStrBytes
import PySem.Challenge.RW_sameshape_k14_starts_are_dense
set_option Elab.async false
set_option linter.all false
set_option maxRecDepth 100000
set_option maxHeartbeats 4000000
namespace Ss
open PySem PySem.Spec PyProof.Rows L2
/-! ### a def that stands at a module's name and keeps a promise -/
structure Cl (P : Program) (w : World) (K : PySem.W.Frag) (mg : Str → Option Value) (base : Heap) (k : Nat) (x : Str) (ps : List Str) (sp : Sp) : Prop where
  ex : ∃ f fd, FnOk P w K mg base CX0 k f fd ps sp ∧ mg x = some (.ref f) ∧ PySem.W.keepIn K (.ref f) = true ∧ Binds K fd ps []
theorem pe_cl {X : Cx} {k : Nat} {x : Str} {ps : List Str} {sp : Sp} {p pos : Pos} {e : Expr} {es : List Expr} {t : TA} (C : Cl X.prog X.w X.K X.mg X.base k x ps sp) (hr : Room k X.A) (hg : Gl X x)
    (ha : PA X (e :: es) t) (hdb : (x == ("__debug__" : Str)) = false := by decide) (he : starEach (e :: es) X.env = (false, eval e X.env) :: starEach es X.env := by rfl) (hpl : (backTo pos (starEach es X.env)).any (·.1) = false := by rfl) :
    PE X (.Call (.Name x p) (e :: es) [] pos) (tCall sp [] E0 t) := by
  obtain ⟨f, fd, F, hm, hk, b⟩ := C.ex
  exact pe_call F hr hg hm hk b .nil pass0 ha hdb he hpl
theorem Cl.mono {P : Program} {w : World} {K : PySem.W.Frag} {mg : Str → Option Value} {base : Heap} {j k : Nat} {x : Str} {ps : List Str} {sp : Sp} (C : Cl P w K mg base j x ps sp) (h : j ≤ k) : Cl P w K mg base k x ps sp := by
  obtain ⟨f, fd, F, r⟩ := C.ex
  exact ⟨f, fd, F.mono h, r⟩
theorem Cl.imp {P : Program} {w : World} {K : PySem.W.Frag} {mg : Str → Option Value} {base : Heap} {k : Nat} {x : Str} {ps : List Str} {sp sp' : Sp} (C : Cl P w K mg base k x ps sp) (h : ∀ vs H Q, sp' vs H Q E0 → sp vs H Q E0) (hl : ∀ vs H Q E, sp' vs H Q E → sp' vs H Q E0) : True := trivial
/-! ### heaps -/
theorem same_new {H : Hp} {p : Addr} {o : HO} (h : H p = none) : Same H (upd H p o) := fun b x e => by
  rw [upd_ne (ne_of_none e h)]
  exact e
/-- all that was tracked stays, but what stands at t -/
def Ext (t : Addr) (H H' : Hp) : Prop := ∀ b o, b ≠ t → H b = some o → H' b = some o
theorem Ext.refl (t : Addr) (H : Hp) : Ext t H H := fun _ _ _ h => h
theorem Ext.trans {t : Addr} {H H1 H2 : Hp} (a : Ext t H H1) (b : Ext t H1 H2) : Ext t H H2 := fun c o n h => b c o n (a c o n h)
theorem Ext.of {t : Addr} {H H' : Hp} (h : Same H H') : Ext t H H' := fun b o _ e => h b o e
/-! ### data -/
mutual
inductive At (H : Hp) : V → PyData → Prop
  | non : At H .non .none
  | bl (b : Bool) : At H (.bl b) (.bool b)
  | int (i : Int) : At H (.int i) (.int i)
  | str (x : Str) : At H (.str x) (.str x)
  | tup {a : Addr} {xs : List V} {ds : List PyData} : H a = some (.tup xs) → AtL H xs ds → At H (.ref a) (.tuple ds)
inductive AtL (H : Hp) : List V → List PyData → Prop
  | nil : AtL H [] []
  | cons {v : V} {vs : List V} {d : PyData} {ds : List PyData} : At H v d → AtL H vs ds → AtL H (v :: vs) (d :: ds)
end
mutual
theorem At.tups {H H' : Hp} (h : ∀ b xs, H b = some (.tup xs) → H' b = some (.tup xs)) : ∀ {v : V} {d : PyData}, At H v d → At H' v d
  | _, _, .non => .non
  | _, _, .bl b => .bl b
  | _, _, .int i => .int i
  | _, _, .str x => .str x
  | _, _, .tup e l => .tup (h _ _ e) (AtL.tups h l)
theorem AtL.tups {H H' : Hp} (h : ∀ b xs, H b = some (.tup xs) → H' b = some (.tup xs)) : ∀ {v : List V} {d : List PyData}, AtL H v d → AtL H' v d
  | _, _, .nil => .nil
  | _, _, .cons a l => .cons (At.tups h a) (AtL.tups h l)
end
theorem At.same {H H' : Hp} {v : V} {d : PyData} (h : Same H H') (a : At H v d) : At H' v d := a.tups fun b xs e => h b _ e
theorem AtL.same {H H' : Hp} {v : List V} {d : List PyData} (h : Same H H') (a : AtL H v d) : AtL H' v d := a.tups fun b xs e => h b _ e
/-- the tape stands at t: a list of the script's list at l, two counts, the sum -/
structure Tape (H : Hp) (t l : Addr) : Prop where
  ex : ∃ (ns : List Int) (p n s : Int), H t = some (.lst [.ref l, .int p, .int n, .int s]) ∧ H l = some (.lst (ns.map V.int)) ∧ l ≠ t ∧ 0 ≤ p ∧ 0 ≤ n ∧ 0 ≤ s
theorem Tape.same {H H' : Hp} {t l : Addr} (h : Same H H') (a : Tape H t l) : Tape H' t l := by
  obtain ⟨ns, p, n, s, a1, a2, r⟩ := a.ex
  exact ⟨ns, p, n, s, h _ _ a1, h _ _ a2, r⟩
theorem Tape.fresh {H : Hp} {t l o : Addr} (a : Tape H t l) (h : H o = none) : o ≠ t ∧ o ≠ l := by
  obtain ⟨ns, p, n, s, a1, a2, r⟩ := a.ex
  exact ⟨fun e => (by rw [e, a1] at h; cases h), fun e => (by rw [e, a2] at h; cases h)⟩
theorem Tape.put {H : Hp} {t l o : Addr} {x : HO} (a : Tape H t l) (h : o ≠ t ∧ o ≠ l) : Tape (upd H o x) t l := by
  obtain ⟨ns, p, n, s, a1, a2, r⟩ := a.ex
  exact ⟨ns, p, n, s, (upd_ne h.1.symm).trans a1, (upd_ne h.2.symm).trans a2, r⟩
theorem Ext.free {t o : Addr} {H H' : Hp} (e : Ext t H H') (n : o ≠ t) (h : H' o = none) : H o = none := by
  cases q : H o with
  | none => rfl
  | some x =>
    rw [e o x n q] at h
    cases h
/-- the tape went on, all else that was tracked stands -/
structure Go (t l : Addr) (H H' : Hp) : Prop where
  e : Ext t H H'
  T : Tape H' t l
theorem Go.refl {t l : Addr} {H : Hp} (T : Tape H t l) : Go t l H H := ⟨Ext.refl t H, T⟩
theorem Go.trans {t l : Addr} {H H1 H2 : Hp} (a : Go t l H H1) (b : Go t l H1 H2) : Go t l H H2 := ⟨a.e.trans b.e, b.T⟩
theorem Go.same {t l : Addr} {H H1 H2 : Hp} (a : Go t l H H1) (b : Same H1 H2) : Go t l H H2 := ⟨a.e.trans (Ext.of b), a.T.same b⟩
theorem Go.new {t l p : Addr} {H H1 : Hp} {x : HO} (a : Go t l H H1) (h : H1 p = none) : Go t l H (upd H1 p x) := a.same (same_new h)
/-- an object that is new since H is changed -/
theorem Go.put {t l p : Addr} {H H1 : Hp} {x : HO} (a : Go t l H H1) (h : H p = none) (n : p ≠ t ∧ p ≠ l) : Go t l H (upd H1 p x) :=
  ⟨fun b o bt hb => by rw [upd_ne (fun e => by rw [e, h] at hb; cases hb)]; exact a.e b o bt hb, a.T.put n⟩
theorem Go.free {t l p : Addr} {H H1 : Hp} (a : Go t l H H1) (h : H1 p = none) : H p = none ∧ p ≠ t ∧ p ≠ l :=
  have n := a.T.fresh h
  ⟨a.e.free n.1 h, n⟩
/-- what stands apart from the tape stays -/
theorem Go.at {t l p : Addr} {H H1 : Hp} {x : HO} (a : Go t l H H1) (h : H p = some x) (n : p ≠ t) : H1 p = some x := a.e p x n h
theorem Tape.tup {H H' : Hp} {t l : Addr} (a : Tape H t l) (e : Ext t H H') : ∀ b xs, H b = some (.tup xs) → H' b = some (.tup xs) := fun b xs h => by
  obtain ⟨ns, p, n, s, a1, _⟩ := a.ex
  exact e b _ (ne_of h a1 (by intro z; cases z)) h
theorem At.go {H H' : Hp} {t l : Addr} {v : V} {d : PyData} (a : At H v d) (T : Tape H t l) (g : Go t l H H') : At H' v d := a.tups (T.tup g.e)
theorem AtL.go {H H' : Hp} {t l : Addr} {v : List V} {d : List PyData} (a : AtL H v d) (T : Tape H t l) (g : Go t l H H') : AtL H' v d := a.tups (T.tup g.e)
/-! ### readings, step by step -/
section
variable {σ : L2.St} {H : Hp} {D : Ends} {t u : TS} {te ta tb : TE} {Q : VK} {g : TG} {c : TT} {i j : Int}
theorem w_seq (h : t { D with nx := u D } σ H) : tSeq t u D σ H := h
theorem w_asg (h : te σ H fun x H1 => g x σ H1 D.nx) : tAsg te g D σ H := h
theorem w_next (h : D.nx σ H) : tNext D σ H := h
theorem w_name {n : Nat} {v : V} {R : L2.St → Hp → Prop} (h : R (σ.set n (some v)) H) : gName n v σ H R := h
theorem w_gsub {to ti : TE} {ts : TSet} {v : V} {R : L2.St → Hp → Prop} (h : to σ H fun o H1 => ti σ H1 fun i H2 => ts o i v H2 fun H3 => R σ H3) : gSub to ti ts v σ H R := h
theorem w_ret (h : te σ H D.rt) : tRet te D σ H := h
theorem w_drop (h : te σ H fun _ H1 => D.nx σ H1) : tDrop te D σ H := h
theorem w_ifS (h : c σ H fun b H1 => if b = true then t D σ H1 else u D σ H1) : tIfS c t u D σ H := h
theorem w_op {r : R2} (h : ta σ H fun x H1 => tb σ H1 fun y H2 => r x y H2 Q) : tOp r ta tb σ H Q := h
theorem w_un {r : V → Hp → VK → Prop} (h : ta σ H fun x H1 => r x H1 Q) : tUn r ta σ H Q := h
theorem w_cb {r : List V → Hp → VK → Prop} {tt : TA} (h : tt σ H fun vs H1 => r vs H1 Q) : tCB r tt σ H Q := h
theorem w_call {sp : Sp} {E : XK} {tt : TA} (h : tt σ H fun vs H1 => sp (vs ++ []) H1 Q E) : tCall sp [] E tt σ H Q := h
theorem w_cons {tr : TA} {R : List V → Hp → Prop} (h : ta σ H fun x H1 => tr σ H1 fun xs H2 => R (x :: xs) H2) : tCons ta tr σ H R := h
theorem w_nil {R : List V → Hp → Prop} (h : R [] H) : tNil σ H R := h
theorem w_var {n : Nat} {v : V} (h : σ[n]? = some (some v)) (q : Q v H) : tVar n σ H Q := ⟨v, h, q⟩
theorem w_c {v : V} (q : Q v H) : tC v σ H Q := q
theorem w_test {R : Bool → Hp → Prop} (h : te σ H fun x H' => ∃ k, x = .bl k ∧ R k H') : tTest te σ H R := h
theorem w_B {R : Bool → Hp → Prop} (h : te σ H fun x H' => ∃ k, x = .bl k ∧ R k H') : tB te σ H R := h
theorem w_bl {k : Bool} {R : Bool → Prop} (q : R k) : ∃ k', V.bl k = V.bl k' ∧ R k' := ⟨k, rfl, q⟩
theorem w_not {R : Bool → Hp → Prop} (h : c σ H fun b H1 => R (!b) H1) : tNot c σ H R := h
theorem w_and {d : TT} {R : Bool → Hp → Prop} (h : c σ H fun b H1 => if b = true then d σ H1 R else R false H1) : tAnd c d σ H R := h
theorem w_or {d : TT} {R : Bool → Hp → Prop} (h : c σ H fun b H1 => if b = true then R true H1 else d σ H1 R) : tOr c d σ H R := h
theorem w_andV (h : ta σ H fun x H1 => ∃ c, x = .bl c ∧ if c = true then tb σ H1 Q else Q (.bl false) H1) : tAndV ta tb σ H Q := h
theorem w_orV (h : ta σ H fun x H1 => ∃ c, x = .bl c ∧ if c = true then Q (.bl true) H1 else tb σ H1 Q) : tOrV ta tb σ H Q := h
theorem w_notV (h : ta σ H fun x H1 => ∃ c, x = .bl c ∧ Q (.bl (!c)) H1) : tNotV ta σ H Q := h
theorem w_if (h : c σ H fun b H1 => if b = true then ta σ H1 Q else tb σ H1 Q) : tIf c ta tb σ H Q := h
theorem w_I0 {f : Int → Int → V} (h : Q (f i j) H) : rI0 f (.int i) (.int j) H Q := ⟨i, j, rfl, rfl, h⟩
theorem w_I {C : Int → Int → Prop} {f : Int → Int → V} (hc : C i j) (h : Q (f i j) H) : rI C f (.int i) (.int j) H Q := ⟨i, j, rfl, rfl, hc, h⟩
theorem w_U {f : Int → V} (h : Q (f i) H) : rU f (.int i) H Q := ⟨i, rfl, h⟩
theorem w_eqI (h : Q (.bl (decide (i = j))) H) : rEq (.int i) (.int j) H Q := ⟨rfl, by
  have e : decide (V.int i = V.int j) = decide (i = j) := by
    by_cases q : i = j
    · rw [decide_eq_true q, decide_eq_true (congrArg V.int q)]
    · rw [decide_eq_false q, decide_eq_false fun z => q (V.int.inj z)]
  rw [e]
  exact h⟩
theorem w_neI (h : Q (.bl (!decide (i = j))) H) : rNe (.int i) (.int j) H Q := ⟨rfl, by
  have e : decide (V.int i = V.int j) = decide (i = j) := by
    by_cases q : i = j
    · rw [decide_eq_true q, decide_eq_true (congrArg V.int q)]
    · rw [decide_eq_false q, decide_eq_false fun z => q (V.int.inj z)]
  rw [e]
  exact h⟩
theorem w_neB {a b : Bool} (h : Q (.bl (a != b)) H) : rNe (.bl a) (.bl b) H Q := ⟨rfl, by
  have e : (!decide (V.bl a = V.bl b)) = (a != b) := by cases a <;> cases b <;> rfl
  rw [e]
  exact h⟩
theorem w_eqS {x y : Str} (h : Q (.bl (decide (x = y))) H) : rEq (.str x) (.str y) H Q := ⟨rfl, by
  have e : decide (V.str x = V.str y) = decide (x = y) := by
    by_cases q : x = y
    · rw [decide_eq_true q, decide_eq_true (congrArg V.str q)]
    · rw [decide_eq_false q, decide_eq_false fun z => q (V.str.inj z)]
  rw [e]
  exact h⟩
theorem w_ixL {K : PySem.W.Frag} {p : Addr} {xs : List V} {v : V} (h : SqL K H p xs) (ha : atI xs i = some v) (q : Q v H) : rIxL K (.ref p) (.int i) H Q := ⟨p, xs, i, v, rfl, rfl, h, ha, q⟩
theorem w_ixT {K : PySem.W.Frag} {p : Addr} {xs : List V} {v : V} (h : SqT K H p xs) (ha : atI xs i = some v) (q : Q v H) : rIxT K (.ref p) (.int i) H Q := ⟨p, xs, i, v, rfl, rfl, h, ha, q⟩
theorem w_setL {p : Addr} {xs : List V} {v : V} {n : Nat} {R : Hp → Prop} (h : H p = some (.lst xs)) (ha : ixN xs.length i = some n) (q : R (upd H p (.lst (xs.set n v)))) : rSetL (.ref p) (.int i) v H R := ⟨p, xs, i, n, rfl, rfl, h, ha, q⟩
theorem w_ite {p A B : Prop} [Decidable p] (h1 : p → A) (h2 : ¬ p → B) : if decide p = true then A else B := by
  by_cases h : p
  · rw [decide_eq_true h]
    exact iteT (h1 h)
  · rw [decide_eq_false h]
    exact iteF (h2 h)
theorem w_iteN {p A B : Prop} [Decidable p] (h1 : ¬ p → A) (h2 : p → B) : if (!decide p) = true then A else B := by
  by_cases h : p
  · rw [decide_eq_true h]
    exact iteF (h2 h)
  · rw [decide_eq_false h]
    exact iteT (h1 h)
theorem w_int1 (h : Q (.int i) H) : (∃ i', [V.int i] = [V.int i'] ∧ Q (.int i') H) ∨ ∃ k, [V.int i] = [V.bl k] ∧ Q (.int (if k then 1 else 0)) H := .inl ⟨i, rfl, h⟩
theorem w_intB {k : Bool} (h : Q (.int (if k then 1 else 0)) H) : (∃ i', [V.bl k] = [V.int i'] ∧ Q (.int i') H) ∨ ∃ k', [V.bl k] = [V.bl k'] ∧ Q (.int (if k' then 1 else 0)) H := .inr ⟨k, rfl, h⟩
theorem w_abs (h : Q (.int (if i < 0 then -i else i)) H) : ∃ i', [V.int i] = [V.int i'] ∧ Q (.int (if i' < 0 then -i' else i')) H := ⟨i, rfl, h⟩
theorem w_max2 (h : Q (.int (if j > i then j else i)) H) : ∃ i' j', [V.int i, V.int j] = [V.int i', V.int j'] ∧ Q (.int (if j' > i' then j' else i')) H := ⟨i, j, rfl, h⟩
theorem w_min2 (h : Q (.int (if j < i then j else i)) H) : ∃ i' j', [V.int i, V.int j] = [V.int i', V.int j'] ∧ Q (.int (if j' < i' then j' else i')) H := ⟨i, j, rfl, h⟩
theorem w_lenL {K : PySem.W.Frag} {p : Addr} {xs : List V} (h : SqL K H p xs) (q : Q (.int xs.length) H) : ∃ p' ys, [V.ref p] = [V.ref p'] ∧ (SqL K H p' ys ∨ SqT K H p' ys) ∧ Q (.int ys.length) H := ⟨p, xs, rfl, .inl h, q⟩
theorem w_lenT {K : PySem.W.Frag} {p : Addr} {xs : List V} (h : SqT K H p xs) (q : Q (.int xs.length) H) : ∃ p' ys, [V.ref p] = [V.ref p'] ∧ (SqL K H p' ys ∨ SqT K H p' ys) ∧ Q (.int ys.length) H := ⟨p, xs, rfl, .inr h, q⟩
theorem w_tup {tt : TA} (h : tt σ H fun xs H1 => xs.length ≤ sizeLine ∧ ∀ p, H1 p = none → Q (.ref p) (upd H1 p (.tup xs))) : tTup tt σ H Q := h
theorem w_lst {tt : TA} (h : tt σ H fun xs H1 => xs.length ≤ sizeLine ∧ ∀ p, H1 p = none → Q (.ref p) (upd H1 p (.lst xs))) : tLst tt σ H Q := h
end
section
variable {K : PySem.W.Frag}
theorem fm {a b : Int} (h : 0 < b) : 0 ≤ a.fmod b ∧ a.fmod b < b := ⟨Int.fmod_nonneg_of_pos a h, Int.fmod_lt_of_pos a h⟩
theorem ext_upd {H : Hp} {t : Addr} {o : HO} : Ext t H (upd H t o) := fun b u n e => by
  rw [upd_ne n]
  exact e
theorem w_for {σ : L2.St} {H : Hp} {D : Ends} {wi : TI} {g : TG} {tb : TS} (h : wi σ H fun J H1 => ∃ W : Nat → Nat → L2.St → Hp → Prop, (∃ m, W 0 m σ H1) ∧ ∀ i m σ H, W i m σ H →
      (J.stop i H ∧ D.nx σ H) ∨ (J.go i H ∧ ∃ N : L2.St → Hp → Prop, (∀ σ' H', N σ' H' → ∃ m', m' < m ∧ W (i + 1) m' σ' H') ∧ ∀ x H', J.yld i H x H' → g x σ H' fun σ2 H2 => tb { D with nx := N, ct := N, bk := D.nx } σ2 H2)) : tFor wi g tb D σ H := h
theorem q_iteT {A B : Prop} {d : Decidable (true = true)} (h : A) : @ite Prop (true = true) d A B := by rw [if_pos rfl]; exact h
theorem q_iteF {A B : Prop} {d : Decidable (false = true)} (h : B) : @ite Prop (false = true) d A B := by rw [if_neg Bool.false_ne_true]; exact h
theorem q_iteNT {A B : Prop} {d : Decidable ((!true) = true)} (h : B) : @ite Prop ((!true) = true) d A B := by rw [if_neg (show ¬ ((!true) = true) from Bool.false_ne_true)]; exact h
theorem q_iteNF {A B : Prop} {d : Decidable ((!false) = true)} (h : A) : @ite Prop ((!false) = true) d A B := by rw [if_pos (show (!false) = true from rfl)]; exact h
theorem w_break {σ : L2.St} {H : Hp} {D : Ends} (h : D.bk σ H) : tBreak D σ H := h
theorem w_cont {σ : L2.St} {H : Hp} {D : Ends} (h : D.ct σ H) : tCont D σ H := h
theorem w_bits {σ : L2.St} {H : Hp} {to : TE} {Q : VK} (h : to σ H fun x H1 => ∃ i, x = .int i ∧ Q (.int (Builtin.Int.intBits i : Nat)) H1) : tBits to σ H Q := h
theorem w_rng1 {σ : L2.St} {H : Hp} {ta : TA} {R : It → Hp → Prop} (h : ta σ H fun vs H1 => ∃ j : Int, vs = [.int j] ∧ -(2 ^ 62) ≤ j ∧ j < 2 ^ 62 ∧ R (Itr 0 j.toNat) H1) : iRng1 ta σ H R := h
theorem w_rng2 {σ : L2.St} {H : Hp} {ta : TA} {R : It → Hp → Prop} (h : ta σ H fun vs H1 => ∃ i j : Int, vs = [.int i, .int j] ∧ (-(2 ^ 62) ≤ i ∧ i < 2 ^ 62 ∧ -(2 ^ 62) ≤ j ∧ j < 2 ^ 62) ∧ R (Itr i (j - i).toNat) H1) : iRng2 ta σ H R := h
theorem w_itl {σ : L2.St} {H : Hp} {tl : TE} {R : It → Hp → Prop} (h : tl σ H fun x H1 => ∃ a, x = .ref a ∧ (∃ xs, SqL K H1 a xs) ∧ R (Itl K a) H1) : iList K tl σ H R := h
theorem w_itt {σ : L2.St} {H : Hp} {tl : TE} {R : It → Hp → Prop} (h : tl σ H fun x H1 => ∃ a, x = .ref a ∧ (∃ xs, SqT K H1 a xs) ∧ R (Itt K a) H1) : iTup K tl σ H R := h
theorem hu64 {A : Around} {k : Nat} (hr : Room k A) : A.units + 64 < cLine := by
  have := hr.un
  omega
theorem at_ofN {α : Type} {xs : List α} {z : Int} {j : Nat} {v : α} (e : z = (j : Int)) (h : xs[j]? = some v) : atI xs z = some v := by
  rw [e]
  exact atI_nat h
theorem szle {n : Nat} (h : n ≤ 100000) : n ≤ sizeLine := Nat.le_trans h (by decide)
theorem szlt {n : Nat} (h : n < 100000) : n < sizeLine := Nat.lt_of_lt_of_le h (by decide)
section
variable {σ : L2.St} {H : Hp} {te : TE} {tl th : TO} {Q : VK}
theorem w_sl {r : V → Option Int → Option Int → Hp → VK → Prop} (h : te σ H fun x H1 => tl σ H1 fun l H2 => th σ H2 fun u H3 => r x l u H3 Q) : tSl r te tl th σ H Q := h
theorem w_part {R : Option Int → Hp → Prop} (h : te σ H fun x H1 => ∃ i, x = .int i ∧ R (some i) H1) : tPart te σ H R := h
theorem w_nopart {R : Option Int → Hp → Prop} (h : R none H) : tNoPart σ H R := h
theorem w_bm {T : String} {r : V → List V → Hp → VK → Prop} {t : TA} (h : te σ H fun x H1 => tyV K T x H1 ∧ t σ H1 fun xs H2 => r x xs H2 Q) : tBM K T r te t σ H Q := h
theorem w_append {l : Addr} {xs : List V} {v : V} (h : H l = some (.lst xs)) (hz : xs.length < sizeLine) (q : Q .non (upd H l (.lst (xs ++ [v])))) : rAppend (.ref l) [v] H Q := ⟨l, xs, v, rfl, rfl, h, hz, q⟩
theorem w_yes {R : Bool → Hp → Prop} (h : R true H) : tYes σ H R := h
theorem w_lc {wi : TI} {g : TG} {tt : TT} {vs : List Nat} (h : wi σ H fun J H1 => ∀ D, H1 D = none → ∃ W : Nat → Nat → Hp → Prop, (∃ m, W 0 m (upd H1 D (.lst []))) ∧ ∀ i m H, W i m H →
  (J.stop i H ∧ Q (.ref D) H) ∨ (J.go i H ∧ ∃ Nx : Hp → Prop, (∀ H', Nx H' → ∃ m', m' < m ∧ W (i + 1) m' H') ∧ ∀ x H', J.yld i H x H' → g x (wipe σ vs) H' fun σ2 H2 => wipe σ2 vs = wipe σ vs ∧ tt σ2 H2 fun b H3 =>
    if b = true then te σ2 H3 fun y H4 => ∃ acc, H4 D = some (.lst acc) ∧ acc.length < sizeLine ∧ Nx (upd H4 D (.lst (acc ++ [y]))) else Nx H3)) : tLc wi g tt te vs σ H Q := h
theorem cut_to (xs : List V) (n : Nat) : cutV xs none (some (n : Int)) = xs.take n := by
  unfold cutV
  rw [HT.sIx_none, show HT.sIx xs.length xs.length (some (n : Int)) = min n xs.length from HT.sIx_nat xs.length xs.length n]
  rw [List.drop_zero, Nat.sub_zero]
  by_cases h : n ≤ xs.length
  · rw [Nat.min_eq_left h]
  · rw [Nat.min_eq_right (by omega), List.take_of_length_le (Nat.le_refl _), List.take_of_length_le (by omega)]
theorem cut_from (xs : List V) (n : Nat) : cutV xs (some (n : Int)) none = xs.drop n := by
  unfold cutV
  rw [HT.sIx_none, show HT.sIx xs.length 0 (some (n : Int)) = min n xs.length from HT.sIx_nat xs.length 0 n]
  by_cases h : n ≤ xs.length
  · rw [Nat.min_eq_left h, List.take_of_length_le (by rw [List.length_drop]; exact Nat.le_refl _)]
  · rw [Nat.min_eq_right (by omega), List.drop_of_length_le (Nat.le_refl _), List.drop_of_length_le (by omega), List.take_nil]
theorem cut_both (xs : List V) (m n : Nat) : cutV xs (some (m : Int)) (some (n : Int)) = (xs.take n).drop m := by
  unfold cutV
  rw [show HT.sIx xs.length 0 (some (m : Int)) = min m xs.length from HT.sIx_nat xs.length 0 m, show HT.sIx xs.length xs.length (some (n : Int)) = min n xs.length from HT.sIx_nat xs.length xs.length n]
  rw [List.drop_take]
  by_cases g : n ≤ xs.length
  · rw [Nat.min_eq_left g]
    by_cases h : m ≤ xs.length
    · rw [Nat.min_eq_left h]
    · rw [Nat.min_eq_right (by omega), List.drop_of_length_le (Nat.le_refl _), List.drop_of_length_le (by omega), List.take_nil, List.take_nil]
  · rw [Nat.min_eq_right (show xs.length ≤ n by omega)]
    by_cases h : m ≤ xs.length
    · rw [Nat.min_eq_left h, List.take_of_length_le (by rw [List.length_drop]; exact Nat.le_refl _), List.take_of_length_le (by rw [List.length_drop]; omega)]
    · rw [Nat.min_eq_right (by omega), List.drop_of_length_le (Nat.le_refl _), List.drop_of_length_le (by omega), List.take_nil, List.take_nil]
end
theorem w_slA {H : Hp} {Q : VK} {a : Addr} {xs : List V} {lo hi : Option Int} (hx : H a = some (.tup xs)) (q : ∀ (p : Addr) (H' : Hp), Same H H' → H' p = some (.tup (cutV xs lo hi)) → Q (.ref p) H') : rSlA K (.ref a) lo hi H Q := by
  refine ⟨a, xs, rfl, .of hx, fun h => q a H (Same.refl H) ?_, fun _ p np => q p _ (same_new np) upd_same⟩
  have e : cutV xs lo hi = xs := by
    unfold cutV
    rw [h.1, h.2, List.drop_zero, Nat.sub_zero, List.take_length]
  rw [e]
  exact hx
theorem at_cut (xs : List V) (j : Nat) : cutV xs (some (j : Int)) (some ((j + 1 : Nat) : Int)) = (xs[j]?).toList := by
  rw [cut_both, List.drop_take, Nat.add_sub_cancel_left]
  by_cases h : j < xs.length
  · rw [List.drop_eq_getElem_cons h, List.getElem?_eq_getElem h]
    rfl
  · rw [List.drop_of_length_le (by omega), List.getElem?_eq_none (by omega)]
    rfl
theorem w_ixAny {H : Hp} {Q : VK} {p : Addr} {xs : List V} {r : Int} (P : V → Prop) (h : SqL K H p xs) (r0 : 0 ≤ r) (r1 : r < xs.length) (hp : ∀ v ∈ xs, P v) (q : ∀ v, P v → Q v H) : rIxL K (.ref p) (.int r) H Q := by
  have hr : r.toNat < xs.length := by omega
  refine w_ixL (v := xs[r.toNat]) h (at_of (j := r.toNat) (by omega) (List.getElem?_eq_getElem hr)) (q _ (hp _ (List.getElem_mem hr)))
theorem w_ixS {H : Hp} {Q : VK} {z : Str} {r : Int} (P : Nat → Prop) (hz : z.length ≤ sizeLine) (r0 : 0 ≤ r) (r1 : r < z.cps.toList.length) (hp : ∀ c ∈ z.cps.toList, P c) (q : ∀ c, P c → Q (.str ⟨#[c]⟩) H) : rIxS (.str z) (.int r) H Q := by
  have hr : r.toNat < z.cps.toList.length := by omega
  exact ⟨z, r, z.cps.toList[r.toNat], rfl, rfl, hz, at_ofN (j := r.toNat) (by omega) (List.getElem?_eq_getElem hr), q _ (hp _ (List.getElem_mem hr))⟩
theorem w_catA {H : Hp} {Q : VK} {a b : Addr} {xs ys : List V} (ha : H a = some (.tup xs)) (hb : H b = some (.tup ys)) (hl : xs.length + ys.length ≤ 100000) (q : ∀ (p : Addr) (H' : Hp), Same H H' → H' p = some (.tup (xs ++ ys)) → Q (.ref p) H') : rCatA K (.ref a) (.ref b) H Q :=
  ⟨a, b, xs, ys, rfl, rfl, .of ha, .of hb, szle hl, fun e => q b H (Same.refl H) (by rw [e]; exact hb), fun _ e => q a H (Same.refl H) (by rw [e, List.append_nil]; exact ha), fun _ _ p np => q p _ (same_new np) upd_same⟩
theorem w_cat {H : Hp} {Q : VK} {a b : Addr} {xs ys : List V} (ha : H a = some (.lst xs)) (hb : H b = some (.lst ys)) (hl : xs.length + ys.length ≤ 100000) (q : ∀ (p : Addr) (H' : Hp), H p = none → Same H H' → H' p = some (.lst (xs ++ ys)) → Q (.ref p) H') : rCat (.ref a) (.ref b) H Q :=
  ⟨a, b, xs, ys, rfl, rfl, ha, hb, szle hl, fun p np => q p _ np (same_new np) upd_same⟩
theorem w_while {σ : L2.St} {H : Hp} {D : Ends} {c : TT} {tb : TS} (h : ∃ W : Nat → L2.St → Hp → Prop, (∃ m, W m σ H) ∧ ∀ m σ H, W m σ H →
  c σ H fun b H1 => if b = true then ∃ N : L2.St → Hp → Prop, (∀ σ' H', N σ' H' → ∃ m', m' < m ∧ W m' σ' H') ∧ tb { D with nx := N, ct := N, bk := D.nx } σ H1 else D.nx σ H1) : tWhile c tb D σ H := h
theorem w_par {σ : L2.St} {H : Hp} {D : Ends} {i j : Nat} {ta : TA} (h : ta σ H fun vs H1 => ∃ v w, vs = [v, w] ∧ D.nx ((σ.set i (some v)).set j (some w)) H1) : tPar i j ta D σ H := h
theorem w_irev {σ : L2.St} {H : Hp} {ta : TA} {R : It → Hp → Prop} (h : ta σ H fun vs H1 => ∃ (a : Addr) (xs : List V), vs = [.ref a] ∧ SqL K H1 a xs ∧ R (Itv K a xs.length) H1) : iRev K ta σ H R := h
theorem w_its {σ : L2.St} {H : Hp} {tl : TE} {R : It → Hp → Prop} (h : tl σ H fun x H1 => ∃ z, x = .str z ∧ R (Its z) H1) : iStr tl σ H R := h
/-- how deep data is -/
inductive Dep : Nat → PyData → Prop
  | non (n : Nat) : Dep n .none
  | bl (n : Nat) (b : Bool) : Dep n (.bool b)
  | int (n : Nat) (i : Int) : Dep n (.int i)
  | str (n : Nat) (x : Str) : Dep n (.str x)
  | tup {n : Nat} {ds : List PyData} (hl : ds.length ≤ 1000000) (h : ∀ d ∈ ds, Dep n d) : Dep (n + 1) (.tuple ds)
theorem Dep.mono {n : Nat} {d : PyData} (h : Dep n d) : ∀ {m : Nat}, n ≤ m → Dep m d := by
  induction h with
  | non n => exact fun _ => .non _
  | bl n b => exact fun _ => .bl _ _
  | int n i => exact fun _ => .int _ _
  | str n x => exact fun _ => .str _ _
  | tup hl h ih =>
    intro m hm
    cases m with
    | zero => omega
    | succ m => exact .tup hl fun d hd => ih d hd (by omega)
theorem AtL.len {H : Hp} : ∀ {vs : List V} {ds : List PyData}, AtL H vs ds → vs.length = ds.length
  | _, _, .nil => rfl
  | _, _, .cons _ l => congrArg (· + 1) l.len
theorem AtL.get {H : Hp} : ∀ {vs : List V} {ds : List PyData} {i : Nat} {d : PyData}, AtL H vs ds → ds[i]? = some d → ∃ v, vs[i]? = some v ∧ At H v d
  | _, _, _, _, .nil, h => by simp at h
  | _, _, 0, d, .cons (d := e) a _, h => by
    have q : e = d := by simpa using h
    subst q
    exact ⟨_, rfl, a⟩
  | _, _, i + 1, d, .cons _ l, h => by
    obtain ⟨v, h1, h2⟩ := AtL.get (i := i) (d := d) l (by simpa using h)
    exact ⟨v, by simpa using h1, h2⟩
theorem w_isi {H : Hp} {Q : VK} {x : V} {a : String} {n : String} (ty : TyX K H x (.type a)) (b : Bool) (h : kitB a n = some b) (q : Q (.bl b) H) : rIsi K [x, .ty n] H Q := ⟨x, .ty n, .type a, .type n, b, rfl, .ty n, ty, kit_ty h, q⟩
end
/-- what stands at an address -/
local macro_rules | `(tactic| walk_at "hp") => `(tactic| first | assumption | exact upd_same | ((refine (upd_ne ?hn).trans ?hr); (case hn => first | assumption | (apply Ne.symm; assumption) | fail "hp"); (case hr => walk_at "hp")) | fail "hp")
local macro_rules | `(tactic| walk_at "ix") => `(tactic| first | assumption | exact atI_nat (j := 0) rfl | exact atI_nat (j := 1) rfl | exact atI_nat (j := 2) rfl | exact atI_nat (j := 3) rfl | exact atI_nat (j := 4) rfl | fail "ix")
local macro_rules | `(tactic| walk_at "ixn") => `(tactic| first | assumption | exact rfl | fail "ixn")
/-- one step of a reading that asks nothing -/
local macro_rules | `(tactic| walk_at "w1") => `(tactic| first
  | with_reducible refine w_seq ?_ | with_reducible refine w_asg ?_ | with_reducible refine w_name ?_ | with_reducible refine w_gsub ?_ | with_reducible refine w_ret ?_ | with_reducible refine w_ifS ?_ | with_reducible refine w_next ?_ | with_reducible refine w_drop ?_
  | with_reducible refine w_op ?_ | with_reducible refine w_un ?_ | with_reducible refine w_cb ?_ | with_reducible refine w_call ?_ | with_reducible refine w_cons ?_ | with_reducible refine w_nil ?_
  | ((with_reducible refine' w_var ?hv ?_); (case hv => exact rfl)) | with_reducible refine w_c ?_ | with_reducible refine w_test ?_ | with_reducible refine w_B ?_ | with_reducible refine w_bl ?_
  | with_reducible refine w_not ?_ | with_reducible refine w_and ?_ | with_reducible refine w_or ?_ | with_reducible refine w_andV ?_ | with_reducible refine w_orV ?_ | with_reducible refine w_notV ?_ | with_reducible refine w_if ?_
  | with_reducible refine w_I0 ?_ | with_reducible refine w_U ?_ | with_reducible refine w_eqI ?_ | with_reducible refine w_neI ?_ | with_reducible refine w_neB ?_ | with_reducible refine w_eqS ?_
  | ((with_reducible refine w_I ?hc ?_); (case hc => first | exact Or.inr (by decide) | exact ⟨by decide, by decide, by decide⟩ | exact ⟨by decide, by decide⟩ | decide | assumption | (show _ ≠ _; omega) | (unfold CMul; omega)))
  | ((with_reducible show (∃ i, [V.int _] = [V.int i] ∧ _) ∨ _); refine .inl ⟨_, rfl, ?_⟩; try dsimp -proj -iota -zeta -eta only)
  | ((with_reducible show _ ∨ (∃ i, [V.bl _] = [V.bl i] ∧ _)); refine .inr ⟨_, rfl, ?_⟩; try dsimp -proj -iota -zeta -eta only)
  | ((with_reducible show (∃ i, [V.int _] = [V.int i] ∧ _)); refine ⟨_, rfl, ?_⟩; try dsimp -proj -iota -zeta -eta only)
  | ((with_reducible show (∃ i j, [V.int _, V.int _] = [V.int i, V.int j] ∧ _)); refine ⟨_, _, rfl, ?_⟩; try dsimp -proj -iota -zeta -eta only)
  | ((with_reducible refine' w_ixL ?hl ?ha ?_); (case hl => exact SqL.of (by walk_at "hp")); (case ha => walk_at "ix"))
  | ((with_reducible refine' w_ixT ?hl ?ha ?_); (case hl => exact SqT.of (by walk_at "hp")); (case ha => walk_at "ix"))
  | ((with_reducible refine' w_setL ?hl ?ha ?_); (case hl => walk_at "hp"); (case ha => walk_at "ixn"))
  | ((with_reducible show (∃ p ys, [V.ref _] = [V.ref p] ∧ (SqL _ _ p ys ∨ SqT _ _ p ys) ∧ _)); (first | refine ⟨_, _, rfl, .inl (.of (by walk_at "hp")), ?_⟩ | refine ⟨_, _, rfl, .inr (.of (by walk_at "hp")), ?_⟩); try dsimp -proj -iota -zeta -eta only)
  | with_reducible refine q_iteT ?_ | with_reducible refine q_iteF ?_ | with_reducible refine q_iteNT ?_ | with_reducible refine q_iteNF ?_
  | ((with_reducible show (∃ k, TruV _ (V.bl _) _ k ∧ _)); refine ⟨_, rfl, ?_⟩; try dsimp -proj -iota -zeta -eta only)
  | with_reducible refine w_while ?_ | with_reducible refine w_par ?_
  | with_reducible refine w_its ?_ | with_reducible refine w_irev ?_
  | ((with_reducible show (∃ i, V.str _ = V.str i ∧ _)); refine ⟨_, rfl, ?_⟩; try dsimp -proj -iota -zeta -eta only)
  | ((with_reducible show (∃ i, [V.str _] = [V.str i] ∧ _)); refine ⟨_, rfl, ?_⟩; try dsimp -proj -iota -zeta -eta only)
  | with_reducible refine w_break ?_ | with_reducible refine w_cont ?_ | with_reducible refine w_bits ?_
  | ((with_reducible show (∃ i, V.int _ = V.int i ∧ _)); refine ⟨_, rfl, ?_⟩; try dsimp -proj -iota -zeta -eta only)
  | with_reducible refine w_for ?_ | with_reducible refine w_rng1 ?_ | with_reducible refine w_rng2 ?_ | with_reducible refine w_itl ?_ | with_reducible refine w_itt ?_
  | ((with_reducible show (∃ a, V.ref _ = V.ref a ∧ (∃ xs, SqL _ _ a xs) ∧ _)); refine ⟨_, rfl, ⟨_, .of (by walk_at "hp")⟩, ?_⟩; try dsimp -proj -iota -zeta -eta only)
  | with_reducible refine w_sl ?_ | with_reducible refine w_part ?_ | with_reducible refine w_nopart ?_ | with_reducible refine w_bm ?_ | with_reducible refine w_yes ?_ | with_reducible refine w_lc ?_
  | ((with_reducible show tyV _ "list" (V.ref _) _ ∧ _); refine ⟨.inl ⟨rfl, _, .of (by walk_at "hp")⟩, ?_⟩)
  | ((with_reducible refine' w_append ?hl ?hz ?_); (case hl => walk_at "hp"); (case hz => first | assumption | exact szlt (by simp only [List.length_append, List.length_map, List.length_cons, List.length_nil, List.length_take, List.length_replicate] <;> omega)))
  | ((with_reducible show (∃ p ys, [V.ref _] = [V.ref p] ∧ ((SqL _ _ p ys ∧ _) ∨ (SqT _ _ p ys ∧ _)))); refine ⟨_, _, rfl, .inl ⟨.of (by walk_at "hp"), ?_⟩⟩; try dsimp -proj -iota -zeta -eta only)
  | with_reducible refine w_tup ?_ | with_reducible refine w_lst ?_ | fail "w1")
local macro_rules | `(tactic| walk_at "wp") => `(tactic| repeat walk_at "w1")
local macro_rules | `(tactic| walk_at "wi") => `(tactic| repeat ((fail_if_success (with_reducible show tIfS _ _ _ _ _ _)); walk_at "w1"))
namespace Sm
/-- does a block start at k -/
def stAt (cs : List Int) (k : Nat) : Bool := decide (cs.getD (k - 1) 0 < cs.getD k 0) && decide (cs.getD (k + 1) 0 < cs.getD k 0)
/-- the starts of the first turns -/
def stF (cs : List Int) : Nat → List Int
  | 0 => [0]
  | i + 1 => if stAt cs (i + 2) = true then stF cs i ++ [((i + 2 : Nat) : Int)] else stF cs i
def starts (cs : List Int) : List Int := if cs = [] then [] else stF cs (cs.length - 3)
theorem stF_len (cs : List Int) : ∀ i, (stF cs i).length ≤ i + 1
  | 0 => Nat.le_refl _
  | i + 1 => by
    have := stF_len cs i
    unfold stF
    split
    · rw [List.length_append, List.length_singleton]; omega
    · omega
theorem starts_len (cs : List Int) : (starts cs).length ≤ cs.length + 1 := by
  unfold starts
  split
  · exact Nat.zero_le _
  · have := stF_len cs (cs.length - 3)
    omega
theorem stAt_eq (cs : List Int) (i : Nat) : stAt cs (i + 2) = (decide (cs.getD (i + 1) 0 < cs.getD (i + 2) 0) && decide (cs.getD (i + 3) 0 < cs.getD (i + 2) 0)) := rfl
theorem stF_yes {cs : List Int} {i : Nat} (h : stAt cs (i + 2) = true) : stF cs (i + 1) = stF cs i ++ [((i + 2 : Nat) : Int)] := if_pos h
theorem stF_no {cs : List Int} {i : Nat} (h : stAt cs (i + 2) = false) : stF cs (i + 1) = stF cs i := if_neg (by rw [h]; decide)
/-! ### a valley is short -/
theorem valley (c : Nat → Int) (s : Nat) : ∀ m : Nat, (∀ j, j ≤ m → 0 ≤ c (s + j) ∧ c (s + j) ≤ 5) → (∀ j, j < m → c (s + j) ≠ c (s + j + 1)) → (∀ j, 0 < j → j < m → ¬ (c (s + j - 1) < c (s + j) ∧ c (s + j + 1) < c (s + j))) →
    c (s + m) ≤ c s - m ∨ ∃ d, d < m ∧ c (s + d) ≤ c s - d ∧ c (s + d) + ((m : Int) - d) ≤ c (s + m) ∧ c (s + m - 1) < c (s + m)
  | 0, _, _, _ => .inl (by simp)
  | m + 1, hb, hn, hx => by
    have ih := valley c s m (fun j hj => hb j (by omega)) (fun j hj => hn j (by omega)) (fun j h0 hj => hx j h0 (by omega))
    have n1 := hn m (by omega)
    rcases ih with h | ⟨d, hd, h1, h2, h3⟩
    · by_cases up : c (s + m) < c (s + m + 1)
      · refine .inr ⟨m, by omega, h, ?_, ?_⟩
        · show _ ≤ c (s + m + 1); omega
        · show c (s + (m + 1) - 1) < c (s + m + 1)
          rw [show s + (m + 1) - 1 = s + m by omega]
          exact up
      · refine .inl ?_
        show c (s + m + 1) ≤ _
        omega
    · have n2 := hx m (by omega) (by omega)
      have up : c (s + m) < c (s + m + 1) := by
        apply Classical.byContradiction
        intro z
        exact n2 ⟨h3, by omega⟩
      refine .inr ⟨d, by omega, h1, ?_, ?_⟩
      · show _ ≤ c (s + m + 1); omega
      · show c (s + (m + 1) - 1) < c (s + m + 1)
        rw [show s + (m + 1) - 1 = s + m by omega]
        exact up
theorem valley10 {c : Nat → Int} {s e : Nat} (he : s ≤ e) (hb : ∀ j, s ≤ j → j ≤ e → 0 ≤ c j ∧ c j ≤ 5) (hn : ∀ j, s ≤ j → j < e → c j ≠ c (j + 1)) (hx : ∀ j, s < j → j < e → ¬ (c (j - 1) < c j ∧ c (j + 1) < c j)) : e - s ≤ 10 := by
  have v := valley c s (e - s) (fun j hj => hb _ (by omega) (by omega)) (fun j hj => hn _ (by omega) (by omega)) (fun j h0 hj => hx _ (by omega) (by omega))
  rw [show s + (e - s) = e by omega] at v
  have b1 := hb s (Nat.le_refl _) he
  have b2 := hb e he (Nat.le_refl _)
  rcases v with h | ⟨d, hd, h1, h2, _⟩
  · omega
  · have b3 := hb (s + d) (by omega) (by omega)
    omega
/-- colors of a row: from 0 to 5, neighbours different -/
structure Row (cs : List Int) : Prop where
  rng : ∀ j, j < cs.length → 0 ≤ cs.getD j 0 ∧ cs.getD j 0 ≤ 5
  nb : ∀ j, j + 1 < cs.length → cs.getD j 0 ≠ cs.getD (j + 1) 0
/-- a is 0 or a start, b a start, none between them -/
structure Gap (cs : List Int) (a b : Nat) : Prop where
  lt : a < b
  a0 : a = 0 ∨ (2 ≤ a ∧ stAt cs a = true)
  sb : stAt cs b = true
  b2 : 2 ≤ b
  non : ∀ j, a < j → j < b → 2 ≤ j → stAt cs j = false
theorem no_max {cs : List Int} {j : Nat} (h : stAt cs j = false) : ¬ (cs.getD (j - 1) 0 < cs.getD j 0 ∧ cs.getD (j + 1) 0 < cs.getD j 0) := fun ⟨x, y⟩ => by
  unfold stAt at h
  rw [decide_eq_true x, decide_eq_true y] at h
  exact absurd h (by decide)
theorem is_max {cs : List Int} {j : Nat} (h : stAt cs j = true) : cs.getD (j - 1) 0 < cs.getD j 0 ∧ cs.getD (j + 1) 0 < cs.getD j 0 := by
  unfold stAt at h
  rw [Bool.and_eq_true] at h
  exact ⟨of_decide_eq_true h.1, of_decide_eq_true h.2⟩
theorem Gap.size {cs : List Int} {a b : Nat} (g : Gap cs a b) (R : Row cs) (hb : b + 1 < cs.length) : a + 2 ≤ b ∧ b - a ≤ 10 + (if a = 0 then 1 else 0) := by
  refine ⟨?_, ?_⟩
  · rcases g.a0 with h | ⟨h, hs⟩
    · have := g.b2; omega
    · apply Nat.lt_of_le_of_ne g.lt
      intro e
      have m1 := is_max hs
      have m2 := is_max g.sb
      rw [← e] at m2
      simp only [Nat.succ_eq_add_one, Nat.add_sub_cancel] at m2
      omega
  · by_cases e : a = 0
    · rw [if_pos e]
      have := valley10 (c := fun j => cs.getD j 0) (s := 1) (e := b) (by have := g.b2; omega) (fun j _ hj => R.rng j (by omega)) (fun j _ hj => R.nb j (by omega)) (fun j h1 h2 => no_max (g.non j (by omega) h2 (by omega)))
      omega
    · rw [if_neg e]
      have := valley10 (c := fun j => cs.getD j 0) (s := a) (e := b) (by have := g.lt; omega) (fun j _ hj => R.rng j (by omega)) (fun j _ hj => R.nb j (by omega)) (fun j h1 h2 => no_max (g.non j h1 h2 (by have := g.a0; omega)))
      omega
/-- behind the last start -/
structure Last (cs : List Int) (a i : Nat) : Prop where
  le : a ≤ i + 1
  a0 : a = 0 ∨ (2 ≤ a ∧ stAt cs a = true)
  non : ∀ j, a < j → j ≤ i + 1 → 2 ≤ j → stAt cs j = false
theorem Last.size {cs : List Int} {a : Nat} (h0 : 3 ≤ cs.length) (g : Last cs a (cs.length - 3)) (R : Row cs) : a + 2 ≤ cs.length ∧ cs.length - a ≤ 11 + (if a = 0 then 1 else 0) := by
  have := g.le
  refine ⟨by omega, ?_⟩
  by_cases e : a = 0
  · rw [if_pos e]
    have := valley10 (c := fun j => cs.getD j 0) (s := 1) (e := cs.length - 1) (by omega) (fun j _ hj => R.rng j (by omega)) (fun j _ hj => R.nb j (by omega)) (fun j h1 h2 => no_max (g.non j (by omega) (by omega) (by omega)))
    omega
  · rw [if_neg e]
    have := valley10 (c := fun j => cs.getD j 0) (s := a) (e := cs.length - 1) (by omega) (fun j _ hj => R.rng j (by omega)) (fun j _ hj => R.nb j (by omega)) (fun j h1 h2 => no_max (g.non j h1 (by omega) (by have := g.a0; omega)))
    omega
/-- what the list of starts is -/
structure Sts (cs : List Int) (L : List Int) (i : Nat) : Prop where
  ne : 0 < L.length
  fst : L.getD 0 0 = 0
  gap : ∀ k, k + 1 < L.length → ∃ a b : Nat, L.getD k 0 = a ∧ L.getD (k + 1) 0 = b ∧ Gap cs a b ∧ b ≤ i + 1
  lst : ∃ a : Nat, L.getD (L.length - 1) 0 = a ∧ Last cs a i
theorem getD_l {xs ys : List Int} {i : Nat} (h : i < xs.length) : (xs ++ ys).getD i 0 = xs.getD i 0 := by
  rw [List.getD_eq_getElem?_getD, List.getD_eq_getElem?_getD, List.getElem?_append_left h]
theorem getD_r {xs : List Int} {y : Int} : (xs ++ [y]).getD xs.length 0 = y := by
  rw [List.getD_eq_getElem?_getD, List.getElem?_append_right (Nat.le_refl _), Nat.sub_self]
  rfl
theorem sts (cs : List Int) : ∀ i, Sts cs (stF cs i) i
  | 0 => ⟨(by show 0 < 1; decide), rfl, fun k h => absurd h (by show ¬ k + 1 < 1; omega), 0, rfl, by omega, .inl rfl, fun j h1 h2 h3 => by omega⟩
  | i + 1 => by
    obtain ⟨ne, fst, gap, a, ha, hl⟩ := sts cs i
    by_cases e : stAt cs (i + 2) = true
    · rw [stF_yes e]
      have ll : (stF cs i ++ [((i + 2 : Nat) : Int)]).length = (stF cs i).length + 1 := by rw [List.length_append]; rfl
      refine ⟨by omega, by rw [getD_l ne]; exact fst, fun k hk => ?_, i + 2, ?_, ?_⟩
      · rw [ll] at hk
        by_cases h : k + 1 < (stF cs i).length
        · obtain ⟨x, y, h1, h2, h3, h4⟩ := gap k h
          exact ⟨x, y, by rw [getD_l (by omega)]; exact h1, by rw [getD_l h]; exact h2, h3, by omega⟩
        · have ek : k + 1 = (stF cs i).length := by omega
          refine ⟨a, i + 2, ?_, ?_, ⟨?_, hl.a0, e, by omega, fun j h1 h2 h3 => hl.non j h1 (by omega) h3⟩, by omega⟩
          · rw [getD_l (by omega), ← ha, ← ek, Nat.add_sub_cancel]
          · rw [ek, getD_r]
          · have := hl.le; omega
      · rw [ll, Nat.add_sub_cancel, getD_r]
      · exact ⟨by omega, .inr ⟨by omega, e⟩, fun j h1 h2 _ => by omega⟩
    · have e' : stAt cs (i + 2) = false := by
        cases h : stAt cs (i + 2) with
        | true => exact absurd h e
        | false => rfl
      rw [stF_no e']
      refine ⟨ne, fst, fun k hk => ?_, a, ha, by have := hl.le; omega, hl.a0, fun j h1 h2 h3 => ?_⟩
      · obtain ⟨x, y, h1, h2, h3, h4⟩ := gap k hk
        exact ⟨x, y, h1, h2, h3, by omega⟩
      · by_cases ej : j = i + 2
        · rw [ej]; exact e'
        · exact hl.non j h1 (by omega) h3
def endAt (cs : List Int) (k : Nat) : Int := if k + 1 < (starts cs).length then (starts cs).getD (k + 1) 0 else (cs.length : Int)
theorem size_ok {cs : List Int} (R : Row cs) (h0 : 0 < cs.length) {k : Nat} (hk : k < (starts cs).length) :
    (if (cs.length : Int) < 2 then (cs.length : Int) else 2) ≤ endAt cs k - (starts cs).getD k 0 ∧ endAt cs k - (starts cs).getD k 0 ≤ 10 + (if k = 0 then 1 else 0) + (if k = (starts cs).length - 1 then 1 else 0) := by
  have ne : cs ≠ [] := fun e => by rw [e] at h0; exact absurd h0 (by decide)
  have es : starts cs = stF cs (cs.length - 3) := if_neg ne
  have S := sts cs (cs.length - 3)
  unfold endAt
  rw [es] at hk ⊢
  have kz : ∀ a : Nat, (stF cs (cs.length - 3)).getD k 0 = a → a = 0 → k = 0 := fun a h e => by
    cases k with
    | zero => rfl
    | succ k =>
      obtain ⟨x, y, _, h2, h3, _⟩ := S.gap k hk
      have := h3.b2
      omega
  by_cases h3 : 3 ≤ cs.length
  · by_cases hk1 : k + 1 < (stF cs (cs.length - 3)).length
    · rw [if_pos hk1]
      obtain ⟨a, b, h1, h2, g, hb⟩ := S.gap k hk1
      have sz := g.size R (by omega)
      have z := kz a h1
      rw [h1, h2]
      have lt := g.lt
      by_cases ea : a = 0
      · have e0 := z ea
        rw [if_pos e0]
        rw [if_pos ea] at sz
        split <;> split <;> omega
      · rw [if_neg ea] at sz
        split <;> split <;> split <;> omega
    · rw [if_neg hk1]
      obtain ⟨a, ha, g⟩ := S.lst
      have ek : k = (stF cs (cs.length - 3)).length - 1 := by omega
      rw [← ek] at ha
      have sz := g.size h3 R
      have z := kz a ha
      rw [ha, if_pos ek]
      by_cases ea : a = 0
      · have e0 := z ea
        rw [if_pos e0]
        rw [if_pos ea] at sz
        split <;> omega
      · rw [if_neg ea] at sz
        split <;> split <;> omega
  · have e0 : cs.length - 3 = 0 := by omega
    rw [e0] at hk ⊢
    have hk0 : k = 0 := by
      have : (stF cs 0).length = 1 := rfl
      omega
    subst hk0
    have l1 : (stF cs 0).length = 1 := rfl
    rw [l1]
    rw [if_neg (show ¬ (0 + 1 < 1) by omega), if_pos rfl]
    show _ ≤ (cs.length : Int) - 0 ∧ (cs.length : Int) - 0 ≤ _
    split <;> omega
theorem starts_one (cs : List Int) : (starts cs).take 1 = List.replicate (min 1 cs.length) 0 := by
  cases cs with
  | nil => rfl
  | cons c r =>
    have es : starts (c :: r) = stF (c :: r) ((c :: r).length - 3) := if_neg (List.cons_ne_nil _ _)
    have S := sts (c :: r) ((c :: r).length - 3)
    rw [← es] at S
    obtain ⟨ne, fst, _, _⟩ := S
    generalize starts (c :: r) = L at ne fst
    cases L with
    | nil => exact absurd ne (by decide)
    | cons x y =>
      have : x = 0 := fst
      subst this
      show [0] = List.replicate (min 1 (r.length + 1)) 0
      rw [Nat.min_eq_left (by omega)]
      rfl
theorem ends_get {cs : List Int} {k : Nat} (hk : k < (starts cs).length) : ((starts cs).drop 1 ++ [(cs.length : Int)])[k]? = some (endAt cs k) := by
  unfold endAt
  have hl : ((starts cs).drop 1).length = (starts cs).length - 1 := List.length_drop
  by_cases h : k + 1 < (starts cs).length
  · rw [if_pos h, List.getElem?_append_left (by omega), List.getElem?_drop, Nat.add_comm 1 k, List.getElem?_eq_getElem h, List.getD_eq_getElem?_getD, List.getElem?_eq_getElem h]
    rfl
  · rw [if_neg h, List.getElem?_append_right (by omega), hl, show k - ((starts cs).length - 1) = 0 by omega]
    rfl
end Sm
def top (i : Nat) : Stmt := PySem.Challenge.pw_sameshape_k14_starts_are_dense.main.body.getD i (.Pass ⟨0, 0, 0, 0⟩)
structure Txt (mg : Str → Option Value) : Prop where
  n_range : mg "range" = none
  n_tuple : mg "tuple" = none
  n_len : mg "len" = none
  n_list : mg "list" = none
  n_int : mg "int" = none
  n_abs : mg "abs" = none
  n_max : mg "max" = none
  n_isinstance : mg "isinstance" = none
  n_min : mg "min" = none
section
variable {P : Program} {w : World} {K : PySem.W.Frag} {mg : Str → Option Value} {base : Heap}
def spDraw : Sp := fun vs H Q _ => ∃ (t l : Addr) (m : Int), vs = [.ref t, .int m] ∧ Tape H t l ∧ m < 18446744073709551616 ∧ ∀ (r : Int) (H' : Hp), 0 ≤ r → r < max m 1 → Go t l H H' → Q (.int r) H'
abbrev s__law_draw : Stmt := top 4
theorem c__law_draw : FnScope ["tape", "many", "number", "place"] ["tape", "many"] (defScope s__law_draw) := ⟨rfl, rfl, rfl, by decide +kernel, rfl, by decide +kernel, by decide +kernel⟩

theorem ok_draw {f : Addr} {fd : FuncData} (F : Fun K "_law_draw" "_law_draw" s__law_draw f fd) (T : Txt mg) : FnOk P w K mg base CX0 1 f fd ["tape", "many"] spDraw := by
  refine F.ok c__law_draw (fun vs H Q E h => ?_) (fun cdv A outer s H vs Q E hr h => ?_)
  · obtain ⟨t, l, m, rfl, _⟩ := h
    rfl
  · obtain ⟨t, l, m, rfl, TP, hm, k⟩ := h
    obtain ⟨ns, p, n, sd, h1, h2, h3, p0, n0, s0⟩ := TP.ex
    refine ⟨_, (pss_cons (ps_if (pt_cmpR op_eq (pe_ix ix_list (pv 0) pe_int (fun _ _ => rfl)) pe_int (nomark _)) (pss_cons (ps_set (i := 3) c__law_draw.nd rfl (Or.inl rfl) (pe_ix ix_list (pv 0) pe_int (fun _ _ => rfl)))
      (pss_cons (ps_set (i := 2) c__law_draw.nd rfl (Or.inl rfl) pe_int)
      (pss_cons (ps_if (pt_cmpR op_lt (pv 3) (pe_callB call_len_seq (by rfl) T.n_len (by decide +kernel) (pa_cons (pe_ix ix_list (pv 0) pe_int (fun _ _ => rfl)) pa_nil)) (nomark _)) (pss_one (ps_set (i := 2) c__law_draw.nd rfl (Or.inl rfl) (pe_callB call_abs (by rfl) T.n_abs (by decide +kernel) (pa_cons (pe_callTy call_int1 (by rfl) T.n_int (by decide +kernel) (pa_cons (pe_ix ix_list (pe_ix ix_list (pv 0) pe_int (fun _ _ => rfl)) (pv 3) (fun _ _ => rfl)) pa_nil)) pa_nil)))) (pss_cons (ps_asg (pe_op op_modN (pe_callTy call_int1 (by rfl) T.n_int (by decide +kernel) (pa_cons (pe_op op_add (pe_op op_add (pe_op op_mul (pe_ix ix_list (pv 0) pe_int (fun _ _ => rfl)) pe_int) (pv 3)) pe_int) pa_nil)) pe_int) (pg_sub (pv 0) pe_int set_list))
      (pss_one (ps_set (i := 2) c__law_draw.nd rfl (Or.inl rfl) (pe_ix ix_list (pv 0) pe_int (fun _ _ => rfl))))))
      (pss_cons (ps_asg (pe_op op_add (pv 3) pe_int) (pg_sub (pv 0) pe_int set_list))
      (pss_cons (ps_if (pt_cmpR op_lt (pv 2) (pe_op op_pow pe_int pe_int) (nomark _)) (pss_cons (ps_set (i := 2) c__law_draw.nd rfl (Or.inl rfl) (pe_op op_modN (pe_callTy call_int1 (by rfl) T.n_int (by decide +kernel) (pa_cons (pe_op op_add (pe_op op_add (pe_op op_mul (pv 2) pe_int) (pe_op op_mul (pv 3) pe_int)) pe_int) pa_nil)) pe_int))
      (pss_cons (ps_set (i := 2) c__law_draw.nd rfl (Or.inl rfl) (pe_op op_modN (pe_callTy call_int1 (by rfl) T.n_int (by decide +kernel) (pa_cons (pe_op op_mul (pv 2) pe_int) pa_nil)) pe_int))
      (pss_one (ps_ret (pe_op op_modN (pe_callTy call_int1 (by rfl) T.n_int (by decide +kernel) (pa_cons (pv 2) pa_nil)) (pe_callB (call_max2 rfl) (by rfl) T.n_max (by decide +kernel) (pa_cons (pv 1) (pa_cons pe_int pa_nil)))))))) pss_nil)
      (pss_one (ps_asg (pv 2) (pg_sub (pv 0) pe_int set_list)))))))) pss_nil)
      (pss_cons (ps_set (i := 2) c__law_draw.nd rfl (Or.inl rfl) (pe_ix ix_list (pv 0) pe_int (fun _ _ => rfl)))
      (pss_cons (ps_asg (pe_op op_fdivW (pv 2) (pe_callB (call_max2 rfl) (by rfl) T.n_max (by decide +kernel) (pa_cons (pv 1) (pa_cons pe_int pa_nil)))) (pg_sub (pv 0) pe_int set_list))
      (pss_one (ps_ret (pe_op op_modN (pe_callTy call_int1 (by rfl) T.n_int (by decide +kernel) (pa_cons (pv 2) pa_nil)) (pe_callB (call_max2 rfl) (by rfl) T.n_max (by decide +kernel) (pa_cons (pv 1) (pa_cons pe_int pa_nil))))))))), ?_⟩
    walk_at "wp"
    have fin : ∀ (H1 : Hp) (p1 n1 s1 r : Int), H1 t = some (.lst [.ref l, .int p1, .int n1, .int s1]) → H1 l = some (.lst (ns.map V.int)) → 0 ≤ p1 → 0 ≤ n1 → 0 ≤ s1 → Ext t H H1 → Q (.int (r.fmod (if 1 > m then 1 else m))) H1 := fun H1 p1 n1 s1 r a1 a2 a3 a4 a5 a6 => by
      have z : (0 : Int) < if 1 > m then 1 else m := by split <;> omega
      have b := fm (a := r) z
      refine k _ _ b.1 ?_ ⟨a6, ns, p1, n1, s1, a1, a2, h3, a3, a4, a5⟩
      have y : (if 1 > m then 1 else m) = max m 1 := by split <;> omega
      rw [← y]
      exact b.2
    have big : ∀ (H1 : Hp) (p1 n1 s1 : Int), H1 t = some (.lst [.ref l, .int p1, .int n1, .int s1]) → H1 l = some (.lst (ns.map V.int)) → 0 ≤ p1 → 0 ≤ n1 → 0 ≤ s1 → Ext t H H1 → CDivW n1 (if 2 > m then 2 else m) ∧ 0 ≤ n1 / (if 2 > m then 2 else m) := fun H1 p1 n1 s1 a1 a2 a3 a4 a5 a6 => by
      have z : (0 : Int) < if 2 > m then 2 else m := by split <;> omega
      refine ⟨wide_div (b := 64) z ?_ (by decide) (by decide), Int.ediv_nonneg a4 (Int.le_of_lt z)⟩
      split <;> omega
    have eq1 : ∀ {x y : Int} {o : HO}, Ext t H (upd H t o) := ext_upd
    have e2 : ∀ {o u : HO}, Ext t H (upd (upd H t o) t u) := fun {o u} => by rw [upd_upd]; exact ext_upd
    have e3 : ∀ {o u v : HO}, Ext t H (upd (upd (upd H t o) t u) t v) := fun {o u v} => by rw [upd_upd, upd_upd]; exact ext_upd
    have e4 : ∀ {o u v x : HO}, Ext t H (upd (upd (upd (upd H t o) t u) t v) t x) := fun {o u v x} => by rw [upd_upd, upd_upd, upd_upd]; exact ext_upd
    refine w_ite (fun e => ?_) (fun e => ?_)
    · subst e
      walk_at "wp"
      refine w_ite (fun e => ?_) (fun e => ?_)
      · walk_at "wp"
        have hp : p.toNat < ns.length := by rw [List.length_map] at e; omega
        obtain ⟨z, ez⟩ : ∃ z, ns[p.toNat]? = some z := ⟨_, List.getElem?_eq_getElem hp⟩
        refine w_ixL (.of h2) (v := .int z) (at_of (j := p.toNat) (by omega) (by rw [List.getElem?_map, ez]; rfl)) ?_
        walk_at "wp"
        refine w_ite (fun e => ?_) (fun e => ?_)
        · walk_at "wp"
          exact fin _ (p + 1) 0 sd _ upd_same (by walk_at "hp") (by omega) (by omega) s0 ext_upd
        · walk_at "wp"
          have nz : 0 ≤ (if z < 0 then -z else z) := by split <;> omega
          obtain ⟨c1, c2⟩ := big (upd (upd H t (.lst [])) t (.lst [.ref l, .int (p + 1), .int (if z < 0 then -z else z), .int sd])) (p + 1) (if z < 0 then -z else z) sd upd_same (by walk_at "hp") (by omega) nz s0 e2
          refine w_I c1 ?_
          walk_at "wp"
          exact fin _ (p + 1) _ sd _ upd_same (by walk_at "hp") (by omega) c2 s0 e3
      · walk_at "wp"
        have sz : 0 ≤ (sd * 48271 + p + 1).fmod 2147483647 := (fm (by decide)).1
        refine w_ite (fun e => ?_) (fun e => ?_)
        · walk_at "wp"
          exact fin _ (p + 1) 0 _ _ upd_same (by walk_at "hp") (by omega) (by omega) sz e2
        · walk_at "wp"
          obtain ⟨c1, c2⟩ := big (upd (upd H t (.lst [])) t (.lst [.ref l, .int (p + 1), .int _, .int _])) (p + 1) _ _ upd_same (by walk_at "hp") (by omega) sz sz e2
          refine w_I c1 ?_
          walk_at "wp"
          exact fin _ (p + 1) _ _ _ upd_same (by walk_at "hp") (by omega) c2 sz e4
    · walk_at "wp"
      obtain ⟨c1, c2⟩ := big H p n sd h1 h2 p0 n0 s0 (Ext.refl t H)
      refine w_I c1 ?_
      walk_at "wp"
      exact fin _ p _ sd _ upd_same (by walk_at "hp") p0 c2 s0 ext_upd
def spTape (K : PySem.W.Frag) : Sp := fun vs H Q _ => ∃ (a : Addr) (ns : List Int), vs = [.ref a] ∧ SqL K H a (ns.map V.int) ∧ ∀ (t l : Addr) (H' : Hp), Same H H' → Tape H' t l → Q (.ref t) H'
abbrev s__law_tape : Stmt := top 3
theorem c__law_tape : FnScope ["script", "total", "cell"] ["script"] (defScope s__law_tape) := ⟨rfl, rfl, rfl, by decide +kernel, rfl, by decide +kernel, by decide +kernel⟩

theorem ok_tape {f : Addr} {fd : FuncData} (F : Fun K "_law_tape" "_law_tape" s__law_tape f fd) (T : Txt mg) : FnOk P w K mg base CX0 1 f fd ["script"] (spTape K) := by
  refine F.ok c__law_tape (fun vs H Q E h => ?_) (fun cdv A outer s H vs Q E hr h => ?_)
  · obtain ⟨a, ns, rfl, _⟩ := h
    rfl
  · obtain ⟨a, ns, rfl, hS, k⟩ := h
    refine ⟨_, (pss_cons (ps_set (i := 1) c__law_tape.nd rfl (Or.inl rfl) pe_int)
      (pss_cons (ps_for PassesOwn.never rfl (pi_list (pv 0)) (pg_name (i := 2) c__law_tape.nd rfl (Or.inl rfl)) (pss_one (ps_set (i := 1) c__law_tape.nd rfl (Or.inl rfl) (pe_op op_modN (pe_callTy call_int1 (by rfl) T.n_int (by decide +kernel) (pa_cons (pe_op op_add (pe_op op_mul (pv 1) pe_int) (pe_callB call_abs (by rfl) T.n_abs (by decide +kernel) (pa_cons (pe_callTy call_int1 (by rfl) T.n_int (by decide +kernel) (pa_cons (pv 2) pa_nil)) pa_nil))) pa_nil)) pe_int))))
      (pss_one (ps_ret (pe_lst (pa_cons (pe_callTy call_list_of (by rfl) T.n_list (by decide +kernel) (pa_cons (pv 0) pa_nil)) (pa_cons pe_int (pa_cons pe_int (pa_cons (pv 1) pa_nil))))))))), ?_⟩
    walk_at "wp"
    refine ⟨_, rfl, ⟨_, hS⟩, ?_⟩
    refine for_list (K := K) (a := a) (xs := ns.map V.int) (fun i σ H2 => ∃ (z : Int) (y : Option V), 0 ≤ z ∧ σ = [some (.ref a), some (.int z), y] ∧ H2 = H) ⟨7, none, by decide, rfl, rfl⟩ (fun i σ H2 _ ⟨_, _, _, _, e⟩ => by rw [e]; exact hS) ?_ ?_
    · rintro i x σ H2 hx ⟨z, y, z0, rfl, rfl⟩
      obtain ⟨v, rfl⟩ : ∃ v, x = V.int v := by
        rw [List.getElem?_map] at hx
        cases e : ns[i]? with
        | none => rw [e] at hx; cases hx
        | some v => rw [e] at hx; exact ⟨v, (Option.some.inj hx).symm⟩
      walk_at "wp"
      exact ⟨_, _, (fm (by decide)).1, rfl, rfl⟩
    · rintro σ H2 ⟨z, y, z0, rfl, rfl⟩
      walk_at "wp"
      refine ⟨a, ns.map V.int, rfl, .inl hS, fun l hl => ?_⟩
      walk_at "wp"
      refine ⟨(by show 4 ≤ sizeLine; decide), fun t ht => ?_⟩
      have nlt : l ≠ t := fun e => by rw [← e, upd_same] at ht; cases ht
      have s1 : Same H2 (upd H2 l (.lst (ns.map V.int))) := same_new hl
      have ht0 : H2 t = none := s1.free ht
      exact k t l _ (s1.trans (same_new ht)) ⟨ns, 0, 0, z, upd_same, (upd_ne nlt).trans upd_same, nlt, Int.le_refl _, Int.le_refl _, z0⟩
open Sm
theorem gd {cs : List Int} {i : Nat} (h : i < cs.length) : (cs.map V.int)[i]? = some (.int (cs.getD i 0)) := by
  rw [List.getElem?_map, List.getElem?_eq_getElem h]
  show some (V.int cs[i]) = _
  rw [List.getD_eq_getElem?_getD, List.getElem?_eq_getElem h]
  rfl
def spStarts : Sp := fun vs H Q _ => ∃ (a : Addr) (cs : List Int), vs = [.ref a] ∧ H a = some (.tup (cs.map V.int)) ∧ cs.length ≤ 2000 ∧ ∀ (p : Addr) (H' : Hp), Same H H' → H' p = some (.tup ((starts cs).map V.int)) → Q (.ref p) H'
abbrev s_starts_of : Stmt := top 1
theorem c_starts_of : FnScope ["colors", "starts", "place"] ["colors"] (defScope s_starts_of) := ⟨rfl, rfl, rfl, by decide +kernel, rfl, by decide +kernel, by decide +kernel⟩

theorem ok_starts {f : Addr} {fd : FuncData} (F : Fun K "starts_of" "starts_of" s_starts_of f fd) (T : Txt mg) : FnOk P w K mg base CX0 1 f fd ["colors"] spStarts := by
  refine F.ok c_starts_of (fun vs H Q E h => ?_) (fun cdv A outer s H vs Q E hr h => ?_)
  · obtain ⟨a, cs, rfl, _⟩ := h
    rfl
  · obtain ⟨a, cs, rfl, ha, hl, k⟩ := h
    refine ⟨_, (pss_cons (ps_if (pt_not (pt_truth (pv 0) (by intro _; rfl))) (pss_one (ps_ret (pe_tup pa_nil))) pss_nil)
      (pss_cons (ps_set (i := 1) c_starts_of.nd rfl (Or.inl rfl) (pe_lst (pa_cons pe_int pa_nil)))
      (pss_cons (ps_for PassesOwn.never rfl (pi_range2 (by rfl) T.n_range (pa_cons pe_int (pa_cons (pe_op op_sub (pe_callB call_len_seq (by rfl) T.n_len (by decide +kernel) (pa_cons (pv 0) pa_nil)) pe_int) pa_nil))) (pg_name (i := 2) c_starts_of.nd rfl (Or.inl rfl)) (pss_one (ps_if (PW.pt (pw_and (pt_cmpR op_lt (pe_ix ix_tup (pv 0) (pe_op op_sub (pv 2) pe_int) (fun _ _ => rfl)) (pe_ix ix_tup (pv 0) (pv 2) (fun _ _ => rfl)) (nomark _)) (pw_and1 (pt_cmpR op_gt (pe_ix ix_tup (pv 0) (pv 2) (fun _ _ => rfl)) (pe_ix ix_tup (pv 0) (pe_op op_add (pv 2) pe_int) (fun _ _ => rfl)) (nomark _))))) (pss_one (ps_expr (pe_bm PySem.F.plainAttrs_list PySem.F.slot_list_append PySem.F.type_list_append mt_append (pv 1) (pa_cons (pv 2) pa_nil)))) pss_nil)))
      (pss_one (ps_ret (pe_callTy call_tuple_of (by rfl) T.n_tuple (by decide +kernel) (pa_cons (pv 1) pa_nil))))))), ?_⟩
    walk_at "wp"
    refine ⟨_, .inr (.inl ⟨_, .of ha, rfl⟩), ?_⟩
    cases cs with
    | nil =>
      refine iteT ?_
      walk_at "wp"
      refine ⟨Nat.zero_le _, fun p np => ?_⟩
      exact k p _ (same_new np) upd_same
    | cons c0 cr =>
    refine iteF ?_
    walk_at "wp"
    generalize hcs : c0 :: cr = cs at ha hl k
    have h0 : 0 < cs.length := by rw [← hcs]; exact Nat.succ_pos _
    have h00 : cs ≠ [] := fun e => by rw [e] at h0; exact absurd h0 (by decide)
    refine ⟨szle (by show 1 ≤ _; decide), fun o no => ?_⟩
    have ano : a ≠ o := fun e => by rw [e, no] at ha; cases ha
    walk_at "wp"
    have ll : (cs.map V.int).length = cs.length := List.length_map _
    refine ⟨⟨by decide, by decide, by omega, by omega⟩, ?_⟩
    have en : (((cs.map V.int).length : Int) - 1 - 2).toNat = cs.length - 3 := by omega
    rw [en]
    refine for_range (lo := 2) (n := cs.length - 3) (fun i σ H2 => ∃ (v : Option V), σ = [some (.ref a), some (.ref o), v] ∧ H2 o = some (.lst ((stF cs i).map V.int)) ∧ Same H H2) ⟨none, rfl, upd_same, same_new no⟩ ?_ ?_
    · rintro i σ H2 hi ⟨v, rfl, ho, sm⟩
      have ha2 := sm _ _ ha
      have g1 : ((2 : Int) + (i : Int)) - 1 = ((i + 1 : Nat) : Int) := by omega
      have g2 : ((2 : Int) + (i : Int)) = ((i + 2 : Nat) : Int) := by omega
      have g3 : ((i + 2 : Nat) : Int) + 1 = ((i + 3 : Nat) : Int) := by omega
      have hl2 := stF_len cs i
      have hsz : ((stF cs i).map V.int).length < sizeLine := szlt (by rw [List.length_map]; omega)
      walk_at "wp"
      refine w_ixT (.of ha2) (at_of g1 (gd (by omega))) ?_
      walk_at "wp"
      refine w_ixT (.of ha2) (at_of g2 (gd (by omega))) ?_
      walk_at "wp"
      have g23 : ((2 : Int) + (i : Int)) + 1 = ((i + 3 : Nat) : Int) := by omega
      have no' : stAt cs (i + 2) = false → ∃ v', [some (V.ref a), some (.ref o), some (.int (2 + (i : Int)))] = [some (.ref a), some (.ref o), v'] ∧ H2 o = some (.lst ((stF cs (i + 1)).map V.int)) ∧ Same H H2 := fun e => ⟨_, rfl, by rw [stF_no e]; exact ho, sm⟩
      refine w_ite (fun e1 => ?_) (fun e1 => ?_)
      · walk_at "wp"
        refine w_ixT (.of ha2) (at_of g2 (gd (by omega))) ?_
        walk_at "wp"
        refine w_ixT (.of ha2) (at_of g23 (gd (by omega))) ?_
        walk_at "wp"
        refine w_ite (fun e2 => ?_) (fun e2 => ?_)
        · walk_at "wp"
          refine ⟨_, rfl, ?_, fun b u hb => ?_⟩
          · rw [upd_same, stF_yes (by rw [stAt_eq, decide_eq_true e1, decide_eq_true e2]; rfl), List.map_append, g2]
            rfl
          · rw [upd_ne (fun e => by rw [e, no] at hb; cases hb)]
            exact sm _ _ hb
        · walk_at "wp"
          refine no' ?_
          rw [stAt_eq, decide_eq_false e2, Bool.and_false]
      · walk_at "wp"
        refine no' ?_
        rw [stAt_eq, decide_eq_false e1, Bool.false_and]
    · rintro σ H2 ⟨v, rfl, ho, sm⟩
      walk_at "wp"
      intro p np
      refine k p _ (sm.trans (same_new np)) ?_
      rw [upd_same]
      unfold starts
      rw [if_neg h00]

def spSlopes : Sp := fun vs H Q _ => ∃ (t l : Addr), vs = [.ref t] ∧ Tape H t l ∧ ∀ (p : Addr) (H' : Hp) (cs : List Int), Row cs → cs.length ≤ 60 → H' p = some (.lst (cs.map V.int)) → H p = none → Go t l H H' → Q (.ref p) H'
abbrev s__law_slopes : Stmt := top 5
theorem c__law_slopes : FnScope ["tape", "colors", "color", "step", "k", "turn"] ["tape"] (defScope s__law_slopes) := ⟨rfl, rfl, rfl, by decide +kernel, rfl, by decide +kernel, by decide +kernel⟩

theorem row_add {cs : List Int} {c : Int} (R : Row cs) (h0 : 0 ≤ c) (h5 : c ≤ 5) (hn : 0 < cs.length → cs.getD (cs.length - 1) 0 ≠ c) : Row (cs ++ [c]) := by
  have ll : (cs ++ [c]).length = cs.length + 1 := by rw [List.length_append]; rfl
  refine ⟨fun j hj => ?_, fun j hj => ?_⟩
  · rw [ll] at hj
    by_cases e : j < cs.length
    · rw [getD_l e]; exact R.rng j e
    · have : j = cs.length := by omega
      subst this
      rw [getD_r]; exact ⟨h0, h5⟩
  · rw [ll] at hj
    by_cases e : j + 1 < cs.length
    · rw [getD_l (by omega), getD_l e]; exact R.nb j e
    · have e1 : j + 1 = cs.length := by omega
      rw [getD_l (by omega), e1, getD_r]
      have := hn (by omega)
      rw [show cs.length - 1 = j by omega] at this
      exact this
theorem ok_slopes {f : Addr} {fd : FuncData} (F : Fun K "_law_slopes" "_law_slopes" s__law_slopes f fd) (T : Txt mg) (C__law_draw : Cl P w K mg base 1 "_law_draw" ["tape", "many"] spDraw) : FnOk P w K mg base CX0 2 f fd ["tape"] spSlopes := by
  refine F.ok c__law_slopes (fun vs H Q E h => ?_) (fun cdv A outer s H vs Q E hr h => ?_)
  · obtain ⟨t, l, rfl, _⟩ := h
    rfl
  · obtain ⟨t, l, rfl, TP, k⟩ := h
    refine ⟨_, (pss_cons (ps_set (i := 1) c__law_slopes.nd rfl (Or.inl rfl) (pe_lst pa_nil))
      (pss_cons (ps_set (i := 2) c__law_slopes.nd rfl (Or.inl rfl) (pe_cl C__law_draw (hr.mono (by omega)) (by rfl) (pa_cons (pv 0) (pa_cons pe_int pa_nil))))
      (pss_cons (ps_set (i := 3) c__law_slopes.nd rfl (Or.inl rfl) (pe_op op_sub pe_int (pe_op op_mul pe_int (pe_cl C__law_draw (hr.mono (by omega)) (by rfl) (pa_cons (pv 0) (pa_cons pe_int pa_nil))))))
      (pss_cons (ps_for PassesOwn.never rfl (pi_range1 (by rfl) T.n_range (pa_cons (pe_cl C__law_draw (hr.mono (by omega)) (by rfl) (pa_cons (pv 0) (pa_cons pe_int pa_nil))) pa_nil)) (pg_name (i := 4) c__law_slopes.nd rfl (Or.inl rfl)) (pss_cons (ps_expr (pe_bm PySem.F.plainAttrs_list PySem.F.slot_list_append PySem.F.type_list_append mt_append (pv 1) (pa_cons (pv 2) pa_nil)))
      (pss_cons (ps_set (i := 5) c__law_slopes.nd rfl (Or.inl rfl) (pe_cl C__law_draw (hr.mono (by omega)) (by rfl) (pa_cons (pv 0) (pa_cons pe_int pa_nil))))
      (pss_one (ps_if (pt_cmpR op_eq (pv 5) pe_int (nomark _)) (pss_one (ps_set (i := 2) c__law_slopes.nd rfl (Or.inl rfl) (pe_op op_modN (pe_callTy call_int1 (by rfl) T.n_int (by decide +kernel) (pa_cons (pe_op op_add (pe_op op_add (pv 2) pe_int) (pe_cl C__law_draw (hr.mono (by omega)) (by rfl) (pa_cons (pv 0) (pa_cons pe_int pa_nil)))) pa_nil)) pe_int))) (pss_cons (ps_if (PW.pt (pw_or (pt_cmpR op_eq (pv 5) pe_int (nomark _)) (pw_or (pt_cmpR op_lt (pe_op op_add (pv 2) (pv 3)) pe_int (nomark _)) (pw_or1 (pt_cmpR op_gt (pe_op op_add (pv 2) (pv 3)) pe_int (nomark _)))))) (pss_one (ps_set (i := 3) c__law_slopes.nd rfl (Or.inl rfl) (pe_un un_neg (pv 3)))) pss_nil)
      (pss_cons (ps_if (PW.pt (pw_or (pt_cmpR op_lt (pe_op op_add (pv 2) (pv 3)) pe_int (nomark _)) (pw_or1 (pt_cmpR op_gt (pe_op op_add (pv 2) (pv 3)) pe_int (nomark _))))) (pss_one (ps_set (i := 3) c__law_slopes.nd rfl (Or.inl rfl) (pe_un un_neg (pv 3)))) pss_nil)
      (pss_one (ps_set (i := 2) c__law_slopes.nd rfl (Or.inl rfl) (pe_op op_add (pv 2) (pv 3)))))))))))
      (pss_one (ps_ret (pv 1))))))), ?_⟩
    walk_at "wp"
    refine ⟨Nat.zero_le _, fun o no => ?_⟩
    obtain ⟨oH, ot⟩ := (Go.refl TP).free no
    walk_at "wp"
    refine ⟨t, l, _, rfl, ((Go.refl TP).new no).T, by decide, fun c0 H0 l0 u0 G0 => ?_⟩
    have ho0 := G0.at upd_same ot.1
    walk_at "wp"
    refine ⟨t, l, _, rfl, G0.T, by decide, fun d1 H1 l1 u1 G1 => ?_⟩
    have ho1 := G1.at ho0 ot.1
    walk_at "wp"
    refine ⟨t, l, _, rfl, G1.T, by decide, fun r2 H2 l2 u2 G2 => ?_⟩
    have ho2 := G2.at ho1 ot.1
    replace u0 : c0 < 6 := u0
    replace u1 : d1 < 2 := u1
    replace u2 : r2 < 60 := u2
    have GG : Go t l H H2 := (((Go.refl TP).new no).trans G0).trans (G1.trans G2)
    walk_at "wp"
    refine ⟨by omega, by omega, ?_⟩
    refine for_range (lo := 0) (n := r2.toNat) (fun i σ H3 => ∃ (v1 v2 : Option V) (c s : Int) (cs : List Int), σ = [some (.ref t), some (.ref o), some (.int c), some (.int s), v1, v2] ∧ H3 o = some (.lst (cs.map V.int)) ∧ cs.length = i ∧ Row cs ∧ (0 < cs.length → cs.getD (cs.length - 1) 0 ≠ c) ∧ 0 ≤ c ∧ c ≤ 5 ∧ (s = 1 ∨ s = -1) ∧ Go t l H H3) ⟨none, none, c0, 1 - 2 * d1, [], rfl, ho2, rfl, ⟨fun j h => absurd h (by show ¬ j < 0; omega), fun j h => absurd h (by show ¬ j + 1 < 0; omega)⟩, (fun h => absurd h (by show ¬ 0 < 0; omega)), l0, by omega, by omega, GG⟩ ?_ ?_
    · rintro i σ H3 hi ⟨v1, v2, c, s, cs, rfl, ho, hl, R, hn, c0', c5, hs, G3⟩
      have hsz : (cs.map V.int).length < sizeLine := szlt (by rw [List.length_map]; omega)
      have R' := row_add R c0' c5 hn
      have ll : (cs ++ [c]).length = i + 1 := by rw [List.length_append, hl]; rfl
      have lastc : (cs ++ [c]).getD ((cs ++ [c]).length - 1) 0 = c := by rw [ll, Nat.add_sub_cancel, ← hl, getD_r]
      walk_at "wp"
      refine ⟨t, l, _, rfl, (G3.put oH ot).T, by decide, fun r4 H4 l4 u4 G4 => ?_⟩
      have ho4 := G4.at upd_same ot.1
      have hm : cs.map V.int ++ [V.int c] = (cs ++ [c]).map V.int := by rw [List.map_append]; rfl
      rw [hm] at ho4
      have G34 : Go t l H H4 := (G3.put oH ot).trans G4
      have fin : ∀ (H5 : Hp) (c' s' : Int), H5 o = some (.lst ((cs ++ [c]).map V.int)) → Go t l H H5 → c' ≠ c → 0 ≤ c' → c' ≤ 5 → (s' = 1 ∨ s' = -1) → ∀ v1, ∃ (v1' v2' : Option V) (c s : Int) (cs' : List Int), [some (.ref t), some (.ref o), some (.int c'), some (.int s'), some (.int (0 + (i : Int))), v1] = [some (.ref t), some (.ref o), some (.int c), some (.int s), v1', v2'] ∧ H5 o = some (.lst (cs'.map V.int)) ∧ cs'.length = i + 1 ∧ Row cs' ∧ (0 < cs'.length → cs'.getD (cs'.length - 1) 0 ≠ c) ∧ 0 ≤ c ∧ c ≤ 5 ∧ (s = 1 ∨ s = -1) ∧ Go t l H H5 := fun H5 c' s' a1 a2 a3 a4 a5 a6 v1 =>
        ⟨_, _, c', s', cs ++ [c], rfl, a1, ll, R', (fun _ => by rw [lastc]; exact fun e => a3 e.symm), a4, a5, a6, a2⟩
      walk_at "wp"
      refine w_ite (fun e => ?_) (fun e => ?_)
      · walk_at "wp"
        refine ⟨t, l, _, rfl, G4.T, by decide, fun r5 H5 l5 u5 G5 => ?_⟩
        replace u5 : r5 < 5 := u5
        walk_at "wp"
        have fz := fm (a := c + 1 + r5) (b := 6) (by decide)
        rw [Int.fmod_eq_emod_of_nonneg _ (by decide)] at fz ⊢
        exact fin H5 _ s (G5.at ho4 ot.1) (G34.trans G5) (by omega) fz.1 (by omega) hs _
      · repeat' first | walk_at "w1" | refine w_ite (fun _ => ?_) (fun _ => ?_)
        all_goals exact fin H4 _ _ ho4 G34 (by omega) (by omega) (by omega) (by omega) _
    · rintro σ H3 ⟨v1, v2, c, s, cs, rfl, ho, hl, R, hn, c0', c5, hs, G3⟩
      walk_at "wp"
      exact k o H3 cs R (by omega) ho oH G3
theorem nil_map (L : List Int) : (L.map V.int = []) = (L = []) := by
  cases L <;> simp
theorem dpl {K : PySem.W.Frag} {H : Hp} : ∀ L : List Int, DpAll K H (L.map V.int) (L.map .int)
  | [] => .nil
  | x :: r => .cons (.int x) (dpl r)
def spLaw (K : PySem.W.Frag) : Sp := fun vs H Q _ => ∃ (a : Addr) (ns : List Int), vs = [.ref a] ∧ SqL K H a (ns.map V.int) ∧ ns.length ≤ 63 ∧ ∀ H', Q (.bl true) H'
abbrev s_law : Stmt := top 6
theorem c_law : FnScope ["script", "tape", "colors", "told", "ends", "k", "size", "color"] ["script"] (defScope s_law) := ⟨rfl, rfl, rfl, by decide +kernel, rfl, by decide +kernel, by decide +kernel⟩

theorem ok_law {f : Addr} {fd : FuncData} (F : Fun K "law" "law" s_law f fd) (T : Txt mg) (C__law_tape : Cl P w K mg base 1 "_law_tape" ["script"] (spTape K)) (C__law_slopes : Cl P w K mg base 2 "_law_slopes" ["tape"] spSlopes)
    (C_starts_of : Cl P w K mg base 1 "starts_of" ["colors"] spStarts) : FnOk P w K mg base CX0 3 f fd ["script"] (spLaw K) := by
  refine F.ok c_law (fun vs H Q E h => ?_) (fun cdv A outer s H vs Q E hr h => ?_)
  · obtain ⟨a, ns, rfl, _⟩ := h
    rfl
  · obtain ⟨a, ns, rfl, hS, _, k⟩ := h
    refine ⟨_, (pss_cons (ps_set (i := 1) c_law.nd rfl (Or.inl rfl) (pe_cl C__law_tape (hr.mono (by omega)) (by rfl) (pa_cons (pv 0) pa_nil)))
      (pss_cons (ps_set (i := 2) c_law.nd rfl (Or.inl rfl) (pe_cl C__law_slopes (hr.mono (by omega)) (by rfl) (pa_cons (pv 1) pa_nil)))
      (pss_cons (ps_set (i := 3) c_law.nd rfl (Or.inl rfl) (pe_cl C_starts_of (hr.mono (by omega)) (by rfl) (pa_cons (pe_callTy call_tuple_of (by rfl) T.n_tuple (by decide +kernel) (pa_cons (pv 2) pa_nil)) pa_nil)))
      (pss_cons (ps_if (PW.pt (pw_or (pt_not (pt_val (pe_callB call_isi (by rfl) T.n_isinstance (by decide +kernel) (pa_cons (pv 3) (pa_cons (pe_bltn (v := .ty "tuple") (by rfl) T.n_tuple (by decide +kernel) rfl) pa_nil))))) (pw_or1 (pt_cmpR (op_neD (hu64 hr)) (pe_callTy call_list_of (by rfl) T.n_list (by decide +kernel) (pa_cons (pe_slice sl_tupA (pv 3) po_none (po_some pe_int)) pa_nil)) (pe_lc (own := [("color", 7)]) (by rfl) c_law.nd (pi_list (pe_slice sl_list (pv 2) po_none (po_some pe_int))) (blkOk_by (own := [("color", 7)]) (N := ["script", "tape", "colors", "told", "ends", "k", "size", "color"]) (sc := defScope s_law) (by decide +kernel)) (fun _ _ _ _ _ => pg_name (i := 7) c_law.nd rfl (Or.inl rfl)) (fun _ _ _ _ _ => pts_nil) (fun _ _ _ _ _ => pe_int)) (nomark _))))) (pss_one (ps_ret pe_bl)) pss_nil)
      (pss_cons (ps_set (i := 4) c_law.nd rfl (Or.inl rfl) (pe_op op_cat (pe_callTy call_list_of (by rfl) T.n_list (by decide +kernel) (pa_cons (pe_slice sl_tupA (pv 3) (po_some pe_int) po_none) pa_nil)) (pe_lst (pa_cons (pe_callB call_len_seq (by rfl) T.n_len (by decide +kernel) (pa_cons (pv 2) pa_nil)) pa_nil))))
      (pss_cons (ps_for PassesOwn.never rfl (pi_range1 (by rfl) T.n_range (pa_cons (pe_callB call_len_seq (by rfl) T.n_len (by decide +kernel) (pa_cons (pv 3) pa_nil)) pa_nil)) (pg_name (i := 5) c_law.nd rfl (Or.inl rfl)) (pss_cons (ps_set (i := 6) c_law.nd rfl (Or.inl rfl) (pe_op op_sub (pe_ix ix_list (pv 4) (pv 5) (fun _ _ => rfl)) (pe_ix ix_tup (pv 3) (pv 5) (fun _ _ => rfl))))
      (pss_one (ps_if (PW.pt (pw_or (pt_cmpR op_lt (pv 6) (pe_callB (call_min2 rfl) (by rfl) T.n_min (by decide +kernel) (pa_cons pe_int (pa_cons (pe_callB call_len_seq (by rfl) T.n_len (by decide +kernel) (pa_cons (pv 2) pa_nil)) pa_nil))) (nomark _)) (pw_or1 (pt_cmpR op_gt (pv 6) (pe_op op_add (pe_op op_add pe_int (pe_callTy call_int1 (by rfl) T.n_int (by decide +kernel) (pa_cons (pe_cmpR op_eq (pv 5) pe_int (nomark _)) pa_nil))) (pe_callTy call_int1 (by rfl) T.n_int (by decide +kernel) (pa_cons (pe_cmpR op_eq (pv 5) (pe_op op_sub (pe_callB call_len_seq (by rfl) T.n_len (by decide +kernel) (pa_cons (pv 3) pa_nil)) pe_int) (nomark _)) pa_nil))) (nomark _))))) (pss_one (ps_ret pe_bl)) pss_nil))))
      (pss_one (ps_ret pe_bl)))))))), ?_⟩
    walk_at "wp"
    refine ⟨a, ns, rfl, hS, fun t l H0 s0 T0 => ?_⟩
    walk_at "wp"
    refine ⟨t, l, rfl, T0, fun o H1 cs R hcl ho1 _ _ => ?_⟩
    walk_at "wp"
    intro p np
    have op : o ≠ p := fun e => by rw [← e, ho1] at np; cases np
    walk_at "wp"
    refine ⟨p, cs, rfl, upd_same, by omega, fun q H2 s2 h2 => ?_⟩
    have ho2 := s2 _ _ ((upd_ne op).trans ho1)
    have hLl := starts_len cs
    walk_at "wp"
    refine w_isi (.base (.tup h2)) true (by decide +kernel) ?_
    walk_at "wp"
    refine w_slA h2 fun p3 H3 s3 h3 => ?_
    have ho3 := s3 _ _ ho2
    have h23 := s3 _ _ h2
    rw [show cutV ((starts cs).map V.int) none (some 1) = ((starts cs).map V.int).take 1 from cut_to _ 1, ← List.map_take, starts_one] at h3
    walk_at "wp"
    intro l4 n4
    have q4 : q ≠ l4 := fun e => by rw [← e, h23] at n4; cases n4
    have o4 : o ≠ l4 := fun e => by rw [← e, ho3] at n4; cases n4
    walk_at "wp"
    refine ⟨o, _, rfl, .of ((upd_ne o4).trans ho3), fun c nc => ?_⟩
    rw [show cutV (cs.map V.int) none (some 1) = (cs.map V.int).take 1 from cut_to _ 1] at *
    have c4 : l4 ≠ c := fun e => by rw [← e, upd_same] at nc; cases nc
    have cq : q ≠ c := fun e => by rw [← e, upd_ne q4, h23] at nc; cases nc
    have co : o ≠ c := fun e => by rw [← e, upd_ne o4, ho3] at nc; cases nc
    walk_at "wp"
    intro D nD
    have Dc : c ≠ D := fun e => by rw [← e, upd_same] at nD; cases nD
    have D4 : l4 ≠ D := fun e => by rw [← e, upd_ne c4, upd_same] at nD; cases nD
    have Dq : q ≠ D := fun e => by rw [← e, upd_ne cq, upd_ne q4, h23] at nD; cases nD
    have Do : o ≠ D := fun e => by rw [← e, upd_ne co, upd_ne o4, ho3] at nD; cases nD
    refine lc_list (K := K) (a := c) (xs := (cs.map V.int).take 1) (fun i H5 => H5 D = some (.lst (List.replicate i (.int 0))) ∧ H5 c = some (.lst ((cs.map V.int).take 1)) ∧ H5 l4 = some (.lst ((List.replicate (min 1 cs.length) 0).map V.int)) ∧ H5 q = some (.tup ((starts cs).map V.int)) ∧ H5 o = some (.lst (cs.map V.int)))
      ⟨upd_same, by walk_at "hp", by walk_at "hp", by walk_at "hp", by walk_at "hp"⟩ (fun i H5 _ h => .of h.2.1) ?_ ?_
    · rintro i x H5 hx ⟨d1, d2, d3, d4, d5⟩
      have hi := (List.getElem?_eq_some_iff.mp hx).1
      rw [List.length_take] at hi
      walk_at "wp"
      refine ⟨rfl, ?_⟩
      walk_at "wp"
      exact ⟨_, d1, szlt (by rw [List.length_replicate]; omega), by rw [upd_same, List.replicate_succ'], (upd_ne Dc).trans d2, (upd_ne D4).trans d3, (upd_ne Dq).trans d4, (upd_ne Do).trans d5⟩
    rintro H5 ⟨d1, d2, d3, d4, d5⟩
    rw [List.length_take, List.length_map] at d1
    walk_at "wp"
    have e1 : Dp K H5 (.ref l4) (.list ((List.replicate (min 1 cs.length) 0).map .int)) := .lst (.of d3) (dpl _)
    have e2 : Dp K H5 (.ref D) (.list ((List.replicate (min 1 cs.length) 0).map .int)) := .lst (.of d1) (by
      have := dpl (K := K) (H := H5) (List.replicate (min 1 cs.length) 0)
      rw [List.map_replicate] at this
      exact this)
    have e3 : SeqAt.shaped (.list ((List.replicate (min 1 cs.length) 0).map .int)) = true ∧ PyData.eqv (.list ((List.replicate (min 1 cs.length) 0).map .int)) (.list ((List.replicate (min 1 cs.length) 0).map .int)) = true := by
      have : min 1 cs.length = 0 ∨ min 1 cs.length = 1 := by omega
      rcases this with h | h <;> rw [h] <;> exact ⟨rfl, rfl⟩
    refine ⟨_, _, e1, e2, e3.1, e3.1, ?_⟩
    rw [e3.2]
    walk_at "wp"
    refine w_slA d4 fun p6 H6 s6 h6 => ?_
    rw [show cutV ((starts cs).map V.int) (some 1) none = ((starts cs).map V.int).drop 1 from cut_from _ 1] at h6
    have d46 := s6 _ _ d4
    have d56 := s6 _ _ d5
    walk_at "wp"
    intro l7 n7
    have q7 : q ≠ l7 := fun e => by rw [← e, d46] at n7; cases n7
    have o7 : o ≠ l7 := fun e => by rw [← e, d56] at n7; cases n7
    walk_at "wp"
    refine ⟨szle (by show 1 ≤ _; decide), fun l8 n8 => ?_⟩
    have e78 : l7 ≠ l8 := fun e => by rw [← e, upd_same] at n8; cases n8
    have q8 : q ≠ l8 := fun e => by rw [← e, upd_ne q7, d46] at n8; cases n8
    have o8 : o ≠ l8 := fun e => by rw [← e, upd_ne o7, d56] at n8; cases n8
    have hdl : (((starts cs).map V.int).drop 1).length ≤ 70 := by rw [List.length_drop, List.length_map]; omega
    refine ⟨l7, l8, _, _, rfl, rfl, (upd_ne e78).trans upd_same, upd_same, szle (by rw [List.length_singleton]; omega), fun e9 n9 => ?_⟩
    have q9 : q ≠ e9 := fun e => by rw [← e, upd_ne q8, upd_ne q7, d46] at n9; cases n9
    have o9 : o ≠ e9 := fun e => by rw [← e, upd_ne o8, upd_ne o7, d56] at n9; cases n9
    have ll : ((starts cs).map V.int).length = (starts cs).length := List.length_map _
    have lc : (cs.map V.int).length = cs.length := List.length_map _
    walk_at "wp"
    refine ⟨by omega, by omega, ?_⟩
    have em : ((starts cs).map V.int).drop 1 ++ [V.int ((cs.map V.int).length : Nat)] = ((starts cs).drop 1 ++ [(cs.length : Int)]).map V.int := by
      rw [List.map_append, List.map_drop, lc]
      rfl
    rw [em]
    refine for_range (lo := 0) (n := (((((starts cs).map V.int).length : Nat) : Int)).toNat) (fun k σ H9 => ∃ (v1 v2 : Option V), σ = [some (.ref a), some (.ref t), some (.ref o), some (.ref q), some (.ref e9), v1, v2, none] ∧ H9 e9 = some (.lst (((starts cs).drop 1 ++ [(cs.length : Int)]).map V.int)) ∧ H9 q = some (.tup ((starts cs).map V.int)) ∧ H9 o = some (.lst (cs.map V.int))) ⟨none, none, rfl, upd_same, by walk_at "hp", by walk_at "hp"⟩ ?_ ?_
    · rintro kk σ H9 hk ⟨v1, v2, rfl, f1, f2, f3⟩
      have hk' : kk < (starts cs).length := by omega
      have hc0 : 0 < cs.length := by
        cases cs with
        | nil => exact absurd hk' (by show ¬ kk < 0; omega)
        | cons x y => exact Nat.succ_pos _
      have sz := size_ok R hc0 hk'
      have ek : (0 : Int) + (kk : Int) = (kk : Int) := Int.zero_add _
      have g1 : (((starts cs).drop 1 ++ [(cs.length : Int)]).map V.int)[kk]? = some (.int (endAt cs kk)) := by
        rw [List.getElem?_map, ends_get hk']
        rfl
      rw [ek]
      walk_at "wp"
      refine w_ixL (.of f1) (atI_nat g1) ?_
      walk_at "wp"
      refine w_ixT (.of f2) (atI_nat (gd hk')) ?_
      walk_at "wp"
      rw [lc]
      refine w_ite (fun e => absurd e ?_) (fun _ => ?_)
      · have := sz.1
        omega
      walk_at "wp"
      rw [ll]
      have c1 : (if decide ((kk : Int) = 0) = true then (1 : Int) else 0) = if kk = 0 then 1 else 0 := by
        by_cases z : kk = 0
        · rw [decide_eq_true (by omega), if_pos rfl, if_pos z]
        · rw [decide_eq_false (by omega), if_neg Bool.false_ne_true, if_neg z]
      have c2 : (if decide ((kk : Int) = (((starts cs).length : Nat) : Int) - 1) = true then (1 : Int) else 0) = if kk = (starts cs).length - 1 then 1 else 0 := by
        by_cases z : kk = (starts cs).length - 1
        · rw [decide_eq_true (by omega), if_pos rfl, if_pos z]
        · rw [decide_eq_false (by omega), if_neg Bool.false_ne_true, if_neg z]
      rw [c1, c2]
      refine w_ite (fun e => absurd e ?_) (fun _ => ?_)
      · have := sz.2
        omega
      walk_at "wp"
      exact ⟨_, _, rfl, f1, f2, f3⟩
    · rintro σ H9 ⟨v1, v2, rfl, f1, f2, f3⟩
      walk_at "wp"
      exact k _
end
theorem all_mk {l : PySem.W.OpenLaw} {w : World} {K : PySem.W.Frag} {h : Heap} {mg : Str → Option Value} {fa : Addr} (X : K.In h) (G : h.Ns mainGlobals mg) (hfa : mg "law" = some (.ref fa))
    {f0 : Addr} {od0 an0 : Option Addr} {sl0 : Array (Option Value)} {oc0 kV0 dc0 pm0 cd0 ct0 : Value}
    (a0 : PySem.W.nsIn K mainGlobals "_law_draw" = some (some (.ref f0))) (l0 : K.lookup f0 = some ⟨oc0, od0, .func (PySem.W.fnOf "_law_draw" "_law_draw" (defArgs s__law_draw) (defBody s__law_draw) (defScope s__law_draw) .none kV0 dc0 pm0 an0 cd0 ct0), sl0⟩) (c0 : PySem.W.codeIn K cd0 "_law_draw" = true) (k0 : PySem.W.keepIn K (.ref f0) = true)
    {f1 : Addr} {od1 an1 : Option Addr} {sl1 : Array (Option Value)} {oc1 kV1 dc1 pm1 cd1 ct1 : Value}
    (a1 : PySem.W.nsIn K mainGlobals "_law_tape" = some (some (.ref f1))) (l1 : K.lookup f1 = some ⟨oc1, od1, .func (PySem.W.fnOf "_law_tape" "_law_tape" (defArgs s__law_tape) (defBody s__law_tape) (defScope s__law_tape) .none kV1 dc1 pm1 an1 cd1 ct1), sl1⟩) (c1 : PySem.W.codeIn K cd1 "_law_tape" = true) (k1 : PySem.W.keepIn K (.ref f1) = true)
    {f2 : Addr} {od2 an2 : Option Addr} {sl2 : Array (Option Value)} {oc2 kV2 dc2 pm2 cd2 ct2 : Value}
    (a2 : PySem.W.nsIn K mainGlobals "starts_of" = some (some (.ref f2))) (l2 : K.lookup f2 = some ⟨oc2, od2, .func (PySem.W.fnOf "starts_of" "starts_of" (defArgs s_starts_of) (defBody s_starts_of) (defScope s_starts_of) .none kV2 dc2 pm2 an2 cd2 ct2), sl2⟩) (c2 : PySem.W.codeIn K cd2 "starts_of" = true) (k2 : PySem.W.keepIn K (.ref f2) = true)
    {f3 : Addr} {od3 an3 : Option Addr} {sl3 : Array (Option Value)} {oc3 kV3 dc3 pm3 cd3 ct3 : Value}
    (a3 : PySem.W.nsIn K mainGlobals "_law_slopes" = some (some (.ref f3))) (l3 : K.lookup f3 = some ⟨oc3, od3, .func (PySem.W.fnOf "_law_slopes" "_law_slopes" (defArgs s__law_slopes) (defBody s__law_slopes) (defScope s__law_slopes) .none kV3 dc3 pm3 an3 cd3 ct3), sl3⟩) (c3 : PySem.W.codeIn K cd3 "_law_slopes" = true) (k3 : PySem.W.keepIn K (.ref f3) = true)
    {f4 : Addr} {od4 an4 : Option Addr} {sl4 : Array (Option Value)} {oc4 kV4 dc4 pm4 cd4 ct4 : Value}
    (a4 : PySem.W.nsIn K mainGlobals "law" = some (some (.ref f4))) (l4 : K.lookup f4 = some ⟨oc4, od4, .func (PySem.W.fnOf "law" "law" (defArgs s_law) (defBody s_law) (defScope s_law) .none kV4 dc4 pm4 an4 cd4 ct4), sl4⟩) (c4 : PySem.W.codeIn K cd4 "law" = true) (k4 : PySem.W.keepIn K (.ref f4) = true)
    (z_range : PySem.W.nsIn K mainGlobals "range" = some none)
    (z_tuple : PySem.W.nsIn K mainGlobals "tuple" = some none)
    (z_len : PySem.W.nsIn K mainGlobals "len" = some none)
    (z_list : PySem.W.nsIn K mainGlobals "list" = some none)
    (z_int : PySem.W.nsIn K mainGlobals "int" = some none)
    (z_abs : PySem.W.nsIn K mainGlobals "abs" = some none)
    (z_max : PySem.W.nsIn K mainGlobals "max" = some none)
    (z_isinstance : PySem.W.nsIn K mainGlobals "isinstance" = some none)
    (z_min : PySem.W.nsIn K mainGlobals "min" = some none)
    : ∃ fd : FuncData, (∀ (s : Shared) (v : Value), BindsTo s fd ⟨[v], []⟩ [("script", v)]) ∧ ∀ base : Heap, K.In base → base.Ns mainGlobals mg → FnOk l.prog w K mg base CX0 3 fa fd ["script"] (spLaw K) := by
  have e := hfa.symm.trans (PySem.W.mg_of X G a4)
  cases e
  have T : Txt mg := ⟨PySem.W.mg_none_of X G z_range, PySem.W.mg_none_of X G z_tuple, PySem.W.mg_none_of X G z_len, PySem.W.mg_none_of X G z_list, PySem.W.mg_none_of X G z_int, PySem.W.mg_none_of X G z_abs, PySem.W.mg_none_of X G z_max, PySem.W.mg_none_of X G z_isinstance, PySem.W.mg_none_of X G z_min⟩
  have F0 := fun_mk (st := s__law_draw) l0 c0 k0
  have F1 := fun_mk (st := s__law_tape) l1 c1 k1
  have F2 := fun_mk (st := s_starts_of) l2 c2 k2
  have F3 := fun_mk (st := s__law_slopes) l3 c3 k3
  have F4 := fun_mk (st := s_law) l4 c4 k4
  refine ⟨PySem.W.fnOf "law" "law" (defArgs s_law) (defBody s_law) (defScope s_law) .none kV4 dc4 pm4 an4 cd4 ct4, fun s v => .of_eq rfl, fun base _ _ => ?_⟩
  have C__law_draw : Cl l.prog w K mg base 1 "_law_draw" ["tape", "many"] (spDraw) := ⟨f0, _, ok_draw F0 T, PySem.W.mg_of X G a0, k0, F0.binds (ps := ["tape", "many"]) fun _ _ _ _ _ _ us hl => match us, hl with | [_, _], _ => rfl⟩
  have C__law_tape : Cl l.prog w K mg base 1 "_law_tape" ["script"] (spTape K) := ⟨f1, _, ok_tape F1 T, PySem.W.mg_of X G a1, k1, F1.binds (ps := ["script"]) fun _ _ _ _ _ _ us hl => match us, hl with | [_], _ => rfl⟩
  have C_starts_of : Cl l.prog w K mg base 1 "starts_of" ["colors"] (spStarts) := ⟨f2, _, ok_starts F2 T, PySem.W.mg_of X G a2, k2, F2.binds (ps := ["colors"]) fun _ _ _ _ _ _ us hl => match us, hl with | [_], _ => rfl⟩
  have C__law_slopes : Cl l.prog w K mg base 2 "_law_slopes" ["tape"] (spSlopes) := ⟨f3, _, ok_slopes F3 T C__law_draw, PySem.W.mg_of X G a3, k3, F3.binds (ps := ["tape"]) fun _ _ _ _ _ _ us hl => match us, hl with | [_], _ => rfl⟩
  exact ok_law F4 T C__law_tape C__law_slopes C_starts_of
end Ss
open PySem PySem.W PyProof.Rows
set_option maxHeartbeats 0 in
theorem PySem.Challenge.cw_sameshape_k14_starts_are_dense_holds : PySem.Challenge.rw_sameshape_k14_starts_are_dense.Holds := by
  w_on; o_law; k_head; (case hw => w_witness2)
  k_fill
  refine L2.walk_of (l := PySem.Challenge.rw_sameshape_k14_starts_are_dense) (n := 63) (k := 3) (x := "script") (CX := fun _ => L2.CX0) (sp := fun w => Ss.spLaw _) rfl (by decide) rfl ⟨rfl, by decide, by decide⟩ (fun w h Y => PySem.W.kIn_of Y) ?F (fun _ _ a ns hl _ hS => ⟨a, ns, rfl, hS, hl, fun _ => rfl⟩) (fun _ _ _ _ _ h => h)
  case F =>
    intro w mg fa h KX G hmg
    refine' Ss.all_mk KX G hmg ?a0 ?l0 ?c0 ?k0 ?a1 ?l1 ?c1 ?k1 ?a2 ?l2 ?c2 ?k2 ?a3 ?l3 ?c3 ?k3 ?a4 ?l4 ?c4 ?k4 ?z_range ?z_tuple ?z_len ?z_list ?z_int ?z_abs ?z_max ?z_isinstance ?z_min
    (case a0 => k_is); (case l0 => k_is); (case c0 => k_is); (case k0 => k_is); (case a1 => k_is); (case l1 => k_is); (case c1 => k_is); (case k1 => k_is); (case a2 => k_is); (case l2 => k_is); (case c2 => k_is); (case k2 => k_is); (case a3 => k_is); (case l3 => k_is); (case c3 => k_is); (case k3 => k_is); (case a4 => k_is); (case l4 => k_is); (case c4 => k_is); (case k4 => k_is); (case z_range => k_is); (case z_tuple => k_is); (case z_len => k_is); (case z_list => k_is); (case z_int => k_is); (case z_abs => k_is); (case z_max => k_is); (case z_isinstance => k_is); (case z_min => k_is)
#print axioms PySem.Challenge.cw_sameshape_k14_starts_are_dense_holds

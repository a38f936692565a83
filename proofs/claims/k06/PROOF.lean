import PyProof.Rows.All
import Wide.All
import OpenK.AllK
import Wide.FinOn
import HandS.Base
import HandS.Call
import HandS.List
import HandS.Comp
import HandS.Ends
import HandS.Iter
import HandS.Text
import HandS.Words
import HandS.WordsList
import HandS.Wide
import HandS.WideBits
import HandS.IsInst
import HandS.TupAny
import HandS.Walk
import KE.KStrBytes
import PySem.Challenge.RW_sameshape_k06_items_are_unique
set_option Elab.async false
set_option linter.all false
set_option maxRecDepth 100000
set_option maxHeartbeats 4000000
namespace Ss
open PySem PySem.Spec PyProof.Rows L2
/-! ### a def that stands at a module's name and keeps a promise -/
structure Cl (P : Program) (w : World) (K : PySem.W.Frag) (mg : Str → Option Value) (base : Heap) (k : Nat) (x : Str) (ps : List Str) (sp : Sp) : Prop where
  ex : ∃ f fd, FnOk P w K mg base CX0 k f fd ps sp ∧ mg x = some (.ref f) ∧ PySem.W.keepIn K (.ref f) = true ∧ Binds K fd ps []
theorem pe_cl {X : Cx} {k : Nat} {x : Str} {ps : List Str} {sp : Sp} {p pos : Pos} {e : Expr} {es : List Expr} {t : TA} (C : Cl X.prog X.w X.K X.mg X.base k x ps sp) (hr : Room k X.A) (hg : Gl X x)
    (ha : PA X (e :: es) t) (hdb : (x == ("__debug__" : Str)) = false := by decide) (he : starEach (e :: es) X.env = (false, eval e X.env) :: starEach es X.env := by rfl) (hpl : (backTo pos (starEach es X.env)).any (·.1) = false := by rfl) :
    PE X (.Call (.Name x p) (e :: es) [] pos) (tCall sp [] E0 t) := by
  obtain ⟨f, fd, F, hm, hk, b⟩ := C.ex
  exact pe_call F hr hg hm hk b .nil pass0 ha hdb he hpl
theorem Cl.mono {P : Program} {w : World} {K : PySem.W.Frag} {mg : Str → Option Value} {base : Heap} {j k : Nat} {x : Str} {ps : List Str} {sp : Sp} (C : Cl P w K mg base j x ps sp) (h : j ≤ k) : Cl P w K mg base k x ps sp := by
  obtain ⟨f, fd, F, r⟩ := C.ex
  exact ⟨f, fd, F.mono h, r⟩
theorem Cl.imp {P : Program} {w : World} {K : PySem.W.Frag} {mg : Str → Option Value} {base : Heap} {k : Nat} {x : Str} {ps : List Str} {sp sp' : Sp} (C : Cl P w K mg base k x ps sp) (h : ∀ vs H Q, sp' vs H Q E0 → sp vs H Q E0) (hl : ∀ vs H Q E, sp' vs H Q E → sp' vs H Q E0) : True := trivial
/-! ### heaps -/
theorem same_new {H : Hp} {p : Addr} {o : HO} (h : H p = none) : Same H (upd H p o) := fun b x e => by
  rw [upd_ne (ne_of_none e h)]
  exact e
/-- all that was tracked stays, but what stands at t -/
def Ext (t : Addr) (H H' : Hp) : Prop := ∀ b o, b ≠ t → H b = some o → H' b = some o
theorem Ext.refl (t : Addr) (H : Hp) : Ext t H H := fun _ _ _ h => h
theorem Ext.trans {t : Addr} {H H1 H2 : Hp} (a : Ext t H H1) (b : Ext t H1 H2) : Ext t H H2 := fun c o n h => b c o n (a c o n h)
theorem Ext.of {t : Addr} {H H' : Hp} (h : Same H H') : Ext t H H' := fun b o _ e => h b o e
/-! ### data -/
mutual
inductive At (H : Hp) : V → PyData → Prop
  | non : At H .non .none
  | bl (b : Bool) : At H (.bl b) (.bool b)
  | int (i : Int) : At H (.int i) (.int i)
  | str (x : Str) : At H (.str x) (.str x)
  | tup {a : Addr} {xs : List V} {ds : List PyData} : H a = some (.tup xs) → AtL H xs ds → At H (.ref a) (.tuple ds)
inductive AtL (H : Hp) : List V → List PyData → Prop
  | nil : AtL H [] []
  | cons {v : V} {vs : List V} {d : PyData} {ds : List PyData} : At H v d → AtL H vs ds → AtL H (v :: vs) (d :: ds)
end
mutual
theorem At.tups {H H' : Hp} (h : ∀ b xs, H b = some (.tup xs) → H' b = some (.tup xs)) : ∀ {v : V} {d : PyData}, At H v d → At H' v d
  | _, _, .non => .non
  | _, _, .bl b => .bl b
  | _, _, .int i => .int i
  | _, _, .str x => .str x
  | _, _, .tup e l => .tup (h _ _ e) (AtL.tups h l)
theorem AtL.tups {H H' : Hp} (h : ∀ b xs, H b = some (.tup xs) → H' b = some (.tup xs)) : ∀ {v : List V} {d : List PyData}, AtL H v d → AtL H' v d
  | _, _, .nil => .nil
  | _, _, .cons a l => .cons (At.tups h a) (AtL.tups h l)
end
theorem At.same {H H' : Hp} {v : V} {d : PyData} (h : Same H H') (a : At H v d) : At H' v d := a.tups fun b xs e => h b _ e
theorem AtL.same {H H' : Hp} {v : List V} {d : List PyData} (h : Same H H') (a : AtL H v d) : AtL H' v d := a.tups fun b xs e => h b _ e
/-- the tape stands at t: a list of the script's list at l, two counts, the sum -/
structure Tape (H : Hp) (t l : Addr) : Prop where
  ex : ∃ (ns : List Int) (p n s : Int), H t = some (.lst [.ref l, .int p, .int n, .int s]) ∧ H l = some (.lst (ns.map V.int)) ∧ l ≠ t ∧ 0 ≤ p ∧ 0 ≤ n ∧ 0 ≤ s
theorem Tape.same {H H' : Hp} {t l : Addr} (h : Same H H') (a : Tape H t l) : Tape H' t l := by
  obtain ⟨ns, p, n, s, a1, a2, r⟩ := a.ex
  exact ⟨ns, p, n, s, h _ _ a1, h _ _ a2, r⟩
theorem Tape.fresh {H : Hp} {t l o : Addr} (a : Tape H t l) (h : H o = none) : o ≠ t ∧ o ≠ l := by
  obtain ⟨ns, p, n, s, a1, a2, r⟩ := a.ex
  exact ⟨fun e => (by rw [e, a1] at h; cases h), fun e => (by rw [e, a2] at h; cases h)⟩
theorem Tape.put {H : Hp} {t l o : Addr} {x : HO} (a : Tape H t l) (h : o ≠ t ∧ o ≠ l) : Tape (upd H o x) t l := by
  obtain ⟨ns, p, n, s, a1, a2, r⟩ := a.ex
  exact ⟨ns, p, n, s, (upd_ne h.1.symm).trans a1, (upd_ne h.2.symm).trans a2, r⟩
theorem Ext.free {t o : Addr} {H H' : Hp} (e : Ext t H H') (n : o ≠ t) (h : H' o = none) : H o = none := by
  cases q : H o with
  | none => rfl
  | some x =>
    rw [e o x n q] at h
    cases h
/-- the tape went on, all else that was tracked stands -/
structure Go (t l : Addr) (H H' : Hp) : Prop where
  e : Ext t H H'
  T : Tape H' t l
theorem Go.refl {t l : Addr} {H : Hp} (T : Tape H t l) : Go t l H H := ⟨Ext.refl t H, T⟩
theorem Go.trans {t l : Addr} {H H1 H2 : Hp} (a : Go t l H H1) (b : Go t l H1 H2) : Go t l H H2 := ⟨a.e.trans b.e, b.T⟩
theorem Go.same {t l : Addr} {H H1 H2 : Hp} (a : Go t l H H1) (b : Same H1 H2) : Go t l H H2 := ⟨a.e.trans (Ext.of b), a.T.same b⟩
theorem Go.new {t l p : Addr} {H H1 : Hp} {x : HO} (a : Go t l H H1) (h : H1 p = none) : Go t l H (upd H1 p x) := a.same (same_new h)
/-- an object that is new since H is changed -/
theorem Go.put {t l p : Addr} {H H1 : Hp} {x : HO} (a : Go t l H H1) (h : H p = none) (n : p ≠ t ∧ p ≠ l) : Go t l H (upd H1 p x) :=
  ⟨fun b o bt hb => by rw [upd_ne (fun e => by rw [e, h] at hb; cases hb)]; exact a.e b o bt hb, a.T.put n⟩
theorem Go.free {t l p : Addr} {H H1 : Hp} (a : Go t l H H1) (h : H1 p = none) : H p = none ∧ p ≠ t ∧ p ≠ l :=
  have n := a.T.fresh h
  ⟨a.e.free n.1 h, n⟩
/-- what stands apart from the tape stays -/
theorem Go.at {t l p : Addr} {H H1 : Hp} {x : HO} (a : Go t l H H1) (h : H p = some x) (n : p ≠ t) : H1 p = some x := a.e p x n h
theorem Tape.tup {H H' : Hp} {t l : Addr} (a : Tape H t l) (e : Ext t H H') : ∀ b xs, H b = some (.tup xs) → H' b = some (.tup xs) := fun b xs h => by
  obtain ⟨ns, p, n, s, a1, _⟩ := a.ex
  exact e b _ (ne_of h a1 (by intro z; cases z)) h
theorem At.go {H H' : Hp} {t l : Addr} {v : V} {d : PyData} (a : At H v d) (T : Tape H t l) (g : Go t l H H') : At H' v d := a.tups (T.tup g.e)
theorem AtL.go {H H' : Hp} {t l : Addr} {v : List V} {d : List PyData} (a : AtL H v d) (T : Tape H t l) (g : Go t l H H') : AtL H' v d := a.tups (T.tup g.e)
/-! ### readings, step by step -/
section
variable {σ : L2.St} {H : Hp} {D : Ends} {t u : TS} {te ta tb : TE} {Q : VK} {g : TG} {c : TT} {i j : Int}
theorem w_seq (h : t { D with nx := u D } σ H) : tSeq t u D σ H := h
theorem w_asg (h : te σ H fun x H1 => g x σ H1 D.nx) : tAsg te g D σ H := h
theorem w_next (h : D.nx σ H) : tNext D σ H := h
theorem w_name {n : Nat} {v : V} {R : L2.St → Hp → Prop} (h : R (σ.set n (some v)) H) : gName n v σ H R := h
theorem w_gsub {to ti : TE} {ts : TSet} {v : V} {R : L2.St → Hp → Prop} (h : to σ H fun o H1 => ti σ H1 fun i H2 => ts o i v H2 fun H3 => R σ H3) : gSub to ti ts v σ H R := h
theorem w_ret (h : te σ H D.rt) : tRet te D σ H := h
theorem w_drop (h : te σ H fun _ H1 => D.nx σ H1) : tDrop te D σ H := h
theorem w_ifS (h : c σ H fun b H1 => if b = true then t D σ H1 else u D σ H1) : tIfS c t u D σ H := h
theorem w_op {r : R2} (h : ta σ H fun x H1 => tb σ H1 fun y H2 => r x y H2 Q) : tOp r ta tb σ H Q := h
theorem w_un {r : V → Hp → VK → Prop} (h : ta σ H fun x H1 => r x H1 Q) : tUn r ta σ H Q := h
theorem w_cb {r : List V → Hp → VK → Prop} {tt : TA} (h : tt σ H fun vs H1 => r vs H1 Q) : tCB r tt σ H Q := h
theorem w_call {sp : Sp} {E : XK} {tt : TA} (h : tt σ H fun vs H1 => sp (vs ++ []) H1 Q E) : tCall sp [] E tt σ H Q := h
theorem w_cons {tr : TA} {R : List V → Hp → Prop} (h : ta σ H fun x H1 => tr σ H1 fun xs H2 => R (x :: xs) H2) : tCons ta tr σ H R := h
theorem w_nil {R : List V → Hp → Prop} (h : R [] H) : tNil σ H R := h
theorem w_var {n : Nat} {v : V} (h : σ[n]? = some (some v)) (q : Q v H) : tVar n σ H Q := ⟨v, h, q⟩
theorem w_c {v : V} (q : Q v H) : tC v σ H Q := q
theorem w_test {R : Bool → Hp → Prop} (h : te σ H fun x H' => ∃ k, x = .bl k ∧ R k H') : tTest te σ H R := h
theorem w_B {R : Bool → Hp → Prop} (h : te σ H fun x H' => ∃ k, x = .bl k ∧ R k H') : tB te σ H R := h
theorem w_bl {k : Bool} {R : Bool → Prop} (q : R k) : ∃ k', V.bl k = V.bl k' ∧ R k' := ⟨k, rfl, q⟩
theorem w_not {R : Bool → Hp → Prop} (h : c σ H fun b H1 => R (!b) H1) : tNot c σ H R := h
theorem w_and {d : TT} {R : Bool → Hp → Prop} (h : c σ H fun b H1 => if b = true then d σ H1 R else R false H1) : tAnd c d σ H R := h
theorem w_or {d : TT} {R : Bool → Hp → Prop} (h : c σ H fun b H1 => if b = true then R true H1 else d σ H1 R) : tOr c d σ H R := h
theorem w_andV (h : ta σ H fun x H1 => ∃ c, x = .bl c ∧ if c = true then tb σ H1 Q else Q (.bl false) H1) : tAndV ta tb σ H Q := h
theorem w_orV (h : ta σ H fun x H1 => ∃ c, x = .bl c ∧ if c = true then Q (.bl true) H1 else tb σ H1 Q) : tOrV ta tb σ H Q := h
theorem w_notV (h : ta σ H fun x H1 => ∃ c, x = .bl c ∧ Q (.bl (!c)) H1) : tNotV ta σ H Q := h
theorem w_if (h : c σ H fun b H1 => if b = true then ta σ H1 Q else tb σ H1 Q) : tIf c ta tb σ H Q := h
theorem w_I0 {f : Int → Int → V} (h : Q (f i j) H) : rI0 f (.int i) (.int j) H Q := ⟨i, j, rfl, rfl, h⟩
theorem w_I {C : Int → Int → Prop} {f : Int → Int → V} (hc : C i j) (h : Q (f i j) H) : rI C f (.int i) (.int j) H Q := ⟨i, j, rfl, rfl, hc, h⟩
theorem w_U {f : Int → V} (h : Q (f i) H) : rU f (.int i) H Q := ⟨i, rfl, h⟩
theorem w_eqI (h : Q (.bl (decide (i = j))) H) : rEq (.int i) (.int j) H Q := ⟨rfl, by
  have e : decide (V.int i = V.int j) = decide (i = j) := by
    by_cases q : i = j
    · rw [decide_eq_true q, decide_eq_true (congrArg V.int q)]
    · rw [decide_eq_false q, decide_eq_false fun z => q (V.int.inj z)]
  rw [e]
  exact h⟩
theorem w_neI (h : Q (.bl (!decide (i = j))) H) : rNe (.int i) (.int j) H Q := ⟨rfl, by
  have e : decide (V.int i = V.int j) = decide (i = j) := by
    by_cases q : i = j
    · rw [decide_eq_true q, decide_eq_true (congrArg V.int q)]
    · rw [decide_eq_false q, decide_eq_false fun z => q (V.int.inj z)]
  rw [e]
  exact h⟩
theorem w_neB {a b : Bool} (h : Q (.bl (a != b)) H) : rNe (.bl a) (.bl b) H Q := ⟨rfl, by
  have e : (!decide (V.bl a = V.bl b)) = (a != b) := by cases a <;> cases b <;> rfl
  rw [e]
  exact h⟩
theorem w_eqS {x y : Str} (h : Q (.bl (decide (x = y))) H) : rEq (.str x) (.str y) H Q := ⟨rfl, by
  have e : decide (V.str x = V.str y) = decide (x = y) := by
    by_cases q : x = y
    · rw [decide_eq_true q, decide_eq_true (congrArg V.str q)]
    · rw [decide_eq_false q, decide_eq_false fun z => q (V.str.inj z)]
  rw [e]
  exact h⟩
theorem w_ixL {K : PySem.W.Frag} {p : Addr} {xs : List V} {v : V} (h : SqL K H p xs) (ha : atI xs i = some v) (q : Q v H) : rIxL K (.ref p) (.int i) H Q := ⟨p, xs, i, v, rfl, rfl, h, ha, q⟩
theorem w_ixT {K : PySem.W.Frag} {p : Addr} {xs : List V} {v : V} (h : SqT K H p xs) (ha : atI xs i = some v) (q : Q v H) : rIxT K (.ref p) (.int i) H Q := ⟨p, xs, i, v, rfl, rfl, h, ha, q⟩
theorem w_setL {p : Addr} {xs : List V} {v : V} {n : Nat} {R : Hp → Prop} (h : H p = some (.lst xs)) (ha : ixN xs.length i = some n) (q : R (upd H p (.lst (xs.set n v)))) : rSetL (.ref p) (.int i) v H R := ⟨p, xs, i, n, rfl, rfl, h, ha, q⟩
theorem w_ite {p A B : Prop} [Decidable p] (h1 : p → A) (h2 : ¬ p → B) : if decide p = true then A else B := by
  by_cases h : p
  · rw [decide_eq_true h]
    exact iteT (h1 h)
  · rw [decide_eq_false h]
    exact iteF (h2 h)
theorem w_iteN {p A B : Prop} [Decidable p] (h1 : ¬ p → A) (h2 : p → B) : if (!decide p) = true then A else B := by
  by_cases h : p
  · rw [decide_eq_true h]
    exact iteF (h2 h)
  · rw [decide_eq_false h]
    exact iteT (h1 h)
theorem w_int1 (h : Q (.int i) H) : (∃ i', [V.int i] = [V.int i'] ∧ Q (.int i') H) ∨ ∃ k, [V.int i] = [V.bl k] ∧ Q (.int (if k then 1 else 0)) H := .inl ⟨i, rfl, h⟩
theorem w_intB {k : Bool} (h : Q (.int (if k then 1 else 0)) H) : (∃ i', [V.bl k] = [V.int i'] ∧ Q (.int i') H) ∨ ∃ k', [V.bl k] = [V.bl k'] ∧ Q (.int (if k' then 1 else 0)) H := .inr ⟨k, rfl, h⟩
theorem w_abs (h : Q (.int (if i < 0 then -i else i)) H) : ∃ i', [V.int i] = [V.int i'] ∧ Q (.int (if i' < 0 then -i' else i')) H := ⟨i, rfl, h⟩
theorem w_max2 (h : Q (.int (if j > i then j else i)) H) : ∃ i' j', [V.int i, V.int j] = [V.int i', V.int j'] ∧ Q (.int (if j' > i' then j' else i')) H := ⟨i, j, rfl, h⟩
theorem w_min2 (h : Q (.int (if j < i then j else i)) H) : ∃ i' j', [V.int i, V.int j] = [V.int i', V.int j'] ∧ Q (.int (if j' < i' then j' else i')) H := ⟨i, j, rfl, h⟩
theorem w_lenL {K : PySem.W.Frag} {p : Addr} {xs : List V} (h : SqL K H p xs) (q : Q (.int xs.length) H) : ∃ p' ys, [V.ref p] = [V.ref p'] ∧ (SqL K H p' ys ∨ SqT K H p' ys) ∧ Q (.int ys.length) H := ⟨p, xs, rfl, .inl h, q⟩
theorem w_lenT {K : PySem.W.Frag} {p : Addr} {xs : List V} (h : SqT K H p xs) (q : Q (.int xs.length) H) : ∃ p' ys, [V.ref p] = [V.ref p'] ∧ (SqL K H p' ys ∨ SqT K H p' ys) ∧ Q (.int ys.length) H := ⟨p, xs, rfl, .inr h, q⟩
theorem w_tup {tt : TA} (h : tt σ H fun xs H1 => xs.length ≤ sizeLine ∧ ∀ p, H1 p = none → Q (.ref p) (upd H1 p (.tup xs))) : tTup tt σ H Q := h
theorem w_lst {tt : TA} (h : tt σ H fun xs H1 => xs.length ≤ sizeLine ∧ ∀ p, H1 p = none → Q (.ref p) (upd H1 p (.lst xs))) : tLst tt σ H Q := h
end
section
variable {K : PySem.W.Frag}
theorem fm {a b : Int} (h : 0 < b) : 0 ≤ a.fmod b ∧ a.fmod b < b := ⟨Int.fmod_nonneg_of_pos a h, Int.fmod_lt_of_pos a h⟩
theorem ext_upd {H : Hp} {t : Addr} {o : HO} : Ext t H (upd H t o) := fun b u n e => by
  rw [upd_ne n]
  exact e
theorem w_for {σ : L2.St} {H : Hp} {D : Ends} {wi : TI} {g : TG} {tb : TS} (h : wi σ H fun J H1 => ∃ W : Nat → Nat → L2.St → Hp → Prop, (∃ m, W 0 m σ H1) ∧ ∀ i m σ H, W i m σ H →
      (J.stop i H ∧ D.nx σ H) ∨ (J.go i H ∧ ∃ N : L2.St → Hp → Prop, (∀ σ' H', N σ' H' → ∃ m', m' < m ∧ W (i + 1) m' σ' H') ∧ ∀ x H', J.yld i H x H' → g x σ H' fun σ2 H2 => tb { D with nx := N, ct := N, bk := D.nx } σ2 H2)) : tFor wi g tb D σ H := h
theorem q_iteT {A B : Prop} {d : Decidable (true = true)} (h : A) : @ite Prop (true = true) d A B := by rw [if_pos rfl]; exact h
theorem q_iteF {A B : Prop} {d : Decidable (false = true)} (h : B) : @ite Prop (false = true) d A B := by rw [if_neg Bool.false_ne_true]; exact h
theorem q_iteNT {A B : Prop} {d : Decidable ((!true) = true)} (h : B) : @ite Prop ((!true) = true) d A B := by rw [if_neg (show ¬ ((!true) = true) from Bool.false_ne_true)]; exact h
theorem q_iteNF {A B : Prop} {d : Decidable ((!false) = true)} (h : A) : @ite Prop ((!false) = true) d A B := by rw [if_pos (show (!false) = true from rfl)]; exact h
theorem w_break {σ : L2.St} {H : Hp} {D : Ends} (h : D.bk σ H) : tBreak D σ H := h
theorem w_cont {σ : L2.St} {H : Hp} {D : Ends} (h : D.ct σ H) : tCont D σ H := h
theorem w_bits {σ : L2.St} {H : Hp} {to : TE} {Q : VK} (h : to σ H fun x H1 => ∃ i, x = .int i ∧ Q (.int (Builtin.Int.intBits i : Nat)) H1) : tBits to σ H Q := h
theorem w_rng1 {σ : L2.St} {H : Hp} {ta : TA} {R : It → Hp → Prop} (h : ta σ H fun vs H1 => ∃ j : Int, vs = [.int j] ∧ -(2 ^ 62) ≤ j ∧ j < 2 ^ 62 ∧ R (Itr 0 j.toNat) H1) : iRng1 ta σ H R := h
theorem w_rng2 {σ : L2.St} {H : Hp} {ta : TA} {R : It → Hp → Prop} (h : ta σ H fun vs H1 => ∃ i j : Int, vs = [.int i, .int j] ∧ (-(2 ^ 62) ≤ i ∧ i < 2 ^ 62 ∧ -(2 ^ 62) ≤ j ∧ j < 2 ^ 62) ∧ R (Itr i (j - i).toNat) H1) : iRng2 ta σ H R := h
theorem w_itl {σ : L2.St} {H : Hp} {tl : TE} {R : It → Hp → Prop} (h : tl σ H fun x H1 => ∃ a, x = .ref a ∧ (∃ xs, SqL K H1 a xs) ∧ R (Itl K a) H1) : iList K tl σ H R := h
theorem w_itt {σ : L2.St} {H : Hp} {tl : TE} {R : It → Hp → Prop} (h : tl σ H fun x H1 => ∃ a, x = .ref a ∧ (∃ xs, SqT K H1 a xs) ∧ R (Itt K a) H1) : iTup K tl σ H R := h
theorem hu64 {A : Around} {k : Nat} (hr : Room k A) : A.units + 64 < cLine := by
  have := hr.un
  omega
theorem at_ofN {α : Type} {xs : List α} {z : Int} {j : Nat} {v : α} (e : z = (j : Int)) (h : xs[j]? = some v) : atI xs z = some v := by
  rw [e]
  exact atI_nat h
theorem szle {n : Nat} (h : n ≤ 100000) : n ≤ sizeLine := Nat.le_trans h (by decide)
theorem szlt {n : Nat} (h : n < 100000) : n < sizeLine := Nat.lt_of_lt_of_le h (by decide)
section
variable {σ : L2.St} {H : Hp} {te : TE} {tl th : TO} {Q : VK}
theorem w_sl {r : V → Option Int → Option Int → Hp → VK → Prop} (h : te σ H fun x H1 => tl σ H1 fun l H2 => th σ H2 fun u H3 => r x l u H3 Q) : tSl r te tl th σ H Q := h
theorem w_part {R : Option Int → Hp → Prop} (h : te σ H fun x H1 => ∃ i, x = .int i ∧ R (some i) H1) : tPart te σ H R := h
theorem w_nopart {R : Option Int → Hp → Prop} (h : R none H) : tNoPart σ H R := h
theorem w_bm {T : String} {r : V → List V → Hp → VK → Prop} {t : TA} (h : te σ H fun x H1 => tyV K T x H1 ∧ t σ H1 fun xs H2 => r x xs H2 Q) : tBM K T r te t σ H Q := h
theorem w_append {l : Addr} {xs : List V} {v : V} (h : H l = some (.lst xs)) (hz : xs.length < sizeLine) (q : Q .non (upd H l (.lst (xs ++ [v])))) : rAppend (.ref l) [v] H Q := ⟨l, xs, v, rfl, rfl, h, hz, q⟩
theorem w_yes {R : Bool → Hp → Prop} (h : R true H) : tYes σ H R := h
theorem w_lc {wi : TI} {g : TG} {tt : TT} {vs : List Nat} (h : wi σ H fun J H1 => ∀ D, H1 D = none → ∃ W : Nat → Nat → Hp → Prop, (∃ m, W 0 m (upd H1 D (.lst []))) ∧ ∀ i m H, W i m H →
  (J.stop i H ∧ Q (.ref D) H) ∨ (J.go i H ∧ ∃ Nx : Hp → Prop, (∀ H', Nx H' → ∃ m', m' < m ∧ W (i + 1) m' H') ∧ ∀ x H', J.yld i H x H' → g x (wipe σ vs) H' fun σ2 H2 => wipe σ2 vs = wipe σ vs ∧ tt σ2 H2 fun b H3 =>
    if b = true then te σ2 H3 fun y H4 => ∃ acc, H4 D = some (.lst acc) ∧ acc.length < sizeLine ∧ Nx (upd H4 D (.lst (acc ++ [y]))) else Nx H3)) : tLc wi g tt te vs σ H Q := h
theorem cut_to (xs : List V) (n : Nat) : cutV xs none (some (n : Int)) = xs.take n := by
  unfold cutV
  rw [HT.sIx_none, show HT.sIx xs.length xs.length (some (n : Int)) = min n xs.length from HT.sIx_nat xs.length xs.length n]
  rw [List.drop_zero, Nat.sub_zero]
  by_cases h : n ≤ xs.length
  · rw [Nat.min_eq_left h]
  · rw [Nat.min_eq_right (by omega), List.take_of_length_le (Nat.le_refl _), List.take_of_length_le (by omega)]
theorem cut_from (xs : List V) (n : Nat) : cutV xs (some (n : Int)) none = xs.drop n := by
  unfold cutV
  rw [HT.sIx_none, show HT.sIx xs.length 0 (some (n : Int)) = min n xs.length from HT.sIx_nat xs.length 0 n]
  by_cases h : n ≤ xs.length
  · rw [Nat.min_eq_left h, List.take_of_length_le (by rw [List.length_drop]; exact Nat.le_refl _)]
  · rw [Nat.min_eq_right (by omega), List.drop_of_length_le (Nat.le_refl _), List.drop_of_length_le (by omega), List.take_nil]
theorem cut_both (xs : List V) (m n : Nat) : cutV xs (some (m : Int)) (some (n : Int)) = (xs.take n).drop m := by
  unfold cutV
  rw [show HT.sIx xs.length 0 (some (m : Int)) = min m xs.length from HT.sIx_nat xs.length 0 m, show HT.sIx xs.length xs.length (some (n : Int)) = min n xs.length from HT.sIx_nat xs.length xs.length n]
  rw [List.drop_take]
  by_cases g : n ≤ xs.length
  · rw [Nat.min_eq_left g]
    by_cases h : m ≤ xs.length
    · rw [Nat.min_eq_left h]
    · rw [Nat.min_eq_right (by omega), List.drop_of_length_le (Nat.le_refl _), List.drop_of_length_le (by omega), List.take_nil, List.take_nil]
  · rw [Nat.min_eq_right (show xs.length ≤ n by omega)]
    by_cases h : m ≤ xs.length
    · rw [Nat.min_eq_left h, List.take_of_length_le (by rw [List.length_drop]; exact Nat.le_refl _), List.take_of_length_le (by rw [List.length_drop]; omega)]
    · rw [Nat.min_eq_right (by omega), List.drop_of_length_le (Nat.le_refl _), List.drop_of_length_le (by omega), List.take_nil, List.take_nil]
end
theorem w_slA {H : Hp} {Q : VK} {a : Addr} {xs : List V} {lo hi : Option Int} (hx : H a = some (.tup xs)) (q : ∀ (p : Addr) (H' : Hp), Same H H' → H' p = some (.tup (cutV xs lo hi)) → Q (.ref p) H') : rSlA K (.ref a) lo hi H Q := by
  refine ⟨a, xs, rfl, .of hx, fun h => q a H (Same.refl H) ?_, fun _ p np => q p _ (same_new np) upd_same⟩
  have e : cutV xs lo hi = xs := by
    unfold cutV
    rw [h.1, h.2, List.drop_zero, Nat.sub_zero, List.take_length]
  rw [e]
  exact hx
theorem at_cut (xs : List V) (j : Nat) : cutV xs (some (j : Int)) (some ((j + 1 : Nat) : Int)) = (xs[j]?).toList := by
  rw [cut_both, List.drop_take, Nat.add_sub_cancel_left]
  by_cases h : j < xs.length
  · rw [List.drop_eq_getElem_cons h, List.getElem?_eq_getElem h]
    rfl
  · rw [List.drop_of_length_le (by omega), List.getElem?_eq_none (by omega)]
    rfl
theorem w_ixAny {H : Hp} {Q : VK} {p : Addr} {xs : List V} {r : Int} (P : V → Prop) (h : SqL K H p xs) (r0 : 0 ≤ r) (r1 : r < xs.length) (hp : ∀ v ∈ xs, P v) (q : ∀ v, P v → Q v H) : rIxL K (.ref p) (.int r) H Q := by
  have hr : r.toNat < xs.length := by omega
  refine w_ixL (v := xs[r.toNat]) h (at_of (j := r.toNat) (by omega) (List.getElem?_eq_getElem hr)) (q _ (hp _ (List.getElem_mem hr)))
theorem w_ixS {H : Hp} {Q : VK} {z : Str} {r : Int} (P : Nat → Prop) (hz : z.length ≤ sizeLine) (r0 : 0 ≤ r) (r1 : r < z.cps.toList.length) (hp : ∀ c ∈ z.cps.toList, P c) (q : ∀ c, P c → Q (.str ⟨#[c]⟩) H) : rIxS (.str z) (.int r) H Q := by
  have hr : r.toNat < z.cps.toList.length := by omega
  exact ⟨z, r, z.cps.toList[r.toNat], rfl, rfl, hz, at_ofN (j := r.toNat) (by omega) (List.getElem?_eq_getElem hr), q _ (hp _ (List.getElem_mem hr))⟩
theorem w_catA {H : Hp} {Q : VK} {a b : Addr} {xs ys : List V} (ha : H a = some (.tup xs)) (hb : H b = some (.tup ys)) (hl : xs.length + ys.length ≤ 100000) (q : ∀ (p : Addr) (H' : Hp), Same H H' → H' p = some (.tup (xs ++ ys)) → Q (.ref p) H') : rCatA K (.ref a) (.ref b) H Q :=
  ⟨a, b, xs, ys, rfl, rfl, .of ha, .of hb, szle hl, fun e => q b H (Same.refl H) (by rw [e]; exact hb), fun _ e => q a H (Same.refl H) (by rw [e, List.append_nil]; exact ha), fun _ _ p np => q p _ (same_new np) upd_same⟩
theorem w_cat {H : Hp} {Q : VK} {a b : Addr} {xs ys : List V} (ha : H a = some (.lst xs)) (hb : H b = some (.lst ys)) (hl : xs.length + ys.length ≤ 100000) (q : ∀ (p : Addr) (H' : Hp), H p = none → Same H H' → H' p = some (.lst (xs ++ ys)) → Q (.ref p) H') : rCat (.ref a) (.ref b) H Q :=
  ⟨a, b, xs, ys, rfl, rfl, ha, hb, szle hl, fun p np => q p _ np (same_new np) upd_same⟩
theorem w_while {σ : L2.St} {H : Hp} {D : Ends} {c : TT} {tb : TS} (h : ∃ W : Nat → L2.St → Hp → Prop, (∃ m, W m σ H) ∧ ∀ m σ H, W m σ H →
  c σ H fun b H1 => if b = true then ∃ N : L2.St → Hp → Prop, (∀ σ' H', N σ' H' → ∃ m', m' < m ∧ W m' σ' H') ∧ tb { D with nx := N, ct := N, bk := D.nx } σ H1 else D.nx σ H1) : tWhile c tb D σ H := h
theorem w_par {σ : L2.St} {H : Hp} {D : Ends} {i j : Nat} {ta : TA} (h : ta σ H fun vs H1 => ∃ v w, vs = [v, w] ∧ D.nx ((σ.set i (some v)).set j (some w)) H1) : tPar i j ta D σ H := h
theorem w_irev {σ : L2.St} {H : Hp} {ta : TA} {R : It → Hp → Prop} (h : ta σ H fun vs H1 => ∃ (a : Addr) (xs : List V), vs = [.ref a] ∧ SqL K H1 a xs ∧ R (Itv K a xs.length) H1) : iRev K ta σ H R := h
theorem w_its {σ : L2.St} {H : Hp} {tl : TE} {R : It → Hp → Prop} (h : tl σ H fun x H1 => ∃ z, x = .str z ∧ R (Its z) H1) : iStr tl σ H R := h
/-- how deep data is -/
inductive Dep : Nat → PyData → Prop
  | non (n : Nat) : Dep n .none
  | bl (n : Nat) (b : Bool) : Dep n (.bool b)
  | int (n : Nat) (i : Int) : Dep n (.int i)
  | str (n : Nat) (x : Str) : Dep n (.str x)
  | tup {n : Nat} {ds : List PyData} (hl : ds.length ≤ 1000000) (h : ∀ d ∈ ds, Dep n d) : Dep (n + 1) (.tuple ds)
theorem Dep.mono {n : Nat} {d : PyData} (h : Dep n d) : ∀ {m : Nat}, n ≤ m → Dep m d := by
  induction h with
  | non n => exact fun _ => .non _
  | bl n b => exact fun _ => .bl _ _
  | int n i => exact fun _ => .int _ _
  | str n x => exact fun _ => .str _ _
  | tup hl h ih =>
    intro m hm
    cases m with
    | zero => omega
    | succ m => exact .tup hl fun d hd => ih d hd (by omega)
theorem AtL.len {H : Hp} : ∀ {vs : List V} {ds : List PyData}, AtL H vs ds → vs.length = ds.length
  | _, _, .nil => rfl
  | _, _, .cons _ l => congrArg (· + 1) l.len
theorem AtL.get {H : Hp} : ∀ {vs : List V} {ds : List PyData} {i : Nat} {d : PyData}, AtL H vs ds → ds[i]? = some d → ∃ v, vs[i]? = some v ∧ At H v d
  | _, _, _, _, .nil, h => by simp at h
  | _, _, 0, d, .cons (d := e) a _, h => by
    have q : e = d := by simpa using h
    subst q
    exact ⟨_, rfl, a⟩
  | _, _, i + 1, d, .cons _ l, h => by
    obtain ⟨v, h1, h2⟩ := AtL.get (i := i) (d := d) l (by simpa using h)
    exact ⟨v, by simpa using h1, h2⟩
theorem w_isi {H : Hp} {Q : VK} {x : V} {a : String} {n : String} (ty : TyX K H x (.type a)) (b : Bool) (h : kitB a n = some b) (q : Q (.bl b) H) : rIsi K [x, .ty n] H Q := ⟨x, .ty n, .type a, .type n, b, rfl, .ty n, ty, kit_ty h, q⟩
end
/-- what stands at an address -/
local macro_rules | `(tactic| walk_at "hp") => `(tactic| first | assumption | exact upd_same | ((refine (upd_ne ?hn).trans ?hr); (case hn => first | assumption | (apply Ne.symm; assumption) | fail "hp"); (case hr => walk_at "hp")) | fail "hp")
local macro_rules | `(tactic| walk_at "ix") => `(tactic| first | assumption | exact atI_nat (j := 0) rfl | exact atI_nat (j := 1) rfl | exact atI_nat (j := 2) rfl | exact atI_nat (j := 3) rfl | exact atI_nat (j := 4) rfl | fail "ix")
local macro_rules | `(tactic| walk_at "ixn") => `(tactic| first | assumption | exact rfl | fail "ixn")
/-- one step of a reading that asks nothing -/
local macro_rules | `(tactic| walk_at "w1") => `(tactic| first
  | with_reducible refine w_seq ?_ | with_reducible refine w_asg ?_ | with_reducible refine w_name ?_ | with_reducible refine w_gsub ?_ | with_reducible refine w_ret ?_ | with_reducible refine w_ifS ?_ | with_reducible refine w_next ?_ | with_reducible refine w_drop ?_
  | with_reducible refine w_op ?_ | with_reducible refine w_un ?_ | with_reducible refine w_cb ?_ | with_reducible refine w_call ?_ | with_reducible refine w_cons ?_ | with_reducible refine w_nil ?_
  | ((with_reducible refine' w_var ?hv ?_); (case hv => exact rfl)) | with_reducible refine w_c ?_ | with_reducible refine w_test ?_ | with_reducible refine w_B ?_ | with_reducible refine w_bl ?_
  | with_reducible refine w_not ?_ | with_reducible refine w_and ?_ | with_reducible refine w_or ?_ | with_reducible refine w_andV ?_ | with_reducible refine w_orV ?_ | with_reducible refine w_notV ?_ | with_reducible refine w_if ?_
  | with_reducible refine w_I0 ?_ | with_reducible refine w_U ?_ | with_reducible refine w_eqI ?_ | with_reducible refine w_neI ?_ | with_reducible refine w_neB ?_ | with_reducible refine w_eqS ?_
  | ((with_reducible refine w_I ?hc ?_); (case hc => first | exact Or.inr (by decide) | exact ⟨by decide, by decide, by decide⟩ | exact ⟨by decide, by decide⟩ | decide | assumption | (show _ ≠ _; omega) | (unfold CMul; omega)))
  | ((with_reducible show (∃ i, [V.int _] = [V.int i] ∧ _) ∨ _); refine .inl ⟨_, rfl, ?_⟩; try dsimp -proj -iota -zeta -eta only)
  | ((with_reducible show _ ∨ (∃ i, [V.bl _] = [V.bl i] ∧ _)); refine .inr ⟨_, rfl, ?_⟩; try dsimp -proj -iota -zeta -eta only)
  | ((with_reducible show (∃ i, [V.int _] = [V.int i] ∧ _)); refine ⟨_, rfl, ?_⟩; try dsimp -proj -iota -zeta -eta only)
  | ((with_reducible show (∃ i j, [V.int _, V.int _] = [V.int i, V.int j] ∧ _)); refine ⟨_, _, rfl, ?_⟩; try dsimp -proj -iota -zeta -eta only)
  | ((with_reducible refine' w_ixL ?hl ?ha ?_); (case hl => exact SqL.of (by walk_at "hp")); (case ha => walk_at "ix"))
  | ((with_reducible refine' w_ixT ?hl ?ha ?_); (case hl => exact SqT.of (by walk_at "hp")); (case ha => walk_at "ix"))
  | ((with_reducible refine' w_setL ?hl ?ha ?_); (case hl => walk_at "hp"); (case ha => walk_at "ixn"))
  | ((with_reducible show (∃ p ys, [V.ref _] = [V.ref p] ∧ (SqL _ _ p ys ∨ SqT _ _ p ys) ∧ _)); (first | refine ⟨_, _, rfl, .inl (.of (by walk_at "hp")), ?_⟩ | refine ⟨_, _, rfl, .inr (.of (by walk_at "hp")), ?_⟩); try dsimp -proj -iota -zeta -eta only)
  | with_reducible refine q_iteT ?_ | with_reducible refine q_iteF ?_ | with_reducible refine q_iteNT ?_ | with_reducible refine q_iteNF ?_
  | ((with_reducible show (∃ k, TruV _ (V.bl _) _ k ∧ _)); refine ⟨_, rfl, ?_⟩; try dsimp -proj -iota -zeta -eta only)
  | with_reducible refine w_while ?_ | with_reducible refine w_par ?_
  | with_reducible refine w_its ?_ | with_reducible refine w_irev ?_
  | ((with_reducible show (∃ i, V.str _ = V.str i ∧ _)); refine ⟨_, rfl, ?_⟩; try dsimp -proj -iota -zeta -eta only)
  | ((with_reducible show (∃ i, [V.str _] = [V.str i] ∧ _)); refine ⟨_, rfl, ?_⟩; try dsimp -proj -iota -zeta -eta only)
  | with_reducible refine w_break ?_ | with_reducible refine w_cont ?_ | with_reducible refine w_bits ?_
  | ((with_reducible show (∃ i, V.int _ = V.int i ∧ _)); refine ⟨_, rfl, ?_⟩; try dsimp -proj -iota -zeta -eta only)
  | with_reducible refine w_for ?_ | with_reducible refine w_rng1 ?_ | with_reducible refine w_rng2 ?_ | with_reducible refine w_itl ?_ | with_reducible refine w_itt ?_
  | ((with_reducible show (∃ a, V.ref _ = V.ref a ∧ (∃ xs, SqL _ _ a xs) ∧ _)); refine ⟨_, rfl, ⟨_, .of (by walk_at "hp")⟩, ?_⟩; try dsimp -proj -iota -zeta -eta only)
  | with_reducible refine w_sl ?_ | with_reducible refine w_part ?_ | with_reducible refine w_nopart ?_ | with_reducible refine w_bm ?_ | with_reducible refine w_yes ?_ | with_reducible refine w_lc ?_
  | ((with_reducible show tyV _ "list" (V.ref _) _ ∧ _); refine ⟨.inl ⟨rfl, _, .of (by walk_at "hp")⟩, ?_⟩)
  | ((with_reducible refine' w_append ?hl ?hz ?_); (case hl => walk_at "hp"); (case hz => first | assumption | exact szlt (by simp only [List.length_append, List.length_map, List.length_cons, List.length_nil, List.length_take, List.length_replicate] <;> omega)))
  | ((with_reducible show (∃ p ys, [V.ref _] = [V.ref p] ∧ ((SqL _ _ p ys ∧ _) ∨ (SqT _ _ p ys ∧ _)))); refine ⟨_, _, rfl, .inl ⟨.of (by walk_at "hp"), ?_⟩⟩; try dsimp -proj -iota -zeta -eta only)
  | with_reducible refine w_tup ?_ | with_reducible refine w_lst ?_ | fail "w1")
local macro_rules | `(tactic| walk_at "wp") => `(tactic| repeat walk_at "w1")
local macro_rules | `(tactic| walk_at "wi") => `(tactic| repeat ((fail_if_success (with_reducible show tIfS _ _ _ _ _ _)); walk_at "w1"))
namespace Dm
open PySem PySem.Spec PyProof.Rows L2 Ss
/-- ints, texts of signs below 128, tuples of these -/
inductive Pl : PyData → Prop
  | int (i : Int) : Pl (.int i)
  | str (x : Str) (h : ∀ c ∈ x.cps.toList, c < 128) : Pl (.str x)
  | tup (ds : List PyData) (h : ∀ d ∈ ds, Pl d) : Pl (.tuple ds)
theorem ok_str {x : Str} (h : ∀ c ∈ x.cps.toList, c < 128) : PySem.PyData.strOk x = true := by
  unfold PySem.PyData.strOk
  rw [Array.all_eq_true']
  intro c hc
  have := h c (by simpa using hc)
  exact decide_eq_true (by omega)
mutual
theorem pl_lay : ∀ d : PyData, Pl d → d.canLay0 = true
  | .int i, _ => rfl
  | .str x, h => by
    cases h with
    | str _ h => exact ok_str h
  | .tuple ds, h => by
    cases h with
    | tup _ h => exact pl_layAll ds h
  | .none, h => nomatch h
  | .bool _, h => nomatch h
  | .list _, h => nomatch h
  | .dict _, h => nomatch h
theorem pl_layAll : ∀ ds : List PyData, (∀ d ∈ ds, Pl d) → PyData.canLayAll0 ds = true
  | [], _ => rfl
  | d :: r, h => by
    unfold PyData.canLayAll0
    rw [pl_lay d (h d (List.mem_cons_self ..)), pl_layAll r fun e he => h e (List.mem_cons_of_mem _ he)]
    rfl
end
mutual
theorem pl_eqv : ∀ d e : PyData, Pl d → Pl e → (PyData.eqv d e = true ↔ d = e)
  | .int i, .int j, _, _ => by
    show (i == j) = true ↔ _
    rw [beq_iff_eq]
    exact ⟨congrArg _, fun h => PyData.int.inj h⟩
  | .str x, .str y, _, _ => by
    show (x == y) = true ↔ _
    rw [beq_iff_eq]
    exact ⟨congrArg _, fun h => PyData.str.inj h⟩
  | .tuple ds, .tuple es, h, g => by
    show PyData.eqvAll ds es = true ↔ _
    have hd : ∀ d ∈ ds, Pl d := by cases h with | tup _ h => exact h
    have he : ∀ d ∈ es, Pl d := by cases g with | tup _ h => exact h
    rw [pl_eqvAll ds es hd he]
    exact ⟨congrArg _, fun h => PyData.tuple.inj h⟩
  | .int _, .str _, _, _ => ⟨fun h => (Bool.false_ne_true h).elim, fun h => nomatch h⟩
  | .int _, .tuple _, _, _ => ⟨fun h => (Bool.false_ne_true h).elim, fun h => nomatch h⟩
  | .str _, .int _, _, _ => ⟨fun h => (Bool.false_ne_true h).elim, fun h => nomatch h⟩
  | .str _, .tuple _, _, _ => ⟨fun h => (Bool.false_ne_true h).elim, fun h => nomatch h⟩
  | .tuple _, .int _, _, _ => ⟨fun h => (Bool.false_ne_true h).elim, fun h => nomatch h⟩
  | .tuple _, .str _, _, _ => ⟨fun h => (Bool.false_ne_true h).elim, fun h => nomatch h⟩
  | .none, _, h, _ => nomatch h
  | .bool _, _, h, _ => nomatch h
  | .list _, _, h, _ => nomatch h
  | .dict _, _, h, _ => nomatch h
  | .int _, .none, _, h => nomatch h
  | .int _, .bool _, _, h => nomatch h
  | .int _, .list _, _, h => nomatch h
  | .int _, .dict _, _, h => nomatch h
  | .str _, .none, _, h => nomatch h
  | .str _, .bool _, _, h => nomatch h
  | .str _, .list _, _, h => nomatch h
  | .str _, .dict _, _, h => nomatch h
  | .tuple _, .none, _, h => nomatch h
  | .tuple _, .bool _, _, h => nomatch h
  | .tuple _, .list _, _, h => nomatch h
  | .tuple _, .dict _, _, h => nomatch h
theorem pl_eqvAll : ∀ ds es : List PyData, (∀ d ∈ ds, Pl d) → (∀ d ∈ es, Pl d) → (PyData.eqvAll ds es = true ↔ ds = es)
  | [], [], _, _ => ⟨fun _ => rfl, fun _ => rfl⟩
  | [], _ :: _, _, _ => ⟨fun h => (Bool.false_ne_true h).elim, fun h => nomatch h⟩
  | _ :: _, [], _, _ => ⟨fun h => (Bool.false_ne_true h).elim, fun h => nomatch h⟩
  | d :: ds, e :: es, h, g => by
    show (PyData.eqv d e && PyData.eqvAll ds es) = true ↔ _
    rw [Bool.and_eq_true, pl_eqv d e (h d (List.mem_cons_self ..)) (g e (List.mem_cons_self ..)), pl_eqvAll ds es (fun x hx => h x (List.mem_cons_of_mem _ hx)) (fun x hx => g x (List.mem_cons_of_mem _ hx))]
    exact ⟨fun z => by rw [z.1, z.2], fun z => List.cons.inj z⟩
end
mutual
theorem dep_depth : ∀ (d : PyData) (n : Nat), Dep n d → d.depth ≤ n
  | .none, n, _ => Nat.zero_le _
  | .bool _, n, _ => Nat.zero_le _
  | .int _, n, _ => Nat.zero_le _
  | .str _, n, _ => Nat.zero_le _
  | .tuple ds, n, h => by
    cases h with
    | tup hl h =>
      have := dep_depthAll ds _ h
      show PyData.depthAll ds + 1 ≤ _
      omega
  | .list _, n, h => nomatch h
  | .dict _, n, h => nomatch h
theorem dep_depthAll : ∀ (ds : List PyData) (n : Nat), (∀ d ∈ ds, Dep n d) → PyData.depthAll ds ≤ n
  | [], n, _ => Nat.zero_le _
  | d :: r, n, h => by
    show max d.depth (PyData.depthAll r) ≤ n
    have h1 := dep_depth d n (h d (List.mem_cons_self ..))
    have h2 := dep_depthAll r n fun e he => h e (List.mem_cons_of_mem _ he)
    omega
end
theorem pl_shaped {d : PyData} {n : Nat} (h : Pl d) (g : Dep n d) (hn : n ≤ 64) : SeqAt.shaped d = true := by
  unfold SeqAt.shaped
  rw [pl_lay d h, Bool.true_and]
  have := dep_depth d n g
  exact decide_eq_true (by omega)
mutual
theorem at_dp {K : PySem.W.Frag} {H : Hp} : ∀ {v : V} {d : PyData}, At H v d → Dp K H v d
  | _, _, .non => .non
  | _, _, .bl b => .bl b
  | _, _, .int i => .int i
  | _, _, .str x => .str x
  | _, _, .tup e l => .tup (.of e) (atl_dp l)
theorem atl_dp {K : PySem.W.Frag} {H : Hp} : ∀ {v : List V} {d : List PyData}, AtL H v d → DpAll K H v d
  | _, _, .nil => .nil
  | _, _, .cons a l => .cons (at_dp a) (atl_dp l)
end
/-- == of two such, as a reading -/
theorem w_eqD {K : PySem.W.Frag} {H : Hp} {Q : VK} {x y : V} {d e : PyData} {n m : Nat} (hx : At H x d) (hy : At H y e) (pd : Pl d) (pe : Pl e) (dd : Dep n d) (de : Dep m e) (hn : n ≤ 64) (hm : m ≤ 64) (q : ∀ b : Bool, (b = true ↔ d = e) → Q (.bl b) H) : rEqD K x y H Q :=
  ⟨d, e, at_dp hx, at_dp hy, pl_shaped pd dd hn, pl_shaped pe de hm, q _ (pl_eqv d e pd pe)⟩
theorem w_neD {K : PySem.W.Frag} {H : Hp} {Q : VK} {x y : V} {d e : PyData} {n m : Nat} (hx : At H x d) (hy : At H y e) (pd : Pl d) (pe : Pl e) (dd : Dep n d) (de : Dep m e) (hn : n ≤ 64) (hm : m ≤ 64) (q : ∀ b : Bool, (b = true ↔ d ≠ e) → Q (.bl b) H) : rNeD K x y H Q :=
  ⟨d, e, at_dp hx, at_dp hy, pl_shaped pd dd hn, pl_shaped pe de hm, q _ (by
    have := pl_eqv d e pd pe
    cases h : PyData.eqv d e with
    | true => exact ⟨fun z => absurd z (by decide), fun z => absurd (this.mp h) z⟩
    | false => exact ⟨fun _ z => by rw [this.mpr z] at h; exact absurd h (by decide), fun _ => rfl⟩)⟩
theorem at_ints {H : Hp} {p : Addr} {cs : List Int} (h : H p = some (.tup (cs.map V.int))) : At H (.ref p) (.tuple (cs.map .int)) :=
  .tup h (by
    clear h
    induction cs with
    | nil => exact .nil
    | cons c r ih => exact .cons (.int c) ih)
theorem dep_ints {n : Nat} {cs : List Int} (h : cs.length ≤ 1000000) : Dep (n + 1) (.tuple (cs.map .int)) := .tup (by rw [List.length_map]; exact h) fun d hd => by
  obtain ⟨i, _, rfl⟩ := List.mem_map.mp hd
  exact .int _ _
theorem pl_ints (cs : List Int) : Pl (.tuple (cs.map .int)) := .tup _ fun d hd => by
  obtain ⟨i, _, rfl⟩ := List.mem_map.mp hd
  exact .int _
theorem int_map_inj : ∀ {cs ds : List Int}, cs.map PyData.int = ds.map PyData.int → cs = ds
  | [], [], _ => rfl
  | [], _ :: _, h => nomatch h
  | _ :: _, [], h => nomatch h
  | c :: cs, d :: ds, h => by
    have h := List.cons.inj h
    rw [PyData.int.inj h.1, int_map_inj h.2]
theorem ints_inj : ∀ {cs ds : List Int}, (PyData.tuple (cs.map .int) = .tuple (ds.map .int)) ↔ cs = ds
  | cs, ds => by
    constructor
    · intro h
      have h := PyData.tuple.inj h
      exact int_map_inj h
    · intro h
      rw [h]
end Dm
namespace Nm
open PySem PySem.Spec PyProof.Rows L2 Ss Dm
/-- a node: a leaf with its element, a run, a block -/
inductive Nd where
  | leaf (e : PyData)
  | run (c : Nd) (t : Nat)
  | block (cs : List Nd)
mutual
/-- as data -/
def toD : Nd → PyData
  | .leaf e => .tuple [.str (Str.ofString "leaf"), e]
  | .run c t => .tuple [.str (Str.ofString "run"), toD c, .int (t : Int)]
  | .block cs => .tuple [.str (Str.ofString "block"), .tuple (toDs cs)]
def toDs : List Nd → List PyData
  | [] => []
  | c :: r => toD c :: toDs r
end
mutual
def sizeN : Nd → Nat
  | .leaf _ => 1
  | .run c t => t * sizeN c
  | .block cs => sizeNs cs
def sizeNs : List Nd → Nat
  | [] => 0
  | c :: r => sizeN c + sizeNs r
end
mutual
/-- how deep the nodes lie in one another -/
def lev : Nd → Nat
  | .leaf _ => 0
  | .run c _ => lev c + 1
  | .block cs => levs cs + 1
def levs : List Nd → Nat
  | [] => 0
  | c :: r => max (lev c) (levs r)
end
def isRun : Nd → Bool
  | .run _ _ => true
  | _ => false
/-- what a node is: B says what its elements are -/
inductive Wf (B : PyData → Prop) : Nd → Prop
  | leaf (e : PyData) (h : B e) : Wf B (.leaf e)
  | run (c : Nd) (t : Nat) (h : Wf B c) (nr : isRun c = false) (t2 : 2 ≤ t) (tm : t ≤ 2000) : Wf B (.run c t)
  | block (cs : List Nd) (h : ∀ c ∈ cs, Wf B c) (l1 : 1 ≤ cs.length) (l2 : cs.length ≤ 12) : Wf B (.block cs)
theorem toDs_map : ∀ cs : List Nd, toDs cs = cs.map toD
  | [] => rfl
  | c :: r => by
    show toD c :: toDs r = toD c :: r.map toD
    rw [toDs_map r]
theorem toDs_len (cs : List Nd) : (toDs cs).length = cs.length := by rw [toDs_map, List.length_map]
theorem toDs_app (cs ds : List Nd) : toDs (cs ++ ds) = toDs cs ++ toDs ds := by rw [toDs_map, toDs_map, toDs_map, List.map_append]
theorem sizeNs_app : ∀ cs ds : List Nd, sizeNs (cs ++ ds) = sizeNs cs + sizeNs ds
  | [], ds => by show sizeNs ds = 0 + sizeNs ds; omega
  | c :: r, ds => by
    show sizeN c + sizeNs (r ++ ds) = sizeN c + sizeNs r + sizeNs ds
    rw [sizeNs_app r ds]; omega
theorem levs_le : ∀ {cs : List Nd} {m : Nat}, (∀ c ∈ cs, lev c ≤ m) → levs cs ≤ m
  | [], m, _ => Nat.zero_le _
  | c :: r, m, h => by
    show max (lev c) (levs r) ≤ m
    have h1 := h c (List.mem_cons_self ..)
    have h2 := levs_le (cs := r) fun d hd => h d (List.mem_cons_of_mem _ hd)
    omega
theorem lev_mem : ∀ {cs : List Nd} {c : Nd}, c ∈ cs → lev c ≤ levs cs
  | c :: r, d, h => by
    show lev d ≤ max (lev c) (levs r)
    rcases List.mem_cons.mp h with rfl | h
    · omega
    · have := lev_mem h; omega
theorem Wf.mono {B B' : PyData → Prop} {n : Nd} (h : Wf B n) (hb : ∀ e, B e → B' e) : Wf B' n := by
  induction h with
  | leaf e h => exact .leaf e (hb e h)
  | run c t _ nr t2 tm ih => exact .run c t ih nr t2 tm
  | block cs _ l1 l2 ih => exact .block cs ih l1 l2
theorem asc_lit : (∀ c ∈ (Str.ofString "leaf").cps.toList, c < 128) ∧ (∀ c ∈ (Str.ofString "run").cps.toList, c < 128) ∧ (∀ c ∈ (Str.ofString "block").cps.toList, c < 128) := by decide +kernel
theorem lit_ne : Str.ofString "leaf" ≠ Str.ofString "run" ∧ Str.ofString "leaf" ≠ Str.ofString "block" ∧ Str.ofString "run" ≠ Str.ofString "block" := by decide +kernel
theorem pl2 {a b : PyData} (ha : Pl a) (hb : Pl b) : Pl (.tuple [a, b]) := .tup _ (List.forall_mem_cons.mpr ⟨ha, List.forall_mem_cons.mpr ⟨hb, fun _ h => absurd h List.not_mem_nil⟩⟩)
theorem toD_pl {B : PyData → Prop} (hB : ∀ e, B e → Pl e) {n : Nd} (h : Wf B n) : Pl (toD n) := by
  induction h with
  | leaf e h => exact pl2 (.str _ asc_lit.1) (hB e h)
  | run c t _ nr t2 tm ih => exact .tup _ (List.forall_mem_cons.mpr ⟨.str _ asc_lit.2.1, List.forall_mem_cons.mpr ⟨ih, List.forall_mem_cons.mpr ⟨.int _, fun _ h => absurd h List.not_mem_nil⟩⟩⟩)
  | block cs _ l1 l2 ih =>
    refine pl2 (.str _ asc_lit.2.2) (.tup _ fun d hd => ?_)
    rw [toDs_map] at hd
    obtain ⟨c, hc, rfl⟩ := List.mem_map.mp hd
    exact ih c hc
theorem toD_dep {B : PyData → Prop} (hB : ∀ e, B e → Dep 1 e) {n : Nd} (h : Wf B n) : Dep (2 * lev n + 2) (toD n) := by
  induction h with
  | leaf e h => exact .tup (by show 2 ≤ 1000000; decide) (List.forall_mem_cons.mpr ⟨.str _ _, List.forall_mem_cons.mpr ⟨hB e h, fun _ h => absurd h List.not_mem_nil⟩⟩)
  | run c t _ nr t2 tm ih =>
    have : 2 * lev (.run c t) + 2 = (2 * lev c + 3) + 1 := by show 2 * (lev c + 1) + 2 = _; omega
    rw [this]
    exact .tup (by show 3 ≤ 1000000; decide) (List.forall_mem_cons.mpr ⟨.str _ _, List.forall_mem_cons.mpr ⟨ih.mono (by omega), List.forall_mem_cons.mpr ⟨.int _ _, fun _ h => absurd h List.not_mem_nil⟩⟩⟩)
  | block cs _ l1 l2 ih =>
    have : 2 * lev (.block cs) + 2 = (2 * levs cs + 2 + 1) + 1 := by show 2 * (levs cs + 1) + 2 = _; omega
    rw [this]
    refine .tup (by show 2 ≤ 1000000; decide) (List.forall_mem_cons.mpr ⟨.str _ _, List.forall_mem_cons.mpr ⟨.tup (by rw [toDs_len]; omega) fun d hd => ?_, fun _ h => absurd h List.not_mem_nil⟩⟩)
    rw [toDs_map] at hd
    obtain ⟨c, hc, rfl⟩ := List.mem_map.mp hd
    have := lev_mem hc
    exact (ih c hc).mono (by omega)
mutual
theorem toD_inj : ∀ m n : Nd, toD m = toD n → m = n
  | .leaf e, .leaf f, h => by
    have h := PyData.tuple.inj h
    have h := (List.cons.inj (List.cons.inj h).2).1
    rw [h]
  | .run c t, .run d u, h => by
    have h := PyData.tuple.inj h
    have h := (List.cons.inj h).2
    have h1 := (List.cons.inj h).1
    have h2 := PyData.int.inj (List.cons.inj (List.cons.inj h).2).1
    rw [toD_inj c d h1, Int.ofNat.inj h2]
  | .block cs, .block ds, h => by
    have h := PyData.tuple.inj h
    have h := PyData.tuple.inj (List.cons.inj (List.cons.inj h).2).1
    rw [toDs_inj cs ds h]
  | .leaf _, .run _ _, h => absurd (PyData.str.inj (List.cons.inj (PyData.tuple.inj h)).1) lit_ne.1
  | .leaf _, .block _, h => absurd (PyData.str.inj (List.cons.inj (PyData.tuple.inj h)).1) lit_ne.2.1
  | .run _ _, .leaf _, h => absurd (PyData.str.inj (List.cons.inj (PyData.tuple.inj h)).1).symm lit_ne.1
  | .run _ _, .block _, h => absurd (PyData.str.inj (List.cons.inj (PyData.tuple.inj h)).1) lit_ne.2.2
  | .block _, .leaf _, h => absurd (PyData.str.inj (List.cons.inj (PyData.tuple.inj h)).1).symm lit_ne.2.1
  | .block _, .run _ _, h => absurd (PyData.str.inj (List.cons.inj (PyData.tuple.inj h)).1).symm lit_ne.2.2
theorem toDs_inj : ∀ m n : List Nd, toDs m = toDs n → m = n
  | [], [], _ => rfl
  | [], _ :: _, h => nomatch h
  | _ :: _, [], h => nomatch h
  | a :: r, b :: s, h => by
    have h := List.cons.inj h
    rw [toD_inj a b h.1, toDs_inj r s h.2]
end
end Nm
namespace Em
open PySem PySem.Spec PyProof.Rows L2 Ss
theorem list_extend_tupW (l : Addr) (items : Array Value) (n : Nat) (b : Addr) (items2 : Array Value) (n2 : Nat) (dd : Option Addr) (sl : Array (Option Value)) (hs0 : ¬(!items.isEmpty && Builtin.List.listTooLong (items.size + items2.size)) = true) (hs1 : items.size ≤ sizeLine) (hs2 : items.size + items2.size ≤ sizeLine + 1) :
    Meets (Builtin.«list.extend» ⟨[.ref l, .ref b], []⟩) (fun _ R s => s.heap.get? l = some { cls := .type "list", dict := none, data := .seq items n, slots := #[] } ∧ s.heap.get? b = some { cls := .type "tuple", dict := dd, data := .seq items2 n2, slots := sl } ∧ R (.ok (.ret Value.none)) { s with heap := s.heap.update l (Obj.mapSeq fun x => x ++ items2), toks := s.toks }) :=
  .of_wp fun prog w A R s h => by
    obtain ⟨hp, g, d, tk, os⟩ := s; obtain ⟨hl, hb, h⟩ := h; have f1 := AutoSeq1.idx_int; have f2 := AutoSeq1.sub_tuple_tuple; have f3 := AutoSeq1.sub_list_list; have f4 := AutoSeq1.sub_tuple_list; have f5 := AutoSeq1.sub_list_tuple;
    have hz' : (items ++ items2).size ≤ sizeLine + 1 := by rw [Array.size_append]; exact hs2
    wp_walk using (wpAny_updateSeq hl rfl (hz := hs1) (_hz' := hz')), wpAny_loadPart' hl, wpAny_loadPart' hb; exact ⟨_, rfl, h⟩
def rExtendT (K : PySem.W.Frag) : V → List V → Hp → VK → Prop := fun x vs H Q => ∃ l b xs zs, x = .ref l ∧ vs = [.ref b] ∧ H l = some (.lst xs) ∧ SqT K H b zs ∧ xs.length + zs.length ≤ sizeLine ∧ Q .non (upd H l (.lst (xs ++ zs)))
theorem mt_extendT {X : Cx} : MtM X "list.extend" (rExtendT X.K) := by
  intro pins s σ H x vs v us Q I rx rv h
  obtain ⟨l, b, xs, zs, rfl, rfl, hH, hB, hz, q⟩ := h
  cases rx
  obtain ⟨u, rfl, ru⟩ := rv.one
  cases ru
  obtain ⟨z, its, n, r, hl, e⟩ := I.lstM hH
  obtain ⟨its2, r2, ⟨⟨cls, dd, data, sl⟩, e2, hc, n2, hd⟩, hs⟩ := I.tuple hB
  simp only at hc hd
  subst hc hd
  have hl2 := r2.length
  have hsz : its.toArray.size + its2.toArray.size ≤ sizeLine := by rw [List.size_toArray, List.size_toArray]; omega
  have hlong : ¬ (!its.toArray.isEmpty && Builtin.List.listTooLong (its.toArray.size + its2.toArray.size)) = true := by
    rw [notLongL hsz, Bool.and_false]
    exact Bool.false_ne_true
  refine call_meets F.slot_list_extend ⟨_, e, rfl⟩ F.entry_list_extend (F.args_list_extend_2 _ _)
    (list_extend_tupW l its.toArray n b its2.toArray n2 dd sl hlong (by rw [List.size_toArray]; omega) (by omega)) ⟨e, e2, ?_⟩
  refine ⟨.non, _, I.lset (its' := its ++ its2) hH e (by simp) (r.append r2) ?_, rfl, q⟩
  rw [List.length_append]
  omega
end Em
def top (i : Nat) : Stmt := PySem.Challenge.pw_sameshape_k06_items_are_unique.main.body.getD i (.Pass ⟨0, 0, 0, 0⟩)
structure Txt (mg : Str → Option Value) : Prop where
  n_range : mg "range" = none
  n_tuple : mg "tuple" = none
  n_len : mg "len" = none
  n_list : mg "list" = none
  n_int : mg "int" = none
  n_abs : mg "abs" = none
  n_max : mg "max" = none
  n_isinstance : mg "isinstance" = none
  n_str : mg "str" = none
  n_bool : mg "bool" = none
  n_min : mg "min" = none
  n_reversed : mg "reversed" = none
section
variable {P : Program} {w : World} {K : PySem.W.Frag} {mg : Str → Option Value} {base : Heap}
def spDraw : Sp := fun vs H Q _ => ∃ (t l : Addr) (m : Int), vs = [.ref t, .int m] ∧ Tape H t l ∧ m < 18446744073709551616 ∧ ∀ (r : Int) (H' : Hp), 0 ≤ r → r < max m 1 → Go t l H H' → Q (.int r) H'
abbrev s__law_draw : Stmt := top 5
theorem c__law_draw : FnScope ["tape", "many", "number", "place"] ["tape", "many"] (defScope s__law_draw) := ⟨rfl, rfl, rfl, by decide +kernel, rfl, by decide +kernel, by decide +kernel⟩

theorem ok_draw {f : Addr} {fd : FuncData} (F : Fun K "_law_draw" "_law_draw" s__law_draw f fd) (T : Txt mg) : FnOk P w K mg base CX0 1 f fd ["tape", "many"] spDraw := by
  refine F.ok c__law_draw (fun vs H Q E h => ?_) (fun cdv A outer s H vs Q E hr h => ?_)
  · obtain ⟨t, l, m, rfl, _⟩ := h
    rfl
  · obtain ⟨t, l, m, rfl, TP, hm, k⟩ := h
    obtain ⟨ns, p, n, sd, h1, h2, h3, p0, n0, s0⟩ := TP.ex
    refine ⟨_, (pss_cons (ps_if (pt_cmpR op_eq (pe_ix ix_list (pv 0) pe_int (fun _ _ => rfl)) pe_int (nomark _)) (pss_cons (ps_set (i := 3) c__law_draw.nd rfl (Or.inl rfl) (pe_ix ix_list (pv 0) pe_int (fun _ _ => rfl)))
      (pss_cons (ps_set (i := 2) c__law_draw.nd rfl (Or.inl rfl) pe_int)
      (pss_cons (ps_if (pt_cmpR op_lt (pv 3) (pe_callB call_len_seq (by rfl) T.n_len (by decide +kernel) (pa_cons (pe_ix ix_list (pv 0) pe_int (fun _ _ => rfl)) pa_nil)) (nomark _)) (pss_one (ps_set (i := 2) c__law_draw.nd rfl (Or.inl rfl) (pe_callB call_abs (by rfl) T.n_abs (by decide +kernel) (pa_cons (pe_callTy call_int1 (by rfl) T.n_int (by decide +kernel) (pa_cons (pe_ix ix_list (pe_ix ix_list (pv 0) pe_int (fun _ _ => rfl)) (pv 3) (fun _ _ => rfl)) pa_nil)) pa_nil)))) (pss_cons (ps_asg (pe_op op_modN (pe_callTy call_int1 (by rfl) T.n_int (by decide +kernel) (pa_cons (pe_op op_add (pe_op op_add (pe_op op_mul (pe_ix ix_list (pv 0) pe_int (fun _ _ => rfl)) pe_int) (pv 3)) pe_int) pa_nil)) pe_int) (pg_sub (pv 0) pe_int set_list))
      (pss_one (ps_set (i := 2) c__law_draw.nd rfl (Or.inl rfl) (pe_ix ix_list (pv 0) pe_int (fun _ _ => rfl))))))
      (pss_cons (ps_asg (pe_op op_add (pv 3) pe_int) (pg_sub (pv 0) pe_int set_list))
      (pss_cons (ps_if (pt_cmpR op_lt (pv 2) (pe_op op_pow pe_int pe_int) (nomark _)) (pss_cons (ps_set (i := 2) c__law_draw.nd rfl (Or.inl rfl) (pe_op op_modN (pe_callTy call_int1 (by rfl) T.n_int (by decide +kernel) (pa_cons (pe_op op_add (pe_op op_add (pe_op op_mul (pv 2) pe_int) (pe_op op_mul (pv 3) pe_int)) pe_int) pa_nil)) pe_int))
      (pss_cons (ps_set (i := 2) c__law_draw.nd rfl (Or.inl rfl) (pe_op op_modN (pe_callTy call_int1 (by rfl) T.n_int (by decide +kernel) (pa_cons (pe_op op_mul (pv 2) pe_int) pa_nil)) pe_int))
      (pss_one (ps_ret (pe_op op_modN (pe_callTy call_int1 (by rfl) T.n_int (by decide +kernel) (pa_cons (pv 2) pa_nil)) (pe_callB (call_max2 rfl) (by rfl) T.n_max (by decide +kernel) (pa_cons (pv 1) (pa_cons pe_int pa_nil)))))))) pss_nil)
      (pss_one (ps_asg (pv 2) (pg_sub (pv 0) pe_int set_list)))))))) pss_nil)
      (pss_cons (ps_set (i := 2) c__law_draw.nd rfl (Or.inl rfl) (pe_ix ix_list (pv 0) pe_int (fun _ _ => rfl)))
      (pss_cons (ps_asg (pe_op op_fdivW (pv 2) (pe_callB (call_max2 rfl) (by rfl) T.n_max (by decide +kernel) (pa_cons (pv 1) (pa_cons pe_int pa_nil)))) (pg_sub (pv 0) pe_int set_list))
      (pss_one (ps_ret (pe_op op_modN (pe_callTy call_int1 (by rfl) T.n_int (by decide +kernel) (pa_cons (pv 2) pa_nil)) (pe_callB (call_max2 rfl) (by rfl) T.n_max (by decide +kernel) (pa_cons (pv 1) (pa_cons pe_int pa_nil))))))))), ?_⟩
    walk_at "wp"
    have fin : ∀ (H1 : Hp) (p1 n1 s1 r : Int), H1 t = some (.lst [.ref l, .int p1, .int n1, .int s1]) → H1 l = some (.lst (ns.map V.int)) → 0 ≤ p1 → 0 ≤ n1 → 0 ≤ s1 → Ext t H H1 → Q (.int (r.fmod (if 1 > m then 1 else m))) H1 := fun H1 p1 n1 s1 r a1 a2 a3 a4 a5 a6 => by
      have z : (0 : Int) < if 1 > m then 1 else m := by split <;> omega
      have b := fm (a := r) z
      refine k _ _ b.1 ?_ ⟨a6, ns, p1, n1, s1, a1, a2, h3, a3, a4, a5⟩
      have y : (if 1 > m then 1 else m) = max m 1 := by split <;> omega
      rw [← y]
      exact b.2
    have big : ∀ (H1 : Hp) (p1 n1 s1 : Int), H1 t = some (.lst [.ref l, .int p1, .int n1, .int s1]) → H1 l = some (.lst (ns.map V.int)) → 0 ≤ p1 → 0 ≤ n1 → 0 ≤ s1 → Ext t H H1 → CDivW n1 (if 2 > m then 2 else m) ∧ 0 ≤ n1 / (if 2 > m then 2 else m) := fun H1 p1 n1 s1 a1 a2 a3 a4 a5 a6 => by
      have z : (0 : Int) < if 2 > m then 2 else m := by split <;> omega
      refine ⟨wide_div (b := 64) z ?_ (by decide) (by decide), Int.ediv_nonneg a4 (Int.le_of_lt z)⟩
      split <;> omega
    have eq1 : ∀ {x y : Int} {o : HO}, Ext t H (upd H t o) := ext_upd
    have e2 : ∀ {o u : HO}, Ext t H (upd (upd H t o) t u) := fun {o u} => by rw [upd_upd]; exact ext_upd
    have e3 : ∀ {o u v : HO}, Ext t H (upd (upd (upd H t o) t u) t v) := fun {o u v} => by rw [upd_upd, upd_upd]; exact ext_upd
    have e4 : ∀ {o u v x : HO}, Ext t H (upd (upd (upd (upd H t o) t u) t v) t x) := fun {o u v x} => by rw [upd_upd, upd_upd, upd_upd]; exact ext_upd
    refine w_ite (fun e => ?_) (fun e => ?_)
    · subst e
      walk_at "wp"
      refine w_ite (fun e => ?_) (fun e => ?_)
      · walk_at "wp"
        have hp : p.toNat < ns.length := by rw [List.length_map] at e; omega
        obtain ⟨z, ez⟩ : ∃ z, ns[p.toNat]? = some z := ⟨_, List.getElem?_eq_getElem hp⟩
        refine w_ixL (.of h2) (v := .int z) (at_of (j := p.toNat) (by omega) (by rw [List.getElem?_map, ez]; rfl)) ?_
        walk_at "wp"
        refine w_ite (fun e => ?_) (fun e => ?_)
        · walk_at "wp"
          exact fin _ (p + 1) 0 sd _ upd_same (by walk_at "hp") (by omega) (by omega) s0 ext_upd
        · walk_at "wp"
          have nz : 0 ≤ (if z < 0 then -z else z) := by split <;> omega
          obtain ⟨c1, c2⟩ := big (upd (upd H t (.lst [])) t (.lst [.ref l, .int (p + 1), .int (if z < 0 then -z else z), .int sd])) (p + 1) (if z < 0 then -z else z) sd upd_same (by walk_at "hp") (by omega) nz s0 e2
          refine w_I c1 ?_
          walk_at "wp"
          exact fin _ (p + 1) _ sd _ upd_same (by walk_at "hp") (by omega) c2 s0 e3
      · walk_at "wp"
        have sz : 0 ≤ (sd * 48271 + p + 1).fmod 2147483647 := (fm (by decide)).1
        refine w_ite (fun e => ?_) (fun e => ?_)
        · walk_at "wp"
          exact fin _ (p + 1) 0 _ _ upd_same (by walk_at "hp") (by omega) (by omega) sz e2
        · walk_at "wp"
          obtain ⟨c1, c2⟩ := big (upd (upd H t (.lst [])) t (.lst [.ref l, .int (p + 1), .int _, .int _])) (p + 1) _ _ upd_same (by walk_at "hp") (by omega) sz sz e2
          refine w_I c1 ?_
          walk_at "wp"
          exact fin _ (p + 1) _ _ _ upd_same (by walk_at "hp") (by omega) c2 sz e4
    · walk_at "wp"
      obtain ⟨c1, c2⟩ := big H p n sd h1 h2 p0 n0 s0 (Ext.refl t H)
      refine w_I c1 ?_
      walk_at "wp"
      exact fin _ p _ sd _ upd_same (by walk_at "hp") p0 c2 s0 ext_upd
def spTape (K : PySem.W.Frag) : Sp := fun vs H Q _ => ∃ (a : Addr) (ns : List Int), vs = [.ref a] ∧ SqL K H a (ns.map V.int) ∧ ∀ (t l : Addr) (H' : Hp), Same H H' → Tape H' t l → Q (.ref t) H'
abbrev s__law_tape : Stmt := top 4
theorem c__law_tape : FnScope ["script", "total", "cell"] ["script"] (defScope s__law_tape) := ⟨rfl, rfl, rfl, by decide +kernel, rfl, by decide +kernel, by decide +kernel⟩

theorem ok_tape {f : Addr} {fd : FuncData} (F : Fun K "_law_tape" "_law_tape" s__law_tape f fd) (T : Txt mg) : FnOk P w K mg base CX0 1 f fd ["script"] (spTape K) := by
  refine F.ok c__law_tape (fun vs H Q E h => ?_) (fun cdv A outer s H vs Q E hr h => ?_)
  · obtain ⟨a, ns, rfl, _⟩ := h
    rfl
  · obtain ⟨a, ns, rfl, hS, k⟩ := h
    refine ⟨_, (pss_cons (ps_set (i := 1) c__law_tape.nd rfl (Or.inl rfl) pe_int)
      (pss_cons (ps_for PassesOwn.never rfl (pi_list (pv 0)) (pg_name (i := 2) c__law_tape.nd rfl (Or.inl rfl)) (pss_one (ps_set (i := 1) c__law_tape.nd rfl (Or.inl rfl) (pe_op op_modN (pe_callTy call_int1 (by rfl) T.n_int (by decide +kernel) (pa_cons (pe_op op_add (pe_op op_mul (pv 1) pe_int) (pe_callB call_abs (by rfl) T.n_abs (by decide +kernel) (pa_cons (pe_callTy call_int1 (by rfl) T.n_int (by decide +kernel) (pa_cons (pv 2) pa_nil)) pa_nil))) pa_nil)) pe_int))))
      (pss_one (ps_ret (pe_lst (pa_cons (pe_callTy call_list_of (by rfl) T.n_list (by decide +kernel) (pa_cons (pv 0) pa_nil)) (pa_cons pe_int (pa_cons pe_int (pa_cons (pv 1) pa_nil))))))))), ?_⟩
    walk_at "wp"
    refine ⟨_, rfl, ⟨_, hS⟩, ?_⟩
    refine for_list (K := K) (a := a) (xs := ns.map V.int) (fun i σ H2 => ∃ (z : Int) (y : Option V), 0 ≤ z ∧ σ = [some (.ref a), some (.int z), y] ∧ H2 = H) ⟨7, none, by decide, rfl, rfl⟩ (fun i σ H2 _ ⟨_, _, _, _, e⟩ => by rw [e]; exact hS) ?_ ?_
    · rintro i x σ H2 hx ⟨z, y, z0, rfl, rfl⟩
      obtain ⟨v, rfl⟩ : ∃ v, x = V.int v := by
        rw [List.getElem?_map] at hx
        cases e : ns[i]? with
        | none => rw [e] at hx; cases hx
        | some v => rw [e] at hx; exact ⟨v, (Option.some.inj hx).symm⟩
      walk_at "wp"
      exact ⟨_, _, (fm (by decide)).1, rfl, rfl⟩
    · rintro σ H2 ⟨z, y, z0, rfl, rfl⟩
      walk_at "wp"
      refine ⟨a, ns.map V.int, rfl, .inl hS, fun l hl => ?_⟩
      walk_at "wp"
      refine ⟨(by show 4 ≤ sizeLine; decide), fun t ht => ?_⟩
      have nlt : l ≠ t := fun e => by rw [← e, upd_same] at ht; cases ht
      have s1 : Same H2 (upd H2 l (.lst (ns.map V.int))) := same_new hl
      have ht0 : H2 t = none := s1.free ht
      exact k t l _ (s1.trans (same_new ht)) ⟨ns, 0, 0, z, upd_same, (upd_ne nlt).trans upd_same, nlt, Int.le_refl _, Int.le_refl _, z0⟩
def spA : Nat → Sp
  | 0 => fun _ _ _ _ => False
  | n + 1 => fun vs H Q _ => ∃ (x y : V) (d : PyData), vs = [x, y] ∧ At H x d ∧ At H y d ∧ Dep n d ∧ Q (.bl true) H
abbrev s__law_alike : Stmt := top 6
theorem c__law_alike : FnScope ["told", "due", "k"] ["told", "due"] (defScope s__law_alike) := ⟨rfl, rfl, rfl, by decide +kernel, rfl, by decide +kernel, by decide +kernel⟩

theorem ok_alike {f : Addr} {fd : FuncData} (F : Fun K "_law_alike" "_law_alike" s__law_alike f fd) (T : Txt mg) (g : mg "_law_alike" = some (.ref f)) : ∀ n, FnOk P w K mg base CX0 n f fd ["told", "due"] (spA n)
  | 0 => ⟨fun _ _ _ _ h => h.elim, fun _ _ _ _ _ _ _ _ _ _ _ _ _ h => h.elim⟩
  | n + 1 => by
    have C__law_alike : Cl P w K mg base n "_law_alike" ["told", "due"] (spA n) := ⟨f, fd, ok_alike F T g n, g, F.kp, F.binds (ps := ["told", "due"]) fun _ _ _ _ _ _ us hl => match us, hl with | [_, _], _ => rfl⟩
    refine F.ok c__law_alike (fun vs H Q E h => ?_) (fun cdv A outer s H vs Q E hr h => ?_)
    · obtain ⟨x, y, d, rfl, _⟩ := h
      rfl
    · obtain ⟨x, y, d, rfl, hx, hy, hd, k⟩ := h
      refine ⟨_, (pss_cons (ps_if (pt_val (pe_callB call_isi (by rfl) T.n_isinstance (by decide +kernel) (pa_cons (pv 1) (pa_cons (pe_bltn (v := .ty "tuple") (by rfl) T.n_tuple (by decide +kernel) rfl) pa_nil)))) (pss_cons (ps_if (PW.pt (pw_or (pt_not (pt_val (pe_callB call_isi (by rfl) T.n_isinstance (by decide +kernel) (pa_cons (pv 0) (pa_cons (pe_bltn (v := .ty "tuple") (by rfl) T.n_tuple (by decide +kernel) rfl) pa_nil))))) (pw_or1 (pt_cmpR op_ne (pe_callB call_len_seq (by rfl) T.n_len (by decide +kernel) (pa_cons (pv 0) pa_nil)) (pe_callB call_len_seq (by rfl) T.n_len (by decide +kernel) (pa_cons (pv 1) pa_nil)) (nomark _))))) (pss_one (ps_ret pe_bl)) pss_nil)
      (pss_cons (ps_for PassesOwn.never rfl (pi_range1 (by rfl) T.n_range (pa_cons (pe_callB call_len_seq (by rfl) T.n_len (by decide +kernel) (pa_cons (pv 1) pa_nil)) pa_nil)) (pg_name (i := 2) c__law_alike.nd rfl (Or.inl rfl)) (pss_one (ps_if (pt_not (pt_truth (pe_cl C__law_alike hr (by rfl) (pa_cons (pe_ix ix_tup (pv 0) (pv 2) (fun _ _ => rfl)) (pa_cons (pe_ix ix_tup (pv 1) (pv 2) (fun _ _ => rfl)) pa_nil))) (by intro _; rfl))) (pss_one (ps_ret pe_bl)) pss_nil)))
      (pss_one (ps_ret pe_bl)))) pss_nil)
      (pss_cons (ps_if (pt_cmpR op_isN (pv 1) pe_non (nomark _)) (pss_one (ps_ret (pe_cmpR op_isN (pv 0) pe_non (nomark _)))) pss_nil)
      (pss_cons (ps_if (pt_val (pe_callB call_isi (by rfl) T.n_isinstance (by decide +kernel) (pa_cons (pv 1) (pa_cons (pe_bltn (v := .ty "str") (by rfl) T.n_str (by decide +kernel) rfl) pa_nil)))) (pss_one (ps_ret (pe_and (pe_callB call_isi (by rfl) T.n_isinstance (by decide +kernel) (pa_cons (pv 0) (pa_cons (pe_bltn (v := .ty "str") (by rfl) T.n_str (by decide +kernel) rfl) pa_nil))) (pe_one (pe_cmpR op_eq (pv 0) (pv 1) (nomark _)))))) pss_nil)
      (pss_cons (ps_if (pt_cmpR op_ne (pe_callB call_isi (by rfl) T.n_isinstance (by decide +kernel) (pa_cons (pv 0) (pa_cons (pe_bltn (v := .ty "bool") (by rfl) T.n_bool (by decide +kernel) rfl) pa_nil))) (pe_callB call_isi (by rfl) T.n_isinstance (by decide +kernel) (pa_cons (pv 1) (pa_cons (pe_bltn (v := .ty "bool") (by rfl) T.n_bool (by decide +kernel) rfl) pa_nil))) (nomark _)) (pss_one (ps_ret pe_bl)) pss_nil)
      (pss_one (ps_ret (pe_and (pe_callB call_isi (by rfl) T.n_isinstance (by decide +kernel) (pa_cons (pv 0) (pa_cons (pe_bltn (v := .ty "int") (by rfl) T.n_int (by decide +kernel) rfl) pa_nil))) (pe_one (pe_cmpR op_eq (pv 0) (pv 1) (nomark _)))))))))), ?_⟩
      walk_at "wp"
      cases hd with
      | non =>
        cases hx; cases hy
        refine w_isi (.base (.non)) false (by decide +kernel) ?_
        walk_at "wp"
        refine ⟨rfl, ?_⟩
        walk_at "wp"
        refine iteT ?_
        walk_at "wp"
        exact ⟨rfl, k⟩
      | bl b =>
        cases hx; cases hy
        refine w_isi (.base (.bl _)) false (by decide +kernel) ?_
        walk_at "wp"
        refine ⟨rfl, ?_⟩
        walk_at "wp"
        refine iteF ?_
        walk_at "wp"
        refine w_isi (.base (.bl _)) false (by decide +kernel) ?_
        walk_at "wp"
        refine w_isi (.base (.bl _)) true (by decide +kernel) ?_
        walk_at "wp"
        refine w_isi (.base (.bl _)) true (by decide +kernel) ?_
        walk_at "wp"
        refine iteF ?_
        walk_at "wp"
        refine w_isi (.base (.bl _)) true (by decide +kernel) ?_
        walk_at "wp"
        refine ⟨rfl, ?_⟩
        rw [decide_eq_true rfl]
        exact k
      | int i =>
        cases hx; cases hy
        refine w_isi (.base (.int _)) false (by decide +kernel) ?_
        walk_at "wp"
        refine ⟨rfl, ?_⟩
        walk_at "wp"
        refine iteF ?_
        walk_at "wp"
        refine w_isi (.base (.int _)) false (by decide +kernel) ?_
        walk_at "wp"
        refine w_isi (.base (.int _)) false (by decide +kernel) ?_
        walk_at "wp"
        refine w_isi (.base (.int _)) false (by decide +kernel) ?_
        walk_at "wp"
        refine iteF ?_
        walk_at "wp"
        refine w_isi (.base (.int _)) true (by decide +kernel) ?_
        walk_at "wp"
        rw [decide_eq_true rfl]
        exact k
      | str z =>
        cases hx; cases hy
        refine w_isi (.base (.str _)) false (by decide +kernel) ?_
        walk_at "wp"
        refine ⟨rfl, ?_⟩
        walk_at "wp"
        refine iteF ?_
        walk_at "wp"
        refine w_isi (.base (.str _)) true (by decide +kernel) ?_
        walk_at "wp"
        refine w_isi (.base (.str _)) true (by decide +kernel) ?_
        walk_at "wp"
        rw [decide_eq_true rfl]
        exact k
      | @tup n0 ds hl hh =>
        cases hx with
        | @tup a xs _ ex lx =>
        cases hy with
        | @tup b ys _ ey ly =>
        have l1 := lx.len
        have l2 := ly.len
        refine w_isi (.base (.tup ey)) true (by decide +kernel) ?_
        walk_at "wp"
        refine w_isi (.base (.tup ex)) true (by decide +kernel) ?_
        walk_at "wp"
        refine w_iteN (fun e => absurd (by omega) e) (fun _ => ?_)
        walk_at "wp"
        refine ⟨by omega, by omega, ?_⟩
        refine for_range (lo := 0) (n := ((ys.length : Nat) : Int).toNat) (fun i σ H2 => ∃ (v : Option V), σ = [some (.ref a), some (.ref b), v] ∧ H2 = H) ⟨none, rfl, rfl⟩ ?_ ?_
        · rintro i σ H2 hi ⟨v, rfl, rfl⟩
          have hi' : i < ds.length := by omega
          obtain ⟨x, x1, x2⟩ := lx.get (List.getElem?_eq_getElem hi')
          obtain ⟨y, y1, y2⟩ := ly.get (List.getElem?_eq_getElem hi')
          walk_at "wp"
          refine w_ixT (.of ex) (at_of (j := i) (by omega) x1) ?_
          walk_at "wp"
          refine w_ixT (.of ey) (at_of (j := i) (by omega) y1) ?_
          walk_at "wp"
          refine ⟨x, y, _, rfl, x2, y2, hh _ (List.getElem_mem hi'), ?_⟩
          walk_at "wp"
          exact ⟨_, rfl, rfl⟩
        · rintro σ H2 ⟨v, rfl, rfl⟩
          walk_at "wp"
          exact k
/-- a sign, a text, a scalar, an element of what is drawn -/
def Asc (x : Str) : Prop := ∀ c ∈ x.cps.toList, c < 128
def ScB (m : Int) : PyData → Prop
  | .int i => -m ≤ i ∧ i ≤ m
  | .str x => x.length ≤ 20 ∧ Asc x
  | _ => False
def ElB (m : Int) (d : PyData) : Prop := ScB m d ∨ ∃ a b, d = .tuple [a, b] ∧ ScB m a ∧ ScB m b
abbrev Sc (d : PyData) : Prop := ScB 1152921504606846976 d
abbrev El (d : PyData) : Prop := ElB 1152921504606846976 d
theorem ScB.mono {m n : Int} {d : PyData} (h : ScB m d) (hm : m ≤ n) : ScB n d := by
  cases d with
  | int i => exact ⟨by have := h.1; omega, by have := h.2; omega⟩
  | str x => exact h
  | none => exact h.elim
  | bool _ => exact h.elim
  | list _ => exact h.elim
  | tuple _ => exact h.elim
  | dict _ => exact h.elim
theorem ElB.mono {m n : Int} {d : PyData} (h : ElB m d) (hm : m ≤ n) : ElB n d := by
  rcases h with h | ⟨a, b, e, ha, hb⟩
  · exact .inl (h.mono hm)
  · exact .inr ⟨a, b, e, ha.mono hm, hb.mono hm⟩
theorem sc_v {m : Int} {d : PyData} (h : ScB m d) {H H' : Hp} {v : V} (a : At H v d) : At H' v d := by
  cases a with
  | non => exact .non
  | bl b => exact .bl b
  | int i => exact .int i
  | str x => exact .str x
  | tup e l => exact h.elim
theorem len_app (a b : Str) : (a ++ b).length = a.length + b.length := by
  unfold Str.length
  rw [Str.cps_append, Array.size_append]
theorem asc_app {a b : Str} (h : Asc a) (g : Asc b) : Asc (a ++ b) := fun c hc => by
  rw [Str.cps_append, Array.toList_append] at hc
  rcases List.mem_append.mp hc with z | z
  · exact h c z
  · exact g c z
theorem asc_one {c : Nat} (h : c < 128) : Asc ⟨#[c]⟩ := fun d hd => by
  have : d = c := by simpa using hd
  rw [this]; exact h
def spSign : Sp := fun vs H Q _ => ∃ (t l : Addr), vs = [.ref t] ∧ Tape H t l ∧ ∀ (c : Nat) (H' : Hp), c < 128 → Go t l H H' → Q (.str ⟨#[c]⟩) H'
abbrev s__law_sign : Stmt := top 7
theorem c__law_sign : FnScope ["tape", "signs"] ["tape"] (defScope s__law_sign) := ⟨rfl, rfl, rfl, by decide +kernel, rfl, by decide +kernel, by decide +kernel⟩

theorem ok_sign {f : Addr} {fd : FuncData} (F : Fun K "_law_sign" "_law_sign" s__law_sign f fd) (T : Txt mg) (C__law_draw : Cl P w K mg base 1 "_law_draw" ["tape", "many"] spDraw) : FnOk P w K mg base CX0 2 f fd ["tape"] spSign := by
  refine F.ok c__law_sign (fun vs H Q E h => ?_) (fun cdv A outer s H vs Q E hr h => ?_)
  · obtain ⟨t, l, rfl, _⟩ := h
    rfl
  · obtain ⟨t, l, rfl, TP, k⟩ := h
    refine ⟨_, (pss_cons (ps_set (i := 1) c__law_sign.nd rfl (Or.inl rfl) pe_str)
      (pss_cons (ps_set (i := 1) c__law_sign.nd rfl (Or.inl rfl) (pe_op op_add_str (pv 1) pe_str))
      (pss_one (ps_ret (pe_ix ix_str (pv 1) (pe_cl C__law_draw (hr.mono (by omega)) (by rfl) (pa_cons (pv 0) (pa_cons pe_int pa_nil))) (fun _ _ => rfl)))))), ?_⟩
    walk_at "wp"
    refine ⟨_, _, rfl, rfl, by decide +kernel, ?_⟩
    walk_at "wp"
    refine ⟨t, l, _, rfl, TP, by decide, fun r0 H0 l0 u0 G0 => ?_⟩
    refine w_ixS (fun c => c < 128) (by decide +kernel) l0 ?_ (by decide +kernel) fun c hc => k c _ hc G0
    refine Int.lt_of_lt_of_le u0 ?_
    decide +kernel
def spWord : Sp := fun vs H Q _ => ∃ (t l : Addr), vs = [.ref t] ∧ Tape H t l ∧ ∀ (x : Str) (H' : Hp), x.length ≤ 20 → Asc x → Go t l H H' → Q (.str x) H'
abbrev s__law_word : Stmt := top 8
theorem c__law_word : FnScope ["tape", "word", "k"] ["tape"] (defScope s__law_word) := ⟨rfl, rfl, rfl, by decide +kernel, rfl, by decide +kernel, by decide +kernel⟩

theorem ok_word {f : Addr} {fd : FuncData} (F : Fun K "_law_word" "_law_word" s__law_word f fd) (T : Txt mg) (C__law_draw : Cl P w K mg base 1 "_law_draw" ["tape", "many"] spDraw) (C__law_sign : Cl P w K mg base 2 "_law_sign" ["tape"] spSign) : FnOk P w K mg base CX0 3 f fd ["tape"] spWord := by
  refine F.ok c__law_word (fun vs H Q E h => ?_) (fun cdv A outer s H vs Q E hr h => ?_)
  · obtain ⟨t, l, rfl, _⟩ := h
    rfl
  · obtain ⟨t, l, rfl, TP, k⟩ := h
    refine ⟨_, (pss_cons (ps_set (i := 1) c__law_word.nd rfl (Or.inl rfl) (pe_ix ix_list (pe_lst (pa_cons pe_str (pa_cons pe_str (pa_cons pe_str (pa_cons pe_str pa_nil))))) (pe_cl C__law_draw (hr.mono (by omega)) (by rfl) (pa_cons (pv 0) (pa_cons pe_int pa_nil))) (fun _ _ => rfl)))
      (pss_cons (ps_for PassesOwn.never rfl (pi_range1 (by rfl) T.n_range (pa_cons (pe_cl C__law_draw (hr.mono (by omega)) (by rfl) (pa_cons (pv 0) (pa_cons pe_int pa_nil))) pa_nil)) (pg_name (i := 2) c__law_word.nd rfl (Or.inl rfl)) (pss_one (ps_set (i := 1) c__law_word.nd rfl (Or.inl rfl) (pe_op op_add_str (pv 1) (pe_cl C__law_sign (hr.mono (by omega)) (by rfl) (pa_cons (pv 0) pa_nil))))))
      (pss_one (ps_ret (pv 1))))), ?_⟩
    walk_at "wp"
    refine ⟨szle (by show 4 ≤ _; decide), fun m nm => ?_⟩
    obtain ⟨mH, mt⟩ := (Go.refl TP).free nm
    walk_at "wp"
    refine ⟨t, l, _, rfl, ((Go.refl TP).new nm).T, by decide, fun r1 H1 l1 u1 G1 => ?_⟩
    have GG := ((Go.refl TP).new nm).trans G1
    have hm1 := G1.at upd_same mt.1
    refine w_ixAny (fun v => ∃ x : Str, v = .str x ∧ x.length ≤ 17 ∧ Asc x) (.of hm1) l1 (Int.lt_of_lt_of_le u1 (by decide)) ?_ ?_
    · intro v hv
      simp only [List.mem_cons, List.not_mem_nil, or_false] at hv
      rcases hv with rfl | rfl | rfl | rfl
      all_goals exact ⟨_, rfl, by decide +kernel, by unfold Asc; decide +kernel⟩
    · rintro v ⟨x0, rfl, hx0, ha0⟩
      walk_at "wp"
      refine ⟨t, l, _, rfl, GG.T, by decide, fun r2 H2 l2 u2 G2 => ?_⟩
      replace u2 : r2 < 4 := u2
      walk_at "wp"
      refine ⟨by omega, by omega, ?_⟩
      refine for_range (lo := 0) (n := r2.toNat) (fun i σ H3 => ∃ (v1 : Option V) (x : Str), σ = [some (.ref t), some (.str x), v1] ∧ x.length ≤ 17 + i ∧ Asc x ∧ Go t l H H3) ⟨none, x0, rfl, hx0, ha0, GG.trans G2⟩ ?_ ?_
      · rintro i σ H3 hi ⟨v1, x, rfl, hx, ha, G3⟩
        walk_at "wp"
        refine ⟨t, l, rfl, G3.T, fun c H4 hc G4 => ?_⟩
        have e1 : (⟨#[c]⟩ : Str).length = 1 := rfl
        refine ⟨_, _, rfl, rfl, szle (by rw [e1]; omega), ?_⟩
        walk_at "wp"
        exact ⟨_, _, rfl, by rw [len_app, e1]; omega, asc_app ha (asc_one hc), G3.trans G4⟩
      · rintro σ H3 ⟨v1, x, rfl, hx, ha, G3⟩
        walk_at "wp"
        exact k x H3 (by omega) ha G3
def spScalar : Sp := fun vs H Q _ => ∃ (t l : Addr), vs = [.ref t] ∧ Tape H t l ∧ ∀ (v : V) (d : PyData) (H' : Hp), ScB 1000000000000000 d → At H' v d → Go t l H H' → Q v H'
abbrev s__law_scalar : Stmt := top 9
theorem c__law_scalar : FnScope ["tape", "choice", "edges"] ["tape"] (defScope s__law_scalar) := ⟨rfl, rfl, rfl, by decide +kernel, rfl, by decide +kernel, by decide +kernel⟩

theorem ok_scalar {f : Addr} {fd : FuncData} (F : Fun K "_law_scalar" "_law_scalar" s__law_scalar f fd) (T : Txt mg) (C__law_draw : Cl P w K mg base 1 "_law_draw" ["tape", "many"] spDraw) (C__law_word : Cl P w K mg base 3 "_law_word" ["tape"] spWord) : FnOk P w K mg base CX0 4 f fd ["tape"] spScalar := by
  refine F.ok c__law_scalar (fun vs H Q E h => ?_) (fun cdv A outer s H vs Q E hr h => ?_)
  · obtain ⟨t, l, rfl, _⟩ := h
    rfl
  · obtain ⟨t, l, rfl, TP, k⟩ := h
    refine ⟨_, (pss_cons (ps_set (i := 1) c__law_scalar.nd rfl (Or.inl rfl) (pe_cl C__law_draw (hr.mono (by omega)) (by rfl) (pa_cons (pv 0) (pa_cons pe_int pa_nil))))
      (pss_cons (ps_if (pt_cmpR op_eq (pv 1) pe_int (nomark _)) (pss_one (ps_ret (pe_cl C__law_word (hr.mono (by omega)) (by rfl) (pa_cons (pv 0) pa_nil)))) pss_nil)
      (pss_cons (ps_if (pt_cmpR op_eq (pv 1) pe_int (nomark _)) (pss_cons (ps_set (i := 2) c__law_scalar.nd rfl (Or.inl rfl) (pe_lst (pa_cons pe_int (pa_cons pe_int (pa_cons pe_int (pa_cons pe_int (pa_cons pe_int (pa_cons pe_int (pa_cons pe_int (pa_cons pe_int (pa_cons (pe_op op_sub (pe_op op_pow pe_int pe_int) pe_int) (pa_cons (pe_op op_pow pe_int pe_int) pa_nil))))))))))))
      (pss_one (ps_ret (pe_op op_mul (pe_ix ix_list (pv 2) (pe_cl C__law_draw (hr.mono (by omega)) (by rfl) (pa_cons (pv 0) (pa_cons pe_int pa_nil))) (fun _ _ => rfl)) (pe_op op_sub pe_int (pe_op op_mul pe_int (pe_cl C__law_draw (hr.mono (by omega)) (by rfl) (pa_cons (pv 0) (pa_cons pe_int pa_nil))))))))) pss_nil)
      (pss_cons (ps_if (pt_cmpR op_eq (pv 1) pe_int (nomark _)) (pss_one (ps_ret (pe_op op_mul (pe_op op_sub (pe_cl C__law_draw (hr.mono (by omega)) (by rfl) (pa_cons (pv 0) (pa_cons pe_int pa_nil))) pe_int) (pe_ix ix_list (pe_lst (pa_cons pe_int (pa_cons pe_int (pa_cons pe_int pa_nil)))) (pe_cl C__law_draw (hr.mono (by omega)) (by rfl) (pa_cons (pv 0) (pa_cons pe_int pa_nil))) (fun _ _ => rfl))))) pss_nil)
      (pss_cons (ps_if (pt_cmpR op_eq (pv 1) pe_int (nomark _)) (pss_one (ps_ret (pe_op op_sub (pe_cl C__law_draw (hr.mono (by omega)) (by rfl) (pa_cons (pv 0) (pa_cons (pe_op op_add (pe_op op_mul pe_int (pe_op op_pow pe_int pe_int)) pe_int) pa_nil))) (pe_op op_pow pe_int pe_int)))) pss_nil)
      (pss_one (ps_ret (pe_cl C__law_draw (hr.mono (by omega)) (by rfl) (pa_cons (pv 0) (pa_cons pe_int pa_nil)))))))))), ?_⟩
    have ki : ∀ (i : Int) (H' : Hp), -1000000000000000 ≤ i → i ≤ 1000000000000000 → Go t l H H' → Q (.int i) H' := fun i H' h1 h2 g => k _ (.int i) _ ⟨h1, h2⟩ (.int i) g
    walk_at "wp"
    refine ⟨t, l, _, rfl, TP, by decide, fun r0 H0 l0 u0 G0 => ?_⟩
    walk_at "wp"
    refine w_ite (fun e => ?_) (fun e => ?_)
    · walk_at "wp"
      exact ⟨t, l, rfl, G0.T, fun x H1 h1 h2 G1 => k _ (.str x) _ ⟨h1, h2⟩ (.str x) (G0.trans G1)⟩
    walk_at "wp"
    refine w_ite (fun e => ?_) (fun e => ?_)
    · walk_at "wp"
      refine ⟨szle (by show 10 ≤ _; decide), fun m nm => ?_⟩
      obtain ⟨mH, mt⟩ := G0.free nm
      walk_at "wp"
      refine ⟨t, l, _, rfl, (G0.new nm).T, by decide, fun r1 H1 l1 u1 G1 => ?_⟩
      have GG := (G0.new nm).trans G1
      have hm1 := G1.at upd_same mt.1
      refine w_ixAny (fun v => ∃ n : Int, v = .int n ∧ 0 ≤ n ∧ n ≤ 1000000000000000) (.of hm1) l1 (Int.lt_of_lt_of_le u1 (by decide)) ?_ ?_
      · intro v hv
        simp only [List.mem_cons, List.not_mem_nil, or_false] at hv
        rcases hv with rfl | rfl | rfl | rfl | rfl | rfl | rfl | rfl | rfl | rfl
        all_goals exact ⟨_, rfl, by decide, by decide⟩
      · rintro v ⟨n, rfl, n0, n1⟩
        walk_at "wp"
        refine ⟨t, l, _, rfl, GG.T, by decide, fun r2 H2 l2 u2 G2 => ?_⟩
        replace u2 : r2 < 2 := u2
        walk_at "wp"
        have : r2 = 0 ∨ r2 = 1 := by omega
        rcases this with rfl | rfl
        · walk_at "wp"
          refine ki _ _ ?_ ?_ (GG.trans G2)
          · show -1000000000000000 ≤ n * 1; omega
          · show n * 1 ≤ 1000000000000000; omega
        · walk_at "wp"
          refine ki _ _ ?_ ?_ (GG.trans G2)
          · show -1000000000000000 ≤ n * (-1); omega
          · show n * (-1) ≤ 1000000000000000; omega
    walk_at "wp"
    refine w_ite (fun e => ?_) (fun e => ?_)
    · walk_at "wp"
      refine ⟨t, l, _, rfl, G0.T, by decide, fun r1 H1 l1 u1 G1 => ?_⟩
      replace u1 : r1 < 2000001 := u1
      have G01 := G0.trans G1
      walk_at "wp"
      refine ⟨szle (by show 3 ≤ _; decide), fun m nm => ?_⟩
      obtain ⟨mH, mt⟩ := G01.free nm
      walk_at "wp"
      refine ⟨t, l, _, rfl, (G01.new nm).T, by decide, fun r2 H2 l2 u2 G2 => ?_⟩
      have GG := (G01.new nm).trans G2
      have hm1 := G2.at upd_same mt.1
      refine w_ixAny (fun v => v = .int 1 ∨ v = .int 65536 ∨ v = .int 1000000000) (.of hm1) l2 (Int.lt_of_lt_of_le u2 (by decide)) ?_ ?_
      · intro v hv
        simpa only [List.mem_cons, List.not_mem_nil, or_false] using hv
      · intro v hv
        rcases hv with rfl | rfl | rfl
        all_goals
          walk_at "wp"
          exact ki _ _ (by omega) (by omega) GG
    walk_at "wp"
    refine w_ite (fun e => ?_) (fun e => ?_)
    · walk_at "wp"
      refine ⟨t, l, _, rfl, G0.T, by decide, fun r1 H1 l1 u1 G1 => ?_⟩
      replace u1 : r1 < 2000000000000001 := u1
      walk_at "wp"
      have e15 : (10 : Int) ^ (15 : Int).toNat = 1000000000000000 := by decide
      rw [e15]
      exact ki _ _ (by omega) (by omega) (G0.trans G1)
    walk_at "wp"
    refine ⟨t, l, _, rfl, G0.T, by decide, fun r1 H1 l1 u1 G1 => ?_⟩
    replace u1 : r1 < 9 := u1
    exact ki _ _ (by omega) (by omega) (G0.trans G1)
def spElement : Sp := fun vs H Q _ => ∃ (t l : Addr), vs = [.ref t] ∧ Tape H t l ∧ ∀ (v : V) (d : PyData) (H' : Hp), ElB 1000000000000000 d → At H' v d → Go t l H H' → Q v H'
abbrev s__law_element : Stmt := top 10
theorem c__law_element : FnScope ["tape", "first"] ["tape"] (defScope s__law_element) := ⟨rfl, rfl, rfl, by decide +kernel, rfl, by decide +kernel, by decide +kernel⟩

theorem ok_element {f : Addr} {fd : FuncData} (F : Fun K "_law_element" "_law_element" s__law_element f fd) (T : Txt mg) (C__law_draw : Cl P w K mg base 1 "_law_draw" ["tape", "many"] spDraw) (C__law_scalar : Cl P w K mg base 4 "_law_scalar" ["tape"] spScalar) : FnOk P w K mg base CX0 5 f fd ["tape"] spElement := by
  refine F.ok c__law_element (fun vs H Q E h => ?_) (fun cdv A outer s H vs Q E hr h => ?_)
  · obtain ⟨t, l, rfl, _⟩ := h
    rfl
  · obtain ⟨t, l, rfl, TP, k⟩ := h
    refine ⟨_, (pss_cons (ps_set (i := 1) c__law_element.nd rfl (Or.inl rfl) (pe_cl C__law_scalar (hr.mono (by omega)) (by rfl) (pa_cons (pv 0) pa_nil)))
      (pss_cons (ps_if (pt_cmpR op_eq (pe_cl C__law_draw (hr.mono (by omega)) (by rfl) (pa_cons (pv 0) (pa_cons pe_int pa_nil))) pe_int (nomark _)) (pss_one (ps_ret (pe_tup (pa_cons (pv 1) (pa_cons (pe_cl C__law_scalar (hr.mono (by omega)) (by rfl) (pa_cons (pv 0) pa_nil)) pa_nil))))) pss_nil)
      (pss_one (ps_ret (pv 1))))), ?_⟩
    walk_at "wp"
    refine ⟨t, l, rfl, TP, fun v d H0 hs ha G0 => ?_⟩
    walk_at "wp"
    refine ⟨t, l, _, rfl, G0.T, by decide, fun r1 H1 l1 u1 G1 => ?_⟩
    walk_at "wp"
    refine w_ite (fun e => ?_) (fun e => ?_)
    · walk_at "wp"
      refine ⟨t, l, rfl, G1.T, fun v2 d2 H2 hs2 ha2 G2 => ?_⟩
      have G02 := (G0.trans G1).trans G2
      walk_at "wp"
      refine ⟨szle (by show 2 ≤ _; decide), fun p np => ?_⟩
      exact k _ (.tuple [d, d2]) _ (.inr ⟨d, d2, rfl, hs, hs2⟩) (.tup upd_same (.cons (sc_v hs ha) (.cons (sc_v hs2 ha2) .nil))) (G02.new np)
    · walk_at "wp"
      exact k v d _ (.inl hs) (sc_v hs ha) (G0.trans G1)
theorem cut_asc {x : Str} {lo hi : Option Int} (h : Asc x) : Asc (cutS x lo hi) := fun c hc => by
  have e : (cutS x lo hi).cps.toList = (x.cps.toList.drop (HT.sIx x.length 0 lo)).take (HT.sIx x.length x.length hi - HT.sIx x.length 0 lo) := rfl
  rw [e] at hc
  exact h c (List.mem_of_mem_drop (List.mem_of_mem_take hc))
theorem cut_len (x : Str) (lo hi : Option Int) : (cutS x lo hi).length = min (HT.sIx x.length x.length hi - HT.sIx x.length 0 lo) (x.length - HT.sIx x.length 0 lo) := by
  have e : (cutS x lo hi).length = ((x.cps.toList.drop (HT.sIx x.length 0 lo)).take (HT.sIx x.length x.length hi - HT.sIx x.length 0 lo)).length := by
    show Array.size _ = _
    rw [← Array.length_toList]
    rfl
  rw [e, List.length_take, List.length_drop, Array.length_toList]
  rfl
theorem cut_len_to (x : Str) (n : Nat) : (cutS x none (some (n : Int))).length = min n x.length := by
  rw [cut_len, HT.sIx_none, show HT.sIx x.length x.length (some (n : Int)) = min n x.length from HT.sIx_nat x.length x.length n]
  omega
theorem cut_len_from (x : Str) (n : Nat) : (cutS x (some (n : Int)) none).length = x.length - n := by
  rw [cut_len, HT.sIx_none, show HT.sIx x.length 0 (some (n : Int)) = min n x.length from HT.sIx_nat x.length 0 n]
  omega
def spNearSc : Sp := fun vs H Q _ => ∃ (t l : Addr) (v : V) (d : PyData) (m : Int), vs = [.ref t, v] ∧ Tape H t l ∧ At H v d ∧ ScB m d ∧ 20 ≤ m ∧ m ≤ 9000000000000000 ∧ ∀ (v' : V) (d' : PyData) (H' : Hp), ScB (m + 281474976710656) d' → At H' v' d' → Go t l H H' → Q v' H'
abbrev s__law_near_scalar : Stmt := top 11
theorem c__law_near_scalar : FnScope ["tape", "value", "choice", "step", "at"] ["tape", "value"] (defScope s__law_near_scalar) := ⟨rfl, rfl, rfl, by decide +kernel, rfl, by decide +kernel, by decide +kernel⟩

theorem ok_nearsc {f : Addr} {fd : FuncData} (F : Fun K "_law_near_scalar" "_law_near_scalar" s__law_near_scalar f fd) (T : Txt mg) (C__law_draw : Cl P w K mg base 1 "_law_draw" ["tape", "many"] spDraw) (C__law_sign : Cl P w K mg base 2 "_law_sign" ["tape"] spSign) : FnOk P w K mg base CX0 3 f fd ["tape", "value"] spNearSc := by
  refine F.ok c__law_near_scalar (fun vs H Q E h => ?_) (fun cdv A outer s H vs Q E hr h => ?_)
  · obtain ⟨t, l, v, d, m, rfl, _⟩ := h
    rfl
  · obtain ⟨t, l, v, d, m, rfl, TP, ha, hd, m0, m1, k⟩ := h
    refine ⟨_, (pss_cons (ps_set (i := 2) c__law_near_scalar.nd rfl (Or.inl rfl) (pe_cl C__law_draw (hr.mono (by omega)) (by rfl) (pa_cons (pv 0) (pa_cons pe_int pa_nil))))
      (pss_cons (ps_if (pt_cmpR op_eq (pv 2) pe_int (nomark _)) (pss_one (ps_ret (pv 1))) pss_nil)
      (pss_cons (ps_if (pt_val (pe_callB call_isi (by rfl) T.n_isinstance (by decide +kernel) (pa_cons (pv 1) (pa_cons (pe_bltn (v := .ty "str") (by rfl) T.n_str (by decide +kernel) rfl) pa_nil)))) (pss_cons (ps_set (i := 4) c__law_near_scalar.nd rfl (Or.inl rfl) (pe_cl C__law_draw (hr.mono (by omega)) (by rfl) (pa_cons (pv 0) (pa_cons (pe_op op_add (pe_callB call_len_str (by rfl) T.n_len (by decide +kernel) (pa_cons (pv 1) pa_nil)) pe_int) pa_nil))))
      (pss_cons (ps_if (PW.pt (pw_and (pt_cmpR op_eq (pv 2) pe_int (nomark _)) (pw_and1 (pt_cmpR op_lt (pe_callB call_len_str (by rfl) T.n_len (by decide +kernel) (pa_cons (pv 1) pa_nil)) pe_int (nomark _))))) (pss_one (ps_ret (pe_op op_add_str (pe_op op_add_str (pe_slice sl_str (pv 1) po_none (po_some (pv 4))) (pe_cl C__law_sign (hr.mono (by omega)) (by rfl) (pa_cons (pv 0) pa_nil))) (pe_slice sl_str (pv 1) (po_some (pv 4)) po_none)))) pss_nil)
      (pss_cons (ps_if (pt_cmpR op_eq (pv 2) pe_int (nomark _)) (pss_one (ps_ret (pe_op op_add_str (pe_slice sl_str (pv 1) po_none (po_some (pv 4))) (pe_slice sl_str (pv 1) (po_some (pe_op op_add (pv 4) pe_int)) po_none)))) pss_nil)
      (pss_cons (ps_if (PW.pt (pw_and (pt_cmpR op_eq (pv 2) pe_int (nomark _)) (pw_and1 (pt_cmpR op_lt (pv 4) (pe_callB call_len_str (by rfl) T.n_len (by decide +kernel) (pa_cons (pv 1) pa_nil)) (nomark _))))) (pss_one (ps_ret (pe_op op_add_str (pe_op op_add_str (pe_slice sl_str (pv 1) po_none (po_some (pv 4))) (pe_cl C__law_sign (hr.mono (by omega)) (by rfl) (pa_cons (pv 0) pa_nil))) (pe_slice sl_str (pv 1) (po_some (pe_op op_add (pv 4) pe_int)) po_none)))) pss_nil)
      (pss_one (ps_ret (pe_callB call_len_str (by rfl) T.n_len (by decide +kernel) (pa_cons (pv 1) pa_nil)))))))) pss_nil)
      (pss_cons (ps_if (pt_cmpR op_eq (pv 2) pe_int (nomark _)) (pss_one (ps_ret (pe_un un_neg (pv 1)))) pss_nil)
      (pss_cons (ps_if (pt_cmpR op_eq (pv 2) pe_int (nomark _)) (pss_one (ps_ret (pe_callTy call_str_int (by rfl) T.n_str (by decide +kernel) (pa_cons (pv 1) pa_nil)))) pss_nil)
      (pss_cons (ps_set (i := 3) c__law_near_scalar.nd rfl (Or.inl rfl) (pe_ix ix_list (pe_lst (pa_cons pe_int (pa_cons pe_int (pa_cons pe_int (pa_cons pe_int pa_nil))))) (pe_cl C__law_draw (hr.mono (by omega)) (by rfl) (pa_cons (pv 0) (pa_cons pe_int pa_nil))) (fun _ _ => rfl)))
      (pss_cons (ps_if (pt_cmpR op_gt (pv 1) pe_int (nomark _)) (pss_one (ps_ret (pe_op op_sub (pv 1) (pv 3)))) pss_nil)
      (pss_one (ps_ret (pe_op op_add (pv 1) (pv 3))))))))))), ?_⟩
    walk_at "wp"
    refine ⟨t, l, _, rfl, TP, by decide, fun r0 H0 l0 u0 G0 => ?_⟩
    walk_at "wp"
    refine w_ite (fun e => ?_) (fun e0 => ?_)
    · walk_at "wp"
      exact k v d _ (hd.mono (by omega)) (sc_v hd ha) G0
    walk_at "wp"
    cases ha with
    | non => exact hd.elim
    | bl b => exact hd.elim
    | tup e l => exact hd.elim
    | str x =>
      obtain ⟨hx, hax⟩ := hd
      have ks : ∀ (y : Str) (H' : Hp), y.length ≤ 20 → Asc y → Go t l H H' → Q (.str y) H' := fun y H' h1 h2 g => k _ (.str y) _ ⟨h1, h2⟩ (.str y) g
      refine w_isi (.base (.str _)) true (by decide +kernel) ?_
      walk_at "wp"
      refine ⟨szle (by omega), ?_⟩
      walk_at "wp"
      refine ⟨t, l, _, rfl, G0.T, by omega, fun at0 H1 l1 u1 G1 => ?_⟩
      obtain ⟨n, rfl⟩ := Int.eq_ofNat_of_zero_le l1
      have hn : n ≤ x.length := by omega
      have G01 := G0.trans G1
      have en : ((n : Nat) : Int) + 1 = ((n + 1 : Nat) : Int) := rfl
      have e1 : ∀ c : Nat, (⟨#[c]⟩ : Str).length = 1 := fun c => rfl
      have L1 := cut_len_to x n
      have L2 := cut_len_from x n
      have L3 := cut_len_from x (n + 1)
      have g2 : ∀ H2, Go t l H H2 → True := fun _ _ => trivial
      have C2 : ∀ (H2 : Hp), Go t l H H2 → Q (.str (cutS x none (some (n : Int)) ++ cutS x (some ((n + 1 : Nat) : Int)) none)) H2 := fun H2 g => ks _ _ (by rw [len_app]; omega) (asc_app (cut_asc hax) (cut_asc hax)) g
      walk_at "wp"
      have tailr : ∀ (H2 : Hp), Go t l H H2 → Q (.int ((x.length : Nat) : Int)) H2 := fun H2 g => k _ (.int _) _ ⟨by omega, by omega⟩ (.int _) g
      have third : Q (.str (cutS x none (some (n : Int)) ++ cutS x (some ((n + 1 : Nat) : Int)) none)) H1 := C2 H1 G01
      refine w_ite (fun e1' => ?_) (fun e1' => ?_)
      · walk_at "wp"
        refine ⟨szle (by omega), ?_⟩
        walk_at "wp"
        refine w_ite (fun e2' => ?_) (fun e2' => ?_)
        · walk_at "wp"
          refine ⟨_, rfl, szle (by omega), ?_⟩
          walk_at "wp"
          refine ⟨t, l, rfl, G1.T, fun c H2 hc G2 => ?_⟩
          refine ⟨_, _, rfl, rfl, szle (by rw [e1]; omega), ?_⟩
          walk_at "wp"
          refine ⟨_, rfl, szle (by omega), ?_⟩
          refine ⟨_, _, rfl, rfl, szle (by rw [len_app, e1]; omega), ?_⟩
          exact ks _ _ (by rw [len_app, len_app, e1]; omega) (asc_app (asc_app (cut_asc hax) (asc_one hc)) (cut_asc hax)) (G01.trans G2)
        · walk_at "wp"
          refine w_ite (fun e3 => ?_) (fun e3 => ?_)
          · walk_at "wp"
            refine ⟨_, rfl, szle (by omega), ?_⟩
            walk_at "wp"
            refine ⟨_, rfl, szle (by omega), ?_⟩
            refine ⟨_, _, rfl, rfl, szle (by rw [en]; omega), ?_⟩
            rw [en]
            exact third
          · walk_at "wp"
            refine w_ite (fun e4 => ?_) (fun e4 => ?_)
            · walk_at "wp"
              refine ⟨szle (by omega), ?_⟩
              walk_at "wp"
              refine w_ite (fun e5 => ?_) (fun e5 => ?_)
              · walk_at "wp"
                refine ⟨_, rfl, szle (by omega), ?_⟩
                walk_at "wp"
                refine ⟨t, l, rfl, G1.T, fun c H2 hc G2 => ?_⟩
                refine ⟨_, _, rfl, rfl, szle (by rw [e1]; omega), ?_⟩
                walk_at "wp"
                refine ⟨_, rfl, szle (by omega), ?_⟩
                rw [en]
                refine ⟨_, _, rfl, rfl, szle (by rw [len_app, e1]; omega), ?_⟩
                exact ks _ _ (by rw [len_app, len_app, e1]; omega) (asc_app (asc_app (cut_asc hax) (asc_one hc)) (cut_asc hax)) (G01.trans G2)
              · walk_at "wp"
                refine ⟨szle (by omega), ?_⟩
                exact tailr _ G01
            · walk_at "wp"
              refine ⟨szle (by omega), ?_⟩
              exact tailr _ G01
      · walk_at "wp"
        refine w_ite (fun e3 => ?_) (fun e3 => ?_)
        · walk_at "wp"
          refine ⟨_, rfl, szle (by omega), ?_⟩
          walk_at "wp"
          refine ⟨_, rfl, szle (by omega), ?_⟩
          refine ⟨_, _, rfl, rfl, szle (by rw [en]; omega), ?_⟩
          rw [en]
          exact third
        · walk_at "wp"
          refine w_ite (fun e4 => ?_) (fun e4 => ?_)
          · walk_at "wp"
            refine ⟨szle (by omega), ?_⟩
            walk_at "wp"
            refine w_ite (fun e5 => ?_) (fun e5 => ?_)
            · walk_at "wp"
              refine ⟨_, rfl, szle (by omega), ?_⟩
              walk_at "wp"
              refine ⟨t, l, rfl, G1.T, fun c H2 hc G2 => ?_⟩
              refine ⟨_, _, rfl, rfl, szle (by rw [e1]; omega), ?_⟩
              walk_at "wp"
              refine ⟨_, rfl, szle (by omega), ?_⟩
              rw [en]
              refine ⟨_, _, rfl, rfl, szle (by rw [len_app, e1]; omega), ?_⟩
              exact ks _ _ (by rw [len_app, len_app, e1]; omega) (asc_app (asc_app (cut_asc hax) (asc_one hc)) (cut_asc hax)) (G01.trans G2)
            · walk_at "wp"
              refine ⟨szle (by omega), ?_⟩
              exact tailr _ G01
          · walk_at "wp"
            refine ⟨szle (by omega), ?_⟩
            exact tailr _ G01
    | int i =>
      obtain ⟨i0, i1⟩ := hd
      have ki : ∀ (j : Int) (H' : Hp), -(m + 281474976710656) ≤ j → j ≤ m + 281474976710656 → Go t l H H' → Q (.int j) H' := fun j H' h1 h2 g => k _ (.int j) _ ⟨h1, h2⟩ (.int j) g
      refine w_isi (.base (.int _)) false (by decide +kernel) ?_
      walk_at "wp"
      refine w_ite (fun e => ?_) (fun e1' => ?_)
      · walk_at "wp"
        exact ki _ _ (by omega) (by omega) G0
      walk_at "wp"
      refine w_ite (fun e => ?_) (fun e2' => ?_)
      · walk_at "wp"
        have h16 : i.natAbs < 10 ^ 17 := by omega
        have hlen := int_text_length_le10 (a := i) (k := 17) (by decide) h16
        refine ⟨?_, ?_⟩
        · have hl2 : i.natAbs.log2 < 64 := PySem.Flt.log2_lt_of (by decide) (by omega)
          omega
        · refine k _ (.str (Str.ofString (toString i))) _ ⟨?_, ?_⟩ (.str _) G0
          · rw [PySem.ofString_length]; omega
          · exact PySem.W.KSb.asc_num i
      walk_at "wp"
      refine ⟨szle (by show 4 ≤ _; decide), fun mm nm => ?_⟩
      obtain ⟨mH, mt⟩ := G0.free nm
      walk_at "wp"
      refine ⟨t, l, _, rfl, (G0.new nm).T, by decide, fun r1 H1 l1 u1 G1 => ?_⟩
      have GG := (G0.new nm).trans G1
      have hm1 := G1.at upd_same mt.1
      refine w_ixAny (fun v => ∃ n : Int, v = .int n ∧ 0 ≤ n ∧ n ≤ 281474976710656) (.of hm1) l1 (Int.lt_of_lt_of_le u1 (by decide)) ?_ ?_
      · intro v hv
        simp only [List.mem_cons, List.not_mem_nil, or_false] at hv
        rcases hv with rfl | rfl | rfl | rfl
        all_goals exact ⟨_, rfl, by decide, by decide⟩
      · rintro v ⟨n, rfl, n0, n1⟩
        walk_at "wp"
        refine w_ite (fun e => ?_) (fun e => ?_)
        · walk_at "wp"
          exact ki _ _ (by omega) (by omega) GG
        · walk_at "wp"
          exact ki _ _ (by omega) (by omega) GG
def spNear : Sp := fun vs H Q _ => ∃ (t l : Addr) (v : V) (d : PyData) (m : Int), vs = [.ref t, v] ∧ Tape H t l ∧ At H v d ∧ ElB m d ∧ 1000000000000000 ≤ m ∧ m ≤ 9000000000000000 ∧ ∀ (v' : V) (d' : PyData) (H' : Hp), ElB (m + 281474976710656) d' → At H' v' d' → Go t l H H' → Q v' H'
abbrev s__law_near : Stmt := top 12
theorem c__law_near : FnScope ["tape", "element", "choice"] ["tape", "element"] (defScope s__law_near) := ⟨rfl, rfl, rfl, by decide +kernel, rfl, by decide +kernel, by decide +kernel⟩

theorem ok_near {f : Addr} {fd : FuncData} (F : Fun K "_law_near" "_law_near" s__law_near f fd) (T : Txt mg) (C__law_draw : Cl P w K mg base 1 "_law_draw" ["tape", "many"] spDraw) (C__law_element : Cl P w K mg base 5 "_law_element" ["tape"] spElement) (C__law_near_scalar : Cl P w K mg base 3 "_law_near_scalar" ["tape", "value"] spNearSc) : FnOk P w K mg base CX0 6 f fd ["tape", "element"] spNear := by
  refine F.ok c__law_near (fun vs H Q E h => ?_) (fun cdv A outer s H vs Q E hr h => ?_)
  · obtain ⟨t, l, v, d, m, rfl, _⟩ := h
    rfl
  · obtain ⟨t, l, v, d, m, rfl, TP, ha, hd, m0, m1, k⟩ := h
    refine ⟨_, (pss_cons (ps_set (i := 2) c__law_near.nd rfl (Or.inl rfl) (pe_cl C__law_draw (hr.mono (by omega)) (by rfl) (pa_cons (pv 0) (pa_cons pe_int pa_nil))))
      (pss_cons (ps_if (pt_cmpR op_eq (pv 2) pe_int (nomark _)) (pss_one (ps_ret (pe_cl C__law_element (hr.mono (by omega)) (by rfl) (pa_cons (pv 0) pa_nil)))) pss_nil)
      (pss_cons (ps_if (pt_val (pe_callB call_isi (by rfl) T.n_isinstance (by decide +kernel) (pa_cons (pv 1) (pa_cons (pe_bltn (v := .ty "tuple") (by rfl) T.n_tuple (by decide +kernel) rfl) pa_nil)))) (pss_cons (ps_if (pt_cmpR op_eq (pv 2) pe_int (nomark _)) (pss_one (ps_ret (pe_tup (pa_cons (pe_ix ix_tup (pv 1) pe_int (fun _ _ => rfl)) (pa_cons (pe_ix ix_tup (pv 1) pe_int (fun _ _ => rfl)) pa_nil))))) pss_nil)
      (pss_cons (ps_if (pt_cmpR op_eq (pv 2) pe_int (nomark _)) (pss_one (ps_ret (pe_ix ix_tup (pv 1) pe_int (fun _ _ => rfl)))) pss_nil)
      (pss_cons (ps_if (pt_cmpR op_eq (pv 2) pe_int (nomark _)) (pss_one (ps_ret (pe_tup (pa_cons (pe_cl C__law_near_scalar (hr.mono (by omega)) (by rfl) (pa_cons (pv 0) (pa_cons (pe_ix ix_tup (pv 1) pe_int (fun _ _ => rfl)) pa_nil))) (pa_cons (pe_ix ix_tup (pv 1) pe_int (fun _ _ => rfl)) pa_nil))))) pss_nil)
      (pss_one (ps_ret (pe_tup (pa_cons (pe_ix ix_tup (pv 1) pe_int (fun _ _ => rfl)) (pa_cons (pe_cl C__law_near_scalar (hr.mono (by omega)) (by rfl) (pa_cons (pv 0) (pa_cons (pe_ix ix_tup (pv 1) pe_int (fun _ _ => rfl)) pa_nil))) pa_nil)))))))) pss_nil)
      (pss_cons (ps_if (pt_cmpR op_eq (pv 2) pe_int (nomark _)) (pss_one (ps_ret (pe_tup (pa_cons (pv 1) (pa_cons (pv 1) pa_nil))))) pss_nil)
      (pss_one (ps_ret (pe_cl C__law_near_scalar (hr.mono (by omega)) (by rfl) (pa_cons (pv 0) (pa_cons (pv 1) pa_nil))))))))), ?_⟩
    walk_at "wp"
    refine ⟨t, l, _, rfl, TP, by decide, fun r0 H0 l0 u0 G0 => ?_⟩
    have ha0 := ha.go TP G0
    walk_at "wp"
    refine w_ite (fun e => ?_) (fun e0 => ?_)
    · walk_at "wp"
      exact ⟨t, l, rfl, G0.T, fun v1 d1 H1 h1 a1 G1 => k v1 d1 _ (h1.mono (by omega)) a1 (G0.trans G1)⟩
    walk_at "wp"
    rcases hd with hs | ⟨a, b, rfl, hsa, hsb⟩
    · have go : ∀ (H' : Hp), ScB m d → At H' v d → ElB (m + 281474976710656) (.tuple [d, d]) := fun H' h _ => .inr ⟨d, d, rfl, h.mono (by omega), h.mono (by omega)⟩
      cases ha0 with
      | non => exact hs.elim
      | bl b => exact hs.elim
      | tup e l => exact hs.elim
      | str x =>
        refine w_isi (.base (.str _)) false (by decide +kernel) ?_
        walk_at "wp"
        refine w_ite (fun e1 => ?_) (fun e1 => ?_)
        · walk_at "wp"
          refine ⟨szle (by show 2 ≤ _; decide), fun p np => ?_⟩
          exact k _ (.tuple [_, _]) _ (go H0 hs (.str _)) (.tup upd_same (.cons (.str _) (.cons (.str _) .nil))) (G0.new np)
        · walk_at "wp"
          exact ⟨t, l, _, _, m, rfl, G0.T, (.str _), hs, by omega, m1, fun v4 d4 H4 h4 a4 G4 => k v4 d4 _ (.inl h4) a4 (G0.trans G4)⟩
      | int x =>
        refine w_isi (.base (.int _)) false (by decide +kernel) ?_
        walk_at "wp"
        refine w_ite (fun e1 => ?_) (fun e1 => ?_)
        · walk_at "wp"
          refine ⟨szle (by show 2 ≤ _; decide), fun p np => ?_⟩
          exact k _ (.tuple [_, _]) _ (go H0 hs (.int _)) (.tup upd_same (.cons (.int _) (.cons (.int _) .nil))) (G0.new np)
        · walk_at "wp"
          exact ⟨t, l, _, _, m, rfl, G0.T, (.int _), hs, by omega, m1, fun v4 d4 H4 h4 a4 G4 => k v4 d4 _ (.inl h4) a4 (G0.trans G4)⟩
    · cases ha0 with
      | tup e l2 =>
      cases l2 with
      | cons a1 l1 =>
      cases l1 with
      | cons a2 l2 =>
      cases l2
      refine w_isi (.base (.tup e)) true (by decide +kernel) ?_
      walk_at "wp"
      have T0 := G0.T
      refine w_ite (fun e1 => ?_) (fun e1 => ?_)
      · walk_at "wp"
        refine ⟨szle (by show 2 ≤ _; decide), fun p np => ?_⟩
        exact k _ (.tuple [b, a]) _ (.inr ⟨b, a, rfl, hsb.mono (by omega), hsa.mono (by omega)⟩) (.tup upd_same (.cons (sc_v hsb a2) (.cons (sc_v hsa a1) .nil))) (G0.new np)
      walk_at "wp"
      refine w_ite (fun e2 => ?_) (fun e2 => ?_)
      · walk_at "wp"
        exact k _ a _ (.inl (hsa.mono (by omega))) a1 G0
      walk_at "wp"
      refine w_ite (fun e3 => ?_) (fun e3 => ?_)
      · walk_at "wp"
        refine ⟨t, l, _, a, m, rfl, G0.T, a1, hsa, by omega, m1, fun v4 d4 H4 h4 a4 G4 => ?_⟩
        have e' := G0.T.tup G4.e _ _ e
        walk_at "wp"
        refine ⟨szle (by show 2 ≤ _; decide), fun p np => ?_⟩
        exact k _ (.tuple [d4, b]) _ (.inr ⟨d4, b, rfl, h4, hsb.mono (by omega)⟩) (.tup upd_same (.cons (sc_v h4 a4) (.cons (sc_v hsb a2) .nil))) ((G0.trans G4).new np)
      walk_at "wp"
      refine ⟨t, l, _, b, m, rfl, G0.T, a2, hsb, by omega, m1, fun v4 d4 H4 h4 a4 G4 => ?_⟩
      walk_at "wp"
      refine ⟨szle (by show 2 ≤ _; decide), fun p np => ?_⟩
      exact k _ (.tuple [a, d4]) _ (.inr ⟨a, d4, rfl, hsa.mono (by omega), h4⟩) (.tup upd_same (.cons (sc_v hsa a1) (.cons (sc_v h4 a4) .nil))) ((G0.trans G4).new np)
open Dm
theorem sc_pl {m : Int} {d : PyData} (h : ScB m d) : Pl d := by
  cases d with
  | int i => exact .int i
  | str x => exact .str x h.2
  | none => exact h.elim
  | bool _ => exact h.elim
  | list _ => exact h.elim
  | tuple _ => exact h.elim
  | dict _ => exact h.elim
theorem sc_dep {m : Int} {d : PyData} (h : ScB m d) (n : Nat) : Dep n d := by
  cases d with
  | int i => exact .int _ i
  | str x => exact .str _ x
  | none => exact h.elim
  | bool _ => exact h.elim
  | list _ => exact h.elim
  | tuple _ => exact h.elim
  | dict _ => exact h.elim
theorem el_pl {m : Int} {d : PyData} (h : ElB m d) : Pl d := by
  rcases h with h | ⟨a, b, rfl, ha, hb⟩
  · exact sc_pl h
  · exact .tup _ (List.forall_mem_cons.mpr ⟨sc_pl ha, List.forall_mem_cons.mpr ⟨sc_pl hb, fun _ h => absurd h List.not_mem_nil⟩⟩)
theorem el_dep {m : Int} {d : PyData} (h : ElB m d) (n : Nat) : Dep (n + 1) d := by
  rcases h with h | ⟨a, b, rfl, ha, hb⟩
  · exact sc_dep h _
  · exact .tup (by show 2 ≤ 1000000; decide) (List.forall_mem_cons.mpr ⟨sc_dep ha _, List.forall_mem_cons.mpr ⟨sc_dep hb _, fun _ h => absurd h List.not_mem_nil⟩⟩)
open Nm
theorem at_leaf {H : Hp} {v : V} {e : PyData} (h : At H v (toD (.leaf e))) : ∃ a x, v = .ref a ∧ H a = some (.tup [.str (Str.ofString "leaf"), x]) ∧ At H x e := by
  cases h with
  | tup ea l =>
  cases l with
  | cons a1 l1 =>
  cases l1 with
  | cons a2 l2 =>
  cases l2
  cases a1
  exact ⟨_, _, rfl, ea, a2⟩
theorem at_run {H : Hp} {v : V} {c : Nd} {t : Nat} (h : At H v (toD (.run c t))) : ∃ a x, v = .ref a ∧ H a = some (.tup [.str (Str.ofString "run"), x, .int (t : Int)]) ∧ At H x (toD c) := by
  cases h with
  | tup ea l =>
  cases l with
  | cons a1 l1 =>
  cases l1 with
  | cons a2 l2 =>
  cases l2 with
  | cons a3 l3 =>
  cases l3
  cases a1
  cases a3
  exact ⟨_, _, rfl, ea, a2⟩
theorem at_block {H : Hp} {v : V} {cs : List Nd} (h : At H v (toD (.block cs))) : ∃ a b xs, v = .ref a ∧ H a = some (.tup [.str (Str.ofString "block"), .ref b]) ∧ H b = some (.tup xs) ∧ AtL H xs (toDs cs) := by
  cases h with
  | tup ea l =>
  cases l with
  | cons a1 l1 =>
  cases l1 with
  | cons a2 l2 =>
  cases l2
  cases a1
  cases a2 with
  | tup eb l3 => exact ⟨_, _, _, rfl, ea, eb, l3⟩
theorem mk_leaf {H : Hp} {a : Addr} {x : V} {e : PyData} (h : H a = some (.tup [.str (Str.ofString "leaf"), x])) (g : At H x e) : At H (.ref a) (toD (.leaf e)) := .tup h (.cons (.str _) (.cons g .nil))
theorem mk_run {H : Hp} {a : Addr} {x : V} {c : Nd} {t : Nat} (h : H a = some (.tup [.str (Str.ofString "run"), x, .int (t : Int)])) (g : At H x (toD c)) : At H (.ref a) (toD (.run c t)) := .tup h (.cons (.str _) (.cons g (.cons (.int _) .nil)))
theorem mk_block {H : Hp} {a b : Addr} {xs : List V} {cs : List Nd} (h : H a = some (.tup [.str (Str.ofString "block"), .ref b])) (hb : H b = some (.tup xs)) (g : AtL H xs (toDs cs)) : At H (.ref a) (toD (.block cs)) := .tup h (.cons (.str _) (.cons (.tup hb g) .nil))
theorem AtL.app {H : Hp} : ∀ {vs ws : List V} {ds es : List PyData}, AtL H vs ds → AtL H ws es → AtL H (vs ++ ws) (ds ++ es)
  | _, _, _, _, .nil, h => h
  | _, _, _, _, .cons a l, h => .cons a (AtL.app l h)
abbrev E15 : PyData → Prop := ElB 1000000000000000
def spBase (D : Nat) : Sp := fun vs H Q _ => ∃ (t l : Addr) (dp rm : Nat), vs = [.ref t, .int (dp : Int), .int (rm : Int)] ∧ dp < D ∧ 1 ≤ rm ∧ rm ≤ 2000 ∧ Tape H t l ∧ ∀ (v : V) (n : Nd) (H' : Hp), Wf E15 n → isRun n = false → lev n ≤ 2 * dp → sizeN n ≤ rm → At H' v (toD n) → Go t l H H' → Q v H'
def spNode (D : Nat) : Sp := fun vs H Q _ => ∃ (t l : Addr) (dp rm : Nat), vs = [.ref t, .int (dp : Int), .int (rm : Int)] ∧ dp < D ∧ 1 ≤ rm ∧ rm ≤ 2000 ∧ Tape H t l ∧ ∀ (v : V) (n : Nd) (H' : Hp), Wf E15 n → lev n ≤ 2 * dp + 1 → sizeN n ≤ rm → At H' v (toD n) → Go t l H H' → Q v H'
theorem cdN {i j : Int} (h : 0 < j) (h2 : j < 100000) : CDivN i j := ⟨by omega, by omega⟩
theorem fdN (a b : Nat) : ((a : Nat) : Int).fdiv ((b : Nat) : Int) = ((a / b : Nat) : Int) := by
  rw [Int.fdiv_eq_ediv_of_nonneg _ (by omega)]
  rfl
theorem sizeNs_le : ∀ {cs : List Nd} {m : Nat}, (∀ c ∈ cs, sizeN c ≤ m) → sizeNs cs ≤ cs.length * m
  | [], m, _ => Nat.zero_le _
  | c :: r, m, h => by
    show sizeN c + sizeNs r ≤ (r.length + 1) * m
    have h1 := h c (List.mem_cons_self ..)
    have h2 := sizeNs_le (cs := r) fun d hd => h d (List.mem_cons_of_mem _ hd)
    rw [Nat.add_mul, Nat.one_mul]
    omega
abbrev s__law_base : Stmt := top 13
theorem c__law_base : FnScope ["tape", "depth", "room", "many", "k"] ["tape", "depth", "room"] (defScope s__law_base) := ⟨rfl, rfl, rfl, by decide +kernel, rfl, by decide +kernel, by decide +kernel⟩

abbrev s__law_node : Stmt := top 14
theorem c__law_node : FnScope ["tape", "depth", "room", "times"] ["tape", "depth", "room"] (defScope s__law_node) := ⟨rfl, rfl, rfl, by decide +kernel, rfl, by decide +kernel, by decide +kernel⟩

theorem ok_base {D : Nat} {f : Addr} {fd : FuncData} (F : Fun K "_law_base" "_law_base" s__law_base f fd) (T : Txt mg) (C__law_draw : Cl P w K mg base 1 "_law_draw" ["tape", "many"] spDraw) (C__law_element : Cl P w K mg base 5 "_law_element" ["tape"] spElement) (C__law_node : Cl P w K mg base (6 + 2 * D) "_law_node" ["tape", "depth", "room"] (spNode D)) : FnOk P w K mg base CX0 (7 + 2 * D) f fd ["tape", "depth", "room"] (spBase (D + 1)) := by
  have el : 7 + 2 * D = (6 + 2 * D) + 1 := by omega
  rw [el]
  refine F.ok c__law_base (fun vs H Q E h => ?_) (fun cdv A outer s H vs Q E hr h => ?_)
  · obtain ⟨t, l, dp, rm, rfl, _⟩ := h
    rfl
  · obtain ⟨t, l, dp, rm, rfl, hD, r1, r2, TP, k⟩ := h
    refine ⟨_, (pss_cons (ps_if (PW.pt (pw_or (pt_cmpR op_eq (pv 1) pe_int (nomark _)) (pw_or1 (pt_cmpR op_eq (pe_cl C__law_draw (hr.mono (by omega)) (by rfl) (pa_cons (pv 0) (pa_cons pe_int pa_nil))) pe_int (nomark _))))) (pss_one (ps_ret (pe_tup (pa_cons pe_str (pa_cons (pe_cl C__law_element (hr.mono (by omega)) (by rfl) (pa_cons (pv 0) pa_nil)) pa_nil))))) pss_nil)
      (pss_cons (ps_set (i := 3) c__law_base.nd rfl (Or.inr rfl) (pe_callB (call_min2 rfl) (by rfl) T.n_min (by decide +kernel) (pa_cons (pe_op op_add pe_int (pe_cl C__law_draw (hr.mono (by omega)) (by rfl) (pa_cons (pv 0) (pa_cons (pe_ix ix_list (pe_lst (pa_cons pe_int (pa_cons pe_int (pa_cons pe_int pa_nil)))) (pe_cl C__law_draw (hr.mono (by omega)) (by rfl) (pa_cons (pv 0) (pa_cons pe_int pa_nil))) (fun _ _ => rfl)) pa_nil)))) (pa_cons (pv 2) pa_nil))))
      (pss_one (ps_ret (pe_tup (pa_cons pe_str (pa_cons (pe_callTy call_tuple_of (by rfl) T.n_tuple (by decide +kernel) (pa_cons (pe_lc (own := [("k", 4)]) (by rfl) c__law_base.nd (pi_range1 (by rfl) T.n_range (pa_cons (pv 3) pa_nil)) (blkOk_by (own := [("k", 4)]) (N := ["tape", "depth", "room", "many", "k"]) (sc := defScope s__law_base) (by decide +kernel)) (fun _ _ _ _ _ => pg_name (i := 4) c__law_base.nd rfl (Or.inl rfl)) (fun _ _ _ _ _ => pts_nil) (fun _ _ _ _ _ => (pe_cl C__law_node (hr.mono (by omega)) (by rfl) (pa_cons (pv 0) (pa_cons (pe_op op_sub (pv 1) pe_int) (pa_cons (pe_op op_fdivN (pv 2) (pv 3)) pa_nil)))))) pa_nil)) pa_nil))))))), ?_⟩
    have leaf : ∀ (H1 : Hp) (G1 : Go t l H H1) (v : V) (d : PyData) (H2 : Hp) (G2 : Go t l H1 H2), E15 d → At H2 v d → ∀ p, H2 p = none → Q (.ref p) (upd H2 p (.tup [.str (Str.ofString "leaf"), v])) := fun H1 G1 v d H2 G2 hd ha p np =>
      k _ (.leaf d) _ (.leaf d hd) rfl (Nat.zero_le _) r1 (mk_leaf upd_same (ha.same (same_new np))) ((G1.trans G2).new np)
    walk_at "wp"
    refine w_ite (fun e => ?_) (fun e => ?_)
    · walk_at "wp"
      refine ⟨t, l, rfl, TP, fun v d H2 hd ha G2 => ?_⟩
      walk_at "wp"
      refine ⟨szle (by show 2 ≤ _; decide), fun p np => ?_⟩
      exact leaf H (Go.refl TP) v d H2 G2 hd ha p np
    walk_at "wp"
    refine ⟨t, l, _, rfl, TP, by decide, fun c0 H0 l0 u0 G0 => ?_⟩
    walk_at "wp"
    refine w_ite (fun e2 => ?_) (fun e2 => ?_)
    · walk_at "wp"
      refine ⟨t, l, rfl, G0.T, fun v d H2 hd ha G2 => ?_⟩
      walk_at "wp"
      refine ⟨szle (by show 2 ≤ _; decide), fun p np => ?_⟩
      exact leaf H0 G0 v d H2 G2 hd ha p np
    walk_at "wp"
    refine ⟨szle (by show 3 ≤ _; decide), fun m nm => ?_⟩
    obtain ⟨mH, mt⟩ := G0.free nm
    walk_at "wp"
    refine ⟨t, l, _, rfl, (G0.new nm).T, by decide, fun c1 H1 l1 u1 G1 => ?_⟩
    have GG := (G0.new nm).trans G1
    have hm1 := G1.at upd_same mt.1
    refine w_ixAny (fun v => ∃ n : Int, v = .int n ∧ 1 ≤ n ∧ n ≤ 12) (.of hm1) l1 (Int.lt_of_lt_of_le u1 (by decide)) ?_ ?_
    · intro v hv
      simp only [List.mem_cons, List.not_mem_nil, or_false] at hv
      rcases hv with rfl | rfl | rfl
      all_goals exact ⟨_, rfl, by decide, by decide⟩
    rintro v ⟨mm, rfl, m1, m2⟩
    walk_at "wp"
    refine ⟨t, l, _, rfl, GG.T, by omega, fun c3 H3 l3 u3 G3 => ?_⟩
    have G03 := GG.trans G3
    walk_at "wp"
    obtain ⟨many, hmany, y1, y2, y3⟩ : ∃ many : Nat, (if (rm : Int) < 1 + c3 then (rm : Int) else 1 + c3) = (many : Int) ∧ 1 ≤ many ∧ many ≤ 12 ∧ many ≤ rm := by
      refine ⟨(if (rm : Int) < 1 + c3 then (rm : Int) else 1 + c3).toNat, ?_, ?_, ?_, ?_⟩ <;> split <;> omega
    rw [hmany]
    refine ⟨by omega, by omega, ?_⟩
    intro W nW
    obtain ⟨WH, Wt⟩ := G03.free nW
    have eT : ((many : Nat) : Int).toNat = many := Int.toNat_natCast many
    have q1 : 1 ≤ rm / many := (Nat.le_div_iff_mul_le (by omega)).mpr (by omega)
    have q2 : rm / many ≤ rm := Nat.div_le_self _ _
    have q3 : many * (rm / many) ≤ rm := Nat.mul_div_le rm many
    rw [eT]
    refine lc_range (lo := 0) (n := many) (fun i H4 => ∃ (xs : List V) (ns : List Nd), H4 W = some (.lst xs) ∧ AtL H4 xs (toDs ns) ∧ ns.length = i ∧ (∀ c ∈ ns, Wf E15 c ∧ lev c ≤ 2 * dp - 1 ∧ sizeN c ≤ rm / many) ∧ Go t l H H4) ⟨[], [], upd_same, .nil, rfl, (fun c hc => absurd hc List.not_mem_nil), G03.new nW⟩ ?_ ?_
    · rintro i H4 hi ⟨xs, ns, hW, hA, hl, hn, G4⟩
      walk_at "wp"
      refine ⟨rfl, ?_⟩
      walk_at "wp"
      refine w_I (cdN (by omega) (by omega)) ?_
      walk_at "wp"
      rw [fdN]
      have e5 : ((dp : Nat) : Int) - 1 = ((dp - 1 : Nat) : Int) := by omega
      rw [e5]
      refine ⟨t, l, dp - 1, rm / many, rfl, by omega, q1, by omega, G4.T, fun v n H5 h1 h2 h3 h4 G5 => ?_⟩
      have hA5 := hA.go G4.T G5
      have hxl := hA.len
      rw [toDs_len] at hxl
      refine ⟨xs, G5.at hW Wt.1, szlt (by omega), xs ++ [v], ns ++ [n], upd_same, ?_, by rw [List.length_append, hl]; rfl, ?_, (G4.trans G5).put WH Wt⟩
      · rw [toDs_app]
        refine (AtL.app hA5 (.cons h4 .nil)).tups fun b ys hb => ?_
        rw [upd_ne (fun e => by rw [e, G5.at hW Wt.1] at hb; cases hb)]
        exact hb
      · intro c hc
        rcases List.mem_append.mp hc with h | h
        · exact hn c h
        · rw [List.mem_singleton.mp h]
          exact ⟨h1, by omega, h3⟩
    · rintro H4 ⟨xs, ns, hW, hA, hl, hn, G4⟩
      walk_at "wp"
      intro p np
      walk_at "wp"
      refine ⟨szle (by show 2 ≤ _; decide), fun q nq => ?_⟩
      have pq : p ≠ q := fun e => by rw [← e, upd_same] at nq; cases nq
      refine k _ (.block ns) _ (.block ns (fun c hc => (hn c hc).1) (by omega) (by omega)) rfl ?_ ?_ (mk_block upd_same ((upd_ne pq).trans upd_same) ((hA.same (same_new np)).same (same_new nq))) ((G4.new np).new nq)
      · have := levs_le (cs := ns) (m := 2 * dp - 1) fun c hc => (hn c hc).2.1
        show levs ns + 1 ≤ 2 * dp
        omega
      · have := sizeNs_le (cs := ns) (m := rm / many) fun c hc => (hn c hc).2.2
        rw [hl] at this
        show sizeNs ns ≤ rm
        omega
theorem ok_node {D : Nat} {f : Addr} {fd : FuncData} (F : Fun K "_law_node" "_law_node" s__law_node f fd) (T : Txt mg) (C__law_draw : Cl P w K mg base 1 "_law_draw" ["tape", "many"] spDraw) (C__law_base : Cl P w K mg base (7 + 2 * D) "_law_base" ["tape", "depth", "room"] (spBase (D + 1))) : FnOk P w K mg base CX0 (8 + 2 * D) f fd ["tape", "depth", "room"] (spNode (D + 1)) := by
  have el : 8 + 2 * D = (7 + 2 * D) + 1 := by omega
  rw [el]
  refine F.ok c__law_node (fun vs H Q E h => ?_) (fun cdv A outer s H vs Q E hr h => ?_)
  · obtain ⟨t, l, dp, rm, rfl, _⟩ := h
    rfl
  · obtain ⟨t, l, dp, rm, rfl, hD, r1, r2, TP, k⟩ := h
    refine ⟨_, (pss_cons (ps_if (PW.pt (pw_and (pt_cmpR op_gt (pv 2) pe_int (nomark _)) (pw_and1 (pt_cmpR op_eq (pe_cl C__law_draw (hr.mono (by omega)) (by rfl) (pa_cons (pv 0) (pa_cons pe_int pa_nil))) pe_int (nomark _))))) (pss_cons (ps_set (i := 3) c__law_node.nd rfl (Or.inl rfl) (pe_op op_add pe_int (pe_cl C__law_draw (hr.mono (by omega)) (by rfl) (pa_cons (pv 0) (pa_cons (pe_callB (call_min2 rfl) (by rfl) T.n_min (by decide +kernel) (pa_cons (pe_op op_sub (pv 2) pe_int) (pa_cons (pe_ix ix_list (pe_lst (pa_cons pe_int (pa_cons pe_int (pa_cons pe_int (pa_cons pe_int pa_nil))))) (pe_cl C__law_draw (hr.mono (by omega)) (by rfl) (pa_cons (pv 0) (pa_cons pe_int pa_nil))) (fun _ _ => rfl)) pa_nil))) pa_nil)))))
      (pss_one (ps_ret (pe_tup (pa_cons pe_str (pa_cons (pe_cl C__law_base (hr.mono (by omega)) (by rfl) (pa_cons (pv 0) (pa_cons (pv 1) (pa_cons (pe_op op_fdivN (pv 2) (pv 3)) pa_nil)))) (pa_cons (pv 3) pa_nil))))))) pss_nil)
      (pss_one (ps_ret (pe_cl C__law_base (hr.mono (by omega)) (by rfl) (pa_cons (pv 0) (pa_cons (pv 1) (pa_cons (pv 2) pa_nil))))))), ?_⟩
    have plain : ∀ (H1 : Hp) (G1 : Go t l H H1), spBase (D + 1) [.ref t, .int (dp : Int), .int (rm : Int)] H1 Q E0 := fun H1 G1 =>
      ⟨t, l, dp, rm, rfl, hD, r1, r2, G1.T, fun v n H' h1 h2 h3 h4 h5 G => k v n H' h1 (by omega) h4 h5 (G1.trans G)⟩
    walk_at "wp"
    refine w_ite (fun e => ?_) (fun e => ?_)
    · walk_at "wp"
      refine ⟨t, l, _, rfl, TP, by decide, fun c0 H0 l0 u0 G0 => ?_⟩
      walk_at "wp"
      refine w_ite (fun e2 => ?_) (fun e2 => ?_)
      · walk_at "wp"
        refine ⟨szle (by show 4 ≤ _; decide), fun m nm => ?_⟩
        obtain ⟨mH, mt⟩ := G0.free nm
        walk_at "wp"
        refine ⟨t, l, _, rfl, (G0.new nm).T, by decide, fun c1 H1 l1 u1 G1 => ?_⟩
        have GG := (G0.new nm).trans G1
        have hm1 := G1.at upd_same mt.1
        refine w_ixAny (fun v => ∃ n : Int, v = .int n ∧ 1 ≤ n ∧ n ≤ 1999) (.of hm1) l1 (Int.lt_of_lt_of_le u1 (by decide)) ?_ ?_
        · intro v hv
          simp only [List.mem_cons, List.not_mem_nil, or_false] at hv
          rcases hv with rfl | rfl | rfl | rfl
          all_goals exact ⟨_, rfl, by decide, by decide⟩
        rintro v ⟨mm, rfl, m1, m2⟩
        walk_at "wp"
        refine ⟨t, l, _, rfl, GG.T, by split <;> omega, fun c3 H3 l3 u3 G3 => ?_⟩
        have G03 := GG.trans G3
        walk_at "wp"
        obtain ⟨ti, hti, y1, y2⟩ : ∃ ti : Nat, 2 + c3 = (ti : Int) ∧ 2 ≤ ti ∧ ti ≤ rm := by
          refine ⟨(2 + c3).toNat, by omega, by omega, ?_⟩
          have : c3 < max ((rm : Int) - 1) 1 := by
            refine Int.lt_of_lt_of_le u3 ?_
            split <;> omega
          omega
        rw [hti]
        refine w_I (cdN (by omega) (by omega)) ?_
        walk_at "wp"
        rw [fdN]
        have q1 : 1 ≤ rm / ti := (Nat.le_div_iff_mul_le (by omega)).mpr (by omega)
        have q2 : rm / ti ≤ rm := Nat.div_le_self _ _
        have q3 : ti * (rm / ti) ≤ rm := Nat.mul_div_le rm ti
        refine ⟨t, l, dp, rm / ti, rfl, hD, q1, by omega, G03.T, fun v n H5 h1 h2 h3 h4 h5 G5 => ?_⟩
        walk_at "wp"
        refine ⟨szle (by show 3 ≤ _; decide), fun p np => ?_⟩
        refine k _ (.run n ti) _ (.run n ti h1 h2 y1 (by omega)) (by show lev n + 1 ≤ _; omega) ?_ (mk_run upd_same (h5.same (same_new np))) ((G03.trans G5).new np)
        show ti * sizeN n ≤ rm
        exact Nat.le_trans (Nat.mul_le_mul_left ti h4) q3
      · walk_at "wp"
        exact plain H0 G0
    · walk_at "wp"
      exact plain H (Go.refl TP)
theorem cl_false {f : Addr} {fd : FuncData} {x : Str} {st : Stmt} {ps : List Str} {k : Nat} {sp : Sp} (F : Fun K x x st f fd) (g : mg x = some (.ref f)) (b : Binds K fd ps []) (h : ∀ vs H Q E, ¬ sp vs H Q E) : Cl P w K mg base k x ps sp :=
  ⟨f, fd, ⟨fun _ _ _ _ z => (h _ _ _ _ z).elim, fun _ _ _ _ _ _ _ _ _ _ _ _ _ z => (h _ _ _ _ z).elim⟩, g, F.kp, b⟩
/-- both, to any depth -/
theorem cl_nodes {fB fN : Addr} {fdB fdN : FuncData} (FB : Fun K "_law_base" "_law_base" s__law_base fB fdB) (FN : Fun K "_law_node" "_law_node" s__law_node fN fdN) (gB : mg "_law_base" = some (.ref fB)) (gN : mg "_law_node" = some (.ref fN)) (T : Txt mg)
    (C__law_draw : Cl P w K mg base 1 "_law_draw" ["tape", "many"] spDraw) (C__law_element : Cl P w K mg base 5 "_law_element" ["tape"] spElement) : ∀ D, Cl P w K mg base (5 + 2 * D) "_law_base" ["tape", "depth", "room"] (spBase D) ∧ Cl P w K mg base (6 + 2 * D) "_law_node" ["tape", "depth", "room"] (spNode D) := by
  have bB : Binds K fdB ["tape", "depth", "room"] [] := FB.binds (ps := ["tape", "depth", "room"]) fun _ _ _ _ _ _ us hl => match us, hl with | [_, _, _], _ => rfl
  have bN : Binds K fdN ["tape", "depth", "room"] [] := FN.binds (ps := ["tape", "depth", "room"]) fun _ _ _ _ _ _ us hl => match us, hl with | [_, _, _], _ => rfl
  intro D
  induction D with
  | zero => exact ⟨cl_false FB gB bB (fun vs H Q E ⟨_, _, _, _, _, h, _⟩ => absurd h (Nat.not_lt_zero _)), cl_false FN gN bN (fun vs H Q E ⟨_, _, _, _, _, h, _⟩ => absurd h (Nat.not_lt_zero _))⟩
  | succ D ih =>
    have cb : Cl P w K mg base (7 + 2 * D) "_law_base" ["tape", "depth", "room"] (spBase (D + 1)) := ⟨fB, fdB, ok_base FB T C__law_draw C__law_element ih.2, gB, FB.kp, bB⟩
    have cn : Cl P w K mg base (8 + 2 * D) "_law_node" ["tape", "depth", "room"] (spNode (D + 1)) := ⟨fN, fdN, ok_node FN T C__law_draw cb, gN, FN.kp, bN⟩
    have e1 : 5 + 2 * (D + 1) = 7 + 2 * D := by omega
    have e2 : 6 + 2 * (D + 1) = 8 + 2 * D := by omega
    rw [e1, e2]
    exact ⟨cb, cn⟩
mutual
theorem size_pos {B : PyData → Prop} : ∀ n : Nd, Wf B n → 1 ≤ sizeN n
  | .leaf e, _ => Nat.le_refl 1
  | .run c t, h => by
    cases h with
    | run _ _ w _ t2 _ =>
      have := size_pos c w
      show 1 ≤ t * sizeN c
      exact Nat.le_trans (show 1 ≤ t by omega) (Nat.le_mul_of_pos_right t this)
  | .block cs, h => by
    cases h with
    | block _ w l1 _ =>
      cases cs with
      | nil => exact absurd l1 (by show ¬ 1 ≤ 0; omega)
      | cons c r =>
        have := size_pos c (w c (List.mem_cons_self ..))
        show 1 ≤ sizeN c + sizeNs r
        omega
end
abbrev E16 : PyData → Prop := ElB 1281474976710656
def tagN : Nd → Str
  | .leaf _ => Str.ofString "leaf"
  | .run _ _ => Str.ofString "run"
  | .block _ => Str.ofString "block"
theorem at_tag {H : Hp} {v : V} {n : Nd} (h : At H v (toD n)) : ∃ a rest, v = .ref a ∧ H a = some (.tup (.str (tagN n) :: rest)) := by
  cases n with
  | leaf e =>
    obtain ⟨a, x, rfl, h1, _⟩ := at_leaf h
    exact ⟨a, _, rfl, h1⟩
  | run c t =>
    obtain ⟨a, x, rfl, h1, _⟩ := at_run h
    exact ⟨a, _, rfl, h1⟩
  | block cs =>
    obtain ⟨a, b, xs, rfl, h1, _, _⟩ := at_block h
    exact ⟨a, _, rfl, h1⟩
theorem tag_run (n : Nd) : decide (tagN n = Str.ofString "run") = isRun n := by
  cases n with
  | leaf e => exact decide_eq_false lit_ne.1
  | run c t => exact decide_eq_true rfl
  | block cs => exact decide_eq_false lit_ne.2.2.symm
theorem AtL.take {H : Hp} : ∀ {vs : List V} {ds : List PyData} (n : Nat), AtL H vs ds → AtL H (vs.take n) (ds.take n)
  | _, _, 0, _ => by rw [List.take_zero, List.take_zero]; exact .nil
  | _, _, _ + 1, .nil => .nil
  | _, _, n + 1, .cons a l => .cons a (AtL.take n l)
theorem AtL.drop {H : Hp} : ∀ {vs : List V} {ds : List PyData} (n : Nat), AtL H vs ds → AtL H (vs.drop n) (ds.drop n)
  | _, _, 0, h => h
  | _, _, _ + 1, .nil => .nil
  | _, _, n + 1, .cons a l => AtL.drop n l
theorem AtL.rev {H : Hp} : ∀ {vs : List V} {ds : List PyData}, AtL H vs ds → AtL H vs.reverse ds.reverse
  | _, _, .nil => .nil
  | _, _, .cons a l => by
    rw [List.reverse_cons, List.reverse_cons]
    exact AtL.app (AtL.rev l) (.cons a .nil)
theorem cut_m1 (xs : List V) (h : 1 ≤ xs.length) : cutV xs none (some (-1)) = xs.take (xs.length - 1) := by
  unfold cutV
  have e : HT.sIx xs.length xs.length (some (-1)) = xs.length - 1 := by
    show (if (-1 : Int) < 0 then ((-1 : Int) + (xs.length : Int)).toNat else min (-1 : Int).toNat xs.length) = _
    rw [if_pos (by decide)]
    omega
  rw [HT.sIx_none, e, List.drop_zero, Nat.sub_zero]
theorem sizeNs_mem : ∀ {cs : List Nd} {c : Nd}, c ∈ cs → sizeN c ≤ sizeNs cs
  | d :: r, c, h => by
    show sizeN c ≤ sizeN d + sizeNs r
    rcases List.mem_cons.mp h with rfl | h
    · omega
    · have := sizeNs_mem h; omega
theorem sizeNs_take (cs : List Nd) (n : Nat) : sizeNs (cs.take n) + sizeNs (cs.drop n) = sizeNs cs := by
  rw [← sizeNs_app, List.take_append_drop]
theorem sizeNs_rev : ∀ cs : List Nd, sizeNs cs.reverse = sizeNs cs
  | [] => rfl
  | c :: r => by
    rw [List.reverse_cons, sizeNs_app, sizeNs_rev r]
    show sizeNs r + (sizeN c + 0) = sizeN c + sizeNs r
    omega
theorem levs_sub {cs ds : List Nd} (h : ∀ c ∈ ds, c ∈ cs) : levs ds ≤ levs cs := levs_le fun c hc => lev_mem (h c hc)
theorem wr_e15 {n : Nd} (h : Wf E15 n) : Wf E16 n := h.mono fun e he => he.mono (by decide)
def LevOk (n n' : Nd) : Prop := lev n' ≤ lev n + 2 ∧ (isRun n = false → isRun n' = true → lev n' ≤ lev n + 1)
def spNn (D : Nat) : Sp := fun vs H Q _ => ∃ (t l : Addr) (v : V) (n : Nd), vs = [.ref t, v] ∧ Tape H t l ∧ At H v (toD n) ∧ Wf E15 n ∧ lev n < D ∧ ∀ (v' : V) (n' : Nd) (H' : Hp), Wf E16 n' → LevOk n n' → sizeN n' ≤ 41 * sizeN n → At H' v' (toD n') → Go t l H H' → Q v' H'
theorem cell1 {cs : List Nd} (h : 1 ≤ cs.length) : ∃ c r, cs = c :: r := by
  cases cs with
  | nil => exact absurd h (by decide)
  | cons c r => exact ⟨c, r, rfl⟩
abbrev s__law_near_node : Stmt := top 15
theorem c__law_near_node : FnScope ["tape", "node", "choice", "parts", "at", "child", "part"] ["tape", "node"] (defScope s__law_near_node) := ⟨rfl, rfl, rfl, by decide +kernel, rfl, by decide +kernel, by decide +kernel⟩

theorem ok_nn {D : Nat} {f : Addr} {fd : FuncData} (F : Fun K "_law_near_node" "_law_near_node" s__law_near_node f fd) (T : Txt mg) (C__law_draw : Cl P w K mg base 1 "_law_draw" ["tape", "many"] spDraw) (C__law_near : Cl P w K mg base 6 "_law_near" ["tape", "element"] spNear) (C__law_near_node : Cl P w K mg base (6 + D) "_law_near_node" ["tape", "node"] (spNn D)) : FnOk P w K mg base CX0 (6 + D + 1) f fd ["tape", "node"] (spNn (D + 1)) := by
  refine F.ok c__law_near_node (fun vs H Q E h => ?_) (fun cdv A outer s H vs Q E hr h => ?_)
  · obtain ⟨t, l, v, n, rfl, _⟩ := h
    rfl
  · obtain ⟨t, l, v, n, rfl, TP, ha, wf, hD, k⟩ := h
    refine ⟨_, (pss_cons (ps_set (i := 2) c__law_near_node.nd rfl (Or.inl rfl) (pe_cl C__law_draw (hr.mono (by omega)) (by rfl) (pa_cons (pv 0) (pa_cons pe_int pa_nil))))
      (pss_cons (ps_if (pt_cmpR op_eq (pv 2) pe_int (nomark _)) (pss_one (ps_ret (pv 1))) pss_nil)
      (pss_cons (ps_if (pt_cmpR op_eq (pv 2) pe_int (nomark _)) (pss_one (ps_ret (pe_tup (pa_cons pe_str (pa_cons (pe_tup (pa_cons (pv 1) pa_nil)) pa_nil))))) pss_nil)
      (pss_cons (ps_if (pt_cmpR op_eq (pe_ix ix_tup (pv 1) pe_int (fun _ _ => rfl)) pe_str (nomark _)) (pss_cons (ps_if (pt_cmpR op_eq (pv 2) pe_int (nomark _)) (pss_one (ps_ret (pe_tup (pa_cons pe_str (pa_cons (pv 1) (pa_cons (pe_op op_add pe_int (pe_cl C__law_draw (hr.mono (by omega)) (by rfl) (pa_cons (pv 0) (pa_cons pe_int pa_nil)))) pa_nil)))))) pss_nil)
      (pss_one (ps_ret (pe_tup (pa_cons pe_str (pa_cons (pe_cl C__law_near (hr.mono (by omega)) (by rfl) (pa_cons (pv 0) (pa_cons (pe_ix ix_tup (pv 1) pe_int (fun _ _ => rfl)) pa_nil))) pa_nil)))))) pss_nil)
      (pss_cons (ps_if (pt_cmpR op_eq (pe_ix ix_tup (pv 1) pe_int (fun _ _ => rfl)) pe_str (nomark _)) (pss_cons (ps_if (pt_cmpR op_eq (pv 2) pe_int (nomark _)) (pss_one (ps_ret (pe_ix ix_tup (pv 1) pe_int (fun _ _ => rfl)))) pss_nil)
      (pss_cons (ps_if (pt_cmpR op_eq (pv 2) pe_int (nomark _)) (pss_one (ps_ret (pe_tup (pa_cons pe_str (pa_cons (pe_ix ix_tup (pv 1) pe_int (fun _ _ => rfl)) (pa_cons (pe_op op_add pe_int (pe_cl C__law_draw (hr.mono (by omega)) (by rfl) (pa_cons (pv 0) (pa_cons pe_int pa_nil)))) pa_nil)))))) pss_nil)
      (pss_cons (ps_set (i := 5) c__law_near_node.nd rfl (Or.inl rfl) (pe_cl C__law_near_node (hr.mono (by omega)) (by rfl) (pa_cons (pv 0) (pa_cons (pe_ix ix_tup (pv 1) pe_int (fun _ _ => rfl)) pa_nil))))
      (pss_cons (ps_if (pt_cmpR op_eq (pe_ix ix_tup (pv 5) pe_int (fun _ _ => rfl)) pe_str (nomark _)) (pss_one (ps_set (i := 5) c__law_near_node.nd rfl (Or.inl rfl) (pe_tup (pa_cons pe_str (pa_cons (pe_tup (pa_cons (pv 5) pa_nil)) pa_nil))))) pss_nil)
      (pss_one (ps_ret (pe_tup (pa_cons pe_str (pa_cons (pv 5) (pa_cons (pe_ix ix_tup (pv 1) pe_int (fun _ _ => rfl)) pa_nil)))))))))) pss_nil)
      (pss_cons (ps_set (i := 3) c__law_near_node.nd rfl (Or.inl rfl) (pe_ix ix_tup (pv 1) pe_int (fun _ _ => rfl)))
      (pss_cons (ps_if (PW.pt (pw_and (pt_cmpR op_eq (pv 2) pe_int (nomark _)) (pw_and1 (pt_cmpR op_lt (pe_callB call_len_seq (by rfl) T.n_len (by decide +kernel) (pa_cons (pv 3) pa_nil)) pe_int (nomark _))))) (pss_one (ps_ret (pe_tup (pa_cons pe_str (pa_cons (pe_op op_catA (pv 3) (pe_slice sl_tupA (pv 3) po_none (po_some pe_int))) pa_nil))))) pss_nil)
      (pss_cons (ps_if (PW.pt (pw_and (pt_cmpR op_eq (pv 2) pe_int (nomark _)) (pw_and1 (pt_cmpR op_gt (pe_callB call_len_seq (by rfl) T.n_len (by decide +kernel) (pa_cons (pv 3) pa_nil)) pe_int (nomark _))))) (pss_one (ps_ret (pe_tup (pa_cons pe_str (pa_cons (pe_slice sl_tupA (pv 3) po_none (po_some (pe_un un_neg pe_int))) pa_nil))))) pss_nil)
      (pss_cons (ps_if (pt_cmpR op_eq (pv 2) pe_int (nomark _)) (pss_one (ps_ret (pe_tup (pa_cons pe_str (pa_cons (pe_callTy call_tuple_of (by rfl) T.n_tuple (by decide +kernel) (pa_cons (pe_lc (own := [("part", 6)]) (by rfl) c__law_near_node.nd (pi_reversed (by rfl) T.n_reversed (pa_cons (pe_callTy call_list_of (by rfl) T.n_list (by decide +kernel) (pa_cons (pv 3) pa_nil)) pa_nil)) (blkOk_by (own := [("part", 6)]) (N := ["tape", "node", "choice", "parts", "at", "child", "part"]) (sc := defScope s__law_near_node) (by decide +kernel)) (fun _ _ _ _ _ => pg_name (i := 6) c__law_near_node.nd rfl (Or.inl rfl)) (fun _ _ _ _ _ => pts_nil) (fun _ _ _ _ _ => (pv 6))) pa_nil)) pa_nil))))) pss_nil)
      (pss_cons (ps_set (i := 4) c__law_near_node.nd rfl (Or.inl rfl) (pe_cl C__law_draw (hr.mono (by omega)) (by rfl) (pa_cons (pv 0) (pa_cons (pe_callB call_len_seq (by rfl) T.n_len (by decide +kernel) (pa_cons (pv 3) pa_nil)) pa_nil))))
      (pss_one (ps_ret (pe_tup (pa_cons pe_str (pa_cons (pe_op op_catA (pe_op op_catA (pe_slice sl_tupA (pv 3) po_none (po_some (pv 4))) (pe_tup (pa_cons (pe_cl C__law_near_node (hr.mono (by omega)) (by rfl) (pa_cons (pv 0) (pa_cons (pe_ix ix_tup (pv 3) (pv 4) (fun _ _ => rfl)) pa_nil))) pa_nil))) (pe_slice sl_tupA (pv 3) (po_some (pe_op op_add (pv 4) pe_int)) po_none)) pa_nil))))))))))))))), ?_⟩
    walk_at "wp"
    refine ⟨t, l, _, rfl, TP, by decide, fun ch H0 l0 u0 G0 => ?_⟩
    have ha0 := ha.go TP G0
    have sp := size_pos n wf
    walk_at "wp"
    refine w_ite (fun e => ?_) (fun e0 => ?_)
    · walk_at "wp"
      exact k v n _ (wr_e15 wf) ⟨by omega, fun _ _ => by omega⟩ (by omega) ha0 G0
    walk_at "wp"
    refine w_ite (fun e => ?_) (fun e1 => ?_)
    · walk_at "wp"
      refine ⟨szle (by show 1 ≤ _; decide), fun p np => ?_⟩
      walk_at "wp"
      refine ⟨szle (by show 2 ≤ _; decide), fun q nq => ?_⟩
      have pq : p ≠ q := fun e => by rw [← e, upd_same] at nq; cases nq
      refine k _ (.block [n]) _ (.block _ (List.forall_mem_cons.mpr ⟨wr_e15 wf, fun _ h => absurd h List.not_mem_nil⟩) (by show 1 ≤ 1; decide) (by show 1 ≤ 12; decide)) ⟨by show max (lev n) 0 + 1 ≤ _; omega, fun _ h => Bool.noConfusion h⟩ (by show sizeN n + 0 ≤ _; omega) (mk_block upd_same ((upd_ne pq).trans upd_same) (.cons ((ha0.same (same_new np)).same (same_new nq)) .nil)) ((G0.new np).new nq)
    walk_at "wp"
    cases wf with
    | leaf e he =>
      obtain ⟨a, x, rfl, h1, h2⟩ := at_leaf ha0
      walk_at "wp"
      rw [decide_eq_true rfl]
      walk_at "wp"
      refine w_ite (fun e2 => ?_) (fun e2 => ?_)
      · walk_at "wp"
        refine ⟨t, l, _, rfl, G0.T, by decide, fun r1 H1 l1 u1 G1 => ?_⟩
        replace u1 : r1 < 40 := u1
        walk_at "wp"
        refine ⟨szle (by show 3 ≤ _; decide), fun p np => ?_⟩
        obtain ⟨ti, hti⟩ := Int.eq_ofNat_of_zero_le (show 0 ≤ 2 + r1 by omega)
        rw [hti]
        have ha1 := ha0.go G0.T G1
        refine k _ (.run (.leaf e) ti) _ (.run _ ti (.leaf e (he.mono (by decide))) rfl (by omega) (by omega)) ⟨by show 0 + 1 ≤ 0 + 2; omega, fun _ _ => by show 0 + 1 ≤ 0 + 1; omega⟩ (by show ti * 1 ≤ 41 * 1; omega) (mk_run upd_same (ha1.same (same_new np))) ((G0.trans G1).new np)
      · walk_at "wp"
        refine ⟨t, l, x, e, _, rfl, G0.T, h2, he, Int.le_refl _, by decide, fun v1 d1 H1 hd1 a1 G1 => ?_⟩
        walk_at "wp"
        refine ⟨szle (by show 2 ≤ _; decide), fun p np => ?_⟩
        exact k _ (.leaf d1) _ (.leaf d1 hd1) ⟨Nat.zero_le _, fun _ h => Bool.noConfusion h⟩ (by show 1 ≤ 41 * 1; omega) (mk_leaf upd_same (a1.same (same_new np))) ((G0.trans G1).new np)
    | run c ti wc nr t2 tm =>
      obtain ⟨a, x, rfl, h1, h2⟩ := at_run ha0
      have sc := size_pos c wc
      have hsz : sizeN (.run c ti) = ti * sizeN c := rfl
      have hlv : lev (.run c ti) = lev c + 1 := rfl
      rw [hsz] at k
      rw [hlv] at hD
      walk_at "wp"
      rw [decide_eq_false (by decide +kernel)]
      walk_at "wp"
      rw [decide_eq_true rfl]
      walk_at "wp"
      have sct : sizeN c ≤ ti * sizeN c := Nat.le_mul_of_pos_left _ (by omega)
      refine w_ite (fun e2 => ?_) (fun e2 => ?_)
      · walk_at "wp"
        exact k x c _ (wr_e15 wc) ⟨by rw [hlv]; omega, fun h => Bool.noConfusion h⟩ (by omega) h2 G0
      walk_at "wp"
      refine w_ite (fun e3 => ?_) (fun e3 => ?_)
      · walk_at "wp"
        refine ⟨t, l, _, rfl, G0.T, by decide, fun r1 H1 l1 u1 G1 => ?_⟩
        replace u1 : r1 < 40 := u1
        walk_at "wp"
        refine ⟨szle (by show 3 ≤ _; decide), fun p np => ?_⟩
        obtain ⟨tj, htj⟩ := Int.eq_ofNat_of_zero_le (show 0 ≤ 2 + r1 by omega)
        rw [htj]
        refine k _ (.run c tj) _ (.run c tj (wr_e15 wc) nr (by omega) (by omega)) ⟨by rw [hlv]; show lev c + 1 ≤ _; omega, fun h => Bool.noConfusion h⟩ ?_ (mk_run upd_same ((h2.go G0.T G1).same (same_new np))) ((G0.trans G1).new np)
        show tj * sizeN c ≤ 41 * (ti * sizeN c)
        exact Nat.mul_le_mul (by omega) sct
      walk_at "wp"
      refine ⟨t, l, x, c, rfl, G0.T, h2, wc, by omega, fun v1 n1 H1 w1 lv1 sz1 a1 G1 => ?_⟩
      have h1' := G0.T.tup G1.e _ _ h1
      have fin : ∀ (v2 : V) (n2 : Nd) (H2 : Hp), Wf E16 n2 → isRun n2 = false → lev n2 ≤ lev c + 2 → sizeN n2 ≤ sizeN n1 → At H2 v2 (toD n2) → Go t l H H2 → ∀ p, H2 p = none → Q (.ref p) (upd H2 p (.tup [.str (Str.ofString "run"), v2, .int (ti : Int)])) := fun v2 n2 H2 w2 nr2 lv2 sz2 a2 G2 p np => by
        refine k _ (.run n2 ti) _ (.run n2 ti w2 nr2 t2 tm) ⟨by rw [hlv]; show lev n2 + 1 ≤ _; omega, fun h => Bool.noConfusion h⟩ ?_ (mk_run upd_same (a2.same (same_new np))) (G2.new np)
        show ti * sizeN n2 ≤ 41 * (ti * sizeN c)
        have : ti * sizeN n2 ≤ ti * (41 * sizeN c) := Nat.mul_le_mul_left _ (by omega)
        rw [Nat.mul_left_comm] at this
        exact this
      walk_at "wp"
      obtain ⟨b, rest, rfl, hb⟩ := at_tag a1
      refine w_ixT (.of hb) (atI_nat (j := 0) rfl) ?_
      walk_at "wp"
      rw [tag_run]
      cases hr1 : isRun n1 with
      | true =>
        walk_at "wp"
        refine ⟨szle (by show 1 ≤ _; decide), fun p np => ?_⟩
        walk_at "wp"
        refine ⟨szle (by show 2 ≤ _; decide), fun q nq => ?_⟩
        have pq : p ≠ q := fun e => by rw [← e, upd_same] at nq; cases nq
        have h1'' := same_new (o := .tup [.str (Str.ofString "block"), .ref p]) nq _ _ (same_new (o := .tup [.ref b]) np _ _ h1')
        walk_at "wp"
        refine ⟨szle (by show 3 ≤ _; decide), fun r nr3 => ?_⟩
        exact fin _ (.block [n1]) _ (.block _ (List.forall_mem_cons.mpr ⟨w1, fun _ h => absurd h List.not_mem_nil⟩) (by show 1 ≤ 1; decide) (by show 1 ≤ 12; decide)) rfl (by have := lv1.2 nr hr1; show max (lev n1) 0 + 1 ≤ _; omega) (by show sizeN n1 + 0 ≤ _; omega) (mk_block upd_same ((upd_ne pq).trans upd_same) (.cons ((a1.same (same_new np)).same (same_new nq)) .nil)) (((G0.trans G1).new np).new nq) r nr3
      | false =>
        walk_at "wp"
        refine ⟨szle (by show 3 ≤ _; decide), fun r nr3 => ?_⟩
        exact fin _ n1 _ w1 hr1 lv1.1 (Nat.le_refl _) a1 (G0.trans G1) r nr3
    | block cs wc c1 c2 =>
      obtain ⟨a, b, xs, rfl, h1, hb, h2⟩ := at_block ha0
      have hxl := h2.len
      rw [toDs_len] at hxl
      have hsz : sizeN (.block cs) = sizeNs cs := rfl
      have hlv : lev (.block cs) = levs cs + 1 := rfl
      rw [hsz] at k
      rw [hlv] at hD
      rw [hsz] at sp
      walk_at "wp"
      rw [decide_eq_false (by decide +kernel)]
      walk_at "wp"
      rw [decide_eq_false (by decide +kernel)]
      walk_at "wp"
      -- a block of nodes of the block
      have fin : ∀ (H1 : Hp) (q : Addr) (ys : List V) (ds : List Nd), Go t l H H1 → H1 q = some (.tup ys) → AtL H1 ys (toDs ds) → (∀ c ∈ ds, Wf E16 c) → 1 ≤ ds.length → ds.length ≤ 12 → levs ds ≤ levs cs + 2 → sizeNs ds ≤ 41 * sizeNs cs → ∀ p, H1 p = none → Q (.ref p) (upd H1 p (.tup [.str (Str.ofString "block"), .ref q])) := fun H1 q ys ds G1 hq hA hw d1 d2 d3 d4 p np =>
        k _ (.block ds) _ (.block ds hw d1 d2) ⟨by rw [hlv]; show levs ds + 1 ≤ _; omega, fun _ h => Bool.noConfusion h⟩ d4 (mk_block upd_same ((same_new np) _ _ hq) (hA.same (same_new np))) (G1.new np)
      have tl : (.tup [.str (Str.ofString "block"), .ref b] : HO) = .tup [.str (Str.ofString "block"), .ref b] := rfl
      have third : ch = 3 ∨ ch ≠ 3 := by omega
      have wcs : ∀ ds : List Nd, (∀ c ∈ ds, c ∈ cs) → ∀ c ∈ ds, Wf E16 c := fun ds h c hc => wr_e15 (wc c (h c hc))
      have C2 : ∀ (H1 : Hp), Go t l H0 H1 → H1 b = some (.tup xs) → AtL H1 xs (toDs cs) → True := fun _ _ _ _ => trivial
      refine w_ite (fun e2 => ?_) (fun e2 => ?_)
      · walk_at "wp"
        refine w_ite (fun e2' => ?_) (fun e2' => ?_)
        · walk_at "wp"
          refine w_slA hb fun q H1 s1 hq => ?_
          rw [show cutV xs none (some 1) = xs.take 1 from cut_to _ 1] at hq
          have hb1 := s1 _ _ hb
          refine w_catA hb1 hq (by rw [List.length_take]; omega) fun q2 H2 s2 hq2 => ?_
          have hA := (AtL.app h2 (AtL.take 1 h2)).same (s1.trans s2)
          walk_at "wp"
          refine ⟨szle (by show 2 ≤ _; decide), fun p np => ?_⟩
          have ms : ∀ c ∈ cs ++ cs.take 1, c ∈ cs := fun c hc => by
            rcases List.mem_append.mp hc with h | h
            · exact h
            · exact List.mem_of_mem_take h
          refine fin H2 q2 _ (cs ++ cs.take 1) ((G0.same s1).same s2) hq2 (by rw [toDs_app, toDs_map (cs.take 1), List.map_take, ← toDs_map]; exact hA) (wcs _ ms) (by rw [List.length_append]; omega) (by rw [List.length_append, List.length_take]; omega) ?_ ?_ p np
          · have := levs_sub ms; omega
          · have := sizeNs_take cs 1
            rw [sizeNs_app]; omega
        · walk_at "wp"
          refine w_ite (fun e3 => ?_) (fun e3 => ?_)
          · walk_at "wp"
            refine w_ite (fun e4 => ?_) (fun e4 => ?_)
            · walk_at "wp"
              refine w_slA hb fun q H1 s1 hq => ?_
              rw [cut_m1 xs (by omega)] at hq
              walk_at "wp"
              refine ⟨szle (by show 2 ≤ _; decide), fun p np => ?_⟩
              have ms : ∀ c ∈ cs.take (xs.length - 1), c ∈ cs := fun c hc => List.mem_of_mem_take hc
              refine fin H1 q _ (cs.take (xs.length - 1)) (G0.same s1) hq (by rw [toDs_map, List.map_take, ← toDs_map]; exact (AtL.take _ h2).same s1) (wcs _ ms) (by rw [List.length_take]; omega) (by rw [List.length_take]; omega) ?_ ?_ p np
              · have := levs_sub ms; omega
              · have := sizeNs_take cs (xs.length - 1); omega
            · walk_at "wp"
              refine w_ite (fun e5 => ?_) (fun e5 => ?_)
              · walk_at "wp"
                intro o no
                walk_at "wp"
                refine ⟨o, _, rfl, .of upd_same, ?_⟩
                intro W nW
                have oW : o ≠ W := fun e => by rw [← e, upd_same] at nW; cases nW
                have sm := (same_new (o := .lst xs) no).trans (same_new (o := .lst []) nW)
                have WH : H0 W = none := (same_new (o := .lst xs) no).free nW
                refine lc_it walk_rev (fun i H2 => H2 W = some (.lst (xs.reverse.take i)) ∧ H2 o = some (.lst xs) ∧ Same H0 H2) ⟨upd_same, (upd_ne oW).trans upd_same, sm⟩ (fun _ _ _ h => .of h.2.1) ?_ ?_
                · rintro i x H2 H3 hi ⟨d1, d2, d3⟩ ⟨rfl, hx⟩
                  walk_at "wp"
                  refine ⟨rfl, ?_⟩
                  walk_at "wp"
                  refine ⟨_, d1, szlt (by rw [List.length_take]; omega), ?_, (upd_ne oW).trans d2, fun bb u hbb => ?_⟩
                  · rw [upd_same, List.take_add_one, List.getElem?_reverse hi, hx]
                    rfl
                  · rw [upd_ne (fun e => by rw [e, WH] at hbb; cases hbb)]
                    exact d3 _ _ hbb
                · rintro H2 ⟨d1, d2, d3⟩
                  have er : xs.reverse.take xs.length = xs.reverse := List.take_of_length_le (by rw [List.length_reverse]; exact Nat.le_refl _)
                  rw [er] at d1
                  walk_at "wp"
                  intro q nq
                  have sq := d3.trans (same_new (o := .tup xs.reverse) nq)
                  walk_at "wp"
                  refine ⟨szle (by show 2 ≤ _; decide), fun p np => ?_⟩
                  have ms : ∀ c ∈ cs.reverse, c ∈ cs := fun c hc => List.mem_reverse.mp hc
                  refine fin _ q _ cs.reverse (G0.same sq) upd_same (by rw [toDs_map, List.map_reverse, ← toDs_map]; exact (AtL.rev h2).same sq) (wcs _ ms) (by rw [List.length_reverse]; exact c1) (by rw [List.length_reverse]; exact c2) ?_ ?_ p np
                  · have := levs_sub ms; omega
                  · rw [sizeNs_rev]; omega
              walk_at "wp"
              refine ⟨t, l, _, rfl, G0.T, by omega, fun r1 H1 l1 u1 G1 => ?_⟩
              obtain ⟨j, rfl⟩ := Int.eq_ofNat_of_zero_le l1
              have hj : j < cs.length := by omega
              have hb1 := G0.T.tup G1.e _ _ hb
              have h21 := h2.go G0.T G1
              have G01 := G0.trans G1
              walk_at "wp"
              refine w_slA hb1 fun q H2 s2 hq => ?_
              rw [cut_to] at hq
              have hb2 := s2 _ _ hb1
              have h22 := h21.same s2
              obtain ⟨c, hc⟩ : ∃ c, cs[j]? = some c := ⟨_, List.getElem?_eq_getElem hj⟩
              have hcm := List.mem_of_getElem? hc
              obtain ⟨y, hy1, hy2⟩ := h22.get (i := j) (d := toD c) (by rw [toDs_map, List.getElem?_map, hc]; rfl)
              walk_at "wp"
              refine w_ixT (.of hb2) (atI_nat hy1) ?_
              have G02 := G01.same s2
              have := lev_mem hcm
              walk_at "wp"
              refine ⟨t, l, y, c, rfl, G02.T, hy2, wc c hcm, by omega, fun v3 n3 H3 w3 lv3 sz3 a3 G3 => ?_⟩
              have hq3 := G02.T.tup G3.e _ _ hq
              have hb3 := G02.T.tup G3.e _ _ hb2
              have h23 := h22.go G02.T G3
              have G03 := G02.trans G3
              walk_at "wp"
              refine ⟨szle (by show 1 ≤ _; decide), fun r nr => ?_⟩
              refine w_catA (same_new nr _ _ hq3) upd_same (by rw [List.length_take]; show _ + 1 ≤ _; omega) fun q4 H4 s4 hq4 => ?_
              have sm4 := (same_new (o := .tup [v3]) nr).trans s4
              walk_at "wp"
              have ej : ((j : Nat) : Int) + 1 = ((j + 1 : Nat) : Int) := rfl
              rw [ej]
              refine w_slA (sm4 _ _ hb3) fun q5 H5 s5 hq5 => ?_
              rw [cut_from] at hq5
              refine w_catA (s5 _ _ hq4) hq5 (by rw [List.length_append, List.length_take, List.length_drop]; show _ + 1 + _ ≤ _; omega) fun q6 H6 s6 hq6 => ?_
              have sm6 := sm4.trans (s5.trans s6)
              walk_at "wp"
              refine ⟨szle (by show 2 ≤ _; decide), fun p np => ?_⟩
              have tk := sizeNs_take cs j
              have dr : sizeNs (cs.drop j) = sizeN c + sizeNs (cs.drop (j + 1)) := by
                rw [List.drop_eq_getElem_cons hj]
                have : cs[j] = c := by rw [List.getElem?_eq_getElem hj] at hc; exact Option.some.inj hc
                rw [this]
                rfl
              have szc := sizeNs_mem hcm
              refine fin H6 q6 _ ((cs.take j ++ [n3]) ++ cs.drop (j + 1)) (G03.same sm6) hq6 ?_ ?_ ?_ ?_ ?_ ?_ p np
              · have e1 : toDs ((cs.take j ++ [n3]) ++ cs.drop (j + 1)) = ((toDs cs).take j ++ [toD n3]) ++ (toDs cs).drop (j + 1) := by
                  rw [toDs_app, toDs_app, toDs_map (cs.take j), toDs_map (cs.drop (j + 1)), List.map_take, List.map_drop, ← toDs_map]
                  rfl
                rw [e1]
                exact AtL.app (AtL.app ((AtL.take j h23).same sm6) (.cons (a3.same sm6) .nil)) ((AtL.drop (j + 1) h23).same sm6)
              · intro d hd
                rcases List.mem_append.mp hd with h | h
                · rcases List.mem_append.mp h with h | h
                  · exact wr_e15 (wc d (List.mem_of_mem_take h))
                  · rw [List.mem_singleton.mp h]; exact w3
                · exact wr_e15 (wc d (List.mem_of_mem_drop h))
              · rw [List.length_append, List.length_append]; show 1 ≤ _ + 1 + _; omega
              · rw [List.length_append, List.length_append, List.length_take, List.length_drop]; show _ + 1 + _ ≤ 12; omega
              · refine levs_le fun d hd => ?_
                rcases List.mem_append.mp hd with h | h
                · rcases List.mem_append.mp h with h | h
                  · have := lev_mem (List.mem_of_mem_take h); omega
                  · rw [List.mem_singleton.mp h]; have := lv3.1; omega
                · have := lev_mem (List.mem_of_mem_drop h); omega
              · rw [sizeNs_app, sizeNs_app]
                show sizeNs (cs.take j) + (sizeN n3 + 0) + sizeNs (cs.drop (j + 1)) ≤ _
                omega
          · walk_at "wp"
            refine w_ite (fun e5 => ?_) (fun e5 => ?_)
            · walk_at "wp"
              intro o no
              walk_at "wp"
              refine ⟨o, _, rfl, .of upd_same, ?_⟩
              intro W nW
              have oW : o ≠ W := fun e => by rw [← e, upd_same] at nW; cases nW
              have sm := (same_new (o := .lst xs) no).trans (same_new (o := .lst []) nW)
              have WH : H0 W = none := (same_new (o := .lst xs) no).free nW
              refine lc_it walk_rev (fun i H2 => H2 W = some (.lst (xs.reverse.take i)) ∧ H2 o = some (.lst xs) ∧ Same H0 H2) ⟨upd_same, (upd_ne oW).trans upd_same, sm⟩ (fun _ _ _ h => .of h.2.1) ?_ ?_
              · rintro i x H2 H3 hi ⟨d1, d2, d3⟩ ⟨rfl, hx⟩
                walk_at "wp"
                refine ⟨rfl, ?_⟩
                walk_at "wp"
                refine ⟨_, d1, szlt (by rw [List.length_take]; omega), ?_, (upd_ne oW).trans d2, fun bb u hbb => ?_⟩
                · rw [upd_same, List.take_add_one, List.getElem?_reverse hi, hx]
                  rfl
                · rw [upd_ne (fun e => by rw [e, WH] at hbb; cases hbb)]
                  exact d3 _ _ hbb
              · rintro H2 ⟨d1, d2, d3⟩
                have er : xs.reverse.take xs.length = xs.reverse := List.take_of_length_le (by rw [List.length_reverse]; exact Nat.le_refl _)
                rw [er] at d1
                walk_at "wp"
                intro q nq
                have sq := d3.trans (same_new (o := .tup xs.reverse) nq)
                walk_at "wp"
                refine ⟨szle (by show 2 ≤ _; decide), fun p np => ?_⟩
                have ms : ∀ c ∈ cs.reverse, c ∈ cs := fun c hc => List.mem_reverse.mp hc
                refine fin _ q _ cs.reverse (G0.same sq) upd_same (by rw [toDs_map, List.map_reverse, ← toDs_map]; exact (AtL.rev h2).same sq) (wcs _ ms) (by rw [List.length_reverse]; exact c1) (by rw [List.length_reverse]; exact c2) ?_ ?_ p np
                · have := levs_sub ms; omega
                · rw [sizeNs_rev]; omega
            walk_at "wp"
            refine ⟨t, l, _, rfl, G0.T, by omega, fun r1 H1 l1 u1 G1 => ?_⟩
            obtain ⟨j, rfl⟩ := Int.eq_ofNat_of_zero_le l1
            have hj : j < cs.length := by omega
            have hb1 := G0.T.tup G1.e _ _ hb
            have h21 := h2.go G0.T G1
            have G01 := G0.trans G1
            walk_at "wp"
            refine w_slA hb1 fun q H2 s2 hq => ?_
            rw [cut_to] at hq
            have hb2 := s2 _ _ hb1
            have h22 := h21.same s2
            obtain ⟨c, hc⟩ : ∃ c, cs[j]? = some c := ⟨_, List.getElem?_eq_getElem hj⟩
            have hcm := List.mem_of_getElem? hc
            obtain ⟨y, hy1, hy2⟩ := h22.get (i := j) (d := toD c) (by rw [toDs_map, List.getElem?_map, hc]; rfl)
            walk_at "wp"
            refine w_ixT (.of hb2) (atI_nat hy1) ?_
            have G02 := G01.same s2
            have := lev_mem hcm
            walk_at "wp"
            refine ⟨t, l, y, c, rfl, G02.T, hy2, wc c hcm, by omega, fun v3 n3 H3 w3 lv3 sz3 a3 G3 => ?_⟩
            have hq3 := G02.T.tup G3.e _ _ hq
            have hb3 := G02.T.tup G3.e _ _ hb2
            have h23 := h22.go G02.T G3
            have G03 := G02.trans G3
            walk_at "wp"
            refine ⟨szle (by show 1 ≤ _; decide), fun r nr => ?_⟩
            refine w_catA (same_new nr _ _ hq3) upd_same (by rw [List.length_take]; show _ + 1 ≤ _; omega) fun q4 H4 s4 hq4 => ?_
            have sm4 := (same_new (o := .tup [v3]) nr).trans s4
            walk_at "wp"
            have ej : ((j : Nat) : Int) + 1 = ((j + 1 : Nat) : Int) := rfl
            rw [ej]
            refine w_slA (sm4 _ _ hb3) fun q5 H5 s5 hq5 => ?_
            rw [cut_from] at hq5
            refine w_catA (s5 _ _ hq4) hq5 (by rw [List.length_append, List.length_take, List.length_drop]; show _ + 1 + _ ≤ _; omega) fun q6 H6 s6 hq6 => ?_
            have sm6 := sm4.trans (s5.trans s6)
            walk_at "wp"
            refine ⟨szle (by show 2 ≤ _; decide), fun p np => ?_⟩
            have tk := sizeNs_take cs j
            have dr : sizeNs (cs.drop j) = sizeN c + sizeNs (cs.drop (j + 1)) := by
              rw [List.drop_eq_getElem_cons hj]
              have : cs[j] = c := by rw [List.getElem?_eq_getElem hj] at hc; exact Option.some.inj hc
              rw [this]
              rfl
            have szc := sizeNs_mem hcm
            refine fin H6 q6 _ ((cs.take j ++ [n3]) ++ cs.drop (j + 1)) (G03.same sm6) hq6 ?_ ?_ ?_ ?_ ?_ ?_ p np
            · have e1 : toDs ((cs.take j ++ [n3]) ++ cs.drop (j + 1)) = ((toDs cs).take j ++ [toD n3]) ++ (toDs cs).drop (j + 1) := by
                rw [toDs_app, toDs_app, toDs_map (cs.take j), toDs_map (cs.drop (j + 1)), List.map_take, List.map_drop, ← toDs_map]
                rfl
              rw [e1]
              exact AtL.app (AtL.app ((AtL.take j h23).same sm6) (.cons (a3.same sm6) .nil)) ((AtL.drop (j + 1) h23).same sm6)
            · intro d hd
              rcases List.mem_append.mp hd with h | h
              · rcases List.mem_append.mp h with h | h
                · exact wr_e15 (wc d (List.mem_of_mem_take h))
                · rw [List.mem_singleton.mp h]; exact w3
              · exact wr_e15 (wc d (List.mem_of_mem_drop h))
            · rw [List.length_append, List.length_append]; show 1 ≤ _ + 1 + _; omega
            · rw [List.length_append, List.length_append, List.length_take, List.length_drop]; show _ + 1 + _ ≤ 12; omega
            · refine levs_le fun d hd => ?_
              rcases List.mem_append.mp hd with h | h
              · rcases List.mem_append.mp h with h | h
                · have := lev_mem (List.mem_of_mem_take h); omega
                · rw [List.mem_singleton.mp h]; have := lv3.1; omega
              · have := lev_mem (List.mem_of_mem_drop h); omega
            · rw [sizeNs_app, sizeNs_app]
              show sizeNs (cs.take j) + (sizeN n3 + 0) + sizeNs (cs.drop (j + 1)) ≤ _
              omega
      · walk_at "wp"
        refine w_ite (fun e3 => ?_) (fun e3 => ?_)
        · walk_at "wp"
          refine w_ite (fun e4 => ?_) (fun e4 => ?_)
          · walk_at "wp"
            refine w_slA hb fun q H1 s1 hq => ?_
            rw [cut_m1 xs (by omega)] at hq
            walk_at "wp"
            refine ⟨szle (by show 2 ≤ _; decide), fun p np => ?_⟩
            have ms : ∀ c ∈ cs.take (xs.length - 1), c ∈ cs := fun c hc => List.mem_of_mem_take hc
            refine fin H1 q _ (cs.take (xs.length - 1)) (G0.same s1) hq (by rw [toDs_map, List.map_take, ← toDs_map]; exact (AtL.take _ h2).same s1) (wcs _ ms) (by rw [List.length_take]; omega) (by rw [List.length_take]; omega) ?_ ?_ p np
            · have := levs_sub ms; omega
            · have := sizeNs_take cs (xs.length - 1); omega
          · walk_at "wp"
            refine w_ite (fun e5 => ?_) (fun e5 => ?_)
            · walk_at "wp"
              intro o no
              walk_at "wp"
              refine ⟨o, _, rfl, .of upd_same, ?_⟩
              intro W nW
              have oW : o ≠ W := fun e => by rw [← e, upd_same] at nW; cases nW
              have sm := (same_new (o := .lst xs) no).trans (same_new (o := .lst []) nW)
              have WH : H0 W = none := (same_new (o := .lst xs) no).free nW
              refine lc_it walk_rev (fun i H2 => H2 W = some (.lst (xs.reverse.take i)) ∧ H2 o = some (.lst xs) ∧ Same H0 H2) ⟨upd_same, (upd_ne oW).trans upd_same, sm⟩ (fun _ _ _ h => .of h.2.1) ?_ ?_
              · rintro i x H2 H3 hi ⟨d1, d2, d3⟩ ⟨rfl, hx⟩
                walk_at "wp"
                refine ⟨rfl, ?_⟩
                walk_at "wp"
                refine ⟨_, d1, szlt (by rw [List.length_take]; omega), ?_, (upd_ne oW).trans d2, fun bb u hbb => ?_⟩
                · rw [upd_same, List.take_add_one, List.getElem?_reverse hi, hx]
                  rfl
                · rw [upd_ne (fun e => by rw [e, WH] at hbb; cases hbb)]
                  exact d3 _ _ hbb
              · rintro H2 ⟨d1, d2, d3⟩
                have er : xs.reverse.take xs.length = xs.reverse := List.take_of_length_le (by rw [List.length_reverse]; exact Nat.le_refl _)
                rw [er] at d1
                walk_at "wp"
                intro q nq
                have sq := d3.trans (same_new (o := .tup xs.reverse) nq)
                walk_at "wp"
                refine ⟨szle (by show 2 ≤ _; decide), fun p np => ?_⟩
                have ms : ∀ c ∈ cs.reverse, c ∈ cs := fun c hc => List.mem_reverse.mp hc
                refine fin _ q _ cs.reverse (G0.same sq) upd_same (by rw [toDs_map, List.map_reverse, ← toDs_map]; exact (AtL.rev h2).same sq) (wcs _ ms) (by rw [List.length_reverse]; exact c1) (by rw [List.length_reverse]; exact c2) ?_ ?_ p np
                · have := levs_sub ms; omega
                · rw [sizeNs_rev]; omega
            walk_at "wp"
            refine ⟨t, l, _, rfl, G0.T, by omega, fun r1 H1 l1 u1 G1 => ?_⟩
            obtain ⟨j, rfl⟩ := Int.eq_ofNat_of_zero_le l1
            have hj : j < cs.length := by omega
            have hb1 := G0.T.tup G1.e _ _ hb
            have h21 := h2.go G0.T G1
            have G01 := G0.trans G1
            walk_at "wp"
            refine w_slA hb1 fun q H2 s2 hq => ?_
            rw [cut_to] at hq
            have hb2 := s2 _ _ hb1
            have h22 := h21.same s2
            obtain ⟨c, hc⟩ : ∃ c, cs[j]? = some c := ⟨_, List.getElem?_eq_getElem hj⟩
            have hcm := List.mem_of_getElem? hc
            obtain ⟨y, hy1, hy2⟩ := h22.get (i := j) (d := toD c) (by rw [toDs_map, List.getElem?_map, hc]; rfl)
            walk_at "wp"
            refine w_ixT (.of hb2) (atI_nat hy1) ?_
            have G02 := G01.same s2
            have := lev_mem hcm
            walk_at "wp"
            refine ⟨t, l, y, c, rfl, G02.T, hy2, wc c hcm, by omega, fun v3 n3 H3 w3 lv3 sz3 a3 G3 => ?_⟩
            have hq3 := G02.T.tup G3.e _ _ hq
            have hb3 := G02.T.tup G3.e _ _ hb2
            have h23 := h22.go G02.T G3
            have G03 := G02.trans G3
            walk_at "wp"
            refine ⟨szle (by show 1 ≤ _; decide), fun r nr => ?_⟩
            refine w_catA (same_new nr _ _ hq3) upd_same (by rw [List.length_take]; show _ + 1 ≤ _; omega) fun q4 H4 s4 hq4 => ?_
            have sm4 := (same_new (o := .tup [v3]) nr).trans s4
            walk_at "wp"
            have ej : ((j : Nat) : Int) + 1 = ((j + 1 : Nat) : Int) := rfl
            rw [ej]
            refine w_slA (sm4 _ _ hb3) fun q5 H5 s5 hq5 => ?_
            rw [cut_from] at hq5
            refine w_catA (s5 _ _ hq4) hq5 (by rw [List.length_append, List.length_take, List.length_drop]; show _ + 1 + _ ≤ _; omega) fun q6 H6 s6 hq6 => ?_
            have sm6 := sm4.trans (s5.trans s6)
            walk_at "wp"
            refine ⟨szle (by show 2 ≤ _; decide), fun p np => ?_⟩
            have tk := sizeNs_take cs j
            have dr : sizeNs (cs.drop j) = sizeN c + sizeNs (cs.drop (j + 1)) := by
              rw [List.drop_eq_getElem_cons hj]
              have : cs[j] = c := by rw [List.getElem?_eq_getElem hj] at hc; exact Option.some.inj hc
              rw [this]
              rfl
            have szc := sizeNs_mem hcm
            refine fin H6 q6 _ ((cs.take j ++ [n3]) ++ cs.drop (j + 1)) (G03.same sm6) hq6 ?_ ?_ ?_ ?_ ?_ ?_ p np
            · have e1 : toDs ((cs.take j ++ [n3]) ++ cs.drop (j + 1)) = ((toDs cs).take j ++ [toD n3]) ++ (toDs cs).drop (j + 1) := by
                rw [toDs_app, toDs_app, toDs_map (cs.take j), toDs_map (cs.drop (j + 1)), List.map_take, List.map_drop, ← toDs_map]
                rfl
              rw [e1]
              exact AtL.app (AtL.app ((AtL.take j h23).same sm6) (.cons (a3.same sm6) .nil)) ((AtL.drop (j + 1) h23).same sm6)
            · intro d hd
              rcases List.mem_append.mp hd with h | h
              · rcases List.mem_append.mp h with h | h
                · exact wr_e15 (wc d (List.mem_of_mem_take h))
                · rw [List.mem_singleton.mp h]; exact w3
              · exact wr_e15 (wc d (List.mem_of_mem_drop h))
            · rw [List.length_append, List.length_append]; show 1 ≤ _ + 1 + _; omega
            · rw [List.length_append, List.length_append, List.length_take, List.length_drop]; show _ + 1 + _ ≤ 12; omega
            · refine levs_le fun d hd => ?_
              rcases List.mem_append.mp hd with h | h
              · rcases List.mem_append.mp h with h | h
                · have := lev_mem (List.mem_of_mem_take h); omega
                · rw [List.mem_singleton.mp h]; have := lv3.1; omega
              · have := lev_mem (List.mem_of_mem_drop h); omega
            · rw [sizeNs_app, sizeNs_app]
              show sizeNs (cs.take j) + (sizeN n3 + 0) + sizeNs (cs.drop (j + 1)) ≤ _
              omega
        · walk_at "wp"
          refine w_ite (fun e5 => ?_) (fun e5 => ?_)
          · walk_at "wp"
            intro o no
            walk_at "wp"
            refine ⟨o, _, rfl, .of upd_same, ?_⟩
            intro W nW
            have oW : o ≠ W := fun e => by rw [← e, upd_same] at nW; cases nW
            have sm := (same_new (o := .lst xs) no).trans (same_new (o := .lst []) nW)
            have WH : H0 W = none := (same_new (o := .lst xs) no).free nW
            refine lc_it walk_rev (fun i H2 => H2 W = some (.lst (xs.reverse.take i)) ∧ H2 o = some (.lst xs) ∧ Same H0 H2) ⟨upd_same, (upd_ne oW).trans upd_same, sm⟩ (fun _ _ _ h => .of h.2.1) ?_ ?_
            · rintro i x H2 H3 hi ⟨d1, d2, d3⟩ ⟨rfl, hx⟩
              walk_at "wp"
              refine ⟨rfl, ?_⟩
              walk_at "wp"
              refine ⟨_, d1, szlt (by rw [List.length_take]; omega), ?_, (upd_ne oW).trans d2, fun bb u hbb => ?_⟩
              · rw [upd_same, List.take_add_one, List.getElem?_reverse hi, hx]
                rfl
              · rw [upd_ne (fun e => by rw [e, WH] at hbb; cases hbb)]
                exact d3 _ _ hbb
            · rintro H2 ⟨d1, d2, d3⟩
              have er : xs.reverse.take xs.length = xs.reverse := List.take_of_length_le (by rw [List.length_reverse]; exact Nat.le_refl _)
              rw [er] at d1
              walk_at "wp"
              intro q nq
              have sq := d3.trans (same_new (o := .tup xs.reverse) nq)
              walk_at "wp"
              refine ⟨szle (by show 2 ≤ _; decide), fun p np => ?_⟩
              have ms : ∀ c ∈ cs.reverse, c ∈ cs := fun c hc => List.mem_reverse.mp hc
              refine fin _ q _ cs.reverse (G0.same sq) upd_same (by rw [toDs_map, List.map_reverse, ← toDs_map]; exact (AtL.rev h2).same sq) (wcs _ ms) (by rw [List.length_reverse]; exact c1) (by rw [List.length_reverse]; exact c2) ?_ ?_ p np
              · have := levs_sub ms; omega
              · rw [sizeNs_rev]; omega
          walk_at "wp"
          refine ⟨t, l, _, rfl, G0.T, by omega, fun r1 H1 l1 u1 G1 => ?_⟩
          obtain ⟨j, rfl⟩ := Int.eq_ofNat_of_zero_le l1
          have hj : j < cs.length := by omega
          have hb1 := G0.T.tup G1.e _ _ hb
          have h21 := h2.go G0.T G1
          have G01 := G0.trans G1
          walk_at "wp"
          refine w_slA hb1 fun q H2 s2 hq => ?_
          rw [cut_to] at hq
          have hb2 := s2 _ _ hb1
          have h22 := h21.same s2
          obtain ⟨c, hc⟩ : ∃ c, cs[j]? = some c := ⟨_, List.getElem?_eq_getElem hj⟩
          have hcm := List.mem_of_getElem? hc
          obtain ⟨y, hy1, hy2⟩ := h22.get (i := j) (d := toD c) (by rw [toDs_map, List.getElem?_map, hc]; rfl)
          walk_at "wp"
          refine w_ixT (.of hb2) (atI_nat hy1) ?_
          have G02 := G01.same s2
          have := lev_mem hcm
          walk_at "wp"
          refine ⟨t, l, y, c, rfl, G02.T, hy2, wc c hcm, by omega, fun v3 n3 H3 w3 lv3 sz3 a3 G3 => ?_⟩
          have hq3 := G02.T.tup G3.e _ _ hq
          have hb3 := G02.T.tup G3.e _ _ hb2
          have h23 := h22.go G02.T G3
          have G03 := G02.trans G3
          walk_at "wp"
          refine ⟨szle (by show 1 ≤ _; decide), fun r nr => ?_⟩
          refine w_catA (same_new nr _ _ hq3) upd_same (by rw [List.length_take]; show _ + 1 ≤ _; omega) fun q4 H4 s4 hq4 => ?_
          have sm4 := (same_new (o := .tup [v3]) nr).trans s4
          walk_at "wp"
          have ej : ((j : Nat) : Int) + 1 = ((j + 1 : Nat) : Int) := rfl
          rw [ej]
          refine w_slA (sm4 _ _ hb3) fun q5 H5 s5 hq5 => ?_
          rw [cut_from] at hq5
          refine w_catA (s5 _ _ hq4) hq5 (by rw [List.length_append, List.length_take, List.length_drop]; show _ + 1 + _ ≤ _; omega) fun q6 H6 s6 hq6 => ?_
          have sm6 := sm4.trans (s5.trans s6)
          walk_at "wp"
          refine ⟨szle (by show 2 ≤ _; decide), fun p np => ?_⟩
          have tk := sizeNs_take cs j
          have dr : sizeNs (cs.drop j) = sizeN c + sizeNs (cs.drop (j + 1)) := by
            rw [List.drop_eq_getElem_cons hj]
            have : cs[j] = c := by rw [List.getElem?_eq_getElem hj] at hc; exact Option.some.inj hc
            rw [this]
            rfl
          have szc := sizeNs_mem hcm
          refine fin H6 q6 _ ((cs.take j ++ [n3]) ++ cs.drop (j + 1)) (G03.same sm6) hq6 ?_ ?_ ?_ ?_ ?_ ?_ p np
          · have e1 : toDs ((cs.take j ++ [n3]) ++ cs.drop (j + 1)) = ((toDs cs).take j ++ [toD n3]) ++ (toDs cs).drop (j + 1) := by
              rw [toDs_app, toDs_app, toDs_map (cs.take j), toDs_map (cs.drop (j + 1)), List.map_take, List.map_drop, ← toDs_map]
              rfl
            rw [e1]
            exact AtL.app (AtL.app ((AtL.take j h23).same sm6) (.cons (a3.same sm6) .nil)) ((AtL.drop (j + 1) h23).same sm6)
          · intro d hd
            rcases List.mem_append.mp hd with h | h
            · rcases List.mem_append.mp h with h | h
              · exact wr_e15 (wc d (List.mem_of_mem_take h))
              · rw [List.mem_singleton.mp h]; exact w3
            · exact wr_e15 (wc d (List.mem_of_mem_drop h))
          · rw [List.length_append, List.length_append]; show 1 ≤ _ + 1 + _; omega
          · rw [List.length_append, List.length_append, List.length_take, List.length_drop]; show _ + 1 + _ ≤ 12; omega
          · refine levs_le fun d hd => ?_
            rcases List.mem_append.mp hd with h | h
            · rcases List.mem_append.mp h with h | h
              · have := lev_mem (List.mem_of_mem_take h); omega
              · rw [List.mem_singleton.mp h]; have := lv3.1; omega
            · have := lev_mem (List.mem_of_mem_drop h); omega
          · rw [sizeNs_app, sizeNs_app]
            show sizeNs (cs.take j) + (sizeN n3 + 0) + sizeNs (cs.drop (j + 1)) ≤ _
            omega
theorem cl_nn {f : Addr} {fd : FuncData} (F : Fun K "_law_near_node" "_law_near_node" s__law_near_node f fd) (T : Txt mg) (g : mg "_law_near_node" = some (.ref f)) (C__law_draw : Cl P w K mg base 1 "_law_draw" ["tape", "many"] spDraw) (C__law_near : Cl P w K mg base 6 "_law_near" ["tape", "element"] spNear) : ∀ D, Cl P w K mg base (6 + D) "_law_near_node" ["tape", "node"] (spNn D) := by
  have b : Binds K fd ["tape", "node"] [] := F.binds (ps := ["tape", "node"]) fun _ _ _ _ _ _ us hl => match us, hl with | [_, _], _ => rfl
  intro D
  induction D with
  | zero => exact cl_false F g b fun vs H Q E ⟨_, _, _, _, _, _, _, _, h, _⟩ => absurd h (Nat.not_lt_zero _)
  | succ D ih => exact ⟨f, fd, ok_nn F T C__law_draw C__law_near ih, g, F.kp, b⟩
open Dm Nm
/-! ### groups of equal nodes and their items -/
def flat (gs : List (Nd × Nat)) : List Nd := gs.flatMap fun g => List.replicate g.2 g.1
def itm (g : Nd × Nat) : Nd := if g.2 > 1 then .run g.1 g.2 else g.1
structure Gr (gs : List (Nd × Nat)) : Prop where
  pos : ∀ g ∈ gs, 1 ≤ g.2
  nb : ∀ i a b, gs[i]? = some a → gs[i + 1]? = some b → a.1 ≠ b.1
theorem flat_app (xs ys : List (Nd × Nat)) : flat (xs ++ ys) = flat xs ++ flat ys := List.flatMap_append
theorem flat_cons (g : Nd × Nat) (ys : List (Nd × Nat)) : flat (g :: ys) = List.replicate g.2 g.1 ++ flat ys := rfl
theorem flat_one (g : Nd × Nat) : flat [g] = List.replicate g.2 g.1 := List.append_nil _
theorem flat_mid {done rest : List (Nd × Nat)} {g : Nd × Nat} {j : Nat} (h1 : (flat done).length ≤ j) (h2 : j < (flat done).length + g.2) : (flat (done ++ g :: rest))[j]? = some g.1 := by
  rw [flat_app, List.getElem?_append_right h1, flat_cons, List.getElem?_append_left (by rw [List.length_replicate]; omega), List.getElem?_replicate, if_pos (by omega)]
theorem flat_len (done rest : List (Nd × Nat)) (g : Nd × Nat) : (flat (done ++ g :: rest)).length = (flat done).length + g.2 + (flat rest).length := by
  rw [flat_app, List.length_append, flat_cons, List.length_append, List.length_replicate, Nat.add_assoc]
theorem flat_pos {g : Nd × Nat} {ys : List (Nd × Nat)} (h : 1 ≤ g.2) : 1 ≤ (flat (g :: ys)).length := by
  rw [flat_cons, List.length_append, List.length_replicate]
  omega
theorem flat_snoc (done : List (Nd × Nat)) (g : Nd × Nat) : (flat (done ++ [g])).length = (flat done).length + g.2 := by
  rw [flat_app, List.length_append, flat_one, List.length_replicate]
theorem flat_last {gs : List (Nd × Nat)} {g : Nd × Nat} (h : 1 ≤ g.2) : (flat (gs ++ [g]))[(flat (gs ++ [g])).length - 1]? = some g.1 :=
  flat_mid (rest := []) (by rw [flat_snoc]; omega) (by rw [flat_snoc]; omega)
theorem flat_mem {gs : List (Nd × Nat)} {n : Nd} (h : n ∈ flat gs) : ∃ g ∈ gs, n = g.1 := by
  obtain ⟨g, hg, hn⟩ := List.mem_flatMap.mp h
  exact ⟨g, hg, List.eq_of_mem_replicate hn⟩
theorem Gr.add {gs : List (Nd × Nat)} {g : Nd × Nat} (G : Gr gs) (h : 1 ≤ g.2) (hne : ∀ a, gs[gs.length - 1]? = some a → a.1 ≠ g.1) : Gr (gs ++ [g]) := by
  refine ⟨fun c hc => ?_, fun i a b h1 h2 => ?_⟩
  · rcases List.mem_append.mp hc with hc | hc
    · exact G.pos c hc
    · rw [List.mem_singleton.mp hc]
      exact h
  · have hl := (List.getElem?_eq_some_iff.mp h2).1
    rw [List.length_append, List.length_singleton] at hl
    rw [List.getElem?_append_left (by omega)] at h1
    by_cases e : i + 1 < gs.length
    · rw [List.getElem?_append_left e] at h2
      exact G.nb i a b h1 h2
    · rw [List.getElem?_append_right (by omega)] at h2
      have e1 : i + 1 - gs.length = 0 := by omega
      rw [e1] at h2
      have e2 : g = b := Option.some.inj h2
      subst e2
      have e3 : i = gs.length - 1 := by omega
      rw [e3] at h1
      exact hne a h1
theorem AtL.snoc {H : Hp} : ∀ {ds : List PyData} {xs : List V} {d : PyData}, AtL H xs (ds ++ [d]) → ∃ ys y, xs = ys ++ [y] ∧ AtL H ys ds ∧ At H y d
  | [], _, _, .cons a .nil => ⟨[], _, rfl, .nil, a⟩
  | _ :: ds, _, _, .cons a b => by
    obtain ⟨ys, y, e, h1, h2⟩ := AtL.snoc b
    exact ⟨_ :: ys, y, by rw [e]; rfl, .cons a h1, h2⟩
theorem w_ifK {c : TT} {t u : TS} {D : Ends} {σ : L2.St} {H : Hp} (R : L2.St → Hp → Prop) (h2 : ∀ σ H', R σ H' → D.nx σ H') (h : ∀ D' : Ends, D'.rt = D.rt → (∀ σ H', R σ H' → D'.nx σ H') → tIfS c t u D' σ H) : tIfS c t u D σ H := h D rfl h2
theorem w_slL {K : PySem.W.Frag} {H : Hp} {Q : VK} {a : Addr} {xs : List V} {lo hi : Option Int} (hx : H a = some (.lst xs)) (q : ∀ p, H p = none → Q (.ref p) (upd H p (.lst (cutV xs lo hi)))) : rSlL K (.ref a) lo hi H Q := ⟨a, xs, rfl, .of hx, q⟩
theorem sIx_neg (n d k : Nat) (h : 1 ≤ k) : HT.sIx n d (some (-(k : Int))) = n - k := by
  show (if (-(k : Int)) < 0 then (-(k : Int) + (n : Int)).toNat else min (-(k : Int)).toNat n) = n - k
  rw [if_pos (by omega)]
  omega
theorem cut_tm1 (xs : List V) (v : V) : cutV (xs ++ [v]) none (some (-1)) = xs := by
  unfold cutV
  rw [HT.sIx_none, show HT.sIx (xs ++ [v]).length (xs ++ [v]).length (some (-1)) = (xs ++ [v]).length - 1 from sIx_neg _ _ 1 (by decide), List.length_append, List.length_singleton, List.drop_zero, Nat.add_sub_cancel, Nat.sub_zero, List.take_append_of_le_length (Nat.le_refl _), List.take_length]
theorem cut_em1 (xs : List V) (v : V) : cutV (xs ++ [v]) (some (-1)) none = [v] := by
  unfold cutV
  rw [HT.sIx_none, show HT.sIx (xs ++ [v]).length 0 (some (-1)) = (xs ++ [v]).length - 1 from sIx_neg _ _ 1 (by decide), List.length_append, List.length_singleton, Nat.add_sub_cancel, List.drop_append_of_le_length (Nat.le_refl _), List.drop_length]
  have : xs.length + 1 - xs.length = 1 := by omega
  rw [this]
  rfl
theorem cut_m2 (xs : List V) (v : V) : cutV (xs ++ [v]) (some (-2)) (some (-1)) = (xs[xs.length - 1]?).toList := by
  unfold cutV
  rw [show HT.sIx (xs ++ [v]).length 0 (some (-2)) = (xs ++ [v]).length - 2 from sIx_neg _ _ 2 (by decide), show HT.sIx (xs ++ [v]).length (xs ++ [v]).length (some (-1)) = (xs ++ [v]).length - 1 from sIx_neg _ _ 1 (by decide), List.length_append, List.length_singleton]
  cases hx : xs.length with
  | zero =>
    have : xs = [] := List.eq_nil_of_length_eq_zero hx
    subst this
    rfl
  | succ k =>
    have e1 : k + 1 + 1 - 2 = k := by omega
    have e2 : k + 1 + 1 - 1 - k = 1 := by omega
    rw [e1, e2, Nat.add_sub_cancel, List.drop_append_of_le_length (by omega), List.drop_eq_getElem_cons (by omega), List.getElem?_eq_getElem (by omega)]
    rfl
open Dm Nm
def spItem : Sp := fun vs H Q _ => ∃ (v : V) (n : Nd) (k : Nat), vs = [v, .int (k : Int)] ∧ At H v (toD n) ∧ ∀ (v' : V) (H' : Hp), Same H H' → At H' v' (toD (itm (n, k))) → Q v' H'
abbrev s_item_of : Stmt := top 1
theorem c_item_of : FnScope ["node", "copies"] ["node", "copies"] (defScope s_item_of) := ⟨rfl, rfl, rfl, by decide +kernel, rfl, by decide +kernel, by decide +kernel⟩

theorem ok_item {f : Addr} {fd : FuncData} (F : Fun K "item_of" "item_of" s_item_of f fd) (T : Txt mg) : FnOk P w K mg base CX0 1 f fd ["node", "copies"] spItem := by
  refine F.ok c_item_of (fun vs H Q E h => ?_) (fun cdv A outer s H vs Q E hr h => ?_)
  · obtain ⟨v, n, k, rfl, _⟩ := h
    rfl
  · obtain ⟨v, n, c, rfl, ha, k⟩ := h
    refine ⟨_, (pss_one (ps_ret (pe_ifExp (pt_cmpR op_gt (pv 1) pe_int (nomark _)) (pe_tup (pa_cons pe_str (pa_cons (pv 0) (pa_cons (pv 1) pa_nil)))) (pv 0)))), ?_⟩
    walk_at "wp"
    refine w_ite (fun e => ?_) (fun e => ?_)
    · walk_at "wp"
      refine ⟨szle (by show 3 ≤ _; decide), fun p np => ?_⟩
      have sp := same_new (o := .tup [.str (Str.ofString "run"), v, .int (c : Int)]) np
      refine k _ _ sp ?_
      unfold itm
      rw [if_pos (show c > 1 by omega)]
      exact mk_run upd_same (ha.same sp)
    · walk_at "wp"
      refine k _ _ (Same.refl H) ?_
      unfold itm
      rw [if_neg (show ¬ c > 1 by omega)]
      exact ha
def Nok (n : Nd) : Prop := Wf El n ∧ lev n ≤ 20
theorem Nok.pl {n : Nd} (h : Nok n) : Pl (toD n) := toD_pl (fun e he => el_pl he) h.1
theorem Nok.dep {n : Nd} (h : Nok n) : Dep 50 (toD n) := (toD_dep (fun e he => el_dep he 0) h.1).mono (by have := h.2; omega)
def spIof : Sp := fun vs H Q _ => ∃ (p : Addr) (xs : List V) (gs : List (Nd × Nat)), vs = [.ref p] ∧ H p = some (.tup xs) ∧ AtL H xs (toDs (flat gs)) ∧ Gr gs ∧ (∀ g ∈ gs, Nok g.1) ∧ (flat gs).length ≤ 90000 ∧ gs.length ≤ 90000 ∧
  ∀ (q : Addr) (ys : List V) (H' : Hp), Same H H' → H' q = some (.tup ys) → AtL H' ys (toDs (gs.map itm)) → Q (.ref q) H'
abbrev s_items_of : Stmt := top 2
theorem c_items_of : FnScope ["nodes", "items", "start", "place"] ["nodes"] (defScope s_items_of) := ⟨rfl, rfl, rfl, by decide +kernel, rfl, by decide +kernel, by decide +kernel⟩

theorem ok_iof {f : Addr} {fd : FuncData} (F : Fun K "items_of" "items_of" s_items_of f fd) (T : Txt mg) (C_item_of : Cl P w K mg base 1 "item_of" ["node", "copies"] spItem) : FnOk P w K mg base CX0 2 f fd ["nodes"] spIof := by
  refine F.ok c_items_of (fun vs H Q E h => ?_) (fun cdv A outer s H vs Q E hr h => ?_)
  · obtain ⟨p, xs, gs, rfl, _⟩ := h
    rfl
  · obtain ⟨p, xs, gs, rfl, hp, hA, G, hN, l1, l2, k⟩ := h
    have xl := hA.len
    rw [toDs_len] at xl
    refine ⟨_, (pss_cons (ps_set (i := 1) c_items_of.nd rfl (Or.inl rfl) (pe_lst pa_nil))
      (pss_cons (ps_set (i := 2) c_items_of.nd rfl (Or.inl rfl) pe_int)
      (pss_cons (ps_for PassesOwn.never rfl (pi_range2 (by rfl) T.n_range (pa_cons pe_int (pa_cons (pe_op op_add (pe_callB call_len_seq (by rfl) T.n_len (by decide +kernel) (pa_cons (pv 0) pa_nil)) pe_int) pa_nil))) (pg_name (i := 3) c_items_of.nd rfl (Or.inl rfl)) (pss_one (ps_if (PW.pt (pw_or (pt_cmpR op_eq (pv 3) (pe_callB call_len_seq (by rfl) T.n_len (by decide +kernel) (pa_cons (pv 0) pa_nil)) (nomark _)) (pw_or1 (pt_cmpR (op_neD (hu64 hr)) (pe_ix ix_tup (pv 0) (pv 3) (fun _ _ => rfl)) (pe_ix ix_tup (pv 0) (pv 2) (fun _ _ => rfl)) (nomark _))))) (pss_cons (ps_expr (pe_bm PySem.F.plainAttrs_list PySem.F.slot_list_append PySem.F.type_list_append mt_append (pv 1) (pa_cons (pe_cl C_item_of (hr.mono (by omega)) (by rfl) (pa_cons (pe_ix ix_tup (pv 0) (pv 2) (fun _ _ => rfl)) (pa_cons (pe_op op_sub (pv 3) (pv 2)) pa_nil))) pa_nil)))
      (pss_one (ps_set (i := 2) c_items_of.nd rfl (Or.inl rfl) (pv 3)))) pss_nil)))
      (pss_one (ps_ret (pe_callTy call_tuple_of (by rfl) T.n_tuple (by decide +kernel) (pa_cons (pv 1) pa_nil))))))), ?_⟩
    walk_at "wp"
    refine ⟨Nat.zero_le _, fun o no => ?_⟩
    have so := same_new (o := .lst []) no
    have po : p ≠ o := fun e => by rw [← e, hp] at no; cases no
    walk_at "wp"
    refine ⟨⟨by decide, by decide, by omega, by omega⟩, ?_⟩
    have en : (((xs.length : Nat) : Int) + 1 - 1).toNat = xs.length := by omega
    rw [en]
    refine for_range (lo := 1) (n := xs.length) (fun i σ H1 => ∃ (v : Option V) (done : List (Nd × Nat)) (ys : List V) (st : Nat), σ = [some (.ref p), some (.ref o), some (.int (st : Int)), v] ∧ H1 o = some (.lst ys) ∧ AtL H1 ys (toDs (done.map itm)) ∧ Same H H1 ∧ ((∃ g rest, gs = done ++ g :: rest ∧ st = (flat done).length ∧ st ≤ i ∧ i < st + g.2) ∨ (i = xs.length ∧ gs = done))) ⟨none, [], [], 0, rfl, upd_same, .nil, so, ?_⟩ ?_ ?_
    · cases gs with
      | nil => exact .inr ⟨by rw [xl]; rfl, rfl⟩
      | cons g rest => exact .inl ⟨g, rest, rfl, rfl, Nat.le_refl _, by have := G.pos g (List.mem_cons_self ..); omega⟩
    · rintro i σ H1 hi ⟨v, done, ys, st, rfl, ho, hY, sm, (⟨g, rest, eg, est, b1, b2⟩ | ⟨e, _⟩)⟩
      · have hp1 := sm _ _ hp
        have hA1 := hA.same sm
        have hf := flat_len done rest g
        rw [← eg, ← xl] at hf
        have gm : g ∈ gs := by rw [eg]; exact List.mem_append_right _ (List.mem_cons_self ..)
        have hst : (flat gs)[st]? = some g.1 := by rw [eg]; exact flat_mid (by omega) (by omega)
        obtain ⟨y, hy, ay⟩ := hA1.get (i := st) (d := toD g.1) (by rw [toDs_map, List.getElem?_map, hst]; rfl)
        have dl : done.length ≤ 90000 := by rw [eg, List.length_append] at l2; omega
        have yl := hY.len
        rw [toDs_len, List.length_map] at yl
        have add : (1 : Int) + (i : Int) = ((i + 1 : Nat) : Int) := by omega
        have hsz : ys.length < sizeLine := szlt (by omega)
        have app : i + 1 = st + g.2 → ∀ (v' : V) (H2 : Hp), Same H1 H2 → At H2 v' (toD (itm g)) → ∃ (v : Option V) (done : List (Nd × Nat)) (zs : List V) (st : Nat), [some (.ref p), some (.ref o), some (.int ((i + 1 : Nat) : Int)), some (.int ((i + 1 : Nat) : Int))] = [some (.ref p), some (.ref o), some (.int (st : Int)), v] ∧ upd H2 o (.lst (ys ++ [v'])) o = some (.lst zs) ∧ AtL (upd H2 o (.lst (ys ++ [v']))) zs (toDs (done.map itm)) ∧ Same H (upd H2 o (.lst (ys ++ [v']))) ∧ ((∃ g rest, gs = done ++ g :: rest ∧ st = (flat done).length ∧ st ≤ i + 1 ∧ i + 1 < st + g.2) ∨ (i + 1 = xs.length ∧ gs = done)) := fun e v' H2 s2 a2 => by
          have ho2 := s2 _ _ ho
          have tp : ∀ b zs, H2 b = some (.tup zs) → upd H2 o (.lst (ys ++ [v'])) b = some (.tup zs) := fun b zs hb => (upd_ne fun e => by rw [e, ho2] at hb; cases hb).trans hb
          refine ⟨_, done ++ [g], ys ++ [v'], i + 1, rfl, upd_same, ?_, fun b u hb => (upd_ne fun e => by rw [e, no] at hb; cases hb).trans (s2 _ _ (sm _ _ hb)), ?_⟩
          · rw [List.map_append, toDs_map, List.map_append, ← toDs_map]
            exact AtL.app ((hY.same s2).tups tp) (.cons (a2.tups tp) .nil)
          · cases rest with
            | nil =>
              refine .inr ⟨?_, by rw [eg]⟩
              have : (flat ([] : List (Nd × Nat))).length = 0 := rfl
              omega
            | cons g2 r2 =>
              refine .inl ⟨g2, r2, by rw [eg, List.append_assoc]; rfl, by rw [flat_snoc]; omega, Nat.le_refl _, ?_⟩
              have := G.pos g2 (by rw [eg]; exact List.mem_append_right _ (List.mem_cons_of_mem _ (List.mem_cons_self ..)))
              omega
        walk_at "wp"
        rw [add]
        refine w_ite (fun e => ?_) (fun e => ?_)
        · have ek : i + 1 = st + g.2 := by omega
          have e3 : ((i + 1 : Nat) : Int) - (st : Int) = (g.2 : Int) := by omega
          walk_at "wp"
          refine w_ixT (.of hp1) (atI_nat hy) ?_
          walk_at "wp"
          refine ⟨y, g.1, g.2, by rw [e3]; rfl, ay, fun v' H2 s2 a2 => ?_⟩
          have ho2 := s2 _ _ ho
          walk_at "wp"
          exact app ek v' H2 s2 a2
        · have hi2 : i + 1 < xs.length := by omega
          obtain ⟨m, hm⟩ : ∃ m, (flat gs)[i + 1]? = some m := ⟨_, List.getElem?_eq_getElem (by omega)⟩
          obtain ⟨y2, hy2, ay2⟩ := hA1.get (i := i + 1) (d := toD m) (by rw [toDs_map, List.getElem?_map, hm]; rfl)
          have mN : Nok m := by
            obtain ⟨g0, hg0, e0⟩ := flat_mem (List.mem_of_getElem? hm)
            rw [e0]
            exact hN g0 hg0
          have gN := hN g gm
          walk_at "wp"
          refine w_ixT (.of hp1) (atI_nat hy2) ?_
          walk_at "wp"
          refine w_ixT (.of hp1) (atI_nat hy) ?_
          refine w_neD ay2 ay mN.pl gN.pl mN.dep gN.dep (by decide) (by decide) fun b hb => ?_
          walk_at "wp"
          by_cases ek : i + 1 < st + g.2
          · have em : m = g.1 := by
              have := flat_mid (done := done) (rest := rest) (g := g) (j := i + 1) (by omega) (by omega)
              rw [← eg, hm] at this
              exact Option.some.inj this
            have eb : b = false := by
              cases b with
              | false => rfl
              | true => exact absurd (by rw [em]) (hb.mp rfl)
            subst eb
            walk_at "wp"
            exact ⟨_, done, ys, st, rfl, ho, hY, sm, .inl ⟨g, rest, eg, est, by omega, ek⟩⟩
          · have ek2 : i + 1 = st + g.2 := by omega
            have e3 : ((i + 1 : Nat) : Int) - (st : Int) = (g.2 : Int) := by omega
            have em : m ≠ g.1 := by
              cases rest with
              | nil =>
                have : (flat ([] : List (Nd × Nat))).length = 0 := rfl
                omega
              | cons g2 r2 =>
                have h2 := G.pos g2 (by rw [eg]; exact List.mem_append_right _ (List.mem_cons_of_mem _ (List.mem_cons_self ..)))
                have h3 := flat_mid (done := done ++ [g]) (rest := r2) (g := g2) (j := i + 1) (by rw [flat_snoc]; omega) (by rw [flat_snoc]; omega)
                rw [List.append_assoc, List.singleton_append, ← eg, hm] at h3
                have h4 : m = g2.1 := Option.some.inj h3
                have h5 := G.nb done.length g g2 (by rw [eg, List.getElem?_append_right (Nat.le_refl _), Nat.sub_self]; rfl) (by rw [eg, List.getElem?_append_right (by omega), Nat.add_sub_cancel_left]; rfl)
                rw [h4]
                exact fun z => h5 z.symm
            have eb : b = true := hb.mpr fun z => em (toD_inj _ _ z)
            subst eb
            walk_at "wp"
            refine w_ixT (.of hp1) (atI_nat hy) ?_
            walk_at "wp"
            refine ⟨y, g.1, g.2, by rw [e3]; rfl, ay, fun v' H2 s2 a2 => ?_⟩
            have ho2 := s2 _ _ ho
            walk_at "wp"
            exact app ek2 v' H2 s2 a2
      · omega
    · rintro σ H1 ⟨v, done, ys, st, rfl, ho, hY, sm, h⟩
      have eg : gs = done := by
        rcases h with ⟨g, rest, eg, est, b1, b2⟩ | ⟨_, e⟩
        · have hf := flat_len done rest g
          rw [← eg, ← xl] at hf
          omega
        · exact e
      subst eg
      walk_at "wp"
      intro q nq
      have sq := same_new (o := .tup ys) nq
      exact k q ys _ (sm.trans sq) upd_same (hY.same sq)
theorem last_one {α : Type} (xs : List α) (a : α) : (xs ++ [a])[(xs ++ [a]).length - 1]? = some a := by
  rw [List.length_append, List.length_singleton, Nat.add_sub_cancel, List.getElem?_append_right (Nat.le_refl _), Nat.sub_self]
  rfl
structure L6 (t l o p : Addr) (gi gn : List (Nd × Nat)) (H : Hp) : Prop where
  ex : ∃ xs ys, H o = some (.lst xs) ∧ H p = some (.lst ys) ∧ AtL H xs (toDs (gi.map itm)) ∧ AtL H ys (toDs (flat gn))
  T : Tape H t l
  n : o ≠ t ∧ o ≠ l ∧ p ≠ t ∧ o ≠ p
theorem L6.go {t l o p : Addr} {gi gn : List (Nd × Nat)} {H H' : Hp} (L : L6 t l o p gi gn H) (G : Go t l H H') : L6 t l o p gi gn H' := by
  obtain ⟨xs, ys, h1, h2, h3, h4⟩ := L.ex
  exact ⟨⟨xs, ys, G.at h1 L.n.1, G.at h2 L.n.2.2.1, h3.go L.T G, h4.go L.T G⟩, G.T, L.n⟩
theorem L6.same {t l o p : Addr} {gi gn : List (Nd × Nat)} {H H' : Hp} (L : L6 t l o p gi gn H) (s : Same H H') : L6 t l o p gi gn H' := by
  obtain ⟨xs, ys, h1, h2, h3, h4⟩ := L.ex
  exact ⟨⟨xs, ys, s _ _ h1, s _ _ h2, h3.same s, h4.same s⟩, L.T.same s, L.n⟩
theorem L6.push {t l o p : Addr} {gi gn : List (Nd × Nat)} {g : Nd × Nat} {H : Hp} {xs : List V} {v : V} (L : L6 t l o p gi gn H) (h : H o = some (.lst xs)) (a : At H v (toD (itm g))) : L6 t l o p (gi ++ [g]) gn (upd H o (.lst (xs ++ [v]))) := by
  obtain ⟨xs', ys, h1, h2, h3, h4⟩ := L.ex
  rw [h] at h1
  have e : xs = xs' := by
    have := Option.some.inj h1
    injection this
  subst e
  have tp : ∀ b zs, H b = some (.tup zs) → upd H o (.lst (xs ++ [v])) b = some (.tup zs) := fun b zs hb => (upd_ne fun e => by rw [e, h] at hb; cases hb).trans hb
  refine ⟨⟨xs ++ [v], ys, upd_same, (upd_ne fun e => L.n.2.2.2 e.symm).trans h2, ?_, h4.tups tp⟩, L.T.put ⟨L.n.1, L.n.2.1⟩, L.n⟩
  rw [List.map_append, toDs_map, List.map_append, ← toDs_map]
  exact AtL.app (h3.tups tp) (.cons (a.tups tp) .nil)
theorem L6.size {t l o p : Addr} {gi gn : List (Nd × Nat)} {H : Hp} {xs : List V} (L : L6 t l o p gi gn H) (h : H o = some (.lst xs)) : xs.length = gi.length := by
  obtain ⟨xs', ys, h1, h2, h3, h4⟩ := L.ex
  rw [h] at h1
  have e : xs = xs' := by
    have := Option.some.inj h1
    injection this
  subst e
  have := h3.len
  rw [toDs_len, List.length_map] at this
  exact this
theorem atl_rep {H : Hp} {v : V} {n : Nd} (a : At H v (toD n)) : ∀ m : Nat, AtL H (List.replicate m [v]).flatten (toDs (List.replicate m n))
  | 0 => .nil
  | m + 1 => .cons a (atl_rep a m)
theorem L6.rep {t l o p p2 : Addr} {gi gn : List (Nd × Nat)} {n : Nd} {m : Nat} {H H' : Hp} {ys : List V} {v : V} (L : L6 t l o p gi gn H) (h : H p = some (.lst ys)) (s : Same H H') (hf : H p2 = none) (h2 : H' p2 = some (.lst (ys ++ (List.replicate m [v]).flatten))) (a : At H v (toD n)) : L6 t l o p2 gi (gn ++ [(n, m)]) H' := by
  obtain ⟨xs, ys', h1, h2', h3, h4⟩ := L.ex
  rw [h] at h2'
  have e : ys = ys' := by
    have := Option.some.inj h2'
    injection this
  subst e
  refine ⟨⟨xs, _, s _ _ h1, h2, h3.same s, ?_⟩, L.T.same s, ⟨L.n.1, L.n.2.1, (L.T.fresh hf).1, fun e => by rw [← e, h1] at hf; cases hf⟩⟩
  rw [flat_app, flat_one, toDs_map, List.map_append, ← toDs_map, ← toDs_map]
  exact AtL.app (h4.same s) (atl_rep (a.same s) m)
def GOk (g : Nd × Nat) : Prop := Wf E16 g.1 ∧ isRun g.1 = false ∧ lev g.1 ≤ 8 ∧ g.2 ≤ 2000
theorem GOk.nok {g : Nd × Nat} (h : GOk g) : Nok g.1 := ⟨h.1.mono fun e he => he.mono (by decide), Nat.le_trans h.2.2.1 (by decide)⟩
theorem w_neL2 {K : PySem.W.Frag} {H : Hp} {Q : VK} {a b : Addr} {xs ys : List V} {ds es : List PyData} {n m : Nat} (ha : H a = some (.lst xs)) (hb : H b = some (.lst ys)) (hx : AtL H xs ds) (hy : AtL H ys es) (pd : ∀ d ∈ ds, Pl d) (pe : ∀ d ∈ es, Pl d) (dd : ∀ d ∈ ds, Dep n d) (de : ∀ d ∈ es, Dep m d) (hn : n ≤ 60) (hm : m ≤ 60) (q : ∀ b : Bool, (b = true ↔ ds ≠ es) → Q (.bl b) H) : rNeD K (.ref a) (.ref b) H Q := by
  have sh : ∀ (ds : List PyData) (n : Nat), (∀ d ∈ ds, Pl d) → (∀ d ∈ ds, Dep n d) → n ≤ 60 → SeqAt.shaped (.list ds) = true := fun ds n pd dd hn => by
    unfold SeqAt.shaped
    rw [show (PyData.list ds).canLay0 = true from pl_layAll ds pd, Bool.true_and]
    have := dep_depthAll ds n dd
    exact decide_eq_true (by show PyData.depthAll ds + 1 ≤ _; omega)
  refine ⟨.list ds, .list es, .lst (.of ha) (atl_dp hx), .lst (.of hb) (atl_dp hy), sh ds n pd dd hn, sh es m pe de hm, ?_⟩
  have e := pl_eqv (.tuple ds) (.tuple es) (.tup _ pd) (.tup _ pe)
  refine q _ ?_
  constructor
  · intro h z
    have h2 : PyData.eqv (.list ds) (.list es) = true := e.mpr (by rw [z])
    rw [h2] at h
    cases h
  · intro h
    cases h3 : PyData.eqv (.list ds) (.list es) with
    | false => rfl
    | true => exact absurd (by have := e.mp h3; injection this) h
def spLaw (K : PySem.W.Frag) : Sp := fun vs H Q _ => ∃ (a : Addr) (ns : List Int), vs = [.ref a] ∧ SqL K H a (ns.map V.int) ∧ ns.length ≤ 63 ∧ ∀ H', Q (.bl true) H'
theorem wf_to : Wf E15 (.leaf (.str (Str.ofString "to"))) := .leaf _ (.inl ⟨by decide +kernel, by unfold Asc; decide +kernel⟩)
abbrev s_law : Stmt := top 16
theorem c_law : FnScope ["script", "tape", "items", "nodes", "plain", "k", "last", "node", "many"] ["script"] (defScope s_law) := ⟨rfl, rfl, rfl, by decide +kernel, rfl, by decide +kernel, by decide +kernel⟩

theorem ok_law {f : Addr} {fd : FuncData} (F : Fun K "law" "law" s_law f fd) (T : Txt mg) (C__law_tape : Cl P w K mg base 1 "_law_tape" ["script"] (spTape K)) (C__law_draw : Cl P w K mg base 1 "_law_draw" ["tape", "many"] spDraw)
    (C__law_base : Cl P w K mg base 13 "_law_base" ["tape", "depth", "room"] (spBase 4)) (C__law_near_node : Cl P w K mg base 16 "_law_near_node" ["tape", "node"] (spNn 10)) (C_items_of : Cl P w K mg base 2 "items_of" ["nodes"] spIof) (C__law_alike : Cl P w K mg base 30 "_law_alike" ["told", "due"] (spA 30)) : FnOk P w K mg base CX0 31 f fd ["script"] (spLaw K) := by
  refine F.ok c_law (fun vs H Q E h => ?_) (fun cdv A outer s H vs Q E hr h => ?_)
  · obtain ⟨a, ns, rfl, _⟩ := h
    rfl
  · obtain ⟨a, ns, rfl, hS, _, k⟩ := h
    refine ⟨_, (pss_cons (ps_set (i := 1) c_law.nd rfl (Or.inl rfl) (pe_cl C__law_tape (hr.mono (by omega)) (by rfl) (pa_cons (pv 0) pa_nil)))
      (pss_cons (ps_set (i := 2) c_law.nd rfl (Or.inl rfl) (pe_lst pa_nil))
      (pss_cons (ps_set (i := 3) c_law.nd rfl (Or.inl rfl) (pe_lst pa_nil))
      (pss_cons (ps_set (i := 4) c_law.nd rfl (Or.inl rfl) (pe_tup (pa_cons pe_str (pa_cons pe_str pa_nil))))
      (pss_cons (ps_for PassesOwn.never rfl (pi_range1 (by rfl) T.n_range (pa_cons (pe_cl C__law_draw (hr.mono (by omega)) (by rfl) (pa_cons (pv 1) (pa_cons pe_int pa_nil))) pa_nil)) (pg_name (i := 5) c_law.nd rfl (Or.inl rfl)) (pss_cons (ps_if (pt_cmpR op_eq (pe_cl C__law_draw (hr.mono (by omega)) (by rfl) (pa_cons (pv 1) (pa_cons pe_int pa_nil))) pe_int (nomark _)) (pss_one (ps_set (i := 4) c_law.nd rfl (Or.inl rfl) (pe_cl C__law_base (hr.mono (by omega)) (by rfl) (pa_cons (pv 1) (pa_cons (pe_cl C__law_draw (hr.mono (by omega)) (by rfl) (pa_cons (pv 1) (pa_cons pe_int pa_nil))) (pa_cons pe_int pa_nil)))))) pss_nil)
      (pss_cons (ps_set (i := 7) c_law.nd rfl (Or.inl rfl) (pv 4))
      (pss_cons (ps_if (pt_cmpR op_eq (pe_cl C__law_draw (hr.mono (by omega)) (by rfl) (pa_cons (pv 1) (pa_cons pe_int pa_nil))) pe_int (nomark _)) (pss_one (ps_set (i := 7) c_law.nd rfl (Or.inl rfl) (pe_cl C__law_near_node (hr.mono (by omega)) (by rfl) (pa_cons (pv 1) (pa_cons (pv 4) pa_nil))))) pss_nil)
      (pss_cons (ps_if (pt_cmpR op_eq (pe_ix ix_tup (pv 7) pe_int (fun _ _ => rfl)) pe_str (nomark _)) (pss_one (ps_set (i := 7) c_law.nd rfl (Or.inl rfl) (pe_ix ix_tup (pv 7) pe_int (fun _ _ => rfl)))) pss_nil)
      (pss_cons (ps_set (i := 8) c_law.nd rfl (Or.inl rfl) (pe_op op_add pe_int (pe_cl C__law_draw (hr.mono (by omega)) (by rfl) (pa_cons (pv 1) (pa_cons (pe_ix ix_list (pe_lst (pa_cons pe_int (pa_cons pe_int (pa_cons pe_int (pa_cons pe_int pa_nil))))) (pe_cl C__law_draw (hr.mono (by omega)) (by rfl) (pa_cons (pv 1) (pa_cons pe_int pa_nil))) (fun _ _ => rfl)) pa_nil)))))
      (pss_cons (ps_if (pt_cmpR op_eq (pe_ix ix_tup (pv 7) pe_int (fun _ _ => rfl)) pe_str (nomark _)) (pss_one (ps_set (i := 8) c_law.nd rfl (Or.inl rfl) (pe_callB (call_min2 rfl) (by rfl) T.n_min (by decide +kernel) (pa_cons (pv 8) (pa_cons pe_int pa_nil))))) pss_nil)
      (pss_cons (ps_if (PW.pt (pw_and (pt_truth (pv 3) (by intro _; rfl)) (pw_and1 (pt_cmpR (op_eqD (hu64 hr)) (pe_ix ix_list (pv 3) (pe_un un_neg pe_int) (fun _ _ => rfl)) (pv 7) (nomark _))))) (pss_one (ps_set (i := 8) c_law.nd rfl (Or.inl rfl) pe_int)) pss_nil)
      (pss_cons (ps_if (pt_cmpR op_eq (pv 8) pe_int (nomark _)) (pss_one (ps_expr (pe_bm PySem.F.plainAttrs_list PySem.F.slot_list_append PySem.F.type_list_append mt_append (pv 2) (pa_cons (pv 7) pa_nil)))) pss_nil)
      (pss_cons (ps_if (pt_cmpR op_gt (pv 8) pe_int (nomark _)) (pss_one (ps_expr (pe_bm PySem.F.plainAttrs_list PySem.F.slot_list_append PySem.F.type_list_append mt_append (pv 2) (pa_cons (pe_tup (pa_cons pe_str (pa_cons (pv 7) (pa_cons (pv 8) pa_nil)))) pa_nil)))) pss_nil)
      (pss_one (ps_set (i := 3) c_law.nd rfl (Or.inl rfl) (pe_op op_cat (pv 3) (pe_op op_rep (pe_lst (pa_cons (pv 7) pa_nil)) (pv 8)))))))))))))))
      (pss_cons (ps_set (i := 6) c_law.nd rfl (Or.inl rfl) (pe_tup (pa_cons pe_str (pa_cons (pe_tup (pa_cons (pe_callB call_len_seq (by rfl) T.n_len (by decide +kernel) (pa_cons (pv 3) pa_nil)) (pa_cons pe_str pa_nil))) pa_nil))))
      (pss_cons (ps_if (PW.pt (pw_and (pt_cmpR op_eq (pe_cl C__law_draw (hr.mono (by omega)) (by rfl) (pa_cons (pv 1) (pa_cons pe_int pa_nil))) pe_int (nomark _)) (pw_and1 (pt_cmpR (op_neD (hu64 hr)) (pe_slice sl_list (pv 3) (po_some (pe_un un_neg pe_int)) po_none) (pe_lst (pa_cons (pv 6) pa_nil)) (nomark _))))) (pss_cons (ps_set (i := 8) c_law.nd rfl (Or.inl rfl) (pe_op op_add pe_int (pe_cl C__law_draw (hr.mono (by omega)) (by rfl) (pa_cons (pv 1) (pa_cons pe_int pa_nil)))))
      (pss_cons (ps_expr (pe_bm PySem.F.plainAttrs_list PySem.F.slot_list_append PySem.F.type_list_append mt_append (pv 2) (pa_cons (pe_tup (pa_cons pe_str (pa_cons (pv 6) (pa_cons (pv 8) pa_nil)))) pa_nil)))
      (pss_one (ps_set (i := 3) c_law.nd rfl (Or.inl rfl) (pe_op op_cat (pv 3) (pe_op op_rep (pe_lst (pa_cons (pv 6) pa_nil)) (pv 8))))))) pss_nil)
      (pss_one (ps_ret (pe_cl C__law_alike (hr.mono (by omega)) (by rfl) (pa_cons (pe_cl C_items_of (hr.mono (by omega)) (by rfl) (pa_cons (pe_callTy call_tuple_of (by rfl) T.n_tuple (by decide +kernel) (pa_cons (pv 3) pa_nil)) pa_nil)) (pa_cons (pe_callTy call_tuple_of (by rfl) T.n_tuple (by decide +kernel) (pa_cons (pv 2) pa_nil)) pa_nil)))))))))))), ?_⟩
    walk_at "wi"
    refine ⟨a, ns, rfl, hS, fun t l H0 s0 T0 => ?_⟩
    walk_at "wi"
    refine ⟨Nat.zero_le _, fun o no => ?_⟩
    have ot := T0.fresh no
    have T1 := T0.same (same_new (o := .lst []) no)
    walk_at "wi"
    refine ⟨Nat.zero_le _, fun p np => ?_⟩
    have pt := T1.fresh np
    have ho1 := same_new (o := .lst []) np _ _ (upd_same (H := H0) (a := o) (o := .lst []))
    have op : o ≠ p := fun e => by rw [← e, upd_same] at np; cases np
    have T2 := T1.same (same_new (o := .lst []) np)
    walk_at "wi"
    refine ⟨szle (by show 2 ≤ _; decide), fun q nq => ?_⟩
    have sq := same_new (o := .tup [.str (Str.ofString "leaf"), .str (Str.ofString "to")]) nq
    have L0 : L6 t l o p [] [] _ := ⟨⟨[], [], ho1, upd_same, .nil, .nil⟩, T2, ⟨ot.1, ot.2, pt.1, op⟩⟩
    have L1 := L0.same sq
    walk_at "wi"
    refine ⟨t, l, _, rfl, L1.T, by decide, fun r0 H3 l0 u0 G3 => ?_⟩
    replace u0 : r0 < 9 := u0
    walk_at "wi"
    refine ⟨by omega, by omega, ?_⟩
    refine for_range (lo := 0) (n := r0.toNat) (fun i σ H4 => ∃ (v5 v7 v8 : Option V) (p : Addr) (pv : V) (pn : Nd) (gs : List (Nd × Nat)), σ = [some (.ref a), some (.ref t), some (.ref o), some (.ref p), some pv, v5, none, v7, v8] ∧ L6 t l o p gs gs H4 ∧ Gr gs ∧ (∀ g ∈ gs, GOk g) ∧ gs.length ≤ i ∧ (flat gs).length ≤ 30 * i ∧ At H4 pv (toD pn) ∧ Wf E15 pn ∧ isRun pn = false ∧ lev pn ≤ 4) ⟨none, none, none, p, .ref q, .leaf (.str (Str.ofString "to")), [], rfl, L1.go G3, ⟨fun _ h => absurd h List.not_mem_nil, fun _ _ _ h => by cases h⟩, (fun _ h => absurd h List.not_mem_nil), Nat.le_refl _, Nat.le_refl _, (mk_leaf upd_same (.str _)).go L1.T G3, wf_to, rfl, by decide⟩ ?_ ?_
    · clear L0 L1 G3 op pt np ot no T0 T1 T2 ho1 sq nq
      rintro i σ H4 hi ⟨v5, v7, v8, p, pv, pn, gs, rfl, L, G, hG, gl, fl, ap, wp, rp, lp⟩
      walk_at "wi"
      refine w_ifK (fun σ H5 => ∃ (pv : V) (pn : Nd), σ = [some (.ref a), some (.ref t), some (.ref o), some (.ref p), some pv, some (.int (0 + (i : Int))), none, v7, v8] ∧ L6 t l o p gs gs H5 ∧ At H5 pv (toD pn) ∧ Wf E15 pn ∧ isRun pn = false ∧ lev pn ≤ 4) ?_ ?_
      · clear L ap wp rp lp
        rintro σ H5 ⟨pv, pn, rfl, L, ap, wp, rp, lp⟩
        walk_at "wi"
        refine w_ifK (fun σ H6 => ∃ (nv : V) (n : Nd), σ = [some (.ref a), some (.ref t), some (.ref o), some (.ref p), some pv, some (.int (0 + (i : Int))), none, some nv, v8] ∧ L6 t l o p gs gs H6 ∧ At H6 pv (toD pn) ∧ At H6 nv (toD n) ∧ Wf E16 n ∧ lev n ≤ 6) ?_ ?_
        · clear L ap
          rintro σ H6 ⟨nv, n, rfl, L, ap, an, wn, ln⟩
          walk_at "wi"
          refine w_ifK (fun σ H7 => ∃ (nv : V) (n : Nd), σ = [some (.ref a), some (.ref t), some (.ref o), some (.ref p), some pv, some (.int (0 + (i : Int))), none, some nv, v8] ∧ L6 t l o p gs gs H7 ∧ At H7 pv (toD pn) ∧ At H7 nv (toD n) ∧ Wf E16 n ∧ isRun n = false ∧ lev n ≤ 6) ?_ ?_
          · clear L ap an wn ln
            rintro σ H7 ⟨nv, n, rfl, L, ap, an, wn, rn, ln⟩
            walk_at "wi"
            refine ⟨szle (by show 4 ≤ _; decide), fun q nq => ?_⟩
            have sq := same_new (o := .lst [.int 1, .int 2, .int 5, .int 30]) nq
            have Lq := L.same sq
            walk_at "wi"
            refine ⟨t, l, _, rfl, Lq.T, by decide, fun r1 H8 l1 u1 G8 => ?_⟩
            replace u1 : r1 < 4 := u1
            have hq8 := G8.at upd_same (L.T.fresh nq).1
            refine w_ixAny (fun v => ∃ n : Nat, v = .int (n : Int) ∧ 1 ≤ n ∧ n ≤ 30) (.of hq8) l1 (Int.lt_of_lt_of_le u1 (by decide)) (fun v hv => ?_) ?_
            · simp only [List.mem_cons, List.not_mem_nil, or_false] at hv
              rcases hv with rfl | rfl | rfl | rfl
              · exact ⟨1, rfl, by decide, by decide⟩
              · exact ⟨2, rfl, by decide, by decide⟩
              · exact ⟨5, rfl, by decide, by decide⟩
              · exact ⟨30, rfl, by decide, by decide⟩
            rintro v ⟨wd, rfl, w1, w2⟩
            walk_at "wi"
            refine ⟨t, l, _, rfl, G8.T, by omega, fun r2 H9 l2 u2 G9 => ?_⟩
            have L9 := (Lq.go G8).go G9
            have ap9 := ((ap.same sq).go Lq.T G8).go G8.T G9
            have an9 := ((an.same sq).go Lq.T G8).go G8.T G9
            walk_at "wi"
            obtain ⟨m, em, m1, m2⟩ : ∃ m : Nat, 1 + r2 = (m : Int) ∧ 1 ≤ m ∧ m ≤ 30 := ⟨(1 + r2).toNat, by omega, by omega, by omega⟩
            rw [em]
            clear L Lq ap an G8 G9 hq8 sq nq u2 l2 em
            refine w_ifK (fun σ H => ∃ m : Nat, σ = [some (.ref a), some (.ref t), some (.ref o), some (.ref p), some pv, some (.int (0 + (i : Int))), none, some nv, some (.int (m : Int))] ∧ H9 = H ∧ 1 ≤ m ∧ m ≤ 30) ?_ ?_
            · clear m1 m2
              rintro σ H ⟨m, rfl, rfl, m1, m2⟩
              walk_at "wi"
              refine w_ifK (fun σ H => ∃ m : Nat, σ = [some (.ref a), some (.ref t), some (.ref o), some (.ref p), some pv, some (.int (0 + (i : Int))), none, some nv, some (.int (m : Int))] ∧ H9 = H ∧ m ≤ 30 ∧ (1 ≤ m → Gr (gs ++ [(n, m)]))) ?_ ?_
              · clear m1 m2
                rintro σ H ⟨m, rfl, rfl, m2, mG⟩
                have gok : GOk (n, m) := ⟨wn, rn, by show lev n ≤ 8; omega, by show m ≤ 2000; omega⟩
                walk_at "wi"
                refine w_ifK (fun σ H => ∃ gi, σ = [some (.ref a), some (.ref t), some (.ref o), some (.ref p), some pv, some (.int (0 + (i : Int))), none, some nv, some (.int (m : Int))] ∧ L6 t l o p gi gs H ∧ At H pv (toD pn) ∧ At H nv (toD n) ∧ (gi = if m = 1 then gs ++ [(n, m)] else gs)) ?_ ?_
                · clear L9 ap9 an9
                  rintro σ H ⟨gi, rfl, L9, ap9, an9, eg⟩
                  walk_at "wi"
                  refine w_ifK (fun σ H => ∃ gi, σ = [some (.ref a), some (.ref t), some (.ref o), some (.ref p), some pv, some (.int (0 + (i : Int))), none, some nv, some (.int (m : Int))] ∧ L6 t l o p gi gs H ∧ At H pv (toD pn) ∧ At H nv (toD n) ∧ (gi = if 1 ≤ m then gs ++ [(n, m)] else gs)) ?_ ?_
                  · clear L9 ap9 an9 eg
                    rintro σ H ⟨gi, rfl, L9, ap9, an9, eg⟩
                    obtain ⟨xs, ys, h1, h2, h3, h4⟩ := L9.ex
                    have yl := h4.len
                    rw [toDs_len] at yl
                    walk_at "wp"
                    refine ⟨szle (by show 1 ≤ _; decide), fun q nq => ?_⟩
                    have sq := same_new (o := .lst [nv]) nq
                    walk_at "wp"
                    refine ⟨q, (m : Int), [nv], rfl, rfl, upd_same, by omega, by omega, szle (by rw [Int.toNat_natCast]; show 1 * m ≤ _; omega), fun q2 nq2 => ?_⟩
                    rw [Int.toNat_natCast]
                    have sq2 := same_new (o := .lst (List.replicate m [nv]).flatten) nq2
                    refine w_cat (sq2 _ _ (sq _ _ h2)) upd_same (by rw [PyProof.Rows.lm_len_rep_flat]; show _ + m * 1 ≤ _; omega) fun p2 H2 np2 s2 hp2 => ?_
                    have s02 := (sq.trans sq2).trans s2
                    have free2 : H p2 = none := (sq.trans sq2).free np2
                    have LL := L9.rep h2 s02 free2 hp2 an9
                    walk_at "wp"
                    by_cases e1 : 1 ≤ m
                    · rw [if_pos e1] at eg
                      subst eg
                      refine ⟨_, _, _, p2, pv, pn, gs ++ [(n, m)], rfl, LL, mG e1, fun g hg => ?_, by rw [List.length_append, List.length_singleton]; omega, by rw [flat_snoc]; show _ + m ≤ _; omega, ap9.same s02, wp, rp, lp⟩
                      rcases List.mem_append.mp hg with h | h
                      · exact hG g h
                      · rw [List.mem_singleton.mp h]
                        exact gok
                    · have m0 : m = 0 := by omega
                      subst m0
                      rw [if_neg e1] at eg
                      subst eg
                      have e0 : flat (gi ++ [(n, 0)]) = flat gi := by rw [flat_app, flat_one]; exact List.append_nil _
                      have LL2 : L6 t l o p2 gi gi H2 := ⟨by rw [← e0]; exact LL.ex, LL.T, LL.n⟩
                      exact ⟨_, _, _, p2, pv, pn, gi, rfl, LL2, G, hG, by omega, by omega, ap9.same s02, wp, rp, lp⟩
                  · intro D' hrt kk
                    walk_at "wp"
                    refine w_ite (fun e => ?_) (fun e => ?_)
                    · obtain ⟨xs, ys, h1, h2, h3, h4⟩ := L9.ex
                      rw [if_neg (by omega)] at eg
                      subst eg
                      have xl := L9.size h1
                      have hsz : xs.length < sizeLine := szlt (by omega)
                      walk_at "wp"
                      refine ⟨szle (by show 3 ≤ _; decide), fun q nq => ?_⟩
                      have sq := same_new (o := .tup [.str (Str.ofString "run"), nv, .int (m : Int)]) nq
                      have hoq := sq _ _ h1
                      have aq : At (upd H q (.tup [.str (Str.ofString "run"), nv, .int (m : Int)])) (.ref q) (toD (itm (n, m))) := by
                        have : itm (n, m) = .run n m := if_pos (show m > 1 by omega)
                        rw [this]
                        exact mk_run upd_same (an9.same sq)
                      have LL := (L9.same sq).push hoq aq
                      have tp : ∀ b zs, upd H q (.tup [.str (Str.ofString "run"), nv, .int (m : Int)]) b = some (.tup zs) → upd (upd H q (.tup [.str (Str.ofString "run"), nv, .int (m : Int)])) o (.lst (xs ++ [.ref q])) b = some (.tup zs) := fun b zs hb => (upd_ne fun e => by rw [e, hoq] at hb; cases hb).trans hb
                      walk_at "wp"
                      exact kk _ _ ⟨_, rfl, LL, (ap9.same sq).tups tp, (an9.same sq).tups tp, by rw [if_pos (by omega)]⟩
                    · walk_at "wp"
                      refine kk _ _ ⟨gi, rfl, L9, ap9, an9, ?_⟩
                      rw [eg]
                      by_cases e1 : m = 1
                      · rw [if_pos e1, if_pos (by omega)]
                      · rw [if_neg e1, if_neg (by omega)]
                · intro D' hrt kk
                  walk_at "wp"
                  refine w_ite (fun e => ?_) (fun e => ?_)
                  · obtain ⟨xs, ys, h1, h2, h3, h4⟩ := L9.ex
                    have xl := L9.size h1
                    have hsz : xs.length < sizeLine := szlt (by omega)
                    have e1 : m = 1 := by omega
                    have aq : At H9 nv (toD (itm (n, m))) := by
                      have : itm (n, m) = n := if_neg (show ¬ m > 1 by omega)
                      rw [this]
                      exact an9
                    have LL := L9.push h1 aq
                    have tp : ∀ b zs, H9 b = some (.tup zs) → upd H9 o (.lst (xs ++ [nv])) b = some (.tup zs) := fun b zs hb => (upd_ne fun e => by rw [e, h1] at hb; cases hb).trans hb
                    walk_at "wp"
                    exact kk _ _ ⟨_, rfl, LL, ap9.tups tp, an9.tups tp, by rw [if_pos e1]⟩
                  · walk_at "wp"
                    exact kk _ _ ⟨gs, rfl, L9, ap9, an9, by rw [if_neg (by omega)]⟩
              · intro D' hrt kk
                obtain ⟨xs, ys, h1, h2, h3, h4⟩ := L9.ex
                have yl := h4.len
                rw [toDs_len] at yl
                walk_at "wp"
                by_cases e0 : gs = []
                · have ex : ys = [] := List.eq_nil_of_length_eq_zero (by rw [yl, e0]; rfl)
                  refine ⟨_, .inl ⟨_, .of h2, (show false = !ys.isEmpty by rw [ex]; rfl)⟩, ?_⟩
                  walk_at "wp"
                  exact kk _ _ ⟨m, rfl, rfl, m2, fun h => G.add h fun a ha => by rw [e0] at ha; cases ha⟩
                · obtain ⟨hs, g, rfl⟩ : ∃ hs g, gs = hs ++ [g] := ⟨gs.dropLast, gs.getLast e0, (List.dropLast_concat_getLast e0).symm⟩
                  have gp := G.pos g (List.mem_append_right _ (List.mem_singleton.mpr rfl))
                  have fp := flat_last (gs := hs) gp
                  have fl2 := flat_snoc hs g
                  obtain ⟨y, hy, ay⟩ := h4.get (i := (flat (hs ++ [g])).length - 1) (d := toD g.1) (by rw [toDs_map, List.getElem?_map, fp]; rfl)
                  have ee : (!ys.isEmpty) = true := by
                    cases ys with
                    | nil => cases hy
                    | cons _ _ => rfl
                  refine ⟨_, .inl ⟨_, .of h2, ee.symm⟩, ?_⟩
                  walk_at "wp"
                  have hyz1 : atI ys (-1) = some y := by
                    unfold atI
                    rw [show ixN ys.length (-1) = some (ys.length - 1) by unfold ixN; rw [if_neg (by decide), if_pos (by omega)]; congr 1; omega, yl]
                    exact hy
                  refine w_ixL (.of h2) hyz1 ?_
                  have gN := (hG g (List.mem_append_right _ (List.mem_singleton.mpr rfl))).nok
                  have nN : Nok n := ⟨wn.mono fun e he => he.mono (by decide), by omega⟩
                  walk_at "wp"
                  refine w_eqD ay an9 gN.pl nN.pl gN.dep nN.dep (by decide) (by decide) fun c hc => ?_
                  walk_at "wp"
                  cases c with
                  | true =>
                    walk_at "wp"
                    exact kk _ _ ⟨0, rfl, rfl, by decide, fun h => absurd h (by decide)⟩
                  | false =>
                    walk_at "wp"
                    refine kk _ _ ⟨m, rfl, rfl, m2, fun h => G.add h fun a ha => ?_⟩
                    rw [last_one] at ha
                    have := Option.some.inj ha
                    subst this
                    intro z
                    exact Bool.false_ne_true (hc.mpr (by rw [z]))
            · intro D' hrt kk
              cases n with
              | leaf e =>
                obtain ⟨b, x, rfl, b1, b2⟩ := at_leaf an9
                walk_at "wp"
                rw [decide_eq_false (by decide +kernel)]
                walk_at "wp"
                exact kk _ _ ⟨m, rfl, rfl, m1, m2⟩
              | run c t => cases rn
              | block cs =>
                obtain ⟨b, bb, xs, rfl, b1, hb, b2⟩ := at_block an9
                walk_at "wp"
                rw [decide_eq_true rfl]
                walk_at "wp"
                obtain ⟨m', em', m1', m2'⟩ : ∃ m' : Nat, (if (5 : Int) < (m : Int) then (5 : Int) else (m : Int)) = (m' : Int) ∧ 1 ≤ m' ∧ m' ≤ 30 := by
                  split
                  · exact ⟨5, rfl, by decide, by decide⟩
                  · exact ⟨m, rfl, m1, m2⟩
                rw [em']
                exact kk _ _ ⟨m', rfl, rfl, m1', m2'⟩
          · intro D' hrt kk
            have an0 := an
            cases n with
            | leaf e =>
              obtain ⟨b, x, rfl, b1, b2⟩ := at_leaf an
              walk_at "wp"
              rw [decide_eq_false (by decide +kernel)]
              walk_at "wp"
              exact kk _ _ ⟨_, _, rfl, L, ap, an0, wn, rfl, ln⟩
            | run c ti =>
              obtain ⟨b, x, rfl, b1, b2⟩ := at_run an
              walk_at "wp"
              rw [decide_eq_true rfl]
              walk_at "wp"
              cases wn with
              | run _ _ wc nr _ _ => exact kk _ _ ⟨x, c, rfl, L, ap, b2, wc, nr, by have : lev (.run c ti) = lev c + 1 := rfl; omega⟩
            | block cs =>
              obtain ⟨b, bb, xs, rfl, b1, hb, b2⟩ := at_block an
              walk_at "wp"
              rw [decide_eq_false (by decide +kernel)]
              walk_at "wp"
              exact kk _ _ ⟨_, _, rfl, L, ap, an0, wn, rfl, ln⟩
        · intro D' hrt kk
          walk_at "wp"
          refine ⟨t, l, _, rfl, L.T, by decide, fun r1 H6 l1 u1 G6 => ?_⟩
          have L6' := L.go G6
          have ap6 := ap.go L.T G6
          walk_at "wp"
          refine w_ite (fun e => ?_) (fun e => ?_)
          · walk_at "wp"
            refine ⟨t, l, pv, pn, rfl, G6.T, ap6, wp, by omega, fun v' n' H7 wn' lv' sz' a' G7 => ?_⟩
            walk_at "wp"
            exact kk _ _ ⟨v', n', rfl, L6'.go G7, ap6.go G6.T G7, a', wn', by have := lv'.1; omega⟩
          · walk_at "wp"
            exact kk _ _ ⟨pv, pn, rfl, L6', ap6, ap6, wr_e15 wp, by omega⟩
      · intro D' hrt kk
        walk_at "wp"
        refine ⟨t, l, _, rfl, L.T, by decide, fun r1 H5 l1 u1 G5 => ?_⟩
        have L5 := L.go G5
        walk_at "wp"
        refine w_ite (fun e => ?_) (fun e => ?_)
        · walk_at "wp"
          refine ⟨t, l, _, rfl, L5.T, by decide, fun r2 H6 l2 u2 G6 => ?_⟩
          replace u2 : r2 < 3 := u2
          obtain ⟨d, rfl⟩ := Int.eq_ofNat_of_zero_le l2
          walk_at "wp"
          refine ⟨t, l, d, 6, rfl, by omega, by decide, by decide, G6.T, fun v n H7 wf nr lv sz av G7 => ?_⟩
          walk_at "wp"
          exact kk _ _ ⟨v, n, rfl, (L5.go G6).go G7, av, wf, nr, by omega⟩
        · walk_at "wp"
          exact kk _ _ ⟨pv, pn, rfl, L5, ap.go L.T G5, wp, rp, lp⟩
    · clear L0 L1 G3 op pt np ot no T0 T1 T2 ho1 sq nq
      rintro σ H4 ⟨v5, v7, v8, p, pv, pn, gs, rfl, L, G, hG, gl, fl, ap, wp, rp, lp⟩
      obtain ⟨xs, ys, h1, h2, h3, h4⟩ := L.ex
      have xl := L.size h1
      have yl := h4.len
      rw [toDs_len] at yl
      walk_at "wi"
      refine ⟨szle (by show 2 ≤ _; decide), fun q1 nq1 => ?_⟩
      have s1 := same_new (o := .tup [.int ((ys.length : Nat) : Int), .str (Str.ofString "last")]) nq1
      walk_at "wi"
      refine ⟨szle (by show 2 ≤ _; decide), fun q2 nq2 => ?_⟩
      have s2 := same_new (o := .tup [.str (Str.ofString "leaf"), .ref q1]) nq2
      have Lq := (L.same s1).same s2
      have aL : At (upd (upd H4 q1 (.tup [.int ((ys.length : Nat) : Int), .str (Str.ofString "last")])) q2 (.tup [.str (Str.ofString "leaf"), .ref q1])) (.ref q2) (toD (.leaf (.tuple [.int ((ys.length : Nat) : Int), .str (Str.ofString "last")]))) := mk_leaf upd_same (.tup (s2 _ _ upd_same) (.cons (.int _) (.cons (.str _) .nil)))
      have wL : Wf E16 (.leaf (.tuple [.int ((ys.length : Nat) : Int), .str (Str.ofString "last")])) := .leaf _ (.inr ⟨_, _, rfl, ⟨by omega, by omega⟩, ⟨by decide +kernel, by unfold Asc; decide +kernel⟩⟩)
      generalize hlast : Nd.leaf (.tuple [.int ((ys.length : Nat) : Int), .str (Str.ofString "last")]) = last at aL wL
      have rL : isRun last = false := by rw [← hlast]; rfl
      have lL : lev last ≤ 8 := by rw [← hlast]; exact Nat.zero_le _
      have gL : ∀ m : Nat, m ≤ 2000 → GOk (last, m) := fun m hm => ⟨wL, rL, lL, hm⟩
      have nL : Nok last := (gL 1 (by decide)).nok
      generalize upd (upd H4 q1 (.tup [.int ((ys.length : Nat) : Int), .str (Str.ofString "last")])) q2 (.tup [.str (Str.ofString "leaf"), .ref q1]) = H5 at Lq aL
      clear L ap h1 h2 h3 h4 s1 s2 nq2 nq1 xl hlast
      walk_at "wi"
      refine w_ifK (fun σ H => ∃ (v5 v7 v8 : Option V) (p : Addr) (gs : List (Nd × Nat)), σ = [some (.ref a), some (.ref t), some (.ref o), some (.ref p), some pv, v5, some (.ref q2), v7, v8] ∧ L6 t l o p gs gs H ∧ Gr gs ∧ (∀ g ∈ gs, GOk g) ∧ gs.length ≤ 20 ∧ (flat gs).length ≤ 3000) ?_ ?_
      · clear Lq aL G hG gl fl yl
        rintro σ H ⟨v5, v7, v8, p, gs, rfl, L, G, hG, gl, fl⟩
        obtain ⟨xs, ys, h1, h2, h3, h4⟩ := L.ex
        walk_at "wp"
        intro r1 nr1
        have s1 := same_new (o := .tup ys) nr1
        walk_at "wp"
        refine ⟨r1, ys, gs, rfl, upd_same, h4.same s1, G, fun g hg => (hG g hg).nok, by omega, by omega, fun r2 zs H6 s6 hr2 hz => ?_⟩
        have s16 := s1.trans s6
        have h16 := s16 _ _ h1
        walk_at "wp"
        intro r3 nr3
        have s3 := same_new (o := .tup xs) nr3
        have hxs := (h3.same s16).same s3
        have dp : Dep 29 (.tuple (toDs (gs.map itm))) := by
          refine .tup (by rw [toDs_len, List.length_map]; omega) fun d hd => ?_
          rw [toDs_map, List.map_map] at hd
          obtain ⟨g, hg, rfl⟩ := List.mem_map.mp hd
          have wi : Wf El (itm g) ∧ lev (itm g) ≤ 9 := by
            have gk := hG g hg
            have wf : Wf El g.1 := gk.nok.1
            have ll := gk.2.2.1
            unfold itm
            by_cases e : g.2 > 1
            · rw [if_pos e]
              exact ⟨.run _ _ wf gk.2.1 e gk.2.2.2, by show lev g.1 + 1 ≤ 9; omega⟩
            · rw [if_neg e]
              exact ⟨wf, by omega⟩
          exact (toD_dep (fun e he => el_dep he 0) wi.1).mono (by have := wi.2; omega)
        refine ⟨_, _, _, rfl, .tup (s3 _ _ hr2) (hz.same s3), .tup upd_same hxs, dp, ?_⟩
        walk_at "wp"
        exact k _
      · intro D' hrt kk
        walk_at "wp"
        refine ⟨t, l, _, rfl, Lq.T, by decide, fun r1 H6 l1 u1 G6 => ?_⟩
        have L6' := Lq.go G6
        have aL6 := aL.go Lq.T G6
        walk_at "wp"
        refine w_ite (fun e => ?_) (fun e => ?_)
        · obtain ⟨xs, ys, h1, h2, h3, h4⟩ := L6'.ex
          have xl := L6'.size h1
          have yl := h4.len
          rw [toDs_len] at yl
          walk_at "wp"
          refine w_slL h2 fun q5 nq5 => ?_
          have s5 := same_new (o := .lst (cutV ys (some (-1)) none)) nq5
          walk_at "wp"
          refine ⟨szle (by show 1 ≤ _; decide), fun q6 nq6 => ?_⟩
          have s6 := same_new (o := .lst [.ref q2]) nq6
          have s56 := s5.trans s6
          have L7 := L6'.same s56
          have aL7 := aL6.same s56
          obtain ⟨zs, cm, hzm, hne⟩ : ∃ (zs : List PyData), AtL H6 (cutV ys (some (-1)) none) zs ∧ (∀ d ∈ zs, Pl d ∧ Dep 50 d) ∧ (zs ≠ [toD last] → ∀ m, 1 ≤ m → Gr (gs ++ [(last, m)])) := by
            by_cases e0 : gs = []
            · have ex : ys = [] := List.eq_nil_of_length_eq_zero (by rw [yl, e0]; rfl)
              subst ex
              exact ⟨[], .nil, (fun _ h => absurd h List.not_mem_nil), fun _ m hm => G.add hm fun a ha => by rw [e0] at ha; cases ha⟩
            · obtain ⟨hs, g, rfl⟩ : ∃ hs g, gs = hs ++ [g] := ⟨gs.dropLast, gs.getLast e0, (List.dropLast_concat_getLast e0).symm⟩
              have gp := G.pos g (List.mem_append_right _ (List.mem_singleton.mpr rfl))
              have gN := (hG g (List.mem_append_right _ (List.mem_singleton.mpr rfl))).nok
              have ef : ∃ fs, flat (hs ++ [g]) = fs ++ [g.1] := by
                refine ⟨flat hs ++ List.replicate (g.2 - 1) g.1, ?_⟩
                rw [flat_app, flat_one, List.append_assoc]
                congr 1
                have : g.2 = (g.2 - 1) + 1 := by omega
                rw [this, List.replicate_succ']
                rfl
              obtain ⟨fs, ef⟩ := ef
              have h4' := h4
              rw [ef, toDs_map, List.map_append, ← toDs_map] at h4'
              obtain ⟨us, y, eu, hU, aY⟩ := AtL.snoc (d := toD g.1) h4'
              subst eu
              rw [cut_em1]
              refine ⟨[toD g.1], .cons aY .nil, fun d hd => by rw [List.mem_singleton.mp hd]; exact ⟨gN.pl, gN.dep⟩, fun hne m hm => G.add hm fun a ha => ?_⟩
              rw [last_one] at ha
              have := Option.some.inj ha
              subst this
              intro z
              exact hne (by rw [z])
          refine w_neL2 (s6 _ _ upd_same) upd_same ((cm.same s56)) (.cons aL7 .nil) (fun d hd => (hzm d hd).1) (fun d hd => by rw [List.mem_singleton.mp hd]; exact nL.pl) (n := 50) (m := 50) (fun d hd => (hzm d hd).2) (fun d hd => by rw [List.mem_singleton.mp hd]; exact nL.dep) (by decide) (by decide) fun c hc => ?_
          walk_at "wp"
          cases c with
          | false =>
            walk_at "wp"
            exact kk _ _ ⟨_, _, _, p, gs, rfl, L7, G, hG, by omega, by omega⟩
          | true =>
            have Gm := hne (hc.mp rfl)
            walk_at "wp"
            refine ⟨t, l, _, rfl, L7.T, by decide, fun r2 H8 l2 u2 G8 => ?_⟩
            replace u2 : r2 < 1499 := u2
            have L8 := L7.go G8
            have aL8 := aL7.go L7.T G8
            obtain ⟨m, em, m1, m2⟩ : ∃ m : Nat, 2 + r2 = (m : Int) ∧ 2 ≤ m ∧ m ≤ 1501 := ⟨(2 + r2).toNat, by omega, by omega, by omega⟩
            walk_at "wp"
            rw [em]
            obtain ⟨xs, ys, h1, h2, h3, h4⟩ := L8.ex
            have xl := L8.size h1
            have yl := h4.len
            rw [toDs_len] at yl
            have hsz : xs.length < sizeLine := szlt (by omega)
            walk_at "wp"
            refine ⟨szle (by show 3 ≤ _; decide), fun q nq => ?_⟩
            have sq := same_new (o := .tup [.str (Str.ofString "run"), .ref q2, .int (m : Int)]) nq
            have hoq := sq _ _ h1
            have aq : At (upd H8 q (.tup [.str (Str.ofString "run"), .ref q2, .int (m : Int)])) (.ref q) (toD (itm (last, m))) := by
              have : itm (last, m) = .run last m := if_pos (show m > 1 by omega)
              rw [this]
              exact mk_run upd_same (aL8.same sq)
            have LL := (L8.same sq).push hoq aq
            have tp : ∀ b zs, upd H8 q (.tup [.str (Str.ofString "run"), .ref q2, .int (m : Int)]) b = some (.tup zs) → upd (upd H8 q (.tup [.str (Str.ofString "run"), .ref q2, .int (m : Int)])) o (.lst (xs ++ [.ref q])) b = some (.tup zs) := fun b zs hb => (upd_ne fun e => by rw [e, hoq] at hb; cases hb).trans hb
            have aL9 := (aL8.same sq).tups tp
            obtain ⟨xs2, ys2, k1, k2, k3, k4⟩ := LL.ex
            have yl2 := k4.len
            rw [toDs_len] at yl2
            walk_at "wp"
            refine ⟨szle (by show 1 ≤ _; decide), fun q8 nq8 => ?_⟩
            have s8 := same_new (o := .lst [.ref q2]) nq8
            walk_at "wp"
            refine ⟨q8, (m : Int), [.ref q2], rfl, rfl, upd_same, by omega, by omega, szle (by rw [Int.toNat_natCast]; show 1 * m ≤ _; omega), fun q9 nq9 => ?_⟩
            rw [Int.toNat_natCast]
            have s9 := same_new (o := .lst (List.replicate m [V.ref q2]).flatten) nq9
            refine w_cat (s9 _ _ (s8 _ _ k2)) upd_same (by rw [PyProof.Rows.lm_len_rep_flat]; show _ + m * 1 ≤ _; omega) fun p2 H2 np2 s2 hp2 => ?_
            have s02 := (s8.trans s9).trans s2
            have free2 := (s8.trans s9).free np2
            have LM := LL.rep k2 s02 free2 hp2 aL9
            walk_at "wp"
            refine kk _ _ ⟨_, _, _, p2, gs ++ [(last, m)], rfl, LM, Gm m (by omega), fun g hg => ?_, by rw [List.length_append, List.length_singleton]; omega, by rw [flat_snoc]; show _ + m ≤ _; omega⟩
            rcases List.mem_append.mp hg with h | h
            · exact hG g h
            · rw [List.mem_singleton.mp h]
              exact gL m (by omega)
        · walk_at "wp"
          exact kk _ _ ⟨_, _, _, p, gs, rfl, L6', G, hG, by omega, by omega⟩
end
theorem all_mk {l : PySem.W.OpenLaw} {w : World} {K : PySem.W.Frag} {h : Heap} {mg : Str → Option Value} {fa : Addr} (X : K.In h) (G : h.Ns mainGlobals mg) (hfa : mg "law" = some (.ref fa))
    {f0 : Addr} {od0 an0 : Option Addr} {sl0 : Array (Option Value)} {oc0 kV0 dc0 pm0 cd0 ct0 : Value}
    (a0 : PySem.W.nsIn K mainGlobals "_law_draw" = some (some (.ref f0))) (l0 : K.lookup f0 = some ⟨oc0, od0, .func (PySem.W.fnOf "_law_draw" "_law_draw" (defArgs s__law_draw) (defBody s__law_draw) (defScope s__law_draw) .none kV0 dc0 pm0 an0 cd0 ct0), sl0⟩) (c0 : PySem.W.codeIn K cd0 "_law_draw" = true) (k0 : PySem.W.keepIn K (.ref f0) = true)
    {f1 : Addr} {od1 an1 : Option Addr} {sl1 : Array (Option Value)} {oc1 kV1 dc1 pm1 cd1 ct1 : Value}
    (a1 : PySem.W.nsIn K mainGlobals "_law_tape" = some (some (.ref f1))) (l1 : K.lookup f1 = some ⟨oc1, od1, .func (PySem.W.fnOf "_law_tape" "_law_tape" (defArgs s__law_tape) (defBody s__law_tape) (defScope s__law_tape) .none kV1 dc1 pm1 an1 cd1 ct1), sl1⟩) (c1 : PySem.W.codeIn K cd1 "_law_tape" = true) (k1 : PySem.W.keepIn K (.ref f1) = true)
    {f2 : Addr} {od2 an2 : Option Addr} {sl2 : Array (Option Value)} {oc2 kV2 dc2 pm2 cd2 ct2 : Value}
    (a2 : PySem.W.nsIn K mainGlobals "_law_alike" = some (some (.ref f2))) (l2 : K.lookup f2 = some ⟨oc2, od2, .func (PySem.W.fnOf "_law_alike" "_law_alike" (defArgs s__law_alike) (defBody s__law_alike) (defScope s__law_alike) .none kV2 dc2 pm2 an2 cd2 ct2), sl2⟩) (c2 : PySem.W.codeIn K cd2 "_law_alike" = true) (k2 : PySem.W.keepIn K (.ref f2) = true)
    {f3 : Addr} {od3 an3 : Option Addr} {sl3 : Array (Option Value)} {oc3 kV3 dc3 pm3 cd3 ct3 : Value}
    (a3 : PySem.W.nsIn K mainGlobals "_law_sign" = some (some (.ref f3))) (l3 : K.lookup f3 = some ⟨oc3, od3, .func (PySem.W.fnOf "_law_sign" "_law_sign" (defArgs s__law_sign) (defBody s__law_sign) (defScope s__law_sign) .none kV3 dc3 pm3 an3 cd3 ct3), sl3⟩) (c3 : PySem.W.codeIn K cd3 "_law_sign" = true) (k3 : PySem.W.keepIn K (.ref f3) = true)
    {f4 : Addr} {od4 an4 : Option Addr} {sl4 : Array (Option Value)} {oc4 kV4 dc4 pm4 cd4 ct4 : Value}
    (a4 : PySem.W.nsIn K mainGlobals "_law_word" = some (some (.ref f4))) (l4 : K.lookup f4 = some ⟨oc4, od4, .func (PySem.W.fnOf "_law_word" "_law_word" (defArgs s__law_word) (defBody s__law_word) (defScope s__law_word) .none kV4 dc4 pm4 an4 cd4 ct4), sl4⟩) (c4 : PySem.W.codeIn K cd4 "_law_word" = true) (k4 : PySem.W.keepIn K (.ref f4) = true)
    {f5 : Addr} {od5 an5 : Option Addr} {sl5 : Array (Option Value)} {oc5 kV5 dc5 pm5 cd5 ct5 : Value}
    (a5 : PySem.W.nsIn K mainGlobals "_law_scalar" = some (some (.ref f5))) (l5 : K.lookup f5 = some ⟨oc5, od5, .func (PySem.W.fnOf "_law_scalar" "_law_scalar" (defArgs s__law_scalar) (defBody s__law_scalar) (defScope s__law_scalar) .none kV5 dc5 pm5 an5 cd5 ct5), sl5⟩) (c5 : PySem.W.codeIn K cd5 "_law_scalar" = true) (k5 : PySem.W.keepIn K (.ref f5) = true)
    {f6 : Addr} {od6 an6 : Option Addr} {sl6 : Array (Option Value)} {oc6 kV6 dc6 pm6 cd6 ct6 : Value}
    (a6 : PySem.W.nsIn K mainGlobals "_law_element" = some (some (.ref f6))) (l6 : K.lookup f6 = some ⟨oc6, od6, .func (PySem.W.fnOf "_law_element" "_law_element" (defArgs s__law_element) (defBody s__law_element) (defScope s__law_element) .none kV6 dc6 pm6 an6 cd6 ct6), sl6⟩) (c6 : PySem.W.codeIn K cd6 "_law_element" = true) (k6 : PySem.W.keepIn K (.ref f6) = true)
    {f7 : Addr} {od7 an7 : Option Addr} {sl7 : Array (Option Value)} {oc7 kV7 dc7 pm7 cd7 ct7 : Value}
    (a7 : PySem.W.nsIn K mainGlobals "_law_near_scalar" = some (some (.ref f7))) (l7 : K.lookup f7 = some ⟨oc7, od7, .func (PySem.W.fnOf "_law_near_scalar" "_law_near_scalar" (defArgs s__law_near_scalar) (defBody s__law_near_scalar) (defScope s__law_near_scalar) .none kV7 dc7 pm7 an7 cd7 ct7), sl7⟩) (c7 : PySem.W.codeIn K cd7 "_law_near_scalar" = true) (k7 : PySem.W.keepIn K (.ref f7) = true)
    {f8 : Addr} {od8 an8 : Option Addr} {sl8 : Array (Option Value)} {oc8 kV8 dc8 pm8 cd8 ct8 : Value}
    (a8 : PySem.W.nsIn K mainGlobals "_law_near" = some (some (.ref f8))) (l8 : K.lookup f8 = some ⟨oc8, od8, .func (PySem.W.fnOf "_law_near" "_law_near" (defArgs s__law_near) (defBody s__law_near) (defScope s__law_near) .none kV8 dc8 pm8 an8 cd8 ct8), sl8⟩) (c8 : PySem.W.codeIn K cd8 "_law_near" = true) (k8 : PySem.W.keepIn K (.ref f8) = true)
    {f9 : Addr} {od9 an9 : Option Addr} {sl9 : Array (Option Value)} {oc9 kV9 dc9 pm9 cd9 ct9 : Value}
    (a9 : PySem.W.nsIn K mainGlobals "_law_base" = some (some (.ref f9))) (l9 : K.lookup f9 = some ⟨oc9, od9, .func (PySem.W.fnOf "_law_base" "_law_base" (defArgs s__law_base) (defBody s__law_base) (defScope s__law_base) .none kV9 dc9 pm9 an9 cd9 ct9), sl9⟩) (c9 : PySem.W.codeIn K cd9 "_law_base" = true) (k9 : PySem.W.keepIn K (.ref f9) = true)
    {f10 : Addr} {od10 an10 : Option Addr} {sl10 : Array (Option Value)} {oc10 kV10 dc10 pm10 cd10 ct10 : Value}
    (a10 : PySem.W.nsIn K mainGlobals "_law_node" = some (some (.ref f10))) (l10 : K.lookup f10 = some ⟨oc10, od10, .func (PySem.W.fnOf "_law_node" "_law_node" (defArgs s__law_node) (defBody s__law_node) (defScope s__law_node) .none kV10 dc10 pm10 an10 cd10 ct10), sl10⟩) (c10 : PySem.W.codeIn K cd10 "_law_node" = true) (k10 : PySem.W.keepIn K (.ref f10) = true)
    {f11 : Addr} {od11 an11 : Option Addr} {sl11 : Array (Option Value)} {oc11 kV11 dc11 pm11 cd11 ct11 : Value}
    (a11 : PySem.W.nsIn K mainGlobals "_law_near_node" = some (some (.ref f11))) (l11 : K.lookup f11 = some ⟨oc11, od11, .func (PySem.W.fnOf "_law_near_node" "_law_near_node" (defArgs s__law_near_node) (defBody s__law_near_node) (defScope s__law_near_node) .none kV11 dc11 pm11 an11 cd11 ct11), sl11⟩) (c11 : PySem.W.codeIn K cd11 "_law_near_node" = true) (k11 : PySem.W.keepIn K (.ref f11) = true)
    {f12 : Addr} {od12 an12 : Option Addr} {sl12 : Array (Option Value)} {oc12 kV12 dc12 pm12 cd12 ct12 : Value}
    (a12 : PySem.W.nsIn K mainGlobals "item_of" = some (some (.ref f12))) (l12 : K.lookup f12 = some ⟨oc12, od12, .func (PySem.W.fnOf "item_of" "item_of" (defArgs s_item_of) (defBody s_item_of) (defScope s_item_of) .none kV12 dc12 pm12 an12 cd12 ct12), sl12⟩) (c12 : PySem.W.codeIn K cd12 "item_of" = true) (k12 : PySem.W.keepIn K (.ref f12) = true)
    {f13 : Addr} {od13 an13 : Option Addr} {sl13 : Array (Option Value)} {oc13 kV13 dc13 pm13 cd13 ct13 : Value}
    (a13 : PySem.W.nsIn K mainGlobals "items_of" = some (some (.ref f13))) (l13 : K.lookup f13 = some ⟨oc13, od13, .func (PySem.W.fnOf "items_of" "items_of" (defArgs s_items_of) (defBody s_items_of) (defScope s_items_of) .none kV13 dc13 pm13 an13 cd13 ct13), sl13⟩) (c13 : PySem.W.codeIn K cd13 "items_of" = true) (k13 : PySem.W.keepIn K (.ref f13) = true)
    {f14 : Addr} {od14 an14 : Option Addr} {sl14 : Array (Option Value)} {oc14 kV14 dc14 pm14 cd14 ct14 : Value}
    (a14 : PySem.W.nsIn K mainGlobals "law" = some (some (.ref f14))) (l14 : K.lookup f14 = some ⟨oc14, od14, .func (PySem.W.fnOf "law" "law" (defArgs s_law) (defBody s_law) (defScope s_law) .none kV14 dc14 pm14 an14 cd14 ct14), sl14⟩) (c14 : PySem.W.codeIn K cd14 "law" = true) (k14 : PySem.W.keepIn K (.ref f14) = true)
    (z_range : PySem.W.nsIn K mainGlobals "range" = some none)
    (z_tuple : PySem.W.nsIn K mainGlobals "tuple" = some none)
    (z_len : PySem.W.nsIn K mainGlobals "len" = some none)
    (z_list : PySem.W.nsIn K mainGlobals "list" = some none)
    (z_int : PySem.W.nsIn K mainGlobals "int" = some none)
    (z_abs : PySem.W.nsIn K mainGlobals "abs" = some none)
    (z_max : PySem.W.nsIn K mainGlobals "max" = some none)
    (z_isinstance : PySem.W.nsIn K mainGlobals "isinstance" = some none)
    (z_str : PySem.W.nsIn K mainGlobals "str" = some none)
    (z_bool : PySem.W.nsIn K mainGlobals "bool" = some none)
    (z_min : PySem.W.nsIn K mainGlobals "min" = some none)
    (z_reversed : PySem.W.nsIn K mainGlobals "reversed" = some none)
    : ∃ fd : FuncData, (∀ (s : Shared) (v : Value), BindsTo s fd ⟨[v], []⟩ [("script", v)]) ∧ ∀ base : Heap, K.In base → base.Ns mainGlobals mg → FnOk l.prog w K mg base CX0 31 fa fd ["script"] (spLaw K) := by
  have e := hfa.symm.trans (PySem.W.mg_of X G a14)
  cases e
  have T : Txt mg := ⟨PySem.W.mg_none_of X G z_range, PySem.W.mg_none_of X G z_tuple, PySem.W.mg_none_of X G z_len, PySem.W.mg_none_of X G z_list, PySem.W.mg_none_of X G z_int, PySem.W.mg_none_of X G z_abs, PySem.W.mg_none_of X G z_max, PySem.W.mg_none_of X G z_isinstance, PySem.W.mg_none_of X G z_str, PySem.W.mg_none_of X G z_bool, PySem.W.mg_none_of X G z_min, PySem.W.mg_none_of X G z_reversed⟩
  have F0 := fun_mk (st := s__law_draw) l0 c0 k0
  have F1 := fun_mk (st := s__law_tape) l1 c1 k1
  have F2 := fun_mk (st := s__law_alike) l2 c2 k2
  have F3 := fun_mk (st := s__law_sign) l3 c3 k3
  have F4 := fun_mk (st := s__law_word) l4 c4 k4
  have F5 := fun_mk (st := s__law_scalar) l5 c5 k5
  have F6 := fun_mk (st := s__law_element) l6 c6 k6
  have F7 := fun_mk (st := s__law_near_scalar) l7 c7 k7
  have F8 := fun_mk (st := s__law_near) l8 c8 k8
  have F9 := fun_mk (st := s__law_base) l9 c9 k9
  have F10 := fun_mk (st := s__law_node) l10 c10 k10
  have F11 := fun_mk (st := s__law_near_node) l11 c11 k11
  have F12 := fun_mk (st := s_item_of) l12 c12 k12
  have F13 := fun_mk (st := s_items_of) l13 c13 k13
  have F14 := fun_mk (st := s_law) l14 c14 k14
  refine ⟨PySem.W.fnOf "law" "law" (defArgs s_law) (defBody s_law) (defScope s_law) .none kV14 dc14 pm14 an14 cd14 ct14, fun s v => .of_eq rfl, fun base _ _ => ?_⟩
  have C__law_draw : Cl l.prog w K mg base 1 "_law_draw" ["tape", "many"] (spDraw) := ⟨f0, _, ok_draw F0 T, PySem.W.mg_of X G a0, k0, F0.binds (ps := ["tape", "many"]) fun _ _ _ _ _ _ us hl => match us, hl with | [_, _], _ => rfl⟩
  have C__law_tape : Cl l.prog w K mg base 1 "_law_tape" ["script"] (spTape K) := ⟨f1, _, ok_tape F1 T, PySem.W.mg_of X G a1, k1, F1.binds (ps := ["script"]) fun _ _ _ _ _ _ us hl => match us, hl with | [_], _ => rfl⟩
  have C__law_alike : Cl l.prog w K mg base 30 "_law_alike" ["told", "due"] (spA 30) := ⟨f2, _, ok_alike F2 T (PySem.W.mg_of X G a2) 30, PySem.W.mg_of X G a2, k2, F2.binds (ps := ["told", "due"]) fun _ _ _ _ _ _ us hl => match us, hl with | [_, _], _ => rfl⟩
  have C__law_sign : Cl l.prog w K mg base 2 "_law_sign" ["tape"] (spSign) := ⟨f3, _, ok_sign F3 T C__law_draw, PySem.W.mg_of X G a3, k3, F3.binds (ps := ["tape"]) fun _ _ _ _ _ _ us hl => match us, hl with | [_], _ => rfl⟩
  have C__law_word : Cl l.prog w K mg base 3 "_law_word" ["tape"] (spWord) := ⟨f4, _, ok_word F4 T C__law_draw C__law_sign, PySem.W.mg_of X G a4, k4, F4.binds (ps := ["tape"]) fun _ _ _ _ _ _ us hl => match us, hl with | [_], _ => rfl⟩
  have C__law_scalar : Cl l.prog w K mg base 4 "_law_scalar" ["tape"] (spScalar) := ⟨f5, _, ok_scalar F5 T C__law_draw C__law_word, PySem.W.mg_of X G a5, k5, F5.binds (ps := ["tape"]) fun _ _ _ _ _ _ us hl => match us, hl with | [_], _ => rfl⟩
  have C__law_element : Cl l.prog w K mg base 5 "_law_element" ["tape"] (spElement) := ⟨f6, _, ok_element F6 T C__law_draw C__law_scalar, PySem.W.mg_of X G a6, k6, F6.binds (ps := ["tape"]) fun _ _ _ _ _ _ us hl => match us, hl with | [_], _ => rfl⟩
  have C__law_near_scalar : Cl l.prog w K mg base 3 "_law_near_scalar" ["tape", "value"] (spNearSc) := ⟨f7, _, ok_nearsc F7 T C__law_draw C__law_sign, PySem.W.mg_of X G a7, k7, F7.binds (ps := ["tape", "value"]) fun _ _ _ _ _ _ us hl => match us, hl with | [_, _], _ => rfl⟩
  have C__law_near : Cl l.prog w K mg base 6 "_law_near" ["tape", "element"] (spNear) := ⟨f8, _, ok_near F8 T C__law_draw C__law_element C__law_near_scalar, PySem.W.mg_of X G a8, k8, F8.binds (ps := ["tape", "element"]) fun _ _ _ _ _ _ us hl => match us, hl with | [_, _], _ => rfl⟩
  have C_nodes := fun D => cl_nodes (P := l.prog) (w := w) (base := base) F9 F10 (PySem.W.mg_of X G a9) (PySem.W.mg_of X G a10) T C__law_draw C__law_element D
  have C_nn := cl_nn (P := l.prog) (w := w) (base := base) F11 T (PySem.W.mg_of X G a11) C__law_draw C__law_near
  have C_item_of : Cl l.prog w K mg base 1 "item_of" ["node", "copies"] (spItem) := ⟨f12, _, ok_item F12 T, PySem.W.mg_of X G a12, k12, F12.binds (ps := ["node", "copies"]) fun _ _ _ _ _ _ us hl => match us, hl with | [_, _], _ => rfl⟩
  have C_items_of : Cl l.prog w K mg base 2 "items_of" ["nodes"] (spIof) := ⟨f13, _, ok_iof F13 T C_item_of, PySem.W.mg_of X G a13, k13, F13.binds (ps := ["nodes"]) fun _ _ _ _ _ _ us hl => match us, hl with | [_], _ => rfl⟩
  exact ok_law F14 T C__law_tape C__law_draw (C_nodes 4).1 (C_nn 10) C_items_of C__law_alike
end Ss
open PySem PySem.W PyProof.Rows
set_option maxHeartbeats 0 in
theorem PySem.Challenge.cw_sameshape_k06_items_are_unique_holds : PySem.Challenge.rw_sameshape_k06_items_are_unique.Holds := by
  w_on; o_law; k_head; (case hw => w_witness2)
  k_fill
  refine L2.walk_of (l := PySem.Challenge.rw_sameshape_k06_items_are_unique) (n := 63) (k := 31) (x := "script") (CX := fun _ => L2.CX0) (sp := fun w => Ss.spLaw _) rfl (by decide) rfl ⟨rfl, by decide, by decide⟩ (fun w h Y => PySem.W.kIn_of Y) ?F (fun _ _ a ns hl _ hS => ⟨a, ns, rfl, hS, hl, fun _ => rfl⟩) (fun _ _ _ _ _ h => h)
  case F =>
    intro w mg fa h KX G hmg
    refine' Ss.all_mk KX G hmg ?a0 ?l0 ?c0 ?k0 ?a1 ?l1 ?c1 ?k1 ?a2 ?l2 ?c2 ?k2 ?a3 ?l3 ?c3 ?k3 ?a4 ?l4 ?c4 ?k4 ?a5 ?l5 ?c5 ?k5 ?a6 ?l6 ?c6 ?k6 ?a7 ?l7 ?c7 ?k7 ?a8 ?l8 ?c8 ?k8 ?a9 ?l9 ?c9 ?k9 ?a10 ?l10 ?c10 ?k10 ?a11 ?l11 ?c11 ?k11 ?a12 ?l12 ?c12 ?k12 ?a13 ?l13 ?c13 ?k13 ?a14 ?l14 ?c14 ?k14 ?z_range ?z_tuple ?z_len ?z_list ?z_int ?z_abs ?z_max ?z_isinstance ?z_str ?z_bool ?z_min ?z_reversed
    (case a0 => k_is); (case l0 => k_is); (case c0 => k_is); (case k0 => k_is); (case a1 => k_is); (case l1 => k_is); (case c1 => k_is); (case k1 => k_is); (case a2 => k_is); (case l2 => k_is); (case c2 => k_is); (case k2 => k_is); (case a3 => k_is); (case l3 => k_is); (case c3 => k_is); (case k3 => k_is); (case a4 => k_is); (case l4 => k_is); (case c4 => k_is); (case k4 => k_is); (case a5 => k_is); (case l5 => k_is); (case c5 => k_is); (case k5 => k_is); (case a6 => k_is); (case l6 => k_is); (case c6 => k_is); (case k6 => k_is); (case a7 => k_is); (case l7 => k_is); (case c7 => k_is); (case k7 => k_is); (case a8 => k_is); (case l8 => k_is); (case c8 => k_is); (case k8 => k_is); (case a9 => k_is); (case l9 => k_is); (case c9 => k_is); (case k9 => k_is); (case a10 => k_is); (case l10 => k_is); (case c10 => k_is); (case k10 => k_is); (case a11 => k_is); (case l11 => k_is); (case c11 => k_is); (case k11 => k_is); (case a12 => k_is); (case l12 => k_is); (case c12 => k_is); (case k12 => k_is); (case a13 => k_is); (case l13 => k_is); (case c13 => k_is); (case k13 => k_is); (case a14 => k_is); (case l14 => k_is); (case c14 => k_is); (case k14 => k_is); (case z_range => k_is); (case z_tuple => k_is); (case z_len => k_is); (case z_list => k_is); (case z_int => k_is); (case z_abs => k_is); (case z_max => k_is); (case z_isinstance => k_is); (case z_str => k_is); (case z_bool => k_is); (case z_min => k_is); (case z_reversed => k_is)
#print axioms PySem.Challenge.cw_sameshape_k06_items_are_unique_holds
